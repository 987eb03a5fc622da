import PyProof.Rows.All
import Wide.All
import OpenK.AllK
import Wide.FinOn
import Lean
import PyProof.EqAt
import PyProof.EqKinds
import PyProof.TupleCall
import PyProof.ExcBaseAll.ValueError
import PyProof.ZipIter
import KE.KIsAll
import KE.KTryMore
import PyProof.ExcArgsOwn
import PyProof.ExcAttrAll.ValueError
import KE.KLam
import KE.KNestM
import PyProof.NsDelKeeps
import PyProof.Rows.CatchPack
import PyProof.ReprRoads
import PyProof.Rows.FStr
import PyProof.ListRange
import PyProof.CollectIter
import KE.KRevSl
import PyProof.ExcInit
import PyProof.ExcClass2
import PyProof.InstStore
import PyProof.InstStoreFacts
import PyProof.InstLoad
import OpenK.KMore
import PyProof.Rows.StrKeys3
import PyProof.MeetsStr
import PyProof.Rows.AttrNodeAny
import PyProof.DictItemsLoops
import PyProof.DictTable
import PyProof.MeetsDictList
import PyProof.DictStraight
import PyProof.DictUpdate
import PyProof.DictRoadsH
import PyProof.DictTruth
import PyProof.DictWalks
import PyProof.AttrMissHeap
import PyProof.ListNew
import KE.KDictOf
import PyProof.MinMaxWalk
import PyProof.StrLawsIn
import PyProof.StrBlock
import PyProof.StrCalls
import PyProof.StrWalks
import PyProof.SliceStr2
import PyProof.MeetsStr2
import KE.KIntText
import PyProof.StrBlock2
import KE.KStrOpen
import PySem.Challenge.RW_lineswitch_k99_desk_rows_that_are_none
set_option Elab.async false
set_option linter.all false
set_option maxRecDepth 100000
abbrev Ax:=@List.prefix_refl
abbrev qa1:=@List.getElem?_eq_some_iff
abbrev A5:=@PySem.Heap.get?_push_of_some
abbrev Au:=@Nat.le_refl
abbrev Bc:=@Nat.lt_of_lt_of_le
abbrev Be:=@List.mem_cons_of_mem
abbrev BK:=@List.getElem?_eq_getElem
abbrev Bf:=@List.mem_cons_self
abbrev AH:=@PySem.Heap.lt_size
abbrev qa9:=@List.mem_cons
abbrev Bl:=@Bool.false_eq_true
abbrev BF:=@List.getElem?_set_ne
abbrev Bs:=@List.size_toArray
abbrev BM:=@PySem.Heap.get?_push_size
abbrev BN:=@Bool.false_ne_true
abbrev B5:=@List.mem_append_right
abbrev Bt:=@List.length_map
abbrev Cw:=@List.getElem?_set_self
abbrev qaI:=@List.all_eq_true
abbrev Bx:=@List.map_cons
abbrev Ca:=@List.length_append
abbrev qaL:=@List.mem_singleton
abbrev BX:=@Bool.and_eq_true
abbrev BG:=@Nat.le_trans
abbrev DJ:=@List.getElem?_append_left
abbrev qaP:=@List.mem_append
abbrev CK:=@List.getElem?_map
abbrev qaR:=@List.mem_map
abbrev CL:=@List.length_cons
abbrev Eh:=@Int.eq_ofNat_of_zero_le
abbrev Cd:=@Nat.ne_of_lt
abbrev Dm:=@List.lookup_cons
abbrev qaW:=@Option.map_eq_some_iff
abbrev DK:=@List.cons_append
abbrev Di:=@Nat.lt_irrefl
abbrev qaZ:=@Bool.eq_iff_iff
abbrev EV:=@List.mem_of_getElem?
abbrev Fj:=@List.take_of_length_le
abbrev Fm:=@List.replicate_succ
abbrev EW:=@List.append_nil
abbrev DL:=@Nat.zero_le
abbrev HU:=@List.getElem?_append_right
abbrev HV:=@List.getD_eq_getElem?_getD
abbrev Fo:=@List.length_drop
abbrev EX:=@PySem.Heap.size_push
abbrev GU:=@List.mem_append_left
abbrev qbA:=@List.nodup_cons
abbrev qbB:=@Option.isSome_iff_exists
abbrev Fp:=@List.nil_append
abbrev qbD:=@Bool.and_eq_true_iff
abbrev FP:=@List.flatten_cons
abbrev GV:=@List.filterMap_cons
abbrev GW:=@List.map_congr_left
abbrev GX:=@List.prefix_append
abbrev EY:=@List.map_map
abbrev Js:=@List.drop_eq_getElem_cons
abbrev Fq:=@Nat.le_of_lt
abbrev GY:=@List.length_take
abbrev HW:=@List.getElem_of_mem
abbrev FQ:=@Bool.not_true
abbrev qbO:=@List.mem_filter
abbrev HX:=@List.zip_cons_cons
abbrev qbQ:=@Bool.eq_false_iff
abbrev HY:=@Nat.le_of_not_lt
abbrev HZ:=@List.getElem_mem
abbrev H0:=@Option.map_some
abbrev GZ:=@Nat.le_of_eq
abbrev LI:=@List.getElem?_replicate
abbrev Jt:=@List.nodup_append
abbrev Ju:=@Nat.le_of_succ_le
abbrev Jv:=@List.flatMap_cons
abbrev LJ:=@PySem.Heap.get?_update_other
abbrev qc0:=@List.filter_eq_nil_iff
abbrev Ia:=@Nat.add_assoc
abbrev LL:=@List.take_append_drop
abbrev Jw:=@List.of_mem_zip
abbrev Jx:=@List.length_set
abbrev Jy:=@List.foldl_cons
abbrev Ib:=@Nat.succ_mul
abbrev Jz:=@Bool.or_eq_true
abbrev JA:=@List.map_append
abbrev LM:=@List.mem_of_mem_drop
abbrev LN:=@List.mem_of_mem_take
abbrev qcB:=@List.mem_range
namespace L2
open PySem PySem.Spec PyProof.Rows
abbrev U0:=Sum Int Str
inductive V where
 |non |bl (b:Bool) |int (i:Int) |str (x:Str) |byt (b:Array UInt8) |flt (b:UInt64) |ref (a:Addr) |ty (n:String)
 deriving DecidableEq
def RelV:V→Value→Prop
 |.non,u=>u=Value.none
 |.bl b,u=>u=Value.bool b
 |.int i,u=>∃t,u=Value.int i t
 |.str x,u=>∃t,u=Value.str x t
 |.byt b,u=>∃t,u=Value.bytes b t
 |.flt b,u=>∃t,u=Value.float b t
 |.ref a,u=>u=Value.ref a
 |.ty n,u=>u=Value.type n
abbrev Vals:List V→List Value→Prop:=Paired RelV
theorem Vals.length {xs:List V} {us:List Value} (r:Vals xs us):xs.length=us.length:=Paired.length r
theorem Vals.get:∀{xs:List V} {us:List Value} {i:Nat} {x:V},Vals xs us→xs[i]?=some x→∃u,us[i]?=some u∧RelV x u
 |_,_,_,_,.nil,e=>by simp at e
 |_,_,0,_,.cons r _,e=>by simp at e;subst e;exact ⟨_,rfl,r⟩
 |_,_,i+1,x,.cons _ t,e=>by
  obtain ⟨u,h1,h2⟩:=Vals.get (i:=i) (x:=x) t (by simpa using e)
  exact ⟨u,by simpa using h1,h2⟩
theorem Vals.set {x:V} {u:Value} (r:RelV x u):∀{xs:List V} {us:List Value} (i:Nat),Vals xs us→Vals (xs.set i x) (us.set i u)
 |_,_,_,.nil=>.nil
 |_,_,0,.cons _ t=>.cons r t
 |_,_,i+1,.cons q t=>.cons q (Vals.set r i t)
theorem Vals.append:∀{xs ys:List V} {us ws:List Value},Vals xs us→Vals ys ws→Vals (xs++ys) (us++ws)
 |_,_,_,_,.nil,s=>s
 |_,_,_,_,.cons r t,s=>.cons r (Vals.append t s)
theorem Vals.take:∀{xs:List V} {us:List Value} (n:Nat),Vals xs us→Vals (xs.take n) (us.take n)
 |_,_,0,_=>.nil
 |_,_,_+1,.nil=>.nil
 |_,_,n+1,.cons r t=>.cons r (Vals.take n t)
theorem Vals.drop:∀{xs:List V} {us:List Value} (n:Nat),Vals xs us→Vals (xs.drop n) (us.drop n)
 |_,_,0,r=>r
 |_,_,_+1,.nil=>.nil
 |_,_,n+1,.cons _ t=>Vals.drop n t
theorem Vals.none_of:∀{xs:List V} {us:List Value} {i:Nat},Vals xs us→xs[i]?=none→us[i]?=none:=fun {xs us i} r e=>by
 have h1:=r.length
 have h2:xs.length≤i:=List.getElem?_eq_none_iff.mp e
 exact List.getElem?_eq_none_iff.mpr (by omega)
def RelO:Option V→Option Value→Prop
 |some v,some u=>RelV v u
 |none,none=>True
 |_,_=>False
def kV:U0→V
 |.inl i=>.int i
 |.inr x=>.str x
inductive HO where
 |lst (xs:List V)
 |tup (xs:List V)
 |ins (C dx:Addr) (fs:List (Str×V))
 |own (x:Addr)
 |xd (fs:List (Str×V))
 |frz (o:Obj) (u:HO)
 |tbl (ps:Array Value)
 |ext (φ:Heap→Prop)
 |mex (φ:Heap→Prop)
 |dct (φ:Heap→Prop)
abbrev Hp:=Addr→Option HO
def Aj (H:Hp) (a:Addr) (o:HO):Hp:=fun b=>if b=a then some o else H b
theorem Cy {H:Hp} {a:Addr} {o:HO}:Aj H a o a=some o:=by unfold Aj;rw [if_pos rfl]
theorem AB {H:Hp} {a b:Addr} {o:HO} (h:b≠a):Aj H a o b=H b:=by unfold Aj;rw [if_neg h]
theorem DY {H:Hp} {a b:Addr} {o:HO} (h:H a=some o) (h':H b=none):a≠b:=by
 intro e;subst e;rw [h] at h';cases h'
section
variable (P:Program) (w:World)
inductive OJ (h:Heap) (a:Addr) (xs:List V):Prop where
 |mk (f1:xs.length≤sizeLine) (its:List Value) (n:Nat) (f2:Vals xs its) (f3:h.get? a=some {cls:=.type "list",data:=.seq its.toArray n}):OJ h a xs
def NoDict (h:Heap) (a:Addr):Prop:=∀o,h.get? a=some o→o.dict=none
inductive LO (h:Heap) (a:Addr) (xs:List V):Prop where
 |mk (f1:xs.length≤sizeLine) (its:List Value) (f2:Vals xs its) (f3:IsTup h a its.toArray) (f4:NoDict h a):LO h a xs
theorem NoDict.new {h:Heap} {o:Obj} (hd:o.dict=none:=by rfl) (hf:o.isFreed=false:=by rfl):NoDict (h.push o) h.objs.size:=fun u e=>by
 rw [BM _ hf] at e
 cases e
 exact hd
inductive OK (H:Hp) (h:Heap) (a C dx:Addr) (fs:List (Str×V)):Prop where
 |mk (f1:H dx=some (.own a)) (f2:fs.length≤1000) (f3:dx≠a) (f4:h.get? a=some (PySem.W.instObj C dx)) (mA:Str→Option Value) (f5:h.Ns1 dx mA) (f6:(∀f,RelO (fs.lookup f) (mA f))∧PySem.Within mA (fs.map (·.1))):OK H h a C dx fs
def ObjOk (P:Program) (w:World) (H:Hp) (h:Heap) (a:Addr):HO→Prop
 |.lst xs=>OJ h a xs
 |.tup xs=>LO h a xs
 |.ins C dx fs=>OK H h a C dx fs
 |.own _=>∃o,h.get? a=some o
 |.xd fs=>∃mA,h.Ns1 a mA∧∀f,RelO (fs.lookup f) (mA f)
 |.frz o u=>h.get? a=some o∧ObjOk P w H h a u
 |.tbl ps=>h.get? a=some {cls:=.none,data:=.fields ps}
 |.ext φ=>φ h∧(∃o,h.get? a=some o)∧∀h1 h2:Heap,φ h1→(∀o,h1.get? a=some o→h2.get? a=some o)→φ h2
 |.mex φ=>φ h∧(∃o,h.get? a=some o)∧∀h1 h2:Heap,φ h1→(∀o,h1.get? a=some o→h2.get? a=some o)→φ h2
 |.dct φ=>φ h∧(∃o,h.get? a=some o)∧∀h1 h2:Heap,φ h1→(∀o,h1.get? a=some o→h2.get? a=some o)→φ h2
def HOk (H:Hp) (h:Heap):Prop:=∀a o,H a=some o→ObjOk P w H h a o
end
section
variable {P:Program} {w:World} {H H':Hp} {h h':Heap} {a:Addr} {o:HO}
theorem ObjOk.lt (x:ObjOk P w H h a o):a<h.objs.size:=by
 cases o with
 |lst xs=>obtain ⟨_,_,_,_,e⟩:=x;exact AH e
 |tup xs=>obtain ⟨_,_,_,p,_⟩:=x;exact p.lt
 |ins C dx fs=>obtain ⟨_,_,_,e,_⟩:=x;exact AH e
 |own y=>obtain ⟨_,e⟩:=x;exact AH e
 |xd fs=>obtain ⟨_,⟨_,_,_,e,_⟩,_⟩:=x;exact AH e
 |frz ob u=>obtain ⟨e,_⟩:=x;exact AH e
 |tbl ps=>exact AH (show h.get? a=some _ from x)
 |ext φ=>obtain ⟨_,⟨_,e⟩,_⟩:=x;exact AH e
 |mex φ=>obtain ⟨_,⟨_,e⟩,_⟩:=x;exact AH e
 |dct φ=>obtain ⟨_,⟨_,e⟩,_⟩:=x;exact AH e
theorem ObjOk.stay (x:ObjOk P w H h a o) (k:∀b u,(b=a∨H b=some (.own a))→h.get? b=some u→h'.get? b=some u)
 (ho:∀b,H b=some (.own a)→H' b=some (.own a)) (ht:∀b xs,H b=some (.tup xs)→H' b=some (.tup xs)):ObjOk P w H' h' a o:=by
 induction o with
 |lst xs=>obtain ⟨z,its,n,r,e⟩:=x;exact ⟨z,its,n,r,k _ _ (.inl rfl) e⟩
 |tup xs=>obtain ⟨z,its,r,⟨ob,e,c⟩,nd⟩:=x;exact ⟨z,its,r,⟨ob,k _ _ (.inl rfl) e,c⟩,fun o e2=>by rw [k _ _ (.inl rfl) e] at e2;cases e2;exact nd _ e⟩
 |ins C dx fs=>
  obtain ⟨d,z,ne,e,mA,⟨od,es,ep,e2,c⟩,r⟩:=x
  exact ⟨ho _ d,z,ne,k _ _ (.inl rfl) e,mA,⟨od,es,ep,k _ _ (.inr d) e2,c⟩,r⟩
 |own y=>obtain ⟨ob,e⟩:=x;exact ⟨ob,k _ _ (.inl rfl) e⟩
 |xd fs=>obtain ⟨mA,⟨od,es,ep,e,c⟩,r⟩:=x;exact ⟨mA,⟨od,es,ep,k _ _ (.inl rfl) e,c⟩,r⟩
 |frz ob u ih=>obtain ⟨e,q⟩:=x;exact ⟨k _ _ (.inl rfl) e,ih q⟩
 |tbl ps=>
  have e:h.get? a=some {cls:=.none,data:=.fields ps}:=x
  show h'.get? a=some {cls:=.none,data:=.fields ps}
  exact k a _ (.inl rfl) e
 |ext φ=>obtain ⟨p,⟨o,e⟩,st⟩:=x;exact ⟨st _ _ p fun o q=>k _ _ (.inl rfl) q,⟨o,k _ _ (.inl rfl) e⟩,st⟩
 |mex φ=>obtain ⟨p,⟨o,e⟩,st⟩:=x;exact ⟨st _ _ p fun o q=>k _ _ (.inl rfl) q,⟨o,k _ _ (.inl rfl) e⟩,st⟩
 |dct φ=>obtain ⟨p,⟨o,e⟩,st⟩:=x;exact ⟨st _ _ p fun o q=>k _ _ (.inl rfl) q,⟨o,k _ _ (.inl rfl) e⟩,st⟩
theorem HOk.lt (x:HOk P w H h) (e:H a=some o):a<h.objs.size:=(x a o e).lt
theorem HOk.fresh (x:HOk P w H h) (e:h.objs.size≤a):H a=none:=by
 cases q:H a with
 |none=>rfl
 |some u=>exact absurd (Bc (x.lt q) e) (Di _)
theorem HOk.kept (x:HOk P w H h) (k:∀b u,h.get? b=some u→h'.get? b=some u):HOk P w H h':=fun a o e=>
 (x a o e).stay (fun b u _ q=>k b u q) (fun _ q=>q) fun _ _ q=>q
theorem HOk.laid (x:HOk P w H h) (k:∀b u,h.get? b=some u→h'.get? b=some u) (hp:h.objs.size≤a) (new:ObjOk P w (Aj H a o) h' a o):HOk P w (Aj H a o) h':=fun b u e=>by
 have hn:=x.fresh hp
 by_cases hb:b=a
 ·subst hb;rw [Cy] at e;cases e;exact new
 ·rw [AB hb] at e
  exact (x b u e).stay (fun c v _ q=>k c v q) (fun c q=>by rw [AB (DY q hn)];exact q) fun c xs q=>by rw [AB (DY q hn)];exact q
end
def Rd (H:Hp) (a:Addr) (u:HO):Prop:=H a=some u∨∃o,H a=some (.frz o u)
theorem Rd.ok {P:Program} {w:World} {H:Hp} {h:Heap} {a:Addr} {u:HO} (r:Rd H a u) (x:HOk P w H h):ObjOk P w H h a u:=by
 rcases r with r |⟨o,r⟩
 ·exact x a u r
 ·obtain ⟨_,q⟩:=x a _ r
  exact q
def JB:Option HO→Prop
 |some (.lst _)=>True
 |some (.ins _ _ _)=>True
 |some (.ext _)=>True
 |some (.mex _)=>True
 |some (.dct _)=>True
 |_=>False
section
variable {P:Program} {w:World} {H:Hp} {h h':Heap} {x e:Addr} {o':HO}
theorem HOk.write (ok:HOk P w H h) (mu:JB (H x)) (he:e=x∨H e=some (.own x)) (k:∀b u,b≠e→h.get? b=some u→h'.get? b=some u) (heo:∃u,h'.get? e=some u)
 (new:ObjOk P w (Aj H x o') h' x o'):HOk P w (Aj H x o') h':=fun b u q=>by
 have nown:∀c y,H c=some (.own y)→c≠x:=fun c y r z=>by subst z;rw [r] at mu;exact mu
 have ntup:∀c xs,H c=some (.tup xs)→c≠x:=fun c xs r z=>by subst z;rw [r] at mu;exact mu
 by_cases hb:b=x
 ·subst hb;rw [Cy] at q;cases q;exact new
 ·rw [AB hb] at q
  by_cases hbe:b=e
  ·have q':H b=some (.own x):=by
    rcases he with z |z
    ·exact absurd (hbe.trans z) hb
    ·rw [hbe];exact z
   rw [q] at q';cases q'
   obtain ⟨v,hv⟩:=heo
   exact ⟨v,by rw [hbe];exact hv⟩
  ·refine (ok b u q).stay (fun c v hc r=>k c v ?_ r) (fun c r=>by rw [AB (nown c b r)];exact r) fun c xs r=>by rw [AB (ntup c xs r)];exact r
   rcases hc with rfl |hc
   ·exact hbe
   ·rintro rfl
    rcases he with z |z
    ·exact nown c b hc z
    ·rw [hc] at z;cases z;exact hb rfl
end
structure Un (fs ex:List Addr) (H H':Hp) (h h':Heap):Prop where
 keep:∀b o,h.get? b=some o→H b=none→b∉fs→b∉ex→h'.get? b=some o
 slot:∀b o,h.get? b=some o→H b=none→b∈fs→b∉ex→∃sl,h'.get? b=some {o with slots:=sl}
 free:∀b o,h.get? b=some o→H b=none→b∉ex→H' b=none
 there:∀b o,h.get? b=some o→b∉ex→∃o',h'.get? b=some o'
 tups:∀b xs,H b=some (.tup xs)→H' b=some (.tup xs)
 frzs:∀b o u,H b=some (.frz o u)→H' b=some (.frz o u)
 tbls:∀b ps,H b=some (.tbl ps)→∃more,H' b=some (.tbl (ps++more))
section
variable {fs fs' ex ex':List Addr} {H H1 H2:Hp} {h h1 h2 h':Heap} {a x e:Addr} {o:HO}
theorem Un.any (u:Un fs ex H H1 h h1) {b:Addr} {ob:Obj} (q:h.get? b=some ob) (n:H b=none) (hx:b∉ex):∃sl,h1.get? b=some {ob with slots:=sl}:=by
 by_cases hb:b∈fs
 ·exact u.slot b ob q n hb hx
 ·exact ⟨ob.slots,u.keep b ob q n hb hx⟩
theorem Un.kept (k:∀b u,h.get? b=some u→h'.get? b=some u):Un fs ex H H h h':=
 ⟨fun b ob q _ _ _=>k b ob q,fun b ob q _ _ _=>⟨ob.slots,k b ob q⟩,fun _ _ _ n _=>n,fun b ob q _=>⟨ob,k b ob q⟩,fun _ _ q=>q,fun _ _ _ q=>q,fun _ ps q=>⟨#[],by rw [q];simp⟩⟩
theorem Un.refl:Un fs ex H H h h:=Un.kept fun _ _ q=>q
theorem Un.laid (k:∀b u,h.get? b=some u→h'.get? b=some u) (hp:h.objs.size≤a) (hn:H a=none):Un fs ex H (Aj H a o) h h' where
 keep:=fun b u q _ _ _=>k b u q
 slot:=fun b u q _ _ _=>⟨u.slots,k b u q⟩
 free:=fun b u q n _=>by rw [AB (Cd (Bc (AH q) hp))];exact n
 there:=fun b u q _=>⟨u,k b u q⟩
 tups:=fun b xs q=>by rw [AB (DY q hn)];exact q
 frzs:=fun b u xs q=>by rw [AB (DY q hn)];exact q
 tbls:=fun b ps q=>⟨#[],by rw [AB (DY q hn),q];simp⟩
theorem Un.write (mu:JB (H x)) (he:e=x∨H e=some (.own x)) (k:∀b u,b≠e→h.get? b=some u→h'.get? b=some u) (heo:∃u,h'.get? e=some u):Un fs ex H (Aj H x o) h h':=by
 have hx:∀b,H b=none→b≠x:=fun b n z=>by subst z;rw [n] at mu;exact mu
 have hb:∀b,H b=none→b≠e:=fun b n z=>by
  subst z
  rcases he with r |r
  ·exact hx b n r
  ·rw [n] at r;cases r
 have hm:∀b u,H b=some u→¬JB (some u)→b≠x:=fun b u q nm z=>by subst z;rw [q] at mu;exact nm mu
 refine ⟨fun b u q n _ _=>k b u (hb b n) q,fun b u q n _ _=>⟨u.slots,k b u (hb b n) q⟩,fun b u q n _=>by rw [AB (hx b n)];exact n,fun b u q _=>?_,
  fun b xs q=>by rw [AB (hm b _ q fun z=>z)];exact q,fun b u xs q=>by rw [AB (hm b _ q fun z=>z)];exact q,fun b ps q=>⟨#[],by rw [AB (hm b _ q fun z=>z),q];simp⟩⟩
 by_cases hbe:b=e
 ·subst hbe;exact heo
 ·exact ⟨u,k b u hbe q⟩
end
def JC (h:Heap) (H:Hp):List Addr:=(List.range h.objs.size).filter fun a=>(H a).isSome
def Ei (h:Heap) (H:Hp):Heap:=PySem.W.hideAll h (JC h H)
theorem U1 (h:Heap) (H:Hp):(Ei h H).objs.size=h.objs.size:=PySem.W.hideAll_size _ _
theorem U2 {h:Heap} {H:Hp} {b:Addr} {o:Obj} (e:h.get? b=some o) (n:H b=none):(Ei h H).get? b=some o:=
 PySem.W.hideAll_get _ e fun hm=>by
  have q:(H b).isSome=true:=(qbO.mp hm).2
  rw [n] at q;simp at q
theorem U3 {h:Heap} {H:Hp} {b:Addr} {o:Obj} (e:(Ei h H).get? b=some o):h.get? b=some o∧H b=none:=by
 have e':h.get? b=some o:=PySem.W.of_hideAll (JC h H) e
 refine ⟨e',?_⟩
 cases q:H b with
 |none=>rfl
 |some x=>
  have hm:b∈JC h H:=qbO.mpr ⟨qcB.mpr (AH e'),by simp [q]⟩
  have z:(Ei h H).get? b=none:=PySem.W.hideAll_none (JC h H) hm
  rw [z] at e;cases e
def U4 (g h:Heap) (L:Addr):List (Addr×Obj):=(List.range h.objs.size).filterMap fun a=>if a=L∨(g.get? a).isSome=true then none else (h.get? a).map fun o=>(a,o)
def rest (g h:Heap) (L d:Addr):List (Addr×Obj):=(U4 g h L).filter fun p=>decide (p.1≠d)
structure Mod (K:PySem.W.Frag) (mg:Str→Option Value) (base:Heap):Prop where
 kin:K.In base
 glob:base.Ns mainGlobals mg
 blt:∃mb,base.Ns builtinsNs mb∧∀x:Str,x≠"__name__"→mb x=bootBuiltins x
 nolimit:base.NoLimit
structure Cx where
 prog:Program
 w:World
 K:PySem.W.Frag
 mg:Str→Option Value
 base:Heap
 A:Around
 N:List Str
 s₀:Shared
 H₀:Hp
 env:Env
 outer:List Env
 stack:List Env
 ex:List Addr
 fn:Str→Bool
 calm:Bool
 pn:List (Addr×Obj)
 xe:Value→Shared→Prop
def frs (l:List Env):List Addr:=l.filterMap (·.frame)
abbrev Cx.fs (X:Cx):List Addr:=frs X.outer
def JD (sc:Scope) (x:Str):Prop:=sc.names.lookup x=some .local∨sc.names.lookup x=some .cell∨sc.names.lookup x=some .free
def Ic (sc:Scope) (x:Str):Prop:=sc.names.lookup x=some .local∨sc.names.lookup x=some .cell
def OL (env:Env) (h:Heap) (m:Str→Option Value) (x:Str) (u:Value):Prop:=
 (env.kindOf x=some .local∧m x=some u)∨((env.kindOf x=some .cell∨env.kindOf x=some .free)∧∃c,env.cells.lookup x=some c∧h.IsCell c (some u))
structure Cx.Ok (X:Cx):Prop where
 mod:Mod X.K X.mg X.base
 kind:X.env.scope.kind=.function
 glob:X.env.globals=mainGlobals
 blt:X.env.builtins=builtinsNs
 above:X.s₀.heap.objs.size≤X.env.locals
 inj:∀x y c,X.env.cells.lookup x=some c→X.env.cells.lookup y=some c→x=y
 has:∀x,(X.env.kindOf x=some .cell∨X.env.kindOf x=some .free)→∃c,X.env.cells.lookup x=some c
 cab:∀x c,X.fn x=true→X.env.cells.lookup x=some c→X.s₀.heap.objs.size≤c
 hd:X.calm=true→X.A.handled=none
 frames:X.A.frames=some X.stack
 stk:X.stack=X.outer∨(X.stack=X.env::X.outer∧X.env.frame=some X.env.locals)
 exf:∀b∈X.ex,b≠X.env.locals∧∀x c,X.env.cells.lookup x=some c→c≠b
 bs:∀b o,X.base.get? b=some o→X.s₀.heap.get? b=some o∧X.H₀ b=none
 bsz:X.base.objs.size≤X.s₀.heap.objs.size
 noex:∀b o,X.base.get? b=some o→b∉X.ex
 exfs:∀b∈X.ex,b∉X.fs
 funs:X.s₀.heap.FunFrames X.base X.outer
 frf:∀b∈X.fs,X.H₀ b=none
structure Inv (X:Cx) (pins:List (Addr×Obj)) (σ:List (Option V)) (H:Hp) (s:Shared):Prop where
 ok:X.Ok
 os:s.os=X.s₀.os
 bare:AllBare s.gens
 base:Un X.fs X.ex X.H₀ H X.s₀.heap s.heap
 loc:∃m,s.heap.Ns X.env.locals m∧∀(i:Nat) (x:Str) (v:V),X.N[i]?=some x→σ[i]?=some (some v)→JD X.env.scope x→∃u,RelV v u∧OL X.env s.heap m x u
 cell:∀x c,X.env.cells.lookup x=some c→∃v,s.heap.IsCell c v
 free:H X.env.locals=none
 freeC:∀x c,X.env.cells.lookup x=some c→H c=none
 pin:∀p∈X.pn++pins,s.heap.get? p.1=some p.2∧H p.1=none∧p.1≠X.env.locals∧p.1∉X.fs∧∀v,p.2.data≠.cell v
 hok:HOk X.prog X.w H s.heap
 len:σ.length=X.N.length
section
variable {X:Cx} {pins:List (Addr×Obj)} {σ:List (Option V)} {H H':Hp} {s:Shared} {h':Heap}
theorem Cx.Ok.nofr (ok:X.Ok) {b:Addr} {o:Obj} (e:X.base.get? b=some o):b∉X.fs:=fun hb=>by
 have:=(ok.funs.mem hb).1
 rw [e] at this;cases this
theorem Inv.bs (I:Inv X pins σ H s):∀b o,X.base.get? b=some o→s.heap.get? b=some o∧H b=none:=fun b o e=>
 ⟨I.base.keep b o (I.ok.bs b o e).1 (I.ok.bs b o e).2 (I.ok.nofr e) (I.ok.noex b o e),I.base.free b o (I.ok.bs b o e).1 (I.ok.bs b o e).2 (I.ok.noex b o e)⟩
theorem Inv.bk (I:Inv X pins σ H s):∀b o,X.base.get? b=some o→s.heap.get? b=some o:=fun b o e=>(I.bs b o e).1
theorem Inv.mod (I:Inv X pins σ H s):Mod X.K X.mg X.base:=I.ok.mod
theorem Inv.kIn (I:Inv X pins σ H s):X.K.In s.heap:=I.ok.mod.kin.keeps I.bk
theorem Inv.nolimit (I:Inv X pins σ H s):s.heap.NoLimit:=I.ok.mod.nolimit.keeps I.bk
theorem Inv.lt (I:Inv X pins σ H s):X.env.locals<s.heap.objs.size:=let ⟨_,hn,_⟩:=I.loc;hn.lt
theorem Inv.sz (I:Inv X pins σ H s):X.s₀.heap.objs.size≤s.heap.objs.size:=BG I.ok.above (Fq I.lt)
theorem Inv.nofs (I:Inv X pins σ H s) {a:Addr} (h:s.heap.objs.size≤a):a∉X.fs:=fun hb=>by
 obtain ⟨_,o,ho,_⟩:=I.ok.funs.mem hb
 exact absurd (Bc (AH ho) (BG I.sz h)) (Di _)
theorem Inv.cne (I:Inv X pins σ H s):∀x c,X.env.cells.lookup x=some c→c≠X.env.locals:=fun x c e z=>by
 obtain ⟨v,o,ho,hd⟩:=I.cell x c e
 obtain ⟨m,⟨o',es,ep,ho',hd',_⟩,_⟩:=I.loc
 rw [z,ho'] at ho;cases ho;rw [hd'] at hd;cases hd
theorem Inv.funs (I:Inv X pins σ H s):s.heap.FunFrames X.base X.outer:=by
 have all:∀(l:List Env),(∀b∈frs l,b∈X.fs)→X.s₀.heap.FunFrames X.base l→s.heap.FunFrames X.base l:=by
  intro l
  induction l with
  |nil=>intro _ _;trivial
  |cons env r ih=>
   intro hs hl
   obtain ⟨hk,⟨L,o,hf,hn,ho,hd⟩,hr⟩:=hl
   have hL:L∈X.fs:=hs L (by unfold frs;rw [GV,hf];exact Bf)
   obtain ⟨sl,e⟩:=I.base.slot L o ho (I.ok.frf L hL) hL fun z=>I.ok.exfs L z hL
   exact ⟨hk,⟨L,_,hf,hn,e,hd⟩,ih (fun b hb=>hs b (by unfold frs;rw [GV,hf];exact Be _ hb)) hr⟩
 exact all X.outer (fun _ hb=>hb) I.ok.funs
theorem Inv.stack (I:Inv X pins σ H s):s.heap.FunFrames X.base X.stack:=by
 rcases I.ok.stk with e |⟨e,hf⟩
 ·rw [e];exact I.funs
 ·rw [e]
  obtain ⟨m,hn,_⟩:=I.loc
  refine .cons (by rw [I.ok.kind];decide) hf hn ?_ I.funs
  exact Heap.get?_none_of_le (BG I.ok.bsz I.ok.above)
theorem Inv.stkSub (I:Inv X pins σ H s):∀b∈frs X.stack,b∈X.env.locals::X.fs:=fun b hb=>by
 rcases I.ok.stk with e |⟨e,hf⟩
 ·rw [e] at hb;exact Be _ hb
 ·rw [e] at hb
  unfold frs at hb
  rw [GV,hf] at hb
  exact hb
theorem Inv.stkFree (I:Inv X pins σ H s):∀b∈frs X.stack,H b=none:=fun b hb=>by
 rcases qa9.mp (I.stkSub b hb) with e |hb
 ·rw [e];exact I.free
 ·obtain ⟨_,o,ho,_⟩:=I.ok.funs.mem hb
  exact I.base.free b o ho (I.ok.frf b hb) fun z=>I.ok.exfs b z hb
theorem Inv.step {g':Array GenState} {t':Nat} {d':Drawn} {ch:List Addr} (I:Inv X pins σ H s)
 (hch:∀b∈ch,(b∈X.ex∨X.s₀.heap.objs.size≤b)∧b≠X.env.locals∧(∀x c,X.env.cells.lookup x=some c→c≠b)∧∀p∈X.pn++pins,p.1≠b)
 (keep:∀b o,b≠X.env.locals→b∉X.fs→b∉ch→s.heap.get? b=some o→H b=none→h'.get? b=some o)
 (slot:∀b o,b≠X.env.locals→b∈X.fs→b∉ch→s.heap.get? b=some o→H b=none→∃sl,h'.get? b=some {o with slots:=sl}) (free:∀b o,b∉ch→s.heap.get? b=some o→H b=none→H' b=none)
 (there:∀b o,b∉ch→s.heap.get? b=some o→∃o',h'.get? b=some o')
 (tups:∀b xs,H b=some (.tup xs)→H' b=some (.tup xs)) (frzs:∀b o u,H b=some (.frz o u)→H' b=some (.frz o u)) (tbls:∀b ps,H b=some (.tbl ps)→∃more,H' b=some (.tbl (ps++more)))
 (ns:∀m,s.heap.Ns X.env.locals m→h'.Ns X.env.locals m) (hok:HOk X.prog X.w H' h') (hg:AllBare g'):
 Inv X pins σ H' {s with heap:=h',gens:=g',drawn:=d',toks:=t'}:=by
 have neL:∀b o,X.s₀.heap.get? b=some o→b≠X.env.locals:=fun b o e=>Cd (Bc (AH e) I.ok.above)
 have neC:∀b o,X.s₀.heap.get? b=some o→b∉X.ex→b∉ch:=fun b o e hx hb=>by
  rcases (hch b hb).1 with z |z
  ·exact hx z
  ·exact absurd (Bc (AH e) z) (Di _)
 have cellK:∀x c,X.env.cells.lookup x=some c→∀v,s.heap.IsCell c v→h'.IsCell c v:=fun x c e v z1_=>by
  obtain ⟨o,ho,hd⟩:=z1_
  have nch:c∉ch:=fun z=>(hch c z).2.2.1 x c e rfl
  by_cases hc:c∈X.fs
  ·obtain ⟨sl,q⟩:=slot c o (I.cne x c e) hc nch ho (I.freeC x c e)
   exact ⟨_,q,hd⟩
  ·exact ⟨o,keep c o (I.cne x c e) hc nch ho (I.freeC x c e),hd⟩
 refine ⟨I.ok,I.os,hg,⟨fun b o e n hb hx=>?_,fun b o e n hb hx=>?_,fun b o e n hx=>?_,fun b o e hx=>?_,fun b xs e=>tups b xs (I.base.tups b xs e),fun b o xs e=>frzs b o xs (I.base.frzs b o xs e),fun b ps e=>?_⟩,?_,fun x c e=>?_,?_,fun x c e=>?_,fun p hp=>?_,hok,I.len⟩
 ·exact keep b o (neL b o e) hb (neC b o e hx) (I.base.keep b o e n hb hx) (I.base.free b o e n hx)
 ·obtain ⟨sl,e1⟩:=I.base.slot b o e n hb hx
  obtain ⟨sl',e2⟩:=slot b _ (neL b o e) hb (neC b o e hx) e1 (I.base.free b o e n hx)
  exact ⟨sl',e2⟩
 ·obtain ⟨o',e1⟩:=I.base.there b o e hx
  exact free b o' (neC b o e hx) e1 (I.base.free b o e n hx)
 ·obtain ⟨o',e1⟩:=I.base.there b o e hx
  exact there b o' (neC b o e hx) e1
 ·obtain ⟨m1,e1⟩:=I.base.tbls b ps e
  obtain ⟨m2,e2⟩:=tbls b _ e1
  exact ⟨m1++m2,by rw [e2,Array.append_assoc]⟩
 ·obtain ⟨m,hn,hl⟩:=I.loc
  refine ⟨m,ns m hn,fun i x v e1 e2 e3=>?_⟩
  obtain ⟨u,r,l⟩:=hl i x v e1 e2 e3
  refine ⟨u,r,?_⟩
  rcases l with l |⟨k,c,e,z⟩
  ·exact .inl l
  ·exact .inr ⟨k,c,e,cellK x c e _ z⟩
 ·obtain ⟨v,z⟩:=I.cell x c e
  exact ⟨v,cellK x c e v z⟩
 ·obtain ⟨m,⟨o,_,_,ho,_⟩,_⟩:=I.loc
  exact free _ o (fun z=>(hch _ z).2.1 rfl) ho I.free
 ·obtain ⟨v,o,ho,hd⟩:=I.cell x c e
  exact free c o (fun z=>(hch c z).2.2.1 x c e rfl) ho (I.freeC x c e)
 ·obtain ⟨e,n,ne,nf,d⟩:=I.pin p hp
  have nch:p.1∉ch:=fun z=>(hch p.1 z).2.2.2 p hp rfl
  exact ⟨keep p.1 p.2 ne nf nch e n,free p.1 p.2 nch e n,ne,nf,d⟩
theorem Inv.un {t':Nat} (I:Inv X pins σ H s) (u:Un X.fs [] H H' s.heap h') (hok:HOk X.prog X.w H' h'):Inv X pins σ H' {s with heap:=h',toks:=t'}:=by
 obtain ⟨m,⟨o,es,ep,ho,r⟩,_⟩:=id I.loc
 obtain ⟨sl,hL⟩:=u.any ho I.free (by simp)
 exact I.step (g':=s.gens) (d':=s.drawn) (ch:=[]) (fun _ z=>nomatch z) (fun b o _ hb _ e n=>u.keep b o e n hb (by simp)) (fun b o _ hb _ e n=>u.slot b o e n hb (by simp)) (fun b o _ e n=>u.free b o e n (by simp)) (fun b o _ e=>u.there b o e (by simp)) u.tups u.frzs u.tbls (fun m' hm=>by
  obtain ⟨o',es',ep',ho',r'⟩:=hm
  rw [ho] at ho';cases ho'
  exact ⟨_,es',ep',hL,r'⟩) hok I.bare
theorem Inv.call {g':Array GenState} {t':Nat} {d':Drawn} {ch:List Addr} (I:Inv X pins σ H s) (u:Un (frs X.stack) ch H H' s.heap h') (hok:HOk X.prog X.w H' h') (hg:AllBare g')
 (hch:∀b∈ch,(b∈X.ex∨X.s₀.heap.objs.size≤b)∧b≠X.env.locals∧(∀x c,X.env.cells.lookup x=some c→c≠b)∧∀p∈X.pn++pins,p.1≠b):
 Inv X pins σ H' {s with heap:=h',gens:=g',drawn:=d',toks:=t'}:=by
 obtain ⟨m,⟨o,es,ep,ho,r⟩,_⟩:=id I.loc
 obtain ⟨sl,hL⟩:=u.any ho I.free fun z=>(hch _ z).2.1 rfl
 exact I.step (ch:=ch) hch (fun b o hL hb hc e n=>u.keep b o e n (fun z=>(qa9.mp (I.stkSub b z)).elim hL hb) hc) (fun b o _ _ hc e n=>u.any e n hc) (fun b o hc e n=>u.free b o e n hc) (fun b o hc e=>u.there b o e hc) u.tups u.frzs u.tbls (fun m' hm=>by
  obtain ⟨o',es',ep',ho',r'⟩:=hm
  rw [ho] at ho';cases ho'
  exact ⟨_,es',ep',hL,r'⟩) hok hg
theorem Inv.turned {t':Nat} {it:Addr} (I:Inv X pins σ H s) (k:∀b o,b≠it→s.heap.get? b=some o→h'.get? b=some o) (hn:H it=none) (hL:it≠X.env.locals)
 (h1:it∈X.ex∨X.s₀.heap.objs.size≤it) (h2:∀x c,X.env.cells.lookup x=some c→c≠it) (h3:∀p∈X.pn++pins,p.1≠it):Inv X pins σ H {s with heap:=h',toks:=t'}:=by
 have nit:∀b u,H b=some u→b≠it:=fun b u e z=>by rw [z,hn] at e;cases e
 refine I.step (g':=s.gens) (d':=s.drawn) (ch:=[it]) (fun b hb=>?_) (fun b o _ _ hc e _=>k b o (fun z=>hc (by simp [z])) e) (fun b o _ _ hc e _=>⟨o.slots,k b o (fun z=>hc (by simp [z])) e⟩) (fun _ _ _ _ n=>n)
  (fun b o hc e=>⟨o,k b o (fun z=>hc (by simp [z])) e⟩) (fun _ _ e=>e) (fun _ _ _ e=>e) (fun b ps e=>⟨#[],by rw [e];simp⟩) (fun m hm=>?_) (fun b u e=>?_) I.bare
 ·have e:b=it:=by simpa using hb
  subst e
  exact ⟨h1,hL,h2,h3⟩
 ·obtain ⟨o,es,ep,ho,r⟩:=hm
  exact ⟨o,es,ep,k _ o (Ne.symm hL) ho,r⟩
 ·refine (I.hok b u e).stay (fun c v hc q=>k c v ?_ q) (fun _ q=>q) fun _ _ q=>q
  rcases hc with z |z
  ·rw [z];exact nit b u e
  ·exact nit c _ z
theorem Inv.tok (I:Inv X pins σ H s) (t:Nat):Inv X pins σ H {s with toks:=t}:=I.un (h':=s.heap) (t':=t) Un.refl I.hok
theorem Inv.kept {t':Nat} (I:Inv X pins σ H s) (k:∀b u,s.heap.get? b=some u→h'.get? b=some u):Inv X pins σ H {s with heap:=h',toks:=t'}:=I.un (Un.kept k) (I.hok.kept k)
theorem Inv.laid {a:Addr} {o:HO} {t':Nat} (I:Inv X pins σ H s) (k:∀b u,s.heap.get? b=some u→h'.get? b=some u) (hp:s.heap.objs.size≤a) (new:ObjOk X.prog X.w (Aj H a o) h' a o):
 Inv X pins σ (Aj H a o) {s with heap:=h',toks:=t'}:=I.un (Un.laid k hp (I.hok.fresh hp)) (I.hok.laid k hp new)
theorem Inv.write {x e:Addr} {o:HO} {t':Nat} (I:Inv X pins σ H s) (mu:JB (H x)) (he:e=x∨H e=some (.own x)) (k:∀b u,b≠e→s.heap.get? b=some u→h'.get? b=some u) (heo:∃u,h'.get? e=some u)
 (new:ObjOk X.prog X.w (Aj H x o) h' x o):Inv X pins σ (Aj H x o) {s with heap:=h',toks:=t'}:=I.un (Un.write mu he k heo) (I.hok.write mu he k heo new)
theorem Inv.weak {σ':List (Option V)} (I:Inv X pins σ H s) (hl:σ'.length=σ.length) (w:∀(i:Nat) v,σ'[i]?=some (some v)→σ[i]?=some (some v)):Inv X pins σ' H s:=
 ⟨I.ok,I.os,I.bare,I.base,let ⟨m,hn,hl'⟩:=I.loc;⟨m,hn,fun i x v e1 e2 e3=>hl' i x v e1 (w i v e2) e3⟩,I.cell,I.free,I.freeC,I.pin,I.hok,hl.trans I.len⟩
theorem Inv.pins_of {pins':List (Addr×Obj)} (I:Inv X pins σ H s) (h:∀p∈pins',s.heap.get? p.1=some p.2∧H p.1=none∧p.1≠X.env.locals∧p.1∉X.fs∧∀v,p.2.data≠.cell v):Inv X pins' σ H s:=
 ⟨I.ok,I.os,I.bare,I.base,I.loc,I.cell,I.free,I.freeC,fun p hp=>(qaP.mp hp).elim (fun z=>I.pin p (GU _ z)) (h p),I.hok,I.len⟩
theorem LP {N:List Str} (hN:N.Nodup) {i j:Nat} {x:Str} (a:N[i]?=some x) (b:N[j]?=some x):i=j:=by
 obtain ⟨h1,e1⟩:=qa1.mp a
 obtain ⟨h2,e2⟩:=qa1.mp b
 exact (List.getElem_inj hN).mp (e1.trans e2.symm)
theorem LQ {M:Model} {A:Around} {E:Value→Shared→Prop} {i:Nat} {x:Str} {v:V} {u:Value} {Q:Unit→Shared→Prop} (I:Inv X pins σ H s) (hN:X.N.Nodup) (hi:X.N[i]?=some x) (hx:Ic X.env.scope x) (r:RelV v u)
 (h:∀s',Inv X pins (σ.set i (some v)) H s'→(∃a,Heap.SameBut a s.heap s'.heap∧(a=X.env.locals∨X.env.cells.lookup x=some a))→Q () s') (hf:X.fn x=true∨X.env.scope.names.lookup x=some .local:=by first |exact .inl rfl |exact .inr rfl |assumption):wpAny M A (storeName X.env x u) Q E s:=by
 obtain ⟨m,hn,hl⟩:=id I.loc
 have hcls:(X.env.scope.kind==.class||(X.env.scope.kind==.module&&X.env.locals != X.env.globals))=false:=by rw [I.ok.kind];rfl
 have hiσ:i < σ.length:=by rw [I.len];exact (qa1.mp hi).1
 have cne:=I.cne
 have tracked:∀{a:Addr} {h':Heap},(∃o,s.heap.get? a=some o∧H a=none)→Heap.SameBut a s.heap h'→HOk X.prog X.w H h':=fun {a h'} ha hs b ob e=>by
  obtain ⟨_,_,hfree⟩:=ha
  refine (I.hok b ob e).stay (fun c w' hc q=>(hs.2 c ?_).trans q) (fun _ q=>q) fun _ _ q=>q
  rintro rfl
  rcases hc with rfl |hc
  ·rw [hfree] at e;cases e
  ·rw [hfree] at hc;cases hc
 rcases hx with hk |hk
 ·refine wpAny_storeName_local hk hn (fun h' hn' hs=>?_) hcls
  obtain ⟨oL,_,_,hoL,_⟩:=id hn
  refine h _ ⟨I.ok,I.os,I.bare,⟨fun b o e n hb hx=>?_,fun b o e n hb hx=>?_,I.base.free,fun b o e hx=>?_,I.base.tups,I.base.frzs,I.base.tbls⟩,⟨_,hn',fun j y v' e1 e2 e3=>?_⟩,fun y c e=>?_,I.free,I.freeC,fun p hp=>?_,tracked ⟨oL,hoL,I.free⟩ hs,by simpa using I.len⟩ ⟨_,hs,.inl rfl⟩
  ·exact (hs.2 b (Cd (Bc (AH e) I.ok.above))).trans (I.base.keep b o e n hb hx)
  ·obtain ⟨sl,e1⟩:=I.base.slot b o e n hb hx
   exact ⟨sl,(hs.2 b (Cd (Bc (AH e) I.ok.above))).trans e1⟩
  ·obtain ⟨o',e1⟩:=I.base.there b o e hx
   exact ⟨o',(hs.2 b (Cd (Bc (AH e) I.ok.above))).trans e1⟩
  ·by_cases hj:j=i
   ·subst hj
    rw [hi] at e1;cases e1
    rw [Cw hiσ] at e2
    cases e2
    exact ⟨u,r,.inl ⟨hk,by simp⟩⟩
   ·rw [BF (Ne.symm hj)] at e2
    obtain ⟨u',r',q⟩:=hl j y v' e1 e2 e3
    refine ⟨u',r',?_⟩
    rcases q with ⟨k,e⟩ |⟨k,c,e,z⟩
    ·refine .inl ⟨k,?_⟩
     have:y≠x:=fun e=>hj (LP hN e1 (e ▸ hi))
     simp [this,e]
    ·exact .inr ⟨k,c,e,z.sameBut hs (cne y c e)⟩
  ·obtain ⟨w',z⟩:=I.cell y c e
   exact ⟨w',z.sameBut hs (cne y c e)⟩
  ·obtain ⟨e,n,ne,nf,d⟩:=I.pin p hp
   exact ⟨(hs.2 p.1 ne).trans e,n,ne,nf,d⟩
 ·have hfn:X.fn x=true:=by
   rcases hf with z |z
   ·exact z
   ·rw [z] at hk;cases hk
  obtain ⟨c,hc⟩:=I.ok.has x (.inl hk)
  obtain ⟨w',z⟩:=I.cell x c hc
  refine wpAny_storeName_cell I.ok.kind hk hc z (fun h' hc' hs=>?_)
  obtain ⟨oc,hoc,hocd⟩:=id z
  refine h {s with heap:=h'} ⟨I.ok,I.os,I.bare,⟨fun b o e n hb hx=>?_,fun b o e n hb hx=>?_,I.base.free,fun b o e hx=>?_,I.base.tups,I.base.frzs,I.base.tbls⟩,⟨m,hn.sameBut hs (Ne.symm (cne x c hc)),fun j y v' e1 e2 e3=>?_⟩,fun y c' e=>?_,I.free,I.freeC,fun p hp=>?_,tracked ⟨oc,hoc,I.freeC x c hc⟩ hs,by simpa using I.len⟩ ⟨c,hs,.inr hc⟩
  ·exact (hs.2 b (Cd (Bc (AH e) (I.ok.cab x c hfn hc)))).trans (I.base.keep b o e n hb hx)
  ·obtain ⟨sl,e1⟩:=I.base.slot b o e n hb hx
   exact ⟨sl,(hs.2 b (Cd (Bc (AH e) (I.ok.cab x c hfn hc)))).trans e1⟩
  ·obtain ⟨o',e1⟩:=I.base.there b o e hx
   exact ⟨o',(hs.2 b (Cd (Bc (AH e) (I.ok.cab x c hfn hc)))).trans e1⟩
  ·by_cases hj:j=i
   ·subst hj
    rw [hi] at e1;cases e1
    rw [Cw hiσ] at e2
    cases e2
    exact ⟨u,r,.inr ⟨.inl hk,c,hc,hc'⟩⟩
   ·rw [BF (Ne.symm hj)] at e2
    obtain ⟨u',r',q⟩:=hl j y v' e1 e2 e3
    refine ⟨u',r',?_⟩
    rcases q with q |⟨k,c',e,z'⟩
    ·exact .inl q
    ·refine .inr ⟨k,c',e,z'.sameBut hs ?_⟩
     rintro rfl
     exact hj (LP hN e1 (I.ok.inj _ _ _ e hc ▸ hi))
  ·by_cases hcc:c'=c
   ·subst hcc;exact ⟨_,hc'⟩
   ·obtain ⟨w2,z2⟩:=I.cell y c' e
    exact ⟨w2,z2.sameBut hs hcc⟩
  ·obtain ⟨e,n,ne,nf,d⟩:=I.pin p hp
   refine ⟨(hs.2 p.1 ?_).trans e,n,ne,nf,d⟩
   intro q
   rw [q,hoc] at e
   have q':oc=p.2:=Option.some.inj e
   exact d w' (by rw [←q'];exact hocd)
theorem JE {M:Model} {A:Around} {E:Value→Shared→Prop} {i:Nat} {x:Str} {v:V} {u:Value} {Q:Unit→Shared→Prop} (I:Inv X pins σ H s) (hN:X.N.Nodup) (hi:X.N[i]?=some x) (hx:Ic X.env.scope x) (r:RelV v u)
 (h:∀s',Inv X pins (σ.set i (some v)) H s'→Q () s') (hf:X.fn x=true∨X.env.scope.names.lookup x=some .local:=by first |exact .inl rfl |exact .inr rfl |assumption):wpAny M A (storeName X.env x u) Q E s:=
 LQ I hN hi hx r (fun s' I' _=>h s' I') hf
theorem Inv.call' {s':Shared} {ch:List Addr} (I:Inv X pins σ H s) (ho:s'.os=s.os) (u:Un (frs X.stack) ch H H' s.heap s'.heap) (hok:HOk X.prog X.w H' s'.heap) (hg:AllBare s'.gens)
 (hch:∀b∈ch,(b∈X.ex∨X.s₀.heap.objs.size≤b)∧b≠X.env.locals∧(∀x c,X.env.cells.lookup x=some c→c≠b)∧∀p∈X.pn++pins,p.1≠b):Inv X pins σ H' s':=by
 obtain ⟨h',g',d',t',o'⟩:=s'
 have e:o'=s.os:=ho
 subst e
 exact I.call (g':=g') (t':=t') (d':=d') u hok hg hch
end
abbrev XK:=Value→Option Addr→Hp→Prop
abbrev St:=List (Option V)
abbrev VK:=V→Hp→Prop
abbrev TE:=St→Hp→VK→Prop
abbrev TT:=St→Hp→(Bool→Hp→Prop)→Prop
abbrev TA:=St→Hp→(List V→Hp→Prop)→Prop
structure DM where
 nx:St→Hp→Prop
 rt:VK
 bk:St→Hp→Prop:=fun _ _=>False
 ct:St→Hp→Prop:=fun _ _=>False
abbrev TS:=DM→St→Hp→Prop
inductive EP (X:Cx) (pins:List (Addr×Obj)) (σ:St) (Q:VK) (u:Value) (s':Shared):Prop where
 |mk (v:V) (H':Hp) (i:Inv X pins σ H' s') (r:RelV v u) (q:Q v H'):EP X pins σ Q u s'
inductive TP (X:Cx) (pins:List (Addr×Obj)) (σ:St) (Q:Bool→Hp→Prop) (b:Bool) (s':Shared):Prop where
 |mk (H':Hp) (i:Inv X pins σ H' s') (q:Q b H'):TP X pins σ Q b s'
inductive AP (X:Cx) (pins:List (Addr×Obj)) (σ:St) (Q:List V→Hp→Prop) (us:List Value) (s':Shared):Prop where
 |mk (vs:List V) (H':Hp) (i:Inv X pins σ H' s') (r:Vals vs us) (q:Q vs H'):AP X pins σ Q us s'
inductive SN (X:Cx) (pins:List (Addr×Obj)) (q:St→Hp→Prop) (s':Shared):Prop where
 |mk (σ':St) (H':Hp) (i:Inv X pins σ' H' s') (p:q σ' H'):SN X pins q s'
inductive SR (X:Cx) (pins:List (Addr×Obj)) (q:V→Hp→Prop) (u:Value) (s':Shared):Prop where
 |mk (v:V) (σ':St) (H':Hp) (i:Inv X pins σ' H' s') (r:RelV v u) (p:q v H'):SR X pins q u s'
def SP (X:Cx) (pins:List (Addr×Obj)) (D:DM) (f:Flow) (s':Shared):Prop:=
 match f with
 |.next=>SN X pins D.nx s'
 |.brk=>SN X pins D.bk s'
 |.cont=>SN X pins D.ct s'
 |.ret u=>SR X pins D.rt u s'
def PE (X:Cx) (e:Expr) (t:TE):Prop:=
 ∀(pins:List (Addr×Obj)) (s:Shared) (σ:St) (H:Hp) (Q:VK),Inv X pins σ H s→t σ H Q→wpAny (model X.prog X.w) X.A (eval e X.env) (EP X pins σ Q) X.xe s
def PT (X:Cx) (e:Expr) (t:TT):Prop:=
 ∀(pins:List (Addr×Obj)) (s:Shared) (σ:St) (H:Hp) (Q:Bool→Hp→Prop),Inv X pins σ H s→t σ H Q→wpAny (model X.prog X.w) X.A (isTrue e X.env (eval e X.env)) (TP X pins σ Q) X.xe s
def PW (X:Cx) (e:Expr) (t:TT):Prop:=
 ∀(EI:Sem Value) (pins:List (Addr×Obj)) (s:Shared) (σ:St) (H:Hp) (Q:Bool→Hp→Prop),Inv X pins σ H s→t σ H Q→wpAny (model X.prog X.w) X.A (isTrue e X.env EI) (TP X pins σ Q) X.xe s
theorem PW.pt {X:Cx} {e:Expr} {t:TT} (h:PW X e t):PT X e t:=h _
def PA (X:Cx) (es:List Expr) (t:TA):Prop:=
 ∀(pos:Pos) (pins:List (Addr×Obj)) (s:Shared) (σ:St) (H:Hp) (Q:List V→Hp→Prop),Inv X pins σ H s→t σ H Q→wpAny (model X.prog X.w) X.A (spliced (backTo pos (starEach es X.env))) (AP X pins σ Q) X.xe s
def PS (X:Cx) (st:Stmt) (t:TS):Prop:=
 ∀(pins:List (Addr×Obj)) (s:Shared) (σ:St) (H:Hp) (D:DM),Inv X pins σ H s→t D σ H→wpAny (model X.prog X.w) X.A (exec st X.env) (SP X pins D) X.xe s
def Do (X:Cx) (st:List Stmt) (t:TS):Prop:=
 ∀(pins:List (Addr×Obj)) (s:Shared) (σ:St) (H:Hp) (D:DM),Inv X pins σ H s→t D σ H→wpAny (model X.prog X.w) X.A (execs st X.env) (SP X pins D) X.xe s
theorem Am {α:Type} {t:Sem α} {Q Q':α→Shared→Prop} {M:Model} {A:Around} {E:Value→Shared→Prop} {s:Shared} (h:wpAny M A t Q E s) (hQ:∀a s,Q a s→Q' a s):wpAny M A t Q' E s:=wpAny_mono h hQ fun _ _ x=>x
section
variable {X:Cx}
def OM (i:Nat):TE:=fun σ H Q=>∃v,σ[i]?=some (some v)∧Q v H
def tC (v:V):TE:=fun _ H Q=>Q v H
theorem LR {i:Nat} {x:Str} {pos:Pos} (hN:X.N[i]?=some x) (hv:JD X.env.scope x) (hd:(x==("__debug__":Str))=false:=by decide) (hcd:(x==("__classdict__":Str))=false:=by decide):PE X (.Name x pos) (OM i):=by
 intro pins s σ H Q I h
 obtain ⟨v,e,h⟩:=h
 obtain ⟨m,hn,hl⟩:=I.loc
 obtain ⟨u,r,l⟩:=hl i x v hN e hv
 have AF:EP X pins σ Q u s:=⟨v,H,I,r,h⟩
 rcases l with ⟨hk,hm⟩ |⟨hk,c,hc,hcell⟩
 ·exact wpAny_Name (wpAny_loadName_local I.ok.kind hk hn hm AF) hd
 ·rcases hk with hk |hk
  ·exact wpAny_Name (wpAny_loadName_cell I.ok.kind hk hc hcell AF) hd
  ·exact wpAny_Name (wpAny_loadName_free I.ok.kind hk hc hcell AF hcd) hd
theorem ON {i j pos}:PE X (.Constant (.int i) j pos) (tC (.int i)):=fun _ _ _ H _ I h=>wpAny_Constant_int ⟨.int i,H,I.tok _,⟨_,rfl⟩,h⟩
theorem U5 {b j pos}:PE X (.Constant (.bool b) j pos) (tC (.bl b)):=fun _ _ _ H _ I h=>Constant_bool ⟨.bl b,H,I,rfl,h⟩
theorem U6 {j pos}:PE X (.Constant .none j pos) (tC .non):=fun _ _ _ H _ I h=>Constant_none ⟨.non,H,I,rfl,h⟩
theorem OO {x j pos}:PE X (.Constant (.str x) j pos) (tC (.str x)):=fun _ _ _ H _ I h=>Calls.Constant_str ⟨.str x,H,I.tok _,⟨_,rfl⟩,h⟩
def Gl (X:Cx) (x:Str):Prop:=X.env.kindOf x=some .globalImplicit
theorem Fs {E:Value→Shared→Prop} {pins:List (Addr×Obj)} {s:Shared} {σ:St} {H:Hp} {x:Str} {u:Value} {pos:Pos} {Q:Value→Shared→Prop} (I:Inv X pins σ H s) (hg:Gl X x) (hm:X.mg x=some u) (h:Q u s)
 (hd:(x==("__debug__":Str))=false:=by decide):wpAny (model X.prog X.w) X.A (eval (.Name x pos) X.env) Q E s:=
 Calls.Name_function_global I.ok.kind hg (Calls.loadGlobal_global (by rw [I.ok.glob];exact I.mod.glob.keeps I.bk) hm h) hd
theorem JF {E:Value→Shared→Prop} {pins:List (Addr×Obj)} {s:Shared} {σ:St} {H:Hp} {x:Str} {u:Value} {pos:Pos} {Q:Value→Shared→Prop} (I:Inv X pins σ H s) (hg:Gl X x) (hm:X.mg x=none) (hv:bootBuiltins x=some u) (h:Q u s)
 (hn:x≠"__name__":=by decide) (hd:(x==("__debug__":Str))=false:=by decide):wpAny (model X.prog X.w) X.A (eval (.Name x pos) X.env) Q E s:=by
 obtain ⟨mb,h1,h2⟩:=I.mod.blt
 exact Calls.Name_function_global I.ok.kind hg (Calls.loadGlobal_builtin (by rw [I.ok.glob];exact I.mod.glob.keeps I.bk) hm (by rw [I.ok.blt];exact h1.keeps I.bk) ((h2 x hn).trans hv) h) hd
theorem LU {x:Str} {v:V} {u:Value} {pos:Pos} (hg:Gl X x) (hm:X.mg x=some u) (r:RelV v u) (hd:(x==("__debug__":Str))=false:=by decide):PE X (.Name x pos) (tC v):=
 fun _ _ _ H _ I h=>Fs I hg hm ⟨v,H,I,r,h⟩ hd
theorem U7 {x:Str} {v:V} {u:Value} {pos:Pos} (hg:Gl X x) (hm:X.mg x=none) (hv:bootBuiltins x=some u) (r:RelV v u) (hn:x≠"__name__":=by decide) (hd:(x==("__debug__":Str))=false:=by decide):PE X (.Name x pos) (tC v):=
 fun _ _ _ H _ I h=>JF I hg hm hv ⟨v,H,I,r,h⟩ hn hd
variable {a b:Expr} {ta tb:TE} {pos:Pos}
variable {tA tB':TT} {rest:List Expr}
def U8 (t u:TT):TT:=fun σ H Q=>t σ H fun c H1=>if c=true then u σ H1 Q else Q false H1
def U9 (t u:TT):TT:=fun σ H Q=>t σ H fun c H1=>if c=true then Q true H1 else u σ H1 Q
def Va (t:TT):TT:=fun σ H Q=>t σ H fun c H1=>Q (!c) H1
theorem Vb (ha:PT X a tA):PW X (.BoolOp .And [a] pos) tA:=by
 intro wh pins s σ H Q I h
 refine isTrue_and (Am (ha pins s σ H Q I h) fun c s1 e=>?_)
 cases c with
 |true=>exact isTrue_and_nil e
 |false=>exact e
theorem Vc (ha:PT X a tA):PW X (.BoolOp .Or [a] pos) tA:=by
 intro wh pins s σ H Q I h
 refine isTrue_or (Am (ha pins s σ H Q I h) fun c s1 e=>?_)
 cases c with
 |false=>exact isTrue_or_nil e
 |true=>exact e
theorem Vd (ha:PT X a tA) (hb:PW X (.BoolOp .And (b::rest) pos) tB'):PW X (.BoolOp .And (a::b::rest) pos) (U8 tA tB'):=by
 intro wh pins s σ H Q I h
 refine isTrue_and (Am (ha pins s σ H _ I h) fun c s1 z8_=>?_)
 obtain ⟨H1,I1,q1⟩:=z8_
 cases c with
 |true=>exact hb wh pins s1 σ H1 Q I1 q1
 |false=>exact ⟨H1,I1,q1⟩
theorem Ve (ha:PT X a tA) (hb:PW X (.BoolOp .Or (b::rest) pos) tB'):PW X (.BoolOp .Or (a::b::rest) pos) (U9 tA tB'):=by
 intro wh pins s σ H Q I h
 refine isTrue_or (Am (ha pins s σ H _ I h) fun c s1 z9_=>?_)
 obtain ⟨H1,I1,q1⟩:=z9_
 cases c with
 |true=>exact ⟨H1,I1,q1⟩
 |false=>exact hb wh pins s1 σ H1 Q I1 q1
theorem Vf (ha:PT X a tA):PT X (.UnaryOp .Not a pos) (Va tA):=by
 intro pins s σ H Q I h
 exact isTrue_not (Am (ha pins s σ H (fun c H1=>Q (!c) H1) I h) fun c s1 z=>by cases z with |mk H1 I1 q=>exact ⟨H1,I1,q⟩)
def Vg (ta tb:TE):TE:=fun σ H Q=>ta σ H fun x H1=>∃c,x=.bl c∧if c=true then tb σ H1 Q else Q (.bl false) H1
def ZeP (ta tb:TE):TE:=fun σ H Q=>ta σ H fun x H1=>∃c,x=.bl c∧if c=true then Q (.bl true) H1 else tb σ H1 Q
def Vh (ta:TE):TE:=fun σ H Q=>ta σ H fun x H1=>∃c,x=.bl c∧Q (.bl (!c)) H1
theorem Vi {op} {t:TE} (h:PE X a t):PE X (.BoolOp op [a] pos) t:=fun pins s σ H Q I hw=>BoolOp_one (h pins s σ H Q I hw)
theorem Vj (ha:PE X a ta) (hb:PE X (.BoolOp .And (b::rest) pos) tb):PE X (.BoolOp .And (a::b::rest) pos) (Vg ta tb):=by
 intro pins s σ H Q I h
 refine BoolOp_and (Am (ha pins s σ H _ I h) fun v s1 z10_=>?_)
 obtain ⟨x,H1,I1,r1,q1⟩:=z10_
 obtain ⟨c,rfl,q1⟩:=q1
 cases r1
 refine wpAny_truthy_bool ?_
 cases c with
 |true=>exact hb pins s1 σ H1 Q I1 q1
 |false=>exact ⟨.bl false,H1,I1,rfl,q1⟩
theorem Vk (ha:PE X a ta):PE X (.UnaryOp .Not a pos) (Vh ta):=by
 intro pins s σ H Q I h
 refine UnaryOp_ (Am (ha pins s σ H _ I h) fun v s1 z12_=>?_)
 obtain ⟨x,H1,I1,r1,q1⟩:=z12_
 obtain ⟨c,rfl,q1⟩:=q1
 cases r1
 exact not_of (wpAny_truthy_bool ⟨.bl (!c),H1,I1,rfl,q1⟩)
def Vl (t:TT) (ta tb:TE):TE:=fun σ H Q=>t σ H fun c H1=>if c=true then ta σ H1 Q else tb σ H1 Q
theorem Vm {c:Expr} (hc:PT X c tA) (ha:PE X a ta) (hb:PE X b tb):PE X (.IfExp c a b pos) (Vl tA ta tb):=by
 intro pins s σ H Q I h
 refine wpAny_IfExp (Am (hc pins s σ H _ I h) fun d s1 z13_=>?_)
 obtain ⟨H1,I1,q1⟩:=z13_
 cases d with
 |true=>exact ha pins s1 σ H1 Q I1 q1
 |false=>exact hb pins s1 σ H1 Q I1 q1
end
def SqL (K:PySem.W.Frag) (H:Hp) (a:Addr) (xs:List V):Prop:=
 Rd H a (.lst xs)∨
  ∃(o:Obj) (its:Array Value) (n:Nat),K.lookup a=some o∧o.cls=.type "list"∧o.dict=none∧o.data=.seq its n∧its.size≤sizeLine∧Vals xs its.toList
def SqT (K:PySem.W.Frag) (H:Hp) (a:Addr) (xs:List V):Prop:=
 Rd H a (.tup xs)∨
  ∃(o:Obj) (its:Array Value) (n:Nat),K.lookup a=some o∧o.cls=.type "tuple"∧o.data=.seq its n∧its.size≤sizeLine∧Vals xs its.toList
def Vn:Value→Option V
 |.none=>some .non
 |.bool b=>some (.bl b)
 |.int i _=>some (.int i)
 |.str x _=>some (.str x)
 |.bytes b _=>some (.byt b)
 |.float b _=>some (.flt b)
 |.ref a=>some (.ref a)
 |.type n=>some (.ty n)
 |_=>none
theorem RelV.abs {x:V} {u:Value} (r:RelV x u):Vn u=some x:=by
 cases x with
 |non=>cases r;rfl
 |bl _=>cases r;rfl
 |int _=>obtain ⟨t,rfl⟩:=r;rfl
 |str _=>obtain ⟨t,rfl⟩:=r;rfl
 |byt _=>obtain ⟨t,rfl⟩:=r;rfl
 |flt _=>obtain ⟨t,rfl⟩:=r;rfl
 |ref _=>cases r;rfl
 |ty _=>cases r;rfl
theorem RelV.inj {x y:V} {u:Value} (r:RelV x u) (q:RelV y u):x=y:=Option.some.inj (r.abs.symm.trans q.abs)
theorem Vals.inj {xs ys:List V} {us:List Value} (h:Vals xs us) (g:Vals ys us):xs=ys:=by
 induction h generalizing ys with
 |nil=>cases g;rfl
 |cons r t ih=>cases g with |cons r' t'=>rw [r.inj r',ih t']
section
variable {X:Cx} {pins:List (Addr×Obj)} {σ:St} {H:Hp} {s:Shared} {a:Addr} {xs ys:List V}
theorem SqL.of {K:PySem.W.Frag} (h:H a=some (.lst xs)):SqL K H a xs:=.inl (.inl h)
theorem SqT.of {K:PySem.W.Frag} (h:H a=some (.tup xs)):SqT K H a xs:=.inl (.inl h)
theorem Inv.list (I:Inv X pins σ H s) (h:SqL X.K H a xs):∃its:List Value,Vals xs its∧PlainL s.heap a its.toArray∧xs.length≤sizeLine:=by
 rcases h with h |⟨o,its,n,hk,hc,hd,hs,hz,r⟩
 ·obtain ⟨z,its,n,r,e⟩:=h.ok I.hok
  exact ⟨its,r,⟨_,n,e,rfl,rfl,rfl⟩,z⟩
 ·refine ⟨its.toList,r,⟨o,n,I.kIn a o hk,hc,hd,by simpa using hs⟩,?_⟩
  have e:=r.length
  simp only [Array.length_toList] at e
  omega
theorem Inv.tuple (I:Inv X pins σ H s) (h:SqT X.K H a xs):∃its:List Value,Vals xs its∧IsTup s.heap a its.toArray∧xs.length≤sizeLine:=by
 rcases h with h |⟨o,its,n,hk,hc,hs,hz,r⟩
 ·obtain ⟨z,its,r,p,_⟩:=h.ok I.hok
  exact ⟨its,r,p,z⟩
 ·refine ⟨its.toList,r,⟨o,I.kIn a o hk,hc,n,by simpa using hs⟩,?_⟩
  have e:=r.length
  simp only [Array.length_toList] at e
  omega
theorem Inv.list_inj (I:Inv X pins σ H s) (h:SqL X.K H a xs) (h':SqL X.K H a ys):xs=ys:=by
 obtain ⟨its,r,⟨o,n,e,_,_,d⟩,_⟩:=I.list h
 obtain ⟨its',r',⟨o',n',e',_,_,d'⟩,_⟩:=I.list h'
 rw [e] at e';cases e'
 rw [d] at d'
 injection d' with d1 _
 have:its=its':=by simpa using congrArg Array.toList d1
 subst this
 exact r.inj r'
theorem Inv.tuple_inj (I:Inv X pins σ H s) (h:SqT X.K H a xs) (h':SqT X.K H a ys):xs=ys:=by
 obtain ⟨its,r,⟨o,e,_,n,d⟩,_⟩:=I.tuple h
 obtain ⟨its',r',⟨o',e',_,n',d'⟩,_⟩:=I.tuple h'
 rw [e] at e';cases e'
 rw [d] at d'
 injection d' with d1 _
 have:its=its':=by simpa using congrArg Array.toList d1
 subst this
 exact r.inj r'
end
section
variable {X:Cx} {pins:List (Addr×Obj)} {σ:St} {H:Hp} {s:Shared} {E:Value→Shared→Prop}
end
section
variable {X:Cx} {st:Stmt} {rest:List Stmt} {t u:TS} {e:Expr} {te:TE} {pos:Pos}
def Vo:TS:=fun D σ H=>D.nx σ H
def Vp (t u:TS):TS:=fun D σ H=>t {D with nx:=u D} σ H
theorem Vq:Do X [] Vo:=fun _ _ σ H _ I h=>wpAny_execs_nil ⟨σ,H,I,h⟩
theorem Vr (h1:PS X st t) (h2:Do X rest u):Do X (st::rest) (Vp t u):=by
 intro pins s σ H D I h
 refine wpAny_execs_cons (Am (h1 pins s σ H {D with nx:=u D} I h) fun f s1 q=>?_)
 cases f with
 |next=>
  obtain ⟨σ',H',I',q⟩:=q
  exact h2 pins s1 σ' H' D I' q
 |ret v=>exact q
 |brk=>exact q
 |cont=>exact q
theorem Vs (h1:PS X st t):Do X [st] t:=by
 intro pins s σ H D I h
 refine wpAny_execs_cons (Am (h1 pins s σ H D I h) fun f s1 q=>?_)
 cases f with
 |next=>exact wpAny_execs_nil q
 |ret v=>exact q
 |brk=>exact q
 |cont=>exact q
theorem Inv.quiet {pins:List (Addr×Obj)} {σ:St} {H:Hp} {s:Shared} (I:Inv X pins σ H s):interactive X.env=false:=by simp [interactive,I.ok.kind]
def Vt (te:TE):TS:=fun D σ H=>te σ H fun _ H1=>D.nx σ H1
theorem Vu (he:PE X e te) (hs:swapsWith e none pos.line X.env=pure false:=by rfl):PS X (.Expr e pos) (Vt te):=by
 intro pins s σ H D I h
 exact wpAny_Expr_any (Am (he pins s σ H _ I h) fun v s1 z16_=>by obtain ⟨x,H1,I1,r1,q1⟩:=z16_;exact (⟨σ,H1,I1,q1⟩)) I.quiet hs
def Vv (te:TE):TS:=fun D σ H=>te σ H D.rt
theorem Vw (he:PE X e te):PS X (.Return (some e) pos) (Vv te):=by
 intro pins s σ H D I h
 exact wpAny_Return_some (Am (he pins s σ H _ I h) fun v s1 z17_=>by obtain ⟨x,H1,I1,r1,q1⟩:=z17_;exact (⟨x,σ,H1,I1,r1,q1⟩))
def Vx (c:TT) (t u:TS):TS:=fun D σ H=>c σ H fun b H1=>if b=true then t D σ H1 else u D σ H1
theorem Vy {c:Expr} {a b:List Stmt} {tc:TT} (hc:PT X c tc) (ha:Do X a t) (hb:Do X b u):PS X (.If c a b pos) (Vx tc t u):=by
 intro pins s σ H D I h
 refine wpAny_If (Am (hc pins s σ H _ I h) fun d s1 z18_=>?_)
 obtain ⟨H1,I1,q1⟩:=z18_
 cases d with
 |true=>exact ha pins s1 σ H1 D I1 q1
 |false=>exact hb pins s1 σ H1 D I1 q1
def OP:TS:=fun _ _ _=>False
theorem Vz:PS X st OP:=fun _ _ _ _ _ _ h=>h.elim
theorem VA {sts:List Stmt}:Do X sts OP:=fun _ _ _ _ _ _ h=>h.elim
end
abbrev TG:=V→St→Hp→(St→Hp→Prop)→Prop
abbrev EZ:=List V→St→Hp→(St→Hp→Prop)→Prop
def PG (X:Cx) (target:Expr) (t:TG):Prop:=
 ∀(pins:List (Addr×Obj)) (s:Shared) (σ:St) (H:Hp) (v:V) (u:Value) (Q:St→Hp→Prop),Inv X pins σ H s→RelV v u→t v σ H Q→
  wpAny (model X.prog X.w) X.A (assign target X.env u) (fun _ s'=>SN X pins Q s') X.xe s
def JG (X:Cx) (ts:List Expr) (t:EZ):Prop:=
 ∀(pins:List (Addr×Obj)) (s:Shared) (σ:St) (H:Hp) (vs:List V) (us:List Value) (Q:St→Hp→Prop),Inv X pins σ H s→Vals vs us→t vs σ H Q→
  wpAny (model X.prog X.w) X.A (assignInOrder ((assignEach ts X.env).map (·.2)) us) (fun _ s'=>SN X pins Q s') X.xe s
abbrev LV:=V→V→V→Hp→(Hp→Prop)→Prop
def OQ (X:Cx) (t:LV):Prop:=
 ∀(pins:List (Addr×Obj)) (s:Shared) (σ:St) (H:Hp) (o i v:V) (ov iv u:Value) (Q:Hp→Prop),Inv X pins σ H s→RelV o ov→RelV i iv→RelV v u→t o i v H Q→
  wpAny (model X.prog X.w) X.A (setItem ov iv u) (fun _ s'=>∃H',Inv X pins σ H' s'∧Q H') X.xe s
section
variable {X:Cx} {pos:Pos}
def Ce (i:Nat):TG:=fun v σ H Q=>Q (σ.set i (some v)) H
theorem FR {i:Nat} {x:Str} (hN:X.N.Nodup) (hi:X.N[i]?=some x) (hx:Ic X.env.scope x) (hf:X.fn x=true∨X.env.scope.names.lookup x=some .local:=by first |exact .inl rfl |exact .inr rfl |assumption):PG X (.Name x pos) (Ce i):=by
 intro pins s σ H v u Q I r h
 exact wpAny_assign_Name (JE I hN hi hx r (fun s' I'=>⟨_,H,I',h⟩) hf)
def Ft:EZ:=fun vs σ H Q=>vs=[]∧Q σ H
def CT (t:TG) (u:EZ):EZ:=fun vs σ H Q=>∃v r,vs=v::r∧t v σ H fun σ' H'=>u r σ' H' Q
theorem OR:JG X [] Ft:=by
 intro pins s σ H vs us Q I r h
 obtain ⟨e,h⟩:=h
 subst e
 cases r
 exact assignInOrder_nil ⟨σ,H,I,h⟩
theorem Ie {e:Expr} {es:List Expr} {t:TG} {u:EZ} (h1:PG X e t) (h2:JG X es u)
 (hs:(assignEach (e::es) X.env).map (·.2)=assign e X.env::(assignEach es X.env).map (·.2):=by rfl):JG X (e::es) (CT t u):=by
 intro pins s σ H vs us Q I r h
 obtain ⟨v,vr,e1,h⟩:=h
 subst e1
 cases r with
 |cons r rr=>
  rw [hs]
  refine assignInOrder_cons (Am (h1 pins s σ H _ _ _ I r h) fun _ s1 z19_=>?_)
  obtain ⟨σ1,H1,I1,q1⟩:=z19_
  exact h2 pins s1 σ1 H1 _ _ Q I1 rr q1
def Fu (K:PySem.W.Frag) (n:Nat) (t:EZ):TG:=fun v σ H Q=>∃a xs,v=.ref a∧SqT K H a xs∧xs.length=n∧t xs σ H Q
theorem OT {es:List Expr} {k:Nat} {t:EZ} {n:Nat} (hc:X.calm=true) (h:JG X es t)
 (hn:(assignEach es X.env).length=n:=by rfl) (hst:(assignEach es X.env).findIdx? (·.1)=none:=by rfl):PG X (.Tuple es k pos) (Fu X.K n t):=by
 intro pins s σ H v u Q I r hw
 obtain ⟨a,xs,e1,hq,hl,hw⟩:=hw
 subst e1
 cases r
 obtain ⟨its,rv,ht,hz⟩:=I.tuple hq
 refine assign_Tuple_tuple (I.ok.hd hc) ht (by simp [hn,←hl,rv.length]) hst fun h' hx=>?_
 have I1:Inv X pins σ H {s with heap:=h'}:=I.kept (t':=s.toks) fun b o e=>hx b o (Cd (AH e)) e
 exact h pins _ σ H xs _ Q I1 (by simpa using rv) hw
def VB (to ti:TE) (t:LV):TG:=fun v σ H Q=>to σ H fun o H1=>ti σ H1 fun i H2=>t o i v H2 fun H3=>Q σ H3
theorem VC {o i:Expr} {to ti:TE} {t:LV} (ho:PE X o to) (hi:PE X i ti) (hs:OQ X t)
 (ha:∀v,assign (.Subscript o i pos) X.env v=(do
  let ov ←holding [v] (eval o X.env)
  let iv ←holding [v,ov] (eval i X.env)
  standAt pos
  holding [v,ov,iv] (setItem ov iv v)
  release [v,ov,iv] []):=by intro _;rfl):PG X (.Subscript o i pos) (VB to ti t):=by
 intro pins s σ H v u Q I r h
 rw [ha]
 refine wpAny_bind (wpAny_holding (Am (ho pins s σ H _ I h) fun ov s1 z20_=>?_))
 obtain ⟨x,H1,I1,r1,q1⟩:=z20_
 refine wpAny_bind (wpAny_holding (Am (hi pins s1 σ H1 _ I1 q1) fun iv s2 z21_=>?_))
 obtain ⟨y,H2,I2,r2,q2⟩:=z21_
 refine wpAny_bind (wpAny_standAt (wpAny_bind (wpAny_holding (Am (hs pins s2 σ H2 x y v ov iv u _ I2 r1 r2 r q2) fun _ s3 z22_=>?_))))
 obtain ⟨H3,I3,q3⟩:=z22_
 exact wpAny_release ⟨σ,H3,I3,q3⟩
def OU (te:TE) (g:TG):TS:=fun D σ H=>te σ H fun x H1=>g x σ H1 D.nx
theorem OV {tg e:Expr} {te:TE} {g:TG} (he:PE X e te) (hg:PG X tg g) (hs:swapsWithSole [tg] e pos.line X.env=pure false:=by rfl) (hw:swappedStores [tg] e X.env=pure none:=by rfl)
 (h1:(assignEach [tg] X.env).map (·.2)=[assign tg X.env]:=by rfl):PS X (.Assign [tg] e pos) (OU te g):=by
 intro pins s σ H D I h
 refine wpAny_Assign_stores (Am (he pins s σ H _ I h) fun v s1 z23_=>?_) hs hw
 obtain ⟨x,H1,I1,r1,q1⟩:=z23_
 rw [h1]
 exact Am (hg pins s1 σ H1 x v _ I1 r1 q1) fun _ s2 q=>q
theorem VD {i:Nat} {x:Str} {e:Expr} {te:TE} {pos':Pos} (hN:X.N.Nodup) (hi:X.N[i]?=some x) (hx:Ic X.env.scope x) (he:PE X e te) (hs:swapsWith e (some (.Name x pos')) pos.line X.env=pure false:=by rfl) (hf:X.fn x=true∨X.env.scope.names.lookup x=some .local:=by first |exact .inl rfl |exact .inr rfl |assumption):
 PS X (.Assign [.Name x pos'] e pos) (OU te (Ce i)):=by
 intro pins s σ H D I h
 refine wpAny_Assign_Name (Am (he pins s σ H _ I h) fun v s1 z24_=>?_) hs
 obtain ⟨y,H1,I1,r1,q1⟩:=z24_
 exact JE I1 hN hi hx r1 (fun s2 I2=>⟨_,H1,I2,q1⟩) hf
def VE (i j:Nat) (ta:TA):TS:=fun D σ H=>ta σ H fun vs H1=>∃v w,vs=[v,w]∧D.nx ((σ.set i (some v)).set j (some w)) H1
theorem VF {i j:Nat} {x y:Str} {a b:Expr} {ta:TA} {px py pt:Pos} {kt k2 pt2} (hc:X.calm=true) (hN:X.N.Nodup) (hi:X.N[i]?=some x) (hj:X.N[j]?=some y) (hij:i≠j)
 (hx:X.env.scope.names.lookup x=some .local) (hy:X.env.scope.names.lookup y=some .local) (ha:PA X [a,b] ta)
 (hw:swappedStores [.Tuple [.Name x px,.Name y py] kt pt] (.Tuple [a,b] k2 pt2) X.env=pure (some [x,y]))
 (hs:swapsWithSole [.Tuple [.Name x px,.Name y py] kt pt] (.Tuple [a,b] k2 pt2) pos.line X.env=pure false:=by rfl):
 PS X (.Assign [.Tuple [.Name x px,.Name y py] kt pt] (.Tuple [a,b] k2 pt2) pos) (VE i j ta):=by
 intro pins s σ H D I h
 rw [exec_Assign_arm]
 refine wpAny_bind (wpAny_standAt ?_)
 rw [hs]
 refine wpAny_bind (wpAny_pure ?_)
 rw [if_neg (by decide)]
 refine wpAny_bind (Tuple_ (Am (ha _ pins s σ H _ I h) fun us s1 z25_=>?_))
 obtain ⟨vs,H1,I1,r1,q1⟩:=z25_
 obtain ⟨v,w,e1,q1⟩:=q1
 subst e1
 obtain ⟨u1,u2,rfl,rv,rw'⟩:∃u1 u2,us=[u1,u2]∧RelV v u1∧RelV w u2:=by
  cases r1 with
  |cons p q=>
   cases q with
   |cons p' q'=>
    cases q'
    exact ⟨_,_,rfl,p,p'⟩
 refine wpAny_newObj_type ?_ (by show 2≤sizeLine;decide)
 have I2:Inv X pins σ H1 {s1 with heap:=s1.heap.push {cls:=.type "tuple",data:=.seq [u1,u2].toArray}}:=I1.kept (t':=s1.toks) fun b o e=>A5 _ e
 rw [hw]
 refine wpAny_bind (wpAny_pure ?_)
 show wpAny (model X.prog X.w) X.A (do rule "assign.swapped-stores";let items ←unpackItems (.ref s1.heap.objs.size) 2 none;assignInOrder [fun v=>bindName X.env y v,fun v=>bindName X.env x v] items.reverse;pure Flow.next) _ _ _
 refine wpAny_bind (wpAny_rule (wpAny_bind (unpackItems_tuple (items:=#[u1,u2]) (I.ok.hd hc) (IsTup.new s1.heap _) fun h' hx'=>?_)))
 have I3:=I2.kept (h':=h') (t':=s1.toks) fun b o e=>hx' b o (Cd (AH e)) e
 show wpAny _ _ (assignInOrder [fun v=>bindName X.env y v,fun v=>bindName X.env x v] [u2,u1] >>=fun _=>pure Flow.next) _ _ _
 refine wpAny_bind (assignInOrder_cons (wpAny_bindName (JE I3 hN hj (.inl hy) rw' (fun s2 I4=>?_) (.inr hy))))
 refine assignInOrder_cons (wpAny_bindName (JE I4 hN hi (.inl hx) rv (fun s3 I5=>assignInOrder_nil (wpAny_pure ?_)) (.inr hx)))
 rw [List.set_comm _ _ (Ne.symm hij)] at I5
 exact ⟨_,H1,I5,q1⟩
end
section
variable {X:Cx} {pos:Pos}
end
structure It where
 go:Nat→Hp→Prop
 yld:Nat→Hp→V→Hp→Prop
 stop:Nat→Hp→Prop
def E3 (X:Cx) (pins:List (Addr×Obj)) (H:Hp) (b:Addr):Prop:=
 H b=none∧b≠X.env.locals∧b∉X.fs∧(b∈X.ex∨X.s₀.heap.objs.size≤b)∧(∀x c,X.env.cells.lookup x=some c→c≠b)∧∀p∈X.pn++pins,p.1≠b
theorem Inv.fpOk {X:Cx} {pins:List (Addr×Obj)} {σ:St} {H H':Hp} {s:Shared} {b:Addr} (I:Inv X pins σ H s) (hb:s.heap.objs.size≤b) (hn:H' b=none):E3 X pins H' b:=by
 refine ⟨hn,Nat.ne_of_gt (Bc I.lt hb),I.nofs hb,.inr (BG I.sz hb),fun x c e z=>?_,fun p hp z=>?_⟩
 ·obtain ⟨v,q⟩:=I.cell x c e
  exact absurd (Bc q.lt (by rw [z];exact hb)) (Di _)
 ·exact absurd (Bc (AH (I.pin p hp).1) (by rw [z];exact hb)) (Di _)
structure Ig (P:Program) (w:World) (K:PySem.W.Frag) (tg:Expr) (J:It) (fp:List Addr) (it:Addr) (tn:Nat→Heap→Prop):Prop where
 mem:it∈fp
 obj:∀i h,tn i h→∀b∈fp,∃o,h.get? b=some o∧∀v,o.data≠.cell v
 keep:∀i h h',tn i h→(∀b∈fp,∀o,h.get? b=some o→h'.get? b=some o)→tn i h'
 item:∀(X:Cx),X.prog=P→X.w=w→X.K=K→X.calm=true→∀(i:Nat) (pins:List (Addr×Obj)) (s:Shared) (σ:St) (H:Hp) (E:Value→Shared→Prop),Inv X pins σ H s→(∀b∈fp,E3 X pins H b)→tn i s.heap→J.go i H→
  wpAny (model P w) X.A (pyNext (.ref it)) (fun r s1=>∃u,r=some u∧
   wpAny (model P w) X.A (letOwnedTupleGo tg (.ref it) u) (fun _ s2=>∃x H',Inv X pins σ H' s2∧RelV x u∧J.yld i H x H'∧tn (i+1) s2.heap∧∀b∈fp,H' b=none) E s1) E s
 done:∀(X:Cx),X.prog=P→X.w=w→X.K=K→X.calm=true→∀(i:Nat) (pins:List (Addr×Obj)) (s:Shared) (σ:St) (H:Hp) (E:Value→Shared→Prop),Inv X pins σ H s→(∀b∈fp,E3 X pins H b)→tn i s.heap→J.stop i H→
  wpAny (model P w) X.A (pyNext (.ref it)) (fun r s1=>r=none∧Inv X pins σ H s1) E s
 self:∀(A:Around) (i:Nat) (s:Shared) (Q:Value→Shared→Prop) (E:Value→Shared→Prop),tn i s.heap→Q (.ref it) s→wpAny (model P w) A (pyIter (.ref it)) Q E s
abbrev TI:=St→Hp→(It→Hp→Prop)→Prop
inductive JH (X:Cx) (pins:List (Addr×Obj)) (σ:St) (tg:Expr) (R:It→Hp→Prop) (itv:Value) (s2:Shared):Prop where
 |mk (it:Addr) (fp:List Addr) (tn:Nat→Heap→Prop) (J:It) (H':Hp) (e:itv=.ref it) (i:Inv X pins σ H' s2) (t:Ig X.prog X.w X.K tg J fp it tn) (st:tn 0 s2.heap) (f:∀b∈fp,E3 X pins H' b) (r:R J H'):JH X pins σ tg R itv s2
def PI (X:Cx) (tg iter:Expr) (wi:TI):Prop:=
 ∀(pins:List (Addr×Obj)) (s:Shared) (σ:St) (H:Hp) (R:It→Hp→Prop),Inv X pins σ H s→wi σ H R→
  wpAny (model X.prog X.w) X.A (eval iter X.env) (fun v s1=>wpAny (model X.prog X.w) X.A (pyIter v) (JH X pins σ tg R) X.xe s1) X.xe s
theorem JI {M:Model} {A:Around} {E:Value→Shared→Prop} {s:Shared} {tg:Expr} {it:Addr} {u:Value} {o:Obj} {n:String} {vs:Array Value} {Q:Unit→Shared→Prop} (ho:s.heap.get? it=some o) (hc:o.cls=.type n) (hd:o.data=.fields vs)
 (hn:["enumerate","zip","dict_itemiterator","dict_reverseitemiterator","odict_iterator","itertools.zip_longest","itertools.pairwise"].contains n=false) (hQ:Q () s):wpAny M A (letOwnedTupleGo tg (.ref it) u) Q E s:=by
 unfold letOwnedTupleGo
 cases tg<;>first
  |exact wpAny_pure hQ
  |(cases u<;>first
   |exact wpAny_pure hQ
   |(refine wpAny_bind (wpAny_load ho ?_)
     rw [hc,hd]
     show wpAny M A (if (["enumerate","zip","dict_itemiterator","dict_reverseitemiterator","odict_iterator","itertools.zip_longest","itertools.pairwise"].contains n&&vs[0]?==some (rawInt _))=true then _ else _) Q E s
     rw [if_neg (by intro h;rw [hn,Bool.false_and] at h;cases h)]
     exact wpAny_pure hQ))
def Ih (K:PySem.W.Frag) (a:Addr):It:=
 ⟨fun i H=>∃xs x,SqL K H a xs∧xs[i]?=some x,fun i H x H'=>H'=H∧∀xs,SqL K H a xs→xs[i]?=some x,fun i H=>∃xs,SqL K H a xs∧xs.length≤i⟩
def Ii (K:PySem.W.Frag) (a:Addr):It:=
 ⟨fun i H=>∃xs x,SqT K H a xs∧xs[i]?=some x,fun i H x H'=>H'=H∧∀xs,SqT K H a xs→xs[i]?=some x,fun i H=>∃xs,SqT K H a xs∧xs.length≤i⟩
def JJ (lo:Int) (n:Nat):It:=⟨fun i _=>i<n,fun i H x H'=>H'=H∧x=.int (lo+i),fun i _=>n≤i⟩
theorem VG {P:Program} {w:World} {K:PySem.W.Frag} {tg:Expr} (a it:Addr):Ig P w K tg (Ih K a) [it] it (fun i h=>h.IsListIter it a i) where
 mem:=by simp
 obj:=fun i h st b hb=>by
  have e:b=it:=by simpa using hb
  subst e
  obtain ⟨o,e,c,d⟩:=st
  exact ⟨o,e,fun v z=>by rw [d] at z;cases z⟩
 keep:=fun i h h' st k=>st.at fun o e=>k it (by simp) o e
 item:=by
  intro X hP hw hK hc i pins s σ H E I hf st hg
  subst hP hw hK
  obtain ⟨xs,x,hq,hx⟩:=hg
  obtain ⟨its,rv,p,hz⟩:=I.list hq
  obtain ⟨u,hu,ru⟩:=rv.get hx
  obtain ⟨f0,f1,f2,f3,f4,f5⟩:=hf it (by simp)
  refine wpAny_pyNext_list_item st p.isList (x:=u) (by simpa using hu) fun h' st' sb=>?_
  have I1:Inv X pins σ H {s with heap:=h'}:=I.turned (t':=s.toks) (fun b o hb e=>(sb.2 b hb).trans e) f0 f1 f3 f4 f5
  obtain ⟨o,e,c,d⟩:=id st'
  exact ⟨u,rfl,JI (s:={s with heap:=h'}) e c d (by decide) ⟨x,H,I1,ru,⟨rfl,fun ys hy=>by rw [I.list_inj hy hq];exact hx⟩,st',fun b hb=>(hf b hb).1⟩⟩
 done:=by
  intro X hP hw hK hc i pins s σ H E I hf st hg
  subst hP hw hK
  obtain ⟨xs,hq,hx⟩:=hg
  obtain ⟨its,rv,p,hz⟩:=I.list hq
  obtain ⟨f0,f1,f2,f3,f4,f5⟩:=hf it (by simp)
  have hl:=rv.length
  exact wpAny_pyNext_list_end (I.ok.hd hc) st p.isList (by simp;omega) fun h' eb=>⟨rfl,I.turned (t':=s.toks) (fun b o hb e=>eb b o hb e) f0 f1 f3 f4 f5⟩
 self:=fun _ _ _ _ _ st h=>wpAny_pyIter_listiter st h
theorem VH {P:Program} {w:World} {K:PySem.W.Frag} {tg:Expr} (a it:Addr):Ig P w K tg (Ii K a) [it] it (fun i h=>h.IsTupleIter it a i) where
 mem:=by simp
 obj:=fun i h st b hb=>by
  have e:b=it:=by simpa using hb
  subst e
  obtain ⟨o,e,c,d⟩:=st
  exact ⟨o,e,fun v z=>by rw [d] at z;cases z⟩
 keep:=fun i h h' st k=>st.at fun o e=>k it (by simp) o e
 item:=by
  intro X hP hw hK hc i pins s σ H E I hf st hg
  subst hP hw hK
  obtain ⟨xs,x,hq,hx⟩:=hg
  obtain ⟨its,rv,p,hz⟩:=I.tuple hq
  obtain ⟨u,hu,ru⟩:=rv.get hx
  obtain ⟨f0,f1,f2,f3,f4,f5⟩:=hf it (by simp)
  refine wpAny_pyNext_tuple_item st (show s.heap.IsTuple a its.toArray from p) (x:=u) (by simpa using hu) fun h' st' sb=>?_
  have I1:Inv X pins σ H {s with heap:=h'}:=I.turned (t':=s.toks) (fun b o hb e=>(sb.2 b hb).trans e) f0 f1 f3 f4 f5
  obtain ⟨o,e,c,d⟩:=id st'
  exact ⟨u,rfl,JI (s:={s with heap:=h'}) e c d (by decide) ⟨x,H,I1,ru,⟨rfl,fun ys hy=>by rw [I.tuple_inj hy hq];exact hx⟩,st',fun b hb=>(hf b hb).1⟩⟩
 done:=by
  intro X hP hw hK hc i pins s σ H E I hf st hg
  subst hP hw hK
  obtain ⟨xs,hq,hx⟩:=hg
  obtain ⟨its,rv,p,hz⟩:=I.tuple hq
  obtain ⟨f0,f1,f2,f3,f4,f5⟩:=hf it (by simp)
  have hl:=rv.length
  exact wpAny_pyNext_tuple_end (I.ok.hd hc) st (show s.heap.IsTuple a its.toArray from p) (by simp;omega) fun h' eb=>⟨rfl,I.turned (t':=s.toks) (fun b o hb e=>eb b o hb e) f0 f1 f3 f4 f5⟩
 self:=fun _ _ _ _ _ st h=>wpAny_pyIter_tupleiter st h
theorem VI {P:Program} {w:World} {K:PySem.W.Frag} {tg:Expr} (it:Addr) (lo:Int) (n:Nat):Ig P w K tg (JJ lo n) [it] it (fun i h=>IsRangeIter h it (lo+(i:Nat)*1) ((n:Int) - (i:Nat)) 1) where
 mem:=by simp
 obj:=fun i h st b hb=>by
  have e:b=it:=by simpa using hb
  subst e
  exact ⟨_,st,fun v z=>by
   have z':Data.fields _=Data.cell v:=z
   cases z'⟩
 keep:=fun i h h' st k=>k it (by simp) _ st
 item:=by
  intro X hP hw hK hc i pins s σ H E I hf st hg
  subst hP hw hK
  obtain ⟨f0,f1,f2,f3,f4,f5⟩:=hf it (by simp)
  have W:=Walks.range (prog:=X.prog) (w:=X.w) (I.ok.hd hc) it lo 1 n
  refine W.item i s _ _ hg st fun v h' tk hv st' kk=>?_
  obtain ⟨t,rfl⟩:=hv
  have I1:Inv X pins σ H {s with heap:=h',toks:=tk}:=I.turned (fun b o hb e=>kk b o (by simpa using hb) e) f0 f1 f3 f4 f5
  refine ⟨_,rfl,JI (s:={s with heap:=h',toks:=tk}) (n:="range_iterator") st' rfl rfl (by decide) ⟨.int (lo+i),H,I1,⟨t,?_⟩,⟨rfl,rfl⟩,st',fun b hb=>(hf b hb).1⟩⟩
  rw [Int.mul_one]
 done:=by
  intro X hP hw hK hc i pins s σ H E I hf st hg
  subst hP hw hK
  obtain ⟨f0,f1,f2,f3,f4,f5⟩:=hf it (by simp)
  exact wpAny_pyNext_range_end (I.ok.hd hc) st (by have:n≤i:=hg;omega) fun h' eb=>⟨rfl,I.turned (t':=s.toks) (fun b o hb e=>eb b o hb e) f0 f1 f3 f4 f5⟩
 self:=fun _ _ _ _ _ st h=>wpAny_pyIter_rangeiter st h
section
variable {X:Cx} {tg:Expr}
theorem VJ {pins:List (Addr×Obj)} {σ:St} {H:Hp} {s:Shared} {R:It→Hp→Prop} {E:Value→Shared→Prop} {lo hi:Int} {t u v:Tok} {tk:Nat} (I:Inv X pins σ H s) (h1:-(2^62)≤lo) (h2:lo<2^62) (h3:-(2^62)≤hi) (h4:hi<2^62)
 (q:R (JJ lo (hi - lo).toNat) H):wpAny (model X.prog X.w) X.A (pyIter (.ref s.heap.objs.size)) (JH X pins σ tg R) E {s with heap:=s.heap.push {cls:=.type "range",data:=.fields #[.int lo t,.int hi u,.int 1 v]},toks:=tk}:=by
 refine wpAny_pyIter_range (IsRange.new ..) (small_one h1 h2 h3 h4) ?_
 have I1:Inv X pins σ H {s with heap:=s.heap.push {cls:=.type "range",data:=.fields #[.int lo t,.int hi u,.int 1 v]},toks:=tk}:=I.kept fun b o e=>A5 _ e
 refine ⟨(s.heap.push {cls:=.type "range",data:=.fields #[.int lo t,.int hi u,.int 1 v]}).objs.size,[(s.heap.push {cls:=.type "range",data:=.fields #[.int lo t,.int hi u,.int 1 v]}).objs.size],_,_,H,rfl,
  I1.kept (t':=tk) fun b o e=>A5 _ e,VI _ lo (hi - lo).toNat,?_,fun b hb=>?_,q⟩
 ·have e1:lo+((0:Nat):Int)*1=lo:=by simp
  have e2:(((hi - lo).toNat:Nat):Int) - ((0:Nat):Int)=Builtin.Range.rangeSize lo hi 1:=by rw [rangeSize_one];split<;>omega
  show IsRangeIter _ _ (lo+((0:Nat):Int)*1) ((((hi - lo).toNat:Nat):Int) - ((0:Nat):Int)) 1
  rw [e1,e2]
  exact BM _ rfl
 ·have e:b=(s.heap.push {cls:=.type "range",data:=.fields #[.int lo t,.int hi u,.int 1 v]}).objs.size:=by simpa using hb
  subst e
  exact I1.fpOk (Au _) (I1.hok.fresh (Au _))
def VL (ta:TA):TI:=fun σ H R=>ta σ H fun vs H1=>∃j:Int,vs=[.int j]∧-(2^62)≤j∧j<2^62∧R (JJ 0 j.toNat) H1
theorem VM {a:Expr} {ta:TA} {p pos:Pos} (hg:Gl X "range") (hm:X.mg "range"=none) (ha:PA X [a] ta) (hs:starEach [a] X.env=[(false,eval a X.env)]:=by rfl):PI X tg (.Call (.Name "range" p) [a] [] pos) (VL ta):=by
 intro pins s σ H R I h
 refine Call_ (JF I hg hm boot_range (PyProof.Rows.callWith_type1 (Am (ha pos pins s σ H _ I h) fun us s1 z37_=>?_) hs rfl))
 obtain ⟨vs,H1,I1,r1,q1⟩:=z37_
 obtain ⟨j,e,q1,q2,q⟩:=q1
 subst e
 cases r1 with
 |cons r rr=>
  cases rr
  obtain ⟨t,rfl⟩:=r
  exact call_range_1 (VJ I1 (by omega) (by omega) q1 q2 (by simpa using q))
def VN (wi:TI) (g:TG) (tb:TS):TS:=fun D σ H=>wi σ H fun J H1=>∃W:Nat→Nat→St→Hp→Prop,(∃m,W 0 m σ H1)∧∀i m σ H,W i m σ H→
 (J.stop i H∧D.nx σ H)∨(J.go i H∧∃N:St→Hp→Prop,(∀σ' H',N σ' H'→∃m',m' < m∧W (i+1) m' σ' H')∧∀x H',J.yld i H x H'→g x σ H' fun σ2 H2=>tb {D with nx:=N,ct:=N,bk:=D.nx} σ2 H2)
def Ij (fp:List Addr) (h:Heap):List (Addr×Obj):=fp.filterMap fun b=>(h.get? b).map fun o=>(b,o)
theorem JK {fp:List Addr} {h:Heap} {b:Addr} {o:Obj} (hb:b∈fp) (e:h.get? b=some o):(b,o)∈Ij fp h:=List.mem_filterMap.mpr ⟨b,hb,by rw [e];rfl⟩
theorem VO {fp:List Addr} {h:Heap} {p:Addr×Obj} (hp:p∈Ij fp h):p.1∈fp∧h.get? p.1=some p.2:=by
 obtain ⟨b,hb,e⟩:=List.mem_filterMap.mp hp
 cases q:h.get? b with
 |none=>rw [q] at e;cases e
 |some o=>
  rw [q] at e
  have e':(b,o)=p:=Option.some.inj e
  subst e'
  exact ⟨hb,q⟩
theorem Inv.pinned {pins:List (Addr×Obj)} {σ:St} {H:Hp} {s:Shared} {fp:List Addr} (I:Inv X pins σ H s) (hf:∀b∈fp,E3 X pins H b) (ho:∀b∈fp,∃o,s.heap.get? b=some o∧∀v,o.data≠.cell v):Inv X (pins++Ij fp s.heap) σ H s:=
 I.pins_of fun p hp=>(qaP.mp hp).elim (fun z=>I.pin p (B5 _ z)) fun z=>by
  obtain ⟨hb,e⟩:=VO z
  obtain ⟨f0,f1,f2,_⟩:=hf p.1 hb
  obtain ⟨o,e',d⟩:=ho p.1 hb
  rw [e] at e';cases e'
  exact ⟨e,f0,f1,f2,d⟩
theorem Inv.unpinned {pins pl:List (Addr×Obj)} {σ:St} {H:Hp} {s:Shared} (I:Inv X (pins++pl) σ H s):Inv X pins σ H s:=I.pins_of fun p hp=>I.pin p (B5 _ (GU _ hp))
inductive LW (X:Cx) (pins:List (Addr×Obj)) (tn:Nat→Heap→Prop) (fp:List Addr) (W:Nat→Nat→St→Hp→Prop) (n:Nat) (s':Shared):Prop where
 |mk (i:Nat) (σ':St) (H':Hp) (ii:Inv X pins σ' H' s') (st:tn i s'.heap) (fr:∀b∈fp,H' b=none) (w:W i n σ' H'):LW X pins tn fp W n s'
theorem VP {iter:Expr} {body:List Stmt} {wi:TI} {g:TG} {tb:TS} {pos:Pos} (hp:PassesOwn (model X.prog X.w) X.A X.env X.xe) (hc:X.calm=true) (hi:PI X tg iter wi) (hg:PG X tg g) (hb:Do X body tb)
 (hs:∀x,foldedSetIterable iter X.env x=pure x:=by intro _;rfl):PS X (.For tg iter body [] pos) (VN wi g tb):=by
 intro pins s σ H D I h
 refine wpAny_For (Am (hi pins s σ H _ I h) fun v s1 h1=>Am h1 fun itv s2 h2=>?_) hs
 obtain ⟨it,fp,tn,J,H2,e,I2,T,st2,f2,W,⟨m0,w0⟩,turn⟩:=h2
 subst e
 have stat:∀{H':Hp},(∀b∈fp,H' b=none)→∀b∈fp,E3 X pins H' b:=fun hn b hb=>⟨hn b hb,(f2 b hb).2⟩
 refine codeAny_forLoop_any (LW X pins tn fp W) ?_ m0 ⟨0,σ,H2,I2,st2,fun b hb=>(f2 b hb).1,w0⟩
 rintro n s3 ⟨i,σ3,H3,I3,st3,fr3,w3⟩
 rcases turn i n σ3 H3 w3 with ⟨stop,qn⟩ |⟨go,N,hN,step⟩
 ·refine wpAny_passesOwn hp (Am (T.done X rfl rfl rfl hc i pins s3 σ3 H3 X.xe I3 (stat fr3) st3 stop) fun r s4 z39_=>?_)
  obtain ⟨hr,I4⟩:=z39_
  subst hr
  exact wpAny_execs_nil ⟨σ3,H3,I4,qn⟩
 ·refine wpAny_passesOwn hp (Am (T.item X rfl rfl rfl hc i pins s3 σ3 H3 X.xe I3 (stat fr3) st3 go) fun r s4 z40_=>?_)
  obtain ⟨u,hr,h4⟩:=z40_
  subst hr
  refine wpAny_passesOwn hp (Am h4 fun _ s5 z41_=>?_)
  obtain ⟨x,H5,I5,r5,y5,st5,fr5⟩:=z41_
  have I5':=I5.pinned (stat fr5) (T.obj _ _ st5)
  refine wpAny_passesOwn hp (Am (hg _ s5 σ3 H5 x u _ I5' r5 (step x H5 y5)) fun _ s6 z42_=>?_)
  obtain ⟨σ6,H6,I6,q6⟩:=z42_
  refine wpAny_passesOwn hp (Am (hb _ s6 σ6 H6 _ I6 q6) fun f s7 q7=>?_)
  have again:∀{σ7:St} {H7:Hp},Inv X (pins++Ij fp s5.heap) σ7 H7 s7→N σ7 H7→∃m,m<n∧LW X pins tn fp W m s7:=fun {σ7 H7} I7 n7=>by
   obtain ⟨m',hm,w7⟩:=hN σ7 H7 n7
   refine ⟨m',hm,i+1,σ7,H7,I7.unpinned,T.keep _ _ _ st5 fun b hb o e=>(I7.pin (b,o) (B5 _ (B5 _ (JK hb e)))).1,fun b hb=>?_,w7⟩
   obtain ⟨o,e,d⟩:=T.obj _ _ st5 b hb
   exact (I7.pin (b,o) (B5 _ (B5 _ (JK hb e)))).2.1
  cases f with
  |next=>obtain ⟨σ7,H7,I7,n7⟩:=q7;exact again I7 n7
  |cont=>obtain ⟨σ7,H7,I7,n7⟩:=q7;exact again I7 n7
  |brk=>obtain ⟨σ7,H7,I7,q7⟩:=q7;exact ⟨σ7,H7,I7.unpinned,q7⟩
  |ret v=>obtain ⟨x7,σ7,H7,I7,r7,q7⟩:=q7;exact ⟨x7,σ7,H7,I7.unpinned,r7,q7⟩
end
abbrev R2:=V→V→Hp→VK→Prop
def OpR (X:Cx) (f:Value→Value→Sem Value) (r:R2):Prop:=
 ∀(pins:List (Addr×Obj)) (s:Shared) (σ:St) (H:Hp) (x y:V) (v u:Value) (Q:VK),Inv X pins σ H s→RelV x v→RelV y u→r x y H Q→
  wpAny (model X.prog X.w) X.A (f v u) (EP X pins σ Q) X.xe s
def LY (X:Cx) (f:Value→Sem Value) (r:V→Hp→VK→Prop):Prop:=
 ∀(pins:List (Addr×Obj)) (s:Shared) (σ:St) (H:Hp) (x:V) (v:Value) (Q:VK),Inv X pins σ H s→RelV x v→r x H Q→
  wpAny (model X.prog X.w) X.A (f v) (EP X pins σ Q) X.xe s
def Dp (X:Cx) (f:Value) (r:List V→Hp→VK→Prop):Prop:=
 ∀(pins:List (Addr×Obj)) (s:Shared) (σ:St) (H:Hp) (xs:List V) (us:List Value) (Q:VK),Inv X pins σ H s→Vals xs us→r xs H Q→
  wpAny (model X.prog X.w) X.A (call f us) (EP X pins σ Q) X.xe s
def VQ (X:Cx) (r:V→Hp→(Bool→Hp→Prop)→Prop):Prop:=
 ∀(pins:List (Addr×Obj)) (s:Shared) (σ:St) (H:Hp) (x:V) (v:Value) (Q:Bool→Hp→Prop),Inv X pins σ H s→RelV x v→r x H Q→
  wpAny (model X.prog X.w) X.A (truthy v) (TP X pins σ Q) X.xe s
def JL (r:R2) (ta tb:TE):TE:=fun σ H Q=>ta σ H fun x H1=>tb σ H1 fun y H2=>r x y H2 Q
def OW (r:V→Hp→VK→Prop) (ta:TE):TE:=fun σ H Q=>ta σ H fun x H1=>r x H1 Q
def rI (C:Int→Int→Prop) (g:Int→Int→V):R2:=fun x y H Q=>∃i j,x=.int i∧y=.int j∧C i j∧Q (g i j) H
def G0 (g:Int→Int→V):R2:=fun x y H Q=>∃i j,x=.int i∧y=.int j∧Q (g i j) H
def rU (g:Int→V):V→Hp→VK→Prop:=fun x H Q=>∃i,x=.int i∧Q (g i) H
section
variable {X:Cx} {a b c:Expr} {ta tb tc:TE} {pos:Pos}
theorem LZ (ha:PE X a ta) (hb:PE X b tb) {pins:List (Addr×Obj)} {s:Shared} {σ:St} {H:Hp} {R:V→V→Hp→Prop} (I:Inv X pins σ H s)
 (h:ta σ H fun x H1=>tb σ H1 fun y H2=>R x y H2) {Q:Value→Shared→Prop} {f:Value→Value→Sem Value}
 (hf:∀v u s2 x y H2,Inv X pins σ H2 s2→RelV x v→RelV y u→R x y H2→wpAny (model X.prog X.w) X.A (f v u) Q X.xe s2):
 wpAny (model X.prog X.w) X.A (eval a X.env) (fun v s₁=>wpAny (model X.prog X.w) X.A (eval b X.env) (fun u s₂=>wpAny (model X.prog X.w) X.A (f v u) Q X.xe s₂) X.xe s₁) X.xe s:=by
 refine Am (ha pins s σ H _ I h) fun v s1 z44_=>?_
 obtain ⟨x,H1,I1,r1,q1⟩:=z44_
 refine Am (hb pins s1 σ H1 _ I1 q1) fun u s2 z45_=>?_
 obtain ⟨y,H2,I2,r2,q2⟩:=z45_
 exact hf v u s2 x y H2 I2 r1 r2 q2
theorem VR {op:Operator} {r:R2} (ho:OpR X (binaryOp op) r) (ha:PE X a ta) (hb:PE X b tb):PE X (.BinOp a op b pos) (JL r ta tb):=by
 intro pins s σ H Q I h
 exact wpAny_BinOp (LZ ha hb I h fun v u s2 x y H2 I2 rx ry q=>ho pins s2 σ H2 x y v u Q I2 rx ry q)
theorem OX {op:UnaryOp} {r:V→Hp→VK→Prop} (ho:LY X (unaryOp op) r) (ha:PE X a ta):PE X (.UnaryOp op a pos) (OW r ta):=by
 intro pins s σ H Q I h
 exact UnaryOp_ (Am (ha pins s σ H _ I h) fun v s1 z46_=>by obtain ⟨x,H1,I1,r1,q1⟩:=z46_;exact (ho pins s1 σ H1 x v Q I1 r1 q1))
theorem L4 {f:Value→Value→Sem Value} {C:Int→Int→Prop} {g:Int→Int→Int}
 (rule:∀(i j:Int) (t u:Tok) (s:Shared) (Q:Value→Shared→Prop) (E:Value→Shared→Prop),C i j→Q (.int (g i j) s.toks) {s with toks:=s.toks+1}→wpAny (model X.prog X.w) X.A (f (.int i t) (.int j u)) Q E s):
 OpR X f (rI C fun i j=>.int (g i j)):=by
 intro pins s σ H x y v u Q I rx ry h
 obtain ⟨i,j,rfl,rfl,hc,q⟩:=h
 obtain ⟨t,rfl⟩:=rx
 obtain ⟨t',rfl⟩:=ry
 exact rule i j t t' s _ _ hc ⟨.int (g i j),H,I.tok _,⟨_,rfl⟩,q⟩
theorem VS {f:Value→Value→Sem Value} {g:Int→Int→Int}
 (rule:∀(i j:Int) (t u:Tok) (s:Shared) (Q:Value→Shared→Prop) (E:Value→Shared→Prop),Q (.int (g i j) s.toks) {s with toks:=s.toks+1}→wpAny (model X.prog X.w) X.A (f (.int i t) (.int j u)) Q E s):
 OpR X f (G0 fun i j=>.int (g i j)):=by
 intro pins s σ H x y v u Q I rx ry h
 obtain ⟨i,j,rfl,rfl,q⟩:=h
 obtain ⟨t,rfl⟩:=rx
 obtain ⟨t',rfl⟩:=ry
 exact rule i j t t' s _ _ ⟨.int (g i j),H,I.tok _,⟨_,rfl⟩,q⟩
theorem OY {f:Value→Value→Sem Value} {g:Int→Int→Bool}
 (rule:∀(i j:Int) (t u:Tok) (s:Shared) (Q:Value→Shared→Prop) (E:Value→Shared→Prop),Q (.bool (g i j)) s→wpAny (model X.prog X.w) X.A (f (.int i t) (.int j u)) Q E s):
 OpR X f (G0 fun i j=>.bl (g i j)):=by
 intro pins s σ H x y v u Q I rx ry h
 obtain ⟨i,j,rfl,rfl,q⟩:=h
 obtain ⟨t,rfl⟩:=rx
 obtain ⟨t',rfl⟩:=ry
 exact rule i j t t' s _ _ ⟨.bl (g i j),H,I,rfl,q⟩
def OZ (i j:Int):Prop:=0<j∧j<1073741824
def L5 (i j:Int):Prop:=0≤j∧j≤1000000∧i.natAbs<2^64
def CMul (i j:Int):Prop:=(-(2^64)<i∧i<2^64)∨(-(2^64)<j∧j<2^64)
theorem CMul.ok {i j:Int} (h:CMul i j):IntMulOk i j:=by
 rcases h with ⟨h1,h2⟩ |⟨h1,h2⟩
 ·exact .of_left (intBits_le_64 h1 h2)
 ·exact .of_right (intBits_le_64 h1 h2)
theorem op_add:OpR X (binaryOp .Add) (G0 fun i j=>.int (i+j)):=VS fun _ _ _ _ _ _ _ q=>add_int q
theorem VT:OpR X (binaryOp .Mod) (rI (fun _ j=>0<j) fun i j=>.int (i % j)):=L4 fun i j _ _ _ _ _ hc q=>by
 have h1:(0:Int)<j:=hc
 exact mod_int' (by omega) (by rw [Int.fmod_eq_emod_of_nonneg i (by omega)];exact q)
theorem VU {f:Value→Sem Value} {g:Int→Int}
 (rule:∀(i:Int) (t:Tok) (s:Shared) (Q:Value→Shared→Prop) (E:Value→Shared→Prop),Q (.int (g i) s.toks) {s with toks:=s.toks+1}→wpAny (model X.prog X.w) X.A (f (.int i t)) Q E s):
 LY X f (rU fun i=>.int (g i)):=by
 intro pins s σ H x v Q I rx h
 obtain ⟨i,rfl,q⟩:=h
 obtain ⟨t,rfl⟩:=rx
 exact rule i t s _ _ ⟨.int (g i),H,I.tok _,⟨_,rfl⟩,q⟩
theorem O0:LY X (unaryOp .USub) (rU fun i=>.int (-i)):=VU fun _ _ _ _ _ q=>neg_int q
end
def O1:V→V→Bool
 |.non,.non=>true |.non,.int _=>true |.int _,.non=>true |.non,.bl _=>true |.bl _,.non=>true |.non,.str _=>true |.str _,.non=>true
 |.int _,.int _=>true |.bl _,.bl _=>true |.str _,.str _=>true |.byt _,.byt _=>true
 |.int _,.str _=>true |.str _,.int _=>true |.bl _,.str _=>true |.str _,.bl _=>true
 |_,_=>false
def VV:R2:=fun x y H Q=>O1 x y=true∧Q (.bl (decide (x=y))) H
def VW:R2:=fun x y H Q=>O1 x y=true∧Q (.bl (!decide (x=y))) H
theorem O2 {i j:Int}:decide (V.int i=V.int j)=(i==j):=by
 rw [qaZ]
 simp
theorem O3 {i j:Bool}:decide (V.bl i=V.bl j)=(i==j):=by
 rw [qaZ]
 simp
theorem JM {i j:Str}:decide (V.str i=V.str j)=(i==j):=by
 rw [qaZ]
 simp
theorem O4 {i j:Array UInt8}:decide (V.byt i=V.byt j)=(i.toList==j.toList):=by
 rw [qaZ]
 cases i
 cases j
 simp
section
variable {X:Cx} {a b c:Expr} {ta tb tc:TE} {pos:Pos}
theorem Bh {pins:List (Addr×Obj)} {σ:St} {H:Hp} {s:Shared} {Q:VK} {k k':Bool} (I:Inv X pins σ H s) (q:Q (.bl k) H) (e:k=k'):EP X pins σ Q (.bool k') s:=by
 subst e
 exact ⟨.bl k,H,I,rfl,q⟩
theorem op_eq:OpR X (compareOp .Eq) VV:=by
 intro pins s σ H x y v u Q I rx ry h
 obtain ⟨hs,q⟩:=h
 cases x with
 |non=>
  cases rx
  cases y with
  |non=>cases ry;exact PySem.EqNone.eq_none_none (Bh I q (by simp))
  |bl j=>cases ry;exact PySem.EqNone.eq_none_bool (Bh I q (by simp))
  |int j=>obtain ⟨t',rfl⟩:=ry;exact PySem.EqNone.eq_none_int (Bh I q (by simp))
  |str j=>obtain ⟨t',rfl⟩:=ry;exact PySem.EqNone.eq_none_str (Bh I q (by simp))
  |_=>exact absurd (show false=true from hs) BN
 |bl i=>
  cases rx
  cases y with
  |non=>cases ry;exact PySem.EqNone.eq_bool_none (Bh I q (by simp))
  |bl j=>cases ry;exact eq_bool (Bh I q O3)
  |str j=>obtain ⟨t',rfl⟩:=ry;exact PySem.EqMixed.eq_bool_str (Bh I q (by simp))
  |_=>exact absurd (show false=true from hs) BN
 |int i=>
  obtain ⟨t,rfl⟩:=rx
  cases y with
  |non=>cases ry;exact PySem.EqNone.eq_int_none (Bh I q (by simp))
  |int j=>obtain ⟨t',rfl⟩:=ry;exact eq_int (Bh I q O2)
  |str j=>obtain ⟨t',rfl⟩:=ry;exact PySem.EqMixed.eq_int_str (Bh I q (by simp))
  |_=>exact absurd (show false=true from hs) BN
 |str i=>
  obtain ⟨t,rfl⟩:=rx
  cases y with
  |non=>cases ry;exact PySem.EqNone.eq_str_none (Bh I q (by simp))
  |bl j=>cases ry;exact PySem.EqMixed.eq_str_bool (Bh I q (by simp))
  |int j=>obtain ⟨t',rfl⟩:=ry;exact PySem.EqMixed.eq_str_int (Bh I q (by simp))
  |str j=>obtain ⟨t',rfl⟩:=ry;exact eq_str (Bh I q JM)
  |_=>exact absurd (show false=true from hs) BN
 |byt i=>
  obtain ⟨t,rfl⟩:=rx
  cases y with
  |byt j=>obtain ⟨t',rfl⟩:=ry;exact PySem.W.eq_bytes (Bh I q O4)
  |_=>exact absurd (show false=true from hs) BN
 |_=>cases y<;>exact absurd (show false=true from hs) BN
theorem op_ne:OpR X (compareOp .NotEq) VW:=by
 intro pins s σ H x y v u Q I rx ry h
 obtain ⟨hs,q⟩:=h
 cases x with
 |non=>
  cases rx
  cases y with
  |non=>cases ry;exact PySem.EqNone.ne_none_none (Bh I q (by simp))
  |bl j=>cases ry;exact PySem.EqNone.ne_none_bool (Bh I q (by simp))
  |int j=>obtain ⟨t',rfl⟩:=ry;exact PySem.EqNone.ne_none_int (Bh I q (by simp))
  |str j=>obtain ⟨t',rfl⟩:=ry;exact PySem.EqNone.ne_none_str (Bh I q (by simp))
  |_=>exact absurd (show false=true from hs) BN
 |bl i=>
  cases rx
  cases y with
  |non=>cases ry;exact PySem.EqNone.ne_bool_none (Bh I q (by simp))
  |bl j=>cases ry;exact ne_bool (Bh I q (congrArg not O3))
  |str j=>obtain ⟨t',rfl⟩:=ry;exact PySem.EqMixed.ne_bool_str (Bh I q (by simp))
  |_=>exact absurd (show false=true from hs) BN
 |int i=>
  obtain ⟨t,rfl⟩:=rx
  cases y with
  |non=>cases ry;exact PySem.EqNone.ne_int_none (Bh I q (by simp))
  |int j=>obtain ⟨t',rfl⟩:=ry;exact ne_int (Bh I q (congrArg not O2))
  |str j=>obtain ⟨t',rfl⟩:=ry;exact PySem.EqMixed.ne_int_str (Bh I q (by simp))
  |_=>exact absurd (show false=true from hs) BN
 |str i=>
  obtain ⟨t,rfl⟩:=rx
  cases y with
  |non=>cases ry;exact PySem.EqNone.ne_str_none (Bh I q (by simp))
  |bl j=>cases ry;exact PySem.EqMixed.ne_str_bool (Bh I q (by simp))
  |int j=>obtain ⟨t',rfl⟩:=ry;exact PySem.EqMixed.ne_str_int (Bh I q (by simp))
  |str j=>obtain ⟨t',rfl⟩:=ry;exact ne_str (Bh I q (congrArg not JM))
  |_=>exact absurd (show false=true from hs) BN
 |byt i=>
  obtain ⟨t,rfl⟩:=rx
  cases y with
  |byt j=>obtain ⟨t',rfl⟩:=ry;exact PySem.W.ne_bytes (Bh I q (congrArg not O4))
  |_=>exact absurd (show false=true from hs) BN
 |_=>cases y<;>exact absurd (show false=true from hs) BN
theorem VX:OpR X (compareOp .Lt) (G0 fun i j=>.bl (decide (i<j))):=OY fun _ _ _ _ _ _ _ q=>lt_int q
theorem VY:OpR X (compareOp .LtE) (G0 fun i j=>.bl (decide (i≤j))):=OY fun _ _ _ _ _ _ _ q=>le_int q
theorem VZ:OpR X (compareOp .In) (fun x y H Q=>∃i j,x=.str i∧y=.str j∧Q (.bl (!(Builtin.Str.occurrences j i 0 j.length 1).isEmpty)) H):=by
 intro pins s σ H x y v u Q I rx ry h
 obtain ⟨i,j,rfl,rfl,q⟩:=h
 obtain ⟨t,rfl⟩:=rx
 obtain ⟨t',rfl⟩:=ry
 exact in_str (Bh I q rfl)
theorem V0:OpR X (compareOp .IsNot) (fun x y H Q=>y=.non∧Q (.bl (!decide (x=.non))) H):=by
 intro pins s σ H x y v u Q I rx ry h
 obtain ⟨rfl,q⟩:=h
 cases ry
 refine isnot_none_gen (Bh I q ?_)
 cases x<;>first
  |(cases rx;rfl)
  |(obtain ⟨t,rfl⟩:=rx;rfl)
theorem OpR.or {f:Value→Value→Sem Value} {r r':R2} (h:OpR X f r) (h':OpR X f r'):OpR X f (fun x y H Q=>r x y H Q∨r' x y H Q):=by
 intro pins s σ H x y v u Q I rx ry q
 rcases q with q |q
 ·exact h pins s σ H x y v u Q I rx ry q
 ·exact h' pins s σ H x y v u Q I rx ry q
theorem FS (b:Expr) {op:CmpOp} (h:op≠.In:=by decide) (h2:op≠.NotIn:=by decide):behindInMarks op b=false:=by
 have e1:(op==CmpOp.In)=false:=by cases op<;>first |rfl |exact absurd rfl h
 have e2:(op==CmpOp.NotIn)=false:=by cases op<;>first |rfl |exact absurd rfl h2
 cases b with
 |Set elts k p=>
  show (k==0&&(op==.In||op==.NotIn)&&elts.all (constantsAlone 8))=false
  rw [e1,e2,Bool.or_self,Bool.and_false,Bool.false_and]
 |_=>rfl
theorem V1 {op:CmpOp} {r:R2} (ho:OpR X (compareOp op) r) (ha:PE X a ta) (hb:PE X b tb) (hm:behindInMarks op b=false):PE X (.Compare a [op] [b] pos) (JL r ta tb):=by
 intro pins s σ H Q I h
 exact wpAny_Compare1 (LZ ha hb I h fun v u s2 x y H2 I2 rx ry q=>ho pins s2 σ H2 x y v u Q I2 rx ry q) hm
def O5 (t:TE):TT:=fun σ H Q=>t σ H fun x H'=>∃k,x=.bl k∧Q k H'
theorem V2 {op:CmpOp} {r:R2} (ho:OpR X (compareOp op) r) (ha:PE X a ta) (hb:PE X b tb) (hm:behindInMarks op b=false):PT X (.Compare a [op] [b] pos) (O5 (JL r ta tb)):=by
 intro pins s σ H Q I h
 refine wpAny_isTrue_Compare1 (Am (ha pins s σ H _ I h) fun v s1 ⟨x,H1,I1,r1,q1⟩=>Am (hb pins s1 σ H1 _ I1 q1) ?_) hm
 rintro u s2 ⟨y,H2,I2,r2,q2⟩
 refine Am (ho pins s2 σ H2 x y v u _ I2 r1 r2 q2) fun c s3 z49_=>?_
 obtain ⟨z,H3,I3,r3,k,e,q3⟩:=z49_
 subst e
 cases r3
 exact wpAny_truthy_bool ⟨H3,I3,q3⟩
def L6 (r r':R2) (ta tb tc:TE):TE:=fun σ H Q=>ta σ H fun x H1=>tb σ H1 fun y H2=>r x y H2 fun z H3=>∃k,z=.bl k∧
 (if k=true then tc σ H3 fun w' H4=>r' y w' H4 Q else Q (.bl false) H3)
theorem V3 {op op':CmpOp} {r r':R2} (ho:OpR X (compareOp op) r) (ho':OpR X (compareOp op') r') (ha:PE X a ta) (hb:PE X b tb) (hc:PE X c tc)
 (hm:lastMarks [op,op'] [b,c]=false:=by with_unfolding_all rfl):PE X (.Compare a [op,op'] [b,c] pos) (L6 r r' ta tb tc):=by
 intro pins s σ H Q I h
 refine Compare_chain (Am (ha pins s σ H _ I h) fun v s1 ⟨x,H1,I1,r1,q1⟩=>chain_link (Am (hb pins s1 σ H1 _ I1 q1) ?_)) hm
 rintro u s2 ⟨y,H2,I2,r2,q2⟩
 refine Am (ho pins s2 σ H2 x y v u _ I2 r1 r2 q2) fun d s3 z52_=>?_
 obtain ⟨z,H3,I3,r3,k,e,q3⟩:=z52_
 subst e
 cases r3
 refine wpAny_truthy_bool ?_
 cases k with
 |false=>exact ite_ff ⟨.bl false,H3,I3,rfl,q3⟩
 |true=>exact ite_tt (chain_last (Am (hc pins s3 σ H3 _ I3 q3) fun w' s4 z53_=>by obtain ⟨z',H4,I4,r4,q4⟩:=z53_;exact (ho' pins s4 σ H4 y z' u w' Q I4 r2 r4 q4)))
theorem V4 {op op':CmpOp} {r r':R2} (ho:OpR X (compareOp op) r) (ho':OpR X (compareOp op') r') (ha:PE X a ta) (hb:PE X b tb) (hc:PE X c tc)
 (hm:lastMarks [op,op'] [b,c]=false:=by with_unfolding_all rfl):PT X (.Compare a [op,op'] [b,c] pos) (O5 (L6 r r' ta tb tc)):=by
 intro pins s σ H Q I h
 refine isTrue_chain (Am (ha pins s σ H _ I h) fun v s1 ⟨x,H1,I1,r1,q1⟩=>test_link (Am (hb pins s1 σ H1 _ I1 q1) ?_)) hm
 rintro u s2 ⟨y,H2,I2,r2,q2⟩
 refine Am (ho pins s2 σ H2 x y v u _ I2 r1 r2 q2) fun d s3 z56_=>?_
 obtain ⟨z,H3,I3,r3,k,e,q3⟩:=z56_
 subst e
 cases r3
 refine wpAny_truthy_bool ?_
 cases k with
 |false=>
  obtain ⟨k',e',q'⟩:=q3
  cases e'
  exact ite_ff ⟨H3,I3,q'⟩
 |true=>
  refine ite_tt (test_last (Am (hc pins s3 σ H3 _ I3 q3) ?_))
  rintro w' s4 ⟨z',H4,I4,r4,q4⟩
  refine Am (ho' pins s4 σ H4 y z' u w' _ I4 r2 r4 q4) fun d' s5 z58_=>?_
  obtain ⟨z2,H5,I5,r5,k2,e2,q5⟩:=z58_
  subst e2
  cases r5
  exact wpAny_truthy_bool ⟨H5,I5,q5⟩
def L7 (K:PySem.W.Frag) (x:V) (H:Hp) (k:Bool):Prop:=
 match x with
 |.non=>k=false
 |.bl b=>k=b
 |.int i=>k=(i != 0)
 |.str y=>y.length≤sizeLine∧k=((y.length:Int) != 0)
 |.byt y=>y.size≤sizeLine∧k=((y.size:Int) != 0)
 |.ref p=>(∃xs,SqL K H p xs∧k=!xs.isEmpty)∨(∃xs,SqT K H p xs∧k=!xs.isEmpty)
 |_=>False
theorem O6 {xs:List V} {its:List Value} (r:Vals xs its):(!its.toArray.isEmpty)=!xs.isEmpty:=by
 cases r<;>simp
theorem Fv:(sizeLine:Nat)<2^63:=by rw [sizeLine_eq];decide
theorem V5:VQ X (fun x H Q=>∃k,L7 X.K x H k∧Q k H):=by
 intro pins s σ H x v Q I rx h
 obtain ⟨k,e,q⟩:=h
 have hl:=Fv
 have hs:sizeLine=16777216:=sizeLine_eq
 cases x with
 |non=>
  cases rx
  have e':k=false:=e
  subst e'
  exact truthy_none ⟨H,I,q⟩
 |bl b=>
  cases rx
  have e':k=b:=e
  subst e'
  exact wpAny_truthy_bool ⟨H,I,q⟩
 |int i=>
  obtain ⟨t,rfl⟩:=rx
  have e':k=(i != 0):=e
  subst e'
  exact PySem.P.truthy_int ⟨H,I,q⟩
 |str y=>
  obtain ⟨t,rfl⟩:=rx
  obtain ⟨hy,e'⟩:y.length≤sizeLine∧k=((y.length:Int) != 0):=e
  subst e'
  exact PySem.P.truthy_str (by omega) ⟨H,I.tok _,q⟩
 |byt y=>
  obtain ⟨t,rfl⟩:=rx
  obtain ⟨hy,e'⟩:y.size≤sizeLine∧k=((y.size:Int) != 0):=e
  subst e'
  exact PySem.W.truthy_bytes (by omega) ⟨H,I.tok _,q⟩
 |ref p=>
  cases rx
  have e':(∃xs,SqL X.K H p xs∧k=!xs.isEmpty)∨(∃xs,SqT X.K H p xs∧k=!xs.isEmpty):=e
  rcases e' with ⟨xs,hx,e'⟩ |⟨xs,hx,e'⟩
  ·subst e'
   obtain ⟨its,r,pl,hz⟩:=I.list hx
   have hlen:=r.length
   exact wpAny_truthy_list pl.isList (by simp only [Bs];omega) ⟨H,I.tok _,by rw [O6 r];exact q⟩
  ·subst e'
   obtain ⟨its,r,pl,hz⟩:=I.tuple hx
   have hlen:=r.length
   exact truthy_tuple pl (by simp only [Bs];omega) ⟨H,I.tok _,by rw [O6 r];exact q⟩
 |_=>exact (show False from e).elim
theorem V6 (ha:PE X a ta) (he:∀EI,isTrue a X.env EI=(do let v ←EI;standAt a.pos;holding [v] (truthy v))):
 PT X a (fun σ H Q=>ta σ H fun x H'=>∃k,L7 X.K x H' k∧Q k H'):=by
 intro pins s σ H Q I h
 exact isTrue_plain (Am (ha pins s σ H _ I h) fun v s1 z59_=>by obtain ⟨x,H1,I1,r1,q1⟩:=z59_;exact (V5 pins s1 σ H1 x v Q I1 r1 q1)) (he _)
theorem V7:OpR X (binaryOp .Add) (fun x y H Q=>∃i j,x=.str i∧y=.str j∧i.length+j.length≤sizeLine∧Q (.str (i++j)) H):=by
 intro pins s σ H x y v u Q I rx ry h
 obtain ⟨i,j,rfl,rfl,hz,q⟩:=h
 obtain ⟨t,rfl⟩:=rx
 obtain ⟨t',rfl⟩:=ry
 exact add_str (fun t' tk=>⟨.str (i++j),H,I.tok _,⟨_,rfl⟩,q⟩) hz
theorem E4 {x:V} {us:List Value} (r:Vals [x] us):∃u,us=[u]∧RelV x u:=by
 cases r with
 |cons r1 r2=>cases r2;exact ⟨_,rfl,r1⟩
theorem Ik {x y:V} {us:List Value} (r:Vals [x,y] us):∃u w',us=[u,w']∧RelV x u∧RelV y w':=by
 cases r with
 |cons r1 r2=>
  cases r2 with
  |cons r3 r4=>cases r4;exact ⟨_,_,rfl,r1,r3⟩
theorem V8 (hc:X.calm=true):Dp X (.builtin "max") (fun xs H Q=>∃i j,xs=[.int i,.int j]∧Q (.int (if j>i then j else i)) H):=by
 intro pins s σ H xs us Q I r h
 obtain ⟨i,j,rfl,q⟩:=h
 obtain ⟨u,w',rfl,⟨t,rfl⟩,⟨t',rfl⟩⟩:=Ik r
 refine max_two_ints (I.ok.hd hc) fun h' tk k=>⟨_,H,I.kept k,?_,q⟩
 by_cases hj:j>i
 ·rw [if_pos hj,if_pos hj];exact ⟨_,rfl⟩
 ·rw [if_neg hj,if_neg hj];exact ⟨_,rfl⟩
theorem V9 (hc:X.calm=true):Dp X (.builtin "min") (fun xs H Q=>∃i j,xs=[.int i,.int j]∧Q (.int (if j<i then j else i)) H):=by
 intro pins s σ H xs us Q I r h
 obtain ⟨i,j,rfl,q⟩:=h
 obtain ⟨u,w',rfl,⟨t,rfl⟩,⟨t',rfl⟩⟩:=Ik r
 refine min_two_ints (I.ok.hd hc) fun h' tk k=>⟨_,H,I.kept k,?_,q⟩
 by_cases hj:j<i
 ·rw [if_pos hj,if_pos hj];exact ⟨_,rfl⟩
 ·rw [if_neg hj,if_neg hj];exact ⟨_,rfl⟩
theorem Wa:Dp X (.type "int") (fun xs H Q=>(∃i,xs=[.int i]∧Q (.int i) H)∨∃k,xs=[.bl k]∧Q (.int (if k then 1 else 0)) H):=by
 intro pins s σ H xs us Q I r h
 rcases h with ⟨i,rfl,q⟩ |⟨k,rfl,q⟩
 ·obtain ⟨u,rfl,t,rfl⟩:=E4 r
  exact call_int_int ⟨.int i,H,I,⟨_,rfl⟩,q⟩
 ·obtain ⟨u,rfl,r1⟩:=E4 r
  cases r1
  exact call_int_bool ⟨.int (if k then 1 else 0),H,I.tok _,⟨_,rfl⟩,q⟩
end
structure ObjM (h:Heap) (x dx C:Addr) (mA:Str→Option Value):Prop where
 obj:h.get? x=some (PySem.W.instObj C dx)
 ns:h.Ns1 dx mA
 ne:dx≠x
theorem Wb {h:Heap} {dx:Addr} {mA:Str→Option Value} (n:h.Ns1 dx mA):∃od,h.get? dx=some od∧∀name,PySem.W.lookIn name od=some (mA name):=by
 obtain ⟨o,es,ep,ho,hd,hk,_,hm⟩:=n
 refine ⟨o,ho,fun name=>?_⟩
 have e:=hm name
 unfold nsFind findBy at e
 rw [←Array.find?_toList] at e
 unfold PySem.W.lookIn
 rw [hd]
 dsimp only
 split
 ·rename_i y q
  rw [q] at e
  exact congrArg some e
 ·rename_i q
  rw [q] at e
  have a:es.toList.any (·.refKey)=false:=by
   rw [List.any_eq_false]
   intro y hy
   obtain ⟨z,t,hkey⟩:=hk y (Array.mem_toList_iff.mp hy)
   simp [DictEntry.refKey,hkey]
  have a':¬es.toList.any (·.refKey)=true:=by rw [a];exact BN
  rw [if_neg a']
  exact congrArg some e
theorem ObjM.look {h:Heap} {x dx C:Addr} {mA:Str→Option Value} (I:ObjM h x dx C mA):∃od,PySem.W.InstAt h x (PySem.W.instObj C dx) C (some od)∧∀name,PySem.W.lookIn name od=some (mA name):=
 let ⟨od,ho,hl⟩:=Wb I.ns
 ⟨od,⟨I.obj,rfl,rfl,ho⟩,hl⟩
section
variable {prog:Program} {w:World} {A:Around} {E:Value→Shared→Prop} {s:Shared} {K:PySem.W.Frag} {x dx C f:Addr} {mA:Str→Option Value} {name:Str} {v:Value}
theorem Wc {expr:Bool} {Q:Value→Shared→Prop} (X:K.In s.heap) (I:ObjM s.heap x dx C mA) (hg:PySem.W.plainGet K C name=true) (hh:PySem.W.hasDictIn K C=true)
 (ha:PySem.W.findIn K (.ref C) name=some none) (hv:mA name=some v) (hv':PySem.W.handedIn v=true) (h:Q v {s with toks:=s.toks+1}):
 wpAny (model prog w) A (getAttr (.ref x) name expr) Q E s:=by
 obtain ⟨od,J,hl⟩:=I.look
 exact PySem.W.get_value X J (PySem.W.plainGet_of hg).1 (PySem.W.findObj_own hh ha rfl (by rw [hl,hv])) hv' h
theorem Wd {pl:Sem Bool} {Q:Value×List Value→Shared→Prop} (X:K.In s.heap) (I:ObjM s.heap x dx C mA) (hg:PySem.W.plainGet K C name=true)
 (hf:PySem.W.findIn K (.ref C) name=some (some (.ref f))) (ht:PySem.W.isFn K (.ref f)=true) (hv:mA name=none) (h:Q (.ref f,[.ref x]) s):
 wpAny (model prog w) A (getMethod (.ref x) name pl) Q E s:=by
 obtain ⟨od,J,hl⟩:=I.look
 exact PySem.W.method_fn X J (PySem.W.plainGet_of hg).1 (PySem.W.plainGet_of hg).2 hf (beq_iff_eq.mp ht) (by show (PySem.W.lookIn name od).map (·.isSome)=some false;rw [hl,hv];rfl) h
theorem Wf {ns:List Str} {Q:Unit→Shared→Prop} (X:K.In s.heap) (I:ObjM s.heap x dx C mA)
 (hs:PySem.W.findIn K (.ref C) "__setattr__"=some (some (.builtin "object.__setattr__"))) (hp:PySem.W.plainOver K C=true) (ht:PySem.W.takerIn K C name=some none) (hh:PySem.W.hasDictIn K C=true)
 (hw:PySem.Within mA ns) (hsz:ns.length≤sizeLine)
 (h:∀h',ObjM h' x dx C (fun y=>if y=name then some v else mA y)→Heap.SameBut dx s.heap h'→Q () {s with heap:=h',toks:=s.toks+2}):
 wpAny (model prog w) A (setAttr (.ref x) name v) Q E s:=by
 obtain ⟨od,J,hl⟩:=I.look
 refine PySem.W.set_plain X J hs (PySem.W.osa_open (s:={s with toks:=s.toks+1}) (r:=none) X J hp ht fun b=>?_)
 obtain ⟨cd,hc,hd'⟩:=PySem.W.any_some hh
 have hx:s.heap.get? x=some ⟨.ref C,some dx,.plain,#[]⟩:=I.obj
 refine wpAny_bind (wpAny_pure (wpAny_bind (wpAny_bind (wpAny_loadPart hx (wpAny_bind (PySem.W.Looks.here (s:={s with toks:=s.toks+1}) (PySem.W.looks_clsIn X hc) ?_))))))
 rw [hd']
 refine wpAny_pure (a:=some dx) (wpAny_bind (wpAny_pure (wpAny_bind ?_)))
 refine wpAny_nsSet1 (s:={s with toks:=s.toks+1}) I.ns fun h' hn2 hs2=>?_
 obtain ⟨oD,esD,epD,hoD,hdD,hcD⟩:=hn2.count (PySem.Within.cons name v hw)
 refine wpAny_bind (wpAny_lookBehind hoD (by rw [hdD];exact pastItsLine_dict (BG hcD (by rw [CL];omega))) ?_)
 exact wpAny_pure (h _ ⟨(hs2.2 _ (Ne.symm I.ne)).trans I.obj,hn2,I.ne⟩ hs2)
theorem Wg {R:Result→Shared→Prop} {vs:List Value} {kw:List (Str×Value)} (X:K.In s.heap) (hm:PySem.W.makesIn K C=true)
 (hi:PySem.W.findIn K (.ref C) "__init__"=some (some (.ref f))) (hf:PySem.W.typeIn K (.ref f)=some (.type "function"))
 (h:codeAny (model prog w) (A.under (.builtin "type.__call__" ⟨.ref C::vs,kw⟩)) (.call (.ref f) ⟨.ref (s.heap.objs.size+1)::vs,kw⟩) (PySem.W.InitBack (s.heap.objs.size+1) R)
  {s with heap:=(s.heap.push PySem.W.emptyDict).push (PySem.W.instObj C s.heap.objs.size)}):
 codeAny (model prog w) A (.call (.ref C) ⟨vs,kw⟩) R s:=by
 obtain ⟨hh,g,d,t,os⟩:=s
 exact PySem.W.make_core (PySem.W.makes_of X hm) (PySem.W.looks_findIn X hi) (fun self=>PySem.W.bind_fn X self hf) (.inl rfl) h
end
def B6 (f:Str) (v:V):List (Str×V)→List (Str×V)
 |[]=>[(f,v)]
 |(g,x)::r=>if g=f then (g,v)::r else (g,x)::B6 f v r
theorem O7 (f g:Str) (v:V):∀fs:List (Str×V),(B6 f v fs).lookup g=if g=f then some v else fs.lookup g
 |[]=>by
  show List.lookup g [(f,v)]=_
  by_cases h:g=f
  ·have hb:(g==f)=true:=beq_iff_eq.mpr h
   simp only [List.lookup,hb,if_pos h]
  ·have hb:(g==f)=false:=beq_eq_false_iff_ne.mpr h
   simp only [List.lookup,hb,if_neg h]
 |(k,x)::r=>by
  have ih:=O7 f g v r
  rw [show B6 f v ((k,x)::r)=(if k=f then (k,v)::r else (k,x)::B6 f v r) from rfl]
  by_cases hk:k=f
  ·rw [if_pos hk]
   by_cases h:g=k
   ·have hb:(g==k)=true:=beq_iff_eq.mpr h
    simp only [List.lookup,hb,if_pos (h.trans hk)]
   ·have hb:(g==k)=false:=beq_eq_false_iff_ne.mpr h
    simp only [List.lookup,hb,if_neg (fun e:g=f=>h (e.trans hk.symm))]
  ·rw [if_neg hk]
   by_cases h:g=k
   ·have hb:(g==k)=true:=beq_iff_eq.mpr h
    simp only [List.lookup,hb,if_neg (fun e:g=f=>hk (h.symm.trans e))]
   ·have hb:(g==k)=false:=beq_eq_false_iff_ne.mpr h
    simp only [List.lookup,hb]
    exact ih
theorem L8 (f:Str) (v:V):∀fs:List (Str×V),f∈(B6 f v fs).map (·.1)∧∀g,g∈fs.map (·.1)→g∈(B6 f v fs).map (·.1)
 |[]=>⟨by simp [B6],fun g h=>by simp at h⟩
 |(k,x)::r=>by
  obtain ⟨i1,i2⟩:=L8 f v r
  rw [show B6 f v ((k,x)::r)=(if k=f then (k,v)::r else (k,x)::B6 f v r) from rfl]
  by_cases hk:k=f
  ·rw [if_pos hk]
   subst hk
   exact ⟨by simp,fun g h=>by simpa using h⟩
  ·rw [if_neg hk]
   refine ⟨?_,fun g h=>?_⟩
   ·rw [Bx]
    exact Be _ i1
   ·rw [Bx] at h ⊢
    rcases qa9.mp h with e |e
    ·exact qa9.mpr (.inl e)
    ·exact Be _ (i2 g e)
theorem O8 (f:Str) (v:V):∀fs:List (Str×V),(B6 f v fs).length≤fs.length+1
 |[]=>by simp [B6]
 |(k,x)::r=>by
  have ih:=O8 f v r
  rw [show B6 f v ((k,x)::r)=(if k=f then (k,v)::r else (k,x)::B6 f v r) from rfl]
  by_cases hk:k=f
  ·rw [if_pos hk,CL,CL];omega
  ·rw [if_neg hk,CL,CL];omega
theorem RelO.some_of {v:V} {o:Option Value} (r:RelO (some v) o):∃u,o=some u∧RelV v u:=by
 cases o with
 |none=>exact (show False from r).elim
 |some u=>exact ⟨u,rfl,r⟩
theorem RelO.none_of {o:Option Value} (r:RelO none o):o=none:=by
 cases o with
 |none=>rfl
 |some u=>exact (show False from r).elim
theorem Wh {v:V} {u:Value} (r:RelV v u):PySem.W.handedIn u=true:=by
 cases v with
 |non=>cases (show u=Value.none from r);rfl
 |bl b=>cases (show u=Value.bool b from r);rfl
 |int i=>obtain ⟨t,e⟩:=(show ∃t,u=Value.int i t from r);cases e;rfl
 |str x=>obtain ⟨t,e⟩:=(show ∃t,u=Value.str x t from r);cases e;rfl
 |byt b=>obtain ⟨t,e⟩:=(show ∃t,u=Value.bytes b t from r);cases e;rfl
 |flt b=>obtain ⟨t,e⟩:=(show ∃t,u=Value.float b t from r);cases e;rfl
 |ref a=>cases (show u=Value.ref a from r);rfl
 |ty n=>cases (show u=Value.type n from r);rfl
section
variable {P:Program} {w:World} {H H':Hp} {h h':Heap} {a C dx:Addr} {fs fs':List (Str×V)}
theorem L9 (hok:HOk P w H h) (e:H a=some (.ins C dx fs)):∃mA,ObjM h a dx C mA∧(∀f,RelO (fs.lookup f) (mA f))∧PySem.Within mA (fs.map (·.1))∧fs.length≤1000∧H dx=some (.own a):=by
 obtain ⟨d,z,ne,ob,mA,n,r,q⟩:=(show ObjOk P w H h a (.ins C dx fs) from hok a _ e)
 exact ⟨mA,⟨ob,n,ne⟩,r,q,z,d⟩
end
structure Cls (K:PySem.W.Frag) (C:Addr):Prop where
 pg:PySem.W.plainGet K C Str.empty=true
 hd:PySem.W.hasDictIn K C=true
 po:PySem.W.plainOver K C=true
 sa:PySem.W.findIn K (.ref C) "__setattr__"=some (some (.builtin "object.__setattr__"))
theorem Cls.get {K:PySem.W.Frag} {C:Addr} (c:Cls K C) (f:Str):PySem.W.plainGet K C f=true:=c.pg
def NoAttr (K:PySem.W.Frag) (C:Addr) (f:Str):Prop:=PySem.W.findIn K (.ref C) f=some none
theorem NoAttr.taker {K:PySem.W.Frag} {C:Addr} {f:Str} (n:NoAttr K C f):PySem.W.takerIn K C f=some none:=by
 unfold PySem.W.takerIn
 rw [show PySem.W.findIn K (.ref C) f=some none from n]
 rfl
structure JN (K:PySem.W.Frag) (C:Addr) (m:Str) (f:Addr):Prop where
 at_:PySem.W.findIn K (.ref C) m=some (some (.ref f))
 fn:PySem.W.isFn K (.ref f)=true
 kp:PySem.W.keepIn K (.ref f)=true
section
variable {X:Cx} {pins:List (Addr×Obj)} {σ:St} {H:Hp} {s:Shared} {a C dx:Addr} {fs:List (Str×V)} {f:Str} {v:V} {A:Around} {E:Value→Shared→Prop}
theorem Wi {b:Bool} {Q:Value→Shared→Prop} (I:Inv X pins σ H s) (e:H a=some (.ins C dx fs)) (c:Cls X.K C) (n:NoAttr X.K C f) (l:fs.lookup f=some v)
 (h:∀u s',Inv X pins σ H s'→RelV v u→Q u s'):wpAny (model X.prog X.w) A (getAttr (.ref a) f b) Q E s:=by
 obtain ⟨mA,O,r,_,_,_⟩:=L9 I.hok e
 obtain ⟨u,hu,ru⟩:=RelO.some_of (v:=v) (o:=mA f) (by rw [←l];exact r f)
 exact Wc I.kIn O (c.get f) c.hd n hu (Wh ru) (h u _ (I.tok _) ru)
theorem O9 {m:Str} {g:Addr} {pl:Sem Bool} {Q:Value×List Value→Shared→Prop} (I:Inv X pins σ H s) (e:H a=some (.ins C dx fs)) (c:Cls X.K C) (k:JN X.K C m g) (l:fs.lookup m=none)
 (h:Q (.ref g,[.ref a]) s):wpAny (model X.prog X.w) A (getMethod (.ref a) m pl) Q E s:=by
 obtain ⟨mA,O,r,_,_,_⟩:=L9 I.hok e
 have hn:mA m=none:=RelO.none_of (by rw [←l];exact r m)
 exact Wd I.kIn O (c.get m) k.at_ k.fn hn h
theorem Wj {y:V} {u:Value} {Q:Unit→Shared→Prop} (I:Inv X pins σ H s) (e:H a=some (.ins C dx fs)) (c:Cls X.K C) (n:NoAttr X.K C f) (hl:fs.length<1000) (ry:RelV y u)
 (h:∀s',Inv X pins σ (Aj H a (.ins C dx (B6 f y fs))) s'→Q () s'):wpAny (model X.prog X.w) A (setAttr (.ref a) f u) Q E s:=by
 obtain ⟨mA,O,r,wi,_,ho⟩:=L9 I.hok e
 have hz:(fs.map (·.1)).length≤sizeLine:=by rw [Bt,sizeLine_eq];omega
 refine Wf I.kIn O c.sa c.po n.taker c.hd wi hz fun h' O' sb=>h _ ?_
 have hd:∃o,h'.get? dx=some o:=let ⟨o,_,_,e',_⟩:=O'.ns;⟨o,e'⟩
 refine I.write (x:=a) (e:=dx) (by rw [e];exact True.intro) (.inr ho) (fun b q hb z=>(sb.2 b hb).trans z) hd ?_
 refine ⟨by rw [AB O.ne];exact ho,?_,O.ne,O'.obj,_,O'.ns,fun g=>?_,fun g hg=>?_⟩
 ·have:=O8 f y fs;omega
 ·show RelO ((B6 f y fs).lookup g) (if g=f then some u else mA g)
  rw [O7]
  by_cases q:g=f
  ·rw [if_pos q,if_pos q];exact ry
  ·rw [if_neg q,if_neg q];exact r g
 ·by_cases q:g=f
  ·rw [q];exact (L8 f y fs).1
  ·refine (L8 f y fs).2 g (wi g fun z=>hg ?_)
   show (if g=f then some u else mA g)=none
   rw [if_neg q];exact z
theorem Inv.made (I:Inv X pins σ H s):Inv X pins σ (Aj (Aj H s.heap.objs.size (.own (s.heap.objs.size+1))) (s.heap.objs.size+1) (.ins C s.heap.objs.size []))
 {s with heap:=(s.heap.push PySem.W.emptyDict).push (PySem.W.instObj C s.heap.objs.size)}:=by
 have e1:(s.heap.push PySem.W.emptyDict).get? s.heap.objs.size=some PySem.W.emptyDict:=BM s.heap rfl
 have e2:((s.heap.push PySem.W.emptyDict).push (PySem.W.instObj C s.heap.objs.size)).get? (s.heap.objs.size+1)=some (PySem.W.instObj C s.heap.objs.size):=by
  have:=BM (s.heap.push PySem.W.emptyDict) (o:=PySem.W.instObj C s.heap.objs.size) rfl
  rwa [EX] at this
 have e3:(s.heap.push PySem.W.emptyDict).Ns s.heap.objs.size (fun _=>none):=⟨PySem.W.emptyDict,#[],_,e1,rfl,(fun e he=>absurd he (by simp)),fun _=>rfl⟩
 have I1:=I.laid (a:=s.heap.objs.size) (o:=.own (s.heap.objs.size+1)) (h':=s.heap.push PySem.W.emptyDict) (t':=s.toks) (fun b u q=>A5 _ q) (Au _) ⟨_,e1⟩
 refine I1.laid (a:=s.heap.objs.size+1) (o:=.ins C s.heap.objs.size []) (t':=s.toks) (fun b u q=>A5 _ q) (GZ (EX _ _)) ?_
 have ne:s.heap.objs.size≠s.heap.objs.size+1:=Cd (Nat.lt_succ_self _)
 refine ⟨by rw [AB ne,Cy],DL _,ne,e2,fun _=>none,(Heap.Ns1.of_empty e3).at fun o q=>A5 _ q,fun _=>True.intro,fun y hy=>absurd rfl hy⟩
theorem Wk {prog:Program} {w:World} {env:Env} {e:Expr} {f:Str} {pos:Pos} {s:Shared} {Q:Value→Shared→Prop} (hb:attributeBase e f env (eval e env)=eval e env)
 (h:wpAny (model prog w) A (eval e env) (fun o s₁=>wpAny (model prog w) A (getAttr o f true) Q E s₁) E s):wpAny (model prog w) A (eval (.Attribute e f pos) env) Q E s:=
 Attribute_any_ h (by rw [arm_eval_Attribute,hb])
end
def Wl (K:PySem.W.Frag) (ta:TE) (f:Str):TE:=fun σ H Q=>ta σ H fun x H1=>∃a C dx fs v,x=.ref a∧H1 a=some (.ins C dx fs)∧Cls K C∧NoAttr K C f∧fs.lookup f=some v∧Q v H1
def Wm (K:PySem.W.Frag) (ta tv:TE) (f:Str):TS:=fun D σ H=>tv σ H fun y H1=>ta σ H1 fun x H2=>∃a C dx fs,x=.ref a∧H2 a=some (.ins C dx fs)∧Cls K C∧NoAttr K C f∧fs.length<1000∧
 D.nx σ (Aj H2 a (.ins C dx (B6 f y fs)))
section
variable {X:Cx} {o e value:Expr} {f:Str} {pos pos' tpos:Pos} {ta tv:TE}
theorem Wn (he:PE X e ta) (hb:attributeBase e f X.env (eval e X.env)=eval e X.env):PE X (.Attribute e f pos) (Wl X.K ta f):=by
 intro pins s σ H Q I h
 refine Wk hb (Am (he pins s σ H _ I h) fun u s1 z60_=>?_)
 obtain ⟨x,H1,I1,rx,a,C,dx,fs,v,ex,ea,c,n,l,q⟩:=z60_
 subst ex
 obtain rfl:u=Value.ref a:=rx
 exact Wi I1 ea c n l fun u' s2 I2 ru=>⟨v,H1,I2,ru,q⟩
theorem Wo (ha:PE X o ta) (hv:PE X value tv) (hs:swapsWith value (some (.Attribute o f pos')) pos.line X.env=pure false):PS X (.Assign [.Attribute o f pos'] value pos) (Wm X.K ta tv f):=by
 intro pins s σ H D I h
 refine plainObj_wpAny_Assign_Attribute (Am (hv pins s σ H _ I h) ?_) hs
 rintro u s1 ⟨y,H1,I1,ry,q⟩
 refine Am (ha pins s1 σ H1 _ I1 q) fun ov s2 z63_=>?_
 obtain ⟨x,H2,I2,rx,a,C,dx,fs,ex,ea,c,n,l,q2⟩:=z63_
 subst ex
 obtain rfl:ov=Value.ref a:=rx
 exact Wj I2 ea c n l ry fun s3 I3=>⟨σ,_,I3,q2⟩
end
section
variable {X:Cx} {pins:List (Addr×Obj)} {σ:St} {H:Hp} {s:Shared} {A:Around} {E:Value→Shared→Prop} {Q:Value→Shared→Prop} {c:Value} {b:Bool}
inductive Ej (K:PySem.W.Frag) (H:Hp):V→Value→Prop where
 |non:Ej K H .non (.type "NoneType")
 |bl (x:Bool):Ej K H (.bl x) (.type "bool")
 |int (i:Int):Ej K H (.int i) (.type "int")
 |str (x:Str):Ej K H (.str x) (.type "str")
 |flt (x:UInt64):Ej K H (.flt x) (.type "float")
 |lst {a:Addr} {xs:List V} (e:H a=some (.lst xs)):Ej K H (.ref a) (.type "list")
 |frz {a:Addr} {o:Obj} {xs:List V} (e:H a=some (.frz o (.lst xs))):Ej K H (.ref a) (.type "list")
 |tup {a:Addr} {xs:List V} (e:SqT K H a xs):Ej K H (.ref a) (.type "tuple")
theorem Wq {x:V} {u t:Value} (I:Inv X pins σ H s) (rx:RelV x u) (ty:Ej X.K H x t) (e:PySem.W.kitOne X.K t c=some b) (h:∀tk,Q (.bool b) {s with toks:=tk}):
 wpAny (model X.prog X.w) A (call (.builtin "isinstance") [u,c]) Q E s:=by
 cases ty with
 |non=>cases (show u=Value.none from rx);exact PySem.W.kia_one PySem.W.kitx_none I.kIn True.intro e (fun z=>nomatch z) h
 |bl y=>cases (show u=Value.bool y from rx);exact PySem.W.kia_one PySem.W.kitx_bool I.kIn True.intro e (fun z=>nomatch z) h
 |int i=>obtain ⟨t,q⟩:=(show ∃t,u=Value.int i t from rx);cases q;exact PySem.W.kia_one PySem.W.kitx_int I.kIn True.intro e (fun z=>nomatch z) h
 |str y=>obtain ⟨t,q⟩:=(show ∃t,u=Value.str y t from rx);cases q;exact PySem.W.kia_one PySem.W.kitx_str I.kIn True.intro e (fun z=>nomatch z) h
 |flt y=>obtain ⟨t,q⟩:=(show ∃t,u=Value.float y t from rx);cases q;exact PySem.W.kia_one PySem.W.kitx_float I.kIn True.intro e (fun z=>nomatch z) h
 |@lst a xs ea=>
  cases (show u=Value.ref a from rx)
  obtain ⟨_,_,n,_,h1⟩:=(show ObjOk X.prog X.w H s.heap a (.lst xs) from I.hok a _ ea)
  exact PySem.W.kia_one PySem.W.kitx_list I.kIn ⟨_,h1,rfl⟩ e (fun z=>nomatch z) h
 |@frz a ob xs ea=>
  cases (show u=Value.ref a from rx)
  obtain ⟨_,_,_,n,_,h1⟩:=(show ObjOk X.prog X.w H s.heap a (.frz ob (.lst xs)) from I.hok a _ ea)
  exact PySem.W.kia_one PySem.W.kitx_list I.kIn ⟨_,h1,rfl⟩ e (fun z=>nomatch z) h
 |@tup a xs ea=>
  cases (show u=Value.ref a from rx)
  obtain ⟨_,_,p,_⟩:=I.tuple ea
  obtain ⟨o,h1,h2,_⟩:=p
  exact PySem.W.kia_one PySem.W.kitx_tuple I.kIn ⟨o,h1,h2⟩ e (fun z=>nomatch z) h
end
structure Room (k:Nat) (A:Around):Prop where
 hd:A.handled=none
 dp:A.depth+3*k+5<recursionLimit
 un:A.units+16*k+200<cLine
 gd:A.guards=some []
theorem Room.mono {j k:Nat} {A:Around} (r:Room k A) (h:j≤k):Room j A:=⟨r.hd,by have:=r.dp;omega,by have:=r.un;omega,r.gd⟩
theorem Room.deeper {k:Nat} {A:Around} (r:Room (k+1) A) (env:Env):Room k (A.deeper env):=
 ⟨r.hd,by have:=r.dp;show A.depth+1+3*k+5<_;omega,by have:=r.un;show A.units+3+16*k+200<_;omega,r.gd⟩
theorem Wr {A:Around} {C:Addr} {us:List Value} {kw:List (Str×Value)}:(A.under (.builtin "type.__call__" ⟨.ref C::us,kw⟩)).depth=A.depth+1:=by
 first |rfl |simp [Around.under,Code.weight,Code.isCreation,Code.isGuard,Code.isCaller,Code.frames,Code.isFrame,guardIds]
theorem Ws {A:Around} {C:Addr} {us:List Value} {kw:List (Str×Value)}:(A.under (.builtin "type.__call__" ⟨.ref C::us,kw⟩)).units=A.units+1:=by
 first |rfl |simp [Around.under,Code.cUnits,Code.frames,Code.isFrame]
theorem Room.make {k:Nat} {A:Around} (r:Room (k+1) A) (C:Addr) (us:List Value) (kw:List (Str×Value)):Room k (A.under (.builtin "type.__call__" ⟨.ref C::us,kw⟩)):=
 ⟨r.hd,by have:=r.dp;rw [Wr];omega,by have:=r.un;rw [Ws];omega,by first |exact r.gd |(show pushGuards _ _=_;rw [r.gd];rfl)⟩
theorem Room.depth {k:Nat} {A:Around} (r:Room k A):A.depth<recursionLimit:=by have:=r.dp;omega
theorem Room.units {k:Nat} {A:Around} (r:Room k A):A.units+64<cLine:=by have:=r.un;omega
def Ma:TA:=fun _ H Q=>Q [] H
def Wt (ta:TE) (tr:TA):TA:=fun σ H Q=>ta σ H fun x H1=>tr σ H1 fun xs H2=>Q (x::xs) H2
section
variable {X:Cx} {e:Expr} {es:List Expr} {te:TE} {t:TA} {pos:Pos}
theorem Wu:PA X [] Ma:=fun _ _ _ _ H Q I h=>Calls.spliced_nil ⟨[],H,I,.nil,h⟩
theorem Wv (ha:PE X e te) (hr:PA X es t) (hs:starEach (e::es) X.env=(false,eval e X.env)::starEach es X.env:=by rfl):PA X (e::es) (Wt te t):=by
 intro pos pins s σ H Q I h
 rw [hs]
 show wpAny _ _ (spliced ((false,eval e X.env)::backTo pos (starEach es X.env))) _ _ s
 refine Calls.spliced_cons (Am (ha pins s σ H _ I h) fun u s1 z68_=>?_)
 obtain ⟨x,H1,I1,r1,q1⟩:=z68_
 exact Am (hr pos pins s1 σ H1 _ I1 q1) fun us s2 z69_=>by obtain ⟨xs,H2,I2,r2,q2⟩:=z69_;exact (⟨x::xs,H2,I2,.cons r1 r2,q2⟩)
def Ww (t:TA):TE:=fun σ H Q=>t σ H fun xs H1=>xs.length≤sizeLine∧∀p,H1 p=none→Q (.ref p) (Aj H1 p (.tup xs))
def Wx (t:TA):TE:=fun σ H Q=>t σ H fun xs H1=>xs.length≤sizeLine∧∀p,H1 p=none→Q (.ref p) (Aj H1 p (.lst xs))
theorem Wy {x1} (h:PA X es t):PE X (.Tuple es x1 pos) (Ww t):=by
 intro pins s σ H Q I hq
 refine wpAny_Tuple_spliced (Am (h pos pins s σ H _ I hq) fun us s1 ⟨xs,H1,I1,r,z,q⟩=>⟨by rw [←r.length];exact z,?_⟩)
 have hf:H1 s1.heap.objs.size=none:=I1.hok.fresh (Au _)
 refine ⟨.ref s1.heap.objs.size,Aj H1 s1.heap.objs.size (.tup xs),I1.laid (t':=s1.toks) (fun b u e=>A5 _ e) (Au _) ?_,rfl,q _ hf⟩
 exact ⟨z,us,r,⟨_,BM _ rfl,rfl,_,rfl⟩,NoDict.new⟩
theorem Wz (h:PA X es t):PE X (.List es pos) (Wx t):=by
 intro pins s σ H Q I hq
 refine wpAny_List_spliced (Am (h pos pins s σ H _ I hq) fun us s1 ⟨xs,H1,I1,r,z,q⟩=>⟨by rw [←r.length];exact z,?_⟩)
 have hf:H1 s1.heap.objs.size=none:=I1.hok.fresh (Au _)
 refine ⟨.ref s1.heap.objs.size,Aj H1 s1.heap.objs.size (.lst xs),I1.laid (t':=s1.toks) (fun b u e=>A5 _ e) (Au _) ?_,rfl,q _ hf⟩
 exact ⟨z,us,0,r,BM _ rfl⟩
end
abbrev Sp:=List V→Hp→VK→XK→Prop
abbrev DZ:=List Env→Hp→Shared→XK→Value→Shared→Prop
structure Env0 (P:Program) (w:World) (K:PySem.W.Frag) (mg:Str→Option Value) (base:Heap) (A:Around) (outer:List Env) (s:Shared) (H:Hp):Prop where
 frames:A.frames=some outer
 mod:Mod K mg base
 bs:∀b o,base.get? b=some o→s.heap.get? b=some o∧H b=none
 bsz:base.objs.size≤s.heap.objs.size
 funs:s.heap.FunFrames base outer
 frf:∀b∈frs outer,H b=none
 hok:HOk P w H s.heap
 bare:AllBare s.gens
inductive CE (outer:List Env) (P:Program) (w:World) (H:Hp) (s:Shared) (Q:VK) (u:Value) (s':Shared):Prop where
 |mk (v:V) (H':Hp) (os:s'.os=s.os) (bare:AllBare s'.gens) (un:Un (frs outer) [] H H' s.heap s'.heap) (hok:HOk P w H' s'.heap) (r:RelV v u) (q:Q v H'):CE outer P w H s Q u s'
def CR (CX:DZ) (outer:List Env) (P:Program) (w:World) (H:Hp) (s:Shared) (Q:VK) (E:XK) (r:Result) (s':Shared):Prop:=
 match r with
 |.ok (.ret u)=>CE outer P w H s Q u s'
 |.ok _=>False
 |.error e=>CX outer H s E e s'
structure FnOk (P:Program) (w:World) (K:PySem.W.Frag) (mg:Str→Option Value) (base:Heap) (CX:DZ) (k:Nat) (f:Addr) (fd:FuncData) (ps:List Str) (sp:Sp):Prop where
 len:∀vs H Q E,sp vs H Q E→vs.length=ps.length
 run:∀(A:Around) (outer:List Env) (s:Shared) (H:Hp) (args:Args) (us:List Value) (vs:List V) (Q:VK) (E:XK),Room k A→Env0 P w K mg base A outer s H→BindsTo s fd args (ps.zip us)→Vals vs us→sp vs H Q E→
  codeAny (model P w) A (.call (.ref f) args) (CR CX outer P w H s Q E) s
theorem FnOk.mono {P:Program} {w:World} {K:PySem.W.Frag} {mg:Str→Option Value} {base:Heap} {CX:DZ} {j k:Nat} {f:Addr} {fd:FuncData} {ps:List Str} {sp:Sp} (F:FnOk P w K mg base CX j f fd ps sp) (h:j≤k):
 FnOk P w K mg base CX k f fd ps sp:=⟨F.len,fun A outer s H args us vs Q E hr=>F.run A outer s H args us vs Q E (hr.mono h)⟩
theorem FnOk.imp {P:Program} {w:World} {K:PySem.W.Frag} {mg:Str→Option Value} {base:Heap} {CX:DZ} {k:Nat} {f:Addr} {fd:FuncData} {ps:List Str} {sp sp':Sp} (F:FnOk P w K mg base CX k f fd ps sp)
 (h:∀vs H Q E,sp' vs H Q E→sp vs H Q E):FnOk P w K mg base CX k f fd ps sp':=
 ⟨fun vs H Q E q=>F.len vs H Q E (h _ _ _ _ q),fun A outer s H args us vs Q E hr he hb hv hs=>F.run A outer s H args us vs Q E hr he hb hv (h _ _ _ _ hs)⟩
theorem Env0.make {P:Program} {w:World} {K:PySem.W.Frag} {mg:Str→Option Value} {base:Heap} {A:Around} {outer:List Env} {s:Shared} {H:Hp} (e:Env0 P w K mg base A outer s H) (C:Addr) (us:List Value) (kw:List (Str×Value)):
 Env0 P w K mg base (A.under (.builtin "type.__call__" ⟨.ref C::us,kw⟩)) outer s H:=⟨by first |exact e.frames |(simpa [Around.under,Code.envs,Code.isFrame,pushEnvs] using e.frames),e.mod,e.bs,e.bsz,e.funs,e.frf,e.hok,e.bare⟩
section
variable {X:Cx} {pins:List (Addr×Obj)} {σ:St} {H:Hp} {s s':Shared}
theorem Inv.env0 (I:Inv X pins σ H s):Env0 X.prog X.w X.K X.mg X.base X.A X.stack s H:=
 ⟨I.ok.frames,I.ok.mod,I.bs,BG I.ok.bsz I.sz,I.stack,I.stkFree,I.hok,I.bare⟩
theorem Inv.after {Q:VK} {u:Value} (I:Inv X pins σ H s) (h:CE X.stack X.prog X.w H s Q u s'):EP X pins σ Q u s':=by
 obtain ⟨v,H',os,bare,un,hok,r,q⟩:=h
 obtain ⟨hh,g,d,t,os'⟩:=s'
 obtain rfl:os'=s.os:=os
 exact ⟨v,H',I.call (h':=hh) (g':=g) (d':=d) (t':=t) (ch:=[]) un hok bare (fun b z=>absurd z (by simp)),r,q⟩
end
def WB (sp:Sp) (dvs:List V) (E:XK) (t:TA):TE:=fun σ H Q=>t σ H fun vs H1=>sp (vs++dvs) H1 Q E
def Pa (C:Addr) (m:Str) (sp:Sp) (dvs:List V) (E:XK) (ta:TE) (t:TA):TE:=fun σ H Q=>ta σ H fun x H1=>∃a dx fs,x=.ref a∧H1 a=some (.ins C dx fs)∧fs.lookup m=none∧
 t σ H1 fun vs H2=>sp (x::(vs++dvs)) H2 Q E
def Pb (C:Addr) (sp:Sp) (dvs:List V) (E:XK) (t:TA):TE:=fun σ H Q=>t σ H fun vs H1=>∀x dx,H1 x=none→H1 dx=none→dx≠x→
 sp (.ref x::(vs++dvs)) (Aj (Aj H1 dx (.own x)) x (.ins C dx [])) (fun v H2=>v=.non∧Q (.ref x) H2) E
def Binds (K:PySem.W.Frag) (fd:FuncData) (ps:List Str) (ds:List Value):Prop:=
 ∀(s:Shared) (us:List Value),K.In s.heap→(us++ds).length=ps.length→BindsTo s fd ⟨us,[]⟩ (ps.zip (us++ds))
theorem Binds.all {K:PySem.W.Frag} {fd:FuncData} {ps:List Str} (h:∀us:List Value,us.length=ps.length→bindArgs fd ⟨us,[]⟩=pure (ps.zip us)):Binds K fd ps []:=fun s us _ hl=>by
 rw [EW] at hl ⊢
 exact .of_eq (h us hl)
def CM (CX:DZ) (X:Cx) (E:XK):Prop:=∀(pins:List (Addr×Obj)) (σ:St) (H:Hp) (s:Shared) (e:Value) (s':Shared),Inv X pins σ H s→CX X.stack H s E e s'→X.xe e s'
section
variable {X:Cx} {CX:DZ} {k:Nat} {f C:Addr} {fd:FuncData} {ps:List Str} {sp:Sp} {dvs:List V} {ds:List Value} {E:XK} {x m:Str} {p pos apos:Pos} {e o:Expr} {es:List Expr} {ta:TE} {t:TA}
theorem Mb {pins:List (Addr×Obj)} {σ:St} {H:Hp} {s:Shared} {Q:VK} {us:List Value} {vs:List V} (F:FnOk X.prog X.w X.K X.mg X.base CX k f fd ps sp) (hr:Room k X.A) (hb:Binds X.K fd ps ds) (hd:Vals dvs ds) (hx:CM CX X E)
 (I:Inv X pins σ H s) (r:Vals vs us) (h:sp (vs++dvs) H Q E):wpAny (model X.prog X.w) X.A (call (.ref f) us) (EP X pins σ Q) X.xe s:=by
 have r2:Vals (vs++dvs) (us++ds):=r.append hd
 have hl:(us++ds).length=ps.length:=by rw [←r2.length];exact F.len _ _ _ _ h
 refine wpAny_call (codeAny_mono (F.run X.A X.stack s H ⟨us,[]⟩ (us++ds) (vs++dvs) Q E hr I.env0 (hb s us I.kIn hl) r2 h) fun r s' hq=>?_)
 cases r with
 |error e=>exact hx pins σ H s e s' I hq
 |ok fl=>
  cases fl with
  |ret u=>exact I.after hq
  |next=>exact False.elim hq
  |brk=>exact False.elim hq
  |cont=>exact False.elim hq
theorem WC (F:FnOk X.prog X.w X.K X.mg X.base CX k f fd ps sp) (hr:Room k X.A) (hg:Gl X x) (hm:X.mg x=some (.ref f)) (hk:PySem.W.keepIn X.K (.ref f)=true) (hb:Binds X.K fd ps ds) (hd:Vals dvs ds) (hx:CM CX X E)
 (ha:PA X (e::es) t) (hdb:(x==("__debug__":Str))=false:=by decide) (he:starEach (e::es) X.env=(false,eval e X.env)::starEach es X.env:=by rfl) (hpl:(backTo pos (starEach es X.env)).any (·.1)=false:=by rfl):
 PE X (.Call (.Name x p) (e::es) [] pos) (WB sp dvs E t):=by
 intro pins s σ H Q I h
 refine wpAny_Call_Name_kw (Fs I hg hm ?_ hdb)
 refine PySem.W.callWith_K (h₀:=X.base) I.ok.mod.kin hk (Am (ha pos pins s σ H _ I h) ?_) he hpl
 rintro us s1 ⟨vs,H1,I1,r,q⟩
 refine ⟨I1.kIn,?_⟩
 exact Mb F hr hb hd hx I1 r q
theorem WD {pl:Sem Bool} (he:PE X o ta) (c:Cls X.K C) (hm:JN X.K C m f) (F:FnOk X.prog X.w X.K X.mg X.base CX k f fd ps sp) (hr:Room k X.A) (hb:Binds X.K fd ps ds) (hd:Vals dvs ds) (hx:CM CX X E) (ha:PA X (e::es) t)
 (hst:starEach (e::es) X.env=(false,eval e X.env)::starEach es X.env:=by rfl) (hpl:(backTo pos (starEach es X.env)).any (·.1)=false:=by rfl)
 (ht:eval (.Call (.Attribute o m apos) (e::es) [] pos) X.env=(do
  let ov ←eval o X.env
  standAt apos.atName
  let (f,first) ←holding [ov] (getMethod ov m pl)
  callWith pos f first (backTo pos (starEach (e::es) X.env)) (backToKw pos (keywordEach [] X.env))):=by rfl):
 PE X (.Call (.Attribute o m apos) (e::es) [] pos) (Pa C m sp dvs E ta t):=by
 intro pins s σ H Q I h
 refine PySem.W.methodCall_KW (pl:=pl) (Am (he pins s σ H _ I h) fun u s1 z73_=>?_) ht
 obtain ⟨x,H1,I1,rx,a,dx,fs,ex,ea,l,q⟩:=z73_
 subst ex
 obtain rfl:u=Value.ref a:=rx
 refine O9 I1 ea c hm l ?_
 refine PySem.W.callWith_K (first:=[.ref a]) (h₀:=X.base) I.ok.mod.kin hm.kp (Am (ha pos pins s1 σ H1 _ I1 q) ?_) hst hpl
 rintro us s2 ⟨vs,H2,I2,r,q2⟩
 refine ⟨I2.kIn,?_⟩
 exact Mb (us:=.ref a::us) (vs:=.ref a::vs) F hr hb hd hx I2 (.cons rfl r) q2
theorem WG {pl:Sem Bool} (he:PE X o ta) (c:Cls X.K C) (hm:JN X.K C m f) (F:FnOk X.prog X.w X.K X.mg X.base CX k f fd ps sp) (hr:Room k X.A) (hb:Binds X.K fd ps ds) (hd:Vals dvs ds) (hx:CM CX X E)
 (ht:eval (.Call (.Attribute o m apos) [] [] pos) X.env=(do
  let ov ←eval o X.env
  standAt apos.atName
  let (f,first) ←holding [ov] (getMethod ov m pl)
  callWith pos f first (backTo pos (starEach [] X.env)) (backToKw pos (keywordEach [] X.env))):=by rfl):
 PE X (.Call (.Attribute o m apos) [] [] pos) (Pa C m sp dvs E ta Ma):=by
 intro pins s σ H Q I h
 refine PySem.W.methodCall_KW (pl:=pl) (Am (he pins s σ H _ I h) fun u s1 z75_=>?_) ht
 obtain ⟨x,H1,I1,rx,a,dx,fs,ex,ea,l,q⟩:=z75_
 subst ex
 obtain rfl:u=Value.ref a:=rx
 refine O9 I1 ea c hm l ?_
 exact PySem.W.callWith_K0 (first:=[.ref a]) I1.kIn hm.kp (Mb (us:=[.ref a]) (vs:=[.ref a]) F hr hb hd hx I1 (.cons rfl .nil) q)
structure Mk (K:PySem.W.Frag) (C f:Addr):Prop where
 makes:PySem.W.makesIn K C=true
 init:PySem.W.findIn K (.ref C) "__init__"=some (some (.ref f))
 fn:PySem.W.isFn K (.ref f)=true
 kp:PySem.W.keepIn K (.ref C)=true
theorem Pc {pins:List (Addr×Obj)} {σ:St} {H:Hp} {s:Shared} {Q:VK} {us:List Value} {vs:List V} (M:Mk X.K C f) (F:FnOk X.prog X.w X.K X.mg X.base CX k f fd ps sp) (hr:Room (k+1) X.A) (hb:Binds X.K fd ps ds) (hd:Vals dvs ds)
 (hx:CM CX X E) (I:Inv X pins σ H s) (r:Vals vs us)
 (h:∀x dx,H x=none→H dx=none→dx≠x→sp (.ref x::(vs++dvs)) (Aj (Aj H dx (.own x)) x (.ins C dx [])) (fun v H2=>v=.non∧Q (.ref x) H2) E):
 wpAny (model X.prog X.w) X.A (call (.ref C) us) (EP X pins σ Q) X.xe s:=by
 have hq:=h (s.heap.objs.size+1) s.heap.objs.size (I.hok.fresh (Nat.le_succ _)) (I.hok.fresh (Au _)) (Cd (Nat.lt_succ_self _))
 have I2:=Inv.made (C:=C) I
 have r2:Vals (V.ref (s.heap.objs.size+1)::(vs++dvs)) (Value.ref (s.heap.objs.size+1)::(us++ds)):=.cons rfl (r.append hd)
 have hl:(Value.ref (s.heap.objs.size+1)::us++ds).length=ps.length:=by
  have e:=r2.length
  rw [F.len _ _ _ _ hq] at e
  exact e.symm
 refine wpAny_call (Wg (f:=f) I.kIn M.makes M.init (beq_iff_eq.mp M.fn) (codeAny_mono (F.run _ X.stack _ _ ⟨Value.ref (s.heap.objs.size+1)::us,[]⟩ (Value.ref (s.heap.objs.size+1)::(us++ds)) _ _ E (hr.make C us [])
  (I2.env0.make C us []) (hb _ (Value.ref (s.heap.objs.size+1)::us) I2.kIn hl) r2 hq) fun r s' hq'=>?_))
 cases r with
 |error e=>exact hx pins σ _ _ e s' I2 hq'
 |ok fl=>
  cases fl with
  |ret u=>
   obtain ⟨v,H',I3,rv,ev,q3⟩:=I2.after hq'
   subst ev
   exact ⟨rv,⟨V.ref (s.heap.objs.size+1),H',I3,rfl,q3⟩⟩
  |next=>exact False.elim hq'
  |brk=>exact False.elim hq'
  |cont=>exact False.elim hq'
theorem WH (M:Mk X.K C f) (F:FnOk X.prog X.w X.K X.mg X.base CX k f fd ps sp) (hr:Room (k+1) X.A) (hg:Gl X x) (hm:X.mg x=some (.ref C)) (hb:Binds X.K fd ps ds) (hd:Vals dvs ds) (hx:CM CX X E)
 (ha:PA X (e::es) t) (hdb:(x==("__debug__":Str))=false:=by decide) (he:starEach (e::es) X.env=(false,eval e X.env)::starEach es X.env:=by rfl) (hpl:(backTo pos (starEach es X.env)).any (·.1)=false:=by rfl):
 PE X (.Call (.Name x p) (e::es) [] pos) (Pb C sp dvs E t):=by
 intro pins s σ H Q I h
 refine wpAny_Call_Name_kw (Fs I hg hm ?_ hdb)
 refine PySem.W.callWith_K (h₀:=X.base) I.ok.mod.kin M.kp (Am (ha pos pins s σ H _ I h) ?_) he hpl
 rintro us s1 ⟨vs,H1,I1,r,q⟩
 refine ⟨I1.kIn,?_⟩
 exact Pc M F hr hb hd hx I1 r q
theorem WI (M:Mk X.K C f) (F:FnOk X.prog X.w X.K X.mg X.base CX k f fd ps sp) (hr:Room (k+1) X.A) (hg:Gl X x) (hm:X.mg x=some (.ref C)) (hb:Binds X.K fd ps ds) (hd:Vals dvs ds) (hx:CM CX X E)
 (hdb:(x==("__debug__":Str))=false:=by decide):PE X (.Call (.Name x p) [] [] pos) (Pb C sp dvs E Ma):=by
 intro pins s σ H Q I h
 refine wpAny_Call_Name_kw (Fs I hg hm ?_ hdb)
 exact PySem.W.callWith_K0 I.kIn M.kp (Pc (us:=[]) M F hr hb hd hx I .nil h)
end
section
variable {X:Cx} {CX:DZ} {k:Nat} {f C:Addr} {fd:FuncData} {ps ks:List Str} {sp:Sp} {E:XK} {x m:Str} {p pos apos kpos:Pos} {e o:Expr} {es:List Expr} {kws:List Keyword} {te ta:TE} {t tk:TA} {nm:Option Str}
variable {g:List Value→List Value→List Value} {gV:List V→List V→List V}
end
structure Dq (N P:List Str) (sc:Scope):Prop where
 kind:sc.kind=.function
 co:sc.isCoroutine=false
 gen:sc.isGenerator=false
 nd:N.Nodup
 pre:N.take P.length=P
 par:∀x∈P,sc.names.lookup x=some .local∨sc.names.lookup x=some .cell
 nofree:∀y∈sc.names,y.2≠.free
theorem Pd {kindOf:Str→Option NameKind} {x:Str}:∀{binds:List (Str×Value)} {m:Str→Option Value},(∀v,(x,v)∉binds)→bindL kindOf binds m x=m x
 |[],_,_=>rfl
 |(n,v)::r,m,h=>by
  unfold bindL
  rw [Pd fun w hw=>h w (Be _ hw)]
  split
  ·have:x≠n:=by rintro rfl;exact h v Bf
   simp [this]
  ·rfl
theorem Pe {kindOf:Str→Option NameKind} {x:Str}:∀{binds:List (Str×Value)} {m:Str→Option Value},(∀v,(x,v)∉binds)→bindC kindOf binds m x=m x
 |[],_,_=>rfl
 |(n,v)::r,m,h=>by
  unfold bindC
  rw [Pe fun w hw=>h w (Be _ hw)]
  split
  ·rfl
  ·have:x≠n:=by rintro rfl;exact h v Bf
   simp [this]
theorem Mc {kindOf:Str→Option NameKind} {x:Str} {v:Value}:∀{P:List Str} {vs:List Value} {i:Nat} {m:Str→Option Value},P.Nodup→P[i]?=some x→vs[i]?=some v→kindOf x=some .local→
 bindL kindOf (P.zip vs) m x=some v
 |[],_,_,_,_,h,_,_=>by simp at h
 |_::_,[],_,_,_,_,h,_=>by simp at h
 |p::P,w::vs,0,m,nd,h1,h2,hk=>by
  simp at h1 h2;subst h1;subst h2
  show bindL kindOf ((p,w)::P.zip vs) m p=_
  unfold bindL
  rw [Pd fun v hv=>(qbA.mp nd).1 (Jw hv).1,if_pos hk]
  simp
 |p::P,w::vs,i+1,m,nd,h1,h2,hk=>by
  show bindL kindOf ((p,w)::P.zip vs) m x=_
  unfold bindL
  exact Mc (i:=i) (qbA.mp nd).2 (by simpa using h1) (by simpa using h2) hk
theorem Md {kindOf:Str→Option NameKind} {x:Str} {v:Value}:∀{P:List Str} {vs:List Value} {i:Nat} {m:Str→Option Value},P.Nodup→P[i]?=some x→vs[i]?=some v→kindOf x≠some .local→
 bindC kindOf (P.zip vs) m x=some v
 |[],_,_,_,_,h,_,_=>by simp at h
 |_::_,[],_,_,_,_,h,_=>by simp at h
 |p::P,w::vs,0,m,nd,h1,h2,hk=>by
  simp at h1 h2;subst h1;subst h2
  show bindC kindOf ((p,w)::P.zip vs) m p=_
  unfold bindC
  rw [Pe fun v hv=>(qbA.mp nd).1 (Jw hv).1,if_neg hk]
  simp
 |p::P,w::vs,i+1,m,nd,h1,h2,hk=>by
  show bindC kindOf ((p,w)::P.zip vs) m x=_
  unfold bindC
  exact Md (i:=i) (qbA.mp nd).2 (by simpa using h1) (by simpa using h2) hk
def start (N:List Str) (vs:List V):St:=vs.map some++List.replicate (N.length - vs.length) none
def BO (CX:DZ) (P:Program) (w:World) (K:PySem.W.Frag) (mg:Str→Option Value) (base:Heap) (N:List Str) (qual:Str) (scope:Scope) (f:Addr) (cd:Value) (A:Around) (outer:List Env) (s:Shared) (H:Hp) (E:XK):Cx where
 prog:=P
 w:=w
 K:=K
 mg:=mg
 base:=base
 A:=A.deeper (envOfC qual scope s.heap.objs.size f cd)
 N:=N
 s₀:=s
 H₀:=H
 env:=envOfC qual scope s.heap.objs.size f cd
 outer:=outer
 stack:=envOfC qual scope s.heap.objs.size f cd::outer
 ex:=[]
 calm:=true
 fn:=fun _=>true
 pn:=[]
 xe:=fun e s'=>wpAny (model P w) (A.deeper (envOfC qual scope s.heap.objs.size f cd)) (leaving (envOfC qual scope s.heap.objs.size f cd) e) (fun _ s''=>CX outer H s E e s'') (fun e' s''=>CX outer H s E e' s'') s'
theorem JO {sc:Scope} {n:Nat} {x:Str} (h:sc.names.lookup x=some .cell):∃c,(cellsFrom n sc.names []).lookup x=some c:=by
 have q:=PySem.W.cellsFrom_some sc.names n [] (.inl h)
 exact qbB.mp q
theorem Pf {CX:DZ} {P:Program} {w:World} {K:PySem.W.Frag} {mg:Str→Option Value} {base:Heap} {N ps:List Str} {qual:Str} {scope:Scope} {f:Addr} {cd:Value} {A:Around} {outer:List Env} {s s1:Shared} {H:Hp} {E:XK} {us:List Value} {vs:List V}
 (S:Dq N ps scope) (hd:A.handled=none) (e0:Env0 P w K mg base A outer s H) (hl:vs.length=ps.length) (r:Vals vs us)
 (x:InCallC s s.heap.objs.size (bindL (envOfC qual scope s.heap.objs.size f cd).kindOf (ps.zip us) fun _=>none) (cellsFrom (s.heap.objs.size+1) scope.names []) (bindC (envOfC qual scope s.heap.objs.size f cd).kindOf (ps.zip us) fun _=>none) s1):
 Inv (BO CX P w K mg base N qual scope f cd A outer s H E) [] (start N vs) H s1:=by
 have hpl:ps.length≤N.length:=by have:=congrArg List.length S.pre;rw [GY] at this;omega
 obtain ⟨h1,tk,rfl,hk⟩:=x.done
 have noA:∀b:Addr,b∉(BO CX P w K mg base N qual scope f cd A outer s H E).ex:=fun b z=>absurd (show b∈([]:List Addr) from z) (by simp)
 refine ⟨⟨e0.mod,S.kind,rfl,rfl,Au _,fun y z c h1 h2=>?_,fun y hy=>?_,fun y c _ h=>?_,fun _=>hd,Around.frames_deeper e0.frames,.inr ⟨rfl,rfl⟩,fun b z=>absurd z (noA b),e0.bs,e0.bsz,fun b _ _=>noA b,fun b z=>absurd z (noA b),e0.funs,e0.frf⟩,
  rfl,e0.bare,Un.kept hk,⟨_,x.toInCall.ns,fun i y v h1 h2 h3=>?_⟩,fun y c h=>⟨_,x.cell y c h⟩,e0.hok.fresh (Au _),fun y c h=>?_,fun p hp=>absurd (show p∈([]:List (Addr×Obj)) from hp) (by simp),e0.hok.kept hk,?_⟩
 ·exact name_of_addr x.apart (PySem.mem_of_lookup h1) (PySem.mem_of_lookup h2)
 ·have hy:scope.names.lookup y=some .cell∨scope.names.lookup y=some .free:=hy
  rcases hy with hy |hy
  ·exact JO hy
  ·exact absurd rfl (S.nofree _ (PySem.mem_of_lookup hy))
 ·exact Fq (x.above y c (PySem.mem_of_lookup h))
 ·have hi:i<vs.length:=by
   unfold start at h2
   by_cases hi:i<vs.length
   ·exact hi
   ·rw [HU (by simpa using hi)] at h2
    rw [LI] at h2
    split at h2<;>cases h2
  have ha:vs[i]?=some v:=by
   unfold start at h2
   rw [DJ (by simpa using hi),CK] at h2
   cases e:vs[i]? with
   |none=>rw [e] at h2;cases h2
   |some a=>rw [e] at h2;cases h2;rfl
  obtain ⟨u,hu,rv⟩:=r.get ha
  have hp:ps[i]?=some y:=by
   rw [←S.pre,List.getElem?_take_of_lt (by omega)];exact h1
  have ndP:ps.Nodup:=by rw [←S.pre];exact S.nd.sublist (List.take_sublist _ _)
  refine ⟨u,rv,?_⟩
  rcases S.par y (EV hp) with k |k
  ·exact .inl ⟨k,Mc ndP hp hu k⟩
  ·obtain ⟨c,e⟩:=JO (n:=s.heap.objs.size+1) k
   refine .inr ⟨.inl k,c,e,?_⟩
   have q:=x.cell y c e
   rw [Md ndP hp hu (by show scope.names.lookup y≠_;rw [k];decide)] at q
   exact q
 ·exact e0.hok.fresh (Fq (x.above y c (PySem.mem_of_lookup h)))
 ·unfold start
  show _=N.length
  rw [Ca,Bt,List.length_replicate]
  omega
theorem Pg {CX:DZ} {P:Program} {w:World} {K:PySem.W.Frag} {mg:Str→Option Value} {base:Heap} {k:Nat} {f:Addr} {name qual:Str} {params:Arguments} {body:List Stmt} {scope:Scope} {dV kV doc pm cdv ct oc:Value} {an od:Option Addr}
 {osl:Array (Option Value)} {N ps:List Str} {sp:Sp} (lk:K.lookup f=some ⟨oc,od,.func (PySem.W.fnOf name qual params body scope dV kV doc pm an cdv ct),osl⟩) (hcd:PySem.W.codeIn K cdv qual=true) (S:Dq N ps scope)
 (len:∀vs H Q E,sp vs H Q E→vs.length=ps.length)
 (hbody:∀(A:Around) (outer:List Env) (s:Shared) (H:Hp) (vs:List V) (Q:VK) (E:XK),Room k (A.deeper (envOfC qual scope s.heap.objs.size f cdv))→sp vs H Q E→
  ∃t,Do (BO CX P w K mg base N qual scope f cdv A outer s H E) body t∧t {nx:=fun _ H'=>Q .non H',rt:=Q} (start N vs) H):
 FnOk P w K mg base CX (k+1) f (PySem.W.fnOf name qual params body scope dV kV doc pm an cdv ct) ps sp:=by
 refine ⟨len,fun A outer s H args us vs Q E hr e0 hb r hsp=>?_⟩
 have hl:=len _ _ _ _ hsp
 have KX:K.In s.heap:=e0.mod.kin.keeps fun b o e=>(e0.bs b o e).1
 have lim:s.heap.NoLimit:=e0.mod.nolimit.keeps fun b o e=>(e0.bs b o e).1
 have hkind:∀y∈ps.zip us,scope.names.lookup y.1=some .local∨(scope.names.lookup y.1=some .cell∧((cellsFrom (s.heap.objs.size+1) scope.names []).lookup y.1).isSome=true):=fun z81_ hy=>by
  obtain ⟨n,v⟩:=z81_
  rcases S.par n (Jw hy).1 with q |q
  ·exact .inl q
  ·exact .inr ⟨q,PySem.W.cellsFrom_some _ _ _ (.inl q)⟩
 refine codeAny_call_function hr.depth (KX _ _ lk) rfl S.co S.gen rfl (PySem.W.codeRec_of KX hcd) (hb _ _ _ _ ?_)
 refine wpAny_newFunctionEnv_cells S.kind hkind fun env he s1 x=>?_
 subst he
 refine ⟨lim.keeps x.toInCall.keep,codeAny_func ?_⟩
 obtain ⟨t,ht,hq⟩:=hbody A outer s H vs Q E (hr.deeper _) hsp
 have I:Inv (BO CX P w K mg base N qual scope f cdv A outer s H E) [] (start N vs) H s1:=Pf S hr.hd e0 hl r x
 refine wpAny_mono (ht [] s1 (start N vs) H _ I hq) (fun fl s' hs=>?_) fun e s' hs=>hs
 have AF:∀{σ':St} {H':Hp} {v:V} {u:Value},Inv (BO CX P w K mg base N qual scope f cdv A outer s H E) [] σ' H' s'→RelV v u→Q v H'→CE outer P w H s Q u s':=
  fun {σ' H' v u} J rv q=>⟨v,H',J.os,J.bare,J.base,J.hok,rv,q⟩
 cases fl with
 |ret u=>
  obtain ⟨v,σ',H',J,rv,q⟩:=hs
  exact AF J rv q
 |next=>
  obtain ⟨σ',H',J,q⟩:=hs
  exact AF (v:=V.non) (u:=Value.none) J rfl q
 |brk=>
  obtain ⟨_,_,_,q⟩:=hs
  exact False.elim q
 |cont=>
  obtain ⟨_,_,_,q⟩:=hs
  exact False.elim q
section
variable {X:Cx} {x:Str} {p pos:Pos} {e:Expr} {es:List Expr} {t:TA} {id T:String} {r:List V→Hp→VK→Prop}
def Ph (r:List V→Hp→VK→Prop) (t:TA):TE:=fun σ H Q=>t σ H fun vs H1=>r vs H1 Q
theorem WJ (hc:Dp X (.builtin id) r) (hg:Gl X x) (hm:X.mg x=none) (hv:bootBuiltins x=some (.builtin id)) (ha:PA X (e::es) t) (hn:x≠"__name__":=by decide) (hdb:(x==("__debug__":Str))=false:=by decide)
 (he:starEach (e::es) X.env=(false,eval e X.env)::starEach es X.env:=by rfl) (hpl:(backTo pos (starEach es X.env)).any (·.1)=false:=by rfl):PE X (.Call (.Name x p) (e::es) [] pos) (Ph r t):=by
 intro pins s σ H Q I h
 refine wpAny_Call_Name_kw (JF I hg hm hv ?_ hn hdb)
 exact PyProof.Rows.callWith_builtin1 (Am (ha pos pins s σ H _ I h) fun us s1 z82_=>by obtain ⟨vs,H1,I1,r1,q1⟩:=z82_;exact (hc pins s1 σ H1 vs us Q I1 r1 q1)) he hpl
theorem WK (hc:Dp X (.type T) r) (hg:Gl X x) (hm:X.mg x=none) (hv:bootBuiltins x=some (.type T)) (ha:PA X (e::es) t) (hn:x≠"__name__":=by decide) (hdb:(x==("__debug__":Str))=false:=by decide)
 (he:starEach (e::es) X.env=(false,eval e X.env)::starEach es X.env:=by rfl) (hpl:(backTo pos (starEach es X.env)).any (·.1)=false:=by rfl):PE X (.Call (.Name x p) (e::es) [] pos) (Ph r t):=by
 intro pins s σ H Q I h
 refine wpAny_Call_Name_kw (JF I hg hm hv ?_ hn hdb)
 exact PyProof.Rows.callWith_type1 (Am (ha pos pins s σ H _ I h) fun us s1 z83_=>by obtain ⟨vs,H1,I1,r1,q1⟩:=z83_;exact (hc pins s1 σ H1 vs us Q I1 r1 q1)) he hpl
end
end L2
namespace HT
open PySem PyProof.Rows
def lexLt:List Int→List Int→Bool
 |[],[]=>false
 |[],_::_=>true
 |_::_,[]=>false
 |x::xs,y::ys=>if x=y then lexLt xs ys else decide (x<y)
section
open PySem.SeqAt
open PySem.AutoSeq1 (wpAny_loadPart')
open PySem.MeetsSeq PySem.MeetsSeq2 PySem.MeetsSeq3
end
section
variable {prog:Program} {w:World} {A:Around} {E:Value→Shared→Prop} {s:Shared}
theorem cat_tup {t b:Addr} {vs ws:List Value} {Q:Value→Shared→Prop} (ht:IsTup s.heap t vs.toArray) (hb:IsTup s.heap b ws.toArray) (hv:vs≠[])
 (h1:ws=[]→Q (.ref t) s) (h2:ws≠[]→Q (.ref s.heap.objs.size) {s with heap:=s.heap.push {cls:=.type "tuple",data:=.seq (vs++ws).toArray}})
 (hsz:vs.length+ws.length≤sizeLine):wpAny (model prog w) A (binaryOp .Add (.ref t) (.ref b)) Q E s:=by
 obtain ⟨⟨cls,dd,data,sl⟩,ho,hc,n,hd⟩:=id ht
 obtain ⟨⟨cls2,dd2,data2,sl2⟩,ho2,hc2,n2,hd2⟩:=id hb
 simp only at hc hd hc2 hd2
 subst hc hd hc2 hd2
 have e:vs.toArray++ws.toArray=(vs++ws).toArray:=by simp
 by_cases hw:ws=[]
 ·exact concat_meets ⟨_,ho,rfl⟩ ⟨_,ho2,rfl⟩ noFill_tuple_add seq_tuple_add PySem.F.slot_tuple_add PySem.F.entry_tuple_add (PySem.F.args_tuple_add_2 _ _)
   (tuple_addW1 t b vs.toArray ws.toArray n n2 dd dd2 sl sl2 (by simpa using hv) (by simp [hw])) ⟨ho,ho2,h1 hw⟩
 ·refine concat_meets ⟨_,ho,rfl⟩ ⟨_,ho2,rfl⟩ noFill_tuple_add seq_tuple_add PySem.F.slot_tuple_add PySem.F.entry_tuple_add (PySem.F.args_tuple_add_2 _ _)
   (tuple_addW2 t b vs.toArray ws.toArray n n2 dd dd2 sl sl2 (by simpa using hv) (by simpa using hw) (by rw [Bs,Bs];exact hsz)) ⟨ho,ho2,?_⟩
  rw [e]
  exact h2 hw
def sIx (n d:Nat):Option Int→Nat
 |none=>d
 |some v=>if v<0 then (v+(n:Int)).toNat else min v.toNat n
theorem sIx_nat (n d k:Nat):sIx n d (some (k:Int))=min k n:=by
 show (if (k:Int)<0 then ((k:Int)+(n:Int)).toNat else min (k:Int).toNat n)=min k n
 rw [if_neg (by omega),Int.toNat_natCast]
theorem sIx_le (n d:Nat) (hd:d≤n) (o:Option Int):sIx n d o≤n:=by
 cases o with
 |none=>exact hd
 |some v=>
  show (if v<0 then (v+(n:Int)).toNat else min v.toNat n)≤n
  by_cases hv:v<0
  ·rw [if_pos hv];omega
  ·rw [if_neg hv];exact Nat.min_le_right _ _
theorem clip_eq (v:Int) (n d:Nat):(if v<0 then max (v+(n:Int)) 0 else min v (n:Int))=((sIx n d (some v):Nat):Int):=by
 show (if v<0 then max (v+(n:Int)) 0 else min v (n:Int))=(((if v<0 then (v+(n:Int)).toNat else min v.toNat n):Nat):Int)
 by_cases hv:v<0
 ·simp only [if_pos hv];omega
 ·simp only [if_neg hv];omega
end
end HT
namespace L2
open PySem PySem.Spec PyProof.Rows
abbrev TO:=St→Hp→(Option Int→Hp→Prop)→Prop
def PO (X:Cx) (e:Option Expr) (t:TO):Prop:=
 ∀(pins:List (Addr×Obj)) (s:Shared) (σ:St) (H:Hp) (Q:Option Int→Hp→Prop),Inv X pins σ H s→t σ H Q→
  wpAny (model X.prog X.w) X.A (evalPart e X.env) (fun u s'=>∃o H',Inv X pins σ H' s'∧IsPart u o∧Q o H') X.xe s
def WM:TO:=fun _ H Q=>Q none H
def WN (t:TE):TO:=fun σ H Q=>t σ H fun x H1=>∃i,x=.int i∧Q (some i) H1
section
variable {X:Cx} {e:Expr} {te:TE} {lo hi:Option Expr} {tl th:TO} {pos p2:Pos}
theorem WO:PO X none WM:=by
 intro pins s σ H Q I h
 rw [evalPart_none]
 exact wpAny_pure ⟨none,H,I,.none,h⟩
theorem WQ (h:PE X e te):PO X (some e) (WN te):=by
 intro pins s σ H Q I hw
 rw [evalPart_some]
 refine Am (h pins s σ H _ I hw) fun u s1 z84_=>?_
 obtain ⟨x,H1,I1,r1,q1⟩:=z84_
 obtain ⟨i,rfl,q⟩:=q1
 obtain ⟨t,rfl⟩:=r1
 exact ⟨some i,H1,I1,.int i t,q⟩
def SlR (X:Cx) (r:V→Option Int→Option Int→Hp→VK→Prop):Prop:=
 ∀(pins:List (Addr×Obj)) (s:Shared) (σ:St) (H:Hp) (x:V) (v vl vu:Value) (lo hi:Option Int) (sl:Addr) (Q:VK),Inv X pins σ H s→RelV x v→s.heap.IsSliceOf sl vl vu .none→IsPart vl lo→IsPart vu hi→r x lo hi H Q→
  ∃T id,typeLookup (.type T) "__getitem__"=pure (some (.builtin id))∧s.TypeIs v T∧wpAny (model X.prog X.w) X.A (getItem v (.ref sl)) (EP X pins σ Q) X.xe s
theorem SlR.or {r r':V→Option Int→Option Int→Hp→VK→Prop} (h:SlR X r) (h':SlR X r'):SlR X (fun x lo hi H Q=>r x lo hi H Q∨r' x lo hi H Q):=by
 intro pins s σ H x v vl vu lo hi sl Q I rx hs pl pu q
 rcases q with q |q
 ·exact h pins s σ H x v vl vu lo hi sl Q I rx hs pl pu q
 ·exact h' pins s σ H x v vl vu lo hi sl Q I rx hs pl pu q
def WR (r:V→Option Int→Option Int→Hp→VK→Prop) (te:TE) (tl th:TO):TE:=fun σ H Q=>te σ H fun x H1=>tl σ H1 fun l H2=>th σ H2 fun u H3=>r x l u H3 Q
theorem Pi {r:V→Option Int→Option Int→Hp→VK→Prop} (hr:SlR X r) (he:PE X e te) (hl:PO X lo tl) (hu:PO X hi th):PE X (.Subscript e (.Slice lo hi none p2) pos) (WR r te tl th):=by
 intro pins s σ H Q I h
 refine Subscript_ (Am (he pins s σ H _ I h) fun v s1 z85_=>?_)
 obtain ⟨x,H1,I1,r1,q1⟩:=z85_
 refine wpAny_Slice (Am (hl pins s1 σ H1 _ I1 q1) ?_)
 rintro vl s2 ⟨l,H2,I2,pl,q2⟩
 refine Am (hu pins s2 σ H2 _ I2 q2) fun vu s3 z87_=>?_
 obtain ⟨u,H3,I3,pu,q3⟩:=z87_
 rw [evalPart_none]
 refine wpAny_pure ?_
 have I4:Inv X pins σ H3 {s3 with heap:=s3.heap.push {cls:=.type "slice",data:=.fields #[vl,vu,.none]}}:=I3.kept (t':=s3.toks) fun b ob q=>A5 _ q
 obtain ⟨T,id,hT,ht,hg⟩:=hr pins {s3 with heap:=s3.heap.push {cls:=.type "slice",data:=.fields #[vl,vu,.none]}} σ H3 x v vl vu l u s3.heap.objs.size Q I4 r1 (Heap.IsSliceOf.new ..) pl pu q3
 show wpAny (model X.prog X.w) X.A (subscriptTail e (.Slice lo hi none p2) v (.ref s3.heap.objs.size)) (EP X pins σ Q) X.xe {s3 with heap:=s3.heap.push {cls:=.type "slice",data:=.fields #[vl,vu,.none]}}
 exact tail_any (ops:=[.ref s3.heap.objs.size,v]) ht hT hg (by with_unfolding_all rfl)
def FT (xs:List V) (lo hi:Option Int):List V:=(xs.drop (HT.sIx xs.length 0 lo)).take (HT.sIx xs.length xs.length hi - HT.sIx xs.length 0 lo)
theorem WS (xs:List V) (lo hi:Option Int):(FT xs lo hi).length≤xs.length:=by
 unfold FT
 rw [GY,Fo]
 omega
def ZeQ (K:PySem.W.Frag):V→Option Int→Option Int→Hp→VK→Prop:=fun x lo hi H Q=>∃a xs,x=.ref a∧SqT K H a xs∧
 ¬(HT.sIx xs.length 0 lo=0∧HT.sIx xs.length xs.length hi=xs.length)∧∀p,H p=none→Q (.ref p) (Aj H p (.tup (FT xs lo hi)))
def WT (K:PySem.W.Frag):R2:=fun x y H Q=>∃a b xs ys,x=.ref a∧y=.ref b∧SqT K H a xs∧SqT K H b ys∧xs≠[]∧xs.length+ys.length≤sizeLine∧
 (ys=[]→Q (.ref a) H)∧(ys≠[]→∀p,H p=none→Q (.ref p) (Aj H p (.tup (xs++ys))))
theorem Vals.nil_iff {xs:List V} {us:List Value} (r:Vals xs us):us=[]↔xs=[]:=by
 cases r with
 |nil=>simp
 |cons _ _=>simp
theorem op_catT:OpR X (binaryOp .Add) (WT X.K):=by
 intro pins s σ H x y v u Q I rx ry h
 obtain ⟨a,b,xs,ys,rfl,rfl,ha,hb,hx,hz,q1,q2⟩:=h
 cases rx
 cases ry
 obtain ⟨its,r1,p1,_⟩:=I.tuple ha
 obtain ⟨its2,r2,p2,_⟩:=I.tuple hb
 refine HT.cat_tup p1 p2 (fun z=>hx (r1.nil_iff.mp z)) (fun z=>⟨.ref a,H,I,rfl,q1 (r2.nil_iff.mp z)⟩) (fun z=>?_) (by rw [←r1.length,←r2.length];exact hz)
 refine ⟨.ref s.heap.objs.size,_,I.laid (t':=s.toks) (o:=.tup (xs++ys)) (fun b ob q=>A5 _ q) (Au _) ?_,rfl,q2 (fun w=>z (r2.nil_iff.mpr w)) _ (I.hok.fresh (Au _))⟩
 exact ⟨by rw [Ca];exact hz,_,r1.append r2,IsTup.new _ _,NoDict.new⟩
end
def CU (n:Nat) (i:Int):Option Nat:=if 0≤i then (if i<n then some i.toNat else none) else if -(n:Int)≤i then some (i+n).toNat else none
def BY {α:Type} (xs:List α) (i:Int):Option α:=(CU xs.length i).bind fun j=>xs[j]?
theorem Pj {n:Nat} {i:Int} {j:Nat} (h:CU n i=some j):seqIndex? i n=some j∧j<n∧-(n:Int)≤i∧i<n:=by
 unfold CU at h
 by_cases h0:0≤i
 ·rw [if_pos h0] at h
  by_cases h1:i<n
  ·rw [if_pos h1] at h
   have e:i.toNat=j:=Option.some.inj h
   exact ⟨by rw [seqIndex_of h0 h1,e],by omega,by omega,h1⟩
  ·rw [if_neg h1] at h;cases h
 ·rw [if_neg h0] at h
  by_cases h1:-(n:Int)≤i
  ·rw [if_pos h1] at h
   have e:(i+n).toNat=j:=Option.some.inj h
   exact ⟨by rw [seqIndex_neg (by omega) h1,e],by omega,h1,by omega⟩
  ·rw [if_neg h1] at h;cases h
theorem Me {α:Type} {xs:List α} {i:Int} {v:α} (h:BY xs i=some v):∃j,seqIndex? i xs.length=some j∧xs[j]?=some v∧j<xs.length∧-(xs.length:Int)≤i∧i<xs.length:=by
 unfold BY at h
 cases e:CU xs.length i with
 |none=>rw [e] at h;cases h
 |some j=>
  rw [e] at h
  obtain ⟨h1,h2,h3,h4⟩:=Pj e
  exact ⟨j,h1,h,h2,h3,h4⟩
def Mf (b:Expr):Prop:=∀o i,subscripted b false o i=operate [o,i] (getItem o i)
def IxR (X:Cx) (r:R2):Prop:=
 ∀(value slice:Expr) (pins:List (Addr×Obj)) (s:Shared) (σ:St) (H:Hp) (x y:V) (v u:Value) (Q:VK),Inv X pins σ H s→RelV x v→RelV y u→r x y H Q→
  subscripted slice false v u=operate [v,u] (getItem v u)→wpAny (model X.prog X.w) X.A (subscriptTail value slice v u) (EP X pins σ Q) X.xe s
def Il (X:Cx) (id:String) (r:V→List V→Hp→VK→Prop):Prop:=
 ∀(pins:List (Addr×Obj)) (s:Shared) (σ:St) (H:Hp) (x:V) (xs:List V) (v:Value) (us:List Value) (Q:VK),Inv X pins σ H s→RelV x v→Vals xs us→r x xs H Q→
  wpAny (model X.prog X.w) X.A (call (.builtin id) (v::us)) (EP X pins σ Q) X.xe s
section
variable {X:Cx} {a b:Expr} {ta tb:TE} {pos:Pos}
theorem IxR.or {r r':R2} (h:IxR X r) (h':IxR X r'):IxR X (fun x y H Q=>r x y H Q∨r' x y H Q):=by
 intro value slice pins s σ H x y v u Q I rx ry q hs
 rcases q with q |q
 ·exact h value slice pins s σ H x y v u Q I rx ry q hs
 ·exact h' value slice pins s σ H x y v u Q I rx ry q hs
theorem Pk {r:R2} (hr:IxR X r) (ha:PE X a ta) (hb:PE X b tb) (hs:Mf b):PE X (.Subscript a b pos) (JL r ta tb):=by
 intro pins s σ H Q I h
 exact Subscript_ (LZ ha hb I h fun v u s2 x y H2 I2 rx ry q=>hr a b pins s2 σ H2 x y v u Q I2 rx ry q (hs _ _))
def WU (K:PySem.W.Frag):R2:=fun x y H Q=>∃p xs i v,x=.ref p∧y=.int i∧SqL K H p xs∧BY xs i=some v∧Q v H
def WV (K:PySem.W.Frag):R2:=fun x y H Q=>∃p xs i v,x=.ref p∧y=.int i∧SqT K H p xs∧BY xs i=some v∧Q v H
def WW:R2:=fun x y H Q=>∃z i c,x=.str z∧y=.int i∧z.length≤sizeLine∧BY z.cps.toList i=some c∧Q (.str ⟨#[c]⟩) H
theorem ix_list:IxR X (WU X.K):=by
 intro value slice pins s σ H x y v u Q I rx ry h hs
 obtain ⟨p,xs,i,z,rfl,rfl,hq,he,q⟩:=h
 cases rx
 obtain ⟨t,rfl⟩:=ry
 obtain ⟨its,r,pl,hz⟩:=I.list hq
 obtain ⟨j,h1,h2,h3,h4,h5⟩:=Me he
 obtain ⟨w,ew,rw'⟩:=r.get h2
 have hl:=r.length
 have hn:=Fv
 have AF:EP X pins σ Q w s:=⟨z,H,I,rw',q⟩
 by_cases h0:0≤i
 ·have hj:i.toNat=j:=by
   rw [seqIndex_of h0 h5] at h1
   exact Option.some.inj h1
  exact item_listR pl.isList h0 (by omega) (by rw [hj];simpa using ew) AF hs
 ·have hj:(i+(its.toArray.size:Int)).toNat=j:=by
   rw [seqIndex_neg (by omega) h4] at h1
   rw [Bs,←hl]
   exact Option.some.inj h1
  exact subscriptTail_builtinR (x:=w) pl.isList.typeIs slot_list_getitem.lookup
   (wpAny_getItem_list_neg (Q:=fun r s'=>r=w∧EP X pins σ Q r s') pl.isList (by omega) (by rw [Bs]<;>omega) (by omega) (by rw [hj];simpa using ew) ⟨rfl,AF⟩) hs
theorem ix_tup:IxR X (WV X.K):=by
 intro value slice pins s σ H x y v u Q I rx ry h hs
 obtain ⟨p,xs,i,z,rfl,rfl,hq,he,q⟩:=h
 cases rx
 obtain ⟨t,rfl⟩:=ry
 obtain ⟨its,r,pl,hz⟩:=I.tuple hq
 obtain ⟨j,h1,h2,h3,h4,h5⟩:=Me he
 obtain ⟨w,ew,rw'⟩:=r.get h2
 have hl:=r.length
 have hn:=Fv
 have AF:EP X pins σ Q w s:=⟨z,H,I,rw',q⟩
 exact subscriptTail_builtinR (x:=w) pl.typeIs slot_tuple_getitem.lookup
  (getItem_tuple (j:=j) (Q:=fun r s'=>r=w∧EP X pins σ Q r s') pl (by omega) (by omega) (by rw [Bs,←hl];exact h1) (by simpa using ew) ⟨rfl,AF⟩) hs
theorem WX:IxR X WW:=by
 intro value slice pins s σ H x y v u Q I rx ry h hs
 obtain ⟨z,i,c,rfl,rfl,hz,he,q⟩:=h
 obtain ⟨t,rfl⟩:=rx
 obtain ⟨t',rfl⟩:=ry
 obtain ⟨j,h1,h2,h3,h4,h5⟩:=Me he
 have hl:z.cps.toList.length=z.length:=by simp [Str.length]
 rw [hl] at h1 h4 h5
 have hn:=Fv
 exact tail_any (typeIs_str s z t) slot_str_getitem.lookup (getItem_str (c:=c) (by
  have e1:decide (i < -(2^63:Int))=false:=decide_eq_false (by omega)
  have e2:decide (i≥2^63)=false:=decide_eq_false (by omega)
  rw [e1,e2,Bool.or_false]) (by rw [h1];simpa using h2) ⟨.str ⟨#[c]⟩,H,I.tok _,⟨_,rfl⟩,q⟩) hs
theorem WY (its:List Value) (n j:Nat) (u:Value):Obj.mapSeq (·.setIfInBounds j u) {cls:=.type "list",data:=.seq its.toArray n}={cls:=.type "list",data:=.seq (its.set j u).toArray n}:=by
 simp [Obj.mapSeq]
theorem Inv.lst {pins:List (Addr×Obj)} {σ:St} {H:Hp} {s:Shared} {p:Addr} {xs:List V} (I:Inv X pins σ H s) (h:H p=some (.lst xs)):
 ∃(its:List Value) (n:Nat),Vals xs its∧s.heap.get? p=some {cls:=.type "list",data:=.seq its.toArray n}∧xs.length≤sizeLine:=by
 obtain ⟨z,its,n,r,e⟩:=I.hok p _ h
 exact ⟨its,n,r,e,z⟩
theorem Inv.lstUpd {pins:List (Addr×Obj)} {σ:St} {H:Hp} {s:Shared} {p:Addr} {xs ys:List V} {its its':List Value} {n n':Nat} {f:Obj→Obj} (I:Inv X pins σ H s) (h:H p=some (.lst xs))
 (ho:s.heap.get? p=some {cls:=.type "list",data:=.seq its.toArray n}) (hf:f {cls:=.type "list",data:=.seq its.toArray n}={cls:=.type "list",data:=.seq its'.toArray n'}) (r:Vals ys its') (hz:ys.length≤sizeLine) (t:Nat):
 Inv X pins σ (Aj H p (.lst ys)) {s with heap:=s.heap.update p f,toks:=t}:=by
 have e:(s.heap.update p f).get? p=some {cls:=.type "list",data:=.seq its'.toArray n'}:=by
  rw [Heap.get?_update_self f ho (by rw [hf]<;>rfl),hf]
 refine I.write (x:=p) (e:=p) (by rw [h];trivial) (.inl rfl) (fun b u hb q=>(LJ _ _ (Ne.symm hb)).trans q) ⟨_,e⟩ ?_
 exact ⟨hz,its',n',r,e⟩
def WZ:V→V→V→Hp→(Hp→Prop)→Prop:=fun o i v H Q=>∃p xs k j,o=.ref p∧i=.int k∧H p=some (.lst xs)∧CU xs.length k=some j∧Q (Aj H p (.lst (xs.set j v)))
theorem W0:OQ X WZ:=by
 intro pins s σ H o i v ov iv u Q I ro ri rv h
 obtain ⟨p,xs,k,j,rfl,rfl,hp,hj,q⟩:=h
 cases ro
 obtain ⟨t,rfl⟩:=ri
 obtain ⟨its,n,r,ho,hz⟩:=I.lst hp
 obtain ⟨h1,h2,h3,h4⟩:=Pj hj
 have hl:=r.length
 have hn:=Fv
 have I':Inv X pins σ (Aj H p (.lst (xs.set j v))) {s with heap:=s.heap.update p (Obj.mapSeq (·.setIfInBounds j u))}:=
  I.lstUpd hp ho (WY its n j u) (r.set rv j) (by rw [Jx];exact hz) s.toks
 by_cases h0:0≤k
 ·have hk:k.toNat=j:=by
   rw [seqIndex_of h0 h4] at h1
   exact Option.some.inj h1
  exact PySem.W.ki_setAt ho h0 (by omega) (by rw [Bs,←hl];exact h4) (by rw [hk];exact ⟨_,I',q⟩)
 ·have hk:(k+(its.toArray.size:Int)).toNat=j:=by
   rw [seqIndex_neg (by omega) h3] at h1
   rw [Bs,←hl]
   exact Option.some.inj h1
  exact PySem.W.ki_setBack ho (by omega) (by rw [Bs,←hl];exact h3) (by omega) (by rw [hk];exact ⟨_,I',q⟩)
theorem W1 (lo hi:Option Int) (n:Nat):(sliceBounds lo hi none n).1=((HT.sIx n 0 lo:Nat):Int)∧(sliceBounds lo hi none n).2.1=((HT.sIx n n hi:Nat):Int)∧(sliceBounds lo hi none n).2.2=1:=by
 refine ⟨?_,?_,rfl⟩
 ·cases lo with
  |none=>simp [sliceBounds,HT.sIx]
  |some i=>
   simp only [sliceBounds,HT.sIx,Option.getD_none,show (1:Int)>0 by decide,if_true]
   by_cases h:i<0
   ·simp only [h,if_true]<;>omega
   ·simp only [h,if_false]<;>omega
 ·cases hi with
  |none=>simp [sliceBounds,HT.sIx]
  |some i=>
   simp only [sliceBounds,HT.sIx,Option.getD_none,show (1:Int)>0 by decide,if_true]
   by_cases h:i<0
   ·simp only [h,if_true]<;>omega
   ·simp only [h,if_false]<;>omega
theorem W2 (its:List Value) (lo hi:Option Int):slicePick its.toArray lo hi none=((its.drop (HT.sIx its.length 0 lo)).take (HT.sIx its.length its.length hi - HT.sIx its.length 0 lo)).toArray:=by
 obtain ⟨h1,h2,h3⟩:=W1 lo hi its.toArray.size
 unfold slicePick
 rw [h1,h2,h3]
 simp only [sliceRange_one,pick_run,Bs]<;>rfl
def W3 (K:PySem.W.Frag):V→Option Int→Option Int→Hp→VK→Prop:=fun x lo hi H Q=>∃a xs,x=.ref a∧SqL K H a xs∧∀p,H p=none→Q (.ref p) (Aj H p (.lst (FT xs lo hi)))
theorem W4:SlR X (W3 X.K):=by
 intro pins s σ H x v vl vu lo hi sl Q I rx hs pl pu h
 obtain ⟨a,xs,rfl,hx,q⟩:=h
 cases rx
 obtain ⟨its,r,ht,hz⟩:=I.list hx
 have hlen:=r.length
 refine ⟨"list",_,slot_list_getitem.lookup,ht.isList.typeIs,?_⟩
 refine wpAny_getItem_list_slice ht.isList hs pl pu .none (by simp) ?_ (by rw [Bs]<;>omega)
 rw [W2,←hlen]
 refine ⟨.ref s.heap.objs.size,_,I.laid (t':=s.toks) (o:=.lst (FT xs lo hi)) (fun b ob q=>A5 _ q) (Au _) ?_,rfl,q _ (I.hok.fresh (Au _))⟩
 exact ⟨BG (WS xs lo hi) hz,_,0,(r.drop (HT.sIx xs.length 0 lo)).take (HT.sIx xs.length xs.length hi - HT.sIx xs.length 0 lo),BM _ rfl⟩
def DN:V→Bool
 |.non=>true
 |.bl _=>true
 |.int _=>true
 |.str _=>true
 |_=>false
def D0:V→V→Bool
 |.non,.non=>true
 |.bl a,.bl b=>a==b
 |.bl a,.int b=>(if a then 1 else 0)==b
 |.int a,.bl b=>a==(if b then 1 else 0)
 |.int a,.int b=>a==b
 |.str a,.str b=>a==b
 |_,_=>false
theorem W5 {A:Around} {s:Shared} {y x:V} {u v:Value} (ry:RelV y u) (rx:RelV x v) (fy:DN y=true) (fx:DN x=true):SeqAt.EqAt A s u v (D0 y x):=by
 cases y with
 |non=>
  cases ry
  cases x with
  |non=>cases rx;exact SeqAt.EqAt.same _
  |bl b=>cases rx;exact SeqAt.EqAt.none_bool b
  |int b=>obtain ⟨t,rfl⟩:=rx;exact SeqAt.EqAt.none_int b t
  |str b=>obtain ⟨t,rfl⟩:=rx;exact SeqAt.EqAt.none_str b t
  |_=>exact absurd (show false=true from fx) BN
 |bl a=>
  cases ry
  cases x with
  |non=>cases rx;exact SeqAt.EqAt.bool_none a
  |bl b=>cases rx;exact SeqAt.EqAt.bool_bool a b
  |int b=>obtain ⟨t,rfl⟩:=rx;exact SeqAt.EqAt.bool_int a b t
  |str b=>obtain ⟨t,rfl⟩:=rx;exact SeqAt.EqAt.bool_str a b t
  |_=>exact absurd (show false=true from fx) BN
 |int a=>
  obtain ⟨t',rfl⟩:=ry
  cases x with
  |non=>cases rx;exact SeqAt.EqAt.int_none a t'
  |bl b=>cases rx;exact SeqAt.EqAt.int_bool a t' b
  |int b=>obtain ⟨t,rfl⟩:=rx;exact SeqAt.EqAt.int_int a t' b t
  |str b=>obtain ⟨t,rfl⟩:=rx;exact SeqAt.EqAt.int_str a t' b t
  |_=>exact absurd (show false=true from fx) BN
 |str a=>
  obtain ⟨t',rfl⟩:=ry
  cases x with
  |non=>cases rx;exact SeqAt.EqAt.str_none a t'
  |bl b=>cases rx;exact SeqAt.EqAt.str_bool a t' b
  |int b=>obtain ⟨t,rfl⟩:=rx;exact SeqAt.EqAt.str_int a t' b t
  |str b=>obtain ⟨t,rfl⟩:=rx;exact SeqAt.EqAt.str_str a t' b t
  |_=>exact absurd (show false=true from fx) BN
 |_=>exact absurd (show false=true from fy) BN
def B7 (x:V) (u:Value):Bool:=match u with
 |.none=>D0 .non x
 |.bool b=>D0 (.bl b) x
 |.int i _=>D0 (.int i) x
 |.str z _=>D0 (.str z) x
 |_=>false
theorem JP {x y:V} {u:Value} (r:RelV y u) (f:DN y=true):B7 x u=D0 y x:=by
 cases y with
 |non=>cases r;rfl
 |bl b=>cases r;rfl
 |int i=>obtain ⟨t,rfl⟩:=r;rfl
 |str z=>obtain ⟨t,rfl⟩:=r;rfl
 |_=>exact absurd (show false=true from f) BN
theorem Im {x:V}:∀{xs:List V} {us:List Value},Vals xs us→xs.all DN=true→us.any (B7 x)=xs.any fun y=>D0 y x
 |_,_,.nil,_=>rfl
 |y::xs,u::us,.cons r t,f=>by
  rw [List.all_cons,BX] at f
  rw [List.any_cons,List.any_cons,JP r f.1,Im t f.2]
theorem FU {A:Around} {s:Shared} {x:V} {v:Value} (rx:RelV x v) (fx:DN x=true):∀{xs:List V} {us:List Value},Vals xs us→xs.all DN=true→∀u∈us,SeqAt.EqAt A s u v (B7 x u)
 |_,_,.nil,_=>fun u hu=>by cases hu
 |y::xs,u::us,.cons r t,f=>fun u' hu=>by
  rw [List.all_cons,BX] at f
  rcases qa9.mp hu with rfl |hu
  ·rw [JP r f.1];exact W5 r rx f.1 fx
  ·exact FU rx fx t f.2 u' hu
def G1 (x:V) (xs:List V):Bool:=xs.any fun y=>D0 y x
def Mg (K:PySem.W.Frag) (neg:Bool):R2:=fun x y H Q=>∃p xs,y=.ref p∧(SqL K H p xs∨SqT K H p xs)∧DN x=true∧xs.all DN=true∧Q (.bl (if neg then !G1 x xs else G1 x xs)) H
theorem W6:OpR X (compareOp .In) (Mg X.K false):=by
 intro pins s σ H x y v u Q I rx ry h
 obtain ⟨p,xs,rfl,hq,fx,fs,q⟩:=h
 cases ry
 rcases hq with hq |hq
 ·obtain ⟨its,r,pl,hz⟩:=I.list hq
  refine SeqAt.in_listAt (B7 x) pl.isList (fun w hw=>FU rx fx r fs w (by simpa using hw)) ⟨.bl _,H,I,rfl,?_⟩
  rw [show its.toArray.any (B7 x)=its.any (B7 x) by simp,Im r fs]
  exact q
 ·obtain ⟨its,r,pl,hz⟩:=I.tuple hq
  refine SeqAt.in_tupleAt (B7 x) pl (fun w hw=>FU rx fx r fs w (by simpa using hw)) ⟨.bl _,H,I,rfl,?_⟩
  rw [show its.toArray.any (B7 x)=its.any (B7 x) by simp,Im r fs]
  exact q
theorem W7:OpR X (compareOp .NotIn) (Mg X.K true):=by
 intro pins s σ H x y v u Q I rx ry h
 obtain ⟨p,xs,rfl,hq,fx,fs,q⟩:=h
 cases ry
 rcases hq with hq |hq
 ·obtain ⟨its,r,pl,hz⟩:=I.list hq
  refine SeqAt.notIn_listAt (B7 x) pl.isList (fun w hw=>FU rx fx r fs w (by simpa using hw)) ⟨.bl _,H,I,rfl,?_⟩
  rw [show its.toArray.any (B7 x)=its.any (B7 x) by simp,Im r fs]
  exact q
 ·obtain ⟨its,r,pl,hz⟩:=I.tuple hq
  refine SeqAt.notIn_tupleAt (B7 x) pl (fun w hw=>FU rx fx r fs w (by simpa using hw)) ⟨.bl _,H,I,rfl,?_⟩
  rw [show its.toArray.any (B7 x)=its.any (B7 x) by simp,Im r fs]
  exact q
theorem W8:OpR X (compareOp .NotIn) (fun x y H Q=>∃i j,x=.str i∧y=.str j∧Q (.bl (!(!(Builtin.Str.occurrences j i 0 j.length 1).isEmpty))) H):=by
 intro pins s σ H x y v u Q I rx ry h
 obtain ⟨i,j,rfl,rfl,q⟩:=h
 obtain ⟨t,rfl⟩:=rx
 obtain ⟨t',rfl⟩:=ry
 exact notIn_str ⟨.bl _,H,I,rfl,q⟩
theorem W9:Dp X (.builtin "len") (fun xs H Q=>∃p ys,xs=[.ref p]∧(SqL X.K H p ys∨SqT X.K H p ys)∧Q (.int ys.length) H):=by
 intro pins s σ H xs us Q I r h
 obtain ⟨p,ys,rfl,hq,q⟩:=h
 obtain ⟨u,rfl,rx⟩:=E4 r
 cases rx
 have hn:=Fv
 rcases hq with hq |hq
 ·obtain ⟨its,r',pl,hz⟩:=I.list hq
  have hlen:=r'.length
  exact Calls.call_len_list pl.isList (by simp only [Bs]<;>omega) ⟨.int ys.length,H,I.tok _,⟨s.toks+1,by rw [Bs,hlen]⟩,q⟩
 ·obtain ⟨its,r',pl,hz⟩:=I.tuple hq
  have hlen:=r'.length
  exact len_tuple pl (by simp only [Bs]<;>omega) ⟨.int ys.length,H,I.tok _,⟨s.toks+1,by rw [Bs,hlen]⟩,q⟩
theorem Xa:Dp X (.builtin "len") (fun xs H Q=>∃z,xs=[.str z]∧z.length≤sizeLine∧Q (.int z.length) H):=by
 intro pins s σ H xs us Q I r h
 obtain ⟨z,rfl,hz,q⟩:=h
 obtain ⟨u,rfl,t,rfl⟩:=E4 r
 have hn:=Fv
 exact len_str (by omega) ⟨.int z.length,H,I.tok _,⟨_,rfl⟩,q⟩
theorem Xb:Dp X (.type "tuple") (fun xs H Q=>∃p ys,xs=[.ref p]∧((SqL X.K H p ys∧∀l,H l=none→Q (.ref l) (Aj H l (.tup ys)))∨(SqT X.K H p ys∧Q (.ref p) H))):=by
 intro pins s σ H xs us Q I r h
 obtain ⟨p,ys,rfl,h⟩:=h
 obtain ⟨u,rfl,rx⟩:=E4 r
 cases rx
 rcases h with ⟨hq,q⟩ |⟨hq,q⟩
 ·obtain ⟨its,r',pl,hz⟩:=I.list hq
  have hlen:=r'.length
  refine call_tuple_list pl.isList (fun h' kp=>?_) (by simp only [Bs]<;>omega)
  have I1:Inv X pins σ H {s with heap:=h'}:=I.kept (t':=s.toks) kp
  have I2:Inv X pins σ (Aj H h'.objs.size (.tup ys)) {s with heap:=h'.push {cls:=.type "tuple",data:=.seq its.toArray}}:=
   I1.laid (t':=s.toks) (fun b o e=>A5 _ e) (Au _) (show ObjOk X.prog X.w _ _ _ (.tup ys) from ⟨hz,its,r',IsTup.new _ _,NoDict.new⟩)
  exact ⟨.ref h'.objs.size,_,I2,rfl,q _ (I1.hok.fresh (Au _))⟩
 ·obtain ⟨its,r',pl,hz⟩:=I.tuple hq
  exact call_tuple_same pl ⟨.ref p,H,I,rfl,q⟩
def Mh (K:PySem.W.Frag) (T:String) (x:V) (H:Hp):Prop:=match x with
 |.str _=>T="str"
 |.int _=>T="int"
 |.ref p=>(T="list"∧∃xs,SqL K H p xs)∨(T="tuple"∧∃o,K.lookup p=some o∧o.cls=.type "tuple"∧o.dict=none)
 |_=>False
theorem JQ {pins:List (Addr×Obj)} {σ:St} {H:Hp} {s:Shared} {T:String} {x:V} {v:Value} (I:Inv X pins σ H s) (r:RelV x v) (ty:Mh X.K T x H):
 s.TypeIs v T∧∀a,v=.ref a→∃ob,s.heap.get? a=some ob∧ob.dict=none:=by
 cases x with
 |str z=>
  obtain ⟨t,rfl⟩:=r
  cases (show T="str" from ty)
  exact ⟨typeIs_str s z t,fun _ e=>nomatch e⟩
 |int i=>
  obtain ⟨t,rfl⟩:=r
  cases (show T="int" from ty)
  exact ⟨typeIs_int s i t,fun _ e=>nomatch e⟩
 |ref p=>
  cases r
  rcases ty with ⟨rfl,xs,hq⟩ |⟨rfl,o,hk,hc,hd⟩
  ·obtain ⟨its,_,pl,_⟩:=I.list hq
   refine ⟨pl.isList.typeIs,fun a e=>?_⟩
   cases e
   obtain ⟨o,n,e,c,hd,_⟩:=pl
   exact ⟨o,e,hd⟩
  ·refine ⟨⟨o,I.kIn p o hk,hc⟩,fun a e=>?_⟩
   cases e
   exact ⟨o,I.kIn _ o hk,hd⟩
 |_=>exact False.elim ty
def Xd (K:PySem.W.Frag) (T:String) (r:V→List V→Hp→VK→Prop) (to:TE):TE:=fun σ H Q=>to σ H fun x H1=>Mh K T x H1∧r x [] H1 Q
def Xe (K:PySem.W.Frag) (T:String) (r:V→List V→Hp→VK→Prop) (to:TE) (t:TA):TE:=fun σ H Q=>to σ H fun x H1=>Mh K T x H1∧t σ H1 fun xs H2=>r x xs H2 Q
variable {o e:Expr} {es:List Expr} {to:TE} {t:TA} {name:Str} {apos cpos:Pos} {T id:String} {r:V→List V→Hp→VK→Prop}
theorem Pl (pa:PlainAttrs T) (slot:Slot T name id) (hty:typeOf (.builtin id)=pure (.type "method_descriptor")) (hm:Il X id r) (ho:PE X o to)
 (hbase:attributeBase o name X.env (eval o X.env)=eval o X.env:=by rfl) (hline:(apos.endLine==cpos.line)=true:=by rfl):PE X (.Call (.Attribute o name apos) [] [] cpos) (Xd X.K T r to):=by
 intro pins s σ H Q I h
 refine wpAny_Call_method0_late hbase hline (Am (ho pins s σ H _ I h) fun v s1 z88_=>?_)
 obtain ⟨x,H1,I1,r1,ty,q1⟩:=z88_
 obtain ⟨h1,h2⟩:=JQ I1 r1 ty
 exact ⟨T,id,pa,slot,hty,h1,h2,Calls.callWith_builtin rfl (PySem.evalArgs_none (hm pins s1 σ H1 x [] v [] Q I1 r1 .nil q1))⟩
theorem Xf (pa:PlainAttrs T) (slot:Slot T name id) (hty:typeOf (.builtin id)=pure (.type "method_descriptor")) (hm:Il X id r) (ho:PE X o to) (ha:PA X (e::es) t)
 (hbase:attributeBase o name X.env (eval o X.env)=eval o X.env:=by rfl)
 (hfew:((backTo cpos (starEach (e::es) X.env)).all (fun x=>!x.1)&&(backToKw cpos (keywordEach [] X.env)).all (fun x=>x.1.isSome)
  &&decide ((e::es).length+([]:List Keyword).length+(if ([]:List Keyword).isEmpty then 0 else 1)<30))=true:=by rfl)
 (hline:(apos.endLine==cpos.line)=true:=by rfl) (hs:starEach (e::es) X.env=(false,eval e X.env)::starEach es X.env:=by rfl) (hplain:(backTo cpos (starEach es X.env)).any (·.1)=false:=by rfl):
 PE X (.Call (.Attribute o name apos) (e::es) [] cpos) (Xe X.K T r to t):=by
 intro pins s σ H Q I h
 refine wpAny_Call_method_late hbase hfew hline rfl (Am (ho pins s σ H _ I h) fun v s1 z89_=>?_)
 obtain ⟨x,H1,I1,r1,ty,q1⟩:=z89_
 obtain ⟨h1,h2⟩:=JQ I1 r1 ty
 refine ⟨T,id,pa,slot,hty,h1,h2,?_⟩
 have hA:=ha cpos pins s1 σ H1 _ I1 q1
 rw [hs] at hA ⊢
 refine Calls.callWith_builtin (by show (false||(backTo cpos (starEach es X.env)).any (·.1))=false;rw [hplain]<;>rfl) (Calls.evalArgs_plain ?_)
 exact Am hA fun us s2 z90_=>by obtain ⟨vs,H2,I2,r2,q2⟩:=z90_;exact (hm pins s2 σ H2 x vs v us Q I2 r1 r2 q2)
end
def Pm (X:Cx) (id:String) (r:V→List V→Hp→VK→Prop):Prop:=
 ∀(pins:List (Addr×Obj)) (s:Shared) (σ:St) (H:Hp) (x:V) (xs:List V) (v:Value) (us:List Value) (Q:VK),Inv X pins σ H s→RelV x v→Vals xs us→r x xs H Q→
  wpAny (model X.prog X.w) X.A (call (.builtin id) (v::us)) (EP X pins σ Q) X.xe s
theorem Vals.one {x:V} {us:List Value} (h:Vals [x] us):∃u,us=[u]∧RelV x u:=by
 cases h with
 |cons r t=>cases t;exact ⟨_,rfl,r⟩
theorem Vals.zero:∀{us:List Value},Vals [] us→us=[]
 |_,.nil=>rfl
theorem Vals.dropLast {xs:List V} {us:List Value} (h:Vals xs us):Vals xs.dropLast us.dropLast:=by
 induction h with
 |nil=>exact .nil
 |cons r t ih=>
  cases t with
  |nil=>exact .nil
  |cons q t'=>exact .cons r ih
theorem Vals.reverse {xs:List V} {us:List Value} (h:Vals xs us):Vals xs.reverse us.reverse:=by
 induction h with
 |nil=>exact .nil
 |cons r t ih=>rw [List.reverse_cons,List.reverse_cons];exact Vals.append ih (.cons r .nil)
theorem Vals.rep {xs:List V} {us:List Value} (h:Vals xs us):∀k:Nat,Vals (List.replicate k xs).flatten (List.replicate k us).flatten
 |0=>.nil
 |k+1=>by
  rw [Fm,Fm,FP,FP]
  exact Vals.append h (Vals.rep h k)
theorem Xg {α:Type} (l:List α):l.eraseIdx (l.length - 1)=l.dropLast:=by
 induction l with
 |nil=>rfl
 |cons a r ih=>
  cases r with
  |nil=>rfl
  |cons b r=>
   have e:(a::b::r).length - 1=((b::r).length - 1)+1:=by
    have h1:(a::b::r).length=r.length+2:=rfl
    have h2:(b::r).length=r.length+1:=rfl
    omega
   rw [e,List.eraseIdx_cons_succ,ih]
   all_goals rfl
theorem JR (its:List Value):∀(k:Nat) (acc:List Value),
 List.foldl (fun x1 x2=>x1++x2) acc.toArray (List.replicate k its.toArray)=(acc++(List.replicate k its).flatten).toArray
 |0,acc=>by simp
 |k+1,acc=>by
  have e:acc.toArray++its.toArray=(acc++its).toArray:=by simp
  have e2:(acc++its)++(List.replicate k its).flatten=acc++(List.replicate (k+1) its).flatten:=by
   rw [Fm,FP,List.append_assoc]
  rw [←e2,←JR its k (acc++its),←e,Fm,Jy]
section
variable {X:Cx} {pins:List (Addr×Obj)} {σ:St} {H:Hp} {s:Shared} {l b:Addr} {xs ys zs:List V}
theorem Inv.lset {its its':List Value} {n:Nat} {f:Array Value→Array Value} {t':Nat} (I:Inv X pins σ H s) (hH:H l=some (.lst xs))
 (e:s.heap.get? l=some {cls:=.type "list",data:=.seq its.toArray n}) (hf:f its.toArray=its'.toArray) (hv:Vals ys its') (hz:ys.length≤sizeLine):
 Inv X pins σ (Aj H l (.lst ys)) {s with heap:=s.heap.update l (Obj.mapSeq f),toks:=t'}:=by
 have q:=PySem.IsL.update e f
 rw [hf] at q
 refine I.write (x:=l) (e:=l) (by rw [hH];exact trivial) (.inl rfl) (fun b' u hb hu=>(LJ s.heap (Obj.mapSeq f) (Ne.symm hb)).trans hu) ⟨_,q⟩ ?_
 exact ⟨hz,its',_,hv,q⟩
theorem Inv.lnew {its:List Value} {t':Nat} (I:Inv X pins σ H s) (hv:Vals ys its) (hz:ys.length≤sizeLine):
 Inv X pins σ (Aj H s.heap.objs.size (.lst ys)) {s with heap:=s.heap.push {cls:=.type "list",data:=.seq its.toArray},toks:=t'}:=
 I.laid (fun _ _ q=>A5 _ q) (Au _) ⟨hz,its,0,hv,BM _ rfl⟩
theorem Inv.fresh (I:Inv X pins σ H s):H s.heap.objs.size=none:=I.hok.fresh (Au _)
theorem Inv.lstM (I:Inv X pins σ H s) (hH:H l=some (.lst xs)):xs.length≤sizeLine∧∃(its:List Value) (n:Nat),Vals xs its∧xs.length=its.length∧s.heap.get? l=some {cls:=.type "list",data:=.seq its.toArray n}:=by
 obtain ⟨z,its,n,r,e⟩:=I.hok l _ hH
 exact ⟨z,its,n,r,r.length,e⟩
theorem Xh {n:Nat} (h:n≤sizeLine):Builtin.List.listTooLong n=false:=by
 unfold Builtin.List.listTooLong
 exact decide_eq_false (by omega)
end
section
variable {X:Cx}
def Xi:V→List V→Hp→VK→Prop:=fun x vs H Q=>∃l xs y,x=.ref l∧vs=[y]∧H l=some (.lst xs)∧xs.length<sizeLine∧Q .non (Aj H l (.lst (xs++[y])))
theorem Xj:Pm X "list.append" Xi:=by
 intro pins s σ H x vs v us Q I rx rv h
 obtain ⟨l,xs,y,rfl,rfl,hH,hz,q⟩:=h
 cases rx
 obtain ⟨u,rfl,ru⟩:=rv.one
 obtain ⟨z,its,n,r,hl,e⟩:=I.lstM hH
 refine call_meets F.slot_list_append ⟨_,e,rfl⟩ F.entry_list_append (F.args_list_append_2 _ _) (PySem.list_append l its.toArray n u (by rw [Bs];omega)) ⟨e,?_⟩
 refine ⟨.non,_,I.lset (its':=its++[u]) hH e (by simp) (r.append (.cons ru .nil)) ?_,rfl,q⟩
 rw [Ca,List.length_singleton]
 omega
def Xk:V→List V→Hp→VK→Prop:=fun x vs H Q=>∃l xs y,x=.ref l∧vs=[]∧H l=some (.lst xs)∧xs[xs.length - 1]?=some y∧Q y (Aj H l (.lst xs.dropLast))
theorem Xl:Pm X "list.pop" Xk:=by
 intro pins s σ H x vs v us Q I rx rv h
 obtain ⟨l,xs,y,rfl,rfl,hH,hy,q⟩:=h
 cases rx
 have hus:=rv.zero
 subst hus
 obtain ⟨z,its,n,r,hl,e⟩:=I.lstM hH
 obtain ⟨u,hu,ru⟩:=r.get hy
 have hy':its.toArray[its.toArray.size - 1]?=some u:=by
  show its.toArray[its.length - 1]?=some u
  rw [←Array.getElem?_toList,←hl]
  exact hu
 refine call_meets F.slot_list_pop ⟨_,e,rfl⟩ F.entry_list_pop (F.args_list_pop_1 _) (MeetsSeq.list_pop_last l its.toArray n u hy' (by rw [Bs];omega)) ⟨e,?_⟩
 refine ⟨y,_,I.lset (its':=its.dropLast) hH e ?_ r.dropLast ?_,ru,q⟩
 ·show its.toArray.eraseIdxIfInBounds (its.toArray.size - 1)=its.dropLast.toArray
  rw [Bs,List.eraseIdxIfInBounds_toArray,Xg]
 ·rw [List.length_dropLast]
  omega
def Xm:R2:=fun x y H Q=>∃l b xs zs,x=.ref l∧y=.ref b∧H l=some (.lst xs)∧H b=some (.lst zs)∧xs.length+zs.length≤sizeLine∧∀p,H p=none→Q (.ref p) (Aj H p (.lst (xs++zs)))
theorem op_cat:OpR X (binaryOp .Add) Xm:=by
 intro pins s σ H x y v u Q I rx ry h
 obtain ⟨l,b,xs,zs,rfl,rfl,hH,hB,hz,q⟩:=h
 cases rx
 cases ry
 obtain ⟨z,its,n,r,hl,e⟩:=I.lstM hH
 obtain ⟨z2,its2,n2,r2,hl2,e2⟩:=I.lstM hB
 refine PySem.P.add_list e e2 ?_ (by rw [Bs,Bs];omega)
 have ea:its.toArray++its2.toArray=(its++its2).toArray:=by simp
 rw [ea]
 exact ⟨.ref _,_,I.lnew (t':=s.toks) (r.append r2) (by rw [Ca];omega),rfl,q _ I.fresh⟩
def Xn:R2:=fun x y H Q=>∃l k xs,x=.ref l∧y=.int k∧H l=some (.lst xs)∧-(2^63)≤k∧k<2^63∧xs.length*k.toNat≤sizeLine∧
 ∀p,H p=none→Q (.ref p) (Aj H p (.lst (List.replicate k.toNat xs).flatten))
theorem JS {α:Type} (xs:List α) (k:Nat):(List.replicate k xs).flatten.length=k*xs.length:=by
 induction k with
 |zero=>simp
 |succ k ih=>rw [Fm,FP,Ca,ih,Ib,Nat.add_comm]
theorem Xo:OpR X (binaryOp .Mult) Xn:=by
 intro pins s σ H x y v u Q I rx ry h
 obtain ⟨l,k,xs,rfl,rfl,hH,h1,h2,hz,q⟩:=h
 cases rx
 obtain ⟨t,rfl⟩:=ry
 obtain ⟨z,its,n,r,hl,e⟩:=I.lstM hH
 have hlen:its.toArray.size*k.toNat≤sizeLine:=by rw [Bs,←hl];exact hz
 have hcap:¬its.toArray.size*k.toNat>(2^63 - 1) / 8:=by
  have:(sizeLine:Nat)≤(2^63 - 1) / 8:=by decide
  omega
 have hfit:¬(!Builtin.List.listFitsIndex k)=true:=by
  rw [fitsIndex_both h1 h2]
  exact BN
 have hlong:¬Builtin.List.listTooLong (its.toArray.size*k.toNat)=true:=by
  rw [Xh hlen]
  exact BN
 have hnew:List.foldl (fun x1 x2=>x1++x2) #[] (List.replicate (if its.toArray.isEmpty=true then 0 else k.toNat) its.toArray)=(List.replicate k.toNat its).flatten.toArray:=by
  have f0:∀m:Nat,List.foldl (fun x1 x2=>x1++x2) #[] (List.replicate m its.toArray)=(List.replicate m its).flatten.toArray:=fun m=>by
   have:=JR its m []
   rw [Fp] at this
   exact this
  rw [f0]
  cases its with
  |nil=>simp
  |cons a r'=>rw [if_neg (by simp)]
 refine wpAny_binaryOp_repeat_ref (T:="list") (U:="int") (by decide) ⟨_,e,rfl⟩ (fun s'=>typeIs_int s' k t) noFill_list_mul F.fills_int_mul F.slot_int_rmul repeat_list F.slot_int_index.lookup
  (call_meets F.slot_int_rmul (typeIs_int s k t) F.entry_int_rmul (F.args_int_rmul_2 _ _) (int___rmul___int_list k t l its.toArray n)
   ⟨e,rfl,⟨_,e,rfl⟩,call_meets F.slot_list_mul ⟨_,e,rfl⟩ F.entry_list_mul (F.args_list_mul_2 _ _) (AutoListH.list___mul___list_int_3 l its.toArray n k t hfit hcap hlong) ⟨e,?_⟩⟩)
 rw [hnew]
 exact ⟨.ref _,_,I.lnew (t':=s.toks) (r.rep k.toNat) (by rw [JS,Nat.mul_comm];exact hz),rfl,q _ I.fresh⟩
end
section
variable {prog:Program} {w:World} {A:Around} {E:Value→Shared→Prop} {s:Shared}
end
section
variable {X:Cx}
end
end L2
namespace Att
open PySem PySem.W PySem.Calls PyProof.Rows
theorem Xp {P:Params} {h:Heap}:∀(ns:List Int) (vs:List Value),WellAll P h vs (ns.map WData.int)→IntsAre vs ns:=by
 intro ns
 induction ns with
 |nil=>
  intro vs w
  rw [List.map_nil] at w
  cases w
  exact .nil
 |cons n ns ih=>
  intro vs w
  rw [Bx] at w
  cases w with
  |cons a b=>
   cases a
   exact .cons _ _ (ih _ b)
theorem Xq {l:OpenLaw} {n:Nat} (hn:l.most=some n) {P:Params} {h:Heap} {args:List WData} {vals:List Value}
 (hpre:l.row.toRowW.claim.pre args=true) (hwl:WellAll P h vals args):
 ∃a vs ns,vals=[Value.ref a]∧args=[WData.list (ns.map WData.int)]∧h.get? a=some {cls:=.type "list",data:=.seq vs.toArray}∧IntsAre vs ns∧ns.length≤n:=by
 have hsh:WShape.hasAll [] args [.list .int]=true:=(pre_splitW hpre).1
 have hc:l.pre.holds [] {args:=args}=true:=(pre_splitW hpre).2
 obtain ⟨d,r,rfl,h1,h2⟩:=hasAllW_cons hsh
 obtain rfl:=hasAllW_nil h2
 obtain ⟨xs,rfl,h3⟩:=hasW_list h1
 obtain ⟨ns,rfl⟩:=items_int h3
 have hlen:ns.length≤n:=by
  unfold OpenLaw.pre at hc
  have h4:(WTm.not (.lt (.lit (.int (n:Int))) (.len (.arg 0)))).holds [] {args:=[.list (ns.map .int)]}=true:=by
   have h4:=(holds_andW hc).1
   rw [hn] at h4
   exact h4
  have h5:=condW_of h4 (w_not (w_lt w_lit (w_len_list (w_arg rfl))))
  rw [Bt] at h5
  refine HY fun q=>?_
  have q':(n:Int)<((ns.length:Nat):Int):=by omega
  first
   |(rw [decide_eq_true q'] at h5;exact absurd h5 (by decide))
   |(simp at h5;omega)
 cases hwl with
 |cons w1 w2=>
  cases w2
  cases w1 with
  |list ho hall=>exact ⟨_,_,ns,rfl,rfl,ho,Xp ns _ hall,hlen⟩
theorem Xr (l:OpenLaw) (args:List WData):l.row.toRowW.claim.post args (.bool true) args=true:=
 postW_of (r:=l.row.toRowW) (X:=(true==true))
  (show WShape.has [] (.bool true) .bool=true by first |rfl |decide |simp [WShape.has,WShape.arms,WShape.armsAll])
  (show (WTm.eq .res (.lit (.bool true))).value [] {args:=args,res:=some (.bool true),after:=args}=some (.bool (true==true)) from w_eq_bool (w_res rfl) w_lit) rfl
section
variable {prog:Program} {w:World} {A:Around} {E:Value→Shared→Prop} {s:Shared} {K:Frag}
end
end Att
namespace L2
open PySem PySem.Spec PyProof.Rows
theorem vals_ints:∀{vs:List Value} {ns:List Int},IntsAre vs ns→Vals (ns.map V.int) vs
 |_,_,.nil=>.nil
 |_,_,.cons n t h=>.cons ⟨t,rfl⟩ (vals_ints h)
def defArgs (s:Stmt):Arguments:=match s with
 |.FunctionDef _ a _ _ _ _ _ _ _ _=>a
 |_=>{posonlyargs:=[],args:=[],vararg:=none,kwonlyargs:=[],kw_defaults:=[],kwarg:=none,defaults:=[]}
def defBody (s:Stmt):List Stmt:=match s with
 |.FunctionDef _ _ b _ _ _ _ _ _ _=>b
 |_=>[]
def defScope (s:Stmt):Scope:=match s with
 |.FunctionDef _ _ _ _ _ _ sc _ _ _=>sc
 |_=>{kind:=.function,names:=[],isGenerator:=false,isCoroutine:=false}
abbrev Pn:DZ:=fun _ _ _ _ _ _=>False
abbrev E0:XK:=fun _ _ _=>False
inductive Po (K:PySem.W.Frag) (x qual:Str) (st:Stmt) (f:Addr) (fd:FuncData):Prop where
 |mk (oc:Value) (od:Option Addr) (kV doc pm:Value) (an:Option Addr) (cdv ct:Value) (osl:Array (Option Value)) (f1:fd=PySem.W.fnOf x qual (defArgs st) (defBody st) (defScope st) .none kV doc pm an cdv ct) (f2:K.lookup f=some ⟨oc,od,.func fd,osl⟩) (f3:PySem.W.codeIn K cdv qual=true):Po K x qual st f fd
structure Fun (K:PySem.W.Frag) (x qual:Str) (st:Stmt) (f:Addr) (fd:FuncData):Prop where
 ex:Po K x qual st f fd
 kp:PySem.W.keepIn K (.ref f)=true
section
variable {P:Program} {w:World} {K:PySem.W.Frag} {mg:Str→Option Value} {base:Heap}
theorem Fun.binds {x qual:Str} {st:Stmt} {f:Addr} {fd:FuncData} {ps:List Str} (F:Fun K x qual st f fd)
 (h:∀(kV doc pm:Value) (an:Option Addr) (cdv ct:Value) (us:List Value),us.length=ps.length→bindArgs (PySem.W.fnOf x qual (defArgs st) (defBody st) (defScope st) .none kV doc pm an cdv ct) ⟨us,[]⟩=pure (ps.zip us)):Binds K fd ps []:=by
 obtain ⟨oc,od,kV,doc,pm,an,cdv,ct,osl,rfl,lk,hcd⟩:=F.ex
 exact .all (h kV doc pm an cdv ct)
theorem JT {x qual:Str} {st:Stmt} {f:Addr} {oc:Value} {od an:Option Addr} {osl:Array (Option Value)} {kV doc pm cdv ct:Value} (l:K.lookup f=some ⟨oc,od,.func (PySem.W.fnOf x qual (defArgs st) (defBody st) (defScope st) .none kV doc pm an cdv ct),osl⟩)
 (c:PySem.W.codeIn K cdv qual=true) (k:PySem.W.keepIn K (.ref f)=true):Fun K x qual st f (PySem.W.fnOf x qual (defArgs st) (defBody st) (defScope st) .none kV doc pm an cdv ct):=⟨⟨oc,od,kV,doc,pm,an,cdv,ct,osl,rfl,l,c⟩,k⟩
end
section
variable {X:Cx}
end
end L2
namespace LS
open PySem PySem.Spec PyProof.Rows L2
inductive D where
 |non |bl (b:Bool) |int (i:Int) |str (x:Str) |tup (ds:List D) |loc (l:Nat) |scr (ns:List Int) |adr (a:Addr) |ty (n:String) |exc (n:Str) (fs:List (Str×Int)) |edic |glo (n:Str) |clo (a:Addr) (vs:List V) (ds:List D)
inductive AW where
 |i (n:Int) |t (ns:List Int) |b (rs:List (List Int))
 deriving DecidableEq
def kD:AW→D
 |.i n=>.int n
 |.t ns=>.tup (ns.map D.int)
 |.b rs=>.tup (rs.map fun r=>.tup (r.map D.int))
inductive Cell where
 |lst (ds:List D) |tabn (g:Str) |dic (fz:Bool) (kvs:List (AW×D)) |ins (n:Str) (fs:List (Str×D))
abbrev Cell.tab:Cell:=.tabn "law"
def Pp (g:Str):Str:=g++(".<locals>.":Str)
def Bi (g:Str):Str:=Pp g++("<lambda>":Str)
abbrev HD:=List Cell
abbrev Af:=List (Option D)
inductive Out (α:Type) where
 |ok (a:α) (h:HD) |err (C:Value) (fs:List (Str×D)) (h:HD) |stuck
def Out.bind {α β:Type} (o:Out α) (k:α→HD→Out β):Out β:=match o with
 |.ok a h=>k a h
 |.err C fs h=>.err C fs h
 |.stuck=>.stuck
@[simp] theorem Out.bind_ok {α β:Type} (a:α) (h:HD) (k:α→HD→Out β):(Out.ok a h).bind k=k a h:=rfl
@[simp] theorem Out.bind_err {α β:Type} (C:Value) (fs:List (Str×D)) (h:HD) (k:α→HD→Out β):(Out.err C fs h:Out α).bind k=.err C fs h:=rfl
@[simp] theorem Out.bind_stuck {α β:Type} (k:α→HD→Out β):(Out.stuck:Out α).bind k=.stuck:=rfl
def Mi:HO→Bool
 |.tup _=>true
 |.frz _ _=>true
 |.ext _=>true
 |.xd _=>true
 |_=>false
def Kp (H H':Hp):Prop:=∀b o,H b=some o→Mi o=true→H' b=some o
theorem Kp.refl (H:Hp):Kp H H:=fun _ _ e _=>e
theorem Kp.trans {H H1 H2:Hp} (a:Kp H H1) (b:Kp H1 H2):Kp H H2:=fun c o e i=>b c o (a c o e i) i
theorem Kp.new {H:Hp} {p:Addr} {o:HO} (h:H p=none):Kp H (Aj H p o):=fun b u e _=>by rw [AB (DY e h)];exact e
theorem Kp.set {H:Hp} {p:Addr} {o u:HO} (h:H p=some o) (i:Mi o=false):Kp H (Aj H p u):=fun b w e iw=>by
 rw [AB]
 ·exact e
 ·intro z
  rw [z,h] at e;cases e;rw [i] at iw;cases iw
def FzL (K:PySem.W.Frag) (H:Hp) (a:Addr) (xs:List V):Prop:=(∃o,H a=some (.frz o (.lst xs)))∨SqL K (fun _=>none) a xs
theorem Kp.fzL {K:PySem.W.Frag} {H H':Hp} {a:Addr} {xs:List V} (k:Kp H H') (h:FzL K H a xs):FzL K H' a xs:=by
 rcases h with ⟨o,h⟩ |h
 ·exact .inl ⟨o,k _ _ h rfl⟩
 ·exact .inr h
theorem FzL.sq {K:PySem.W.Frag} {H:Hp} {a:Addr} {xs:List V} (h:FzL K H a xs):SqL K H a xs:=by
 rcases h with ⟨o,h⟩ |(h |⟨o,h⟩) |h
 ·exact .inl (.inr ⟨o,h⟩)
 ·cases h
 ·cases h
 ·exact .inr h
def Fw (C:Addr) (da:Option Addr) (a:Addr) (h:Heap):Prop:=∃o vs,h.get? a=some o∧o.cls=.ref C∧(∀d,da=some d→o.dict=some d)∧o.data=.fields vs
def Mj (a:Addr) (h:Heap):Prop:=a≠sysModules∧∃o ep,h.get? a=some o∧o.ExactDict∧o.data=.dict #[] ep
inductive Pq (K:PySem.W.Frag) (a:Addr) (vs:List V):Prop where
 |mk (o:Obj) (its:Array Value) (n:Nat) (f1:K.lookup a=some o) (f2:o.cls=.type "tuple") (f3:o.dict=none) (f4:o.data=.seq its n) (f5:its.size≤sizeLine) (f6:Vals vs its.toList):Pq K a vs
def TupAt (K:PySem.W.Frag) (H:Hp) (a:Addr) (vs:List V):Prop:=H a=some (.tup vs)∨Pq K a vs
theorem tq {K:PySem.W.Frag} {H:Hp} {a:Addr} {vs:List V} (t:TupAt K H a vs):SqT K H a vs:=by
 rcases t with t |⟨o,its,n,f1,f2,f3,f4,f5,f6⟩
 ·exact SqT.of t
 ·exact .inr ⟨o,its,n,f1,f2,f4,f5,f6⟩
theorem tok {P:Program} {w:World} {K:PySem.W.Frag} {H:Hp} {h:Heap} {a:Addr} {vs:List V} (ok:HOk P w H h∧K.In h) (t:TupAt K H a vs):LO h a vs:=by
 rcases t with t |⟨o,its,n,f1,f2,f3,f4,f5,f6⟩
 ·exact ok.1 a _ t
 ·have e:=ok.2 a o f1
  have l:vs.length=its.toList.length:=L2.Vals.length f6
  have l2:its.toList.length=its.size:=Array.length_toList
  exact ⟨BG (GZ (l.trans l2)) f5,its.toList,f6,⟨o,e,f2,n,by simpa using f4⟩,fun u z=>by rw [e] at z;cases z;exact f3⟩
theorem TupAt.keep {K:PySem.W.Frag} {H H':Hp} {a:Addr} {vs:List V} (t:TupAt K H a vs) (k:Kp H H'):TupAt K H' a vs:=t.imp (fun t=>k _ _ t rfl) id
mutual
def DV (K:PySem.W.Frag) (m:List Addr) (H:Hp):D→V→Prop
 |.non,v=>v=.non
 |.bl b,v=>v=.bl b
 |.int i,v=>v=.int i
 |.str x,v=>v=.str x
 |.tup ds,v=>∃a vs,v=.ref a∧TupAt K H a vs∧DVs K m H ds vs
 |.loc l,v=>∃a,v=.ref a∧m[l]?=some a
 |.scr ns,v=>∃a,v=.ref a∧FzL K H a (ns.map V.int)
 |.adr a,v=>v=.ref a
 |.ty n,v=>v=.ty n
 |.exc n fs,v=>∃a C da,v=.ref a∧PySem.W.nsIn K mainGlobals n=some (some (.ref C))∧H a=some (.ext (Fw C da a))∧∀f i,fs.lookup f=some i→∃d fv,da=some d∧H d=some (.xd fv)∧fv.lookup f=some (.int i)
 |.edic,v=>∃a,v=.ref a∧H a=some (.ext (Mj a))
 |.glo n,v=>∃a,v=.ref a∧PySem.W.nsIn K mainGlobals n=some (some (.ref a))
 |.clo a vs ds,v=>v=.ref a∧DVs K m H ds vs
def DVs (K:PySem.W.Frag) (m:List Addr) (H:Hp):List D→List V→Prop
 |[],vs=>vs=[]
 |d::ds,vs=>∃v r,vs=v::r∧DV K m H d v∧DVs K m H ds r
end
section
variable {K:PySem.W.Frag} {m m':List Addr} {H H':Hp}
theorem JU {l:Nat} {a:Addr} (p:m <+:m') (h:m[l]?=some a):m'[l]?=some a:=by
 obtain ⟨t,rfl⟩:=p
 have hl:l<m.length:=(qa1.mp h).1
 rw [DJ hl];exact h
mutual
theorem DV.keep (p:m <+:m') (k:Kp H H'):∀{d:D} {v:V},DV K m H d v→DV K m' H' d v
 |.non,_,h=>by simpa [DV] using h
 |.bl _,_,h=>by simpa [DV] using h
 |.int _,_,h=>by simpa [DV] using h
 |.str _,_,h=>by simpa [DV] using h
 |.tup ds,_,h=>by
  simp only [DV] at h ⊢
  obtain ⟨a,vs,e,q,r⟩:=h
  exact ⟨a,vs,e,q.keep k,DVs.keep p k r⟩
 |.loc l,_,h=>by
  simp only [DV] at h ⊢
  obtain ⟨a,e,q⟩:=h
  exact ⟨a,e,JU p q⟩
 |.scr ns,_,h=>by
  simp only [DV] at h ⊢
  obtain ⟨a,e,q⟩:=h
  exact ⟨a,e,k.fzL q⟩
 |.adr _,_,h=>by simpa [DV] using h
 |.ty _,_,h=>by simpa [DV] using h
 |.exc _ _,_,h=>by
  simp only [DV] at h ⊢
  obtain ⟨a,C,da,e,q,r,t⟩:=h
  exact ⟨a,C,da,e,q,k _ _ r rfl,fun f i z=>let ⟨d,fv,z1,z2,z3⟩:=t f i z;⟨d,fv,z1,k _ _ z2 rfl,z3⟩⟩
 |.edic,_,h=>by
  simp only [DV] at h ⊢
  obtain ⟨a,e,r⟩:=h
  exact ⟨a,e,k _ _ r rfl⟩
 |.glo _,_,h=>by simpa [DV] using h
 |.clo _ _ ds,_,h=>by
  simp only [DV] at h ⊢
  exact ⟨h.1,DVs.keep p k h.2⟩
theorem DVs.keep (p:m <+:m') (k:Kp H H'):∀{ds:List D} {vs:List V},DVs K m H ds vs→DVs K m' H' ds vs
 |[],_,h=>by simpa [DVs] using h
 |d::ds,_,h=>by
  simp only [DVs] at h ⊢
  obtain ⟨v,r,e,q,t⟩:=h
  exact ⟨v,r,e,DV.keep p k q,DVs.keep p k t⟩
end
theorem DVs.nil:DVs K m H [] []:=by simp [DVs]
theorem DVs.cons {d:D} {v:V} {ds:List D} {vs:List V} (h:DV K m H d v) (t:DVs K m H ds vs):DVs K m H (d::ds) (v::vs):=by
 simp only [DVs];exact ⟨v,vs,rfl,h,t⟩
theorem DVs.len:∀{ds:List D} {vs:List V},DVs K m H ds vs→ds.length=vs.length
 |[],_,h=>by simp only [DVs] at h;subst h;rfl
 |d::ds,_,h=>by
  simp only [DVs] at h
  obtain ⟨v,r,e,_,t⟩:=h
  subst e
  simp [DVs.len t]
theorem DVs.get:∀{ds:List D} {vs:List V} {i:Nat} {d:D},DVs K m H ds vs→ds[i]?=some d→∃v,vs[i]?=some v∧DV K m H d v
 |[],_,_,_,_,e=>by simp at e
 |d::ds,_,i,x,h,e=>by
  simp only [DVs] at h
  obtain ⟨v,r,rfl,q,t⟩:=h
  cases i with
  |zero=>simp at e;subst e;exact ⟨v,rfl,q⟩
  |succ i=>
   obtain ⟨w,h1,h2⟩:=DVs.get (i:=i) t (by simpa using e)
   exact ⟨w,by simpa using h1,h2⟩
theorem DVs.app:∀{ds es:List D} {vs ws:List V},DVs K m H ds vs→DVs K m H es ws→DVs K m H (ds++es) (vs++ws)
 |[],_,_,_,h,t=>by simp only [DVs] at h;subst h;exact t
 |d::ds,_,_,_,h,t=>by
  simp only [DVs] at h
  obtain ⟨v,r,rfl,q,u⟩:=h
  exact .cons q (DVs.app u t)
theorem DVs.set:∀{ds:List D} {vs:List V} {d:D} {v:V} (i:Nat),DVs K m H ds vs→DV K m H d v→DVs K m H (ds.set i d) (vs.set i v)
 |[],_,_,_,_,h,_=>by simp only [DVs] at h;subst h;exact .nil
 |d::ds,_,_,_,i,h,q'=>by
  simp only [DVs] at h
  obtain ⟨v,r,rfl,q,u⟩:=h
  cases i with
  |zero=>exact .cons q' u
  |succ i=>exact .cons q (DVs.set i u q')
theorem DVs.take:∀{ds:List D} {vs:List V} (n:Nat),DVs K m H ds vs→DVs K m H (ds.take n) (vs.take n)
 |_,_,0,_=>by simpa using (DVs.nil:DVs K m H [] [])
 |[],_,n+1,h=>by simp only [DVs] at h;subst h;exact .nil
 |d::ds,_,n+1,h=>by
  simp only [DVs] at h
  obtain ⟨v,r,rfl,q,u⟩:=h
  exact .cons q (DVs.take n u)
theorem DVs.drop:∀{ds:List D} {vs:List V} (n:Nat),DVs K m H ds vs→DVs K m H (ds.drop n) (vs.drop n)
 |_,_,0,h=>by simpa using h
 |[],_,n+1,h=>by simp only [DVs] at h;subst h;exact .nil
 |d::ds,_,n+1,h=>by
  simp only [DVs] at h
  obtain ⟨v,r,rfl,q,u⟩:=h
  simpa using DVs.drop n u
theorem DVs.rep {ds:List D} {vs:List V} (h:DVs K m H ds vs):∀n,DVs K m H (List.replicate n ds).flatten (List.replicate n vs).flatten
 |0=>by simpa using (DVs.nil:DVs K m H [] [])
 |n+1=>by
  rw [Fm,FP,Fm,FP]
  exact h.app (DVs.rep h n)
def G2 (q:Str) (c:Addr) (h:Heap):Prop:=h.CodeRec (.ref c) q
def tabP (K:PySem.W.Frag) (g:Str):Option (Addr×Addr):=match PySem.W.nsIn K mainGlobals g with
 |some (some (.ref f))=>(match K.lookup f with
  |some ⟨_,_,.func fd,_⟩=>(match fd.code with
   |.ref c=>(match K.lookup c with
    |some ⟨_,_,.fields vs,_⟩=>(match (vs[11]?:Option Value) with
     |some (.ref P)=>some (c,P)
     |_=>none)
    |_=>none)
   |_=>none)
  |_=>none)
 |_=>none
def TabIs (K:PySem.W.Frag) (g:Str) (H:Hp) (a:Addr):Prop:=(∃c,tabP K g=some (c,a))∧∃ps,H a=some (.tbl ps)∧TriplesOk ps.toList∧∀pos cv,codeAmong pos ps.toList=some cv→∃c,cv=.ref c∧H c=some (.ext (G2 (Bi g) c))
theorem TabIs.keep {K:PySem.W.Frag} {g:Str} {H H':Hp} {a:Addr} (t:TabIs K g H a) (k:Kp H H') (e:H' a=H a):TabIs K g H' a:=by
 obtain ⟨z,ps,h1,h2,h3⟩:=t
 exact ⟨z,ps,e.trans h1,h2,fun pos cv q=>let ⟨c,q1,q2⟩:=h3 pos cv q;⟨c,q1,k _ _ q2 rfl⟩⟩
def Ml (hs:List Int):Int:=reduceHash (Builtin.Tuple.tupleHashOf hs)
def Xs:AW→Int
 |.i n=>hashInt n
 |.t ns=>Ml (ns.map hashInt)
 |.b rs=>Ml (rs.map fun r=>Ml (r.map hashInt))
def Xu (p:AW×V×V) (e:DictEntry):Prop:=e.hash=Xs p.1∧RelV p.2.1 e.key∧RelV p.2.2 e.val
def Dr (a:Addr) (es:List (AW×V×V)) (h:Heap):Prop:=(a==sysModules)=false∧es.length≤sizeLine∧(es.map (·.1)).Nodup∧∃o us ep,h.get? a=some o∧o.ExactDict∧o.data=.dict us ep∧Paired Xu es us.toList
def EntD (K:PySem.W.Frag) (m:List Addr) (H:Hp):List (AW×D)→List (AW×V×V)→Prop
 |[],es=>es=[]
 |p::r,es=>∃kv vv r',es=(p.1,kv,vv)::r'∧DV K m H (kD p.1) kv∧DV K m H p.2 vv∧EntD K m H r r'
theorem EntD.keep {K:PySem.W.Frag} {m m':List Addr} {H H':Hp} (p:m <+:m') (k:Kp H H'):∀{kvs:List (AW×D)} {es:List (AW×V×V)},EntD K m H kvs es→EntD K m' H' kvs es
 |[],_,h=>h
 |_::_,_,h=>by
  obtain ⟨kv,vv,r',e,d1,d2,t⟩:=h
  exact ⟨kv,vv,r',e,d1.keep p k,d2.keep p k,t.keep p k⟩
def DicH (fz:Bool) (H:Hp) (a:Addr) (es:List (AW×V×V)):Prop:=match fz with
 |true=>∃o,H a=some (.frz o (.dct (Dr a es)))
 |false=>H a=some (.dct (Dr a es))
theorem DicH.some {fz:Bool} {H:Hp} {a:Addr} {es:List (AW×V×V)} (d:DicH fz H a es):∃o,H a=some o:=by
 cases fz with
 |true=>obtain ⟨o,e⟩:=d;exact ⟨_,e⟩
 |false=>exact ⟨_,d⟩
theorem DicH.same {fz:Bool} {H H':Hp} {a:Addr} {es:List (AW×V×V)} (d:DicH fz H a es) (e:H' a=H a):DicH fz H' a es:=by
 cases fz with
 |true=>obtain ⟨o,z⟩:=d;exact ⟨o,e.trans z⟩
 |false=>exact e.trans d
theorem DicH.rd {fz:Bool} {H:Hp} {a:Addr} {es:List (AW×V×V)} (d:DicH fz H a es):Rd H a (.dct (Dr a es)):=by
 cases fz with
 |true=>obtain ⟨o,z⟩:=d;exact .inr ⟨o,z⟩
 |false=>exact .inl d
def FDs (K:PySem.W.Frag) (m:List Addr) (H:Hp):List (Str×D)→List (Str×V)→Prop
 |[],vs=>vs=[]
 |p::r,vs=>∃v r',vs=(p.1,v)::r'∧DV K m H p.2 v∧FDs K m H r r'
theorem FDs.keep {K:PySem.W.Frag} {m m':List Addr} {H H':Hp} (p:m <+:m') (k:Kp H H'):∀{fs:List (Str×D)} {vs:List (Str×V)},FDs K m H fs vs→FDs K m' H' fs vs
 |[],_,h=>h
 |_::_,_,h=>by
  obtain ⟨v,r',e,d,t⟩:=h
  exact ⟨v,r',e,d.keep p k,t.keep p k⟩
inductive InsR (K:PySem.W.Frag) (m:List Addr) (H:Hp) (n:Str) (fs:List (Str×D)) (a:Addr):Prop where
 |mk (C dx:Addr) (fv:List (Str×V)) (f1:PySem.W.nsIn K mainGlobals n=some (some (.ref C))) (f2:H a=some (.ins C dx fv)) (f3:FDs K m H fs fv):InsR K m H n fs a
theorem InsR.keep {K:PySem.W.Frag} {m m':List Addr} {H H':Hp} {n:Str} {fs:List (Str×D)} {a:Addr} (x:InsR K m H n fs a) (p:m <+:m') (k:Kp H H') (e:H' a=H a):InsR K m' H' n fs a:=by
 obtain ⟨C,dx,fv,h1,h2,h3⟩:=x
 exact ⟨C,dx,fv,h1,e.trans h2,h3.keep p k⟩
def JV (K:PySem.W.Frag) (m:List Addr) (H:Hp):Cell→Addr→Prop
 |.lst ds,a=>∃vs,H a=some (.lst vs)∧DVs K m H ds vs
 |.tabn g,a=>TabIs K g H a
 |.ins n fs,a=>InsR K m H n fs a
 |.dic fz kvs,a=>∃es,DicH fz H a es∧EntD K m H kvs es
structure HR (K:PySem.W.Frag) (m:List Addr) (h:HD) (H:Hp):Prop where
 len:m.length=h.length
 nd:m.Nodup
 cells:∀(l:Nat) (c:Cell) (a:Addr),h[l]?=some c→m[l]?=some a→JV K m H c a
theorem HR.at {h:HD} {l:Nat} {c:Cell} (r:HR K m h H) (e:h[l]?=some c):∃a,m[l]?=some a∧JV K m H c a:=by
 have hl:l<h.length:=(qa1.mp e).1
 have:l<m.length:=by rw [r.len];exact hl
 exact ⟨m[l],BK this,r.cells l c _ e (BK this)⟩
theorem HR.mem {h:HD} {a:Addr} (r:HR K m h H) (ha:a∈m):H a≠none:=by
 obtain ⟨l,hl,rfl⟩:=HW ha
 have hl':l<h.length:=by rw [←r.len];exact hl
 have:=r.cells l h[l] m[l] (BK hl') (BK hl)
 cases hc:h[l] with
 |lst ds=>
  rw [hc] at this
  obtain ⟨vs,e,_⟩:=this
  rw [e];simp
 |ins n fs=>
  rw [hc] at this
  obtain ⟨_,_,_,_,e,_⟩:=this
  rw [e];simp
 |tabn g=>
  rw [hc] at this
  obtain ⟨_,ps,e,_⟩:=this
  rw [e];simp
 |dic fz kvs=>
  rw [hc] at this
  obtain ⟨es,e,_⟩:=this
  obtain ⟨o,e⟩:=e.some
  rw [e];simp
theorem HR.same {h:HD} (r:HR K m h H) (k:Kp H H') (s:∀a∈m,H' a=H a):HR K m h H':=by
 refine ⟨r.len,r.nd,fun l c a e q=>?_⟩
 have hm:a∈m:=EV q
 have:=r.cells l c a e q
 cases c with
 |lst ds=>
  obtain ⟨vs,e1,e2⟩:=this
  exact ⟨vs,by rw [s a hm];exact e1,e2.keep (Ax _) k⟩
 |tabn g=>exact TabIs.keep this k (s a hm)
 |ins n fs=>exact InsR.keep this (Ax _) k (s a hm)
 |dic fz kvs=>
  obtain ⟨es,e1,e2⟩:=this
  exact ⟨es,e1.same (s a hm),e2.keep (Ax _) k⟩
theorem HR.new {h:HD} {p:Addr} {o:HO} (r:HR K m h H) (hp:H p=none):HR K m h (Aj H p o):=
 r.same (.new hp) fun a ha=>AB fun z=>r.mem ha (z ▸ hp)
theorem HR.newCell {h:HD} {p:Addr} {o:HO} {c:Cell} (r:HR K m h H) (hp:H p=none) (hc:JV K (m++[p]) (Aj H p o) c p):HR K (m++[p]) (h++[c]) (Aj H p o):=by
 have hpm:p∉m:=fun z=>r.mem z hp
 refine ⟨by simp [r.len],?_,fun l c' a e q=>?_⟩
 ·rw [Jt]
  refine ⟨r.nd,by simp,fun a ha b hb=>?_⟩
  rw [qaL] at hb
  subst hb
  intro z;subst z;exact hpm ha
 ·by_cases hl:l<m.length
  ·rw [DJ hl] at q
   rw [DJ (by rw [←r.len];exact hl)] at e
   have:=r.cells l c' a e q
   have hne:a≠p:=fun z=>hpm (z ▸ EV q)
   cases c' with
   |lst ds=>
    obtain ⟨vs,e1,e2⟩:=this
    exact ⟨vs,by rw [AB hne];exact e1,e2.keep (GX _ _) (.new hp)⟩
   |tabn g=>exact TabIs.keep this (.new hp) (AB hne)
   |ins n fs=>exact InsR.keep this (GX _ _) (.new hp) (AB hne)
   |dic fz kvs=>
    obtain ⟨es,e1,e2⟩:=this
    exact ⟨es,e1.same (AB hne),e2.keep (GX _ _) (.new hp)⟩
  ·have h1:m.length≤l:=HY hl
   rw [HU h1] at q
   rw [HU (by rw [←r.len];exact h1)] at e
   have e0:l - m.length=0:=by
    cases hz:l - m.length with
    |zero=>rfl
    |succ n=>rw [hz] at q;simp at q
   rw [←r.len] at e
   rw [e0] at q e
   simp at q e
   subst q e
   exact hc
theorem HR.setCell {h:HD} {p:Addr} {l:Nat} {o u:HO} {c:Cell} (r:HR K m h H) (hl:m[l]?=some p) (ho:H p=some o) (i:Mi o=false) (hc:JV K m (Aj H p u) c p):HR K m (h.set l c) (Aj H p u):=by
 refine ⟨by simp [r.len],r.nd,fun j c' a e q=>?_⟩
 by_cases hj:j=l
 ·subst hj
  rw [hl] at q;cases q
  have hlt:j<h.length:=by rw [←r.len];exact (qa1.mp hl).1
  rw [Cw hlt] at e
  cases e
  exact hc
 ·rw [BF (Ne.symm hj)] at e
  have:=r.cells j c' a e q
  have hne:a≠p:=by
   intro z
   subst z
   obtain ⟨h1,e1⟩:=qa1.mp q
   obtain ⟨h2,e2⟩:=qa1.mp hl
   exact hj ((List.getElem_inj r.nd).mp (e1.trans e2.symm))
  cases c' with
  |lst ds=>
   obtain ⟨vs,e1,e2⟩:=this
   exact ⟨vs,by rw [AB hne];exact e1,e2.keep (Ax _) (.set ho i)⟩
  |tabn g=>exact TabIs.keep this (.set ho i) (AB hne)
  |ins n fs=>exact InsR.keep this (Ax _) (.set ho i) (AB hne)
  |dic fz kvs=>
   obtain ⟨es,e1,e2⟩:=this
   exact ⟨es,e1.same (AB hne),e2.keep (Ax _) (.set ho i)⟩
def ER (K:PySem.W.Frag) (m:List Addr) (H:Hp) (ρ:Af) (σ:L2.St):Prop:=ρ.length=σ.length∧∀(i:Nat) (d:D),ρ[i]?=some (some d)→∃v,σ[i]?=some (some v)∧DV K m H d v
theorem ER.keep {ρ:Af} {σ:L2.St} (p:m <+:m') (k:Kp H H') (e:ER K m H ρ σ):ER K m' H' ρ σ:=⟨e.1,fun i d h=>let ⟨v,a,b⟩:=e.2 i d h;⟨v,a,b.keep p k⟩⟩
theorem ER.set {ρ:Af} {σ:L2.St} {i:Nat} {d:D} {v:V} (e:ER K m H ρ σ) (r:DV K m H d v):ER K m H (ρ.set i (some d)) (σ.set i (some v)):=by
 refine ⟨by simp [e.1],fun j d' h=>?_⟩
 by_cases hj:i=j
 ·subst hj
  by_cases hl:i < ρ.length
  ·rw [Cw hl] at h
   cases h
   exact ⟨v,by rw [Cw (by rw [←e.1];exact hl)],r⟩
  ·rw [List.getElem?_eq_none (by simp;omega)] at h;cases h
 ·rw [BF hj] at h
  obtain ⟨w,a,b⟩:=e.2 j d' h
  exact ⟨w,by rw [BF hj];exact a,b⟩
theorem ER.start {N:List Str} {ds:List D} {vs:List V} (h:DVs K m H ds vs):ER K m H (ds.map some++List.replicate (N.length - ds.length) none) (L2.start N vs):=by
 refine ⟨by simp [L2.start,h.len],fun i d e=>?_⟩
 by_cases hl:i<ds.length
 ·rw [DJ (by simpa using hl),CK] at e
  obtain ⟨d',e1⟩:∃d',ds[i]?=some d':=⟨ds[i],BK hl⟩
  rw [e1] at e
  simp at e
  subst e
  obtain ⟨v,q,r⟩:=h.get e1
  refine ⟨v,?_,r⟩
  unfold L2.start
  rw [DJ (by simpa [←h.len] using hl),CK,q]
  rfl
 ·rw [HU (by simpa using HY hl)] at e
  rw [LI] at e
  split at e<;>cases e
def XD (K:PySem.W.Frag) (m:List Addr) (H:Hp) (fs:List (Str×D)) (da:Option Addr):Prop:=
 ∀f d,fs.lookup f=some d→∃a fv v,da=some a∧H a=some (.xd fv)∧fv.lookup f=some v∧DV K m H d v
def Post {α β:Type} (K:PySem.W.Frag) (R:List Addr→Hp→α→β→Prop) (m:List Addr) (H:Hp) (E:XK) (Q:β→Hp→Prop):Out α→Prop
 |.ok a h'=>∀v m' H',m <+:m'→Kp H H'→HR K m' h' H'→R m' H' a v→Q v H'
 |.err C fs h'=>∀da m' H',m <+:m'→Kp H H'→HR K m' h' H'→XD K m' H' fs da→E C da H'
 |.stuck=>False
theorem Post.ahead {α β:Type} {R:List Addr→Hp→α→β→Prop} {E:XK} {Q:β→Hp→Prop} {o:Out α} (p:m <+:m') (k:Kp H H') (h:Post K R m H E Q o):Post K R m' H' E Q o:=by
 cases o with
 |ok a h'=>exact fun v m2 H2 p2 k2=>h v m2 H2 (p.trans p2) (k.trans k2)
 |err C fs h'=>exact fun da m2 H2 p2 k2=>h da m2 H2 (p.trans p2) (k.trans k2)
 |stuck=>exact h
theorem Post.bind {α β γ δ:Type} {R:List Addr→Hp→α→β→Prop} {R':List Addr→Hp→γ→δ→Prop} {E:XK} {Q:δ→Hp→Prop} {Q':β→Hp→Prop} {o:Out α} {k:α→HD→Out γ}
 (h:Post K R' m H E Q (o.bind k)) (f:∀a h1 v m1 H1,o=.ok a h1→m <+:m1→Kp H H1→HR K m1 h1 H1→R m1 H1 a v→Post K R' m1 H1 E Q (k a h1)→Q' v H1):Post K R m H E Q' o:=by
 cases o with
 |ok a h1=>exact fun v m1 H1 p kk hr r=>f a h1 v m1 H1 rfl p kk hr r (h.ahead p kk)
 |err C fs h1=>exact h
 |stuck=>exact h
theorem Post.mono {α β:Type} {R:List Addr→Hp→α→β→Prop} {E:XK} {Q Q':β→Hp→Prop} {o:Out α} (h:Post K R m H E Q o) (f:∀v H',Q v H'→Q' v H'):Post K R m H E Q' o:=by
 cases o with
 |ok a h1=>exact fun v m1 H1 p k hr r=>f _ _ (h v m1 H1 p k hr r)
 |err C fs h1=>exact h
 |stuck=>exact h
end
abbrev ME:=Af→HD→Out D
abbrev MT:=Af→HD→Out Bool
abbrev MA:=Af→HD→Out (List D)
inductive Fl where
 |nx |bk |ct |rt (d:D)
abbrev MS:=Af→HD→Out (Fl×Af)
def rD (K:PySem.W.Frag):List Addr→Hp→D→V→Prop:=fun m H d v=>DV K m H d v
def rB:List Addr→Hp→Bool→Bool→Prop:=fun _ _ a b=>a=b
def FV (K:PySem.W.Frag):List Addr→Hp→List D→List V→Prop:=fun m H d v=>DVs K m H d v
inductive tM {α β:Type} (K:PySem.W.Frag) (R:List Addr→Hp→α→β→Prop) (E:XK) (f:Af→HD→Out α) (σ:L2.St) (H:Hp) (Q:β→Hp→Prop):Prop where
 |mk (m:List Addr) (ρ:Af) (h:HD) (hr:HR K m h H) (er:ER K m H ρ σ) (p:Post K R m H E Q (f ρ h)):tM K R E f σ H Q
abbrev tD (K:PySem.W.Frag) (E:XK) (f:ME):TE:=tM K (rD K) E f
abbrev Io (K:PySem.W.Frag) (E:XK) (f:MT):TT:=tM K rB E f
abbrev JW (K:PySem.W.Frag) (E:XK) (f:MA):TA:=tM K (FV K) E f
def Pr (K:PySem.W.Frag) (m:List Addr) (H:Hp) (D:DM):Fl×Af→Prop
 |(.nx,ρ)=>∀σ,ER K m H ρ σ→D.nx σ H
 |(.bk,ρ)=>∀σ,ER K m H ρ σ→D.bk σ H
 |(.ct,ρ)=>∀σ,ER K m H ρ σ→D.ct σ H
 |(.rt d,_)=>∀v,DV K m H d v→D.rt v H
def PostS (K:PySem.W.Frag) (m:List Addr) (H:Hp) (E:XK) (D:DM):Out (Fl×Af)→Prop
 |.ok a h'=>∀m' H',m <+:m'→Kp H H'→HR K m' h' H'→Pr K m' H' D a
 |.err C fs h'=>∀da m' H',m <+:m'→Kp H H'→HR K m' h' H'→XD K m' H' fs da→E C da H'
 |.stuck=>False
inductive G3 (K:PySem.W.Frag) (E:XK) (g:MS) (D:DM) (σ:L2.St) (H:Hp):Prop where
 |mk (m:List Addr) (ρ:Af) (h:HD) (hr:HR K m h H) (er:ER K m H ρ σ) (p:PostS K m H E D (g ρ h)):G3 K E g D σ H
theorem PostS.ahead {K:PySem.W.Frag} {m m':List Addr} {H H':Hp} {E:XK} {D:DM} {o:Out (Fl×Af)} (p:m <+:m') (k:Kp H H') (h:PostS K m H E D o):PostS K m' H' E D o:=by
 cases o with
 |ok a h'=>exact fun m2 H2 p2 k2=>h m2 H2 (p.trans p2) (k.trans k2)
 |err C fs h'=>exact fun da m2 H2 p2 k2=>h da m2 H2 (p.trans p2) (k.trans k2)
 |stuck=>exact h
abbrev Ev (X:Cx) (E:XK) (e:Expr) (f:ME):Prop:=PE X e (tD X.K E f)
abbrev Ds (X:Cx) (E:XK) (e:Expr) (f:MT):Prop:=PT X e (Io X.K E f)
abbrev CV (X:Cx) (E:XK) (es:List Expr) (f:MA):Prop:=PA X es (JW X.K E f)
abbrev Ex (X:Cx) (E:XK) (st:Stmt) (g:MS):Prop:=PS X st (G3 X.K E g)
abbrev Cz (X:Cx) (E:XK) (sts:List Stmt) (g:MS):Prop:=Do X sts (G3 X.K E g)
section
variable {X:Cx}
theorem BH {e:Expr} {t t':TE} (h:PE X e t) (i:∀σ H Q,t' σ H Q→t σ H Q):PE X e t':=fun pins s σ H Q I q=>h pins s σ H Q I (i σ H Q q)
theorem JX {e:Expr} {t t':TT} (h:PT X e t) (i:∀σ H Q,t' σ H Q→t σ H Q):PT X e t':=fun pins s σ H Q I q=>h pins s σ H Q I (i σ H Q q)
theorem Pt {e:List Expr} {t t':TA} (h:PA X e t) (i:∀σ H Q,t' σ H Q→t σ H Q):PA X e t':=fun pos pins s σ H Q I q=>h pos pins s σ H Q I (i σ H Q q)
theorem Ek {e:Stmt} {t t':TS} (h:PS X e t) (i:∀D σ H,t' D σ H→t D σ H):PS X e t':=fun pins s σ H D I q=>h pins s σ H D I (i D σ H q)
theorem Mm {e:List Stmt} {t t':TS} (h:Do X e t) (i:∀D σ H,t' D σ H→t D σ H):Do X e t':=fun pins s σ H D I q=>h pins s σ H D I (i D σ H q)
end
end LS
namespace LS
open PySem PySem.Spec PyProof.Rows L2
section
variable {X:Cx} {E:XK} {a b c:Expr} {pos:Pos} {f g k:ME}
def Ab (i:Nat):ME:=fun ρ h=>match ρ[i]? with
 |some (some d)=>.ok d h
 |_=>.stuck
theorem Mo {i:Nat} (h:PE X a (OM i)):Ev X E a (Ab i):=BH h fun σ H Q z1_=>by
 obtain ⟨m,ρ,hd,hr,er,p⟩:=z1_
 unfold Ab at p
 split at p
 ·rename_i d e
  obtain ⟨v,e1,r⟩:=er.2 i d e
  exact ⟨v,e1,p v m H (Ax _) (.refl _) hr r⟩
 ·exact p.elim
def mC (d:D):ME:=fun _ h=>.ok d h
theorem FW {d:D} {v:V} (h:PE X a (tC v)) (r:∀m H,DV X.K m H d v):Ev X E a (mC d):=BH h fun σ H Q z2_=>by obtain ⟨m,ρ,hd,hr,er,p⟩:=z2_;exact (p v m H (Ax _) (.refl _) hr (r m H))
theorem Xv {i:Int} {j:Nat}:Ev X E (.Constant (.int i) j pos) (mC (.int i)):=FW ON fun _ _=>by simp [DV]
theorem Xw {i:Bool} {j:Nat}:Ev X E (.Constant (.bool i) j pos) (mC (.bl i)):=FW U5 fun _ _=>by simp [DV]
theorem Xx {j:Nat}:Ev X E (.Constant .none j pos) (mC .non):=FW U6 fun _ _=>by simp [DV]
theorem Pv {x:Str} {j:Nat}:Ev X E (.Constant (.str x) j pos) (mC (.str x)):=FW OO fun _ _=>by simp [DV]
theorem Xy {x:Str} {i:Int} {t:Tok} {pos:Pos} (hg:Gl X x) (hm:X.mg x=some (.int i t)) (hd:(x==("__debug__":Str))=false:=by decide):Ev X E (.Name x pos) (mC (.int i)):=
 FW (LU (v:=.int i) hg hm ⟨t,rfl⟩ hd) fun _ _=>by simp [DV]
def Ad (op:D→D→HD→Out D) (f g:ME):ME:=fun ρ h=>(f ρ h).bind fun x h1=>(g ρ h1).bind fun y h2=>op x y h2
theorem Ip {op:D→D→HD→Out D} {Q:VK} {R:V→V→Hp→Prop} {σ:L2.St} {H:Hp} (h:tD X.K E (Ad op f g) σ H Q)
 (i:∀m H2 h2 x y v u,HR X.K m h2 H2→DV X.K m H2 x v→DV X.K m H2 y u→Post X.K (rD X.K) m H2 E Q (op x y h2)→R v u H2):tD X.K E f σ H fun v H1=>tD X.K E g σ H1 fun u H2=>R v u H2:=by
 obtain ⟨m,ρ,hd,hr,er,p⟩:=h
 refine ⟨m,ρ,hd,hr,er,Post.bind p fun x h1 v m1 H1 _ p1 k1 hr1 r1 q1=>?_⟩
 refine ⟨m1,ρ,h1,hr1,er.keep p1 k1,Post.bind q1 fun y h2 u m2 H2 _ p2 k2 hr2 r2 q2=>?_⟩
 exact i m2 H2 h2 x y v u hr2 (DV.keep p2 k2 r1) r2 q2
def By (X:Cx) (f:Value→Value→Sem Value) (op:D→D→HD→Out D):Prop:=
 ∃r:R2,OpR X f r∧∀m H h E x y v u Q,HR X.K m h H→DV X.K m H x v→DV X.K m H y u→Post X.K (rD X.K) m H E Q (op x y h)→r v u H Q
theorem Iq {o:Operator} {op:D→D→HD→Out D} (ho:By X (binaryOp o) op) (ha:Ev X E a f) (hb:Ev X E b g):Ev X E (.BinOp a o b pos) (Ad op f g):=by
 obtain ⟨r,ho,i⟩:=ho
 exact BH (VR ho ha hb) fun σ H Q h=>Ip h fun m H2 h2 x y v u hr rx ry q=>i m H2 h2 E x y v u Q hr rx ry q
theorem JY {o:CmpOp} {op:D→D→HD→Out D} (ho:By X (compareOp o) op) (ha:Ev X E a f) (hb:Ev X E b g) (hm:behindInMarks o b=false):Ev X E (.Compare a [o] [b] pos) (Ad op f g):=by
 obtain ⟨r,ho,i⟩:=ho
 exact BH (V1 ho ha hb hm) fun σ H Q h=>Ip h fun m H2 h2 x y v u hr rx ry q=>i m H2 h2 E x y v u Q hr rx ry q
def D1:D→HD→Out Bool
 |.bl b,h=>.ok b h
 |_,_=>.stuck
def An (f:ME):MT:=fun ρ h=>(f ρ h).bind D1
theorem Pw {m:List Addr} {H:Hp} {x:D} {v:V} {h:HD} {Q:Bool→Hp→Prop} (hr:HR X.K m h H) (r:DV X.K m H x v) (q:Post X.K rB m H E Q (D1 x h)):∃k,v=.bl k∧Q k H:=by
 cases x with
 |bl b=>
  simp only [DV] at r
  exact ⟨b,r,q b m H (Ax _) (.refl _) hr rfl⟩
 |_=>exact q.elim
theorem FX {o:CmpOp} {op:D→D→HD→Out D} (ho:By X (compareOp o) op) (ha:Ev X E a f) (hb:Ev X E b g) (hm:behindInMarks o b=false):Ds X E (.Compare a [o] [b] pos) (An (Ad op f g)):=by
 obtain ⟨r,ho,i⟩:=ho
 refine JX (V2 ho ha hb hm) fun σ H Q h=>?_
 obtain ⟨m,ρ,hd,hr,er,p⟩:=h
 have h':tD X.K E (Ad op f g) σ H fun x H'=>∃k,x=.bl k∧Q k H':=
  ⟨m,ρ,hd,hr,er,Post.bind p fun x h1 v m1 H1 _ p1 k1 hr1 r1 q1=>Pw hr1 r1 q1⟩
 exact Ip h' fun m H2 h2 x y v u hr rx ry q=>i m H2 h2 E x y v u _ hr rx ry q
def DO:D→HD→Out Bool
 |.non,h=>.ok false h
 |.bl b,h=>.ok b h
 |.int i,h=>.ok (i != 0) h
 |.tup ds,h=>.ok (!ds.isEmpty) h
 |.loc l,h=>match h[l]? with
  |some (.lst ds)=>.ok (!ds.isEmpty) h
  |_=>.stuck
 |_,_=>.stuck
def Cf (f:ME):MT:=fun ρ h=>(f ρ h).bind DO
theorem Px {α β:Type} {xs:List α} {ys:List β} (h:xs.length=ys.length):xs.isEmpty=ys.isEmpty:=by
 cases xs<;>cases ys<;>simp_all
theorem Xz {m:List Addr} {H:Hp} {x:D} {v:V} {h:HD} {Q:Bool→Hp→Prop} (hr:HR X.K m h H) (r:DV X.K m H x v) (q:Post X.K rB m H E Q (DO x h)):∃k,L7 X.K v H k∧Q k H:=by
 have go:∀k,DO x h=.ok k h→Q k H:=fun k e=>by rw [e] at q;exact q k m H (Ax _) (.refl _) hr rfl
 cases x with
 |non=>simp only [DV] at r;subst r;exact ⟨false,rfl,go _ rfl⟩
 |bl b=>simp only [DV] at r;subst r;exact ⟨b,rfl,go _ rfl⟩
 |int i=>simp only [DV] at r;subst r;exact ⟨_,rfl,go _ rfl⟩
 |str x=>exact q.elim
 |tup ds=>
  simp only [DV] at r
  obtain ⟨p,vs,rfl,hp,dv⟩:=r
  exact ⟨_,.inr ⟨vs,tq hp,rfl⟩,by rw [←Px dv.len];exact go _ rfl⟩
 |loc l=>
  simp only [DV] at r
  obtain ⟨p,rfl,hp⟩:=r
  simp only [DO] at q
  split at q
  ·rename_i ds e
   obtain ⟨vs,e1,dv⟩:=hr.cells l _ p e hp
   exact ⟨_,.inl ⟨vs,SqL.of e1,rfl⟩,by rw [←Px dv.len];exact q _ m H (Ax _) (.refl _) hr rfl⟩
  ·exact q.elim
 |scr ns=>exact q.elim
 |adr a=>exact q.elim
 |ty a=>exact q.elim
 |exc n fs=>exact q.elim
 |edic=>exact q.elim
 |glo n=>exact q.elim
 |clo a vs ds=>exact q.elim
theorem XA (ha:Ev X E a f) (he:∀EI,isTrue a X.env EI=(do let v ←EI;standAt a.pos;holding [v] (truthy v)):=by intro _;rfl):Ds X E a (Cf f):=
 JX (V6 ha he) fun σ H Q z3_=>by obtain ⟨m,ρ,hd,hr,er,p⟩:=z3_;exact (⟨m,ρ,hd,hr,er,Post.bind p fun x h1 v m1 H1 _ p1 k1 hr1 r1 q1=>Xz hr1 r1 q1⟩)
variable {tf tg:MT} {rest:List Expr}
def FY (f g:MT):MT:=fun ρ h=>(f ρ h).bind fun b h1=>if b=true then g ρ h1 else .ok false h1
def Cg (f g:MT):MT:=fun ρ h=>(f ρ h).bind fun b h1=>if b=true then .ok true h1 else g ρ h1
def CA (f:MT):MT:=fun ρ h=>(f ρ h).bind fun b h1=>.ok (!b) h1
abbrev FZ (X:Cx) (E:XK) (e:Expr) (f:MT):Prop:=PW X e (Io X.K E f)
theorem Pz {e:Expr} {t t':TT} (h:PW X e t) (i:∀σ H Q,t' σ H Q→t σ H Q):PW X e t':=fun wh pins s σ H Q I q=>h wh pins s σ H Q I (i σ H Q q)
theorem XB (ha:Ds X E a tf):FZ X E (.BoolOp .And [a] pos) tf:=Vb ha
theorem XC (ha:Ds X E a tf):FZ X E (.BoolOp .Or [a] pos) tf:=Vc ha
theorem PB (ha:Ds X E a tf) (hb:FZ X E (.BoolOp .And (b::rest) pos) tg):FZ X E (.BoolOp .And (a::b::rest) pos) (FY tf tg):=
 Pz (Vd ha hb) fun σ H Q z4_=>by obtain ⟨m,ρ,hd,hr,er,p⟩:=z4_;exact (⟨m,ρ,hd,hr,er,Post.bind p fun x h1 v m1 H1 _ p1 k1 hr1 r1 q1=>by
  cases r1
  cases x with
  |true=>exact ⟨m1,ρ,h1,hr1,er.keep p1 k1,q1⟩
  |false=>exact q1 false m1 H1 (Ax _) (.refl _) hr1 rfl⟩)
theorem PC (ha:Ds X E a tf) (hb:FZ X E (.BoolOp .Or (b::rest) pos) tg):FZ X E (.BoolOp .Or (a::b::rest) pos) (Cg tf tg):=
 Pz (Ve ha hb) fun σ H Q z5_=>by obtain ⟨m,ρ,hd,hr,er,p⟩:=z5_;exact (⟨m,ρ,hd,hr,er,Post.bind p fun x h1 v m1 H1 _ p1 k1 hr1 r1 q1=>by
  cases r1
  cases x with
  |false=>exact ⟨m1,ρ,h1,hr1,er.keep p1 k1,q1⟩
  |true=>exact q1 true m1 H1 (Ax _) (.refl _) hr1 rfl⟩)
theorem PD (h:FZ X E a tf):Ds X E a tf:=PW.pt h
theorem XE (ha:Ds X E a tf):Ds X E (.UnaryOp .Not a pos) (CA tf):=
 JX (Vf ha) fun σ H Q z6_=>by obtain ⟨m,ρ,hd,hr,er,p⟩:=z6_;exact (⟨m,ρ,hd,hr,er,Post.bind p fun x h1 v m1 H1 _ p1 k1 hr1 r1 q1=>by
  cases r1
  exact q1 _ m1 H1 (Ax _) (.refl _) hr1 rfl⟩)
def El (f g:ME):ME:=fun ρ h=>(f ρ h).bind fun x h1=>match x with
 |.bl true=>g ρ h1
 |.bl false=>.ok (.bl false) h1
 |_=>.stuck
def PF (f g:ME):ME:=fun ρ h=>(f ρ h).bind fun x h1=>match x with
 |.bl true=>.ok (.bl true) h1
 |.bl false=>g ρ h1
 |_=>.stuck
def JZ (f:ME):ME:=fun ρ h=>(f ρ h).bind fun x h1=>match x with
 |.bl b=>.ok (.bl (!b)) h1
 |_=>.stuck
theorem XF {o:BoolOp} (h:Ev X E a f):Ev X E (.BoolOp o [a] pos) f:=Vi h
theorem XG (ha:Ev X E a f) (hb:Ev X E (.BoolOp .And (b::rest) pos) g):Ev X E (.BoolOp .And (a::b::rest) pos) (El f g):=
 BH (Vj ha hb) fun σ H Q ⟨m,ρ,hd,hr,er,p⟩=>⟨m,ρ,hd,hr,er,Post.bind p fun x h1 v m1 H1 _ p1 k1 hr1 r1 q1=>by
  cases x with
  |bl b=>
   refine ⟨b,by simpa [rD,DV] using r1,?_⟩
   cases b with
   |true=>exact ⟨m1,ρ,h1,hr1,er.keep p1 k1,q1⟩
   |false=>exact q1 _ m1 H1 (Ax _) (.refl _) hr1 (by simp [rD,DV])
  |_=>exact q1.elim⟩
theorem XH (ha:Ev X E a f):Ev X E (.UnaryOp .Not a pos) (JZ f):=
 BH (Vk ha) fun σ H Q z9_=>by obtain ⟨m,ρ,hd,hr,er,p⟩:=z9_;exact (⟨m,ρ,hd,hr,er,Post.bind p fun x h1 v m1 H1 _ p1 k1 hr1 r1 q1=>by
  cases x with
  |bl b=>exact ⟨b,by simpa [rD,DV] using r1,q1 _ m1 H1 (Ax _) (.refl _) hr1 (by simp [rD,DV])⟩
  |_=>exact q1.elim⟩)
def DP (t:MT) (f g:ME):ME:=fun ρ h=>(t ρ h).bind fun b h1=>if b=true then f ρ h1 else g ρ h1
theorem XI (hc:Ds X E c tf) (ha:Ev X E a f) (hb:Ev X E b g):Ev X E (.IfExp c a b pos) (DP tf f g):=
 BH (Vm hc ha hb) fun σ H Q z10_=>by obtain ⟨m,ρ,hd,hr,er,p⟩:=z10_;exact (⟨m,ρ,hd,hr,er,Post.bind p fun x h1 v m1 H1 _ p1 k1 hr1 r1 q1=>by
  cases r1
  cases x with
  |true=>exact ⟨m1,ρ,h1,hr1,er.keep p1 k1,q1⟩
  |false=>exact ⟨m1,ρ,h1,hr1,er.keep p1 k1,q1⟩⟩)
def D2 (op op':D→D→HD→Out D) (f g k:ME):ME:=fun ρ h=>(f ρ h).bind fun x h1=>(g ρ h1).bind fun y h2=>(op x y h2).bind fun z h3=>match z with
 |.bl true=>(k ρ h3).bind fun w h4=>op' y w h4
 |.bl false=>.ok (.bl false) h3
 |_=>.stuck
theorem PH {r r':R2} {op op':D→D→HD→Out D} {o o':Value→Value→Sem Value} (i:∀m H h E x y v u Q,HR X.K m h H→DV X.K m H x v→DV X.K m H y u→Post X.K (rD X.K) m H E Q (op x y h)→r v u H Q)
 (i':∀m H h E x y v u Q,HR X.K m h H→DV X.K m H x v→DV X.K m H y u→Post X.K (rD X.K) m H E Q (op' x y h)→r' v u H Q) {σ:L2.St} {H:Hp} {Q:VK} (h:tD X.K E (D2 op op' f g k) σ H Q):
 L6 r r' (tD X.K E f) (tD X.K E g) (tD X.K E k) σ H Q:=by
 obtain ⟨m,ρ,hd,hr,er,p⟩:=h
 refine ⟨m,ρ,hd,hr,er,Post.bind p fun x h1 v m1 H1 _ p1 k1 hr1 r1 q1=>?_⟩
 refine ⟨m1,ρ,h1,hr1,er.keep p1 k1,Post.bind q1 fun y h2 u m2 H2 _ p2 k2 hr2 r2 q2=>?_⟩
 refine i m2 H2 h2 E x y v u _ hr2 (DV.keep p2 k2 r1) r2 (Post.bind q2 fun z h3 w m3 H3 _ p3 k3 hr3 r3 q3=>?_)
 cases z with
 |bl b=>
  refine ⟨b,by simpa [rD,DV] using r3,?_⟩
  cases b with
  |false=>exact q3 _ m3 H3 (Ax _) (.refl _) hr3 (by simp [rD,DV])
  |true=>
   refine ⟨m3,ρ,h3,hr3,((er.keep p1 k1).keep p2 k2).keep p3 k3,Post.bind q3 fun z h4 w' m4 H4 _ p4 k4 hr4 r4 q4=>?_⟩
   exact i' m4 H4 h4 E y z u w' Q hr4 (DV.keep p4 k4 (DV.keep p3 k3 r2)) r4 q4
 |_=>exact q3.elim
theorem XJ {o o':CmpOp} {op op':D→D→HD→Out D} (ho:By X (compareOp o) op) (ho':By X (compareOp o') op') (ha:Ev X E a f) (hb:Ev X E b g) (hc:Ev X E c k)
 (hm:lastMarks [o,o'] [b,c]=false:=by with_unfolding_all rfl):Ev X E (.Compare a [o,o'] [b,c] pos) (D2 op op' f g k):=by
 obtain ⟨r,ho,i⟩:=ho
 obtain ⟨r',ho',i'⟩:=ho'
 exact BH (V3 ho ho' ha hb hc hm) fun σ H Q h=>PH (o:=compareOp o) (o':=compareOp o') i i' h
theorem XM {o o':CmpOp} {op op':D→D→HD→Out D} (ho:By X (compareOp o) op) (ho':By X (compareOp o') op') (ha:Ev X E a f) (hb:Ev X E b g) (hc:Ev X E c k)
 (hm:lastMarks [o,o'] [b,c]=false:=by with_unfolding_all rfl):Ds X E (.Compare a [o,o'] [b,c] pos) (An (D2 op op' f g k)):=by
 obtain ⟨r,ho,i⟩:=ho
 obtain ⟨r',ho',i'⟩:=ho'
 refine JX (V4 ho ho' ha hb hc hm) fun σ H Q h=>?_
 obtain ⟨m,ρ,hd,hr,er,p⟩:=h
 exact PH (o:=compareOp o) (o':=compareOp o') i i' ⟨m,ρ,hd,hr,er,Post.bind p fun x h1 v m1 H1 _ p1 k1 hr1 r1 q1=>Pw hr1 r1 q1⟩
variable {es:List Expr} {fa:MA}
def Ac:MA:=fun _ h=>.ok [] h
def Aa (f:ME) (r:MA):MA:=fun ρ h=>(f ρ h).bind fun x h1=>(r ρ h1).bind fun xs h2=>.ok (x::xs) h2
theorem Ir:CV X E [] Ac:=Pt Wu fun σ H Q z11_=>by obtain ⟨m,ρ,hd,hr,er,p⟩:=z11_;exact (p [] m H (Ax _) (.refl _) hr .nil)
theorem G4 (ha:Ev X E a f) (hr:CV X E es fa) (hs:starEach (a::es) X.env=(false,eval a X.env)::starEach es X.env:=by rfl):CV X E (a::es) (Aa f fa):=
 Pt (Wv ha hr hs) fun σ H Q z12_=>by obtain ⟨m,ρ,hd,hr,er,p⟩:=z12_;exact (⟨m,ρ,hd,hr,er,Post.bind p fun x h1 v m1 H1 _ p1 k1 hr1 r1 q1=>
  ⟨m1,ρ,h1,hr1,er.keep p1 k1,Post.bind q1 fun xs h2 vs m2 H2 _ p2 k2 hr2 r2 q2=>q2 _ m2 H2 (Ax _) (.refl _) hr2 (DVs.cons (DV.keep p2 k2 r1) r2)⟩⟩)
def Du (fa:MA):ME:=fun ρ h=>(fa ρ h).bind fun xs h1=>if xs.length≤sizeLine then .ok (.tup xs) h1 else .stuck
def Bu (xs:List D) (h:HD):Out D:=if xs.length≤sizeLine then .ok (.loc h.length) (h++[.lst xs]) else .stuck
def As (fa:MA):ME:=fun ρ h=>(fa ρ h).bind Bu
theorem G5 {m:List Addr} {H:Hp} {h:HD} {xs:List D} {vs:List V} {Q:VK} (hr:HR X.K m h H) (r:DVs X.K m H xs vs) (q:Post X.K (rD X.K) m H E Q (.ok (.tup xs) h)):∀p,H p=none→Q (.ref p) (Aj H p (.tup vs)):=fun p hp=>
 q (.ref p) m _ (Ax _) (.new hp) (hr.new hp) (by simp only [rD,DV];exact ⟨p,vs,rfl,.inl Cy,r.keep (Ax _) (.new hp)⟩)
theorem G6 {m:List Addr} {H:Hp} {h:HD} {xs:List D} {vs:List V} {Q:VK} (hr:HR X.K m h H) (r:DVs X.K m H xs vs) (q:Post X.K (rD X.K) m H E Q (Bu xs h)):vs.length≤sizeLine∧∀p,H p=none→Q (.ref p) (Aj H p (.lst vs)):=by
 unfold Bu at q
 by_cases hz:xs.length≤sizeLine
 ·rw [if_pos hz] at q
  refine ⟨by rw [←r.len];exact hz,fun p hp=>?_⟩
  refine q (.ref p) (m++[p]) _ (GX _ _) (.new hp) (hr.newCell hp ⟨vs,Cy,r.keep (GX _ _) (.new hp)⟩) ?_
  simp only [rD,DV]
  exact ⟨p,rfl,by rw [←hr.len];simp⟩
 ·rw [if_neg hz] at q;exact q.elim
theorem XN {x1:Nat} (h:CV X E es fa):Ev X E (.Tuple es x1 pos) (Du fa):=
 BH (Wy h) fun σ H Q z13_=>by obtain ⟨m,ρ,hd,hr,er,p⟩:=z13_;exact (⟨m,ρ,hd,hr,er,Post.bind p fun xs h1 vs m1 H1 _ p1 k1 hr1 r1 q1=>by
  by_cases hz:xs.length≤sizeLine
  ·rw [if_pos hz] at q1
   exact ⟨by rw [←DVs.len r1];exact hz,G5 hr1 r1 q1⟩
  ·rw [if_neg hz] at q1;exact q1.elim⟩)
theorem XO (h:CV X E es fa):Ev X E (.List es pos) (As fa):=
 BH (Wz h) fun σ H Q z14_=>by obtain ⟨m,ρ,hd,hr,er,p⟩:=z14_;exact (⟨m,ρ,hd,hr,er,Post.bind p fun xs h1 vs m1 H1 _ p1 k1 hr1 r1 q1=>G6 hr1 r1 q1⟩)
inductive J0 (K:PySem.W.Frag) (F:List D→HD→Out D) (vs:List V) (H:Hp) (Q:VK) (E:XK):Prop where
 |mk (m:List Addr) (ds:List D) (h:HD) (hr:HR K m h H) (r:DVs K m H ds vs) (p:Post K (rD K) m H E0 Q (F ds h)):J0 K F vs H Q E
def Ar (n:Nat) (F:List D→HD→Out D):Prop:=∀ds h,ds.length≠n→F ds h=.stuck
theorem Ar.len {K:PySem.W.Frag} {n:Nat} {F:List D→HD→Out D} (ar:Ar n F) {vs:List V} {H:Hp} {Q:VK} {E':XK} (h:J0 K F vs H Q E'):vs.length=n:=by
 obtain ⟨m,ds,hd,hr,r,p⟩:=h
 rw [←r.len]
 by_cases e:ds.length=n
 ·exact e
 ·rw [ar ds hd e] at p;exact p.elim
def ar0 (F:HD→Out D):List D→HD→Out D:=fun ds h=>match ds with
 |[]=>F h
 |_=>.stuck
def Ak (F:D→HD→Out D):List D→HD→Out D:=fun ds h=>match ds with
 |[a]=>F a h
 |_=>.stuck
def A6 (F:D→D→HD→Out D):List D→HD→Out D:=fun ds h=>match ds with
 |[a,b]=>F a b h
 |_=>.stuck
def XQ (F:D→D→D→HD→Out D):List D→HD→Out D:=fun ds h=>match ds with
 |[a,b,c]=>F a b c h
 |_=>.stuck
def Ae (F:List D→HD→Out D) (fa:MA):ME:=fun ρ h=>(fa ρ h).bind F
def Dj (X:Cx) (f:Value) (F:List D→HD→Out D):Prop:=
 ∃r:List V→Hp→VK→Prop,Dp X f r∧∀m H h E ds vs Q,HR X.K m h H→DVs X.K m H ds vs→Post X.K (rD X.K) m H E Q (F ds h)→r vs H Q
theorem XR {id:String} {F:List D→HD→Out D} {x:Str} {p pos:Pos} {e:Expr} (hc:Dj X (.builtin id) F) (hg:Gl X x) (hm:X.mg x=none) (hv:bootBuiltins x=some (.builtin id)) (ha:CV X E (e::es) fa) (hn:x≠"__name__":=by decide) (hdb:(x==("__debug__":Str))=false:=by decide)
 (hs:starEach (e::es) X.env=(false,eval e X.env)::starEach es X.env:=by rfl) (hpl:(backTo pos (starEach es X.env)).any (·.1)=false:=by rfl):Ev X E (.Call (.Name x p) (e::es) [] pos) (Ae F fa):=by
 obtain ⟨r,hc,i⟩:=hc
 exact BH (WJ hc hg hm hv ha hn hdb hs hpl) fun σ H Q z17_=>by obtain ⟨m,ρ,hd,hr,er,p⟩:=z17_;exact (⟨m,ρ,hd,hr,er,Post.bind p fun xs h1 vs m1 H1 e1 p1 k1 hr1 r1 q1=>i m1 H1 h1 E xs vs Q hr1 r1 q1⟩)
theorem XS {id:String} {F:List D→HD→Out D} {x:Str} {p pos:Pos} {e:Expr} (hc:Dj X (.type id) F) (hg:Gl X x) (hm:X.mg x=none) (hv:bootBuiltins x=some (.type id)) (ha:CV X E (e::es) fa) (hn:x≠"__name__":=by decide) (hdb:(x==("__debug__":Str))=false:=by decide)
 (hs:starEach (e::es) X.env=(false,eval e X.env)::starEach es X.env:=by rfl) (hpl:(backTo pos (starEach es X.env)).any (·.1)=false:=by rfl):Ev X E (.Call (.Name x p) (e::es) [] pos) (Ae F fa):=by
 obtain ⟨r,hc,i⟩:=hc
 exact BH (WK hc hg hm hv ha hn hdb hs hpl) fun σ H Q z18_=>by obtain ⟨m,ρ,hd,hr,er,p⟩:=z18_;exact (⟨m,ρ,hd,hr,er,Post.bind p fun xs h1 vs m1 H1 e1 p1 k1 hr1 r1 q1=>i m1 H1 h1 E xs vs Q hr1 r1 q1⟩)
end
section
variable {X:Cx} {E:XK}
theorem AI {K:PySem.W.Frag} {m:List Addr} {H:Hp} {h:HD} {d:D} {v:V} {Q:VK} (hr:HR K m h H) (q:Post K (rD K) m H E Q (.ok d h)) (r:DV K m H d v):Q v H:=q v m H (Ax _) (.refl _) hr r
theorem op_catT0:OpR X (binaryOp .Add) (fun x y H Q=>∃a b ys,x=.ref a∧y=.ref b∧SqT X.K H a []∧SqT X.K H b ys∧Q (.ref b) H):=by
 intro pins s σ H x y v u Q I rx ry h
 obtain ⟨a,b,ys,rfl,rfl,ha,hb,q⟩:=h
 cases rx
 cases ry
 obtain ⟨its,r1,p1,_⟩:=I.tuple ha
 obtain ⟨its2,r2,p2,_⟩:=I.tuple hb
 cases r1
 obtain ⟨⟨cls,dd,data,sl⟩,ho,hc,n,hd⟩:=id p1
 obtain ⟨⟨cls2,dd2,data2,sl2⟩,ho2,hc2,n2,hd2⟩:=id p2
 simp only at hc hd hc2 hd2
 subst hc hd hc2 hd2
 exact concat_meets ⟨_,ho,rfl⟩ ⟨_,ho2,rfl⟩ noFill_tuple_add seq_tuple_add PySem.F.slot_tuple_add PySem.F.entry_tuple_add (PySem.F.args_tuple_add_2 _ _)
  (tuple_addW0 a b _ its2.toArray n n2 dd dd2 sl sl2 (by simp)) ⟨ho,ho2,⟨.ref b,H,I,rfl,q⟩⟩
def Ah:D→D→HD→Out D
 |.int i,.int j,h=>.ok (.int (i+j)) h
 |.str x,.str y,h=>if x.length+y.length≤sizeLine then .ok (.str (x++y)) h else .stuck
 |.tup xs,.tup ys,h=>if xs.length+ys.length≤sizeLine then .ok (.tup (xs++ys)) h else .stuck
 |.loc l,.loc k,h=>match h[l]?,h[k]? with
  |some (.lst xs),some (.lst ys)=>Bu (xs++ys) h
  |_,_=>.stuck
 |_,_,_=>.stuck
theorem XT:By X (binaryOp .Add) Ah:=by
 refine ⟨_,op_add.or (op_catT0.or (op_catT.or (op_cat.or V7))),fun m H h E x y v u Q hr rx ry q=>?_⟩
 unfold Ah at q
 split at q
 ·simp only [DV] at rx ry
  subst rx ry
  exact .inl ⟨_,_,rfl,rfl,AI hr q (by simp [DV])⟩
 ·simp only [DV] at rx ry
  subst rx ry
  split at q
  ·rename_i hz
   exact .inr (.inr (.inr (.inr ⟨_,_,rfl,rfl,hz,AI hr q (by simp [DV])⟩)))
  ·exact q.elim
 ·rename_i xs ys
  simp only [DV] at rx ry
  obtain ⟨a,vs,rfl,ha,dx⟩:=rx
  obtain ⟨b,ws,rfl,hb,dy⟩:=ry
  split at q
  ·rename_i hz
   cases xs with
   |nil=>
    simp only [DVs] at dx
    subst dx
    exact .inr (.inl ⟨a,b,ws,rfl,rfl,tq ha,tq hb,AI hr q (by simp only [DV];exact ⟨b,ws,rfl,hb,dy⟩)⟩)
   |cons x xs=>
    refine .inr (.inr (.inl ⟨a,b,vs,ws,rfl,rfl,tq ha,tq hb,?_,by rw [←dx.len,←dy.len];exact hz,fun e=>?_,fun e=>?_⟩))
    ·intro e;have:=dx.len;rw [e] at this;simp at this
    ·subst e
     have:ys=[]:=by have:=dy.len;simpa using this
     subst this
     exact AI hr q (by simp only [DV];exact ⟨a,vs,rfl,ha,by simpa using dx⟩)
    ·exact G5 hr (dx.app dy) q
  ·exact q.elim
 ·simp only [DV] at rx ry
  obtain ⟨a,rfl,ha⟩:=rx
  obtain ⟨b,rfl,hb⟩:=ry
  split at q
  ·rename_i xs ys e1 e2
   obtain ⟨vs,h1,d1⟩:=hr.cells _ _ a e1 ha
   obtain ⟨ws,h2,d2⟩:=hr.cells _ _ b e2 hb
   obtain ⟨z,q'⟩:=G6 hr (d1.app d2) q
   exact .inr (.inr (.inr (.inl ⟨a,b,vs,ws,rfl,rfl,h1,h2,by simpa using z,q'⟩)))
  ·exact q.elim
 ·exact q.elim
def F0 (f:Int→Int→D) (c:Int→Int→Prop) [∀i j,Decidable (c i j)]:D→D→HD→Out D
 |.int i,.int j,h=>if c i j then .ok (f i j) h else .stuck
 |_,_,_=>.stuck
theorem PJ {o:Value→Value→Sem Value} {f:Int→Int→V} {g:Int→Int→D} {c c':Int→Int→Prop} [∀i j,Decidable (c' i j)] (h:OpR X o (rI c f)) (hc:∀i j,c' i j→c i j) (hg:∀m H i j,DV X.K m H (g i j) (f i j)):By X o (F0 g c'):=by
 refine ⟨_,h,fun m H h E x y v u Q hr rx ry q=>?_⟩
 unfold F0 at q
 split at q
 ·simp only [DV] at rx ry
  subst rx ry
  split at q
  ·rename_i hc'
   exact ⟨_,_,rfl,rfl,hc _ _ hc',AI hr q (hg _ _ _ _)⟩
  ·exact q.elim
 ·exact q.elim
def Fx (f:Int→Int→D):D→D→HD→Out D
 |.int i,.int j,h=>.ok (f i j) h
 |_,_,_=>.stuck
theorem PK {o:Value→Value→Sem Value} {f:Int→Int→V} {g:Int→Int→D} (h:OpR X o (G0 f)) (hg:∀m H i j,DV X.K m H (g i j) (f i j)):By X o (Fx g):=by
 refine ⟨_,h,fun m H h E x y v u Q hr rx ry q=>?_⟩
 unfold Fx at q
 split at q
 ·simp only [DV] at rx ry
  subst rx ry
  exact ⟨_,_,rfl,rfl,AI hr q (hg _ _ _ _)⟩
 ·exact q.elim
abbrev ZeR:=Fx fun i j=>.int (i - j)
abbrev Mp:=Fx fun i j=>.bl (decide (i<j))
abbrev Dv:=Fx fun i j=>.bl (decide (i≤j))
abbrev gtD:=Fx fun i j=>.bl (decide (j<i))
theorem PL:By X (compareOp .Lt) Mp:=PK VX fun _ _ _ _=>by simp [DV]
theorem J1:By X (compareOp .LtE) Dv:=PK VY fun _ _ _ _=>by simp [DV]
instance (i j:Int):Decidable (CMul i j):=by unfold CMul;infer_instance
instance (i j:Int):Decidable (OZ i j):=by unfold OZ;infer_instance
instance (i j:Int):Decidable (L5 i j):=by unfold L5;infer_instance
abbrev F4:=F0 (fun i j=>.int (i % j)) fun _ j=>0<j
theorem XU:By X (binaryOp .Mod) F4:=PJ VT (fun _ _ h=>h) fun _ _ _ _=>by simp [DV]
abbrev ZeS:=F0 (fun i j=>.int (i^j.toNat)) L5
def ZeT:D→D→HD→Out D
 |.int i,.int j,h=>if CMul i j then .ok (.int (i*j)) h else .stuck
 |.loc l,.int k,h=>match h[l]? with
  |some (.lst xs)=>if -(2^63)≤k∧k<2^63 then Bu (List.replicate k.toNat xs).flatten h else .stuck
  |_=>.stuck
 |_,_,_=>.stuck
theorem op_isnotB:OpR X (compareOp .IsNot) (fun x y H Q=>∃b c,x=.bl b∧y=.bl c∧Q (.bl (!(b==c))) H):=by
 intro pins s σ H x y v u Q I rx ry h
 obtain ⟨b,c,rfl,rfl,q⟩:=h
 cases rx
 cases ry
 exact wpAny_isNot_plain rfl ⟨.bl _,H,I,by cases b<;>cases c<;>rfl,q⟩
def Mq:D→Bool
 |.non=>true
 |_=>false
def XW:D→D→HD→Out D
 |.bl b,.bl c,h=>.ok (.bl (b==c)) h
 |x,.non,h=>.ok (.bl (Mq x)) h
 |_,_,_=>.stuck
def F5:D→D→HD→Out D
 |.bl b,.bl c,h=>.ok (.bl (!(b==c))) h
 |x,.non,h=>.ok (.bl (!Mq x)) h
 |_,_,_=>.stuck
theorem XX {m:List Addr} {H:Hp} {x:D} {v:V} (r:DV X.K m H x v):decide (v=.non)=Mq x:=by
 cases x<;>simp only [DV] at r<;>first |(subst r;rfl) |(obtain ⟨_,rfl,_⟩:=r;rfl) |(obtain ⟨_,_,rfl,_⟩:=r;rfl) |(obtain ⟨_,_,_,rfl,_⟩:=r;rfl) |(obtain ⟨rfl,_⟩:=r;rfl)
theorem PM:By X (compareOp .IsNot) F5:=by
 refine ⟨_,op_isnotB.or V0,fun m H h E x y v u Q hr rx ry q=>?_⟩
 unfold F5 at q
 split at q
 ·simp only [DV] at rx ry
  subst rx ry
  exact .inl ⟨_,_,rfl,rfl,AI hr q (by simp [DV])⟩
 ·simp only [DV] at ry
  subst ry
  exact .inr ⟨rfl,AI hr q (by simp [DV,XX rx])⟩
 ·exact q.elim
end
def AN {α:Type}:List (Option α)→Option (List α)
 |[]=>some []
 |none::_=>none
 |some a::r=>(AN r).map (a::·)
def A9 (h:HD):Nat→D→Option PyData
 |_,.non=>some .none
 |_,.bl b=>some (.bool b)
 |_,.int i=>some (.int i)
 |_,.str x=>some (.str x)
 |n+1,.tup ds=>(AN (ds.map (A9 h n))).map .tuple
 |n+1,.loc l=>match h[l]? with
  |some (.lst ds)=>(AN (ds.map (A9 h n))).map .list
  |_=>none
 |_,_=>none
section
variable {X:Cx} {E:XK} {pins:List (Addr×Obj)} {σ:L2.St} {H:Hp} {s:Shared} {m:List Addr} {h:HD}
theorem Mr {n:Nat} (ih:∀(d:D) (v:V) (u:Value) (p:PyData),DV X.K m H d v→RelV v u→A9 h n d=some p→∃as,Reads s.heap u p as):
 ∀(ds:List D) (vs:List V) (us:List Value) (ps:List PyData),DVs X.K m H ds vs→Vals vs us→AN (ds.map (A9 h n))=some ps→∃as,ReadsAll s.heap us ps as
 |[],vs,us,ps,r,q,e=>by
  simp only [DVs] at r
  subst r
  cases q
  simp [AN] at e
  subst e
  exact ⟨[],.nil⟩
 |d::ds,vs,us,ps,r,q,e=>by
  simp only [DVs] at r
  obtain ⟨v,w,rfl,rv,rw'⟩:=r
  cases q with
  |cons q1 q2=>
   rw [Bx] at e
   cases ed:A9 h n d with
   |none=>rw [ed] at e;simp [AN] at e
   |some p=>
    rw [ed] at e
    simp only [AN,qaW] at e
    obtain ⟨ps',e1,rfl⟩:=e
    obtain ⟨as,h1⟩:=ih d v _ p rv q1 ed
    obtain ⟨bs,h2⟩:=Mr ih ds w _ ps' rw' q2 e1
    exact ⟨as++bs,.cons h1 h2⟩
theorem PN (hok:HOk X.prog X.w H s.heap∧X.K.In s.heap) (hr:HR X.K m h H):∀(n:Nat) (d:D) (v:V) (u:Value) (p:PyData),DV X.K m H d v→RelV v u→A9 h n d=some p→∃as,Reads s.heap u p as:=by
 intro n
 induction n with
 |zero=>
  intro d v u p r q e
  cases d<;>simp only [A9,DV,Option.some.injEq] at e r<;>try (cases e;done)
  ·subst e r;cases q;exact ⟨[],.none⟩
  ·subst e r;cases q;exact ⟨[],.bool _⟩
  ·subst e r;obtain ⟨t,rfl⟩:=q;exact ⟨[],.int _ _⟩
  ·subst e r;obtain ⟨t,rfl⟩:=q;exact ⟨[],.str _ _⟩
 |succ n ih=>
  intro d v u p r q e
  cases d with
  |non=>simp only [A9,DV,Option.some.injEq] at e r;subst e r;cases q;exact ⟨[],.none⟩
  |bl b=>simp only [A9,DV,Option.some.injEq] at e r;subst e r;cases q;exact ⟨[],.bool _⟩
  |int i=>simp only [A9,DV,Option.some.injEq] at e r;subst e r;obtain ⟨t,rfl⟩:=q;exact ⟨[],.int _ _⟩
  |str x=>simp only [A9,DV,Option.some.injEq] at e r;subst e r;obtain ⟨t,rfl⟩:=q;exact ⟨[],.str _ _⟩
  |tup ds=>
   simp only [A9,DV,qaW] at e r
   obtain ⟨a,vs,rfl,ha,dv⟩:=r
   obtain ⟨ps,e1,rfl⟩:=e
   cases q
   obtain ⟨_,its,rv,⟨o,ho,hc,k,hd⟩,_⟩:=tok hok ha
   obtain ⟨as,h1⟩:=Mr ih ds vs its ps dv rv e1
   exact ⟨as,.tuple ho hc hd (by simpa using h1)⟩
  |loc l=>
   simp only [DV] at r
   obtain ⟨a,rfl,ha⟩:=r
   cases q
   simp only [A9] at e
   split at e
   ·rename_i ds el
    simp only [qaW] at e
    obtain ⟨ps,e1,rfl⟩:=e
    obtain ⟨vs,hv,dv⟩:=hr.cells l _ a el ha
    obtain ⟨_,its,k,rv,ho⟩:=hok.1 a _ hv
    obtain ⟨as,h1⟩:=Mr ih ds vs its ps dv rv e1
    exact ⟨_,.list ho rfl rfl (by simpa using h1)⟩
   ·cases e
  |scr ns=>simp [A9] at e
  |adr a=>simp [A9] at e
  |ty a=>simp [A9] at e
  |exc n fs=>simp [A9] at e
  |edic=>simp [A9] at e
  |glo n=>simp [A9] at e
  |clo a vs ds=>simp [A9] at e
def Fy (f:PyData→PyData→Bool):D→D→HD→Out D:=fun x y h=>match A9 h 8 x,A9 h 8 y with
 |some p,some q=>if SeqAt.shaped p=true∧SeqAt.shaped q=true then .ok (.bl (f p q)) h else .stuck
 |_,_=>.stuck
abbrev F6:=Fy PyData.eqv
abbrev Em:=Fy fun p q=>!PyData.eqv p q
theorem PP {o:CmpOp} {f:PyData→PyData→Bool}
 (rule:∀{s:Shared} {a b:Value} {p q:PyData} {as bs:List Addr} {Q:Value→Shared→Prop},Reads s.heap a p as→Reads s.heap b q bs→SeqAt.shaped p=true→SeqAt.shaped q=true→Q (.bool (f p q)) s→wpAny (model X.prog X.w) X.A (compareOp o a b) Q X.xe s):
 By X (compareOp o) (Fy f):=by
 refine ⟨fun v u H Q=>∃m h x y,HR X.K m h H∧DV X.K m H x v∧DV X.K m H y u∧Post X.K (rD X.K) m H E0 Q (Fy f x y h),?_,fun m H h E x y v u Q hr rx ry q=>⟨m,h,x,y,hr,rx,ry,?_⟩⟩
 ·intro pins s σ H x y v u Q I rx ry hq
  obtain ⟨m,h,dx,dy,hr,r1,r2,q⟩:=hq
  unfold Fy at q
  split at q
  ·rename_i p p' e1 e2
   split at q
   ·rename_i hs
    obtain ⟨as,h1⟩:=PN ⟨I.hok,I.kIn⟩ hr 8 dx x v p r1 rx e1
    obtain ⟨bs,h2⟩:=PN ⟨I.hok,I.kIn⟩ hr 8 dy y u p' r2 ry e2
    exact rule h1 h2 hs.1 hs.2 ⟨.bl _,H,I,rfl,AI hr q (by simp [DV])⟩
   ·exact q.elim
  ·exact q.elim
 ·unfold Fy at q ⊢
  split
  ·split
   ·rename_i e1 e2 hs
    rw [e1,e2] at q
    simp only [hs] at q
    exact q
   ·rename_i e1 e2 hs
    rw [e1,e2] at q
    simp only [hs] at q
    exact q.elim
  ·rename_i hn
   split at q
   ·rename_i e1 e2
    exact (hn _ _ e1 e2).elim
   ·exact q.elim
theorem XY (hu:X.A.units+64<cLine):By X (compareOp .Eq) F6:=PP fun ra rb ha hb h=>eq_dataH ra rb ha hb hu h
theorem XZ (hu:X.A.units+64<cLine):By X (compareOp .NotEq) Em:=PP fun ra rb ha hb h=>ne_dataH ra rb ha hb hu h
def CB:D→Option V
 |.non=>some .non
 |.bl b=>some (.bl b)
 |.int i=>some (.int i)
 |.str x=>some (.str x)
 |_=>none
theorem J2 {d:D} {v w:V} (r:DV X.K m H d v) (e:CB d=some w):v=w∧DN v=true:=by
 cases d<;>simp only [CB,Option.some.injEq,DV] at e r<;>first |(subst e r;exact ⟨rfl,rfl⟩) |cases e
theorem J3:∀{ds:List D} {vs ws:List V},DVs X.K m H ds vs→AN (ds.map CB)=some ws→vs=ws∧vs.all DN=true
 |[],vs,ws,r,e=>by
  simp only [DVs] at r
  simp [AN] at e
  subst r e
  exact ⟨rfl,rfl⟩
 |d::ds,vs,ws,r,e=>by
  simp only [DVs] at r
  obtain ⟨v,w,rfl,rv,rw'⟩:=r
  rw [Bx] at e
  cases ed:CB d with
  |none=>rw [ed] at e;simp [AN] at e
  |some p=>
   rw [ed] at e
   simp only [AN,qaW] at e
   obtain ⟨ps',e1,rfl⟩:=e
   obtain ⟨h1,h2⟩:=J2 rv ed
   obtain ⟨h3,h4⟩:=J3 rw' e1
   subst h1 h3
   exact ⟨rfl,by simp [h2,h4]⟩
def Bj:D→HD→Option (List D)
 |.tup ds,_=>some ds
 |.loc l,h=>match h[l]? with
  |some (.lst ds)=>some ds
  |_=>none
 |.scr ns,_=>some (ns.map .int)
 |_,_=>none
theorem PQ {ns:List Int}:DVs X.K m H (ns.map .int) (ns.map V.int):=by
 induction ns with
 |nil=>exact .nil
 |cons n ns ih=>exact .cons (by simp [DV]) ih
theorem Ms {d:D} {v:V} {ds:List D} (hr:HR X.K m h H) (r:DV X.K m H d v) (e:Bj d h=some ds):∃p vs,v=.ref p∧(SqL X.K H p vs∨SqT X.K H p vs)∧DVs X.K m H ds vs:=by
 cases d with
 |tup xs=>
  simp only [DV,Bj,Option.some.injEq] at r e
  subst e
  obtain ⟨a,vs,rfl,ha,dv⟩:=r
  exact ⟨a,vs,rfl,.inr (tq ha),dv⟩
 |loc l=>
  simp only [DV] at r
  obtain ⟨a,rfl,ha⟩:=r
  simp only [Bj] at e
  split at e
  ·rename_i xs el
   cases e
   obtain ⟨vs,hv,dv⟩:=hr.cells l _ a el ha
   exact ⟨a,vs,rfl,.inl (SqL.of hv),dv⟩
  ·cases e
 |scr ns=>
  simp only [DV,Bj,Option.some.injEq] at r e
  subst e
  obtain ⟨a,rfl,ha⟩:=r
  exact ⟨a,_,rfl,.inl ha.sq,PQ⟩
 |_=>simp [Bj] at e
def CW (neg:Bool):D→D→HD→Out D:=fun x y h=>match Bj y h with
 |none=>.stuck
 |some ds=>match CB x,AN (ds.map CB) with
  |some v,some vs=>.ok (.bl (if neg then !G1 v vs else G1 v vs)) h
  |_,_=>.stuck
theorem PR {neg:Bool}:∀m H h E x y v u Q,HR X.K m h H→DV X.K m H x v→DV X.K m H y u→Post X.K (rD X.K) m H E Q (CW neg x y h)→Mg X.K neg v u H Q:=fun m H h E x y v u Q hr rx ry q=>by
 unfold CW at q
 split at q
 ·exact q.elim
 ·rename_i ds e
  split at q
  ·rename_i w ws e1 e2
   obtain ⟨p,vs,rfl,hs,dv⟩:=Ms hr ry e
   obtain ⟨h1,h2⟩:=J2 rx e1
   obtain ⟨h3,h4⟩:=J3 dv e2
   subst h1 h3
   exact ⟨p,vs,rfl,hs,h2,h4,AI hr q (by simp [DV])⟩
  ·exact q.elim
theorem X0:By X (compareOp .In) (CW false):=⟨_,W6,PR⟩
theorem X1:By X (compareOp .NotIn) (CW true):=⟨_,W7,PR⟩
def AE:D→D→HD→Out D:=fun x y h=>match Bj x h,y with
 |some ds,.int i=>match BY ds i with
  |some d=>.ok d h
  |none=>.stuck
 |_,_=>.stuck
theorem X2 {ds:List D} {vs:List V} {i:Int} {d:D} (r:DVs X.K m H ds vs) (e:BY ds i=some d):∃v,BY vs i=some v∧DV X.K m H d v:=by
 unfold BY at e ⊢
 rw [r.len] at e
 cases k:CU vs.length i with
 |none=>rw [k] at e;cases e
 |some j=>
  rw [k] at e
  exact r.get e
theorem X3 {a b:Expr} {pos:Pos} {f g:ME} (ha:Ev X E a f) (hb:Ev X E b g) (hs:Mf b):Ev X E (.Subscript a b pos) (Ad AE f g):=
 BH (Pk (ix_list.or ix_tup) ha hb hs) fun σ H Q hq=>Ip hq fun m H2 h2 x y v u hr rx ry q=>by
  unfold AE at q
  split at q
  ·rename_i ds i e
   split at q
   ·rename_i d ed
    simp only [DV] at ry
    subst ry
    obtain ⟨p,vs,rfl,hsq,dv⟩:=Ms hr rx e
    obtain ⟨w,e1,r1⟩:=X2 dv ed
    rcases hsq with hsq |hsq
    ·exact .inl ⟨p,vs,i,w,rfl,rfl,hsq,e1,AI hr q r1⟩
    ·exact .inr ⟨p,vs,i,w,rfl,rfl,hsq,e1,AI hr q r1⟩
   ·exact q.elim
  ·exact q.elim
def Bm:D→HD→Out D:=fun x h=>match Bj x h with
 |some ds=>.ok (.int ds.length) h
 |none=>.stuck
theorem F7 {F:D→HD→Out D} {ds:List D} {vs:List V} {Q:VK} {C:Prop} (r:DVs X.K m H ds vs) (q:Post X.K (rD X.K) m H E Q (Ak F ds h)) (k:∀d v,vs=[v]→DV X.K m H d v→Post X.K (rD X.K) m H E Q (F d h)→C):C:=by
 unfold Ak at q
 split at q
 ·simp only [DVs] at r
  obtain ⟨v,w,rfl,rv,rfl⟩:=r
  exact k _ v rfl rv q
 ·exact q.elim
theorem J4 {F:D→D→HD→Out D} {ds:List D} {vs:List V} {Q:VK} {C:Prop} (r:DVs X.K m H ds vs) (q:Post X.K (rD X.K) m H E Q (A6 F ds h)) (k:∀d d' v v',vs=[v,v']→DV X.K m H d v→DV X.K m H d' v'→Post X.K (rD X.K) m H E Q (F d d' h)→C):C:=by
 unfold A6 at q
 split at q
 ·simp only [DVs] at r
  obtain ⟨v,w,rfl,rv,v',w',rfl,rv',rfl⟩:=r
  exact k _ _ v v' rfl rv rv' q
 ·exact q.elim
theorem X4:Dj X (.builtin "len") (Ak Bm):=by
 refine ⟨_,W9,fun m H h E ds vs Q hr r q=>F7 r q fun d v ev rv q=>?_⟩
 unfold Bm at q
 split at q
 ·rename_i xs e
  obtain ⟨p,ws,rfl,hs,dv⟩:=Ms hr rv e
  exact ⟨p,ws,ev,hs,by rw [←dv.len];exact AI hr q (by simp [DV])⟩
 ·exact q.elim
def CDv (i j:Int):Prop:=0<j∧j<18446744073709551616
instance (i j:Int):Decidable (CDv i j):=by unfold CDv;infer_instance
theorem CDv.no {i j:Int} (h:CDv i j):Builtin.divisionGoesByPylong i j=false:=by
 refine PyProof.noPylong_of_log2 ?_
 have h0:j.natAbs≠0:=by have:=h.1;omega
 have h1:j.natAbs<2^64:=by have:=h.2;have:=h.1;omega
 exact Nat.lt_trans ((Nat.log2_lt h0).mpr h1) (by decide)
theorem X5:Dp X (.builtin "divmod") (fun xs H Q=>∃i j,xs=[.int i,.int j]∧CDv i j∧∀p,H p=none→Q (.ref p) (Aj H p (.tup [.int (i / j),.int (i % j)]))):=by
 intro pins s σ H xs us Q I r h
 obtain ⟨i,j,rfl,hc,q⟩:=h
 obtain ⟨u,w',rfl,⟨t,rfl⟩,⟨t',rfl⟩⟩:=Ik r
 have h1:=hc.1
 refine divmod_int (by omega) ?_ (.inl hc.no)
 rw [Int.fdiv_eq_ediv_of_nonneg i (by omega),Int.fmod_eq_emod_of_nonneg i (by omega)]
 have hn:H s.heap.objs.size=none:=I.hok.fresh (Au _)
 refine ⟨.ref s.heap.objs.size,_,?_,rfl,q _ hn⟩
 refine I.laid (fun b o e=>A5 _ e) (Au _) ⟨by simp only [CL,List.length_nil];rw [sizeLine_eq];decide,[.int (i / j) s.toks,.int (i % j) (s.toks+1)],.cons ⟨_,rfl⟩ (.cons ⟨_,rfl⟩ .nil),?_,NoDict.new⟩
 exact ⟨_,BM s.heap rfl,rfl,0,rfl⟩
def Iu:D→D→HD→Out D
 |.int i,.int j,h=>if CDv i j then .ok (.tup [.int (i / j),.int (i % j)]) h else .stuck
 |_,_,_=>.stuck
theorem X6:Dj X (.builtin "divmod") (A6 Iu):=by
 refine ⟨_,X5,fun m H h E ds vs Q hr r q=>J4 r q fun d d' v v' ev rv rv' q=>?_⟩
 unfold Iu at q
 split at q
 ·split at q
  ·rename_i i j hc
   simp only [DV] at rv rv'
   subst rv rv'
   exact ⟨i,j,ev,hc,G5 hr (.cons (by simp [DV]) (.cons (by simp [DV]) .nil)) q⟩
  ·exact q.elim
 ·exact q.elim
theorem X7:OpR X (binaryOp .FloorDiv) (rI CDv fun i j=>.int (i / j)):=L4 fun i j _ _ _ _ _ hc q=>by
 have h1:=hc.1
 exact floordiv_int (by omega) (by rw [Int.fdiv_eq_ediv_of_nonneg i (by omega)];exact q) (.inl hc.no)
abbrev J5:=F0 (fun i j=>.int (i / j)) CDv
theorem X8:By X (binaryOp .FloorDiv) J5:=PJ X7 (fun _ _ h=>h) fun _ _ _ _=>by simp [DV]
def E5:D→D→HD→Out D
 |.int i,.int j,h=>.ok (.int (if j>i then j else i)) h
 |_,_,_=>.stuck
def E6:D→D→HD→Out D
 |.int i,.int j,h=>.ok (.int (if j<i then j else i)) h
 |_,_,_=>.stuck
theorem X9 (hc:X.calm=true):Dj X (.builtin "max") (A6 E5):=by
 refine ⟨_,V8 hc,fun m H h E ds vs Q hr r q=>J4 r q fun d d' v v' ev rv rv' q=>?_⟩
 unfold E5 at q
 split at q
 ·simp only [DV] at rv rv'
  subst rv rv'
  exact ⟨_,_,ev,AI hr q (by simp [DV])⟩
 ·exact q.elim
theorem Yb (hc:X.calm=true):Dj X (.builtin "min") (A6 E6):=by
 refine ⟨_,V9 hc,fun m H h E ds vs Q hr r q=>J4 r q fun d d' v v' ev rv rv' q=>?_⟩
 unfold E6 at q
 split at q
 ·simp only [DV] at rv rv'
  subst rv rv'
  exact ⟨_,_,ev,AI hr q (by simp [DV])⟩
 ·exact q.elim
def intOfD:D→HD→Out D
 |.int i,h=>.ok (.int i) h
 |.bl b,h=>.ok (.int (if b then 1 else 0)) h
 |_,_=>.stuck
theorem Yc:Dj X (.type "int") (Ak intOfD):=by
 refine ⟨_,Wa,fun m H h E ds vs Q hr r q=>F7 r q fun d v ev rv q=>?_⟩
 unfold intOfD at q
 split at q
 ·simp only [DV] at rv;subst rv
  exact .inl ⟨_,ev,AI hr q (by simp [DV])⟩
 ·simp only [DV] at rv;subst rv
  exact .inr ⟨_,ev,AI hr q (by simp [DV])⟩
 ·exact q.elim
def CC:D→HD→Out D:=fun x h=>match x with
 |.tup ds=>.ok (.tup ds) h
 |.loc l=>match h[l]? with
  |some (.lst ds)=>.ok (.tup ds) h
  |_=>.stuck
 |_=>.stuck
theorem Yd:Dj X (.type "tuple") (Ak CC):=by
 refine ⟨_,Xb,fun m H h E ds vs Q hr r q=>F7 r q fun d v ev rv q=>?_⟩
 unfold CC at q
 split at q
 ·simp only [DV] at rv
  obtain ⟨a,ws,rfl,ha,dv⟩:=rv
  exact ⟨a,ws,ev,.inr ⟨tq ha,AI hr q (by simp only [DV];exact ⟨a,ws,rfl,ha,dv⟩)⟩⟩
 ·split at q
  ·rename_i ds' el
   simp only [DV] at rv
   obtain ⟨a,rfl,ha⟩:=rv
   obtain ⟨ws,hv,dv⟩:=hr.cells _ _ a el ha
   exact ⟨a,ws,ev,.inl ⟨SqL.of hv,G5 hr dv q⟩⟩
  ·exact q.elim
 ·exact q.elim
end
theorem PostS.bind {α β:Type} {K:PySem.W.Frag} {m:List Addr} {H:Hp} {R:List Addr→Hp→α→β→Prop} {E:XK} {Q':β→Hp→Prop} {Dn:DM} {o:Out α} {k:α→HD→Out (Fl×Af)}
 (h:PostS K m H E Dn (o.bind k)) (f:∀a h1 v m1 H1,o=.ok a h1→m <+:m1→Kp H H1→HR K m1 h1 H1→R m1 H1 a v→PostS K m1 H1 E Dn (k a h1)→Q' v H1):Post K R m H E Q' o:=by
 cases o with
 |ok a h1=>exact fun v m1 H1 p kk hr r=>f a h1 v m1 H1 rfl p kk hr r (h.ahead p kk)
 |err C fs h1=>exact h
 |stuck=>exact h
theorem PostS.here {K:PySem.W.Frag} {m:List Addr} {H:Hp} {E:XK} {Dn:DM} {a:Fl×Af} {h:HD} (hr:HR K m h H) (p:PostS K m H E Dn (.ok a h)):Pr K m H Dn a:=p m H (Ax _) (.refl _) hr
section
variable {X:Cx} {E:XK} {st:Stmt} {sts b1 b2:List Stmt} {g g1 g2:MS} {e:Expr} {f:ME} {pos:Pos} {t:MT}
def AD:MS:=fun ρ h=>.ok (.nx,ρ) h
def Ag (g1 g2:MS):MS:=fun ρ h=>(g1 ρ h).bind fun x h1=>match x with
 |(.nx,ρ1)=>g2 ρ1 h1
 |y=>.ok y h1
theorem Ye:Cz X E [] AD:=Mm Vq fun Dn σ H z1_=>by obtain ⟨m,ρ,h,hr,er,p⟩:=z1_;exact ((p.here hr) σ er)
theorem J6 (h:Ex X E st g):Cz X E [st] g:=Vs h
theorem J7 (h1:Ex X E st g1) (h2:Cz X E sts g2):Cz X E (st::sts) (Ag g1 g2):=
 Mm (Vr h1 h2) fun Dn σ H z2_=>by
  obtain ⟨m,ρ,h,hr,er,p⟩:=z2_
  refine ⟨m,ρ,h,hr,er,?_⟩
  unfold Ag at p
  cases o:g1 ρ h with
  |stuck=>rw [o] at p;exact p
  |err C fs h1=>rw [o] at p;exact p
  |ok x h1=>
   rw [o] at p
   obtain ⟨fl,ρ1⟩:=x
   intro m1 H1 p1 k1 hr1
   cases fl with
   |nx=>exact fun σ1 er1=>⟨m1,ρ1,h1,hr1,er1,PostS.ahead p1 k1 p⟩
   |bk=>exact p m1 H1 p1 k1 hr1
   |ct=>exact p m1 H1 p1 k1 hr1
   |rt d=>exact p m1 H1 p1 k1 hr1
def Bn (f:ME):MS:=fun ρ h=>(f ρ h).bind fun _ h1=>.ok (.nx,ρ) h1
theorem Yg (he:Ev X E e f) (hs:swapsWith e none pos.line X.env=pure false:=by rfl):Ex X E (.Expr e pos) (Bn f):=
 Ek (Vu he hs) fun Dn σ H z3_=>by obtain ⟨m,ρ,h,hr,er,p⟩:=z3_;exact (⟨m,ρ,h,hr,er,PostS.bind p fun x h1 v m1 H1 _ p1 k1 hr1 r1 q1=>(q1.here hr1) σ (er.keep p1 k1)⟩)
def Al (f:ME):MS:=fun ρ h=>(f ρ h).bind fun d h1=>.ok (.rt d,ρ) h1
theorem PU (he:Ev X E e f):Ex X E (.Return (some e) pos) (Al f):=
 Ek (Vw he) fun Dn σ H z4_=>by obtain ⟨m,ρ,h,hr,er,p⟩:=z4_;exact (⟨m,ρ,h,hr,er,PostS.bind p fun x h1 v m1 H1 _ p1 k1 hr1 r1 q1=>(q1.here hr1) v r1⟩)
def Aw (t:MT) (g1 g2:MS):MS:=fun ρ h=>(t ρ h).bind fun b h1=>if b=true then g1 ρ h1 else g2 ρ h1
theorem Yh {c:Expr} (hc:Ds X E c t) (ha:Cz X E b1 g1) (hb:Cz X E b2 g2):Ex X E (.If c b1 b2 pos) (Aw t g1 g2):=
 Ek (Vy hc ha hb) fun Dn σ H z5_=>by obtain ⟨m,ρ,h,hr,er,p⟩:=z5_;exact (⟨m,ρ,h,hr,er,PostS.bind p fun x h1 v m1 H1 _ p1 k1 hr1 r1 q1=>by
  cases r1
  cases x with
  |true=>exact ⟨m1,ρ,h1,hr1,er.keep p1 k1,q1⟩
  |false=>exact ⟨m1,ρ,h1,hr1,er.keep p1 k1,q1⟩⟩)
def CY:MS:=fun _ _=>.stuck
theorem Mt:Ex X E st CY:=Ek Vz fun Dn σ H z6_=>by obtain ⟨m,ρ,h,hr,er,p⟩:=z6_;exact (p)
theorem Yi:Cz X E sts CY:=Mm VA fun Dn σ H z7_=>by obtain ⟨m,ρ,h,hr,er,p⟩:=z7_;exact (p)
def Ap (i:Nat) (f:ME):MS:=fun ρ h=>(f ρ h).bind fun d h1=>.ok (.nx,ρ.set i (some d)) h1
theorem Mu {i:Nat} {x:Str} {pos':Pos} (hN:X.N.Nodup) (hi:X.N[i]?=some x) (hx:Ic X.env.scope x) (he:Ev X E e f) (hs:swapsWith e (some (.Name x pos')) pos.line X.env=pure false:=by rfl) (hf:X.fn x=true∨X.env.scope.names.lookup x=some .local:=by first |exact .inl rfl |exact .inr rfl |assumption):
 Ex X E (.Assign [.Name x pos'] e pos) (Ap i f):=
 Ek (VD hN hi hx he hs hf) fun Dn σ H z9_=>by obtain ⟨m,ρ,h,hr,er,p⟩:=z9_;exact (⟨m,ρ,h,hr,er,PostS.bind p fun x h1 v m1 H1 _ p1 k1 hr1 r1 q1=>(q1.here hr1) _ ((er.keep p1 k1).set r1)⟩)
def D3 (i j:Nat) (fa:MA):MS:=fun ρ h=>(fa ρ h).bind fun ds h1=>match ds with
 |[x,y]=>.ok (.nx,(ρ.set i (some x)).set j (some y)) h1
 |_=>.stuck
theorem Yj {i j:Nat} {x y:Str} {a b:Expr} {fa:MA} {px py pt:Pos} {kt k2:Nat} {pt2:Pos} (hc:X.calm=true) (hN:X.N.Nodup) (hi:X.N[i]?=some x) (hj:X.N[j]?=some y) (hij:i≠j)
 (hx:X.env.scope.names.lookup x=some .local) (hy:X.env.scope.names.lookup y=some .local) (ha:CV X E [a,b] fa)
 (hw:swappedStores [.Tuple [.Name x px,.Name y py] kt pt] (.Tuple [a,b] k2 pt2) X.env=pure (some [x,y]))
 (hs:swapsWithSole [.Tuple [.Name x px,.Name y py] kt pt] (.Tuple [a,b] k2 pt2) pos.line X.env=pure false:=by rfl):
 Ex X E (.Assign [.Tuple [.Name x px,.Name y py] kt pt] (.Tuple [a,b] k2 pt2) pos) (D3 i j fa):=
 Ek (VF hc hN hi hj hij hx hy ha hw hs) fun Dn σ H z10_=>by obtain ⟨m,ρ,h,hr,er,p⟩:=z10_;exact (⟨m,ρ,h,hr,er,PostS.bind p fun x h1 v m1 H1 _ p1 k1 hr1 r1 q1=>by
  split at q1
  ·simp only [FV,DVs] at r1
   obtain ⟨v,w,rfl,rv,v',w',rfl,rv',rfl⟩:=r1
   exact ⟨v,v',rfl,(q1.here hr1) _ (((er.keep p1 k1).set rv).set rv')⟩
  ·exact q1.elim⟩)
abbrev MG:=D→Af→Option Af
def Fz (X:Cx) (tg:Expr) (sg:MG):Prop:=
 ∃gg:TG,PG X tg gg∧∀m H d v ρ σ ρ' Q,DV X.K m H d v→ER X.K m H ρ σ→sg d ρ=some ρ'→(∀σ',ER X.K m H ρ' σ'→Q σ' H)→gg v σ H Q
def AK (i:Nat):MG:=fun d ρ=>some (ρ.set i (some d))
def J8 (i j:Nat):MG:=fun d ρ=>match d with
 |.tup [x,y]=>some ((ρ.set i (some x)).set j (some y))
 |_=>none
theorem Yk {i:Nat} {x:Str} (h:PG X (.Name x pos) (Ce i)):Fz X (.Name x pos) (AK i):=⟨_,h,fun m H d v ρ σ ρ' Q r er e q=>by
 simp only [AK,Option.some.injEq] at e
 subst e
 exact q _ (er.set r)⟩
theorem Yl {i j:Nat} {x y:Str} {px py:Pos} {kt:Nat} (h:PG X (.Tuple [.Name x px,.Name y py] kt pos) (Fu X.K 2 (CT (Ce i) (CT (Ce j) Ft)))):Fz X (.Tuple [.Name x px,.Name y py] kt pos) (J8 i j):=⟨_,h,fun m H d v ρ σ ρ' Q r er e q=>by
 unfold J8 at e
 split at e
 ·rename_i a b
  cases e
  simp only [DV,DVs] at r
  obtain ⟨p,vs,rfl,hp,v1,w1,rfl,r1,v2,w2,rfl,r2,rfl⟩:=r
  exact ⟨p,_,rfl,tq hp,rfl,v1,_,rfl,v2,_,rfl,rfl,q _ ((er.set r1).set r2)⟩
 ·cases e⟩
def FA (sg:MG) (f:ME):MS:=fun ρ h=>(f ρ h).bind fun d h1=>match sg d ρ with
 |some ρ1=>.ok (.nx,ρ1) h1
 |none=>.stuck
theorem Ym {tg:Expr} {sg:MG} (he:Ev X E e f) (hg:Fz X tg sg) (hs:swapsWithSole [tg] e pos.line X.env=pure false:=by rfl) (hw:swappedStores [tg] e X.env=pure none:=by rfl)
 (h1:(assignEach [tg] X.env).map (·.2)=[assign tg X.env]:=by rfl):Ex X E (.Assign [tg] e pos) (FA sg f):=by
 obtain ⟨gg,hg,i⟩:=hg
 exact Ek (OV he hg hs hw h1) fun Dn σ H z11_=>by obtain ⟨m,ρ,h,hr,er,p⟩:=z11_;exact (⟨m,ρ,h,hr,er,PostS.bind p fun x h1 v m1 H1 _ p1 k1 hr1 r1 q1=>by
  split at q1
  ·rename_i ρ1 es
   exact i m1 H1 x v ρ σ ρ1 _ r1 (er.keep p1 k1) es fun σ' er'=>(q1.here hr1) σ' er'
  ·exact q1.elim⟩)
abbrev AY:=List (Nat×List D)
def BZ (src:AY) (items:List D) (h:HD):Prop:=∀p∈src,h[p.1]?=some (.lst p.2)
theorem F8 {items:List D} {h:HD}:BZ [] items h:=fun p z=>nomatch z
theorem G7 {items ds:List D} {h:HD} {l:Nat} (e:h[l]?=some (.lst ds)):BZ [(l,ds)] items h:=fun p z=>by
 rw [qaL] at z
 subst z
 exact e
def Mv (K:PySem.W.Frag):List Addr→Hp→(List D×AY)→It→Prop:=fun m1 H1 x J=>
 ∀i m2 h2 H2,m1 <+:m2→Kp H1 H2→HR K m2 h2 H2→BZ x.2 x.1 h2→
  (i<x.1.length→J.go i H2∧∀y H3,J.yld i H2 y H3→Kp H2 H3∧HR K m2 h2 H3∧∃d,x.1[i]?=some d∧DV K m2 H3 d y)∧(i=x.1.length→J.stop i H2)
abbrev MI:=Af→HD→Out (List D×AY)
abbrev G8 (X:Cx) (E:XK) (tg iter:Expr) (it:MI):Prop:=PI X tg iter (tM X.K (Mv X.K) E it)
theorem Mw {tg iter:Expr} {w w':TI} (h:PI X tg iter w) (i:∀σ H R,w' σ H R→w σ H R):PI X tg iter w':=fun pins s σ H R I q=>h pins s σ H R I (i σ H R q)
theorem Yn {tg l:Expr} {tl:TE} (hl:PE X l tl):PI X tg l (fun σ H R=>tl σ H fun x H1=>∃a,x=.ref a∧(((∃xs,SqL X.K H1 a xs)∧R (Ih X.K a) H1)∨((∃xs,SqT X.K H1 a xs)∧R (Ii X.K a) H1))):=by
 intro pins s σ H R I h
 refine Am (hl pins s σ H _ I h) fun v s1 z12_=>?_
 obtain ⟨x,H1,I1,r1,q1⟩:=z12_
 obtain ⟨a,e,q⟩:=q1
 subst e
 cases r1
 rcases q with ⟨⟨xs,hq⟩,q⟩ |⟨⟨xs,hq⟩,q⟩
 ·obtain ⟨its,rv,p,hz⟩:=I1.list hq
  refine wpAny_pyIter_list p.isList ?_
  refine ⟨s1.heap.objs.size,[s1.heap.objs.size],_,_,H1,rfl,I1.kept (t':=s1.toks) fun b o e=>A5 _ e,VG a _,⟨_,BM _ rfl,rfl,rfl⟩,fun b hb=>?_,q⟩
  have e:b=s1.heap.objs.size:=by simpa using hb
  subst e
  exact I1.fpOk (Au _) (I1.hok.fresh (Au _))
 ·obtain ⟨its,rv,p,hz⟩:=I1.tuple hq
  refine wpAny_pyIter_tuple (show s1.heap.IsTuple a its.toArray from p) ?_
  refine ⟨s1.heap.objs.size,[s1.heap.objs.size],_,_,H1,rfl,I1.kept (t':=s1.toks) fun b o e=>A5 _ e,VH a _,⟨_,BM _ rfl,rfl,rfl⟩,fun b hb=>?_,q⟩
  have e:b=s1.heap.objs.size:=by simpa using hb
  subst e
  exact I1.fpOk (Au _) (I1.hok.fresh (Au _))
def G9:D→List D→AY
 |.loc l,ds=>[(l,ds)]
 |_,_=>[]
def D7 (d:D) (h:HD):Out (List D×AY):=match Bj d h with
 |some ds=>.ok (ds,G9 d ds) h
 |none=>.stuck
def Bg (f:ME):MI:=fun ρ h=>(f ρ h).bind D7
theorem Kp.lget {H H':Hp} {a:Addr} {K:PySem.W.Frag} {xs:List V} (k:Kp H H') (h:FzL K H a xs):SqL K H' a xs:=(k.fzL h).sq
theorem PV {K:PySem.W.Frag} {a:Addr} {m:List Addr} {H:Hp} {h:HD} {i:Nat} {items:List D} {vs:List V} (hr:HR K m h H) (hs:SqL K H a vs) (dv:DVs K m H items vs) (uniq:∀ys,SqL K H a ys→ys=vs∨True):
 (i<items.length→(Ih K a).go i H∧∀y H3,(Ih K a).yld i H y H3→Kp H H3∧HR K m h H3∧∃d,items[i]?=some d∧DV K m H3 d y)∧(i=items.length→(Ih K a).stop i H):=by
 refine ⟨fun hi=>?_,fun hi=>⟨vs,hs,by rw [←dv.len];exact GZ hi.symm⟩⟩
 have hd:items[i]?=some items[i]:=BK hi
 obtain ⟨v,e1,r1⟩:=dv.get hd
 refine ⟨⟨vs,v,hs,e1⟩,fun y H3 z13_=>?_⟩
 obtain ⟨e3,hy⟩:=z13_
 subst e3
 have:=hy vs hs
 rw [e1] at this
 cases this
 exact ⟨.refl _,hr,_,hd,r1⟩
theorem Yo {K:PySem.W.Frag} {a:Addr} {m:List Addr} {H:Hp} {h:HD} {i:Nat} {items:List D} {vs:List V} (hr:HR K m h H) (hs:SqT K H a vs) (dv:DVs K m H items vs):
 (i<items.length→(Ii K a).go i H∧∀y H3,(Ii K a).yld i H y H3→Kp H H3∧HR K m h H3∧∃d,items[i]?=some d∧DV K m H3 d y)∧(i=items.length→(Ii K a).stop i H):=by
 refine ⟨fun hi=>?_,fun hi=>⟨vs,hs,by rw [←dv.len];exact GZ hi.symm⟩⟩
 have hd:items[i]?=some items[i]:=BK hi
 obtain ⟨v,e1,r1⟩:=dv.get hd
 refine ⟨⟨vs,v,hs,e1⟩,fun y H3 z14_=>?_⟩
 obtain ⟨e3,hy⟩:=z14_
 subst e3
 have:=hy vs hs
 rw [e1] at this
 cases this
 exact ⟨.refl _,hr,_,hd,r1⟩
theorem Yp {tg a:Expr} (ha:Ev X E a f):G8 X E tg a (Bg f):=
 Mw (Yn ha) fun σ H R ⟨m,ρ,h,hr,er,p⟩=>⟨m,ρ,h,hr,er,Post.bind p fun x h1 v m1 H1 _ p1 k1 hr1 r1 q1=>by
  unfold D7 at q1
  split at q1
  ·rename_i ds eds
   cases x with
   |tup xs=>
    simp only [Bj,Option.some.injEq] at eds
    subst eds
    simp only [rD,DV] at r1
    obtain ⟨a,vs,rfl,ha,dv⟩:=r1
    refine ⟨a,rfl,.inr ⟨⟨vs,tq ha⟩,q1 _ m1 H1 (Ax _) (.refl _) hr1 fun i m2 h2 H2 p2 k2 hr2 _=>?_⟩⟩
    exact Yo hr2 (tq (ha.keep k2)) (dv.keep p2 k2)
   |loc l=>
    simp only [rD,DV] at r1
    obtain ⟨a,rfl,ha⟩:=r1
    simp only [Bj] at eds
    split at eds
    ·rename_i xs el
     cases eds
     obtain ⟨vs,hv,dv⟩:=hr1.cells l _ a el ha
     refine ⟨a,rfl,.inl ⟨⟨vs,SqL.of hv⟩,q1 _ m1 H1 (Ax _) (.refl _) hr1 fun i m2 h2 H2 p2 k2 hr2 hs=>?_⟩⟩
     obtain ⟨ws,hw,dw⟩:=hr2.cells l _ a (hs _ Bf) (JU p2 ha)
     exact PV hr2 (SqL.of hw) dw fun _ _=>.inr trivial
    ·cases eds
   |scr ns=>
    simp only [Bj,Option.some.injEq] at eds
    subst eds
    simp only [rD,DV] at r1
    obtain ⟨a,rfl,ha⟩:=r1
    refine ⟨a,rfl,.inl ⟨⟨_,ha.sq⟩,q1 _ m1 H1 (Ax _) (.refl _) hr1 fun i m2 h2 H2 p2 k2 hr2 _=>?_⟩⟩
    exact PV hr2 (k2.lget ha) PQ fun _ _=>.inr trivial
   |_=>simp [Bj] at eds
  ·exact q1.elim⟩
def F9 (lo:Int) (n:Nat):List D:=(List.range n).map fun k=>.int (lo+(k:Nat))
theorem Yq {K:PySem.W.Frag} {m1:List Addr} {H1:Hp} (lo:Int) (n:Nat):Mv K m1 H1 (F9 lo n,[]) (JJ lo n):=fun i m2 h2 H2 p2 k2 hr2 _=>by
 refine ⟨fun hi=>?_,fun hi=>?_⟩
 ·have hi':i<n:=by simpa [F9] using hi
  refine ⟨hi',fun y H3 z16_=>?_⟩
  obtain ⟨e3,ey⟩:=z16_
  subst e3 ey
  refine ⟨.refl _,hr2,.int (lo+i),?_,by simp [DV]⟩
  simp [F9,List.getElem?_range,hi']
 ·show n≤i
  have hi':i=n:=by simpa [F9] using hi
  omega
@[irreducible] noncomputable def Ha:List D→HD→Out (List D×AY):=fun ds h=>match ds with
  |[.int j]=>@ite _ (-(2^62)≤j∧j<2^62) (Classical.propDecidable _) (.ok (F9 0 j.toNat,[]) h) .stuck
  |_=>.stuck
@[irreducible] noncomputable def PX:List D→HD→Out (List D×AY):=fun ds h=>match ds with
  |[.int i,.int j]=>@ite _ ((-(2^62)≤i∧i<2^62)∧-(2^62)≤j∧j<2^62) (Classical.propDecidable _) (.ok (F9 i (j - i).toNat,[]) h) .stuck
  |_=>.stuck
noncomputable def D8 (fa:MA):MI:=fun ρ h=>(fa ρ h).bind Ha
noncomputable def PY (fa:MA):MI:=fun ρ h=>(fa ρ h).bind PX
theorem Yr {tg a:Expr} {fa:MA} {p pos:Pos} (hg:Gl X "range") (hm:X.mg "range"=none) (ha:CV X E [a] fa) (hs:starEach [a] X.env=[(false,eval a X.env)]:=by rfl):G8 X E tg (.Call (.Name "range" p) [a] [] pos) (D8 fa):=
 Mw (VM hg hm ha hs) fun σ H R z17_=>by obtain ⟨m,ρ,h,hr,er,p⟩:=z17_;exact (⟨m,ρ,h,hr,er,Post.bind p fun x h1 v m1 H1 _ p1 k1 hr1 r1 q1=>by
  unfold Ha at q1
  split at q1
  ·split at q1
   ·rename_i hj
    simp only [FV,DVs,DV] at r1
    obtain ⟨v,w,rfl,rfl,rfl⟩:=r1
    exact ⟨_,rfl,hj.1,hj.2,q1 _ m1 H1 (Ax _) (.refl _) hr1 (Yq 0 _)⟩
   ·exact q1.elim
  ·exact q1.elim⟩)
open Classical in
noncomputable def En (src:AY) (items:List D) (sg:MG) (body:MS):List D→MS
 |[]=>fun ρ h=>if BZ src items h then .ok (.nx,ρ) h else .stuck
 |d::ds=>fun ρ h=>if BZ src items h then match sg d ρ with
   |none=>.stuck
   |some ρ1=>(body ρ1 h).bind fun x h2=>match x with
    |(.nx,ρ2)=>En src items sg body ds ρ2 h2
    |(.ct,ρ2)=>En src items sg body ds ρ2 h2
    |(.bk,ρ2)=>.ok (.nx,ρ2) h2
    |(.rt d,ρ2)=>.ok (.rt d,ρ2) h2
  else .stuck
noncomputable def Bz (it:MI) (sg:MG) (body:MS):MS:=fun ρ h=>(it ρ h).bind fun x h1=>En x.2 x.1 sg body x.1 ρ h1
inductive PZ (K:PySem.W.Frag) (E:XK) (Dn:DM) (src:AY) (items:List D) (sg:MG) (g:MS) (m1:List Addr) (H1:Hp) (i n:Nat) (σ2:L2.St) (H2:Hp):Prop where
 |mk (e:n=items.length - i) (l:i≤items.length) (m2:List Addr) (ρ2:Af) (h2:HD) (p:m1 <+:m2) (k:Kp H1 H2) (hr:HR K m2 h2 H2) (er:ER K m2 H2 ρ2 σ2) (q:PostS K m2 H2 E Dn (En src items sg g (items.drop i) ρ2 h2)):PZ K E Dn src items sg g m1 H1 i n σ2 H2
inductive P0 (K:PySem.W.Frag) (E:XK) (Dn:DM) (src:AY) (items:List D) (sg:MG) (g:MS) (m1:List Addr) (H1:Hp) (i:Nat) (σ2:L2.St) (H2:Hp):Prop where
 |mk (m2:List Addr) (ρ2:Af) (h2:HD) (p:m1 <+:m2) (k:Kp H1 H2) (hr:HR K m2 h2 H2) (er:ER K m2 H2 ρ2 σ2) (q:PostS K m2 H2 E Dn (En src items sg g (items.drop i) ρ2 h2)):P0 K E Dn src items sg g m1 H1 i σ2 H2
theorem Ys {tg iter:Expr} {body:List Stmt} {it:MI} {sg:MG} {g:MS} (hp:PassesOwn (model X.prog X.w) X.A X.env X.xe) (hc:X.calm=true) (hi:G8 X E tg iter it) (hg:Fz X tg sg) (hb:Cz X E body g)
 (hs:∀x,foldedSetIterable iter X.env x=pure x:=by intro _;rfl):Ex X E (.For tg iter body [] pos) (Bz it sg g):=by
 obtain ⟨gg,hg,ig⟩:=hg
 refine Ek (VP hp hc hi hg hb hs) ?_
 rintro Dn σ H ⟨m,ρ,h,hr,er,p⟩
 refine ⟨m,ρ,h,hr,er,PostS.bind p fun x h1 J m1 H1 _ p1 k1 hr1 r1 q1=>?_⟩
 obtain ⟨items,src⟩:=x
 refine ⟨PZ X.K E Dn src items sg g m1 H1,⟨items.length,rfl,DL _,m1,ρ,h1,Ax _,.refl _,hr1,er.keep p1 k1,by simpa using q1⟩,?_⟩
 rintro i n σ2 H2 ⟨rfl,hi,m2,ρ2,h2,p2,k2,hr2,er2,q2⟩
 by_cases hlt:i<items.length
 ·rw [Js hlt] at q2
  unfold En at q2
  split at q2
  ·rename_i hs
   obtain ⟨hgo,hy⟩:=(r1 i m2 h2 H2 p2 k2 hr2 hs).1 hlt
   refine .inr ⟨hgo,P0 X.K E Dn src items sg g m1 H1 (i+1),fun σ5 H5 z20_=>by obtain ⟨m5,ρ5,h5,a1,a2,a3,a4,a5⟩:=z20_;exact (⟨items.length - (i+1),by omega,rfl,hlt,m5,ρ5,h5,a1,a2,a3,a4,a5⟩),fun y H3 hyl=>?_⟩
   obtain ⟨k3,hr3,d,ed,rd⟩:=hy y H3 hyl
   have ed':d=items[i]:=by rw [BK hlt] at ed;exact (Option.some.inj ed).symm
   subst ed'
   split at q2
   ·exact q2.elim
   ·rename_i ρ3 es
    refine ig m2 H3 _ y ρ2 σ2 ρ3 _ rd (er2.keep (Ax _) k3) es fun σ4 er4=>?_
    refine ⟨m2,ρ3,h2,hr3,er4,?_⟩
    have q3:=PostS.ahead (Ax _) k3 q2
    cases o:g ρ3 h2 with
    |stuck=>rw [o] at q3;exact q3
    |err C fs h5=>rw [o] at q3;exact q3
    |ok z h5=>
     rw [o] at q3
     obtain ⟨fl,ρ5⟩:=z
     intro m5 H5 p5 k5 hr5
     have pk:m1 <+:m5:=p2.trans p5
     have kk:Kp H1 H5:=(k2.trans k3).trans k5
     cases fl with
     |nx=>exact fun σ5 er5=>⟨m5,ρ5,h5,pk,kk,hr5,er5,PostS.ahead p5 k5 q3⟩
     |ct=>exact fun σ5 er5=>⟨m5,ρ5,h5,pk,kk,hr5,er5,PostS.ahead p5 k5 q3⟩
     |bk=>exact fun σ5 er5=>q3 m5 H5 p5 k5 hr5 σ5 er5
     |rt d=>exact fun v rv=>q3 m5 H5 p5 k5 hr5 v rv
  ·exact q2.elim
 ·have he:i=items.length:=Nat.le_antisymm hi (HY hlt)
  subst he
  rw [List.drop_length] at q2
  unfold En at q2
  split at q2
  ·rename_i hs
   exact .inl ⟨(r1 _ m2 h2 H2 p2 k2 hr2 hs).2 rfl,(q2.here hr2) σ2 er2⟩
  ·exact q2.elim
end
section
variable {M:Model} {A:Around} {E:Value→Shared→Prop} {s:Shared}
theorem Mx {env:Env}:∀(names:List (Str×NameKind)) (acc:List (Str×Addr)),(∀y∈names,y.2=.free→∃c,env.cells.lookup y.1=some c)→
 ∃cl:List (Str×Addr),(forIn names acc (fun (x:Str×NameKind) (cs:List (Str×Addr))=>match x with
  |(name,kind)=>if (kind==NameKind.free)=true then do let y ←cellOf env name;pure (ForInStep.yield ((name,y)::cs)) else pure (ForInStep.yield cs)):Sem (List (Str×Addr)))=pure cl∧
  (∀x c,(x,c)∈cl→(x,c)∈acc∨(env.cells.lookup x=some c∧(x,NameKind.free)∈names))∧(∀y∈names,y.2=.free→∃c,(y.1,c)∈cl)∧(∀p∈acc,p∈cl)
 |[],acc,_=>⟨acc,rfl,fun x c h=>.inl h,fun y hy=>absurd hy (by simp),fun p h=>h⟩
 |(name,kind)::r,acc,h=>by
  rw [List.forIn_cons]
  by_cases hk:kind=.free
  ·subst hk
   obtain ⟨c,hc⟩:=h (name,.free) Bf rfl
   obtain ⟨cl,e,h1,h2,h3⟩:=Mx (env:=env) r ((name,c)::acc) (fun y hy=>h y (Be _ hy))
   refine ⟨cl,?_,fun x c' hm=>?_,fun y hy hf=>?_,fun p hp=>h3 p (Be _ hp)⟩
   ·rw [←e]
    have:cellOf env name=pure c:=by unfold cellOf;rw [hc]
    simp only [this,beq_self_eq_true,if_true,pure_bind]
   ·rcases h1 x c' hm with q |⟨q1,q2⟩
    ·rcases qa9.mp q with q |q
     ·cases q;exact .inr ⟨hc,Bf⟩
     ·exact .inl q
    ·exact .inr ⟨q1,Be _ q2⟩
   ·rcases qa9.mp hy with q |q
    ·subst q;exact ⟨c,h3 _ Bf⟩
    ·exact h2 y q hf
  ·obtain ⟨cl,e,h1,h2,h3⟩:=Mx (env:=env) r acc (fun y hy=>h y (Be _ hy))
   refine ⟨cl,?_,fun x c' hm=>?_,fun y hy hf=>?_,h3⟩
   ·rw [←e]
    have hk':(kind==NameKind.free)=false:=by simpa using hk
    simp only [hk',Bl,if_false,pure_bind]
   ·rcases h1 x c' hm with q |⟨q1,q2⟩
    ·exact .inl q
    ·exact .inr ⟨q1,Be _ q2⟩
   ·rcases qa9.mp hy with q |q
    ·subst q;exact absurd hf hk
    ·exact h2 y q hf
theorem P3 {scope:Scope} {env:Env} (h:∀y∈scope.names,y.2=.free→∃c,env.cells.lookup y.1=some c):
 ∃cl:List (Str×Addr),closureFor scope env=pure cl∧(∀x c,(x,c)∈cl→env.cells.lookup x=some c∧(x,NameKind.free)∈scope.names)∧(∀y∈scope.names,y.2=.free→∃c,(y.1,c)∈cl):=by
 obtain ⟨cl,e,h1,h2,h3⟩:=Mx (env:=env) scope.names [] h
 refine ⟨cl,?_,fun x c hm=>?_,h2⟩
 ·unfold closureFor
  simp only [bind_pure]
  exact e
 ·rcases h1 x c hm with q |q
  ·exact nomatch q
  ·exact q
theorem Yt {scope:Scope} {globals:Addr} {cl:List (Str×Addr)} {qual:Str} {around:Env} {Q:Env→Shared→Prop}
 (h:Q (newEnv scope s.heap.objs.size globals (cellsFrom (s.heap.objs.size+1) scope.names cl) qual none .none (some around) builtinsNs) {s with heap:=pushCells (s.heap.push {cls:=.type "dict",data:=.dict #[]}) scope.names}):
 wpAny M A (newFunctionEnv scope globals cl [] qual none .none (some around)) Q E s:=by
 simp only [newFunctionEnv,Option.isSome_some,if_true]
 refine wpAny_bind (wpAny_alloc ?_)
 refine wpAny_bind (wpAny_layCells _ (fun name kind cells=>by cases hkc:kind==NameKind.cell<;>simp [hkc]) _ _ _ _ ?_)
 simp only [List.forIn_nil,pure_bind]
 refine wpAny_pure ?_
 rw [show ({s with heap:=s.heap.push {cls:=.type "dict",data:=.dict #[]}}:Shared).heap.objs.size=s.heap.objs.size+1 from EX ..]
 exact h
end
section
variable {prog:Program} {w:World} {A:Around} {R:Result→Shared→Prop} {s:Shared}
theorem Yu {elt target iter:Expr} {ifs:List Expr} {scope:Scope} {pos:Pos} {it acc:Value} {env:Env} (I:Nat→Shared→Prop)
 (turn:∀n s,I n s→wpAny (model prog w) A (pyNext it) (fun r s₁=>match r with
  |none=>R (.ok .next) s₁
  |some v=>wpAny (model prog w) A (letOwnedTupleGo target it v) (fun _ s₁'=>wpAny (model prog w) A (assign target env v) (fun _ s₂=>
   wpAny (model prog w) A (forIn ifs true fun c r=>if r=true then do let ok ←isTrue c env (eval c env);pure (ForInStep.yield ok) else pure (ForInStep.yield r)) (fun ok s₃=>
    if ok=true then wpAny (model prog w) A (eval elt env) (fun x s₄=>
     wpAny (model prog w) A (call (.builtin "list.append") [acc,x]) (fun _ s₅=>∃m,m<n∧I m s₅) (notedBy (model prog w) A env fun e s'=>R (.error e) s') s₄) (notedBy (model prog w) A env fun e s'=>R (.error e) s') s₃
    else ∃m,m<n∧I m s₃) (notedBy (model prog w) A env fun e s'=>R (.error e) s') s₂) (notedBy (model prog w) A env fun e s'=>R (.error e) s') s₁') (notedBy (model prog w) A env fun e s'=>R (.error e) s') s₁) (notedBy (model prog w) A env fun e s'=>R (.error e) s') s)
 (n:Nat) (h:I n s):
 codeAny (model prog w) A (.compLoop (.ListComp elt [⟨target,iter,ifs,0⟩] scope pos) 0 it acc env) R s:=by
 refine codeAny_loop rfl I (fun n s hI=>?_) n h
 show wpAny _ A ((compTurn (.ListComp elt [⟨target,iter,ifs,0⟩] scope pos) 0 it acc env).onRaise (fun x=>do noteFrame x env;theTreesLotGoes x)) _ _ s
 refine wpAny_noted ?_
 rw [compTurn_list]
 refine wpAny_bind (wpAny_standAt (wpAny_bind (wpAny_mono (turn n s hI) (fun r s₁ h₁=>?_) fun _ _ h'=>h')))
 cases r with
 |none=>exact wpAny_pure h₁
 |some v=>
  refine wpAny_bind (wpAny_mono h₁ (fun _ s₁' h₁'=>?_) fun _ _ h'=>h')
  refine wpAny_bind (wpAny_mono h₁' (fun _ s₂ h₂=>wpAny_bind (wpAny_mono h₂ (fun ok s₃ h₃=>?_) fun _ _ h'=>h')) fun _ _ h'=>h')
  cases ok with
  |false=>exact wpAny_pure ⟨rfl,h₃⟩
  |true=>
   exact wpAny_bind (wpAny_bind (wpAny_mono h₃ (fun x s₄ h₄=>wpAny_bind (wpAny_mono h₄ (fun _ s₅ h₅=>wpAny_pure (wpAny_pure ⟨rfl,h₅⟩)) fun _ _ h'=>h')) fun _ _ h'=>h'))
end
def Iv (X:Cx) (ifs:List Expr) (t:TT):Prop:=∀(pins:List (Addr×Obj)) (s:Shared) (σ:L2.St) (H:Hp) (Q:Bool→Hp→Prop),Inv X pins σ H s→t σ H Q→
 wpAny (model X.prog X.w) X.A (forIn ifs true fun c r=>if r=true then do let ok ←isTrue c X.env (eval c X.env);pure (ForInStep.yield ok) else pure (ForInStep.yield r)) (TP X pins σ Q) X.xe s
theorem Yv {X:Cx}:Iv X [] (fun _ H Q=>Q true H):=fun _ _ _ H _ I h=>wpAny_tests_nil ⟨H,I,h⟩
theorem Yw {X:Cx} {c:Expr} {t:TT} (h:PT X c t):Iv X [c] t:=fun pins s σ H Q I q=>wpAny_tests_one (h pins s σ H Q I q)
def P4 (env:Env) (scope:Scope) (C:Addr) (cells:List (Str×Addr)):Env:=
 {scope:=relabel scope env,locals:=C,globals:=env.globals,cells:=cells,qual:=env.qual,func:=none,code:=env.code,frame:=env.frame,builtins:=env.builtins}
def Ci (X:Cx) (Nc:List Str) (scope:Scope) (C D:Addr) (cells:List (Str×Addr)) (fp:List Addr) (s₀:Shared) (H₀:Hp) (pins:List (Addr×Obj)):Cx:=
 {X with N:=Nc,s₀:=s₀,H₀:=H₀,env:=P4 X.env scope C cells,outer:=X.stack,stack:=X.stack,ex:=D::fp,fn:=fun x=>scope.names.lookup x==some .cell,pn:=X.pn++pins,xe:=fun _ _=>False}
def BI (cs:List (Option Nat)) (σ:L2.St):L2.St:=cs.map fun o=>o.bind fun j=>(σ[j]?).join
def Sub (σ σ':L2.St):Prop:=σ.length=σ'.length∧∀(i:Nat) v,σ[i]?=some (some v)→σ'[i]?=some (some v)
def My (cs:List (Option Nat)) (wi:TI) (g:TG) (tc:TT) (te:TE):TE:=fun σ H Q=>wi σ H fun J H1=>∃W:Nat→Nat→List V→Hp→Prop,(∃n,W 0 n [] H1)∧∀i n acc H,W i n acc H→
 (J.stop i H∧acc.length≤sizeLine∧∀p,H p=none→Q (.ref p) (Aj H p (.lst acc)))∨
 (J.go i H∧acc.length<sizeLine∧∀x H',J.yld i H x H'→g x (BI cs σ) H' fun σ2 H2=>Sub (BI cs σ) σ2∧tc σ2 H2 fun b H3=>if b=true then te σ2 H3 fun y H4=>∃n',n' < n∧W (i+1) n' (acc++[y]) H4 else ∃n',n' < n∧W (i+1) n' acc H3)
theorem Mz:∀(names:List (Str×NameKind)) (h:Heap) (acc:List (Str×Addr)) (x:Str) (c:Addr),(x,c)∈cellsFrom h.objs.size names acc→(x,c)∈acc∨(h.objs.size≤c∧(x,NameKind.cell)∈names∧(pushCells h names).IsCell c none)
 |[],_,_,_,_,m=>.inl m
 |(name,kind)::r,h,acc,x,c,m=>by
  unfold cellsFrom at m
  unfold pushCells
  split at m
  ·rename_i hk
   rw [if_pos hk]
   have hk':kind=.cell:=by simpa using hk
   have e:h.objs.size+1=(h.push {cls:=.type "cell",data:=.cell none}).objs.size:=(EX ..).symm
   rw [e] at m
   rcases Mz r _ _ x c m with q |⟨q1,q2,q3⟩
   ·rcases qa9.mp q with q |q
    ·cases q
     refine .inr ⟨Au _,by rw [hk'];exact Bf,?_⟩
     exact (show (h.push {cls:=.type "cell",data:=.cell none}).IsCell h.objs.size none from ⟨_,BM _ rfl,rfl⟩).keeps fun b o e=>pushCells_keeps _ _ b o e
    ·exact .inl q
   ·exact .inr ⟨by rw [←e] at q1;exact Ju q1,Be _ q2,q3⟩
  ·rename_i hk
   rw [if_neg hk]
   rcases Mz r h acc x c m with q |⟨q1,q2,q3⟩
   ·exact .inl q
   ·exact .inr ⟨q1,Be _ q2,q3⟩
theorem MB:∀(names:List (Str×NameKind)) (h:Heap) (acc:List (Str×Addr)),(∀x c,(x,c)∈acc→c<h.objs.size)→(∀x y c,(x,c)∈acc→(y,c)∈acc→x=y)→
 ∀x y c,(x,c)∈cellsFrom h.objs.size names acc→(y,c)∈cellsFrom h.objs.size names acc→x=y
 |[],_,_,_,i=>i
 |(name,kind)::r,h,acc,lt,i=>by
  unfold cellsFrom
  split
  ·have e:h.objs.size+1=(h.push {cls:=.type "cell",data:=.cell none}).objs.size:=(EX ..).symm
   rw [e]
   refine MB r _ _ (fun x c m=>?_) (fun x y c m m'=>?_)
   ·rw [←e]
    rcases qa9.mp m with q |q
    ·cases q;exact Nat.lt_succ_self _
    ·exact Nat.lt_succ_of_lt (lt x c q)
   ·rcases qa9.mp m with q |q<;>rcases qa9.mp m' with q' |q'
    ·cases q;cases q';rfl
    ·cases q;exact absurd (lt y _ q') (Di _)
    ·cases q';exact absurd (lt x _ q) (Di _)
    ·exact i x y c q q'
  ·exact MB r h acc lt i
theorem lookup_mem {α:Type} {l:List (Str×α)} {x:Str} {k:α} (nd:(l.map (·.1)).Nodup) (h:(x,k)∈l):l.lookup x=some k:=by
 induction l with
 |nil=>cases h
 |cons p r ih=>
  obtain ⟨y,j⟩:=p
  rw [Bx,qbA] at nd
  rw [Dm]
  rcases qa9.mp h with e |e
  ·cases e;simp
  ·have:x≠y:=by
    rintro rfl
    exact nd.1 (qaR.mpr ⟨(x,k),e,rfl⟩)
   have hb:(x==y)=false:=by simpa using this
   rw [hb]
   exact ih nd.2 e
theorem Yx {env:Env} {x n:Str} {j:NameKind} {r:List (Str×NameKind)} {k:NameKind} (h:List.lookup x ((if (j==NameKind.free&&env.scope.kind==.function&&env.kindOf n==some .cell)=true then (n,NameKind.cell) else (n,j))::r)=some k):
 (x=n∧(k=j∨(j=.free∧k=.cell)))∨(x≠n∧List.lookup x r=some k):=by
 by_cases hx:x=n
 ·subst hx
  refine .inl ⟨rfl,?_⟩
  split at h
  ·rename_i hc
   rw [Dm] at h
   simp only [beq_self_eq_true] at h
   cases h
   simp only [BX] at hc
   exact .inr ⟨by simpa using hc.1.1,rfl⟩
  ·rw [Dm] at h
   simp only [beq_self_eq_true] at h
   cases h
   exact .inl rfl
 ·have hb:(x==n)=false:=by simpa using hx
  refine .inr ⟨hx,?_⟩
  split at h<;>(rw [Dm] at h;simp only [hb] at h;exact h)
theorem P5 {scope:Scope} {env:Env} {x:Str} {k:NameKind}:(relabel scope env).names.lookup x=some k→∃k0,scope.names.lookup x=some k0∧(k=k0∨(k0=.free∧k=.cell)):=by
 show (scope.names.map _).lookup x=some k→_
 induction scope.names with
 |nil=>intro h;cases h
 |cons p r ih=>
  obtain ⟨n,j⟩:=p
  intro h
  rw [Bx] at h
  rw [Dm]
  rcases Yx h with ⟨hx,hk⟩ |⟨hx,hr⟩
  ·subst hx
   simp only [beq_self_eq_true]
   exact ⟨j,rfl,hk⟩
  ·have hb:(x==n)=false:=by simpa using hx
   rw [hb]
   exact ih hr
structure Iw (X:Cx) (scope:Scope) (Nc:List Str) (cs:List (Option Nat)):Prop where
 kind:scope.kind=.function
 loc:∀y∈scope.names,y.2=.local→scope.names.lookup y.1=some .local
 free:∀y∈scope.names,y.2=.free→X.env.kindOf y.1=some .cell∨X.env.kindOf y.1=some .free
 nd:(scope.names.map (·.1)).Nodup
 len:cs.length=Nc.length
 out:∀(i:Nat) (x:Str) (j:Nat),Nc[i]?=some x→cs[i]?=some (some j)→X.N[j]?=some x∧scope.names.lookup x=some .free
theorem Yy {a b:Addr} (h:a<b):@LT.lt Nat instLTNat a b:=h
theorem Dw {a b:Addr} (h:@LT.lt Nat instLTNat a b):a≠b:=Cd h
theorem Hb {a b:Addr} (h:@LT.lt Nat instLTNat a b):b≠a:=Ne.symm (Cd h)
section
variable {X:Cx} {pins:List (Addr×Obj)} {σ:L2.St} {H:Hp} {s:Shared}
theorem Yz {scope:Scope} {Nc:List Str} {cs:List (Option Nat)} {fp:List Addr} {cl:List (Str×Addr)} (S:Iw X scope Nc cs) (I:Inv X pins σ H s) (f:∀b∈fp,E3 X pins H b) (ob:∀b∈fp,∃o,s.heap.get? b=some o)
 (hcl:∀x c,(x,c)∈cl→X.env.cells.lookup x=some c∧(x,NameKind.free)∈scope.names) (hcl2:∀y∈scope.names,y.2=.free→∃c,(y.1,c)∈cl) {s3:Shared} (e3:s3={s with heap:=s.heap.push {cls:=.type "list",data:=.seq ([]:List Value).toArray}}):
 Inv (Ci X Nc scope s3.heap.objs.size s.heap.objs.size (cellsFrom (s3.heap.objs.size+1) scope.names cl) fp s3 H pins) [] (BI cs σ) H
  {s3 with heap:=pushCells (s3.heap.push {cls:=.type "dict",data:=.dict #[]}) scope.names}:=by
 have k3:∀b o,s.heap.get? b=some o→s3.heap.get? b=some o:=fun b o e=>by subst e3;exact A5 _ e
 have Kg:s3.heap.objs.size=s.heap.objs.size+1:=by subst e3;exact EX ..
 have szd:(s3.heap.push {cls:=.type "dict",data:=.dict #[]}).objs.size=s3.heap.objs.size+1:=EX ..
 have k34:∀b o,s3.heap.get? b=some o→(pushCells (s3.heap.push {cls:=.type "dict",data:=.dict #[]}) scope.names).get? b=some o:=fun b o e=>pushCells_keeps _ _ b o (A5 _ e)
 have k4:∀b o,s.heap.get? b=some o→(pushCells (s3.heap.push {cls:=.type "dict",data:=.dict #[]}) scope.names).get? b=some o:=fun b o e=>k34 b o (k3 b o e)
 have cllt:∀x c,(x,c)∈cl→c<s.heap.objs.size:=fun x c m=>by
  obtain ⟨v,q⟩:=I.cell x c (hcl x c m).1
  exact q.lt
 have cm:∀x c,(cellsFrom (s3.heap.objs.size+1) scope.names cl).lookup x=some c→(x,c)∈cl∨(s3.heap.objs.size+1≤c∧(x,NameKind.cell)∈scope.names∧(pushCells (s3.heap.push {cls:=.type "dict",data:=.dict #[]}) scope.names).IsCell c none):=fun x c e=>by
  have m:=mem_of_lookup e
  rw [←szd] at m
  have:=Mz scope.names _ cl x c m
  rw [szd] at this
  exact this
 have frs_lt:∀b∈frs X.stack,b<s.heap.objs.size:=fun b hb=>by
  obtain ⟨_,o,ho,_⟩:=I.stack.mem hb
  exact AH ho
 have nfs:∀b,b≠X.env.locals→b∉X.fs→b∉frs X.stack:=fun b h1 h2 hb=>by
  rcases qa9.mp (I.stkSub b hb) with q |q
  ·exact h1 q
  ·exact h2 q
 have ok:(Ci X Nc scope s3.heap.objs.size s.heap.objs.size (cellsFrom (s3.heap.objs.size+1) scope.names cl) fp s3 H pins).Ok:=by
  refine ⟨I.ok.mod,S.kind,I.ok.glob,I.ok.blt,Au _,fun x y c e1 e2=>?_,fun x hx=>?_,fun x c hf e=>?_,I.ok.hd,I.ok.frames,.inl rfl,fun b hb=>?_,fun b o e=>?_,?_,fun b o e hb=>?_,fun b hb=>?_,?_,I.stkFree⟩
  ·have m1:=mem_of_lookup e1
   have m2:=mem_of_lookup e2
   have m1':(x,c)∈cellsFrom (s3.heap.push {cls:=.type "dict",data:=.dict #[]}).objs.size scope.names cl:=by rw [szd];exact m1
   have m2':(y,c)∈cellsFrom (s3.heap.push {cls:=.type "dict",data:=.dict #[]}).objs.size scope.names cl:=by rw [szd];exact m2
   exact MB scope.names (s3.heap.push {cls:=.type "dict",data:=.dict #[]}) cl (fun x c m=>by rw [szd,Kg];exact Bc (cllt x c m) (by omega))
    (fun x y c a b=>I.ok.inj x y c (hcl x c a).1 (hcl y c b).1) x y c m1' m2'
  ·have:∃k,(relabel scope X.env).names.lookup x=some k∧(k=.cell∨k=.free):=by
    rcases hx with q |q
    ·exact ⟨_,q,.inl rfl⟩
    ·exact ⟨_,q,.inr rfl⟩
   obtain ⟨k,e1,hk⟩:=this
   obtain ⟨k0,e0,hk0⟩:=P5 e1
   refine qbB.mp (PySem.W.cellsFrom_some _ _ _ ?_)
   have:k0=.cell∨k0=.free:=by
    rcases hk0 with q |⟨q,_⟩
    ·rw [←q];exact hk
    ·exact .inr q
   rcases this with q |q
   ·subst q;exact .inl e0
   ·subst q
    obtain ⟨c,hc⟩:=hcl2 _ (mem_of_lookup e0) rfl
    refine .inr ?_
    cases hl:cl.lookup x with
    |some c'=>rfl
    |none=>
     exfalso
     have:∀p∈cl,p.1≠x:=fun p hp e=>by
      have h2:=List.lookup_eq_none_iff.mp hl p hp
      rw [e] at h2
      simp at h2
     exact this _ hc rfl
  ·have hk:scope.names.lookup x=some .cell:=by
    have:(scope.names.lookup x==some NameKind.cell)=true:=hf
    simpa using this
   rcases cm x c e with q |⟨q1,_,_⟩
   ·have:=lookup_mem S.nd (hcl x c q).2
    rw [hk] at this
    cases this
   ·exact Ju q1
  ·rcases qa9.mp hb with q |q
   ·subst q
    refine ⟨Dw (show _<s3.heap.objs.size by omega),fun x c e=>?_⟩
    rcases cm x c e with q |⟨q1,_,_⟩
    ·exact Cd (cllt x c q)
    ·exact Hb (Bc (by omega) q1)
   ·obtain ⟨o,ho⟩:=ob b q
    have hlt:=Yy (AH ho)
    refine ⟨Dw (show _<s3.heap.objs.size by omega),fun x c e=>?_⟩
    rcases cm x c e with q2 |⟨q1,_,_⟩
    ·exact (f b q).2.2.2.2.1 x c (hcl x c q2).1
    ·exact Hb (Bc (by omega) q1)
  ·obtain ⟨h1,h2⟩:=I.bs b o e
   exact ⟨k3 b o h1,h2⟩
  ·show X.base.objs.size≤s3.heap.objs.size
   have:=BG I.ok.bsz I.sz
   omega
  ·obtain ⟨h1,h2⟩:=I.bs b o e
   rcases qa9.mp hb with q |q
   ·exact absurd q (Dw (AH h1))
   ·rcases (f b q).2.2.2.1 with z |z
    ·exact I.ok.noex b o e z
    ·exact absurd (Bc (AH (I.ok.bs b o e).1) z) (Di _)
  ·rcases qa9.mp hb with q |q
   ·subst q
    intro z
    exact absurd (frs_lt _ z) (Di _)
   ·exact nfs b (f b q).2.1 (f b q).2.2.1
  ·exact I.stack.of_keeps fun b o e _=>⟨o,k3 b o e,rfl⟩
 refine ⟨ok,rfl,?_,?_,?_,fun x c e=>?_,?_,fun x c e=>?_,fun p hp=>?_,I.hok.kept k4,?_⟩
 ·show AllBare s3.gens
  subst e3;exact I.bare
 ·exact Un.kept k34
 ·refine ⟨fun _=>none,(Heap.Ns.new s3.heap (.type "dict")).keeps (pushCells_keeps _ _),fun i x v e1 e2 e3'=>?_⟩
  unfold BI at e2
  rw [CK] at e2
  cases ec:cs[i]? with
  |none=>rw [ec] at e2;cases e2
  |some o=>
   rw [ec] at e2
   cases o with
   |none=>cases e2
   |some j=>
    simp only [H0,Option.bind_some,Option.some.injEq] at e2
    have e2':σ[j]?=some (some v):=by
     cases ej:σ[j]? with
     |none=>rw [ej] at e2;cases e2
     |some w=>rw [ej] at e2;simp at e2;rw [e2]
    obtain ⟨hN,hfr⟩:=S.out i x j e1 ec
    have hfm:=mem_of_lookup hfr
    have hkind:=S.free _ hfm rfl
    obtain ⟨m,hn,hl⟩:=I.loc
    obtain ⟨u,r,look⟩:=hl j x v hN e2' (by
     rcases hkind with q |q
     ·exact .inr (.inl q)
     ·exact .inr (.inr q))
    refine ⟨u,r,.inr ?_⟩
    rcases look with ⟨q,_⟩ |⟨_,c,ec',hc⟩
    ·rcases hkind with z |z<;>(rw [q] at z;cases z)
    ·obtain ⟨c',hc'⟩:=hcl2 _ hfm rfl
     have hv:(Ci X Nc scope s3.heap.objs.size s.heap.objs.size (cellsFrom (s3.heap.objs.size+1) scope.names cl) fp s3 H pins).env.kindOf x=some .cell∨(Ci X Nc scope s3.heap.objs.size s.heap.objs.size (cellsFrom (s3.heap.objs.size+1) scope.names cl) fp s3 H pins).env.kindOf x=some .free:=by
      rcases e3' with z |z |z
      ·obtain ⟨k0,a1,a2⟩:=P5 z
       rw [hfr] at a1
       cases a1
       rcases a2 with a2 |⟨_,a2⟩<;>cases a2
      ·exact .inl z
      ·exact .inr z
     refine ⟨hv,c,?_,hc.keeps k4⟩
     obtain ⟨c2,h2⟩:=ok.has x hv
     rw [h2]
     rcases cm x c2 h2 with q |⟨_,q,_⟩
     ·rw [←ec',(hcl x c2 q).1]
     ·have:=lookup_mem S.nd q
      rw [hfr] at this
      cases this
 ·rcases cm x c e with q |⟨_,_,q⟩
  ·obtain ⟨v,z⟩:=I.cell x c (hcl x c q).1
   exact ⟨v,z.keeps k4⟩
  ·exact ⟨none,q⟩
 ·exact I.hok.fresh (show s.heap.objs.size≤s3.heap.objs.size by omega)
 ·rcases cm x c e with q |⟨q,_,_⟩
  ·exact I.freeC x c (hcl x c q).1
  ·exact I.hok.fresh (by omega)
 ·have hp':p∈X.pn++pins:=by
   rcases qaP.mp hp with q |q
   ·exact q
   ·exact absurd q (by simp)
  obtain ⟨a1,a2,a3,a4,a5⟩:=I.pin p hp'
  refine ⟨k4 _ _ a1,a2,?_,nfs p.1 a3 a4,a5⟩
  show p.1≠s3.heap.objs.size
  exact Dw (Bc (AH a1) (by omega))
 ·show (BI cs σ).length=Nc.length
  simp [BI,S.len]
end
section
variable {X:Cx} {elt tg iter:Expr} {ifs:List Expr} {scope:Scope} {pos:Pos} {Nc:List Str} {cs:List (Option Nat)} {wi:TI} {g:TG} {tc:TT} {te:TE}
theorem YA {pins:List (Addr×Obj)} {σ:L2.St} {H H':Hp} {s s3 s':Shared} {fp:List Addr} {C:Addr} {cells:List (Str×Addr)} {po:List (Addr×Obj)} {σc:L2.St} {acc:List V} {its:List Value} {n:Nat}
 (I:Inv X pins σ H s) (f:∀b∈fp,E3 X pins H b) (e3:s3={s with heap:=s.heap.push {cls:=.type "list",data:=.seq ([]:List Value).toArray}}) (hC:C=s3.heap.objs.size)
 (I':Inv (Ci X Nc scope C s.heap.objs.size cells fp s3 H pins) po σc H' s') (hD:H' s.heap.objs.size=none) (hl:acc.length≤sizeLine) (rv:Vals acc its) (ho:s'.heap.get? s.heap.objs.size=some {cls:=.type "list",data:=.seq its.toArray n})
 {h':Heap} (sb:Heap.SameBut C s'.heap h'):Inv X pins σ (Aj H' s.heap.objs.size (.lst acc)) {s' with heap:=h'}:=by
 have k3:∀b o,s.heap.get? b=some o→s3.heap.get? b=some o:=fun b o e=>by subst e3;exact A5 _ e
 have Kg:s3.heap.objs.size=s.heap.objs.size+1:=by subst e3;exact EX ..
 have Em:∀b o,s.heap.get? b=some o→b≠s.heap.objs.size:=fun b o e=>Dw (AH e)
 have neC:∀b o,s.heap.get? b=some o→b≠C:=fun b o e=>by rw [hC];exact Dw (Bc (AH e) (by omega))
 have DC:s.heap.objs.size≠C:=by rw [hC];exact Dw (by omega)
 have U:Un (frs X.stack) (s.heap.objs.size::fp) H H' s3.heap s'.heap:=I'.base
 have exn:∀b o,s.heap.get? b=some o→b∉fp→b∉s.heap.objs.size::fp:=fun b o e hx hb=>by
  rcases qa9.mp hb with z |z
  ·exact Em b o e z
  ·exact hx z
 have neT:∀b u,H' b=some u→b≠s.heap.objs.size:=fun b u e=>DY e hD
 have hCn:H' C=none:=I'.free
 refine I.call' (s':={s' with heap:=h'}) (ch:=fp) ?_ ?_ ?_ I'.bare ?_
 ·show s'.os=s.os
  have:=I'.os
  rw [this]
  show s3.os=s.os
  subst e3;rfl
 ·refine ⟨fun b o e nn hb hx=>?_,fun b o e nn hb hx=>?_,fun b o e nn hx=>?_,fun b o e hx=>?_,fun b xs e=>?_,fun b o u e=>?_,fun b ps e=>?_⟩
  ·exact (sb.2 b (neC b o e)).trans (U.keep b o (k3 b o e) nn hb (exn b o e hx))
  ·obtain ⟨sl,z⟩:=U.slot b o (k3 b o e) nn hb (exn b o e hx)
   exact ⟨sl,(sb.2 b (neC b o e)).trans z⟩
  ·rw [AB (Em b o e)]
   exact U.free b o (k3 b o e) nn (exn b o e hx)
  ·obtain ⟨o',z⟩:=U.there b o (k3 b o e) (exn b o e hx)
   exact ⟨o',(sb.2 b (neC b o e)).trans z⟩
  ·have z:=U.tups b xs e
   rw [AB (neT b _ z)]
   exact z
  ·have z:=U.frzs b o u e
   rw [AB (neT b _ z)]
   exact z
  ·obtain ⟨more,z⟩:=U.tbls b ps e
   exact ⟨more,by rw [AB (neT b _ z)];exact z⟩
 ·intro b u e
  by_cases hb:b=s.heap.objs.size
  ·subst hb
   rw [Cy] at e
   cases e
   exact ⟨hl,its,n,rv,(sb.2 _ DC).trans ho⟩
  ·rw [AB hb] at e
   refine (I'.hok b u e).stay (fun c v hc z=>(sb.2 c ?_).trans z) (fun c z=>by rw [AB (neT c _ z)];exact z) fun c xs z=>by rw [AB (neT c _ z)];exact z
   rcases hc with rfl |hc
   ·exact DY e hCn
   ·exact DY hc hCn
 ·intro b hb
  obtain ⟨_,f1,_,f3,f4,f5⟩:=f b hb
  exact ⟨f3,f1,f4,f5⟩
inductive P6 (W:Nat→Nat→List V→Hp→Prop) (Xc:Cx) (σc:L2.St) (tn:Nat→Heap→Prop) (fp:List Addr) (Da:Addr) (n:Nat) (s':Shared):Prop where
 |mk (i:Nat) (acc:List V) (H':Hp) (its:List Value) (k:Nat) (w:W i n acc H') (ii:Inv Xc [] σc H' s') (st:tn i s'.heap) (fr:∀b∈fp,H' b=none) (hD:H' Da=none) (rv:Vals acc its) (ho:s'.heap.get? Da=some {cls:=.type "list",data:=.seq its.toArray k}):P6 W Xc σc tn fp Da n s'
theorem YB {use:Option (Value→Sem Unit)} {QQ:Value→Shared→Prop} {ppos:Pos} {pins:List (Addr×Obj)} {s:Shared} {σ:L2.St} {H:Hp} {Q:VK} (hcalm:X.calm=true) (S:Iw X scope Nc cs) (hi:PI X tg iter wi)
 (hb:∀(C D:Addr) (cells:List (Str×Addr)) (fp:List Addr) (s₀:Shared) (H₀:Hp) (pins:List (Addr×Obj)),PG (Ci X Nc scope C D cells fp s₀ H₀ pins) tg g∧Iv (Ci X Nc scope C D cells fp s₀ H₀ pins) ifs tc∧PE (Ci X Nc scope C D cells fp s₀ H₀ pins) elt te)
 (hsf:∀x,foldedSetIterable iter X.env x=pure x) (I:Inv X pins σ H s) (h:My cs wi g tc te σ H Q)
 (AF:∀(s6:Shared) (C D:Addr) (H7:Hp) (m6:Str→Option Value),s6.heap.Ns C m6→H7 C=none→X.s₀.heap.objs.size≤C→C≠X.env.locals→(∀x c,X.env.cells.lookup x=some c→c≠C)→(∀p∈X.pn++pins,p.1≠C)→
  (∀h',Heap.SameBut C s6.heap h'→Inv X pins σ H7 {s6 with heap:=h'})→Q (.ref D) H7→compPost (model X.prog X.w) X.A X.xe use QQ (.ref D) C (.ok .next) s6):
 wpAny (model X.prog X.w) X.A (comprehension (.ListComp elt [⟨tg,iter,ifs,0⟩] scope pos) scope X.env ppos (newList []) false (eval iter X.env) use) QQ X.xe s:=by
 obtain ⟨cl,hclos,hcl,hcl2⟩:=P3 (scope:=scope) (env:=X.env) fun y hy hf=>I.ok.has y.1 (S.free y hy hf)
 refine wpAny_comprehension_free (use:=use) rfl hsf hclos S.kind S.loc (Am (hi pins s σ H _ I h) fun xv s1 h1=>Am h1 fun itv s2 h2=>?_)
 obtain ⟨it,fp,tn,J,H2,e,I2,T,st2,f2,W,⟨n0,w0⟩,turn⟩:=h2
 subst e
 refine wpAny_newObj_type ?_
 generalize e3:({s2 with heap:=s2.heap.push {cls:=.type "list",data:=.seq ([]:List Value).toArray}}:Shared)=s3
 refine Yt ?_
 have ob2:∀b∈fp,∃o,s2.heap.get? b=some o:=fun b hb=>let ⟨o,e,_⟩:=T.obj _ _ st2 b hb;⟨o,e⟩
 have I4:=Yz (fp:=fp) (cl:=cl) S I2 f2 ob2 hcl hcl2 e3.symm
 generalize e4:({s3 with heap:=pushCells (s3.heap.push {cls:=.type "dict",data:=.dict #[]}) scope.names}:Shared)=s4 at I4
 generalize ecl:cellsFrom (s3.heap.objs.size+1) scope.names cl=cells at I4
 obtain ⟨pg,pt,pe⟩:=hb s3.heap.objs.size s2.heap.objs.size cells fp s3 H2 pins
 generalize eX:Ci X Nc scope s3.heap.objs.size s2.heap.objs.size cells fp s3 H2 pins=Xc at I4 pg pt pe
 have xP:Xc.prog=X.prog:=by subst eX;rfl
 have xw:Xc.w=X.w:=by subst eX;rfl
 have xK:Xc.K=X.K:=by subst eX;rfl
 have xA:Xc.A=X.A:=by subst eX;rfl
 have xE:Xc.env=P4 X.env scope s3.heap.objs.size cells:=by subst eX;rfl
 have xL:Xc.env.locals=s3.heap.objs.size:=by subst eX;rfl
 have xe:Xc.xe=fun _ _=>False:=by subst eX;rfl
 have xc:Xc.calm=true:=by subst eX;exact hcalm
 have xex:Xc.ex=s2.heap.objs.size::fp:=by subst eX;rfl
 have okc:=I4.ok
 have k3:∀b o,s2.heap.get? b=some o→s3.heap.get? b=some o:=fun b o e=>by subst e3;exact A5 _ e
 have Kg:s3.heap.objs.size=s2.heap.objs.size+1:=by subst e3;exact EX ..
 have k34:∀b o,s3.heap.get? b=some o→s4.heap.get? b=some o:=fun b o e=>by subst e4;exact pushCells_keeps _ _ b o (A5 _ e)
 have hDC:s2.heap.objs.size≠Xc.env.locals:=by rw [xL];exact Dw (by omega)
 have hDcell:∀x c,Xc.env.cells.lookup x=some c→c≠s2.heap.objs.size:=fun x c e=>(okc.exf _ (by rw [xex];exact Bf)).2 x c e
 have hDpin:∀p∈Xc.pn,p.1≠s2.heap.objs.size:=fun p hp=>by
  have hp':p∈X.pn++pins:=by subst eX;exact hp
  exact Dw (AH (I2.pin p hp').1)
 have hDfp:s2.heap.objs.size∉fp:=fun hm=>by
  obtain ⟨o,e⟩:=ob2 _ hm
  exact absurd (AH e) (Di _)
 have hDex:s2.heap.objs.size∈Xc.ex:=by rw [xex];exact Bf
 have hDfs:s2.heap.objs.size∉Xc.fs:=okc.exfs _ hDex
 have fpC:∀{po:List (Addr×Obj)} {H':Hp},(∀b∈fp,H' b=none)→(∀p∈po,p.1=s2.heap.objs.size)→∀b∈fp,E3 Xc po H' b:=fun {po H'} hn hp b hb=>by
  have hbx:b∈Xc.ex:=by rw [xex];exact Be _ hb
  refine ⟨hn b hb,(okc.exf b hbx).1,okc.exfs b hbx,.inl hbx,(okc.exf b hbx).2,fun p hpp=>?_⟩
  rcases qaP.mp hpp with z |z
  ·have hp':p∈X.pn++pins:=by subst eX;exact z
   exact (f2 b hb).2.2.2.2.2 p hp'
  ·rw [hp p z]
   intro e
   exact hDfp (e ▸ hb)
 have loop:∀sx,sx=s4→codeAny (model X.prog X.w) X.A (.compLoop (.ListComp elt [⟨tg,iter,ifs,0⟩] scope pos) 0 (.ref it) (.ref s2.heap.objs.size) Xc.env)
  (compPost (model X.prog X.w) X.A X.xe use QQ (.ref s2.heap.objs.size) s3.heap.objs.size) sx:=by
  rintro sx rfl
  refine Yu (P6 W Xc (BI cs σ) tn fp s2.heap.objs.size) ?_ n0
   ⟨0,[],H2,[],0,w0,I4,?_,fun b hb=>(f2 b hb).1,I2.hok.fresh (Au _),.nil,?_⟩
  ·rintro n s5 ⟨i,acc,H5,its,k,w5,I5,st5,fr5,hD5,rv5,ho5⟩
   have pin1:Inv Xc [(s2.heap.objs.size,{cls:=.type "list",data:=.seq its.toArray k})] (BI cs σ) H5 s5:=I5.pins_of fun p hp=>by
    rw [qaL] at hp
    subst hp
    exact ⟨ho5,hD5,hDC,hDfs,fun v z=>by cases z⟩
   have pone:∀p∈[((s2.heap.objs.size:Addr),({cls:=.type "list",data:=.seq its.toArray k}:Obj))],p.1=s2.heap.objs.size:=fun p hp=>by
    rw [qaL] at hp;subst hp;rfl
   rcases turn i n acc H5 w5 with ⟨stop,hlen,qn⟩ |⟨go,hlen,step⟩
   ·have z1:=T.done Xc xP xw xK xc i _ s5 (BI cs σ) H5 (fun _ _=>False) pin1 (fpC fr5 pone) st5 stop
    rw [xA] at z1
    refine wpAny_mono z1 (fun r s6 z1_=>?_) fun _ _ z=>False.elim z
    obtain ⟨hr,I6⟩:=z1_
    subst hr
    obtain ⟨m6,hn6,_⟩:=I6.loc
    obtain ⟨ho6,hD6,_⟩:=I6.pin _ (B5 _ Bf)
    rw [xL] at hn6
    have lt2:∀b,b<s2.heap.objs.size→b≠s3.heap.objs.size:=fun b hb=>Dw (Bc hb (by omega))
    refine AF s6 s3.heap.objs.size s2.heap.objs.size (Aj H5 s2.heap.objs.size (.lst acc)) m6 hn6 ?_ (BG I2.sz (by omega)) ?_ ?_ ?_ ?_ (qn _ hD6)
    ·rw [AB (Hb (by omega))]
     have:=I6.free
     rw [xL] at this
     exact this
    ·obtain ⟨m2,hn2,_⟩:=I2.loc
     exact Ne.symm (lt2 _ hn2.lt)
    ·intro x c hx
     obtain ⟨v,hv⟩:=I2.cell x c hx
     obtain ⟨o,ho,_⟩:=hv
     exact lt2 _ (AH ho)
    ·intro p hp
     exact lt2 _ (AH (I2.pin p hp).1)
    ·intro h' sb
     subst eX
     exact YA I2 f2 e3.symm rfl I6 hD6 hlen rv5 ho6 sb
   ·have z1:=T.item Xc xP xw xK xc i _ s5 (BI cs σ) H5 (fun _ _=>False) pin1 (fpC fr5 pone) st5 go
    rw [xA] at z1
    refine wpAny_mono z1 (fun r s6 z2_=>?_) fun _ _ z=>False.elim z
    obtain ⟨u,hr,h6⟩:=z2_
    subst hr
    refine wpAny_mono h6 (fun _ s7 z3_=>?_) fun _ _ z=>False.elim z
    obtain ⟨x,H7,I7,r7,y7,st7,fr7⟩:=z3_
    have I7':=I7.pinned (fp:=fp) (fpC fr7 pone) (T.obj _ _ st7)
    have z2:=pg _ s7 (BI cs σ) H7 x u _ I7' r7 (step x H7 y7)
    rw [xP,xw,xA,xe] at z2
    refine wpAny_mono z2 (fun _ s8 z4_=>?_) fun _ _ z=>False.elim z
    obtain ⟨σ8,H8,I8,sub8,q8⟩:=z4_
    have z3:=pt _ s8 σ8 H8 _ I8 q8
    rw [xP,xw,xA,xe] at z3
    refine wpAny_mono z3 (fun ok s9 z5_=>?_) fun _ _ z=>False.elim z
    obtain ⟨H9,I9,q9⟩:=z5_
    have back:∀{sy:Shared} {Hy:Hp},Inv Xc ([(s2.heap.objs.size,{cls:=.type "list",data:=.seq its.toArray k})]++Ij fp s7.heap) σ8 Hy sy→
     Inv Xc [] (BI cs σ) Hy sy∧tn (i+1) sy.heap∧(∀b∈fp,Hy b=none)∧Hy s2.heap.objs.size=none∧sy.heap.get? s2.heap.objs.size=some {cls:=.type "list",data:=.seq its.toArray k}:=fun {sy Hy} Iy=>by
     obtain ⟨ho,hD,_⟩:=Iy.pin _ (B5 _ (GU _ Bf))
     refine ⟨(Iy.pins_of fun p hp=>absurd hp (by simp)).weak (sub8.1) (fun j v z=>sub8.2 j v z),T.keep _ _ _ st7 fun b hb o e=>(Iy.pin (b,o) (B5 _ (B5 _ (JK hb e)))).1,fun b hb=>?_,hD,ho⟩
     obtain ⟨o,e,_⟩:=T.obj _ _ st7 b hb
     exact (Iy.pin (b,o) (B5 _ (B5 _ (JK hb e)))).2.1
    cases ok with
    |false=>
     simp only [Bl,if_false] at q9 ⊢
     obtain ⟨n',hn',w'⟩:=q9
     obtain ⟨a1,a2,a3,a4,a5⟩:=back I9
     exact ⟨n',hn',i+1,acc,H9,its,k,w',a1,a2,a3,a4,rv5,a5⟩
    |true=>
     simp only [if_true] at q9 ⊢
     have z4:=pe _ s9 σ8 H9 _ I9 q9
     rw [xP,xw,xA,xe] at z4
     refine wpAny_mono z4 (fun y s10 z6_=>?_) fun _ _ z=>False.elim z
     obtain ⟨yv,H10,I10,r10,n',hn',w'⟩:=z6_
     obtain ⟨a1,a2,a3,a4,a5⟩:=back I10
     have hlen':=rv5.length
     refine wpAny_list_append_plain ⟨k,a5⟩ (fun h' ⟨k',hl'⟩ sb=>?_) (by rw [Bs];omega)
     have tu:Inv Xc [] (BI cs σ) H10 {s10 with heap:=h'}:=a1.turned (t':=s10.toks) (it:=s2.heap.objs.size) (fun b o hb e=>(sb.2 b hb).trans e) a4 hDC (.inl hDex) hDcell (fun p hp=>by
      rcases qaP.mp hp with z |z
      ·exact hDpin p z
      ·exact absurd z (by simp))
     refine ⟨n',hn',i+1,acc++[yv],H10,its++[y],k',w',tu,T.keep _ _ _ a2 (fun b hb o e=>(sb.2 b (fun z=>hDfp (z ▸ hb))).trans e),a3,a4,rv5.append (.cons r10 .nil),?_⟩
     rw [hl']
     simp
  ·exact T.keep _ _ _ st2 fun b hb o e=>k34 b o (k3 b o e)
  ·refine k34 _ _ ?_
   subst e3
   exact BM _ rfl
 have AF:=loop s4 rfl
 have hst4:tn 0 s4.heap:=T.keep _ _ _ st2 fun b hb o e=>k34 b o (k3 b o e)
 rw [xE] at AF
 have:=codeAny_compStart_list AF (T.self X.A 0 s4 _ _ hst4 AF)
 exact this
theorem YC (hcalm:X.calm=true) (S:Iw X scope Nc cs) (hi:PI X tg iter wi)
 (hb:∀(C D:Addr) (cells:List (Str×Addr)) (fp:List Addr) (s₀:Shared) (H₀:Hp) (pins:List (Addr×Obj)),PG (Ci X Nc scope C D cells fp s₀ H₀ pins) tg g∧Iv (Ci X Nc scope C D cells fp s₀ H₀ pins) ifs tc∧PE (Ci X Nc scope C D cells fp s₀ H₀ pins) elt te)
 (hsf:∀x,foldedSetIterable iter X.env x=pure x:=by intro _;rfl):PE X (.ListComp elt [⟨tg,iter,ifs,0⟩] scope pos) (My cs wi g tc te):=by
 intro pins s σ H Q I h
 rw [eval_ListComp]
 exact YB (use:=none) hcalm S hi hb hsf I h fun s6 C D H7 m6 hn _ _ _ _ _ inv q=>⟨m6,hn,fun h' sb=>⟨.ref D,H7,inv h' sb,rfl,q⟩⟩
end
def noErr {α:Type}:Out α→Out α
 |.ok a h=>.ok a h
 |_=>.stuck
@[simp] theorem ZeU {α:Type} (a:α) (h:HD):noErr (.ok a h)=.ok a h:=rfl
theorem P7 {α β γ δ:Type} {K:PySem.W.Frag} {R:List Addr→Hp→α→β→Prop} {R':List Addr→Hp→γ→δ→Prop} {m:List Addr} {H:Hp} {E:XK} {Q:δ→Hp→Prop} {Q':β→Hp→Prop} {o:Out α} {k:α→HD→Out γ}
 (h:Post K R' m H E Q ((noErr o).bind k)) (f:∀a h1 v m1 H1,o=.ok a h1→m <+:m1→Kp H H1→HR K m1 h1 H1→R m1 H1 a v→Post K R' m1 H1 E Q (k a h1)→Q' v H1):Post K R m H E0 Q' o:=by
 cases o with
 |ok a h1=>exact fun v m1 H1 p kk hr r=>f a h1 v m1 H1 rfl p kk hr r (Post.ahead p kk h)
 |err C fs h1=>exact False.elim h
 |stuck=>exact False.elim h
def CD (cs:List (Option Nat)) (ρ:Af):Af:=cs.map fun o=>o.bind fun j=>(ρ[j]?).join
theorem join_some {α:Type} {l:List (Option α)} {j:Nat} {a:α}:(l[j]?).join=some a↔l[j]?=some (some a):=by
 cases h:l[j]? with
 |none=>simp
 |some o=>simp
theorem ER.comp {K:PySem.W.Frag} {m:List Addr} {H:Hp} {ρ:Af} {σ:L2.St} (cs:List (Option Nat)) (er:ER K m H ρ σ):ER K m H (CD cs ρ) (BI cs σ):=by
 refine ⟨by simp [CD,BI],fun i d e=>?_⟩
 unfold CD at e
 rw [CK] at e
 cases ec:cs[i]? with
 |none=>rw [ec] at e;cases e
 |some o=>
  rw [ec] at e
  cases o with
  |none=>cases e
  |some j=>
   simp only [H0,Option.bind_some,Option.some.injEq] at e
   obtain ⟨v,e1,r⟩:=er.2 j d (join_some.mp e)
   refine ⟨v,?_,r⟩
   unfold BI
   rw [CK,ec]
   simp only [H0,Option.bind_some,Option.some.injEq]
   exact join_some.mpr e1
theorem Sub.set {cs:List (Option Nat)} {σ:L2.St} {σ':L2.St} {i:Nat} {v:V} (h:cs[i]?=some none) (s:Sub (BI cs σ) σ'):Sub (BI cs σ) (σ'.set i (some v)):=by
 refine ⟨by rw [s.1];simp,fun j w e=>?_⟩
 have hj:i≠j:=by
  rintro rfl
  unfold BI at e
  rw [CK,h] at e
  cases e
 rw [BF hj]
 exact s.2 j w e
theorem Sub.refl (σ:L2.St):Sub σ σ:=⟨rfl,fun _ _ h=>h⟩
def J9 (K:PySem.W.Frag) (cs:List (Option Nat)) (gg:TG) (sg:MG):Prop:=
 ∀m H d v ρ σ0 ρ' Q,DV K m H d v→ER K m H ρ (BI cs σ0)→sg d ρ=some ρ'→(∀σ',Sub (BI cs σ0) σ'→ER K m H ρ' σ'→Q σ' H)→gg v (BI cs σ0) H Q
theorem YD {K:PySem.W.Frag} {cs:List (Option Nat)} {i:Nat} (h:cs[i]?=some none):J9 K cs (Ce i) (AK i):=fun m H d v ρ σ0 ρ' Q r er e q=>by
 simp only [AK,Option.some.injEq] at e
 subst e
 exact q _ ((Sub.refl _).set h) (er.set r)
abbrev Ka (X:Cx) (E:XK) (ifs:List Expr) (t:MT):Prop:=Iv X ifs (Io X.K E t)
def BS:MT:=fun _ h=>.ok true h
theorem YE {X:Cx} {E:XK}:Ka X E [] BS:=fun pins s σ H Q I z1_=>by obtain ⟨m,ρ,h,hr,er,p⟩:=z1_;exact (Yv pins s σ H Q I (p true m H (Ax _) (.refl _) hr rfl))
theorem YF {X:Cx} {E:XK} {c:Expr} {t:MT} (h:Ds X E c t):Ka X E [c] t:=Yw h
open Classical in
noncomputable def Dx (src:AY) (items:List D) (sg:MG) (t:MT) (f:ME) (ρc:Af):List D→HD→Out (List D)
 |[],h=>if BZ src items h then .ok [] h else .stuck
 |d::ds,h=>if BZ src items h then match sg d ρc with
   |none=>.stuck
   |some ρ1=>(noErr (t ρ1 h)).bind fun b h1=>if b=true then (noErr (f ρ1 h1)).bind fun y h2=>(Dx src items sg t f ρc ds h2).bind fun ys h3=>.ok (y::ys) h3 else Dx src items sg t f ρc ds h1
  else .stuck
noncomputable def Ba (cs:List (Option Nat)) (it:MI) (sg:MG) (t:MT) (f:ME):ME:=fun ρ h=>(it ρ h).bind fun x h1=>if x.1.length≤sizeLine then (Dx x.2 x.1 sg t f (CD cs ρ) x.1 h1).bind Bu else .stuck
theorem Out.bind_assoc {α β γ:Type} (o:Out α) (k:α→HD→Out β) (l:β→HD→Out γ):(o.bind k).bind l=o.bind fun a h=>(k a h).bind l:=by cases o<;>rfl
section
variable {X:Cx} {E:XK} {elt tg iter:Expr} {ifs:List Expr} {scope:Scope} {pos:Pos} {Nc:List Str} {cs:List (Option Nat)} {it:MI} {gg:TG} {sg:MG} {t:MT} {f:ME}
inductive P8 (K:PySem.W.Frag) (E:XK) (Q:VK) (src:AY) (items:List D) (sg:MG) (t:MT) (f:ME) (ρc:Af) (m1:List Addr) (H1:Hp) (i n:Nat) (acc:List V) (H2:Hp):Prop where
 |mk (e:n=items.length - i) (l:i≤items.length) (a:acc.length≤i) (m2:List Addr) (h2:HD) (dacc:List D) (p:m1 <+:m2) (k:Kp H1 H2) (hr:HR K m2 h2 H2) (da:DVs K m2 H2 dacc acc) (q:Post K (rD K) m2 H2 E Q ((Dx src items sg t f ρc (items.drop i) h2).bind fun ys h3=>Bu (dacc++ys) h3)):P8 K E Q src items sg t f ρc m1 H1 i n acc H2
theorem YG (hg:J9 X.K cs gg sg):∀σ H Q,tD X.K E (Ba cs it sg t f) σ H Q→My cs (tM X.K (Mv X.K) E it) gg (Io X.K E0 t) (tD X.K E0 f) σ H Q:=by
 refine ?_
 rintro σ H Q ⟨m,ρ,h,hr,er,p⟩
 refine ⟨m,ρ,h,hr,er,Post.bind p fun x h1 J m1 H1 _ p1 k1 hr1 r1 q1=>?_⟩
 obtain ⟨items,src⟩:=x
 dsimp only at q1
 split at q1
 ·rename_i hz
  have er1:ER X.K m1 H1 (CD cs ρ) (BI cs σ):=(er.keep p1 k1).comp cs
  refine ⟨P8 X.K E Q src items sg t f (CD cs ρ) m1 H1,
   ⟨items.length,rfl,DL _,Au _,m1,h1,[],Ax _,.refl _,hr1,.nil,by simpa using q1⟩,?_⟩
  rintro i n acc H2 ⟨rfl,hi',ha,m2,h2,dacc,p2,k2,hr2,da,q2⟩
  by_cases hlt:i<items.length
  ·rw [Js hlt] at q2
   unfold Dx at q2
   split at q2
   ·rename_i hs
    obtain ⟨hgo,hy⟩:=(r1 i m2 h2 H2 p2 k2 hr2 hs).1 hlt
    refine .inr ⟨hgo,by omega,fun y H3 hyl=>?_⟩
    obtain ⟨k3,hr3,d,ed,rd⟩:=hy y H3 hyl
    have ed':d=items[i]:=by rw [BK hlt] at ed;exact (Option.some.inj ed).symm
    subst ed'
    split at q2
    ·exact q2.elim
    ·rename_i ρ3 es
     have er3:ER X.K m2 H3 (CD cs ρ) (BI cs σ):=er1.keep p2 (k2.trans k3)
     refine hg m2 H3 _ y (CD cs ρ) σ ρ3 _ rd er3 es fun σ4 sub4 er4=>⟨sub4,m2,ρ3,h2,hr3,er4,?_⟩
     rw [Out.bind_assoc] at q2
     refine P7 (Post.ahead (Ax _) k3 q2) fun b h5 v m5 H5 _ p5 k5 hr5 r5 q5=>?_
     cases r5
     cases b with
     |false=>
      simp only [Bl,if_false] at q5 ⊢
      exact ⟨items.length - (i+1),by omega,rfl,hlt,by omega,m5,h5,dacc,p2.trans p5,(k2.trans k3).trans k5,hr5,DVs.keep p5 (k3.trans k5) da,q5⟩
     |true=>
      simp only [if_true] at q5 ⊢
      rw [Out.bind_assoc] at q5
      refine ⟨m5,ρ3,h5,hr5,er4.keep p5 k5,P7 q5 fun z h6 w m6 H6 _ p6 k6 hr6 r6 q6=>?_⟩
      refine ⟨items.length - (i+1),by omega,rfl,hlt,by simp;omega,m6,h6,dacc++[z],(p2.trans p5).trans p6,((k2.trans k3).trans k5).trans k6,hr6,(DVs.keep (p5.trans p6) ((k3.trans k5).trans k6) da).app (.cons r6 .nil),?_⟩
      rw [Out.bind_assoc] at q6
      simp only [Out.bind_ok] at q6
      simpa using q6
   ·exact q2.elim
  ·have he:i=items.length:=Nat.le_antisymm hi' (HY hlt)
   subst he
   rw [List.drop_length] at q2
   unfold Dx at q2
   split at q2
   ·rename_i hs
    simp only [Out.bind_ok,EW] at q2
    obtain ⟨z1,z2⟩:=G6 hr2 da q2
    exact .inl ⟨(r1 _ m2 h2 H2 p2 k2 hr2 hs).2 rfl,z1,z2⟩
   ·exact q2.elim
 ·exact q1.elim
theorem YH (hcalm:X.calm=true) (S:Iw X scope Nc cs) (hi:G8 X E tg iter it) (hg:J9 X.K cs gg sg)
 (hb:∀(C D:Addr) (cells:List (Str×Addr)) (fp:List Addr) (s₀:Shared) (H₀:Hp) (pins:List (Addr×Obj)),PG (Ci X Nc scope C D cells fp s₀ H₀ pins) tg gg∧Ka (Ci X Nc scope C D cells fp s₀ H₀ pins) E0 ifs t∧Ev (Ci X Nc scope C D cells fp s₀ H₀ pins) E0 elt f)
 (hsf:∀x,foldedSetIterable iter X.env x=pure x:=by intro _;rfl):Ev X E (.ListComp elt [⟨tg,iter,ifs,0⟩] scope pos) (Ba cs it sg t f):=by
 exact BH (YC (g:=gg) (tc:=Io X.K E0 t) (te:=tD X.K E0 f) hcalm S hi hb hsf) (YG hg)
end
section
variable {X:Cx} {E:XK}
def DQ:D→HD→Option String
 |.non,_=>some "NoneType"
 |.bl _,_=>some "bool"
 |.int _,_=>some "int"
 |.str _,_=>some "str"
 |.tup _,_=>some "tuple"
 |.loc l,h=>match h[l]? with
  |some (.lst _)=>some "list"
  |_=>none
 |_,_=>none
theorem YI {m:List Addr} {H:Hp} {h:HD} {d:D} {v:V} {t:String} (hr:HR X.K m h H) (r:DV X.K m H d v) (e:DQ d h=some t):Ej X.K H v (.type t):=by
 cases d with
 |non=>simp only [DQ,Option.some.injEq,DV] at e r;subst e r;exact .non
 |bl b=>simp only [DQ,Option.some.injEq,DV] at e r;subst e r;exact .bl _
 |int i=>simp only [DQ,Option.some.injEq,DV] at e r;subst e r;exact .int _
 |str x=>simp only [DQ,Option.some.injEq,DV] at e r;subst e r;exact .str _
 |tup ds=>simp only [DQ,Option.some.injEq,DV] at e r;subst e;obtain ⟨a,vs,rfl,ha,_⟩:=r;exact .tup (tq ha)
 |loc l=>
  simp only [DV] at r
  obtain ⟨a,rfl,ha⟩:=r
  simp only [DQ] at e
  split at e
  ·rename_i ds el
   cases e
   obtain ⟨vs,hv,_⟩:=hr.cells l _ a el ha
   exact .lst hv
  ·cases e
 |_=>simp [DQ] at e
def subL:List (String×String×Bool):=[("NoneType","int",false),("bool","int",true),("int","int",true),("str","int",false),("tuple","int",false),("list","int",false),("NoneType","bool",false),("bool","bool",true),("int","bool",false),("str","bool",false),("tuple","bool",false),("list","bool",false),("NoneType","tuple",false),("bool","tuple",false),("int","tuple",false),("str","tuple",false),("tuple","tuple",true),("list","tuple",false),("NoneType","str",false),("bool","str",false),("int","str",false),("str","str",true),("tuple","str",false),("list","str",false),("NoneType","list",false),("bool","list",false),("int","list",false),("str","list",false),("tuple","list",false),("list","list",true),("dict","int",false),("dict","bool",false),("dict","tuple",false),("dict","str",false),("dict","list",false)]
def Kb (t c:String):Option Bool:=(subL.find? fun p=>p.1==t&&p.2.1==c).map fun p=>p.2.2
theorem YJ {K:PySem.W.Frag}:∀p∈subL,PySem.W.kitOne K (.type p.1) (.type p.2.1)=some p.2.2:=by
 unfold subL
 simp only [List.forall_mem_cons]
 exact ⟨rfl,rfl,rfl,rfl,rfl,rfl,rfl,rfl,rfl,rfl,rfl,rfl,rfl,rfl,rfl,rfl,rfl,rfl,rfl,rfl,rfl,rfl,rfl,rfl,rfl,rfl,rfl,rfl,rfl,rfl,rfl,rfl,rfl,rfl,rfl,fun _ h=>nomatch h⟩
theorem P9 {K:PySem.W.Frag} {t c:String} {b:Bool} (h:Kb t c=some b):PySem.W.kitOne K (.type t) (.type c)=some b:=by
 unfold Kb at h
 rw [qaW] at h
 obtain ⟨p,hp,rfl⟩:=h
 have e:=List.find?_some hp
 rw [BX,beq_iff_eq,beq_iff_eq] at e
 rw [←e.1,←e.2]
 exact YJ p (List.mem_of_find?_eq_some hp)
def BA:D→D→HD→Out D:=fun x y h=>match y,DQ x h with
 |.ty T,some t=>match Kb t T with
  |some b=>.ok (.bl b) h
  |none=>.stuck
 |_,_=>.stuck
theorem YK {x:Str} {T:String} {pos:Pos} (hg:Gl X x) (hm:X.mg x=none) (hv:bootBuiltins x=some (.type T)) (hn:x≠"__name__":=by decide) (hd:(x==("__debug__":Str))=false:=by decide):Ev X E (.Name x pos) (mC (.ty T)):=
 FW (U7 (v:=.ty T) hg hm hv rfl hn hd) fun _ _=>by simp [DV]
theorem YL {h h2 h':Heap} {it:Addr} (k:∀b o,h.get? b=some o→h2.get? b=some o) (hit:h.objs.size≤it) (hk:∀b o,b∉[it]→h2.get? b=some o→h'.get? b=some o):∀b o,h.get? b=some o→h'.get? b=some o:=fun b o e=>
 hk b o (by rw [qaL];exact Dw (Bc (AH e) hit)) (k b o e)
def MC:D→Option Int
 |.int i=>some i
 |_=>none
def Qa:D→HD→Out D:=fun x h=>match Bj x h with
 |some ds=>match AN (ds.map MC) with
  |some ns=>.ok (.int ns.sum) h
  |none=>.stuck
 |none=>.stuck
theorem YM (hc:X.calm=true):Dp X (.builtin "all") (fun xs H Q=>∃(p:Addr) (bs:List Bool),xs=[.ref p]∧SqL X.K H p (bs.map V.bl)∧Q (.bl (bs.all id)) H):=by
 intro pins s σ H xs us Q I r h
 obtain ⟨p,bs,rfl,hs,q⟩:=h
 obtain ⟨u,rfl,rx⟩:=E4 r
 cases rx
 have hh:X.A.in1.handled=none:=I.ok.hd hc
 obtain ⟨its,rv,pl,hz⟩:=I.list hs
 have hl:=rv.length
 rw [Bt] at hl
 have hlt:p<s.heap.objs.size:=by obtain ⟨_,e,_⟩:=pl.isList;exact AH e
 have item:∀(i:Nat) (v:Value),its.toArray[i]?=some v→v=.bool (bs.getD i true):=fun i v e=>by
  have e':its[i]?=some v:=by simpa using e
  have hi:i<its.length:=(qa1.mp e').1
  have hn:(bs.map V.bl)[i]?=some (V.bl (bs.getD i true)):=by
   rw [CK,BK (by omega)]
   simp [HV,BK (show i<bs.length by omega)]
  obtain ⟨u,h1,h2⟩:=rv.get hn
  rw [e'] at h1
  cases h1
  exact h2
 refine call_all_walk (wpAny_pyIter_list pl.isList ?_)
 refine ⟨s.heap.objs.size,[s.heap.objs.size,p],[s.heap.objs.size],its.toArray.size,_,_,fun i=>bs.getD i true,rfl,Walks.list (A:=X.A.in1) hh _ p (Dw hlt) its.toArray,⟨⟨_,BM _ rfl,rfl,rfl⟩,pl.isList.push _⟩,fun i v s' Q' E' e hQ=>?_,fun h' tk hk=>?_⟩
 ·rw [item i v e]
  exact wpAny_truthy_bool hQ
 ·have e:(List.range its.toArray.size).all (fun i=>bs.getD i true)=bs.all id:=by
   rw [Bs,←hl]
   apply qaZ.mpr
   simp only [qaI,qcB,id]
   constructor
   ·intro h b hb
    obtain ⟨i,hi,rfl⟩:=HW hb
    have:=h i hi
    simpa [HV,BK hi] using this
   ·intro h i hi
    have:=h bs[i] (HZ hi)
    simpa [HV,BK hi] using this
  rw [e]
  exact ⟨.bl _,H,I.kept (YL (fun b o e=>A5 _ e) (Au _) hk),rfl,q⟩
def Hc:D→Option Bool
 |.bl b=>some b
 |_=>none
def Dy:D→HD→Out D:=fun x h=>match x with
 |.loc l=>match h[l]? with
  |some (.lst ds)=>match AN (ds.map Hc) with
   |some bs=>.ok (.bl (bs.all id)) h
   |none=>.stuck
  |_=>.stuck
 |_=>.stuck
theorem Qb {m:List Addr} {H:Hp}:∀{ds:List D} {vs:List V} {bs:List Bool},DVs X.K m H ds vs→AN (ds.map Hc)=some bs→vs=bs.map V.bl
 |[],vs,ns,r,e=>by
  simp only [DVs] at r
  simp [AN] at e
  subst r e
  rfl
 |d::ds,vs,ns,r,e=>by
  simp only [DVs] at r
  obtain ⟨v,w,rfl,rv,rw'⟩:=r
  rw [Bx] at e
  cases d with
  |bl i=>
   simp only [Hc,AN,qaW] at e
   obtain ⟨ns',e1,rfl⟩:=e
   simp only [DV] at rv
   subst rv
   rw [Qb rw' e1]
   rfl
  |_=>simp [Hc,AN] at e
theorem YN (hc:X.calm=true):Dj X (.builtin "all") (Ak Dy):=by
 refine ⟨_,YM hc,fun m H h E ds vs Q hr r q=>F7 r q fun d v ev rv q=>?_⟩
 unfold Dy at q
 split at q
 ·rename_i l
  split at q
  ·rename_i xs el
   split at q
   ·rename_i bs eb
    simp only [DV] at rv
    obtain ⟨a,rfl,ha⟩:=rv
    obtain ⟨ws,hv,dv⟩:=hr.cells _ _ a el ha
    have:=Qb dv eb
    subst this
    exact ⟨a,bs,ev,SqL.of hv,AI hr q (by simp [DV])⟩
   ·exact q.elim
  ·exact q.elim
 ·exact q.elim
def Hd:D→D→HD→Out D:=fun x y h=>match x with
 |.loc l=>match h[l]? with
  |some (.lst ds)=>if ds.length<sizeLine then .ok .non (h.set l (.lst (ds++[y]))) else .stuck
  |_=>.stuck
 |_=>.stuck
def B0:D→HD→Out D:=fun x h=>match x with
 |.loc l=>match h[l]? with
  |some (.lst _)=>.ok x h
  |_=>.stuck
 |_=>.stuck
def Eo (f g:ME):ME:=fun ρ h=>((f ρ h).bind B0).bind fun x h1=>(g ρ h1).bind fun y h2=>Hd x y h2
theorem YO {o e:Expr} {f g:ME} {apos cpos:Pos} (ho:Ev X E o f) (he:Ev X E e g)
 (hbase:attributeBase o "append" X.env (eval o X.env)=eval o X.env:=by rfl)
 (hfew:((backTo cpos (starEach [e] X.env)).all (fun x=>!x.1)&&(backToKw cpos (keywordEach [] X.env)).all (fun x=>x.1.isSome)
  &&decide ([e].length+([]:List Keyword).length+(if ([]:List Keyword).isEmpty then 0 else 1)<30))=true:=by rfl)
 (hline:(apos.endLine==cpos.line)=true:=by rfl) (hs:starEach [e] X.env=(false,eval e X.env)::starEach [] X.env:=by rfl) (hplain:(backTo cpos (starEach [] X.env)).any (·.1)=false:=by rfl):
 Ev X E (.Call (.Attribute o "append" apos) [e] [] cpos) (Eo f g):=
 BH (Xf PySem.F.plainAttrs_list PySem.F.slot_list_append PySem.F.type_list_append Xj ho (G4 he Ir hs) hbase hfew hline hs hplain) fun σ H Q z1_=>by
  obtain ⟨m,ρ,h,hr,er,p⟩:=z1_
  refine ⟨m,ρ,h,hr,er,?_⟩
  unfold Eo at p
  rw [Out.bind_assoc] at p
  refine Post.bind p fun x h1 v m1 H1 eo p1 k1 hr1 r1 q1=>?_
  clear eo
  unfold B0 at q1
  split at q1
  ·rename_i l
   split at q1
   ·rename_i ds el
    simp only [Out.bind_ok] at q1
    have r1':=r1
    simp only [rD,DV] at r1'
    obtain ⟨a,rfl,ha⟩:=r1'
    obtain ⟨ws,hv,dv⟩:=hr1.cells l _ a el ha
    refine ⟨.inl ⟨rfl,ws,SqL.of hv⟩,m1,ρ,h1,hr1,er.keep p1 k1,?_⟩
    have q2:Post X.K (rD X.K) m1 H1 E Q ((Aa g Ac ρ h1).bind fun ys h2=>match ys with
     |[y]=>Hd (.loc l) y h2
     |_=>.stuck):=by
     unfold Aa Ac
     rw [Out.bind_assoc]
     exact q1
    refine Post.bind q2 fun ys h2 vs m2 H2 eo p2 k2 hr2 r2 q3=>?_
    clear eo
    split at q3
    ·rename_i y
     simp only [FV,DVs] at r2
     obtain ⟨yv,w,rfl,ry,rfl⟩:=r2
     unfold Hd at q3
     simp only at q3
     split at q3
     ·rename_i ds2 el2
      split at q3
      ·rename_i hz
       have ha2:=JU p2 ha
       obtain ⟨ws2,hv2,dv2⟩:=hr2.cells l _ a el2 ha2
       refine ⟨a,ws2,yv,rfl,rfl,hv2,by rw [←dv2.len];exact hz,?_⟩
       refine q3 .non m2 _ (Ax _) (.set hv2 rfl) (hr2.setCell ha2 hv2 rfl ⟨_,Cy,?_⟩) (by simp [rD,DV])
       exact (dv2.app (.cons ry .nil)).keep (Ax _) (.set hv2 rfl)
      ·exact q3.elim
     ·exact q3.elim
    ·exact q3.elim
   ·exact q1.elim
  ·exact q1.elim
def He:D→D→D→HD→Out (Fl×Af)→Out (Fl×Af):=fun o i v h k=>match o,i with
 |.loc l,.int n=>match h[l]? with
  |some (.lst ds)=>match CU ds.length n with
   |some j=>match k with
    |.ok a _=>.ok a (h.set l (.lst (ds.set j v)))
    |_=>.stuck
   |none=>.stuck
  |_=>.stuck
 |_,_=>.stuck
def Kc (fo fi fv:ME):MS:=fun ρ h=>(fv ρ h).bind fun v h1=>(fo ρ h1).bind fun o h2=>(fi ρ h2).bind fun i h3=>He o i v h3 (.ok (.nx,ρ) h3)
theorem YQ {o i e:Expr} {fo fi fv:ME} {pos pos':Pos} (ho:Ev X E o fo) (hi:Ev X E i fi) (he:Ev X E e fv)
 (ha:∀v,assign (.Subscript o i pos') X.env v=(do
  let ov ←holding [v] (eval o X.env)
  let iv ←holding [v,ov] (eval i X.env)
  standAt pos'
  holding [v,ov,iv] (setItem ov iv v)
  release [v,ov,iv] []):=by intro _;rfl)
 (hs:swapsWithSole [.Subscript o i pos'] e pos.line X.env=pure false:=by rfl) (hw:swappedStores [.Subscript o i pos'] e X.env=pure none:=by rfl)
 (h1:(assignEach [.Subscript o i pos'] X.env).map (·.2)=[assign (.Subscript o i pos') X.env]:=by rfl):Ex X E (.Assign [.Subscript o i pos'] e pos) (Kc fo fi fv):=
 Ek (OV he (VC ho hi W0 ha) hs hw h1) fun Dn σ H ⟨m,ρ,h,hr,er,p⟩=>⟨m,ρ,h,hr,er,PostS.bind p fun v h1 vv m1 H1 eo1 p1 k1 hr1 r1 q1=>by
  refine ⟨m1,ρ,h1,hr1,er.keep p1 k1,PostS.bind q1 fun ov h2 vo m2 H2 eo2 p2 k2 hr2 r2 q2=>?_⟩
  refine ⟨m2,ρ,h2,hr2,(er.keep p1 k1).keep p2 k2,PostS.bind q2 fun iv h3 vi m3 H3 eo3 p3 k3 hr3 r3 q3=>?_⟩
  clear eo1 eo2 eo3
  unfold He at q3
  split at q3
  ·rename_i l n
   split at q3
   ·rename_i ds el
    split at q3
    ·rename_i j ej
     have ro:=DV.keep p3 k3 r2
     simp only [DV] at ro
     obtain ⟨a,rfl,ha⟩:=ro
     have ri:=r3
     simp only [rD,DV] at ri
     subst ri
     obtain ⟨ws,hv,dv⟩:=hr3.cells l _ a el ha
     refine ⟨a,ws,n,j,rfl,rfl,hv,by rw [←dv.len];exact ej,?_⟩
     have rvv:=DV.keep p3 k3 (DV.keep p2 k2 r1)
     have hr4:HR X.K m3 (h3.set l (.lst (ds.set j v))) (Aj H3 a (.lst (ws.set j vv))):=hr3.setCell ha hv rfl ⟨_,Cy,(dv.set j rvv).keep (Ax _) (.set hv rfl)⟩
     exact q3 m3 _ (Ax _) (.set hv rfl) hr4 σ ((((er.keep p1 k1).keep p2 k2).keep p3 k3).keep (Ax _) (.set hv rfl))
    ·exact q3.elim
   ·exact q3.elim
  ·exact q3.elim⟩
end
def Ay (n:Nat) (g:MS):List D→HD→Out D:=fun ds h=>(g (ds.map some++List.replicate (n - ds.length) none) h).bind fun x h1=>match x with
 |(.nx,_)=>.ok .non h1
 |(.rt d,_)=>.ok d h1
 |_=>.stuck
open AutoSeq1 (wpAny_loadPart')
section
variable {prog:Program} {w:World} {A:Around} {E:Value→Shared→Prop} {s:Shared}
end
section
variable {prog:Program} {w:World} {A:Around} {E:Value→Shared→Prop} {s:Shared}
end
def Ite (K:PySem.W.Frag) (t:Addr) (xs:List V):It:=⟨fun i H=>i<xs.length∧SqT K H t xs,fun i H x H'=>∃p v,H p=none∧x=.ref p∧xs[i]?=some v∧H'=Aj H p (.tup [.int i,v]),fun i H=>i=xs.length∧SqT K H t xs⟩
section
variable {X:Cx} {E:XK}
def MD (ds:List D):List D:=ds.mapIdx fun i d=>.tup [.int (i:Nat),d]
def Qc:List D→HD→Out (List D×AY):=fun ds h=>match ds with
 |[.tup xs]=>.ok (MD xs,[]) h
 |_=>.stuck
def Qd (fa:MA):MI:=fun ρ h=>(fa ρ h).bind Qc
end
end LS
namespace LS
open PySem PySem.Spec PyProof.Rows L2
section
variable {prog:Program} {w:World} {A:Around} {E:Value→Shared→Prop} {s:Shared}
end
section
variable {X:Cx} {E:XK} {e:Expr} {f:ME}
def MF:D→HD→Out D:=fun x h=>match x with
 |.tup [a,b]=>.ok (.tup [b,a]) h
 |_=>.stuck
def Qe (f:ME):ME:=fun ρ h=>(f ρ h).bind MF
end
structure CSc (X:Cx) (scope:Scope) (Nc:List Str) (cs:List (Option Nat)):Prop where
 kind:scope.kind=.function
 loc:(scope.names.all fun y=>y.2 != .local||scope.names.lookup y.1==some .local)=true
 free:(scope.names.all fun y=>y.2 != .free||(X.env.kindOf y.1==some .cell||X.env.kindOf y.1==some .free))=true
 nd:(scope.names.map (·.1)).Nodup
 len:cs.length=Nc.length
 out:((Nc.zip cs).all fun p=>match p.2 with
  |none=>true
  |some j=>X.N[j]?==some p.1&&scope.names.lookup p.1==some .free)=true
theorem CSc.ok {X:Cx} {scope:Scope} {Nc:List Str} {cs:List (Option Nat)} (S:CSc X scope Nc cs):Iw X scope Nc cs:=by
 refine ⟨S.kind,fun y hy e=>?_,fun y hy e=>?_,S.nd,S.len,fun i x j h1 h2=>?_⟩
 ·have:=qaI.mp S.loc y hy
  rw [e] at this
  simpa using this
 ·have:=qaI.mp S.free y hy
  rw [e] at this
  simpa using this
 ·have hz:(Nc.zip cs)[i]?=some (x,some j):=by
   rw [List.getElem?_zip_eq_some]
   exact ⟨h1,h2⟩
  have:=qaI.mp S.out (x,some j) (EV hz)
  simpa using this
structure Dn (K:PySem.W.Frag) (mg:Str→Option Value) (x:Str) (ps:List Str) (st:Stmt) (f:Addr) (fd:FuncData):Prop where
 fn:Fun K x x st f fd
 bd:Binds K fd ps []
 mg:mg x=some (.ref f)
section
variable {X:Cx} {E:XK}
theorem YR {a:Expr} {f:ME} {pos:Pos} (ha:Ev X E a f):Ev X E (.UnaryOp .USub a pos) (fun ρ h=>(f ρ h).bind fun x h1=>match x with
 |.int i=>.ok (.int (-i)) h1
 |_=>.stuck):=
 BH (OX O0 ha) fun σ H Q z1_=>by obtain ⟨m,ρ,h,hr,er,p⟩:=z1_;exact (⟨m,ρ,h,hr,er,Post.bind p fun x h1 v m1 H1 eo p1 k1 hr1 r1 q1=>by
  clear eo
  split at q1
  ·simp only [rD,DV] at r1
   subst r1
   exact ⟨_,rfl,AI hr1 q1 (by simp [DV])⟩
  ·exact q1.elim⟩)
def Ga (f:ME):ME:=fun ρ h=>(f ρ h).bind fun x h1=>match x with
    |.int i=>.ok (.int (-i)) h1
    |_=>.stuck
theorem YS {i j:Nat} {x y:Str} {px py tp:Pos} {kt:Nat} (hc:X.calm=true) (h1:PG X (.Name x px) (Ce i)) (h2:PG X (.Name y py) (Ce j)):PG X (.Tuple [.Name x px,.Name y py] kt tp) (Fu X.K 2 (CT (Ce i) (CT (Ce j) Ft))):=
 OT hc (Ie h1 (Ie h2 OR))
end
def CMl (i j:Int):Prop:=CMul i j∨(Builtin.Int.intBits i≤16777216∧Builtin.Int.intBits j≤16777216)
instance (i j:Int):Decidable (CMl i j):=by unfold CMl;infer_instance
theorem CMl.ok {i j:Int} (h:CMl i j):IntMulOk i j:=by
 rcases h with h |⟨h1,h2⟩
 ·exact h.ok
 ·unfold IntMulOk
  intro z
  simp only [BX,decide_eq_true_eq] at z
  have:=z.2
  unfold Builtin.Int.intTooBig at this
  simp only [decide_eq_true_eq] at this
  have hb:(bitsLine:Int)=134217728:=by first |rfl |decide
  omega
variable {X:Cx}
theorem op_mul':OpR X (binaryOp .Mult) (rI CMl fun i j=>.int (i*j)):=L4 fun _ _ _ _ _ _ _ hc q=>mul_int q hc.ok
def Dz:D→D→HD→Out D
 |.int i,.int j,h=>if CMl i j then .ok (.int (i*j)) h else .stuck
 |.loc l,.int k,h=>match h[l]? with
  |some (.lst xs)=>if -(2^63)≤k∧k<2^63 then Bu (List.replicate k.toNat xs).flatten h else .stuck
  |_=>.stuck
 |_,_,_=>.stuck
theorem YT:By X (binaryOp .Mult) Dz:=by
 refine ⟨_,op_mul'.or Xo,fun m H h E x y v u Q hr rx ry q=>?_⟩
 unfold Dz at q
 split at q
 ·simp only [DV] at rx ry
  subst rx ry
  split at q
  ·rename_i hc
   exact .inl ⟨_,_,rfl,rfl,hc,AI hr q (by simp [DV])⟩
  ·exact q.elim
 ·simp only [DV] at rx ry
  obtain ⟨a,rfl,ha⟩:=rx
  subst ry
  split at q
  ·rename_i k _ xs e
   split at q
   ·rename_i hk
    obtain ⟨vs,h1,d1⟩:=hr.cells _ _ a e ha
    obtain ⟨z,q'⟩:=G6 hr (d1.rep k.toNat) q
    refine .inr ⟨a,k,vs,rfl,rfl,h1,hk.1,hk.2,?_,q'⟩
    rw [JS] at z
    rw [Nat.mul_comm];exact z
   ·exact q.elim
  ·exact q.elim
 ·exact q.elim
end LS
namespace Att
open PySem PySem.W PySem.Calls PyProof.Rows
theorem YU {ns:List Int} (h:WData.layable (.list (ns.map WData.int))=true):∀n∈ns,Builtin.Int.intBits n≤2^20:=by
 have hw:WData.weight (.list (ns.map WData.int))≤2^20:=(layableW_iff.mp h).2.2
 have key:∀(ns:List Int) (b:Nat),WData.weightAll (ns.map WData.int)≤b→∀n∈ns,Builtin.Int.intBits n≤b:=by
  intro ns
  induction ns with
  |nil=>intro b _ n hn;cases hn
  |cons m r ih=>
   intro b hb n hn
   have e:WData.weightAll ((m::r).map WData.int)=Builtin.Int.intBits m+1+WData.weightAll (r.map WData.int):=by
    simp only [Bx,WData.weightAll,WData.weight]
    rfl
   rw [e] at hb
   rcases qa9.mp hn with z |z
   ·subst z;omega
   ·exact ih b (by omega) n z
 exact key ns _ (by simpa only [WData.weight] using hw)
theorem attach_bits {l:OpenLaw} {n:Nat} {q:Program} {loose:List Str} {XP:(Str→Option Value)→Heap→Prop} {YP:World→Heap→Prop} {d:DefRec}
 (hn:l.most=some n) (hdf:d.params.defaults=[])
 (call:∀(w:World) (s₀ s₁:Shared) (mg mb:Str→Option Value) (fa:Addr) (o:Obj) (pm cd doc:Value) (a:Addr) (vs:List Value) (ns:List Int),(∀n∈ns,Builtin.Int.intBits n≤2^20)→
  Ground q loose [] XP w s₀ mg mb s₁.heap→YP w s₁.heap→
  s₁.heap.get? fa=some o→o.data=.func (docDef d.name d.params d.body d.scope pm cd doc)→s₁.heap.CodeRec cd d.name→mg d.name=some (.ref fa)→
  s₁.heap.get? a=some {cls:=.type "list",data:=.seq vs.toArray}→IntsAre vs ns→ns.length≤n→s₁.gens=#[]→
  codeAny (model l.prog w) callerA (.call (.ref fa) ⟨[.ref a],[]⟩) (fun r s'=>r=.ok (.ret (.bool true))∧OldK s₁.heap s'.heap∧s'.os=s₁.os∧AllBare s'.gens) s₁):
 WalkO q loose XP YP l.row.toRowW d [] (fun f vs=>PySem.call f vs):=by
 intro w s₀ s₁ mg mb G Y fa o pm cd doc dV kV ho hd hcd hD hmg hg args vals as hpre hlay hrd hwl hlo
 obtain rfl:dV=.none:=Dflts.none hD hdf
 obtain rfl:kV=.none:=Dflts.noKw hD
 obtain ⟨a,vs,ns,rfl,rfl,hobj,hints,hlen⟩:=Xq hn hpre hwl
 have hb:=YU (layableW_arg hlay _ Bf)
 refine enter_call (codeAny_mono (call w s₀ s₁ mg mb fa o pm cd doc a vs ns hb G Y ho (fd_plain hd) hcd hmg hobj hints hlen hg) fun r s' hq=>?_)
 obtain ⟨rfl,h2,h3,h4⟩:=hq
 exact ⟨.inl ⟨.bool true,.bool true,[],rfl,fun _=>rfl,.bool true,Xr l _,fun _=>⟨List.Pairwise.nil,fun _ hm=>(nomatch hm)⟩⟩,h2,h3,h4⟩
end Att
namespace LS
open PySem PySem.Spec PyProof.Rows L2
def Wp {α:Type} (o:Out α) (Q:α→HD→Prop):Prop:=match o with
 |.ok a h=>Q a h
 |_=>False
section
variable {α β:Type} {o:Out α} {Q Q':α→HD→Prop}
@[simp] theorem AR (a:α) (h:HD):Wp (.ok a h) Q=Q a h:=rfl
@[simp] theorem ZeV:Wp .stuck Q=False:=rfl
theorem B1 {o':Out α} (e:o=o') (h:Wp o' Q):Wp o Q:=e ▸ h
theorem Ao {k:α→HD→Out β} {Q:β→HD→Prop}:Wp (o.bind k) Q=Wp o fun a h=>Wp (k a h) Q:=by cases o<;>rfl
theorem Wp.mono (h:Wp o Q) (f:∀a h,Q a h→Q' a h):Wp o Q':=by
 cases o with
 |ok a h'=>exact f _ _ h
 |_=>exact h.elim
theorem Wp.ex (h:Wp o Q):∃a h',o=.ok a h'∧Q a h':=by
 cases o with
 |ok a h'=>exact ⟨a,h',rfl,h⟩
 |_=>exact h.elim
end
def Sm (h h':HD):Prop:=∀(l:Nat) (c:Cell),h[l]?=some c→h'[l]?=some c
theorem Sm.refl (h:HD):Sm h h:=fun _ _ e=>e
theorem Sm.trans {h h1 h2:HD} (a:Sm h h1) (b:Sm h1 h2):Sm h h2:=fun l c e=>b l c (a l c e)
theorem Sm.app (h t:HD):Sm h (h++t):=fun l c e=>by
 rw [DJ (qa1.mp e).1];exact e
def Pu {α:Type} (o:Out α) (h:HD) (a:α):Prop:=Wp o fun x h'=>x=a∧Sm h h'
section
variable {α β:Type} {o:Out α} {h:HD} {a:α}
theorem Pu.wp {Q:α→HD→Prop} (p:Pu o h a) (k:∀h',Sm h h'→Q a h'):Wp o Q:=Wp.mono p fun x h' z1_=>by obtain ⟨e,s⟩:=z1_;subst e;exact k h' s
theorem Pu.ok:Pu (.ok a h) h a:=⟨rfl,.refl _⟩
theorem Pu.bind {k:α→HD→Out β} {b:β} (p:Pu o h a) (q:∀h',Sm h h'→Pu (k a h') h' b):Pu (o.bind k) h b:=by
 unfold Pu
 rw [Ao]
 exact p.wp fun h' s=>Wp.mono (q h' s) fun x h2 z2_=>by obtain ⟨e,s2⟩:=z2_;exact (⟨e,s.trans s2⟩)
theorem Pu.noErr (p:Pu o h a):Pu (noErr o) h a:=by
 obtain ⟨x,h',e,q⟩:=Wp.ex p
 rw [e];exact q
theorem Pu.eq {b:α} (p:Pu o h a) (e:a=b):Pu o h b:=e ▸ p
end
def Qf (i j:Nat) (ρ:Af) (ds:List D) (h:HD):Out (Fl×Af):=match ds with
 |[x,y]=>.ok (.nx,(ρ.set i (some x)).set j (some y)) h
 |_=>.stuck
def Kd (o:Option Af) (h:HD):Out (Fl×Af):=match o with
 |some ρ1=>.ok (.nx,ρ1) h
 |none=>.stuck
def Ke (g:HD→Out D) (x:D) (h:HD):Out D:=match x with
 |.bl true=>g h
 |.bl false=>.ok (.bl false) h
 |_=>.stuck
def MH (g:HD→Out D) (x:D) (h:HD):Out D:=match x with
 |.bl true=>.ok (.bl true) h
 |.bl false=>g h
 |_=>.stuck
def Qg (x:D) (h:HD):Out D:=match x with
 |.bl b=>.ok (.bl (!b)) h
 |_=>.stuck
def Qh (x:D) (h:HD):Out D:=match x with
 |.int i=>.ok (.int (-i)) h
 |_=>.stuck
@[simp] theorem ZeW {i j:Nat} {ρ:Af} {x y:D} {h:HD} {Q:Fl×Af→HD→Prop}:Wp (Qf i j ρ [x,y] h) Q=Q (.nx,(ρ.set i (some x)).set j (some y)) h:=rfl
@[simp] theorem ZeX {ρ:Af} {h:HD} {Q:Fl×Af→HD→Prop}:Wp (Kd (some ρ) h) Q=Q (.nx,ρ) h:=rfl
@[simp] theorem ZeY {g:HD→Out D} {h:HD}:Ke g (.bl true) h=g h:=rfl
@[simp] theorem ZeZ {g:HD→Out D} {h:HD}:Ke g (.bl false) h=.ok (.bl false) h:=rfl
@[simp] theorem Ze0 {g:HD→Out D} {h:HD}:MH g (.bl true) h=.ok (.bl true) h:=rfl
@[simp] theorem Ze1 {g:HD→Out D} {h:HD}:MH g (.bl false) h=g h:=rfl
@[simp] theorem Ze2 {b:Bool} {h:HD}:Qg (.bl b) h=.ok (.bl (!b)) h:=rfl
@[simp] theorem Ze3 {i:Int} {h:HD}:Qh (.int i) h=.ok (.int (-i)) h:=rfl
def MK (g:MS) (Q:Fl×Af→HD→Prop):Fl×Af→HD→Prop
 |(.nx,ρ),h=>Wp (g ρ h) Q
 |y,h=>Q y h
def FB (Q:D→HD→Prop):Fl×Af→HD→Prop
 |(.nx,_),h=>Q .non h
 |(.rt d,_),h=>Q d h
 |_,_=>False
section
variable {ρ:Af} {h:HD} {Q:Fl×Af→HD→Prop} {QB:D→HD→Prop} {g g1 g2:MS} {f:ME} {t:MT}
@[simp] theorem Aq:MK g Q (.nx,ρ) h=Wp (g ρ h) Q:=rfl
@[simp] theorem Ze4 {d:D}:MK g Q (.rt d,ρ) h=Q (.rt d,ρ) h:=rfl
@[simp] theorem Ze5:FB QB (.nx,ρ) h=QB .non h:=rfl
@[simp] theorem Ze6 {d:D}:FB QB (.rt d,ρ) h=QB d h:=rfl
@[simp] theorem AG:Wp (Ag g1 g2 ρ h) Q=Wp (g1 ρ h) (MK g2 Q):=by
  unfold Ag
  rw [Ao]
  congr 1
  funext x h'
  obtain ⟨fl,ρ1⟩:=x
  cases fl<;>rfl
theorem Bb {n:Nat} {ds:List D}:Wp (Ay n g ds h) QB=Wp (g (ds.map some++List.replicate (n - ds.length) none) h) (FB QB):=by
 unfold Ay
 rw [Ao]
 congr 1
 funext x h'
 obtain ⟨fl,ρ1⟩:=x
 cases fl<;>rfl
@[simp] theorem Ze7:Wp (AD ρ h) Q=Q (.nx,ρ) h:=rfl
@[simp] theorem ML:Wp (Bn f ρ h) Q=Wp (f ρ h) fun _ h1=>Q (.nx,ρ) h1:=by unfold Bn;rw [Ao];rfl
@[simp] theorem Ep:Wp (Al f ρ h) Q=Wp (f ρ h) fun d h1=>Q (.rt d,ρ) h1:=by unfold Al;rw [Ao];rfl
@[simp] theorem Cj {i:Nat}:Wp (Ap i f ρ h) Q=Wp (f ρ h) fun d h1=>Q (.nx,ρ.set i (some d)) h1:=by unfold Ap;rw [Ao];rfl
@[simp] theorem D9:Wp (Aw t g1 g2 ρ h) Q=Wp (t ρ h) fun b h1=>Wp (if b=true then g1 ρ h1 else g2 ρ h1) Q:=by unfold Aw;rw [Ao]
@[simp] theorem Ze8 {i j:Nat} {fa:MA}:Wp (D3 i j fa ρ h) Q=Wp (fa ρ h) fun ds h1=>Wp (Qf i j ρ ds h1) Q:=by unfold D3;rw [Ao];rfl
@[simp] theorem Ze9 {sg:MG}:Wp (FA sg f ρ h) Q=Wp (f ρ h) fun d h1=>Wp (Kd (sg d ρ) h1) Q:=by unfold FA;rw [Ao];rfl
@[simp] theorem Zfa {fo fi fv:ME}:Wp (Kc fo fi fv ρ h) Q=Wp (fv ρ h) fun v h1=>Wp (fo ρ h1) fun o h2=>Wp (fi ρ h2) fun i h3=>Wp (He o i v h3 (.ok (.nx,ρ) h3)) Q:=by
  unfold Kc;simp only [Ao]
end
section
variable {ρ:Af} {h:HD} {Q:D→HD→Prop} {QB:Bool→HD→Prop} {QA:List D→HD→Prop} {f g k:ME} {t u:MT} {fa:MA} {op op':D→D→HD→Out D} {F:List D→HD→Out D}
theorem Hf {i:Nat} {d:D} (e:ρ[i]?=some (some d)):Wp (Ab i ρ h) Q=Q d h:=by unfold Ab;rw [e];rfl
@[simp] theorem BU {d:D} {r:Af}:Wp (Ab 0 (some d::r) h) Q=Q d h:=rfl
@[simp] theorem CN {i:Nat} {x:Option D} {r:Af}:Wp (Ab (i+1) (x::r) h) Q=Wp (Ab i r h) Q:=rfl
@[simp] theorem B8 {d:D}:Wp (mC d ρ h) Q=Q d h:=rfl
@[simp] theorem Bo:Wp (Ad op f g ρ h) Q=Wp (f ρ h) fun x h1=>Wp (g ρ h1) fun y h2=>Wp (op x y h2) Q:=by unfold Ad;simp only [Ao]
@[simp] theorem Cb:Wp (Ae F fa ρ h) Q=Wp (fa ρ h) fun ds h1=>Wp (F ds h1) Q:=by unfold Ae;rw [Ao]
@[simp] theorem Bp:Wp (Ac ρ h) QA=QA [] h:=rfl
@[simp] theorem Bq:Wp (Aa f fa ρ h) QA=Wp (f ρ h) fun x h1=>Wp (fa ρ h1) fun xs h2=>QA (x::xs) h2:=by unfold Aa;simp only [Ao];rfl
@[simp] theorem Zfb:Wp (Du fa ρ h) Q=Wp (fa ρ h) fun xs h1=>Wp (if xs.length≤sizeLine then .ok (.tup xs) h1 else .stuck) Q:=by unfold Du;simp only [Ao]
@[simp] theorem FC:Wp (As fa ρ h) Q=Wp (fa ρ h) fun xs h1=>Wp (Bu xs h1) Q:=by unfold As;simp only [Ao]
@[simp] theorem Cn:Wp (An f ρ h) QB=Wp (f ρ h) fun x h1=>Wp (D1 x h1) QB:=by unfold An;rw [Ao]
@[simp] theorem Zfc:Wp (Cf f ρ h) QB=Wp (f ρ h) fun x h1=>Wp (DO x h1) QB:=by unfold Cf;rw [Ao]
@[simp] theorem Zfd:Wp (CA t ρ h) QB=Wp (t ρ h) fun b h1=>QB (!b) h1:=by unfold CA;rw [Ao];rfl
@[simp] theorem YV:Wp (FY t u ρ h) QB=Wp (t ρ h) fun b h1=>Wp (if b=true then u ρ h1 else .ok false h1) QB:=by unfold FY;rw [Ao]
@[simp] theorem Kf:Wp (Cg t u ρ h) QB=Wp (t ρ h) fun b h1=>Wp (if b=true then .ok true h1 else u ρ h1) QB:=by unfold Cg;rw [Ao]
@[simp] theorem Zfe:Wp (El f g ρ h) Q=Wp (f ρ h) fun x h1=>Wp (Ke (g ρ) x h1) Q:=by unfold El;rw [Ao];rfl
@[simp] theorem Zff:Wp (PF f g ρ h) Q=Wp (f ρ h) fun x h1=>Wp (MH (g ρ) x h1) Q:=by unfold PF;rw [Ao];rfl
@[simp] theorem Zfg:Wp (JZ f ρ h) Q=Wp (f ρ h) fun x h1=>Wp (Qg x h1) Q:=by unfold JZ;rw [Ao];rfl
@[simp] theorem Zfh:Wp (Ga f ρ h) Q=Wp (f ρ h) fun x h1=>Wp (Qh x h1) Q:=by unfold Ga;rw [Ao];rfl
@[simp] theorem Zfi:Wp (DP t f g ρ h) Q=Wp (t ρ h) fun b h1=>Wp (if b=true then f ρ h1 else g ρ h1) Q:=by unfold DP;rw [Ao]
@[simp] theorem Zfj:Wp (D2 op op' f g k ρ h) Q=Wp (f ρ h) fun x h1=>Wp (g ρ h1) fun y h2=>Wp (op x y h2) fun z h3=>Wp (Ke (fun h=>(k ρ h).bind fun w h4=>op' y w h4) z h3) Q:=by unfold D2;simp only [Ao];rfl
@[simp] theorem Zfk:Wp (Qe f ρ h) Q=Wp (f ρ h) fun x h1=>Wp (MF x h1) Q:=by unfold Qe;rw [Ao]
@[simp] theorem Zfl:Wp (Eo f g ρ h) Q=Wp (f ρ h) fun x h1=>Wp (B0 x h1) fun x h1=>Wp (g ρ h1) fun y h2=>Wp (Hd x y h2) Q:=by unfold Eo;simp only [Ao]
@[simp] theorem Zfm:Wp (BS ρ h) QB=QB true h:=rfl
theorem AX {xs:List D} (hn:xs.length≤sizeLine) (q:∀l h',Sm h h'→h'[l]?=some (.lst xs)→l=h.length→h'=h++[.lst xs]→Q (.loc l) h'):Wp (Bu xs h) Q:=by
 unfold Bu
 rw [if_pos hn]
 exact q h.length _ (.app _ _) (by simp) rfl rfl
end
section
variable {ρ:Af} {h:HD} {QI:(List D×AY)→HD→Prop} {f:ME} {fa:MA}
@[simp] theorem Gb:Wp (Bg f ρ h) QI=Wp (f ρ h) fun d h1=>Wp (D7 d h1) QI:=by unfold Bg;rw [Ao]
@[simp] theorem Zfn:Wp (D8 fa ρ h) QI=Wp (fa ρ h) fun d h1=>Wp (Ha d h1) QI:=by unfold D8;rw [Ao]
@[simp] theorem Zfo:Wp (PY fa ρ h) QI=Wp (fa ρ h) fun d h1=>Wp (PX d h1) QI:=by unfold PY;rw [Ao]
@[simp] theorem Zfp:Wp (Qd fa ρ h) QI=Wp (fa ρ h) fun d h1=>Wp (Qc d h1) QI:=by unfold Qd;rw [Ao]
theorem Iz {n:Nat} (hn:n≤1000):Ha [.int (n:Int)] h=.ok ((List.range n).map fun k=>D.int ((k:Nat):Int),[]) h:=by
 have:(-(2^62):Int)≤(n:Int)∧(n:Int)<2^62:=by omega
 unfold Ha
 simp only
 rw [if_pos this]
 simp [F9]
end
theorem Qi {α:Type} {src:AY} {items:List D} {sg:MG} {t:MT} {f:ME} {ρc:Af} (φ:α→D) (g:α→Bool) (e:α→D) (ρ1:α→Af):
 ∀(xs:List α) (h:HD),(∀h',Sm h h'→BZ src items h')→(∀x∈xs,sg (φ x) ρc=some (ρ1 x))→(∀x∈xs,∀h',Sm h h'→Pu (t (ρ1 x) h') h' (g x))→(∀x∈xs,g x=true→∀h',Sm h h'→Pu (f (ρ1 x) h') h' (e x))→
  Pu (Dx src items sg t f ρc (xs.map φ) h) h ((xs.filter g).map e)
 |[],h,hs,_,_,_=>by
  simp only [List.map_nil,List.filter_nil,Dx]
  rw [if_pos (hs h (.refl _))]
  exact .ok
 |x::xs,h,hs,hg,ht,hf=>by
  simp only [Bx,Dx]
  rw [if_pos (hs h (.refl _)),hg x Bf]
  simp only
  refine Pu.bind (ht x Bf h (.refl _)).noErr fun h1 s1=>?_
  have ih:∀h2,Sm h h2→Pu (Dx src items sg t f ρc (xs.map φ) h2) h2 ((xs.filter g).map e):=fun h2 s2=>Qi φ g e ρ1 xs h2 (fun h' s'=>hs h' (s2.trans s'))
   (fun y hy=>hg y (Be _ hy)) (fun y hy h' s'=>ht y (Be _ hy) h' (s2.trans s')) (fun y hy gy h' s'=>hf y (Be _ hy) gy h' (s2.trans s'))
  cases hgx:g x with
  |false=>
   rw [if_neg BN,List.filter_cons_of_neg (by simp [hgx])]
   exact ih h1 s1
  |true=>
   rw [if_pos rfl,List.filter_cons_of_pos hgx]
   refine Pu.bind (hf x Bf hgx h1 s1).noErr fun h2 s2=>?_
   exact Pu.bind (ih h2 (s1.trans s2)) fun h3 _=>.ok
theorem MM {α:Type} {xs:List α}:xs.filter (fun _=>true)=xs:=List.filter_eq_self.mpr fun _ _=>rfl
section
variable {α:Type} {cs:List (Option Nat)} {it:MI} {sg:MG} {t:MT} {f:ME} {ρ:Af} {h:HD} {src:AY} {xs:List α} {φ:α→D}
theorem Hg {Q:D→HD→Prop} (g:α→Bool) (e:α→D) (ρ1:α→Af) (hi:Wp (it ρ h) fun x h'=>x=(xs.map φ,src)∧Sm h h'∧∀h2,Sm h' h2→BZ src (xs.map φ) h2) (hn:xs.length≤sizeLine)
 (hg:∀x∈xs,sg (φ x) (CD cs ρ)=some (ρ1 x)) (ht:∀x∈xs,∀h',Sm h h'→Pu (t (ρ1 x) h') h' (g x)) (hf:∀x∈xs,g x=true→∀h',Sm h h'→Pu (f (ρ1 x) h') h' (e x))
 (q:∀l h',Sm h h'→h'[l]?=some (.lst ((xs.filter g).map e))→Q (.loc l) h'):Wp (Ba cs it sg t f ρ h) Q:=by
 unfold Ba
 rw [Ao]
 refine Wp.mono hi fun x h1 z4_=>?_
 obtain ⟨ex,s1,hs⟩:=z4_
 subst ex
 rw [if_pos (by simpa using hn),Ao]
 refine (Qi φ g e ρ1 xs h1 hs hg (fun x hx h' s'=>ht x hx h' (s1.trans s')) (fun x hx gx h' s'=>hf x hx gx h' (s1.trans s'))).wp fun h2 s2=>?_
 refine AX ?_ fun l h3 s3 e3 _ _=>q l h3 ((s1.trans s2).trans s3) e3
 rw [Bt]
 exact BG (List.length_filter_le _ _) hn
theorem YW (g:α→Bool) (e:α→D) (ρ1:α→Af) (hi:Wp (it ρ h) fun x h'=>x=(xs.map φ,src)∧Sm h h'∧∀h2,Sm h' h2→BZ src (xs.map φ) h2) (hn:xs.length≤sizeLine)
 (hg:∀x∈xs,sg (φ x) (CD cs ρ)=some (ρ1 x)) (ht:∀x∈xs,∀h',Sm h h'→Pu (t (ρ1 x) h') h' (g x)) (hf:∀x∈xs,g x=true→∀h',Sm h h'→Pu (f (ρ1 x) h') h' (e x)):
 Pu (Ae (Ak CC) (Aa (Ba cs it sg t f) Ac) ρ h) h (.tup ((xs.filter g).map e)):=by
 unfold Pu
 rw [Cb,Bq]
 refine Hg g e ρ1 hi hn hg ht hf fun l h' s' e'=>?_
 rw [Bp]
 simp only [Ak,CC,e']
 exact ⟨rfl,s'⟩
theorem YX (e:α→D) (ρ1:α→Af) (hi:Wp (it ρ h) fun x h'=>x=(xs.map φ,src)∧Sm h h'∧∀h2,Sm h' h2→BZ src (xs.map φ) h2) (hn:xs.length≤sizeLine)
 (hg:∀x∈xs,sg (φ x) (CD cs ρ)=some (ρ1 x)) (hf:∀x∈xs,∀h',Sm h h'→Pu (f (ρ1 x) h') h' (e x)):
 Pu (Ae (Ak CC) (Aa (Ba cs it sg BS f) Ac) ρ h) h (.tup (xs.map e)):=by
 have:=YW (t:=BS) (f:=f) (fun _=>true) e ρ1 hi hn hg (fun x hx h' s'=>(.ok:Pu (.ok true h') h' true)) (fun x hx _ h' s'=>hf x hx h' s')
 rw [MM] at this
 exact this
theorem Qj {β γ:Type} {f:β→Option γ} {g:β→γ}:∀{xs:List β},(∀x∈xs,f x=some (g x))→AN (xs.map f)=some (xs.map g)
 |[],_=>rfl
 |x::xs,hf=>by
  simp only [Bx,hf x Bf,AN,Qj (fun y hy=>hf y (Be _ hy)),H0]
theorem YY (b:α→Bool) (ρ1:α→Af) (hi:Wp (it ρ h) fun x h'=>x=(xs.map φ,src)∧Sm h h'∧∀h2,Sm h' h2→BZ src (xs.map φ) h2) (hn:xs.length≤sizeLine)
 (hg:∀x∈xs,sg (φ x) (CD cs ρ)=some (ρ1 x)) (hf:∀x∈xs,∀h',Sm h h'→Pu (f (ρ1 x) h') h' (.bl (b x))):
 Pu (Ae (Ak Dy) (Aa (Ba cs it sg BS f) Ac) ρ h) h (.bl (xs.all b)):=by
 unfold Pu
 rw [Cb,Bq]
 refine Hg (fun _=>true) (fun x=>.bl (b x)) ρ1 hi hn hg (fun x hx h' s'=>(.ok:Pu (.ok true h') h' true)) (fun x hx _ h' s'=>hf x hx h' s') fun l h' s' e'=>?_
 rw [Bp]
 rw [MM] at e'
 simp only [Ak,Dy,e',EY]
 rw [Qj (f:=Hc∘fun x=>D.bl (b x)) (g:=b) (fun x _=>rfl)]
 refine ⟨?_,s'⟩
 simp [List.all_map]
end
def Es (I:Af→HD→Prop) (Q:Fl×Af→HD→Prop):Fl×Af→HD→Prop
 |(.nx,ρ),h=>I ρ h
 |(.ct,ρ),h=>I ρ h
 |(.bk,ρ),h=>Q (.nx,ρ) h
 |(.rt d,ρ),h=>Q (.rt d,ρ) h
theorem IA {α:Type} {src:AY} {items:List D} {sg:MG} {body:MS} {Q:Fl×Af→HD→Prop} (φ:α→D) (I:List α→Af→HD→Prop) (ho:∀xs ρ h,I xs ρ h→BZ src items h)
 (step:∀x xs ρ h,I (x::xs) ρ h→∃ρ1,sg (φ x) ρ=some ρ1∧Wp (body ρ1 h) (Es (I xs) Q)) (done:∀ρ h,I [] ρ h→Q (.nx,ρ) h):∀(xs:List α) (ρ:Af) (h:HD),I xs ρ h→Wp (En src items sg body (xs.map φ) ρ h) Q
 |[],ρ,h,i=>by
  simp only [List.map_nil,En]
  rw [if_pos (ho _ _ _ i)]
  exact done ρ h i
 |x::xs,ρ,h,i=>by
  simp only [Bx,En]
  rw [if_pos (ho _ _ _ i)]
  obtain ⟨ρ1,e,w⟩:=step x xs ρ h i
  rw [e]
  simp only
  rw [Ao]
  refine Wp.mono w fun y h' k=>?_
  obtain ⟨fl,ρ2⟩:=y
  cases fl with
  |nx=>exact IA φ I ho step done xs ρ2 h' k
  |ct=>exact IA φ I ho step done xs ρ2 h' k
  |bk=>exact k
  |rt d=>exact k
theorem Hh {α:Type} {src:AY} {it:MI} {sg:MG} {body:MS} {Q:Fl×Af→HD→Prop} {ρ:Af} {h:HD} {xs:List α} (φ:α→D) (I:List α→Af→HD→Prop) (hi:Wp (it ρ h) fun x h'=>x=(xs.map φ,src)∧I xs ρ h') (ho:∀ys ρ h,I ys ρ h→BZ src (xs.map φ) h)
 (step:∀x xs ρ h,I (x::xs) ρ h→∃ρ1,sg (φ x) ρ=some ρ1∧Wp (body ρ1 h) (Es (I xs) Q)) (done:∀ρ h,I [] ρ h→Q (.nx,ρ) h):Wp (Bz it sg body ρ h) Q:=by
 unfold Bz
 rw [Ao]
 refine Wp.mono hi fun x h1 z5_=>?_
 obtain ⟨e,i⟩:=z5_
 subst e
 exact IA φ I ho step done xs ρ h1 i
def Py (d:D) (p:PyData):Prop:=A9 [] 8 d=some p∧SeqAt.shaped p=true
@[simp] theorem sz0:(0≤sizeLine)=True:=eq_true (DL _)
@[simp] theorem sz1:(1≤sizeLine)=True:=eq_true (by unfold sizeLine;omega)
@[simp] theorem sz2:(2≤sizeLine)=True:=eq_true (by unfold sizeLine;omega)
@[simp] theorem Kg:(3≤sizeLine)=True:=eq_true (by unfold sizeLine;omega)
@[simp] theorem sz4:(4≤sizeLine)=True:=eq_true (by unfold sizeLine;omega)
@[simp] theorem sz5:(5≤sizeLine)=True:=eq_true (by unfold sizeLine;omega)
section
variable {h:HD} {a b c:D} {ds es:List D} {i j:Int} {F1:D→HD→Out D} {F2:D→D→HD→Out D} {F3:D→D→D→HD→Out D}
@[simp] theorem YZ:Ak F1 [a] h=F1 a h:=rfl
@[simp] theorem Zfq:A6 F2 [a,b] h=F2 a b h:=rfl
@[simp] theorem Zfr:XQ F3 [a,b,c] h=F3 a b c h:=rfl
@[simp] theorem Zfs {b:Bool}:D1 (.bl b) h=.ok b h:=rfl
@[simp] theorem Zft {b:Bool}:DO (.bl b) h=.ok b h:=rfl
@[simp] theorem Zfu:DO .non h=.ok false h:=rfl
@[simp] theorem Zfv:DO (.int i) h=.ok (i != 0) h:=rfl
@[simp] theorem Zfw:DO (.tup ds) h=.ok (!ds.isEmpty) h:=rfl
@[simp] theorem Zfx:BA (.int i) (.ty "int") h=.ok (.bl true) h:=rfl
@[simp] theorem Zfy:BA (.int i) (.ty "bool") h=.ok (.bl false) h:=rfl
@[simp] theorem Zfz:BA (.int i) (.ty "tuple") h=.ok (.bl false) h:=rfl
@[simp] theorem ZfA:BA (.tup ds) (.ty "tuple") h=.ok (.bl true) h:=rfl
@[simp] theorem ZfB:BA (.tup ds) (.ty "int") h=.ok (.bl false) h:=rfl
@[simp] theorem Y0:Ah (.int i) (.int j) h=.ok (.int (i+j)) h:=rfl
@[simp] theorem Y1 {f:Int→Int→D}:Fx f (.int i) (.int j) h=.ok (f i j) h:=rfl
@[simp] theorem ZfC {b c:Bool}:XW (.bl b) (.bl c) h=.ok (.bl (b==c)) h:=rfl
@[simp] theorem ZfD {b c:Bool}:F5 (.bl b) (.bl c) h=.ok (.bl (!(b==c))) h:=rfl
@[simp] theorem ZfE:Bm (.tup ds) h=.ok (.int ds.length) h:=rfl
@[simp] theorem ZfF {ns:List Int}:Bm (.scr ns) h=.ok (.int ns.length) h:=by simp [Bm,Bj]
@[simp] theorem ZfG:D7 (.tup ds) h=.ok (ds,[]) h:=rfl
@[simp] theorem ZfH:CC (.tup ds) h=.ok (.tup ds) h:=rfl
@[simp] theorem ZfI:MF (.tup [a,b]) h=.ok (.tup [b,a]) h:=rfl
@[simp] theorem ZfJ:E5 (.int i) (.int j) h=.ok (.int (if j>i then j else i)) h:=rfl
@[simp] theorem ZfK:E6 (.int i) (.int j) h=.ok (.int (if j<i then j else i)) h:=rfl
@[simp] theorem Y2 {b:Bool}:intOfD (.bl b) h=.ok (.int (if b then 1 else 0)) h:=rfl
@[simp] theorem ZfL:intOfD (.int i) h=.ok (.int i) h:=rfl
@[simp] theorem ZfM {ρ:Af} {k:Nat}:AK k a ρ=some (ρ.set k (some a)):=rfl
@[simp] theorem ZfN {ρ:Af} {k l:Nat}:J8 k l (.tup [a,b]) ρ=some ((ρ.set k (some a)).set l (some b)):=rfl
@[simp] theorem ZfO {b c:Bool}:F6 (.bl b) (.bl c) h=.ok (.bl (b==c)) h:=rfl
@[simp] theorem ZfP {b c:Bool}:Em (.bl b) (.bl c) h=.ok (.bl (!(b==c))) h:=rfl
@[simp] theorem ZfQ:F6 (.int i) (.int j) h=.ok (.bl (i==j)) h:=rfl
@[simp] theorem ZfR:Em (.int i) (.int j) h=.ok (.bl (!(i==j))) h:=rfl
theorem Qk {l:Nat} (e:h[l]?=some (.lst ds)):CC (.loc l) h=.ok (.tup ds) h:=by simp only [CC,e]
theorem Gc {l:Nat} (e:h[l]?=some (.lst ds)):B0 (.loc l) h=.ok (.loc l) h:=by simp only [B0,e]
theorem Kh {l:Nat} (e:h[l]?=some (.lst ds)) (hn:ds.length<sizeLine):Hd (.loc l) a h=.ok .non (h.set l (.lst (ds++[a]))):=by simp only [Hd,e];rw [if_pos hn]
theorem ix_tup {k:Nat} (e:ds[k]?=some a):AE (.tup ds) (.int (k:Nat)) h=.ok a h:=by
 have hk:k<ds.length:=(qa1.mp e).1
 have e1:BY ds ((k:Nat):Int)=some a:=by
  unfold BY CU
  rw [if_pos (by omega),if_pos (by omega)]
  simpa using e
 simp only [AE,Bj,e1]
@[simp] theorem ZfS:AE (.tup [a,b]) (.int 0) h=.ok a h:=rfl
@[simp] theorem ZfT:AE (.tup [a,b]) (.int 1) h=.ok b h:=rfl
theorem Y3 {ns:List Int} {k:Nat} (e:ns[k]?=some i):AE (.scr ns) (.int (k:Nat)) h=.ok (.int i) h:=by
 have hk:k<ns.length:=(qa1.mp e).1
 have e1:BY (ns.map D.int) ((k:Nat):Int)=some (.int i):=by
  unfold BY CU
  rw [if_pos (by omega),if_pos (by simpa using hk)]
  simp [e]
 simp only [AE,Bj,e1]
theorem FD {l k:Nat} (el:h[l]?=some (.lst ds)) (e:ds[k]?=some a):AE (.loc l) (.int (k:Nat)) h=.ok a h:=by
 have hk:k<ds.length:=(qa1.mp e).1
 have e1:BY ds ((k:Nat):Int)=some a:=by
  unfold BY CU
  rw [if_pos (by omega),if_pos (by omega)]
  simpa using e
 simp only [AE,Bj,el,e1]
theorem Y4 {l k:Nat} {ρ:Af} (el:h[l]?=some (.lst ds)) (hk:k<ds.length):He (.loc l) (.int (k:Nat)) a h (.ok (.nx,ρ) h)=.ok (.nx,ρ) (h.set l (.lst (ds.set k a))):=by
 have:CU ds.length ((k:Nat):Int)=some k:=by
  unfold CU
  rw [if_pos (by omega),if_pos (by omega)]
  simp
 simp only [He,el,this]
end
noncomputable def IB (cs:List (Option Nat)) (it:MI) (sg:MG) (t:MT) (f:ME):ME:=Ae (Ak CC) (Aa (Ba cs it sg t f) Ac)
noncomputable def Ql (cs:List (Option Nat)) (it:MI) (sg:MG) (t:MT) (f:ME):ME:=Ae (Ak Dy) (Aa (Ba cs it sg t f) Ac)
section
variable {α:Type} {cs:List (Option Nat)} {it:MI} {sg:MG} {t:MT} {f:ME} {ρ:Af} {h:HD} {src:AY} {xs:List α} {φ:α→D}
@[simp] theorem Y5:Ae (Ak CC) (Aa (Ba cs it sg t f) Ac) ρ h=IB cs it sg t f ρ h:=rfl
@[simp] theorem Y6:Ae (Ak Dy) (Aa (Ba cs it sg t f) Ac) ρ h=Ql cs it sg t f ρ h:=rfl
def Eu (o:Out (List D×AY)) (h:HD) (ds:List D) (src:AY):Prop:=Wp o fun x h'=>x=(ds,src)∧Sm h h'∧∀h2,Sm h' h2→BZ src ds h2
theorem Qm (e:α→D) (ρ1:α→Af) (hi:Eu (it ρ h) h (xs.map φ) src) (hg:∀x∈xs,sg (φ x) (CD cs ρ)=some (ρ1 x)) (hf:∀x∈xs,∀h',Sm h h'→Pu (f (ρ1 x) h') h' (e x)) (hn:xs.length≤sizeLine):
 Pu (IB cs it sg BS f ρ h) h (.tup (xs.map e)):=YX e ρ1 hi hn hg hf
theorem Ki (b:α→Bool) (ρ1:α→Af) (hi:Eu (it ρ h) h (xs.map φ) src) (hg:∀x∈xs,sg (φ x) (CD cs ρ)=some (ρ1 x)) (hf:∀x∈xs,∀h',Sm h h'→Pu (f (ρ1 x) h') h' (.bl (b x))) (hn:xs.length≤sizeLine):
 Pu (Ql cs it sg BS f ρ h) h (.bl (xs.all b)):=YY b ρ1 hi hn hg hf
theorem Hi {ds:List D}:Eu (Bg (Ab 0) (some (.tup ds)::ρ) h) h ds []:=by
 simp [Eu,Sm.refl,BZ]
end
section
variable {h:HD} {i j:Int}
theorem Kj (h1:-18446744073709551616<j) (h2:j<18446744073709551616):Dz (.int i) (.int j) h=.ok (.int (i*j)) h:=by
 have:CMl i j:=.inl (.inr ⟨by omega,by omega⟩)
 simp only [Dz];rw [if_pos this]
theorem MN (h1:-18446744073709551616<i) (h2:i<18446744073709551616):Dz (.int i) (.int j) h=.ok (.int (i*j)) h:=by
 have:CMl i j:=.inl (.inl ⟨by omega,by omega⟩)
 simp only [Dz];rw [if_pos this]
theorem Y7 (h1:Builtin.Int.intBits i≤16777216) (h2:Builtin.Int.intBits j≤16777216):Dz (.int i) (.int j) h=.ok (.int (i*j)) h:=by
 have:CMl i j:=.inr ⟨h1,h2⟩
 simp only [Dz];rw [if_pos this]
theorem Kk (h1:0<j):F4 (.int i) (.int j) h=.ok (.int (i % j)) h:=by
 simp only [F4,F0];rw [if_pos h1]
theorem Y8 (h1:0<j) (h2:j<18446744073709551616):J5 (.int i) (.int j) h=.ok (.int (i / j)) h:=by
 have:CDv i j:=⟨h1,h2⟩
 simp only [J5,F0];rw [if_pos this]
theorem Y9 (h1:0<j) (h2:j<18446744073709551616):Iu (.int i) (.int j) h=.ok (.tup [.int (i / j),.int (i % j)]) h:=by
 have:CDv i j:=⟨h1,h2⟩
 simp only [Iu];rw [if_pos this]
end
theorem Qn {α:Type} {o:Out α} {Q:α→HD→Prop}:Wp (noErr o) Q=Wp o Q:=by cases o<;>rfl
theorem Qo {src:AY} {items:List D} {sg:MG} {t:MT} {f:ME} {ρc:Af} (φ:Nat→D) (I:HD→Prop) (T:Nat→Bool→Prop) (R:Nat→D→Prop) (ρ1:Nat→Af) (hs:∀h,I h→BZ src items h):
 ∀(xs:List Nat) (h:HD),xs.Nodup→I h→(∀x∈xs,sg (φ x) ρc=some (ρ1 x))→(∀x∈xs,∀h,I h→Wp (t (ρ1 x) h) fun b h1=>T x b∧if b=true then Wp (f (ρ1 x) h1) (fun y h2=>I h2∧R x y) else I h1)→
  Wp (Dx src items sg t f ρc (xs.map φ) h) fun ys h'=>I h'∧∃(g:Nat→Bool) (e:Nat→D),ys=(xs.filter g).map e∧(∀x∈xs,g x=true→R x (e x))∧∀x∈xs,T x (g x)
 |[],h,_,i,_,_=>by
  simp only [List.map_nil,Dx]
  rw [if_pos (hs h i)]
  exact ⟨i,fun _=>true,fun _=>.non,rfl,by simp,by simp⟩
 |x::xs,h,hd,i,hg,ht=>by
  simp only [Bx,Dx]
  rw [if_pos (hs h i),hg x Bf]
  simp only
  rw [Ao,Qn]
  rw [qbA] at hd
  refine Wp.mono (ht x Bf h i) fun b h1 z1_=>?_
  obtain ⟨tb,w⟩:=z1_
  have ih:∀h2,I h2→_:=fun h2 i2=>Qo φ I T R ρ1 hs xs h2 hd.2 i2 (fun y hy=>hg y (Be _ hy)) (fun y hy=>ht y (Be _ hy))
  cases b with
  |false=>
   rw [if_neg BN] at w ⊢
   refine Wp.mono (ih h1 w) ?_
   rintro ys h' ⟨i',g,e,ey,hr,tr⟩
   refine ⟨i',fun y=>if y=x then false else g y,e,?_,?_,?_⟩
   ·rw [List.filter_cons_of_neg (by simp),ey]
    congr 1
    refine List.filter_congr fun y hy=>?_
    rw [if_neg]
    intro z;subst z;exact hd.1 hy
   ·intro y hy gy
    rcases qa9.mp hy with z |z
    ·subst z;simp at gy
    ·refine hr y z ?_
     by_cases hz:y=x
     ·subst hz;exact absurd z hd.1
     ·simpa [hz] using gy
   ·intro y hy
    by_cases hz:y=x
    ·subst hz;simpa using tb
    ·simp only [if_neg hz]
     exact tr y (by rcases qa9.mp hy with z |z;exact absurd z hz;exact z)
  |true=>
   rw [if_pos rfl] at w ⊢
   rw [Ao,Qn]
   refine Wp.mono w fun y h2 z3_=>?_
   obtain ⟨i2,ry⟩:=z3_
   rw [Ao]
   refine Wp.mono (ih h2 i2) ?_
   rintro ys h' ⟨i',g,e,ey,hr,tr⟩
   refine ⟨i',fun z=>if z=x then true else g z,fun z=>if z=x then y else e z,?_,?_,?_⟩
   ·rw [List.filter_cons_of_pos (by simp),Bx,if_pos rfl,ey]
    congr 1
    rw [show xs.filter (fun z=>if z=x then true else g z)=xs.filter g from List.filter_congr fun z hz=>by
     rw [if_neg]
     intro q;subst q;exact hd.1 hz]
    refine GW fun z hz=>?_
    rw [if_neg]
    intro q;subst q;exact hd.1 (qbO.mp hz).1
   ·intro z hz gz
    by_cases q:z=x
    ·subst q;simpa using ry
    ·rcases qa9.mp hz with w |w
     ·exact absurd w q
     ·simp only [if_neg q] at gz ⊢
      exact hr z w gz
   ·intro z hz
    by_cases q:z=x
    ·subst q;simpa using tb
    ·simp only [if_neg q]
     exact tr z (by rcases qa9.mp hz with w |w;exact absurd w q;exact w)
theorem Za {cs:List (Option Nat)} {it:MI} {sg:MG} {t:MT} {f:ME} {ρ:Af} {h:HD} {src:AY} {xs:List Nat} {Q:D→HD→Prop} (φ:Nat→D) (I:HD→Prop) (T:Nat→Bool→Prop) (R:Nat→D→Prop) (ρ1:Nat→Af) (hi:Wp (it ρ h) fun x h'=>x=(xs.map φ,src)∧I h') (hs:∀h,I h→BZ src (xs.map φ) h)
 (hnew:∀h c,I h→I (h++[c])) (hd:xs.Nodup) (hn:xs.length≤sizeLine) (hg:∀x∈xs,sg (φ x) (CD cs ρ)=some (ρ1 x)) (ht:∀x∈xs,∀h,I h→Wp (t (ρ1 x) h) fun b h1=>T x b∧if b=true then Wp (f (ρ1 x) h1) (fun y h2=>I h2∧R x y) else I h1)
 (q:∀h' (g:Nat→Bool) (e:Nat→D),I h'→(∀x∈xs,g x=true→R x (e x))→(∀x∈xs,T x (g x))→Q (.tup ((xs.filter g).map e)) h'):Wp (IB cs it sg t f ρ h) Q:=by
 unfold IB
 rw [Cb,Bq]
 unfold Ba
 rw [Ao]
 refine Wp.mono hi fun x h1 z5_=>?_
 obtain ⟨ex,i1⟩:=z5_
 subst ex
 rw [if_pos (by simpa using hn),Ao]
 refine Wp.mono (Qo φ I T R ρ1 hs xs h1 hd i1 hg ht) fun ys h2 z6_=>?_
 obtain ⟨i2,g,e,ey,hr,tr⟩:=z6_
 subst ey
 refine AX ?_ fun l h3 s3 e3 _ eh=>?_
 ·rw [Bt]
  exact BG (List.length_filter_le _ _) hn
 ·rw [Bp]
  simp only [Ak,CC,e3]
  refine q h3 g e ?_ hr tr
  rw [eh]
  exact hnew _ _ i2
structure PyN (n:Nat) (d:D) (p:PyData):Prop where
 rd:∀k,n≤k→A9 [] k d=some p
 ly:p.canLay0=true
 dp:p.depth≤n
theorem PyN.py {n:Nat} {d:D} {p:PyData} (h:PyN n d p) (hn:n≤8):Py d p:=⟨h.rd 8 hn,by
 unfold SeqAt.shaped
 rw [h.ly]
 have:=h.dp
 simp
 omega⟩
def KD {α:Type}:Sem α→Prop
 |.pure _=>True
 |.raise _=>True
 |.unsupported _=>True
 |.finish _=>True
 |.rule _ k=>KD (k ())
 |.at _ k=>KD (k ())
 |.load _ _ k=>∀o,KD (k o)
 |.update _ _ f k=>(∀o,(f o).dict=o.dict∧(o.isFreed=false→(f o).isFreed=false))∧KD (k ())
 |.loadIfAlive _ k=>∀o,KD (k o)
 |.point _ k=>KD (k ())
 |.register _ _=>True
 |.alloc _ k=>∀a,KD (k a)
 |.fresh k=>∀a,KD (k a)
 |.ask k=>∀a,KD (k a)
 |.choose _ _ k=>∀a,KD (k a)
 |.os _ _ k=>∀a,KD (k a)
 |.call ..=>False
 |.handled _ k=>∀a,KD (k a)
 |.genState _ k=>∀a,KD (k a)
 |.newGen _ k=>∀a,KD (k a)
 |.resume ..=>False
 |.yield ..=>True
 |.stack k=>∀a,KD (k a)
 |.fork ..=>True
 |.thread k=>∀a,KD (k a)
 |.await ..=>True
def Dicts (h h':Heap):Prop:=∀b o,h.get? b=some o→∃o',h'.get? b=some o'∧o'.dict=o.dict
theorem Dicts.refl (h:Heap):Dicts h h:=fun _ o e=>⟨o,e,rfl⟩
theorem Dicts.trans {h h1 h2:Heap} (a:Dicts h h1) (b:Dicts h1 h2):Dicts h h2:=fun c o e=>by
 obtain ⟨o1,e1,d1⟩:=a c o e
 obtain ⟨o2,e2,d2⟩:=b c o1 e1
 exact ⟨o2,e2,d2.trans d1⟩
theorem Zb {α:Type} {M:Model} {Γ:PySem.Ctx} {Q:α→Pos→Shared→Prop} {E:Value→Pos→Shared→Prop}:∀(t:Sem α) (p:Pos) (s:Shared),KD t→Sem.wp M Γ t Q E p s→Sem.wp M Γ t (fun a p s'=>Q a p s'∧Dicts s.heap s'.heap) (fun a p s'=>E a p s'∧Dicts s.heap s'.heap) p s:=by
 have lift:∀(t:Sem α) (p:Pos) (h0:Heap) (s:Shared),Dicts h0 s.heap→Sem.wp M Γ t (fun a p s'=>Q a p s'∧Dicts s.heap s'.heap) (fun a p s'=>E a p s'∧Dicts s.heap s'.heap) p s→Sem.wp M Γ t (fun a p s'=>Q a p s'∧Dicts h0 s'.heap) (fun a p s'=>E a p s'∧Dicts h0 s'.heap) p s:=
  fun t p h0 s d w=>Sem.wp_mono M Γ t (fun a p s' z=>⟨z.1,d.trans z.2⟩) (fun a p s' z=>⟨z.1,d.trans z.2⟩) p s w
 intro t
 induction t with
 |pure a=>exact fun p s _ w=>⟨w,.refl _⟩
 |raise e=>exact fun p s _ w=>⟨w,.refl _⟩
 |unsupported w=>exact fun p s _ w=>w.elim
 |finish w=>exact fun p s _ w=>w.elim
 |rule t k ih=>exact fun p s kd w=>ih () p s kd w
 |«at» t k ih=>exact fun p s kd w=>ih () t s kd w
 |load a x k ih=>exact fun p s kd ⟨o,e,w⟩=>⟨o,e,ih o p s (kd o) w⟩
 |update a x f k ih=>
  refine fun p s kd ⟨e,w⟩=>⟨e,lift _ p s.heap {s with heap:=s.heap.update a f} (fun b o eb=>?_) (ih () p _ kd.2 w)⟩
  by_cases hb:b=a
  ·subst hb
   obtain ⟨d1,d2⟩:=kd.1 o
   exact ⟨f o,Heap.get?_update_self f eb (d2 (Heap.get?_some_iff.mp eb).2),d1⟩
  ·exact ⟨o,(LJ s.heap f (Ne.symm hb)).trans eb,rfl⟩
 |alloc o k ih=>exact fun p s kd w=>lift _ p s.heap {s with heap:=s.heap.push o} (fun b ob eb=>⟨ob,A5 _ eb,rfl⟩) (ih _ p {s with heap:=s.heap.push o} (kd _) w)
 |loadIfAlive a k ih=>exact fun p s kd w=>ih _ p s (kd _) w
 |point l k ih=>exact fun p s kd w=>ih () p s kd w
 |register a k ih=>exact fun p s kd w=>w.elim
 |fresh k ih=>exact fun p s kd w=>ih _ p {s with toks:=s.toks+1} (kd _) w
 |ask k ih=>exact fun p s kd w=>ih _ p s (kd _) w
 |choose src n k ih=>exact fun p s kd ⟨z,w⟩=>⟨z,ih _ p {s with drawn:=s.drawn.bump src} (kd _) w⟩
 |os q l k ih=>exact fun p s kd w=>ih _ p {s with os:=(Os.step s.os q).1} (kd _) w
 |call c h g l k ih=>exact fun p s kd w=>kd.elim
 |handled o k ih=>exact fun p s kd w=>ih _ p s (kd _) w
 |newGen c k ih=>exact fun p s kd w=>ih _ p {s with gens:=s.gens.push (.fresh c)} (kd _) w
 |genState g k ih=>exact fun p s kd ⟨st,e,w⟩=>⟨st,e,ih _ p s (kd _) w⟩
 |resume g r l k ih=>exact fun p s kd w=>kd.elim
 |yield v g l k ih=>exact fun p s kd w=>w.elim
 |stack k ih=>exact fun p s kd w=>ih _ p s (kd _) w
 |fork c k ih=>exact fun p s kd w=>w.elim
 |thread k ih=>exact fun p s kd w=>ih _ p s (kd _) w
 |await a t b l k ih=>exact fun p s kd w=>w.elim
theorem IC {α:Type} {M:Model} {A:Around} {t:Sem α} {Q:α→Shared→Prop} {E:Value→Shared→Prop} {s:Shared} (kd:KD t) (h:wpAny M A t Q E s):wpAny M A t (fun a s'=>Q a s'∧Dicts s.heap s'.heap) (fun a s'=>E a s'∧Dicts s.heap s'.heap) s:=
 fun Γ p hΓ=>Zb t p s kd (h Γ p hΓ)
theorem KD.bind {α β:Type} {f:α→Sem β}:∀{t:Sem α},KD t→(∀a,KD (f a))→KD (t >>=f):=by
 intro t
 induction t with
 |pure a=>exact fun _ h=>h a
 |raise e=>exact fun _ _=>True.intro
 |unsupported w=>exact fun _ _=>True.intro
 |finish w=>exact fun _ _=>True.intro
 |rule t k ih=>exact fun kd h=>ih () kd h
 |«at» t k ih=>exact fun kd h=>ih () kd h
 |load a x k ih=>exact fun kd h o=>ih o (kd o) h
 |update a x g k ih=>exact fun kd h=>⟨kd.1,ih () kd.2 h⟩
 |alloc o k ih=>exact fun kd h a=>ih a (kd a) h
 |loadIfAlive a k ih=>exact fun kd h a=>ih a (kd a) h
 |point l k ih=>exact fun kd h=>ih () kd h
 |register a k ih=>exact fun kd h=>True.intro
 |fresh k ih=>exact fun kd h a=>ih a (kd a) h
 |ask k ih=>exact fun kd h a=>ih a (kd a) h
 |choose src n k ih=>exact fun kd h a=>ih a (kd a) h
 |os q l k ih=>exact fun kd h a=>ih a (kd a) h
 |call c h g l k ih=>exact fun kd h=>kd.elim
 |handled o k ih=>exact fun kd h a=>ih a (kd a) h
 |newGen c k ih=>exact fun kd h a=>ih a (kd a) h
 |genState g k ih=>exact fun kd h a=>ih a (kd a) h
 |resume g r l k ih=>exact fun kd h=>kd.elim
 |yield v g l k ih=>exact fun kd h=>True.intro
 |stack k ih=>exact fun kd h a=>ih a (kd a) h
 |fork c k ih=>exact fun kd h=>True.intro
 |thread k ih=>exact fun kd h a=>ih a (kd a) h
 |await a t b l k ih=>exact fun kd h=>True.intro
theorem FE {α:Type} {c:Prop} [Decidable c] {a b:Sem α} (ha:KD a) (hb:KD b):KD (if c then a else b):=by split<;>assumption
theorem MP {a:Addr}:KD (load a):=fun _=>True.intro
theorem Zc {f:Array Value→Array Value} (o:Obj):(Obj.mapFields f o).dict=o.dict∧(o.isFreed=false→(Obj.mapFields f o).isFreed=false):=by
 obtain ⟨c,d,dt,sl⟩:=o
 cases dt<;>exact ⟨rfl,fun h=>h⟩
theorem Zd {v:Value}:KD (fieldsOf v):=by
 unfold fieldsOf
 split
 ·exact KD.bind MP fun o=>by split<;>exact True.intro
 ·exact True.intro
theorem Kl {v:Value} {i:Nat}:KD (field v i):=by
 unfold field
 exact KD.bind Zd fun o=>by split<;>exact True.intro
theorem MQ {v x:Value} {i:Nat}:KD (setField v i x):=by
 unfold setField
 split
 ·unfold updateField
  refine KD.bind MP fun o=>?_
  split
  ·exact FE ⟨Zc,True.intro⟩ True.intro
  ·exact True.intro
 ·exact True.intro
theorem MR {v:Value} {o:Option Addr}:KD (setFlight v o):=by
 unfold setFlight
 exact KD.bind Kl fun o=>FE MQ True.intro
theorem Ze {n:String} {vs:List Value}:KD (newFields n vs):=by
 unfold newFields newObj
 unfold newObjAsIs
 dsimp only
 split
 ·exact True.intro
 ·exact fun a=>True.intro
theorem Qp:∀{l:List Env},KD (readyFrames l)
 |[]=>True.intro
 |env::outer=>by
  unfold readyFrames
  split
  ·refine KD.bind MP fun o=>FE True.intro (KD.bind ?_ fun b=>KD.bind ?_ fun v=>KD.bind ⟨fun o=>⟨rfl,fun h=>?_⟩,True.intro⟩ fun _=>Qp)
   ·unfold behindIsImport
    exact FE True.intro (FE True.intro (KD.bind Kl fun _=>True.intro))
   ·unfold keptBack
    split
    ·exact FE True.intro fun _=>True.intro
    ·exact True.intro
   ·obtain ⟨c,d,dt,sl⟩:=o
    cases dt<;>exact h
  ·exact True.intro
theorem Zf {env:Env}:KD (PySem.frameOf env):=by
 unfold PySem.frameOf
 refine KD.bind (fun _=>True.intro) fun l=>KD.bind ?_ fun o=>?_
 ·unfold frameObject
  split
  ·exact True.intro
  ·exact KD.bind Qp fun _=>True.intro
 ·split<;>exact True.intro
theorem Zg {f:Addr} {b:Bool}:KD (entryPlaceOf f b):=by
 unfold entryPlaceOf
 intro l
 show KD (match l.find? _ with |some (_,pos)=>_ |none=>_)
 split<;>exact True.intro
theorem Qq {e:Value} {env:Env}:KD (noteFrame e env):=by
 unfold noteFrame
 split
 ·refine KD.bind Kl fun hd=>?_
  have AF:∀f:Addr,KD (do setField e 1 (←EntryCells.newEntry hd (←PySem.frameOf env) .none (rawInt f) .none (←entryPlaceOf f (hd != .none)))):=fun f=>
   KD.bind Zf fun _=>KD.bind Zg fun _=>KD.bind Ze fun _=>MQ
  refine FE (KD.bind Kl fun x=>FE True.intro (KD.bind MQ fun _=>?_)) ?_
  ·exact AF _
  ·exact AF _
 ·exact True.intro
theorem Qr {e:Value} {env:Env}:KD (leaving env e):=by
 unfold leaving
 exact KD.bind Qq fun _=>MR
open Classical in
noncomputable def blank (p:Addr→Prop) (h:Heap):Heap:=⟨h.objs.mapIdx fun i o=>if p i then {o with data:=.freed} else o,h.life⟩
theorem Gd {p:Addr→Prop} {h:Heap} {b:Addr} (hp:p b):(blank p h).get? b=none:=by
 unfold blank Heap.get?
 simp only [Array.getElem?_mapIdx]
 cases e:h.objs[b]? with
 |none=>rfl
 |some o=>simp [hp]
theorem Ge {p:Addr→Prop} {h:Heap} {b:Addr} (hp:¬p b):(blank p h).get? b=h.get? b:=by
 unfold blank Heap.get?
 simp only [Array.getElem?_mapIdx]
 cases e:h.objs[b]? with
 |none=>rfl
 |some o=>simp [hp]
theorem MU {p:Addr→Prop} {h:Heap}:(blank p h).StaysIn h:=fun b o e=>by
 by_cases hp:p b
 ·rw [Gd hp] at e;cases e
 ·rw [Ge hp] at e;exact e
inductive Km (h0 h:Heap) (H:Hp) (a:Addr) (C:Value) (da:Option Addr):Prop where
 |mk (new:h0.get? a=none) (no:H a=none) (oe:Obj) (vs:Array Value) (a0:Value) (T:Addr) (oT:Obj) (ts:Array Value) (e1:h.get? a=some oe) (e2:oe.cls=C∧vs[0]?=some a0) (e3:oe.data=.fields vs) (e4:vs[1]?=some (.ref T)) (e5:h0.get? T=none) (e6:H T=none) (e7:T≠a) (e8:h.get? T=some oT) (e9:oT.data=.fields ts) (e10:ts[3]?=some .none) (e11:oe.dict=da):Km h0 h H a C da
abbrev DR (n:Str):Value:=.str n 0
inductive AO (P:Program) (w:World) (K:PySem.W.Frag) (outer:List Env) (H:Hp) (s:Shared) (E:XK) (e:Value) (s':Shared):Prop where
 |mk (a C:Addr) (n:Str) (da:Option Addr) (H':Hp) (ee:e=.ref a) (os:s'.os=s.os) (bare:AllBare s'.gens) (un:Un (frs outer) [] H H' s.heap s'.heap) (hok:HOk P w H' s'.heap) (fly:Km s.heap s'.heap H' a (.ref C) da) (nm:PySem.W.nsIn K mainGlobals n=some (some (.ref C))) (q:E (DR n) da H'):AO P w K outer H s E e s'
theorem Kn {h base:Heap} {p:Addr→Prop}:∀{l:List Env},h.FunFrames base l→(∀b∈frs l,p b)→h.FunFrames (blank p h) l
 |[],_,_=>trivial
 |env::rest,⟨k,⟨L,o,hf,_,ho,hd⟩,r⟩,hp=>⟨k,⟨L,o,hf,Gd (hp L (by unfold frs;rw [GV,hf];exact Bf)),ho,hd⟩,
  Kn r fun b hb=>hp b (by
   unfold frs at hb ⊢
   rw [GV,hf]
   exact Be _ hb)⟩
theorem MV {P:Program} {w:World} {H:Hp} {h:Heap} {a:Addr} {o:HO} (x:ObjOk P w H h a o):∃ob,h.get? a=some ob:=by
 cases o with
 |lst xs=>obtain ⟨_,_,_,_,e⟩:=x;exact ⟨_,e⟩
 |tup xs=>obtain ⟨_,_,_,⟨_,e,_⟩,_⟩:=x;exact ⟨_,e⟩
 |own y=>exact x
 |ins C dx fs=>obtain ⟨_,_,_,e,_⟩:=x;exact ⟨_,e⟩
 |xd fs=>obtain ⟨_,⟨_,_,_,e,_⟩,_⟩:=x;exact ⟨_,e⟩
 |frz ob u=>obtain ⟨e,_⟩:=x;exact ⟨_,e⟩
 |tbl ps=>exact ⟨_,x⟩
 |ext φ=>exact x.2.1
 |mex φ=>exact x.2.1
 |dct φ=>exact x.2.1
structure Lv (X:Cx) (E:XK):Prop where
 xe:∀e s',wpAny (model X.prog X.w) X.A (leaving X.env e) (fun _ s''=>AO X.prog X.w X.K X.outer X.H₀ X.s₀ E e s'') (fun e' s''=>AO X.prog X.w X.K X.outer X.H₀ X.s₀ E e' s'') s'→X.xe e s'
 stk:X.stack=X.env::X.outer
 fr:X.env.frame=some X.env.locals
 ex:X.ex=[]
theorem Ko {P:Program} {w:World} {K:PySem.W.Frag} {mg:Str→Option Value} {base:Heap} {N:List Str} {qual:Str} {scope:Scope} {f:Addr} {cd:Value} {A:Around} {outer:List Env} {s:Shared} {H:Hp} {E:XK}:Lv (BO (AO P w K) P w K mg base N qual scope f cd A outer s H E) E:=
 ⟨fun _ _ h=>h,rfl,rfl,rfl⟩
section
variable {X:Cx} {E:XK}
theorem Lv.frs (lv:Lv X E):L2.frs X.stack=X.env.locals::X.fs:=by
 rw [lv.stk];unfold L2.frs;rw [GV,lv.fr];rfl
theorem Qs {pins:List (Addr×Obj)} {σ:L2.St} {H':Hp} {s':Shared} {h':Heap} {a T:Addr} {C:Value} (lv:Lv X E)
 (I:Inv X pins σ H' s')
 (na:X.s₀.heap.get? a=none) (nT:X.s₀.heap.get? T=none) (ha:H' a=none) (hT:H' T=none) {a0:Value}
 (L:Heap.LeftW (blank (fun b=>b=a∨b=T∨b∈frs X.stack) s'.heap) X.stack a C a0 s'.heap h') {da:Option Addr} {oa:Obj} (ea:s'.heap.get? a=some oa) (ed:oa.dict=da) (dd:Dicts s'.heap h'):
 Un X.fs [] X.H₀ H' X.s₀.heap h'∧HOk X.prog X.w H' h'∧Km X.s₀.heap h' H' a C da:=by
 obtain ⟨stay,ff,⟨oe,vs,T2,oT,ts,e1,e2,e3,e4,e5,e6,e7,e8,e9⟩,ups⟩:=L
 have e11:oe.dict=da:=by
  obtain ⟨o',q1,q2⟩:=dd a oa ea
  rw [e1] at q1
  cases q1
  exact q2.trans ed
 have B:Un X.fs [] X.H₀ H' X.s₀.heap s'.heap:=by have:=I.base;rw [lv.ex] at this;exact this
 have stk:=I.stack
 have frNone:∀b∈frs X.stack,H' b=none:=fun b hb=>I.stkFree b hb
 have keepOf:∀b o,¬(b=a∨b=T∨b∈frs X.stack)→s'.heap.get? b=some o→h'.get? b=some o:=fun b o hb e=>stay b o (by rw [Ge hb];exact e)
 have notL:∀b o,X.s₀.heap.get? b=some o→b∉X.fs→b∉frs X.stack:=fun b o e hb z=>by
  rw [lv.frs] at z
  rcases qa9.mp z with z |z
  ·have:=AH e
   rw [z] at this
   exact absurd (Bc this I.ok.above) (Di _)
  ·exact hb z
 have old:∀b o,X.s₀.heap.get? b=some o→b≠a∧b≠T:=fun b o e=>⟨fun z=>(by rw [z,na] at e;cases e),fun z=>(by rw [z,nT] at e;cases e)⟩
 have noFields:∀b,b∈frs X.stack→∃o,s'.heap.get? b=some o∧∀vs,o.data≠.fields vs:=fun b hb=>(stk.mem hb).2
 have any:∀b o,X.s₀.heap.get? b=some o→s'.heap.get? b≠none→∃o',h'.get? b=some o':=fun b o e hn=>by
  cases e':s'.heap.get? b with
  |none=>exact absurd e' hn
  |some o'=>
   by_cases hb:b∈frs X.stack
   ·obtain ⟨o2,h2,d2⟩:=noFields b hb
    obtain ⟨sl,h3⟩:=ups b o2 h2 d2
    exact ⟨_,h3⟩
   ·exact ⟨o',keepOf b o' (fun z=>by rcases z with z |z |z;exact (old b o e).1 z;exact (old b o e).2 z;exact hb z) e'⟩
 refine ⟨⟨fun b o e n hb hx=>?_,fun b o e n hb hx=>?_,B.free,fun b o e hx=>?_,B.tups,B.frzs,B.tbls⟩,fun b o e=>?_,na,ha,oe,vs,a0,T2,oT,ts,e1,e2,e3,e4,?_,?_,e6,e7,e8,e9,e11⟩
 ·exact keepOf b o (fun z=>by rcases z with z |z |z;exact (old b o e).1 z;exact (old b o e).2 z;exact notL b o e hb z) (B.keep b o e n hb hx)
 ·obtain ⟨sl,h1⟩:=B.slot b o e n hb hx
  have hb':b∈frs X.stack:=by rw [lv.frs];exact Be _ hb
  obtain ⟨o2,h2,d2⟩:=noFields b hb'
  rw [h1] at h2
  cases h2
  obtain ⟨sl2,h3⟩:=ups b _ h1 d2
  exact ⟨sl2,h3⟩
 ·obtain ⟨o',h1⟩:=B.there b o e hx
  exact any b o e (by rw [h1];simp)
 ·refine (I.hok b o e).stay (fun c u hc q=>keepOf c u (fun z=>?_) q) (fun _ q=>q) fun _ _ q=>q
  have hc':H' c≠none:=by
   rcases hc with rfl |hc
   ·rw [e];simp
   ·rw [hc];simp
  rcases z with z |z |z
  ·exact hc' (z ▸ ha)
  ·exact hc' (z ▸ hT)
  ·exact hc' (frNone c z)
 ·cases q:X.s₀.heap.get? T2 with
  |none=>rfl
  |some o=>
   exfalso
   obtain ⟨o',h1⟩:=B.there T2 o q (by simp)
   by_cases hb:T2∈frs X.stack
   ·obtain ⟨o2,h2,d2⟩:=noFields T2 hb
    obtain ⟨sl,h3⟩:=ups T2 o2 h2 d2
    rw [h3] at e7
    cases e7
    exact d2 _ e8
   ·rw [Ge (fun z=>by rcases z with z |z |z;exact (old T2 o q).1 z;exact (old T2 o q).2 z;exact hb z),h1] at e5
    cases e5
 ·cases q:H' T2 with
  |none=>rfl
  |some o=>
   exfalso
   by_cases hb:T2=a∨T2=T∨T2∈frs X.stack
   ·rcases hb with z |z |z
    ·rw [z,ha] at q;cases q
    ·rw [z,hT] at q;cases q
    ·rw [frNone T2 z] at q;cases q
   ·rw [Ge hb] at e5
    obtain ⟨ob,eb⟩:=MV (I.hok T2 o q)
    rw [eb] at e5
    cases e5
theorem Lv.older (lv:Lv X E) {pins:List (Addr×Obj)} {σ:L2.St} {H1:Hp} {s1:Shared} (I:Inv X pins σ H1 s1):∀b,s1.heap.get? b=none→X.s₀.heap.get? b=none:=fun b hb=>by
 cases q:X.s₀.heap.get? b with
 |none=>rfl
 |some o=>
  obtain ⟨o',h1⟩:=I.base.there b o q (by rw [lv.ex];simp)
  rw [hb] at h1;cases h1
theorem MW (lv:Lv X E):CM (AO X.prog X.w X.K) X E:=by
 rintro pins σ H1 s1 e s' I ⟨a,C,n,da,H',ee,os,bare,un,hok,fly,nm,q⟩
 subst ee
 have I':Inv X pins σ H' s':=I.call' os un hok bare (fun b hb=>absurd hb (by simp))
 obtain ⟨fnew,fno,oe,vs,a0,T,oT,ts,e1,e2,e3,e4,e5,e6,e7,e8,e9,e10,e11⟩:=fly
 have fro:X.A.frames=some (X.env::X.outer):=by rw [←lv.stk];exact I'.ok.frames
 have stk:s'.heap.FunFrames X.base (X.env::X.outer):=by have:=I'.stack;rw [lv.stk] at this;exact this
 have run:=IC Qr (wpAny_leaving_nextW (M:=model X.prog X.w) (E:=fun _ _=>False) (Q:=fun _ s''=>∃h',s''={s' with heap:=h'}∧Heap.LeftW (blank (fun b=>b=a∨b=T∨b∈frs X.stack) s'.heap) (X.env::X.outer) a (.ref C) a0 s'.heap h') (base:=blank (fun b=>b=a∨b=T∨b∈frs X.stack) s'.heap) (cls:=.ref C) (a0:=a0) fro (Kn stk fun b hb=>.inr (.inr (by rw [lv.stk];exact hb))) lv.fr
  ⟨oe,vs,T,oT,ts,e1,e2,e3,e4,Gd (.inr (.inl rfl)),e7,e8,e9,e10⟩ MU (Gd (.inl rfl)) fun h' L=>⟨h',rfl,L⟩)
 refine lv.xe _ _ (wpAny_mono run (fun _ s'' z=>?_) fun _ _ z=>z.1.elim)
 obtain ⟨⟨h',rfl,L⟩,D⟩:=z
 obtain ⟨u1,u2,u3⟩:=Qs lv I' (lv.older I a fnew) (lv.older I T e5) fno e6 (by rw [lv.stk] at *;exact L) e1 e11 D
 exact ⟨a,C,n,da,H',rfl,I'.os,bare,u1,u2,u3,nm,q⟩
theorem Zh (lv:Lv X E) {pins:List (Addr×Obj)} {σ:L2.St} {H1:Hp} {s1:Shared} {a C:Addr} {n:Str} {da:Option Addr} {oe:Obj} {vs:Array Value} {a0:Value} (I':Inv X pins σ H1 s1)
 (e1:s1.heap.get? a=some oe) (ec:oe.cls=.ref C) (e3:oe.data=.fields vs) (v0:vs[0]?=some a0) (v1:vs[1]?=some .none) (ed:oe.dict=da) (new:X.s₀.heap.get? a=none) (fresh:H1 a=none) (nm:PySem.W.nsIn X.K mainGlobals n=some (some (.ref C))) (q:E (DR n) da H1):X.xe (.ref a) s1:=by
 have fro:X.A.frames=some (X.env::X.outer):=by rw [←lv.stk];exact I'.ok.frames
 have stk:s1.heap.FunFrames X.base (X.env::X.outer):=by have:=I'.stack;rw [lv.stk] at this;exact this
 have run:=IC Qr (wpAny_leaving_firstW (M:=model X.prog X.w) (E:=fun _ _=>False) (Q:=fun _ s''=>∃h',s''={s1 with heap:=h'}∧Heap.LeftW (blank (fun b=>b=a∨b=a∨b∈frs X.stack) s1.heap) (X.env::X.outer) a oe.cls a0 s1.heap h') (base:=blank (fun b=>b=a∨b=a∨b∈frs X.stack) s1.heap) (a0:=a0) fro (Kn stk fun b hb=>.inr (.inr (by rw [lv.stk];exact hb))) lv.fr
  e1 MU (Gd (.inl rfl)) e3 v1 v0 fun h2 L=>⟨h2,rfl,L⟩)
 refine lv.xe _ _ (wpAny_mono run (fun _ s'' z=>?_) fun _ _ z=>z.1.elim)
 obtain ⟨⟨h',rfl,L⟩,D⟩:=z
 obtain ⟨u1,u2,u3⟩:=Qs lv I' new new fresh fresh (by rw [lv.stk] at *;exact L) e1 ed D
 rw [ec] at u3
 exact ⟨a,C,n,da,H1,rfl,I'.os,I'.bare,u1,u2,u3,nm,q⟩
theorem Zi (lv:Lv X E) {pins:List (Addr×Obj)} {σ:L2.St} {H1:Hp} {s1:Shared} {h':Heap} {a C:Addr} {n:Str} {vs:List Value} (I:Inv X pins σ H1 s1)
 (m:Heap.MadeExcOf s1.heap h' a (.ref C) vs) (nm:PySem.W.nsIn X.K mainGlobals n=some (some (.ref C))) (q:E (DR n) none H1):X.xe (.ref a) {s1 with heap:=h'}:=by
 have I':Inv X pins σ H1 {s1 with heap:=h'}:=I.kept m.keeps
 obtain ⟨t,e1,e2,e3⟩:=m.there
 have fresh:H1 a=none:=by
  cases q:H1 a with
  |none=>rfl
  |some o=>
   obtain ⟨ob,eb⟩:=MV (I.hok a o q)
   rw [m.new] at eb;cases eb
 exact Zh lv I' e1 rfl rfl rfl rfl rfl (lv.older I a m.new) fresh nm q
end
section
variable {P:Program} {w:World} {K:PySem.W.Frag} {mg:Str→Option Value} {base:Heap} {N:List Str} {qual:Str} {scope:Scope} {f:Addr} {cd:Value} {A:Around} {outer:List Env} {s:Shared} {H:Hp} {E:XK}
theorem ID:CM (AO P w K) (BO (AO P w K) P w K mg base N qual scope f cd A outer s H E) E:=MW Ko
theorem Zj {pins:List (Addr×Obj)} {σ:L2.St} {H1:Hp} {s1:Shared} {h':Heap} {a C:Addr} {n:Str} {vs:List Value} (I:Inv (BO (AO P w K) P w K mg base N qual scope f cd A outer s H E) pins σ H1 s1)
 (m:Heap.MadeExcOf s1.heap h' a (.ref C) vs) (nm:PySem.W.nsIn K mainGlobals n=some (some (.ref C))) (q:E (DR n) none H1):(BO (AO P w K) P w K mg base N qual scope f cd A outer s H E).xe (.ref a) {s1 with heap:=h'}:=Zi Ko I m nm q
end
inductive Qt (h:Heap) (C:Addr) (bmB:List Value) (newId:String):Prop where
 |mk (bm:List Value) (N:Addr) (nm q:Str) (bs:List Value) (hdct:Bool) (sn:List Str) (sub:List Value) (ab:Bool) (col:Option Bool) (dd:Option Addr) (k0 k1 k2 k3 k5:Option Value) (mN:Str→Option Value)
  (hC:h.get? C=some (excClassObj nm q C N bs bm hdct sn sub ab col dd k0 k1 k2 k3 k5 newId)) (hN:h.Ns N mN) (hni:mN "__init__"=none) (T:OwnTail h bmB bm):Qt h C bmB newId
def MX (K:PySem.W.Frag) (C:Addr) (bmB:List Value) (newId:String):Prop:=∀h:Heap,K.In h→Qt h C bmB newId
def clsOf:Data→Option ClassData
 |.cls c=>some c
 |_=>none
theorem Zk {d:Data} {c:ClassData} (h:clsOf d=some c):d=.cls c:=by
 cases d<;>first |(cases h;rfl) |cases h
inductive Qu {α:Type} (l:List α):Prop where
 |mk (a b c d e f:α) (q:l=[a,b,c,d,e,f]):Qu l
theorem Zl {α:Type} {l:List α} (h:l.length=6):Qu l:=by
 cases l with
 |nil=>cases h
 |cons a l=>cases l with
  |nil=>cases h
  |cons b l=>cases l with
   |nil=>cases h
   |cons c l=>cases l with
    |nil=>cases h
    |cons d l=>cases l with
     |nil=>cases h
     |cons e l=>cases l with
      |nil=>cases h
      |cons f l=>cases l with
       |nil=>exact ⟨a,b,c,d,e,f,rfl⟩
       |cons g l=>cases h
def Kq (K:PySem.W.Frag) (C:Addr) (bmB:List Value) (newId:String) (o:Obj) (cd:ClassData):Bool:=
 decide (o.cls=.type "type")&&(decide (cd.mro=.ref C::cd.mro.tail)&&(!cd.hasDel&&(PySem.W.tailIn K bmB cd.mro.tail&&(PySem.W.nsOkIn K cd.ns&&(PySem.W.nsIn K cd.ns "__init__"==some none&&(decide (o.slots.toList.length=6)&&decide (o.slots.toList[4]?=some (some (.builtin newId)))))))))
def MY (K:PySem.W.Frag) (C:Addr) (bmB:List Value) (newId:String):Bool:=match K.lookup C with
 |some o=>(match clsOf o.data with
  |some cd=>Kq K C bmB newId o cd
  |none=>false)
 |none=>false
theorem Zm {K:PySem.W.Frag} {C:Addr} {bmB:List Value} {newId:String} (q:MY K C bmB newId=true):MX K C bmB newId:=by
 intro h X
 unfold MY at q
 cases lk:K.lookup C with
 |none=>rw [lk] at q;cases q
 |some o=>
  rw [lk] at q
  replace q:(match clsOf o.data with |some cd=>Kq K C bmB newId o cd |none=>false)=true:=q
  cases ec:clsOf o.data with
  |none=>rw [ec] at q;cases q
  |some cd=>
   rw [ec] at q
   replace q:Kq K C bmB newId o cd=true:=q
   unfold Kq at q
   simp only [BX,decide_eq_true_eq,Bool.not_eq_true',beq_iff_eq] at q
   obtain ⟨e1,e2,e3,e4,e5,e6,e7,e8⟩:=q
   obtain ⟨cls,od,dt,⟨sl⟩⟩:=o
   obtain ⟨nm,bs,mro,ns,qn,hd,sn,sub,ab,col,del⟩:=cd
   replace ec:=Zk ec
   simp only at ec e1 e2 e3 e4 e5 e6 e7 e8
   obtain ⟨k0,k1,k2,k3,k4,k5,rfl⟩:=Zl e7
   cases mro with
   |nil=>cases e2
   |cons c bm=>
    cases e2
    cases Option.some.inj e8
    subst ec e1 e3
    exact ⟨_,_,_,_,_,_,_,_,_,_,_,_,_,_,_,_,h.nsMap ns,X _ _ lk,.of_isNs (PySem.W.isNs_of_in X e5),PySem.W.nsMap_none_of_in X e5 e6,PySem.W.tail_of_in X e4⟩
abbrev IE:List Value:=[.type "ValueError",.type "Exception",.type "BaseException",.type "object"]
def MZ (X:Cx) (E:XK):Prop:=∀(pins:List (Addr×Obj)) (σ:L2.St) (H1:Hp) (s1:Shared) (h':Heap) (a C:Addr) (n:Str) (vs:List Value),Inv X pins σ H1 s1→Heap.MadeExcOf s1.heap h' a (.ref C) vs→PySem.W.nsIn X.K mainGlobals n=some (some (.ref C))→E (DR n) none H1→X.xe (.ref a) {s1 with heap:=h'}
theorem Zn {P:Program} {w:World} {K:PySem.W.Frag} {mg:Str→Option Value} {base:Heap} {N:List Str} {qual:Str} {scope:Scope} {f:Addr} {cd:Value} {A:Around} {outer:List Env} {s:Shared} {H:Hp} {E:XK}:
 MZ (BO (AO P w K) P w K mg base N qual scope f cd A outer s H E) E:=fun pins σ H1 s1 h' a C n vs I m nm q=>Zj I m nm q
section
variable {X:Cx} {E:XK}
def E7 (n:Str) (fa:MA):MS:=fun ρ h=>(fa ρ h).bind fun xs h1=>if xs.length≤sizeLine then .err (DR n) [] h1 else .stuck
theorem Zo {x:Str} {C:Addr} {e:Expr} {es:List Expr} {fa:MA} {np cpos pos:Pos} (O:MX X.K C IE "ValueError.__new__") (nmC:PySem.W.nsIn X.K mainGlobals x=some (some (.ref C))) (hg:Gl X x) (hc:X.calm=true) (th:MZ X E) (ha:CV X E (e::es) fa)
 (hdb:(x==("__debug__":Str))=false:=by decide) (he:starEach (e::es) X.env=(false,eval e X.env)::starEach es X.env:=by rfl) (hpl:(backTo cpos (starEach (e::es) X.env)).any (·.1)=false:=by rfl):
 Ex X E (.Raise (some (.Call (.Name x np) (e::es) [] cpos)) none pos) (E7 x fa):=by
 rintro pins s σ H D I ⟨m,ρ,h,hr,er,p⟩
 have hm:X.mg x=some (.ref C):=PySem.W.mg_of I.mod.kin I.mod.glob nmC
 obtain ⟨bm,NN,nm,q,bs,hdct,sn,sub,ab,col,dd,k0,k1,k2,k3,k5,mN,hC,hN,hni,T⟩:=O X.base I.mod.kin
 refine wpAny_Raise_call_subT (C:=C) (nm:=nm) (q:=q) (N:=NN) (bs:=bs) (bm:=bm) (hdct:=hdct) (sn:=sn) (sub:=sub) (ab:=ab) (col:=col) (dd:=dd) (k0:=k0) (k1:=k1) (k2:=k2) (k3:=k3) (k5:=k5)
  PySem.F.excBase_ValueError (mN:=mN) (T.hasType PySem.F.excBase_ValueError.hasBase) (I.ok.hd hc) hpl hni (Fs I hg hm ⟨rfl,?_⟩ hdb)
 have hh:=ha cpos pins s σ H (fun vs H1=>vs.length≤sizeLine∧E (DR x) none H1) I ⟨m,ρ,h,hr,er,PostS.bind p fun xs h1 vs m1 H1 _ p1 k1 hr1 r1 q1=>by
  split at q1
  ·rename_i hz
   exact ⟨by rw [←DVs.len r1];exact hz,q1 none m1 H1 (Ax _) (.refl _) hr1 (fun f d z=>by cases z)⟩
  ·exact q1.elim⟩
 rw [he] at hh ⊢
 exact Calls.evalArgs_plain (Am hh fun us s1 z1_=>by obtain ⟨vs,H1,I1,r,hl,q1⟩:=z1_;exact (⟨rfl,by rw [←r.length];exact hl,I1.bk _ _ hC,hN.keeps I1.bk,T.keeps I1.bk,fun h' a z=>th pins σ H1 s1 h' a C x us I1 z nmC q1⟩))
inductive DS (K:PySem.W.Frag) (F:List D→HD→Out D) (vs:List V) (H:Hp) (Q:VK) (E:XK):Prop where
 |mk (m:List Addr) (ds:List D) (h:HD) (hr:HR K m h H) (r:DVs K m H ds vs) (p:Post K (rD K) m H E Q (F ds h)):DS K F vs H Q E
theorem IF {P:Program} {w:World} {K:PySem.W.Frag} {X:Cx}:CM (AO P w K) X E0:=fun _ _ _ _ _ _ _ z2_=>by obtain ⟨_,_,_,_,_,_,_,_,_,_,_,_,q⟩:=z2_;exact (q.elim)
theorem Kr {K:PySem.W.Frag} {n:Nat} {F:List D→HD→Out D} (ar:Ar n F) {vs:List V} {H:Hp} {Q:VK} {E':XK} (h:DS K F vs H Q E'):vs.length=n:=by
 obtain ⟨m,ds,hd,hr,r,p⟩:=h
 rw [←r.len]
 by_cases e:ds.length=n
 ·exact e
 ·rw [ar ds hd e] at p;exact p.elim
structure CaE (P:Program) (w:World) (K:PySem.W.Frag) (mg:Str→Option Value) (base:Heap) (x:Str) (k:Nat) (F:List D→HD→Out D):Prop where
 ex:∃(f:Addr) (fd:FuncData) (ps:List Str),FnOk P w K mg base (AO P w K) k f fd ps (DS K F)∧Binds K fd ps []∧mg x=some (.ref f)∧PySem.W.keepIn K (.ref f)=true
theorem Zp {k k':Nat} {F:List D→HD→Out D} {fa:MA} {x:Str} {p pos:Pos} {e:Expr} {es:List Expr} (C:CaE X.prog X.w X.K X.mg X.base x k F) (hr:Room k' X.A) (hx:CM (AO X.prog X.w X.K) X E) (ha:CV X E (e::es) fa) (hk:k≤k':=by decide) (hg:Gl X x:=by rfl)
 (hdb:(x==("__debug__":Str))=false:=by decide) (he:starEach (e::es) X.env=(false,eval e X.env)::starEach es X.env:=by rfl) (hpl:(backTo pos (starEach es X.env)).any (·.1)=false:=by rfl):
 Ev X E (.Call (.Name x p) (e::es) [] pos) (Ae F fa):=by
 obtain ⟨f,fd,ps,G,hb,hm,hkp⟩:=C.ex
 exact BH (WC (E:=E) G (hr.mono hk) hg hm hkp hb .nil hx ha hdb he hpl) fun σ H Q z3_=>by obtain ⟨m,ρ,hd,hr,er,p⟩:=z3_;exact (⟨m,ρ,hd,hr,er,Post.bind p fun xs h1 vs m1 H1 e1 p1 k1 hr1 r1 q1=>by
  rw [EW]
  exact ⟨m1,xs,h1,hr1,r1,q1⟩⟩)
theorem M0 {P:Program} {w:World} {K:PySem.W.Frag} {mg:Str→Option Value} {base:Heap} {x qual:Str} {st:Stmt} {f:Addr} {fd:FuncData} {N ps:List Str} {k:Nat} {F:List D→HD→Out D} {g:MS} (Fn:Fun K x qual st f fd) (S:Dq N ps (defScope st)) (ar:Ar ps.length F)
 (hg:∀ds h,ds.length=ps.length→F ds h=Ay N.length g ds h)
 (hbody:∀(cdv:Value) (A:Around) (outer:List Env) (s:Shared) (H:Hp) (E:XK),Room k (A.deeper (envOfC qual (defScope st) s.heap.objs.size f cdv))→Cz (BO (AO P w K) P w K mg base N qual (defScope st) f cdv A outer s H E) E (defBody st) g):FnOk P w K mg base (AO P w K) (k+1) f fd ps (DS K F):=by
 obtain ⟨oc,od,kV,doc,pm,an,cdv,ct,osl,rfl,lk,hcd⟩:=Fn.ex
 refine Pg lk hcd S (fun vs H Q E h=>Kr ar h) fun A outer s H vs Q E hr h=>?_
 refine ⟨_,hbody cdv A outer s H E hr,?_⟩
 have hl:=Kr ar h
 obtain ⟨m,ds,hd,hr1,r,p⟩:=h
 have hld:ds.length=ps.length:=by rw [r.len];exact hl
 refine ⟨m,ds.map some++List.replicate (N.length - ds.length) none,hd,hr1,ER.start r,?_⟩
 rw [hg ds hd hld] at p
 unfold Ay at p
 cases o:g (ds.map some++List.replicate (N.length - ds.length) none) hd with
 |stuck=>rw [o] at p;exact p
 |err C fs h1=>rw [o] at p;exact p
 |ok a h1=>
  rw [o] at p
  obtain ⟨fl,ρ1⟩:=a
  intro m1 H1 p1 k1 hr1
  cases fl with
  |nx=>exact fun σ er=>p .non m1 H1 p1 k1 hr1 (by simp [rD,DV])
  |bk=>exact False.elim p
  |ct=>exact False.elim p
  |rt d=>exact fun v rv=>p v m1 H1 p1 k1 hr1 rv
end
theorem Zq {P:Program} {w:World} {K:PySem.W.Frag} {mg:Str→Option Value} {base:Heap} {N:List Str} {qual:Str} {scope:Scope} {f:Addr} {cd:Value} {A:Around} {outer:List Env} {s:Shared} {H:Hp} {E:XK}:
 PassesOwn (model P w) (BO (AO P w K) P w K mg base N qual scope f cd A outer s H E).A (BO (AO P w K) P w K mg base N qual scope f cd A outer s H E).env (BO (AO P w K) P w K mg base N qual scope f cd A outer s H E).xe:=by
 passes_own
section
variable {X:Cx} {E:XK}
abbrev MO:=Af→HD→Out (Option Int)
abbrev Hj (X:Cx) (E:XK) (e:Option Expr) (f:MO):Prop:=PO X e (tM X.K (fun _ _ a b=>a=b) E f)
def Az:MO:=fun _ h=>.ok none h
def Av (f:ME):MO:=fun ρ h=>(f ρ h).bind fun x h1=>match x with
 |.int i=>.ok (some i) h1
 |_=>.stuck
theorem Qv {e:Option Expr} {t t':TO} (h:PO X e t) (i:∀σ H Q,t' σ H Q→t σ H Q):PO X e t':=fun pins s σ H Q I q=>h pins s σ H Q I (i σ H Q q)
theorem Zr:Hj X E none Az:=Qv WO fun σ H Q z1_=>by obtain ⟨m,ρ,h,hr,er,p⟩:=z1_;exact (p none m H (Ax _) (.refl _) hr rfl)
theorem Zs {e:Expr} {f:ME} (he:Ev X E e f):Hj X E (some e) (Av f):=Qv (WQ he) fun σ H Q z2_=>by obtain ⟨m,ρ,h,hr,er,p⟩:=z2_;exact (⟨m,ρ,h,hr,er,Post.bind p fun x h1 v m1 H1 eo p1 k1 hr1 r1 q1=>by
 clear eo
 split at q1
 ·rename_i i
  simp only [rD,DV] at r1
  exact ⟨i,r1,q1 (some i) m1 H1 (Ax _) (.refl _) hr1 rfl⟩
 ·exact q1.elim⟩)
def cutD (xs:List D) (lo hi:Option Int):List D:=(xs.drop (HT.sIx xs.length 0 lo)).take (HT.sIx xs.length xs.length hi - HT.sIx xs.length 0 lo)
def Qw (x:D) (lo hi:Option Int) (h:HD):Out D:=match x with
 |.tup xs=>if HT.sIx xs.length 0 lo=0∧HT.sIx xs.length xs.length hi=xs.length then .stuck else .ok (.tup (cutD xs lo hi)) h
 |_=>.stuck
def Qx (f:ME) (lo hi:MO):ME:=fun ρ h=>(f ρ h).bind fun x h1=>(lo ρ h1).bind fun l h2=>(hi ρ h2).bind fun u h3=>Qw x l u h3
theorem DVs.cut {K:PySem.W.Frag} {m:List Addr} {H:Hp} {ds:List D} {vs:List V} (r:DVs K m H ds vs) (lo hi:Option Int):DVs K m H (cutD ds lo hi) (FT vs lo hi):=by
 unfold cutD FT
 rw [r.len]
 exact (r.drop _).take _
def Qy (o i x y:D) (ρ:Af) (h:HD):Out (Fl×Af):=match x,y with
 |.int a,.int b=>He o i (.int (a+b)) h (.ok (.nx,ρ) h)
 |_,_=>.stuck
def Qz (o i:D) (h:HD):Out D:=match o,i with
 |.loc l,.int n=>if 0≤n then (match h[l]? with
  |some (.lst ds)=>(match ds[n.toNat]? with
   |some d=>.ok d h
   |none=>.stuck)
  |_=>.stuck) else .stuck
 |_,_=>.stuck
def QC (fo fi fv:ME):MS:=fun ρ h=>(fo ρ h).bind fun o h1=>(fi ρ h1).bind fun i h2=>(Qz o i h2).bind fun x h3=>(fv ρ h3).bind fun y h4=>Qy o i x y ρ h4
end
theorem vals_ints:∀{ns:List Int} {its:List Value},Vals (ns.map V.int) its→∃ys:List (Int×Tok),its=ys.map (fun p=>Value.int p.1 p.2)∧ys.map (·.1)=ns
 |[],its,r=>by cases r;exact ⟨[],rfl,rfl⟩
 |n::ns,its,r=>by
  cases r with
  |cons r1 r2=>
   obtain ⟨t,rfl⟩:=r1
   obtain ⟨ys,rfl,e⟩:=vals_ints r2
   exact ⟨(n,t)::ys,rfl,by simp [e]⟩
section
variable {X:Cx}
def ZfU:List Int→Int
 |[]=>0
 |n::ns=>ns.foldl min n
def QE (f:List Int→Int):D→HD→Out D:=fun x h=>match x with
 |.loc l=>match h[l]? with
  |some (.lst ds)=>match AN (ds.map MC) with
   |some ns=>if ns=[] then .stuck else .ok (.int (f ns)) h
   |none=>.stuck
  |_=>.stuck
 |_=>.stuck
end
def ZfV (K:PySem.W.Frag) (t:Addr):It:=⟨fun i H=>∃xs,SqL K H t xs∧i<xs.length,fun i H x H'=>∃p v,H p=none∧x=.ref p∧(∀xs:List V,SqL K H t xs→xs[i]?=some v)∧H'=Aj H p (.tup [.int i,v]),fun i H=>∃xs,SqL K H t xs∧i=xs.length⟩
section
variable {X:Cx} {E:XK}
def QF:List D→HD→Out (List D×AY):=fun ds h=>match ds with
 |[.tup xs]=>.ok (MD xs,[]) h
 |[.loc l]=>match h[l]? with
  |some (.lst xs)=>.ok (MD xs,[(l,xs)]) h
  |_=>.stuck
 |_=>.stuck
def QG (fa:MA):MI:=fun ρ h=>(fa ρ h).bind QF
end
section
variable {prog:Program} {w:World} {A:Around} {E:Value→Shared→Prop} {s:Shared} {z TI TO p q:Addr} {f g:List Addr} {n1 n2 k:Nat} {P1 P2:Nat→Value→Prop} {S1 S2:Nat→Heap→Prop} {a b:Value}
end
open AutoSeq1 (wpAny_loadPart')
def ItAt:Bool→Heap→Addr→Addr→Nat→Prop
 |true,h,it,l,i=>h.IsTupleIter it l i
 |false,h,it,l,i=>h.IsListIter it l i
def SqA:Bool→Heap→Addr→Array Value→Prop
 |true,h,l,xs=>h.IsTuple l xs
 |false,h,l,xs=>h.IsList l xs
def Zt (k:Bool) (l:Addr):Obj:={cls:=.type (if k then "tuple_iterator" else "list_iterator"),data:=.fields #[.ref l,.int 0 0]}
theorem ItAt.obj {k:Bool} {h:Heap} {it l:Addr} {i:Nat} (x:ItAt k h it l i):∃o,h.get? it=some o∧∀v,o.data≠.cell v:=by
 cases k
 ·obtain ⟨o,e,c,d⟩:=x
  exact ⟨o,e,fun v z=>by rw [d] at z;cases z⟩
 ·obtain ⟨o,e,c,d⟩:=x
  exact ⟨o,e,fun v z=>by rw [d] at z;cases z⟩
theorem ItAt.at {k:Bool} {h h':Heap} {it l:Addr} {i:Nat} (x:ItAt k h it l i) (f:∀o,h.get? it=some o→h'.get? it=some o):ItAt k h' it l i:=by
 cases k
 ·exact Heap.IsListIter.at x f
 ·exact Heap.IsTupleIter.at x f
section
variable {X:Cx} {pins:List (Addr×Obj)} {σ:L2.St} {H:Hp} {s:Shared}
end
theorem SqA.push {k:Bool} {h:Heap} {l:Addr} {xs:Array Value} (x:SqA k h l xs) (o:Obj):SqA k (h.push o) l xs:=by
 cases k
 ·exact Heap.IsList.push x o
 ·exact Heap.IsTuple.push x o
theorem ItAt.new {k:Bool} {h:Heap} {it l:Addr} (e:h.get? it=some (Zt k l)):ItAt k h it l 0:=by
 cases k
 ·exact ⟨_,e,rfl,rfl⟩
 ·exact ⟨_,e,rfl,rfl⟩
section
variable {X:Cx} {E:XK}
def Zu (xs ys:List D):List D:=List.zipWith (fun a b=>.tup [a,b]) xs ys
def QH:D→HD→Option (List D×AY)
 |.tup xs,_=>some (xs,[])
 |.loc l,h=>match h[l]? with
  |some (.lst xs)=>some (xs,[(l,xs)])
  |_=>none
 |_,_=>none
def QJ:List D→HD→Out (List D×AY):=fun ds h=>match ds with
 |[x,y]=>match QH x h,QH y h with
  |some (xs,s1),some (ys,s2)=>.ok (Zu xs ys,s1++s2) h
  |_,_=>.stuck
 |_=>.stuck
def QK (fa:MA):MI:=fun ρ h=>(fa ρ h).bind QJ
end
end LS
namespace LS
open PySem PySem.Spec PyProof.Rows L2
section
variable {ρ:Af} {h:HD} {QI:(List D×AY)→HD→Prop} {Q:D→HD→Prop} {QO:Option Int→HD→Prop} {QS:Fl×Af→HD→Prop} {f fo fi fv:ME} {lo hi:MO} {fa:MA}
@[simp] theorem ZfW:Wp (QG fa ρ h) QI=Wp (fa ρ h) fun d h1=>Wp (QF d h1) QI:=by unfold QG;rw [Ao]
@[simp] theorem ZfX:Wp (QK fa ρ h) QI=Wp (fa ρ h) fun d h1=>Wp (QJ d h1) QI:=by unfold QK;rw [Ao]
@[simp] theorem ZfY:Wp (Qx f lo hi ρ h) Q=Wp (f ρ h) fun x h1=>Wp (lo ρ h1) fun l h2=>Wp (hi ρ h2) fun u h3=>Wp (Qw x l u h3) Q:=by unfold Qx;simp only [Ao]
@[simp] theorem ZfZ:Wp (Az ρ h) QO=QO none h:=id rfl
@[simp] theorem Zf0:Wp (Av f ρ h) QO=Wp (f ρ h) fun x h1=>Wp (match x with
  |.int i=>(.ok (some i) h1:Out (Option Int))
  |_=>.stuck) QO:=by unfold Av;rw [Ao]<;>rfl
@[simp] theorem Zf1:Wp (QC fo fi fv ρ h) QS=Wp (fo ρ h) fun o h1=>Wp (fi ρ h1) fun i h2=>Wp (Qz o i h2) fun x h3=>Wp (fv ρ h3) fun y h4=>Wp (Qy o i x y ρ h4) QS:=by unfold QC;simp only [Ao]
theorem IG {l:Nat} {ds:List D} (e:h[l]?=some (.lst ds)):D7 (.loc l) h=.ok (ds,[(l,ds)]) h:=by
 simp only [D7,Bj,e,G9]
theorem Ew {l:Nat} {ds:List D} (e:h[l]?=some (.lst ds)):Bm (.loc l) h=.ok (.int ds.length) h:=by
 simp only [Bm,Bj,e]
theorem QL {a:D}:∀n:Nat,(List.replicate n [a]).flatten=List.replicate n a
 |0=>rfl
 |n+1=>by rw [Fm,FP,QL n];rfl
theorem Zv {l n:Nat} {a:D} (e:h[l]?=some (.lst [a])) (hn:n≤1000):Dz (.loc l) (.int (n:Nat)) h=Bu (List.replicate n a) h:=by
 have:(-(2^63):Int)≤(n:Int)∧(n:Int)<2^63:=by omega
 simp only [Dz,e]
 rw [if_pos this]
 simp [QL]
end
noncomputable def Zw (cs:List (Option Nat)) (it:MI) (sg:MG) (t:MT) (f:ME):ME:=Ae (Ak Qa) (Aa (Ba cs it sg t f) Ac)
noncomputable def Zx (F:List Int→Int) (cs:List (Option Nat)) (it:MI) (sg:MG) (t:MT) (f:ME):ME:=Ae (Ak (QE F)) (Aa (Ba cs it sg t f) Ac)
section
variable {α:Type} {cs:List (Option Nat)} {it:MI} {sg:MG} {t:MT} {f:ME} {ρ:Af} {h:HD} {src:AY} {xs:List α} {φ:α→D} {F:List Int→Int}
@[simp] theorem Zf2:Ae (Ak Qa) (Aa (Ba cs it sg t f) Ac) ρ h=Zw cs it sg t f ρ h:=rfl
@[simp] theorem Zf3:Ae (Ak (QE F)) (Aa (Ba cs it sg t f) Ac) ρ h=Zx F cs it sg t f ρ h:=rfl
end
section
variable {X:Cx} {E:XK}
end
section
variable {X:Cx}
def QM:D→HD→Out D:=fun x h=>match x with
 |.loc l=>match h[l]? with
  |some (.lst ds)=>match AN (ds.map Hc) with
   |some bs=>.ok (.bl (bs.any id)) h
   |none=>.stuck
  |_=>.stuck
 |_=>.stuck
end
noncomputable def Zy (cs:List (Option Nat)) (it:MI) (sg:MG) (t:MT) (f:ME):ME:=Ae (Ak QM) (Aa (Ba cs it sg t f) Ac)
section
variable {α:Type} {cs:List (Option Nat)} {it:MI} {sg:MG} {t:MT} {f:ME} {ρ:Af} {h:HD} {src:AY} {xs:List α} {φ:α→D}
@[simp] theorem Zf4:Ae (Ak QM) (Aa (Ba cs it sg t f) Ac) ρ h=Zy cs it sg t f ρ h:=rfl
end
end LS
namespace LS
open PySem PySem.Spec PyProof.Rows L2 PySem.W
structure EC (K:Frag) (C:Addr):Prop where
 ga:findIn K (.ref C) "__getattribute__"=some (some (.builtin "BaseException.__getattribute__"))
 gt:findIn K (.ref C) "__getattr__"=some none
 cl:(clsIn K C).isSome=true
 ac:findIn K (.ref C) "__class__"=some (some (.builtin "object.__class__"))
 sg:specialIn K (.builtin "object.__class__") "__get__"=some (some (.builtin "getset_descriptor.__get__"))
 tk:takesIn K (.builtin "object.__class__")=some true
 mo:mroIn K C (.type "object")=some true
 mb:mroIn K C (.type "BaseException")=some true
section
variable {prog:Program} {w:World} {A:Around} {E:Value→Shared→Prop} {s:Shared} {K:Frag} {x C:Addr} {ox:Obj} {od:Option Obj}
def TyAt (x C:Addr) (h:Heap):Prop:=∃o,h.get? x=some o∧o.cls=.ref C
theorem TyAt.type {M:Model} {h:Heap} (t:TyAt x C h):Looks M h (typeOf (.ref x)) (.ref C):=by
 obtain ⟨o,h1,h2⟩:=t
 exact h2 ▸ (Looks.ld h1).andThen .now
theorem Zz {M:Model} {h:Heap} (c:EC K C) (X:K.In h):Looks M h (Builtin.ObjectAttr.find (.ref x) (.ref C) "__class__") (.bind (.builtin "getset_descriptor.__get__") (.builtin "object.__class__")):=by
 have L1:=looks_findIn (M:=M) X c.ac
 have L2:Looks M h (Builtin.ObjectAttr.getOf (some (.builtin "object.__class__"))) (some (.builtin "getset_descriptor.__get__")):=looks_specialIn X c.sg
 have L3:=looks_takesIn (M:=M) X c.tk
 refine L1.andThen (L2.andThen ?_)
 exact (show Looks M h (Builtin.ObjectAttr.dataDescriptor? (some (.builtin "object.__class__")) (some (.builtin "getset_descriptor.__get__"))) (some (.builtin "getset_descriptor.__get__",.builtin "object.__class__")) from L3.andThen .now).andThen (Looks.tag .now)
theorem ZA {R:Result→Shared→Prop} {tp:Value} (X:K.In s.heap) (I:TyAt x C s.heap) (hm:mroIn K C (.type "object")=some true)
 (h:R (.ok (.ret (.ref C))) s):codeAny (model prog w) A (.call (.builtin "getset_descriptor.__get__") ⟨[.builtin "object.__class__",.ref x,tp],[]⟩) R s:=by
 obtain ⟨hh,g,dr,t,os⟩:=s
 have L0:=I.type (M:=model prog w)
 have L1:=looks_mroIn (M:=model prog w) X hm
 refine codeAny_call_builtin KF.slot_gs.plain KF.entry_gs (KF.slot_gs.check _ _ _ _ _ _ _ _ KF.type_class (KF.args_gs _ _ _) ?_)
 unfold Builtin.«getset_descriptor.__get__» Builtin.Getset_descriptor.descrGet
 rw [dga_obj]
 refine wpAny_bind (wpAny_pure ?_)
 unfold Builtin.Getset_descriptor.descrGetter Builtin.Getset_descriptor.descrCheckInstance Builtin.Getset_descriptor.descrNameAndClass isInstance
 simp only [KF.owner_class]
 repeat lk
 refine ⟨Code.quiet_builtin _ (by decide +kernel),codeAny_builtin KF.entry_class ?_⟩
 unfold Builtin.«object.__class__» shownTypeOf
 repeat lk
 exact h
theorem ZC {Q:Option Value→Shared→Prop} (c:EC K C) (X:K.In s.heap) (I:TyAt x C s.heap) (h:Q (some (.ref C)) {s with toks:=s.toks+1}):wpAny (model prog w) A (getAttr? (.ref x) "__class__") Q E s:=by
 obtain ⟨hh,g,d,t,os⟩:=s
 have L0:=I.type (M:=model prog w)
 have L1:=looks_findIn (M:=model prog w) X c.ga
 have L2:=looks_findIn (M:=model prog w) X c.gt
 have LF:=Zz (M:=model prog w) (x:=x) c X
 have LB:=looks_mroIn (M:=model prog w) X c.mb
 have ha:=F.args_bexc_ga (.ref x) (.str "__class__" t)
 have hk:builtinKind "BaseException.__getattribute__"=some .slot:=by decide +kernel
 have hsplit:splitId "BaseException.__getattribute__"=some ("BaseException","__getattribute__"):=by decide +kernel
 have hx2:(Value.builtin "BaseException.__getattribute__"==Value.builtin "object.__getattribute__")=false:=by decide +kernel
 have hx1:(onTheHeap (Value.ref C)&&Value.builtin "BaseException.__getattribute__"==Value.builtin "object.__getattribute__")=false:=by rw [hx2];rfl
 unfold getAttr? getAttrBy? getAttrBy
 refine wpAny_bind (wpAny_mkText (wpAny_bind (wpAny_attempt (wpAny_holding (wpAny_bind (L0.at (wpAny_bind (L1.at ?_))))))))
 dsimp only
 rw [hx1]
 simp only [Bl,if_false]
 unfold getAttrByItsOwn hookBefore
 refine wpAny_bind ?_
 show wpAny _ _ (typeLookup (.ref C) "__getattr__") _ _ _
 refine L2.at ?_
 refine wpAny_bind (wpAny_attempt (wpAny_holding ?_))
 unfold callGetattribute boundAndCalled
 simp only [Bool.false_and,Bl,if_false]
 rw [PySem.F.attr_ValueError.ga.bind (.ref x)]
 refine wpAny_bind (wpAny_pure (wpAny_call (codeAny_call_builtin PySem.F.attr_ValueError.ga.plain F.entry_bexc_ga ?_)))
 simp only [checkBuiltinCall,hk,hsplit]
 refine wpAny_bind ?_
 unfold isInstance
 refine wpAny_bind (L0.at (LB.at ?_))
 wp_step
 unfold Builtin.«object.__getattribute__»
 repeat lk
 refine wpAny_run (ZA (s:=⟨hh,g,d,t+1,os⟩) X I c.mo ?_) (by intro z;cases z)
 refine wpAny_pure (wpAny_pure ?_)
 exact handed_on rfl (wpAny_pure h)
theorem ZD (c:EC K C):KitX K (.ref x) (.ref C) (TyAt x C) where
 ty:=fun _ _ _ I=>I.type
 it:=fun _ _ X _=>by
  obtain ⟨cdD,hcD⟩:=qbB.mp c.cl
  unfold clsIn at hcD
  split at hcD
  ·rename_i c' d' cd' sl' ho
   intro A' Q' E' s' k q
   unfold isType loadHead
   exact wpAny_bind (wpAny_loadPart (k _ _ (X _ _ ho)) (wpAny_pure q))
  ·cases hcD
 ne:=fun h tp dd its n sl X htp=>by
  obtain ⟨cdD,hcD⟩:=qbB.mp c.cl
  refine qbQ.mpr fun q=>?_
  have e:C=tp:=Value.ref.inj (beq_iff_eq.mp q)
  subst e
  unfold clsIn at hcD
  split at hcD
  ·rename_i c' d' cd' sl' ho
   have z:=(X _ _ ho).symm.trans htp
   cases z
  ·cases hcD
 ca:=fun X I k=>ZC c X I k
end
def excNames:List Str:=["NoBoard","NoLine","NoSwitching","NoNumber","Unlike","NoNet","NoPlace","NoText","NoRow","TooMany","SwitchError"]
def BL (n n':Str):Bool:=n==n'||n'=="SwitchError"
def M1 (K:Frag) (C:Addr):Bool:=
 findIn K (.ref C) "__getattribute__"==some (some (.builtin "BaseException.__getattribute__"))&&findIn K (.ref C) "__getattr__"==some none&&(clsIn K C).isSome&&
 findIn K (.ref C) "__class__"==some (some (.builtin "object.__class__"))&&specialIn K (.builtin "object.__class__") "__get__"==some (some (.builtin "getset_descriptor.__get__"))&&
 takesIn K (.builtin "object.__class__")==some true&&mroIn K C (.type "object")==some true&&mroIn K C (.type "BaseException")==some true
theorem ZE {K:Frag} {C:Addr} (h:M1 K C=true):EC K C:=by
 unfold M1 at h
 simp only [BX,beq_iff_eq] at h
 obtain ⟨⟨⟨⟨⟨⟨⟨h1,h2⟩,h3⟩,h4⟩,h5⟩,h6⟩,h7⟩,h8⟩:=h
 exact ⟨h1,h2,h3,h4,h5,h6,h7,h8⟩
def Ey (K:Frag) (n:Str):Option Addr:=match nsIn K mainGlobals n with
 |some (some (.ref C))=>some C
 |_=>none
theorem QN {K:Frag} {n:Str} {C:Addr} (h:Ey K n=some C):nsIn K mainGlobals n=some (some (.ref C)):=by
 unfold Ey at h
 split at h
 ·rename_i e;cases h;exact e
 ·cases h
def M3 (K:Frag) (n:Str) (C S:Addr):Bool:=
 M1 K C&&kitOne K (.ref C) (.type "ValueError")==some true&&(n=="TooMany"||MY K C IE "ValueError.__new__")&&exmOne K (.ref C) (.ref S)==some true&&
  excNames.all fun n'=>match Ey K n' with
   |some C'=>kitOne K (.ref C) (.ref C')==some (BL n n')
   |none=>false
def etOk (K:Frag):Bool:=match Ey K "SwitchError" with
 |some S=>excNames.all fun n=>match Ey K n with
  |some C=>M3 K n C S
  |none=>false
 |none=>false
structure ET (K:Frag) (n:Str) (C:Addr):Prop where
 ec:EC K C
 ve:kitOne K (.ref C) (.type "ValueError")=some true
 at_:n≠"TooMany"→MX K C IE "ValueError.__new__"
 sw:∀S,nsIn K mainGlobals "SwitchError"=some (some (.ref S))→exmOne K (.ref C) (.ref S)=some true
 sub:∀n' C',n'∈excNames→nsIn K mainGlobals n'=some (some (.ref C'))→kitOne K (.ref C) (.ref C')=some (BL n n')
theorem Ks {K:Frag} (h:etOk K=true) {n:Str} {C:Addr} (hn:n∈excNames) (hC:nsIn K mainGlobals n=some (some (.ref C))):ET K n C:=by
 unfold etOk at h
 split at h
 ·rename_i S hS
  have h1:=qaI.mp h n hn
  have e:Ey K n=some C:=by unfold Ey;rw [hC]
  rw [e] at h1
  have h1:M3 K n C S=true:=h1
  unfold M3 at h1
  simp only [BX,beq_iff_eq,Jz] at h1
  obtain ⟨⟨⟨⟨a1,a2⟩,a3⟩,a4⟩,a5⟩:=h1
  refine ⟨ZE a1,a2,fun z=>Zm (a3.resolve_left z),fun S' hS'=>?_,fun n' C' hn' hC'=>?_⟩
  ·have:=QN hS
   rw [this] at hS'
   cases hS'
   exact a4
  ·have z:=qaI.mp a5 n' hn'
   have e':Ey K n'=some C':=by unfold Ey;rw [hC']
   rw [e'] at z
   exact beq_iff_eq.mp z
 ·cases h
section
variable {X:Cx} {E:XK}
theorem ZF {x:Str} {a:Addr} {pos:Pos} (hg:Gl X x) (hn:nsIn X.K mainGlobals x=some (some (.ref a))) (hd:(x==("__debug__":Str))=false:=by decide):Ev X E (.Name x pos) (mC (.glo x)):=
 fun pins s σ H Q I z1_=>by obtain ⟨m,ρ,h,hr,er,p⟩:=z1_;exact (Fs I hg (mg_of I.mod.kin I.mod.glob hn) ⟨.ref a,H,I,rfl,p (.ref a) m H (Ax _) (.refl _) hr (by simp only [rD,DV];exact ⟨a,rfl,hn⟩)⟩ hd)
def DT {α:Type}:Out α→Prop
 |.err _ _ _=>False
 |_=>True
theorem Post.noE {α β:Type} {K:Frag} {R:List Addr→Hp→α→β→Prop} {m:List Addr} {H:Hp} {E E':XK} {Q:β→Hp→Prop} {o:Out α} (n:DT o) (h:Post K R m H E Q o):Post K R m H E' Q o:=by
 cases o with
 |ok a h1=>exact h
 |err C fs h1=>exact False.elim n
 |stuck=>exact h
theorem ZG {f:Value} {F:List D→HD→Out D} (hF:∀ds h,DT (F ds h))
 (hc:∀(pins:List (Addr×Obj)) (s:Shared) (σ:L2.St) (H:Hp) (m:List Addr) (h:HD) (ds:List D) (vs:List V) (us:List Value) (Q:VK),Inv X pins σ H s→HR X.K m h H→DVs X.K m H ds vs→Vals vs us→Post X.K (rD X.K) m H E0 Q (F ds h)→
  wpAny (model X.prog X.w) X.A (call f us) (EP X pins σ Q) X.xe s):Dj X f F:=
 ⟨fun vs H Q=>∃m h ds,HR X.K m h H∧DVs X.K m H ds vs∧Post X.K (rD X.K) m H E0 Q (F ds h),fun pins s σ H vs us Q I r z2_=>by obtain ⟨m,h,ds,hr,rd,q⟩:=z2_;exact (hc pins s σ H m h ds vs us Q I hr rd r q),fun m H h E ds vs Q hr rd q=>⟨m,h,ds,hr,rd,Post.noE (hF ds h) q⟩⟩
def AC:D→D→HD→Out D:=fun x y h=>match x with
 |.exc n _=>(match y with
  |.glo n'=>if n∈excNames∧n'∈excNames then .ok (.bl (BL n n')) h else .stuck
  |.ty T=>if n∈excNames∧T="ValueError" then .ok (.bl true) h else .stuck
  |_=>.stuck)
 |.edic=>(match y with
  |.ty T=>(match Kb "dict" T with
   |some b=>.ok (.bl b) h
   |none=>.stuck)
  |_=>.stuck)
 |_=>BA x y h
theorem ZH (pins:List (Addr×Obj)) (s:Shared) (σ:L2.St) (H:Hp) (m:List Addr) (h:HD) (x y:D) (v v':V) (u u':Value) (Q:VK) (I:Inv X pins σ H s) (hr:HR X.K m h H) (rx:DV X.K m H x v) (ry:DV X.K m H y v') (r:RelV v u) (r':RelV v' u')
 (q:Post X.K (rD X.K) m H E0 Q (BA x y h)):wpAny (model X.prog X.w) X.A (call (.builtin "isinstance") [u,u']) (EP X pins σ Q) X.xe s:=by
 unfold BA at q
 split at q
 ·rename_i T t et
  split at q
  ·rename_i b eb
   simp only [DV] at ry
   subst ry
   cases (show u'=Value.type T from r')
   exact Wq I r (YI hr rx et) (P9 eb) fun tk=>⟨.bl b,H,I.tok _,rfl,AI hr q (by simp [DV])⟩
  ·exact q.elim
 ·exact q.elim
theorem ZI (et:etOk X.K=true):Dj X (.builtin "isinstance") (A6 AC):=by
 refine ZG (fun ds h=>?_) fun pins s σ H m h ds vs us Q I hr rd r q=>J4 rd q fun x y v v' ev rx ry q=>?_
 ·unfold A6 AC BA
  repeat' split
  all_goals trivial
 ·subst ev
  obtain ⟨u,u',rfl,r1,r2⟩:=Ik r
  unfold AC at q
  split at q
  ·rename_i n fs
   simp only [DV] at rx
   obtain ⟨a,C,da,rfl,hC,ha,_⟩:=rx
   cases (show u=Value.ref a from r1)
   obtain ⟨⟨o,ws,ho,hcl,hdi,hdat⟩,_⟩:=(show ObjOk X.prog X.w H s.heap a (.ext (Fw C da a)) from I.hok a _ ha)
   have key:∀(c:Value) (b:Bool),EC X.K C→kitOne X.K (.ref C) c=some b→Q (.bl b) H→wpAny (model X.prog X.w) X.A (call (.builtin "isinstance") [.ref a,c]) (EP X pins σ Q) X.xe s:=by
    intro c b ec e q
    exact kia_one (ZD ec) I.kIn ⟨o,ho,hcl⟩ e (fun z=>nomatch z) fun tk=>⟨.bl b,H,I.tok _,rfl,q⟩
   split at q
   ·rename_i n'
    split at q
    ·rename_i hn
     simp only [DV] at ry
     obtain ⟨C',rfl,hC'⟩:=ry
     cases (show u'=Value.ref C' from r2)
     have t:=Ks et hn.1 hC
     exact key _ _ t.ec (t.sub n' C' hn.2 hC') (AI hr q (by simp [DV]))
    ·exact q.elim
   ·rename_i T
    split at q
    ·rename_i hn
     simp only [DV] at ry
     subst ry
     cases (show u'=Value.type T from r2)
     obtain ⟨hn,rfl⟩:=hn
     have t:=Ks et hn hC
     exact key _ _ t.ec t.ve (AI hr q (by simp [DV]))
    ·exact q.elim
   ·exact q.elim
  ·split at q
   ·rename_i T
    split at q
    ·rename_i b eb
     simp only [DV] at rx ry
     obtain ⟨a,rfl,ha⟩:=rx
     subst ry
     cases (show u=Value.ref a from r1)
     cases (show u'=Value.type T from r2)
     obtain ⟨⟨_,o,ep,ho,hx,hd⟩,_⟩:=(show ObjOk X.prog X.w H s.heap a (.ext (Mj a)) from I.hok a _ ha)
     exact kia_one kitx_dict I.kIn ⟨o,ho,hx.1⟩ (P9 eb) (fun z=>nomatch z) fun tk=>⟨.bl b,H,I.tok _,rfl,AI hr q (by simp [DV])⟩
    ·exact q.elim
   ·exact q.elim
  ·exact ZH pins s σ H m h x y v v' u u' Q I hr rx ry r1 r2 q
end
section
variable {X:Cx} {E:XK}
def BJ (chk:D→HD→Out D) (op:D→D→HD→Out D) (f g:ME):ME:=fun ρ h=>((f ρ h).bind chk).bind fun x h1=>(g ρ h1).bind fun y h2=>op x y h2
def QP (X:Cx) (T:String) (x:V) (H:Hp):Prop:=∀(pins:List (Addr×Obj)) (σ:L2.St) (s:Shared) (u:Value),Inv X pins σ H s→RelV x u→s.TypeIs u T∧∀a,u=.ref a→∃ob,s.heap.get? a=some ob∧ob.dict=none
def ZJ (X:Cx) (T:String) (r:V→List V→Hp→VK→Prop) (to:TE) (t:TA):TE:=fun σ H Q=>to σ H fun x H1=>QP X T x H1∧t σ H1 fun xs H2=>r x xs H2 Q
theorem ZK {o e:Expr} {es:List Expr} {to:TE} {t:TA} {name:Str} {apos cpos:Pos} {T id:String} {r:V→List V→Hp→VK→Prop} (pa:PlainAttrs T) (slot:Slot T name id) (hty:typeOf (.builtin id)=pure (.type "method_descriptor")) (hm:Il X id r) (ho:PE X o to) (ha:PA X (e::es) t)
 (hbase:attributeBase o name X.env (eval o X.env)=eval o X.env:=by rfl)
 (hfew:((backTo cpos (starEach (e::es) X.env)).all (fun x=>!x.1)&&(backToKw cpos (keywordEach [] X.env)).all (fun x=>x.1.isSome)
  &&decide ((e::es).length+([]:List Keyword).length+(if ([]:List Keyword).isEmpty then 0 else 1)<30))=true:=by rfl)
 (hline:(apos.endLine==cpos.line)=true:=by rfl) (hs:starEach (e::es) X.env=(false,eval e X.env)::starEach es X.env:=by rfl) (hplain:(backTo cpos (starEach es X.env)).any (·.1)=false:=by rfl):
 PE X (.Call (.Attribute o name apos) (e::es) [] cpos) (ZJ X T r to t):=by
 intro pins s σ H Q I h
 refine wpAny_Call_method_late hbase hfew hline rfl (Am (ho pins s σ H _ I h) fun v s1 z1_=>?_)
 obtain ⟨x,H1,I1,r1,ty,q1⟩:=z1_
 obtain ⟨h1,h2⟩:=ty pins σ s1 v I1 r1
 refine ⟨T,id,pa,slot,hty,h1,h2,?_⟩
 have hA:=ha cpos pins s1 σ H1 _ I1 q1
 rw [hs] at hA ⊢
 refine Calls.callWith_builtin (by show (false||(backTo cpos (starEach es X.env)).any (·.1))=false;rw [hplain]<;>rfl) (Calls.evalArgs_plain ?_)
 exact Am hA fun us s2 z2_=>by obtain ⟨vs,H2,I2,r2,q2⟩:=z2_;exact (hm pins s2 σ H2 x vs v us Q I2 r1 r2 q2)
structure M4 (X:Cx) (T:String) (chk:D→HD→Out D):Prop where
 two:∀x h,chk x h=.ok x h∨chk x h=.stuck
 ty:∀m H h x v,HR X.K m h H→DV X.K m H x v→chk x h=.ok x h→QP X T v H
def FG (X:Cx) (id:String) (op:D→D→HD→Out D):Prop:=
 ∀(pins:List (Addr×Obj)) (s:Shared) (σ:L2.St) (H:Hp) (m:List Addr) (h:HD) (x y:D) (v yv:V) (u uy:Value) (Q:VK),Inv X pins σ H s→HR X.K m h H→DV X.K m H x v→DV X.K m H y yv→RelV v u→RelV yv uy→Post X.K (rD X.K) m H E0 Q (op x y h)→
  wpAny (model X.prog X.w) X.A (call (.builtin id) [u,uy]) (EP X pins σ Q) X.xe s
theorem Hk {o e:Expr} {f g:ME} {name:Str} {T id:String} {chk:D→HD→Out D} {op:D→D→HD→Out D} {apos cpos:Pos} (pa:PlainAttrs T) (slot:Slot T name id) (hty:typeOf (.builtin id)=pure (.type "method_descriptor"))
 (hc:M4 X T chk) (hn:∀x y h,DT (op x y h)) (hm:FG X id op) (ho:Ev X E o f) (he:Ev X E e g)
 (hbase:attributeBase o name X.env (eval o X.env)=eval o X.env:=by rfl)
 (hfew:((backTo cpos (starEach [e] X.env)).all (fun x=>!x.1)&&(backToKw cpos (keywordEach [] X.env)).all (fun x=>x.1.isSome)
  &&decide ([e].length+([]:List Keyword).length+(if ([]:List Keyword).isEmpty then 0 else 1)<30))=true:=by rfl)
 (hline:(apos.endLine==cpos.line)=true:=by rfl) (hs:starEach [e] X.env=(false,eval e X.env)::starEach [] X.env:=by rfl) (hplain:(backTo cpos (starEach [] X.env)).any (·.1)=false:=by rfl):
 Ev X E (.Call (.Attribute o name apos) [e] [] cpos) (BJ chk op f g):=by
 have hr:Il X id (fun v vs H Q=>∃m h x y yv,vs=[yv]∧HR X.K m h H∧DV X.K m H x v∧DV X.K m H y yv∧Post X.K (rD X.K) m H E0 Q (op x y h)):=by
  rintro pins s σ H v vs u us Q I r rs ⟨m,h,x,y,yv,ev,hr,rx,ry,q⟩
  subst ev
  obtain ⟨uy,rfl,r2⟩:=E4 rs
  exact hm pins s σ H m h x y v yv u uy Q I hr rx ry r r2 q
 refine BH (ZK pa slot hty hr ho (G4 he Ir hs) hbase hfew hline hs hplain) fun σ H Q z3_=>?_
 obtain ⟨m,ρ,h,hr,er,p⟩:=z3_
 refine ⟨m,ρ,h,hr,er,?_⟩
 unfold BJ at p
 rw [Out.bind_assoc] at p
 refine Post.bind p fun x h1 v m1 H1 eo p1 k1 hr1 r1 q1=>?_
 clear eo
 rcases hc.two x h1 with ec |ec
 ·rw [ec] at q1
  simp only [Out.bind_ok] at q1
  refine ⟨hc.ty m1 H1 h1 x v hr1 r1 ec,m1,ρ,h1,hr1,er.keep p1 k1,?_⟩
  have q2:Post X.K (rD X.K) m1 H1 E Q ((Aa g Ac ρ h1).bind fun ys h2=>match ys with
   |[y]=>op x y h2
   |_=>.stuck):=by
   unfold Aa Ac
   rw [Out.bind_assoc]
   exact q1
  refine Post.bind q2 fun ys h2 vs m2 H2 eo p2 k2 hr2 r2 q3=>?_
  clear eo
  split at q3
  ·rename_i y
   simp only [FV,DVs] at r2
   obtain ⟨yv,w,rfl,ry,rfl⟩:=r2
   exact ⟨m2,h2,x,y,yv,rfl,hr2,DV.keep p2 k2 r1,ry,Post.noE (hn x y h2) q3⟩
  ·exact q3.elim
 ·rw [ec] at q1
  exact q1.elim
theorem M5:M4 X "list" B0 where
 two:=fun x h=>by
  unfold B0
  split
  ·split
   ·exact .inl rfl
   ·exact .inr rfl
  ·exact .inr rfl
 ty:=fun m H h x v hr r e=>by
  unfold B0 at e
  split at e
  ·rename_i l
   split at e
   ·rename_i ds el
    simp only [DV] at r
    obtain ⟨a,rfl,ha⟩:=r
    obtain ⟨ws,hv,dv⟩:=hr.cells l _ a el ha
    exact fun pins σ s u I ru=>JQ I ru (.inl ⟨rfl,ws,SqL.of hv⟩)
   ·cases e
  ·cases e
def Hl (x:V) (xs:List V):Nat:=xs.countP fun y=>D0 y x
theorem QR {x:V}:∀{xs:List V} {us:List Value},Vals xs us→xs.all DN=true→us.countP (B7 x)=Hl x xs
 |_,_,.nil,_=>rfl
 |y::xs,u::us,.cons r t,f=>by
  rw [List.all_cons,BX] at f
  unfold Hl
  rw [List.countP_cons,List.countP_cons,JP r f.1,QR t f.2]
  rfl
def Hm:D→D→HD→Out D:=fun x y h=>match Bj x h with
 |none=>.stuck
 |some ds=>match CB y,AN (ds.map CB) with
  |some v,some vs=>.ok (.int (Hl v vs)) h
  |_,_=>.stuck
theorem ZL (x y:D) (h:HD):DT (Hm x y h):=by
 unfold Hm
 repeat' split
 all_goals trivial
def Gf:D→D→HD→Out D:=fun x y h=>(B0 x h).bind fun _ _=>Hm x y h
theorem ZM:FG X "list.count" Gf:=by
 intro pins s σ H m h x y v yv u uy Q I hr rx ry r r2 q
 unfold Gf at q
 rcases (M5 (X:=X)).two x h with ec |ec
 ·rw [ec] at q
  simp only [Out.bind_ok] at q
  unfold B0 at ec
  split at ec
  ·rename_i l
   split at ec
   ·rename_i ds el
    unfold Hm Bj at q
    simp only [el] at q
    split at q
    ·rename_i w ws e1 e2
     simp only [DV] at rx
     obtain ⟨a,rfl,ha⟩:=rx
     cases (show u=Value.ref a from r)
     obtain ⟨vs,hv,dv⟩:=hr.cells l _ a el ha
     obtain ⟨h1,h2⟩:=J2 ry e1
     obtain ⟨h3,h4⟩:=J3 dv e2
     subst h1 h3
     obtain ⟨z,its,n,rr,hl,e⟩:=I.lstM hv
     refine call_meets F.slot_list_count ⟨_,e,rfl⟩ F.entry_list_count (F.args_list_count_2 _ _) (PySem.SeqAt.list_countAt a its.toArray n none #[] uy (B7 yv)) ⟨e,fun w hw=>FU r2 h2 rr h4 w (by simpa using hw),?_⟩
     refine ⟨.int _,H,I.tok _,⟨_,rfl⟩,?_⟩
     rw [show (its.toArray.toList.countP (B7 yv))=Hl yv vs by rw [←QR rr h4]]
     exact AI hr q (by simp [DV])
    ·exact q.elim
   ·cases ec
  ·cases ec
 ·rw [ec] at q;exact q.elim
def Kt (x:V) (xs:List V):Option Nat:=xs.findIdx? fun y=>D0 y x
def Gg:D→D→HD→Out D:=fun x y h=>match x with
 |.loc l=>(match h[l]? with
  |some (.lst ds)=>(match CB y,AN (ds.map CB) with
   |some v,some vs=>(match Kt v vs with
    |some j=>.ok (.int j) h
    |none=>.stuck)
   |_,_=>.stuck)
  |_=>.stuck)
 |_=>.stuck
theorem ZN (x y:D) (h:HD):DT (Gg x y h):=by
 unfold Gg
 repeat' split
 all_goals trivial
theorem ZO (x y:D) (h:HD):DT (Gf x y h):=by
 unfold Gf
 rcases (show B0 x h=.ok x h∨B0 x h=.stuck by
  unfold B0
  split
  ·split
   ·exact .inl rfl
   ·exact .inr rfl
  ·exact .inr rfl) with e |e
 ·rw [e];exact ZL x y h
 ·rw [e];trivial
theorem QT {xs:List V} {us:List Value} (r:Vals xs us) {x:V} (f:xs.all DN=true) {j:Nat} (hj:j<us.length):B7 x us[j]=D0 (xs[j]'(by rw [r.length];exact hj)) x:=by
 have hx:j<xs.length:=by rw [r.length];exact hj
 obtain ⟨u,e,ru⟩:=r.get (BK hx)
 rw [BK hj] at e
 cases e
 exact JP ru (qaI.mp f _ (HZ hx))
theorem ZP:FG X "list.index" Gg:=by
 intro pins s σ H m h x y v yv u uy Q I hr rx ry r r2 q
 unfold Gg at q
 split at q
 ·rename_i l
  split at q
  ·rename_i ds el
   split at q
   ·rename_i w ws e1 e2
    split at q
    ·rename_i j ej
     simp only [DV] at rx
     obtain ⟨a,rfl,ha⟩:=rx
     cases (show u=Value.ref a from r)
     obtain ⟨vs,hv,dv⟩:=hr.cells l _ a el ha
     obtain ⟨h1,h2⟩:=J2 ry e1
     obtain ⟨h3,h4⟩:=J3 dv e2
     subst h1 h3
     obtain ⟨z,its,n,rr,hl,e⟩:=I.lstM hv
     unfold Kt at ej
     rw [List.findIdx?_eq_some_iff_getElem] at ej
     obtain ⟨hj,hit,hno⟩:=ej
     have hji:j<its.length:=by rw [←hl];exact hj
     have hsl:(j:Int)<2^63 - 1:=by have:=Fv;omega
     refine call_meets F.slot_list_index ⟨_,e,rfl⟩ F.entry_list_index (F.args_list_index_2 _ _) (PySem.SeqAt.list_indexAt a its.toArray n none #[] uy (B7 yv) j (by simpa using hji) hsl ?_ ?_) ⟨e,fun w hw=>FU r2 h2 rr h4 w (by simpa using hw),?_⟩
     ·have:=QT rr h4 (x:=yv) hji
      simp only [List.getElem_toArray]
      rw [this];exact hit
     ·intro k hk hkj
      have hk':k<its.length:=by simpa using hk
      have:=QT rr h4 (x:=yv) hk'
      simp only [List.getElem_toArray]
      rw [this]
      simpa using hno k hkj
     ·exact ⟨.int _,H,I.tok _,⟨_,rfl⟩,AI hr q (by simp [DV])⟩
    ·exact q.elim
   ·exact q.elim
  ·exact q.elim
 ·exact q.elim
end
variable {g:Str}
theorem ZQ {pos:Pos} {l r:List Value} {cv:Value} (_:TriplesOk l) (e:codeAmong pos l=some cv):codeAmong pos (l++r)=some cv:=by
 rename_i ht
 clear ht
 fun_induction codeAmong pos l with
 |case1 line t col u c rest h=>rw [DK,DK,DK,codeAmong,if_pos h];exact e
 |case2 line t col u c rest h ih=>rw [DK,DK,DK,codeAmong,if_neg h];exact ih e
 |case3=>cases e
theorem QU {pos p2:Pos} {c cv:Value}:∀{l:List Value},TriplesOk l→codeAmong p2 (l++[rawInt pos.line,rawInt pos.col,c])=some cv→codeAmong p2 l=some cv∨cv=c
 |[],_,e=>by
  simp only [Fp,rawInt,codeAmong] at e
  split at e
  ·exact .inr (Option.some.inj e).symm
  ·cases e
 |.int i t::.int j u::c'::l,h,e=>by
  simp only [codeAmong,DK] at e ⊢
  split at e
  ·rename_i z
   rw [if_pos z];exact .inl e
  ·rename_i z
   rw [if_neg z];exact QU (by simpa [TriplesOk] using h) e
theorem HR.tab {K:Frag} {m:List Addr} {h:HD} {H H':Hp} {P:Addr} {g:Str} {l0:Nat} (r:HR K m h H) (k:Kp H H') (s:∀b,b≠P→H b≠none→H' b=H b) (t:TabIs K g H' P) (tt:TabIs K g H P) (hl0:h[l0]?=some (.tabn g)) (hm0:m[l0]?=some P):HR K m h H':=by
 refine ⟨r.len,r.nd,fun l c a e q=>?_⟩
 have hm:a∈m:=EV q
 have hn:H a≠none:=r.mem hm
 have:=r.cells l c a e q
 cases c with
 |lst ds=>
  obtain ⟨vs,e1,e2⟩:=this
  have ha:a≠P:=by
   rintro rfl
   obtain ⟨_,ps,z,_⟩:=tt
   rw [z] at e1;cases e1
  exact ⟨vs,by rw [s a ha hn];exact e1,e2.keep (Ax _) k⟩
 |ins n fs=>
  obtain ⟨C,dx,fv,e0,e1,e2⟩:=this
  have ha:a≠P:=by
   rintro rfl
   obtain ⟨_,ps,z,_⟩:=tt
   rw [z] at e1;cases e1
  exact ⟨C,dx,fv,e0,by rw [s a ha hn];exact e1,e2.keep (Ax _) k⟩
 |tabn g'=>
  by_cases ha:a=P
  ·subst ha
   have hl:l=l0:=by
    obtain ⟨h1,e1⟩:=qa1.mp q
    obtain ⟨h2,e2⟩:=qa1.mp hm0
    exact (List.getElem_inj r.nd).mp (e1.trans e2.symm)
   subst hl
   rw [hl0] at e
   cases e
   exact t
  ·exact TabIs.keep this k (s a ha hn)
 |dic fz kvs=>
  obtain ⟨es,e1,e2⟩:=this
  have ha:a≠P:=by
   rintro rfl
   obtain ⟨_,ps,z,_⟩:=tt
   cases fz with
   |true=>obtain ⟨o,q⟩:=e1;rw [z] at q;cases q
   |false=>exact absurd (z.symm.trans e1) (by intro w;cases w)
  exact ⟨es,e1.same (s a ha hn),e2.keep (Ax _) k⟩
structure LamX (g:Str) (X:Cx) (c P:Addr):Prop where
 code:X.env.code=.ref c
 tp:tabP X.K g=some (c,P)
 hd:codeHdIn X.K c P=true
 qual:X.env.qual=Pp g
 bm:∃bm o,X.mg "__builtins__"=some (.ref bm)∧bm≠builtinsNs∧X.base.get? bm=some o∧o.cls=.type "module"∧o.dict=some builtinsNs∧o.data=.plain
section
variable {X:Cx} {E:Value→Shared→Prop} {c P:Addr} {pins:List (Addr×Obj)} {σ:L2.St} {H:Hp} {s:Shared}
theorem LamX.builtins (L:LamX g X c P) (I:Inv X pins σ H s) (t:TabIs X.K g H P):s.heap.BuiltinsAt X.mg P:=by
 obtain ⟨bm,o,h1,h2,h3,h4,h5,h6⟩:=L.bm
 obtain ⟨e,n⟩:=I.bs bm o h3
 refine ⟨bm,o,h1,h2,fun z=>?_,fun z=>?_,e,h4,h5,h6⟩
 ·obtain ⟨og,es,ep,e1,e2,_⟩:=I.mod.glob
  rw [z,e1] at h3
  cases h3
  rw [e2] at h6;cases h6
 ·obtain ⟨_,ps,q,_⟩:=t
  rw [z,q] at n;cases n
theorem ZR {params:Arguments} {body:Expr} {scope:Scope} {pos:Pos} {clos:List (Str×Addr)} {Q:Value→Shared→Prop} {A:Around} (L:LamX g X c P) (I:Inv X pins σ H s) (t:TabIs X.K g H P) (hdef:defaultsOf params X.env=([],[])) (hcl:closureFor scope X.env=pure clos)
 (k:∀(f' c':Addr) (ctv pm:Value) (h':Heap) (tk:Nat) (H':Hp),Inv X pins σ H' {s with heap:=h',toks:=tk}→Kp H H'→TabIs X.K g H' P→(∀b,b≠P→H b≠none→H' b=H b)→(∀b o,b≠P→s.heap.get? b=some o→h'.get? b=some o)→s.heap.objs.size≤f'→
  H' f'=none→h'.get? f'=some (kla_obj "<lambda>" (Bi g) params body scope clos pm c' ctv)→(∃ps,H' P=some (.tbl ps)∧codeAmong pos ps.toList=some (.ref c'))→Q (.ref f') {s with heap:=h',toks:=tk}):
 wpAny (model X.prog X.w) A (eval (.Lambda params body scope pos) X.env) Q E s:=by
 have hB:=L.builtins I t
 have hg:s.heap.Ns mainGlobals X.mg:=I.mod.glob.keeps I.bk
 have hCd:CodeHd s.heap c P:=codeHd_of_K I.kIn L.hd
 obtain ⟨ht1,ps,hps,htr,hcs⟩:=id t
 have hP:s.heap.get? P=some (tabObj ps):=I.hok P _ hps
 have hgP:mainGlobals≠P:=fun z=>by
  obtain ⟨og,es,ep,e1,e2,_⟩:=I.mod.glob
  have:=(I.bs _ _ e1).2
  rw [z,hps] at this;cases this
 have hq:X.env.qual++"<lambda>"=(Bi g):=by rw [L.qual];rfl
 refine kla_eval hdef ?_
 rw [hq]
 cases hc:codeAmong pos ps.toList with
 |some cv=>
  obtain ⟨c',rfl,hx⟩:=hcs pos cv hc
  refine kla_makeFunctionHit (mg:=X.mg) hcl I.ok.glob hg L.code hCd hP htr hc hB fun ctv h' tk hk hsz=>?_
  have hk2:∀b o,s.heap.get? b=some o→(h'.push (kla_obj "<lambda>" (Bi g) params body scope clos ((X.mg "__name__").getD .none) c' ctv)).get? b=some o:=fun b o e=>A5 _ (hk b o e)
  exact k _ c' ctv _ _ tk H (I.kept hk2) (.refl _) t (fun _ _ _=>rfl) (fun b o _ e=>hk2 b o e) hsz (I.hok.fresh hsz) (BM _ rfl) ⟨ps,hps,hc⟩
 |none=>
  refine kla_makeFunction (mg:=X.mg) hcl I.ok.glob hg L.code hCd hP htr hc hgP hB fun c' ctv h' tk hx hge hlt hrec htb=>?_
  generalize ho:kla_obj "<lambda>" (Bi g) params body scope clos ((X.mg "__name__").getD .none) c' ctv=fo
  have hk2:∀b o,b≠P→s.heap.get? b=some o→(h'.push fo).get? b=some o:=fun b o hb e=>A5 _ (hx b o hb e)
  have hPs:P<s.heap.objs.size:=AH hP
  have hc'P:c'≠P:=Hb (Bc hPs hge)
  have hc'n:H c'=none:=I.hok.fresh hge
  generalize hps':ps++#[rawInt pos.line,rawInt pos.col,.ref c']=ps' at htb
  have tl:ps'.toList=ps.toList++[rawInt pos.line,rawInt pos.col,.ref c']:=by rw [←hps'];simp
  have hH:∀b,b≠P→H b≠none→Aj (Aj H P (.tbl ps')) c' (.ext (G2 (Bi g) c')) b=H b:=fun b hb hn=>by
   have:b≠c':=fun z=>hn (z ▸ hc'n)
   rw [AB this,AB hb]
  have hHP:Aj (Aj H P (.tbl ps')) c' (.ext (G2 (Bi g) c')) P=some (.tbl ps'):=by rw [AB (Ne.symm hc'P),Cy]
  have kp:Kp H (Aj (Aj H P (.tbl ps')) c' (.ext (G2 (Bi g) c'))):=fun b o e i=>by
   have:b≠P:=fun z=>by rw [z,hps] at e;cases e;cases i
   rw [hH b this (by rw [e];simp)];exact e
  have lt':∀b o,s.heap.get? b=some o→b≠c':=fun b o e=>Dw (Bc (AH e) hge)
  have un:Un X.fs [] H (Aj (Aj H P (.tbl ps')) c' (.ext (G2 (Bi g) c'))) s.heap (h'.push fo):=by
   have neP:∀{b},H b=none→b≠P:=fun {b} n z=>by rw [z,hps] at n;cases n
   refine ⟨fun b o e n _ _=>hk2 b o (neP n) e,fun b o e n _ _=>⟨o.slots,hk2 b o (neP n) e⟩,fun b o e n _=>?_,fun b o e _=>?_,fun b xs e=>?_,fun b o u e=>?_,fun b qs e=>?_⟩
   ·rw [AB (lt' b o e),AB (neP n)];exact n
   ·by_cases hb:b=P
    ·subst hb;exact ⟨_,A5 _ htb⟩
    ·exact ⟨o,hk2 b o hb e⟩
   ·rw [hH b (fun z=>by rw [z,hps] at e;cases e) (by rw [e];simp)];exact e
   ·rw [hH b (fun z=>by rw [z,hps] at e;cases e) (by rw [e];simp)];exact e
   ·by_cases hb:b=P
    ·subst hb
     rw [hps] at e;cases e
     exact ⟨_,by rw [hHP,←hps']⟩
    ·exact ⟨#[],by rw [hH b hb (by rw [e];simp),e];simp⟩
  have hok:HOk X.prog X.w (Aj (Aj H P (.tbl ps')) c' (.ext (G2 (Bi g) c'))) (h'.push fo):=by
   intro b o e
   by_cases hb:b=c'
   ·subst hb
    rw [Cy] at e
    cases e
    have r1:(h'.push fo).CodeRec (.ref b) (Bi g):=hrec.keeps fun b o e=>A5 _ e
    refine ⟨r1,?_,fun h1 h2 z1 z2=>?_⟩
    ·obtain ⟨c2,oc,vs,t2,e1,e2,_⟩:=r1
     cases e1
     exact ⟨oc,e2⟩
    ·obtain ⟨c2,oc,vs,t2,e1,e2,e3⟩:=z1
     cases e1
     exact ⟨_,oc,vs,t2,rfl,z2 _ e2,e3⟩
   ·by_cases hbP:b=P
    ·subst hbP
     rw [hHP] at e
     cases e
     exact A5 _ htb
    ·rw [AB hb,AB hbP] at e
     refine (I.hok b o e).stay (fun d u hd q=>hk2 d u ?_ q) (fun d q=>?_) fun d xs q=>?_
     ·rcases hd with rfl |hd
      ·exact hbP
      ·exact fun z=>by rw [z,hps] at hd;cases hd
     ·rw [hH d (fun z=>by rw [z,hps] at q;cases q) (by rw [q];simp)];exact q
     ·rw [hH d (fun z=>by rw [z,hps] at q;cases q) (by rw [q];simp)];exact q
  have hsz:s.heap.objs.size≤h'.objs.size:=Fq (Nat.lt_of_le_of_lt hge hlt)
  refine k _ c' ctv ((X.mg "__name__").getD .none) _ tk _ (I.un un hok) kp ⟨ht1,ps',hHP,?_,fun p2 cv e=>?_⟩ hH hk2 hsz ?_ (by rw [←ho];exact BM _ rfl) ⟨ps',hHP,?_⟩
  ·rw [tl];exact TriplesOk_snoc _ _ _ _ htr
  ·rw [tl] at e
   rcases QU htr e with z |z
   ·obtain ⟨c2,z1,z2⟩:=hcs p2 cv z
    exact ⟨c2,z1,kp _ _ z2 rfl⟩
   ·exact ⟨c',z,Cy⟩
  ·have n1:h'.objs.size≠c':=Hb hlt
   have n2:h'.objs.size≠P:=Hb (Bc hPs hsz)
   rw [AB n1,AB n2];exact I.hok.fresh hsz
  ·rw [tl];exact codeAmong_snoc _ htr hc
end
end LS
namespace LS
open PySem PySem.Spec PyProof.Rows L2 PySem.W
variable {g:Str}
def Ez (g:Str) (P:Program) (w:World) (K:Frag) (mg:Str→Option Value) (base:Heap) (N:List Str) (scope:Scope) (a:Addr) (cd:Value) (cl:List (Str×Addr)) (A:Around) (outer:List Env) (s:Shared) (H:Hp) (E:XK):Cx where
 prog:=P
 w:=w
 K:=K
 mg:=mg
 base:=base
 A:=A.deeper (envX (Bi g) scope s.heap.objs.size a cd cl)
 N:=N
 s₀:=s
 H₀:=H
 env:=envX (Bi g) scope s.heap.objs.size a cd cl
 outer:=outer
 stack:=envX (Bi g) scope s.heap.objs.size a cd cl::outer
 ex:=[]
 calm:=true
 fn:=fun _=>false
 pn:=[]
 xe:=fun e s'=>wpAny (model P w) (A.deeper (envX (Bi g) scope s.heap.objs.size a cd cl)) (leaving (envX (Bi g) scope s.heap.objs.size a cd cl) e) (fun _ s''=>AO P w K outer H s E e s'') (fun e' s''=>AO P w K outer H s E e' s'') s'
theorem ZS {P:Program} {w:World} {K:Frag} {mg:Str→Option Value} {base:Heap} {N:List Str} {scope:Scope} {a:Addr} {cd:Value} {cl:List (Str×Addr)} {A:Around} {outer:List Env} {s:Shared} {H:Hp} {E:XK}:
 Lv (Ez g P w K mg base N scope a cd cl A outer s H E) E:=⟨fun _ _ h=>h,rfl,rfl,rfl⟩
theorem IH {P:Program} {w:World} {K:Frag} {mg:Str→Option Value} {base:Heap} {N:List Str} {scope:Scope} {a:Addr} {cd:Value} {cl:List (Str×Addr)} {A:Around} {outer:List Env} {s:Shared} {H:Hp} {E:XK}:
 CM (AO P w K) (Ez g P w K mg base N scope a cd cl A outer s H E) E:=MW ZS
structure II (h:Heap) (H:Hp) (outer:List Env) (N:List Str) (scope:Scope) (cl:List (Str×Addr)) (vs:List V):Prop where
 len:vs.length=N.length
 inj:∀x y c,cl.lookup x=some c→cl.lookup y=some c→x=y
 has:∀x,scope.names.lookup x=some .free→∃c,cl.lookup x=some c
 cell:∀x c,cl.lookup x=some c→(∃v,h.IsCell c v)∧H c=none∧c∉frs outer
 val:∀(i:Nat) (x:Str) (v:V),N[i]?=some x→vs[i]?=some v→scope.names.lookup x=some .free∧∃c u,cl.lookup x=some c∧h.IsCell c (some u)∧RelV v u
structure LamSc (scope:Scope):Prop where
 kind:scope.kind=.function
 co:scope.isCoroutine=false
 gen:scope.isGenerator=false
 only:(scope.names.all fun y=>y.2 != .cell)=true
theorem LamSc.nocell {scope:Scope} (S:LamSc scope):∀x∈scope.names,x.2≠.cell:=fun x hx e=>by
 have:=qaI.mp S.only x hx
 rw [e] at this
 simp at this
section
variable {P:Program} {w:World} {K:Frag} {mg:Str→Option Value} {base:Heap} {N:List Str} {scope:Scope} {a c':Addr} {pm ctv:Value} {params:Arguments} {body:Expr} {cl:List (Str×Addr)} {A:Around} {outer:List Env} {s:Shared} {H:Hp} {E:XK} {vs:List V}
theorem ZT {cd:Value} {h1:Heap} {t1:Nat} (S:LamSc scope) (hd:A.handled=none) (e0:Env0 P w K mg base A outer s H) (C:II s.heap H outer N scope cl vs) (ns:h1.Ns s.heap.objs.size (fun _=>none)) (hk:∀b o,s.heap.get? b=some o→h1.get? b=some o):
 Inv (Ez g P w K mg base N scope a cd cl A outer s H E) [] (vs.map some) H {s with heap:=h1,toks:=t1}:=by
 have noA:∀b:Addr,b∉(Ez g P w K mg base N scope a cd cl A outer s H E).ex:=fun b z=>absurd (show b∈([]:List Addr) from z) (by simp)
 refine ⟨⟨e0.mod,S.kind,rfl,rfl,Au _,C.inj,fun x hx=>?_,fun x c hf=>(by cases hf),fun _=>hd,Around.frames_deeper e0.frames,.inr ⟨rfl,rfl⟩,fun b z=>absurd z (noA b),e0.bs,e0.bsz,fun b _ _=>noA b,fun b z=>absurd z (noA b),e0.funs,e0.frf⟩,
  rfl,e0.bare,Un.kept hk,⟨_,ns,fun i x v e1 e2 _=>?_⟩,fun x c e=>?_,e0.hok.fresh (Au _),fun x c e=>(C.cell x c e).2.1,fun p hp=>absurd (show p∈([]:List (Addr×Obj)) from hp) (by simp),e0.hok.kept hk,?_⟩
 ·have hx':scope.names.lookup x=some .cell∨scope.names.lookup x=some .free:=hx
  rcases hx' with z |z
  ·exact absurd rfl (S.nocell _ (mem_of_lookup z))
  ·exact C.has x z
 ·rw [CK] at e2
  cases ev:vs[i]? with
  |none=>rw [ev] at e2;cases e2
  |some v'=>
   rw [ev] at e2
   cases e2
   obtain ⟨hf,c,u,e3,e4,r⟩:=C.val i x v e1 ev
   exact ⟨u,r,.inr ⟨.inr hf,c,e3,e4.keeps hk⟩⟩
 ·obtain ⟨⟨v,q⟩,_⟩:=C.cell x c e
  exact ⟨v,q.keeps hk⟩
 ·show (vs.map some).length=N.length
  rw [Bt];exact C.len
theorem ZU {k:Nat} {f:ME} {Q:VK} (S:LamSc scope) (hr:Room (k+1) A) (e0:Env0 P w K mg base A outer s H) (C:II s.heap H outer N scope cl vs) (ho:s.heap.get? a=some (kla_obj "<lambda>" (Bi g) params body scope cl pm c' ctv)) (hcd:s.heap.CodeRec (.ref c') (Bi g))
 (hbind:bindArgs (kla_fn "<lambda>" (Bi g) params body scope cl pm (.ref c') ctv) ⟨[],[]⟩=pure [])
 (hb:Room k (A.deeper (envX (Bi g) scope s.heap.objs.size a (.ref c') cl))→Ev (Ez g P w K mg base N scope a (.ref c') cl A outer s H E) E body f)
 (q:∃m ds h,HR K m h H∧DVs K m H ds vs∧Post K (rD K) m H E Q (f (ds.map some) h)):codeAny (model P w) A (.call (.ref a) ⟨[],[]⟩) (CR (AO P w K) outer P w H s Q E) s:=by
 refine kla_callFunE hr.depth ho rfl S.co S.gen rfl hcd ?_
 rw [hbind]
 have lim:s.heap.NoLimit:=e0.mod.nolimit.keeps fun b o e=>(e0.bs b o e).1
 refine wpAny_pure (wpAny_newFunctionEnv S.nocell (fun y hy=>by cases hy) (fun h₁ hns hsb=>⟨lim.fresh _ hsb,?_⟩) S.kind)
 have hk₁:∀b o,s.heap.get? b=some o→h₁.get? b=some o:=fun b o e=>hsb.extBut b o (Cd (AH e)) (A5 _ e)
 have I:Inv (Ez g P w K mg base N scope a (.ref c') cl A outer s H E) [] (vs.map some) H {s with heap:=h₁,toks:=s.toks+0}:=ZT S hr.hd e0 C hns hk₁
 obtain ⟨m,ds,h,hr1,r,p⟩:=q
 have er:ER K m H (ds.map some) (vs.map some):=by
  refine ⟨by simp [r.len],fun i d e=>?_⟩
  rw [CK] at e
  cases ed:ds[i]? with
  |none=>rw [ed] at e;cases e
  |some d'=>
   rw [ed] at e
   cases e
   obtain ⟨v,e1,r1⟩:=r.get ed
   exact ⟨v,by rw [CK,e1];rfl,r1⟩
 refine kla_codeExpr (wpAny_mono (hb (hr.deeper _) [] _ _ H Q I ⟨m,ds.map some,h,hr1,er,p⟩) (fun u s' hs=>?_) fun e s' hs=>hs)
 obtain ⟨v,H',J,rv,qv⟩:=hs
 exact ⟨v,H',J.os,J.bare,J.base,J.hok,rv,qv⟩
end
end LS
namespace LS
open PySem PySem.Spec PyProof.Rows L2 PySem.W
variable {g:Str}
structure RoomM (k:Nat) (A:Around):Prop where
 dp:A.depth+3*k+5<recursionLimit
 un:A.units+16*k+200<cLine
 gd:A.guards=some []
theorem RoomM.deeper {k:Nat} {A:Around} (r:RoomM (k+1) A) (env:Env):RoomM k (A.deeper env):=
 ⟨by have:=r.dp;show A.depth+1+3*k+5<_;omega,by have:=r.un;show A.units+3+16*k+200<_;omega,r.gd⟩
theorem RoomM.units {k:Nat} {A:Around} (r:RoomM k A):A.units+64<cLine:=by have:=r.un;omega
theorem RoomM.mono {j k:Nat} {A:Around} (r:RoomM k A) (h:j≤k):RoomM j A:=⟨by have:=r.dp;omega,by have:=r.un;omega,r.gd⟩
theorem RoomM.of {k:Nat} {A:Around} (r:Room k A) (e:Option Value):RoomM k (A.mark e):=⟨r.dp,r.un,r.gd⟩
def Hn (P:Program) (w:World) (K:Frag) (mg:Str→Option Value) (base:Heap) (N:List Str) (qual:Str) (scope:Scope) (f:Addr) (cd:Value) (A:Around) (outer:List Env) (s:Shared) (H:Hp):Cx:=
 {BO Pn P w K mg base N qual scope f cd A outer s H E0 with calm:=false,xe:=fun _ _=>False}
theorem ZV {P:Program} {w:World} {K:Frag} {mg:Str→Option Value} {base:Heap} {N ps:List Str} {qual:Str} {scope:Scope} {f:Addr} {cd:Value} {A:Around} {outer:List Env} {s s1:Shared} {H:Hp} {us:List Value} {vs:List V}
 (S:Dq N ps scope) (e0:Env0 P w K mg base A outer s H) (hl:vs.length=ps.length) (r:Vals vs us)
 (x:InCallC s s.heap.objs.size (bindL (envOfC qual scope s.heap.objs.size f cd).kindOf (ps.zip us) fun _=>none) (cellsFrom (s.heap.objs.size+1) scope.names []) (bindC (envOfC qual scope s.heap.objs.size f cd).kindOf (ps.zip us) fun _=>none) s1):
 Inv (Hn P w K mg base N qual scope f cd A outer s H) [] (start N vs) H s1:=by
 have hpl:ps.length≤N.length:=by have:=congrArg List.length S.pre;rw [GY] at this;omega
 obtain ⟨h1,tk,rfl,hk⟩:=x.done
 have noA:∀b:Addr,b∉(Hn P w K mg base N qual scope f cd A outer s H).ex:=fun b z=>absurd (show b∈([]:List Addr) from z) (by simp)
 refine ⟨⟨e0.mod,S.kind,rfl,rfl,Au _,fun y z c h1 h2=>?_,fun y hy=>?_,fun y c _ h=>?_,fun z=>(nomatch z),Around.frames_deeper e0.frames,.inr ⟨rfl,rfl⟩,fun b z=>absurd z (noA b),e0.bs,e0.bsz,fun b _ _=>noA b,fun b z=>absurd z (noA b),e0.funs,e0.frf⟩,
  rfl,e0.bare,Un.kept hk,⟨_,x.toInCall.ns,fun i y v h1 h2 h3=>?_⟩,fun y c h=>⟨_,x.cell y c h⟩,e0.hok.fresh (Au _),fun y c h=>?_,fun p hp=>absurd (show p∈([]:List (Addr×Obj)) from hp) (by simp),e0.hok.kept hk,?_⟩
 ·exact name_of_addr x.apart (PySem.mem_of_lookup h1) (PySem.mem_of_lookup h2)
 ·have hy:scope.names.lookup y=some .cell∨scope.names.lookup y=some .free:=hy
  rcases hy with hy |hy
  ·exact JO hy
  ·exact absurd rfl (S.nofree _ (PySem.mem_of_lookup hy))
 ·exact Fq (x.above y c (PySem.mem_of_lookup h))
 ·have hi:i<vs.length:=by
   unfold L2.start at h2
   by_cases hi:i<vs.length
   ·exact hi
   ·rw [HU (by simpa using hi)] at h2
    rw [LI] at h2
    split at h2<;>cases h2
  have ha:vs[i]?=some v:=by
   unfold L2.start at h2
   rw [DJ (by simpa using hi),CK] at h2
   cases e:vs[i]? with
   |none=>rw [e] at h2;cases h2
   |some a=>rw [e] at h2;cases h2;rfl
  obtain ⟨u,hu,rv⟩:=r.get ha
  have hp:ps[i]?=some y:=by
   rw [←S.pre,List.getElem?_take_of_lt (by omega)];exact h1
  have ndP:ps.Nodup:=by rw [←S.pre];exact S.nd.sublist (List.take_sublist _ _)
  refine ⟨u,rv,?_⟩
  rcases S.par y (EV hp) with k |k
  ·exact .inl ⟨k,Mc ndP hp hu k⟩
  ·obtain ⟨c,e⟩:=JO (n:=s.heap.objs.size+1) k
   refine .inr ⟨.inl k,c,e,?_⟩
   have q:=x.cell y c e
   rw [Md ndP hp hu (by show scope.names.lookup y≠_;rw [k];decide)] at q
   exact q
 ·exact e0.hok.fresh (Fq (x.above y c (PySem.mem_of_lookup h)))
 ·unfold L2.start
  show _=N.length
  rw [Ca,Bt,List.length_replicate]
  omega
structure QV (P:Program) (w:World) (K:Frag) (mg:Str→Option Value) (base:Heap) (k:Nat) (f:Addr) (fd:FuncData) (ps:List Str) (F:List D→HD→Out D):Prop where
 run:∀(A:Around) (outer:List Env) (s:Shared) (H:Hp) (args:Args) (us:List Value) (vs:List V) (Q:VK),RoomM k A→Env0 P w K mg base A outer s H→BindsTo s fd args (ps.zip us)→Vals vs us→J0 K F vs H Q E0→
  codeAny (model P w) A (.call (.ref f) args) (CR Pn outer P w H s Q E0) s
theorem ZW {P:Program} {w:World} {K:Frag} {mg:Str→Option Value} {base:Heap} {x qual:Str} {st:Stmt} {f:Addr} {fd:FuncData} {N ps:List Str} {k:Nat} {F:List D→HD→Out D} {g:MS} (Fn:Fun K x qual st f fd) (S:Dq N ps (defScope st)) (ar:Ar ps.length F)
 (hg:∀ds h,ds.length=ps.length→F ds h=Ay N.length g ds h)
 (hbody:∀(cdv:Value) (A:Around) (outer:List Env) (s:Shared) (H:Hp),RoomM k (A.deeper (envOfC qual (defScope st) s.heap.objs.size f cdv))→Cz (Hn P w K mg base N qual (defScope st) f cdv A outer s H) E0 (defBody st) g):QV P w K mg base (k+1) f fd ps F:=by
 obtain ⟨oc,od,kV,doc,pm,an,cdv,ct,osl,rfl,lk,hcd⟩:=Fn.ex
 refine ⟨fun A outer s H args us vs Q hr e0 hb r hsp=>?_⟩
 have hl:vs.length=ps.length:=ar.len hsp
 have KX:K.In s.heap:=e0.mod.kin.keeps fun b o e=>(e0.bs b o e).1
 have lim:s.heap.NoLimit:=e0.mod.nolimit.keeps fun b o e=>(e0.bs b o e).1
 have hkind:∀y∈ps.zip us,(defScope st).names.lookup y.1=some .local∨((defScope st).names.lookup y.1=some .cell∧((cellsFrom (s.heap.objs.size+1) (defScope st).names []).lookup y.1).isSome=true):=fun z1_ hy=>by
  obtain ⟨n,v⟩:=z1_
  rcases S.par n (Jw hy).1 with q |q
  ·exact .inl q
  ·exact .inr ⟨q,PySem.W.cellsFrom_some _ _ _ (.inl q)⟩
 refine codeAny_call_function (by have:=hr.dp;omega) (KX _ _ lk) rfl S.co S.gen rfl (PySem.W.codeRec_of KX hcd) (hb _ _ _ _ ?_)
 refine wpAny_newFunctionEnv_cells S.kind hkind fun env he s1 x=>?_
 subst he
 refine ⟨lim.keeps x.toInCall.keep,codeAny_func ?_⟩
 have I:Inv (Hn P w K mg base N qual (defScope st) f cdv A outer s H) [] (start N vs) H s1:=ZV S e0 hl r x
 have AF:∀{σ':L2.St} {H':Hp} {v:V} {u:Value} {s':Shared},Inv (Hn P w K mg base N qual (defScope st) f cdv A outer s H) [] σ' H' s'→RelV v u→Q v H'→CE outer P w H s Q u s':=
  fun {σ' H' v u s'} J rv q=>⟨v,H',J.os,J.bare,J.base,J.hok,rv,q⟩
 have post:G3 K E0 g {nx:=fun _ H'=>Q .non H',rt:=Q} (start N vs) H:=by
  obtain ⟨m,ds,hd,hr1,r,p⟩:=hsp
  have hld:ds.length=ps.length:=by rw [r.len];exact hl
  refine ⟨m,ds.map some++List.replicate (N.length - ds.length) none,hd,hr1,ER.start r,?_⟩
  rw [hg ds hd hld] at p
  unfold Ay at p
  cases o:g (ds.map some++List.replicate (N.length - ds.length) none) hd with
  |stuck=>rw [o] at p;exact p
  |err C fs h1=>rw [o] at p;exact p
  |ok a h1=>
   rw [o] at p
   obtain ⟨fl,ρ1⟩:=a
   intro m1 H1 p1 k1 hr1
   cases fl with
   |nx=>exact fun σ er=>p .non m1 H1 p1 k1 hr1 (by simp [rD,DV])
   |bk=>exact False.elim p
   |ct=>exact False.elim p
   |rt d=>exact fun v rv=>p v m1 H1 p1 k1 hr1 rv
 refine wpAny_mono (hbody cdv A outer s H (hr.deeper _) [] s1 (start N vs) H _ I post) (fun fl s' hs=>?_) fun e s' hs=>hs.elim
 cases fl with
 |ret u=>
  obtain ⟨v,σ',H',J,rv,q⟩:=hs
  exact AF J rv q
 |next=>
  obtain ⟨σ',H',J,q⟩:=hs
  exact AF (v:=V.non) (u:=Value.none) J rfl q
 |brk=>
  obtain ⟨_,_,_,q⟩:=hs
  exact False.elim q
 |cont=>
  obtain ⟨_,_,_,q⟩:=hs
  exact False.elim q
structure CaM (P:Program) (w:World) (K:Frag) (mg:Str→Option Value) (base:Heap) (x:Str) (k:Nat) (F:List D→HD→Out D):Prop where
 ex:∃(f:Addr) (fd:FuncData) (ps:List Str),QV P w K mg base k f fd ps F∧Binds K fd ps []∧mg x=some (.ref f)∧PySem.W.keepIn K (.ref f)=true∧Ar ps.length F
section
variable {X:Cx} {E:XK}
theorem ZX {k k':Nat} {F:List D→HD→Out D} {fa:MA} {x:Str} {p pos:Pos} {e:Expr} {es:List Expr} (C:CaM X.prog X.w X.K X.mg X.base x k F) (hr:RoomM k' X.A) (ha:CV X E0 (e::es) fa) (hk:k≤k':=by decide) (hg:Gl X x:=by rfl)
 (hdb:(x==("__debug__":Str))=false:=by decide) (he:starEach (e::es) X.env=(false,eval e X.env)::starEach es X.env:=by rfl) (hpl:(backTo pos (starEach es X.env)).any (·.1)=false:=by rfl):
 Ev X E0 (.Call (.Name x p) (e::es) [] pos) (Ae F fa):=by
 obtain ⟨f,fd,ps,G,hb,hm,hkp,ar⟩:=C.ex
 rintro pins s σ H Q I ⟨m,ρ,hd,hr1,er,pp⟩
 refine wpAny_Call_Name_kw (Fs I hg hm ?_ hdb)
 have post:JW X.K E0 fa σ H (fun vs H1=>J0 X.K F vs H1 Q E0):=⟨m,ρ,hd,hr1,er,Post.bind pp fun xs h1 vs m1 H1 e1 p1 k1 hr1 r1 q1=>⟨m1,xs,h1,hr1,r1,q1⟩⟩
 refine PySem.W.callWith_K (h₀:=X.base) I.ok.mod.kin hkp (Am (ha pos pins s σ H _ I post) ?_) he hpl
 rintro us s1 ⟨vs,H1,I1,r,q⟩
 refine ⟨I1.kIn,?_⟩
 have hl:us.length=ps.length:=by rw [←r.length];exact ar.len q
 have hb':=hb s1 us I1.kIn (by rw [EW];exact hl)
 rw [EW] at hb'
 refine wpAny_call (codeAny_mono (G.run X.A X.stack s1 H1 ⟨us,[]⟩ us vs Q (hr.mono hk) I1.env0 hb' r q) fun r s' hq=>?_)
 cases r with
 |error e=>exact False.elim hq
 |ok fl=>
  cases fl with
  |ret u=>exact I1.after hq
  |next=>exact False.elim hq
  |brk=>exact False.elim hq
  |cont=>exact False.elim hq
end
end LS
namespace LS
open PySem PySem.Spec PyProof.Rows L2 PySem.W
variable {g:Str}
theorem QW {P:Program} {w:World} {fs:List Addr} {H H':Hp} {h0 h h':Heap} {a T:Addr} {C a0:Value} (B:Un fs [] H H' h0 h) (hok:HOk P w H' h) (na:h0.get? a=none) (nT:h0.get? T=none) (ha:H' a=none) (hT:H' T=none)
 (frNone:∀b∈fs,H' b=none) (noFields:∀b∈fs,∃o,h.get? b=some o∧∀vs,o.data≠.fields vs) (stay:(blank (fun b=>b=a∨b=T∨b∈fs) h).StaysIn h') (ups:∀b o,h.get? b=some o→(∀vs,o.data≠.fields vs)→∃sl,h'.get? b=some {o with slots:=sl})
 (tr:h'.TracedW (blank (fun b=>b=a∨b=T∨b∈fs) h) a C a0) {da:Option Addr} {oa:Obj} (ea:h.get? a=some oa) (ed:oa.dict=da) (dd:Dicts h h'):Un fs [] H H' h0 h'∧HOk P w H' h'∧Km h0 h' H' a C da:=by
 obtain ⟨oe,vs,T2,oT,ts,e1,e2,e3,e4,e5,e6,e7,e8,e9⟩:=tr
 have e11:oe.dict=da:=by
  obtain ⟨o',q1,q2⟩:=dd a oa ea
  rw [e1] at q1
  cases q1
  exact q2.trans ed
 have keepOf:∀b o,¬(b=a∨b=T∨b∈fs)→h.get? b=some o→h'.get? b=some o:=fun b o hb e=>stay b o (by rw [Ge hb];exact e)
 have old:∀b o,h0.get? b=some o→b≠a∧b≠T:=fun b o e=>⟨fun z=>(by rw [z,na] at e;cases e),fun z=>(by rw [z,nT] at e;cases e)⟩
 have any:∀b o,h0.get? b=some o→h.get? b≠none→∃o',h'.get? b=some o':=fun b o e hn=>by
  cases e':h.get? b with
  |none=>exact absurd e' hn
  |some o'=>
   by_cases hb:b∈fs
   ·obtain ⟨o2,h2,d2⟩:=noFields b hb
    obtain ⟨sl,h3⟩:=ups b o2 h2 d2
    exact ⟨_,h3⟩
   ·exact ⟨o',keepOf b o' (fun z=>by rcases z with z |z |z;exact (old b o e).1 z;exact (old b o e).2 z;exact hb z) e'⟩
 refine ⟨⟨fun b o e n hb hx=>?_,fun b o e n hb hx=>?_,B.free,fun b o e hx=>?_,B.tups,B.frzs,B.tbls⟩,fun b o e=>?_,na,ha,oe,vs,a0,T2,oT,ts,e1,e2,e3,e4,?_,?_,e6,e7,e8,e9,e11⟩
 ·exact keepOf b o (fun z=>by rcases z with z |z |z;exact (old b o e).1 z;exact (old b o e).2 z;exact hb z) (B.keep b o e n hb hx)
 ·obtain ⟨sl,h1⟩:=B.slot b o e n hb hx
  obtain ⟨o2,h2,d2⟩:=noFields b hb
  rw [h1] at h2
  cases h2
  obtain ⟨sl2,h3⟩:=ups b _ h1 d2
  exact ⟨sl2,h3⟩
 ·obtain ⟨o',h1⟩:=B.there b o e hx
  exact any b o e (by rw [h1];simp)
 ·refine (hok b o e).stay (fun c u hc q=>keepOf c u (fun z=>?_) q) (fun _ q=>q) fun _ _ q=>q
  have hc':H' c≠none:=by
   rcases hc with rfl |hc
   ·rw [e];simp
   ·rw [hc];simp
  rcases z with z |z |z
  ·exact hc' (z ▸ ha)
  ·exact hc' (z ▸ hT)
  ·exact hc' (frNone c z)
 ·cases q:h0.get? T2 with
  |none=>rfl
  |some o=>
   exfalso
   obtain ⟨o',h1⟩:=B.there T2 o q (by simp)
   by_cases hb:T2∈fs
   ·obtain ⟨o2,h2,d2⟩:=noFields T2 hb
    obtain ⟨sl,h3⟩:=ups T2 o2 h2 d2
    rw [h3] at e7
    cases e7
    exact d2 _ e8
   ·rw [Ge (fun z=>by rcases z with z |z |z;exact (old T2 o q).1 z;exact (old T2 o q).2 z;exact hb z),h1] at e5
    cases e5
 ·cases q:H' T2 with
  |none=>rfl
  |some o=>
   exfalso
   by_cases hb:T2=a∨T2=T∨T2∈fs
   ·rcases hb with z |z |z
    ·rw [z,ha] at q;cases q
    ·rw [z,hT] at q;cases q
    ·rw [frNone T2 z] at q;cases q
   ·rw [Ge hb] at e5
    obtain ⟨ob,eb⟩:=MV (hok T2 o q)
    rw [eb] at e5
    cases e5
theorem ZY {M:Model} {A:Around} {E:Value→Shared→Prop} {s:Shared} {base:Heap} {env:Env} {outer:List Env} {L e:Addr} {C a0:Value} {Q:Unit→Shared→Prop} (fr:A.frames=some (env::outer)) (lo:env.frame=some L) (fl:Heap.FlyingW base (env::outer) e C a0 s.heap)
 (q:∀h',Heap.HeldW base (env::outer) e C a0 L h'→s.heap.UpToSlots h'→Dicts s.heap h'→Q () {s with heap:=h'}):wpAny M A (noteFrame (.ref e) env) Q E s:=by
 refine wpAny_mono (IC Qq (wpAny_looks_onW (M:=M) (A:=A) (E:=fun _ _=>False) (Q:=fun _ s'=>∃h',s'={s with heap:=h'}∧Heap.HeldW base (env::outer) e C a0 L h'∧s.heap.UpToSlots h') fr lo fl fun h' z1 z2=>⟨h',rfl,z1,z2⟩)) (fun _ s' z=>?_) fun _ _ z=>z.1.elim
 obtain ⟨⟨h',rfl,z1,z2⟩,D⟩:=z
 exact q h' z1 z2 D
theorem ZZ {M:Model} {A:Around} {E:Value→Shared→Prop} {s:Shared} {base:Heap} {l:List Env} {e L:Addr} {C a0:Value} {Q:Unit→Shared→Prop} (held:Heap.HeldW base l e C a0 L s.heap)
 (q:∀h',Heap.FlyingW base l e C a0 h'→s.heap.UpToSlots h'→Dicts s.heap h'→Q () {s with heap:=h'}):wpAny M A (setFlight (.ref e) none) Q E s:=by
 refine wpAny_mono (IC MR (wpAny_landsW (M:=M) (A:=A) (E:=fun _ _=>False) (Q:=fun _ s'=>∃h',s'={s with heap:=h'}∧Heap.FlyingW base l e C a0 h'∧s.heap.UpToSlots h') held fun h' z1 z2=>⟨h',rfl,z1,z2⟩)) (fun _ s' z=>?_) fun _ _ z=>z.1.elim
 obtain ⟨⟨h',rfl,z1,z2⟩,D⟩:=z
 exact q h' z1 z2 D
theorem Z0 {M:Model} {A:Around} {E:Value→Shared→Prop} {s:Shared} {base:Heap} {l:List Env} {e:Addr} {C a0:Value} {Q:Unit→Shared→Prop} (held:Heap.FlyingW base l e C a0 s.heap)
 (q:∀h',Heap.FlyingW base l e C a0 h'→s.heap.UpToSlots h'→Dicts s.heap h'→Q () {s with heap:=h'}):wpAny M A (setFlight (.ref e) none) Q E s:=by
 refine wpAny_mono (IC MR (lands_againW (M:=M) (A:=A) (E:=fun _ _=>False) (Q:=fun _ s'=>∃h',s'={s with heap:=h'}∧Heap.FlyingW base l e C a0 h'∧s.heap.UpToSlots h') held fun h' z1 z2=>⟨h',rfl,z1,z2⟩)) (fun _ s' z=>?_) fun _ _ z=>z.1.elim
 obtain ⟨⟨h',rfl,z1,z2⟩,D⟩:=z
 exact q h' z1 z2 D
section
variable {X:Cx} {pins:List (Addr×Obj)} {σ:L2.St} {H:Hp} {s:Shared}
theorem Inv.track {a:Addr} {o:HO} (I:Inv X pins σ H s) (new:X.s₀.heap.get? a=none) (no:H a=none) (hL:a≠X.env.locals) (hc:∀x c,X.env.cells.lookup x=some c→c≠a) (hp:∀p∈X.pn++pins,p.1≠a) (ok:ObjOk X.prog X.w (Aj H a o) s.heap a o):
 Inv X pins σ (Aj H a o) s:=by
 have ne:∀b u,H b=some u→b≠a:=fun b u e=>DY e no
 refine ⟨I.ok,I.os,I.bare,⟨I.base.keep,I.base.slot,fun b ob e n hx=>?_,I.base.there,fun b xs e=>?_,fun b ob u e=>?_,fun b ps e=>?_⟩,I.loc,I.cell,?_,fun x c e=>?_,fun p hp'=>?_,fun b u e=>?_,I.len⟩
 ·rw [AB (fun z=>by rw [z,new] at e;cases e)];exact I.base.free b ob e n hx
 ·have:=I.base.tups b xs e
  rw [AB (ne _ _ this)];exact this
 ·have:=I.base.frzs b ob u e
  rw [AB (ne _ _ this)];exact this
 ·obtain ⟨more,this⟩:=I.base.tbls b ps e
  exact ⟨more,by rw [AB (ne _ _ this)];exact this⟩
 ·rw [AB (Ne.symm hL)];exact I.free
 ·rw [AB (hc x c e)];exact I.freeC x c e
 ·obtain ⟨a1,a2,a3⟩:=I.pin p hp'
  exact ⟨a1,by rw [AB (hp p hp')];exact a2,a3⟩
 ·by_cases hb:b=a
  ·subst hb
   rw [Cy] at e
   cases e
   exact ok
  ·rw [AB hb] at e
   exact (I.hok b u e).stay (fun _ _ _ q=>q) (fun c q=>by rw [AB (ne _ _ q)];exact q) fun c xs q=>by rw [AB (ne _ _ q)];exact q
theorem Inv.locals {σ':L2.St} {h':Heap} {m':Str→Option Value} {t':Nat} (I:Inv X pins σ H s) (hn':h'.Ns X.env.locals m') (hs:Heap.SameBut X.env.locals s.heap h')
 (hl:∀(i:Nat) (x:Str) (v:V),X.N[i]?=some x→σ'[i]?=some (some v)→JD X.env.scope x→∃u,RelV v u∧OL X.env h' m' x u) (len:σ'.length=σ.length):Inv X pins σ' H {s with heap:=h',toks:=t'}:=by
 obtain ⟨m,hn,_⟩:=id I.loc
 obtain ⟨oL,_,_,hoL,_⟩:=id hn
 have neL:∀b o,X.s₀.heap.get? b=some o→b≠X.env.locals:=fun b o e=>Cd (Bc (AH e) I.ok.above)
 refine ⟨I.ok,I.os,I.bare,⟨fun b o e n hb hx=>?_,fun b o e n hb hx=>?_,I.base.free,fun b o e hx=>?_,I.base.tups,I.base.frzs,I.base.tbls⟩,⟨_,hn',hl⟩,fun y c e=>?_,I.free,I.freeC,fun p hp=>?_,fun b ob e=>?_,len.trans I.len⟩
 ·exact (hs.2 b (neL b o e)).trans (I.base.keep b o e n hb hx)
 ·obtain ⟨sl,e1⟩:=I.base.slot b o e n hb hx
  exact ⟨sl,(hs.2 b (neL b o e)).trans e1⟩
 ·obtain ⟨o',e1⟩:=I.base.there b o e hx
  exact ⟨o',(hs.2 b (neL b o e)).trans e1⟩
 ·obtain ⟨v,z⟩:=I.cell y c e
  exact ⟨v,z.sameBut hs (I.cne y c e)⟩
 ·obtain ⟨a1,a2,a3,a4⟩:=I.pin p hp
  exact ⟨(hs.2 _ a3).trans a1,a2,a3,a4⟩
 ·refine (I.hok b ob e).stay (fun c w' hc q=>(hs.2 c ?_).trans q) (fun _ q=>q) fun _ _ q=>q
  rintro rfl
  have hfree:=I.free
  rcases hc with rfl |hc
  ·rw [hfree] at e;cases e
  ·rw [hfree] at hc;cases hc
theorem Z1 {M:Model} {A:Around} {E:Value→Shared→Prop} {n:Str} {pos:Pos} {i:Nat} {Q:Unit→Shared→Prop} (I:Inv X pins σ H s) (hN:X.N.Nodup) (hi:X.N[i]?=some n) (hl:X.env.kindOf n=some .local)
 (h:∀s',Inv X pins (σ.set i none) H s'→Q () s'):wpAny M A (do bindName X.env n .none;unbindBehindTheSuite X.env n pos) Q E s:=by
 have hp:(X.env.scope.kind==.class||(X.env.scope.kind==.module&&X.env.locals != X.env.globals))=false:=by rw [I.ok.kind];rfl
 refine wpAny_bind (wpAny_bindName (LQ (v:=.non) I hN hi (.inl hl) rfl (fun s1 I1 _=>?_) (.inr hl)))
 unfold unbindBehindTheSuite
 refine wpAny_onRaise ?_
 unfold unbindName
 refine wpAny_bind (wpAny_point (wpAny_bind ?_))
 unfold deleteName
 simp only [hl,hp]
 rw [if_neg (by decide)]
 obtain ⟨m1,hn1,hl1⟩:=I1.loc
 have hin:(m1 n).isSome=true:=by
  have hiσ:i < σ.length:=by rw [I.len];exact (qa1.mp hi).1
  obtain ⟨u,_,lk⟩:=hl1 i n .non hi (by rw [Cw hiσ]) (.inl hl)
  rcases lk with ⟨_,z⟩ |⟨z,_⟩
  ·rw [z];rfl
  ·rcases z with z |z<;>(rw [hl] at z;cases z)
 refine wpAny_bind (wpAny_nsDel_keeps hn1 fun h2 v hn2 hs2=>?_)
 simp only [hin,if_true,FQ,Bl,if_false]
 refine wpAny_pure (wpAny_point (h _ (Inv.locals (t':=s1.toks) (I1.weak (σ':=σ.set i none) (by simp) fun j v' e=>?_) hn2 hs2 (fun j x v' e1 e2 e3=>?_) rfl)))
 ·by_cases hj:i=j
  ·subst hj
   have hiσ:i < σ.length:=by rw [I.len];exact (qa1.mp hi).1
   rw [Cw hiσ] at e;cases e
  ·rw [BF hj] at e ⊢;exact e
 ·have hj:i≠j:=by
   rintro rfl
   have hiσ:i < σ.length:=by rw [I.len];exact (qa1.mp hi).1
   rw [Cw hiσ] at e2;cases e2
  rw [BF hj] at e2
  obtain ⟨u,r,lk⟩:=hl1 j x v' e1 (by rw [BF hj];exact e2) e3
  have hx:x≠n:=fun z=>hj (LP hN hi (z ▸ e1))
  refine ⟨u,r,?_⟩
  rcases lk with ⟨k1,k2⟩ |⟨k1,c,k2,k3⟩
  ·exact .inl ⟨k1,(if_neg hx).trans k2⟩
  ·exact .inr ⟨k1,c,k2,k3.sameBut hs2 (I1.cne x c k2)⟩
end
end LS
namespace LS
open PySem PySem.Spec PyProof.Rows L2 PySem.W
variable {g:Str}
def EA:List (Str×D)→Option (List (Str×Int))
 |[]=>some []
 |(f,.int i)::r=>(EA r).map fun l=>(f,i)::l
 |_=>none
theorem QX:∀{fs:List (Str×D)} {is:List (Str×Int)} {f:Str} {i:Int},EA fs=some is→is.lookup f=some i→fs.lookup f=some (.int i)
 |[],is,f,i,e,l=>by cases e;cases l
 |(g,d)::r,is,f,i,e,l=>by
  cases d with
  |int j=>
   simp only [EA] at e
   cases er:EA r with
   |none=>rw [er] at e;cases e
   |some l2=>
    rw [er] at e
    cases e
    rw [Dm] at l ⊢
    cases hb:f==g with
    |true=>rw [hb] at l;cases l;rfl
    |false=>rw [hb] at l;exact QX er l
  |_=>cases e
open Classical in
noncomputable def Ku (j:Nat) (g:Str) (a:Addr) (vs:List V) (Fk:List D→HD→Out D) (f:ME):MS:=fun ρ h=>match (ρ[0]?:Option (Option D)),(h[j]?:Option Cell) with
 |some (some (.clo a' vs' ds)),some (.tabn g')=>if g'=g∧a'=a∧vs'=vs then (match f (ds.map some) h with
  |.ok _ h1=>.ok (.nx,ρ) h1
  |.err (.str n _) fs h1=>if n∈excNames then (match EA fs with
   |some is=>(match Fk [.exc n is] h1 with
    |.ok d h2=>.ok (.nx,(ρ.set 1 (some d)).set 2 none) h2
    |_=>.stuck)
   |none=>.stuck) else .stuck
  |_=>.stuck) else .stuck
 |_,_=>.stuck
structure SaidX (g:Str) (X:Cx) (P a c':Addr) (lpos:Pos) (Nc:List Str) (params:Arguments) (body:Expr) (scope:Scope) (cl:List (Str×Addr)) (pm ctv:Value) (vs:List V):Prop where
 N:X.N=(["_law_call","_law_word","_law_e"]:List Str)
 k0:X.env.kindOf "_law_call"=some .local
 k1:X.env.kindOf "_law_word"=some .local
 k2:X.env.kindOf "_law_e"=some .local
 tp:∃c,tabP X.K g=some (c,P)
 tb:∃ps,X.H₀ P=some (.tbl ps)∧TriplesOk ps.toList∧codeAmong lpos ps.toList=some (.ref c')
 ob:X.s₀.heap.get? a=some (kla_obj "<lambda>" (Bi g) params body scope cl pm c' ctv)
 no:X.H₀ a=none
 nf:a∉X.fs
 clo:II X.s₀.heap X.H₀ X.outer Nc scope cl vs
section
variable {X:Cx} {E:XK} {P a c':Addr} {lpos:Pos} {Nc:List Str} {params:Arguments} {body:Expr} {scope:Scope} {cl:List (Str×Addr)} {pm ctv:Value} {vs:List V}
theorem Z2 {M:Model} {A:Around} {E:Value→Shared→Prop} {s:Shared} {a:Addr} {o:Obj} {fd:FuncData} {Q:Value→Shared→Prop} {env:Env} {pos:Pos} (h0:s.heap.get? a=some o) (hd:o.data=.func fd) (h:wpAny M A (call (.ref a) []) Q E s):
 wpAny M A (callWith pos (.ref a) [] (backTo pos (starEach [] env)) []) Q E s:=
 callWith_of (P:=fun h=>h.get? a=some o) rfl (fun h e=>⟨.frame,.inl rfl,(Looks.ld (part:=none) e).andThen (by rw [hd];exact .now)⟩) (evalArgs_nil3 ⟨h0,h⟩)
theorem SaidX.cloNow (S:SaidX g X P a c' lpos Nc params body scope cl pm ctv vs) (lv:Lv X E) {pins:List (Addr×Obj)} {σ:L2.St} {H:Hp} {s:Shared} (I:Inv X pins σ H s):II s.heap H X.stack Nc scope cl vs∧s.heap.get? a=some (kla_obj "<lambda>" (Bi g) params body scope cl pm c' ctv):=by
 have B:Un X.fs [] X.H₀ H X.s₀.heap s.heap:=by have:=I.base;rw [lv.ex] at this;exact this
 have keep:∀c v,X.s₀.heap.IsCell c v→X.H₀ c=none→c∉X.fs→s.heap.IsCell c v:=fun c v z1_ n f=>by obtain ⟨o,e,d⟩:=z1_;exact (⟨o,B.keep c o e n f (by simp),d⟩)
 refine ⟨⟨S.clo.len,S.clo.inj,S.clo.has,fun x c e=>?_,fun i x v e1 e2=>?_⟩,B.keep a _ S.ob S.no S.nf (by simp)⟩
 ·obtain ⟨⟨v,q⟩,n,f⟩:=S.clo.cell x c e
  obtain ⟨o,e1,d⟩:=id q
  refine ⟨⟨v,keep c v q n f⟩,B.free c o e1 n (by simp),fun z=>?_⟩
  rw [lv.frs] at z
  rcases qa9.mp z with z |z
  ·exact absurd (Bc (AH e1) I.ok.above) (by rw [z];exact Di _)
  ·exact f z
 ·obtain ⟨hf,c,u,e3,e4,r⟩:=S.clo.val i x v e1 e2
  obtain ⟨_,n,f⟩:=S.clo.cell x c e3
  exact ⟨hf,c,u,e3,keep c _ e4 n f,r⟩
def FH (X:Cx) (e:Addr):Cx:={X with A:=X.A.mark (some (.ref e)),calm:=false,xe:=fun _ _=>False}
theorem Inv.marked {pins:List (Addr×Obj)} {σ:L2.St} {H:Hp} {s:Shared} {e:Addr} (I:Inv X pins σ H s):Inv (FH X e) pins σ H s:=
 ⟨⟨I.ok.mod,I.ok.kind,I.ok.glob,I.ok.blt,I.ok.above,I.ok.inj,I.ok.has,I.ok.cab,fun z=>(nomatch z),I.ok.frames,I.ok.stk,I.ok.exf,I.ok.bs,I.ok.bsz,I.ok.noex,I.ok.exfs,I.ok.funs,I.ok.frf⟩,I.os,I.bare,I.base,I.loc,I.cell,I.free,I.freeC,I.pin,I.hok,I.len⟩
theorem Inv.unmarked {pins:List (Addr×Obj)} {σ:L2.St} {H:Hp} {s:Shared} {e:Addr} (ok:X.Ok) (I:Inv (FH X e) pins σ H s):Inv X pins σ H s:=
 ⟨ok,I.os,I.bare,I.base,I.loc,I.cell,I.free,I.freeC,I.pin,I.hok,I.len⟩
theorem Z3 {j:Nat} {k:Nat} {Fk:List D→HD→Out D} {f:ME} {p4 p5 p6 p7 p8 p9 p10 p11 p12 p13 p14:Pos} (lv:Lv X E) (S:SaidX g X P a c' lpos Nc params body scope cl pm ctv vs) (hr:Room (k+1) X.A) (et:etOk X.K=true) (hsw:∃Sw,nsIn X.K mainGlobals "SwitchError"=some (some (.ref Sw)))
 (hgS:X.env.kindOf "SwitchError"=some .globalImplicit) (hgK:X.env.kindOf "_law_kind"=some .globalImplicit)
 (hkind:CaM X.prog X.w X.K X.mg X.base "_law_kind" k Fk) (hL:LamSc scope) (hbind:bindArgs (kla_fn "<lambda>" (Bi g) params body scope cl pm (.ref c') ctv) ⟨[],[]⟩=pure [])
 (hb:∀(s:Shared) (H:Hp) (E':XK),Room k (X.A.deeper (envX (Bi g) scope s.heap.objs.size a (.ref c') cl))→Ev (Ez g X.prog X.w X.K X.mg X.base Nc scope a (.ref c') cl X.A X.stack s H E') E' body f):
 Ex X E (.Try [.Expr (.Call (.Name "_law_call" p4) [] [] p5) p6] [.ExceptHandler (some (.Name "SwitchError" p7)) (some "_law_e") [.Assign [.Name "_law_word" p8] (.Call (.Name "_law_kind" p9) [.Name "_law_e" p10] [] p11) p12] p13] [] [] p14) (Ku j g a vs Fk f):=by
 rintro pins s σ H Dn I ⟨m,ρ,h,hr1,er,p⟩
 refine Classical.byContradiction fun nG=>?_
 have hN0:X.N[0]?=some ("_law_call":Str):=by rw [S.N];rfl
 have hN1:X.N[1]?=some ("_law_word":Str):=by rw [S.N];rfl
 have hN2:X.N[2]?=some ("_law_e":Str):=by rw [S.N];rfl
 have nd:X.N.Nodup:=by rw [S.N];decide +kernel
 obtain ⟨Sw,hSw⟩:=hsw
 unfold Ku at p
 split at p
 ·rename_i a' vs' ds g' e0 et0
  split at p
  ·rename_i hav
   obtain ⟨hgg,rfl,rfl⟩:=hav
   have hgg:=hgg.symm
   subst hgg
   obtain ⟨C,ob⟩:=S.cloNow lv I
   obtain ⟨v0,hv0,rv0⟩:=er.2 0 _ e0
   simp only [DV] at rv0
   obtain ⟨rfl,rds⟩:=rv0
   obtain ⟨aP,haP,tab⟩:=hr1.at et0
   obtain ⟨⟨cc,htp⟩,ps2,hps2,htr2,hcs2⟩:=tab
   obtain ⟨cc',htp'⟩:=S.tp
   rw [htp'] at htp
   cases htp
   obtain ⟨ps,hps,htr,hca⟩:=S.tb
   obtain ⟨more,hmore⟩:=I.base.tbls P ps hps
   have hca2:codeAmong lpos ps2.toList=some (.ref c'):=by
    have e:=hmore.symm.trans hps2
    cases e
    rw [Array.toList_append]
    exact ZQ htr hca
   obtain ⟨c2,e2,hx2⟩:=hcs2 lpos _ hca2
   cases e2
   have hcd:s.heap.CodeRec (.ref c') (Bi g):=(I.hok c' _ hx2).1
   have run:∀(Q:VK) (E':XK),Post X.K (rD X.K) m H E' Q (f (ds.map some) h)→codeAny (model X.prog X.w) X.A (.call (.ref a') ⟨[],[]⟩) (CR (AO X.prog X.w X.K) X.stack X.prog X.w H s Q E') s:=fun Q E' q=>
    ZU hL hr I.env0 C ob hcd hbind (hb s H E') ⟨m,ds,h,hr1,rds,q⟩
   have start:∀{Q:Flow→Shared→Prop} {EE:Value→Shared→Prop},codeAny (model X.prog X.w) X.A (.call (.ref a') ⟨[],[]⟩) (fun r s'=>match r with |.ok (.ret u)=>Q .next s' |.error e=>EE e s' |_=>False) s→
    wpAny (model X.prog X.w) X.A (execs [.Expr (.Call (.Name "_law_call" p4) [] [] p5) p6] X.env) Q EE s:=fun {Q EE} hc=>by
    refine wpAny_execs_cons (wpAny_Expr_any (wpAny_Call_Name_kw ?_) I.quiet rfl)
    obtain ⟨m0,hn0,hl0⟩:=I.loc
    obtain ⟨u,ru,lk⟩:=hl0 0 "_law_call" (.ref a') hN0 hv0 (.inl S.k0)
    cases (show u=Value.ref a' from ru)
    rcases lk with ⟨hk,hm⟩ |⟨z,_⟩
    ·refine wpAny_Name (wpAny_loadName_local I.ok.kind hk hn0 hm (Z2 ob rfl (wpAny_call (codeAny_mono hc fun r s' hq=>?_)))) (by decide)
     cases r with
     |error e=>exact hq
     |ok fl=>
      cases fl with
      |ret u=>exact wpAny_execs_nil hq
      |next=>exact hq.elim
      |brk=>exact hq.elim
      |cont=>exact hq.elim
    ·rcases z with z |z<;>(rw [S.k0] at z;cases z)
   refine nG (wpAny_Try_except (start ?_))
   clear nG
   refine Classical.byContradiction fun nG=>?_
   cases ho:f (ds.map some) h with
   |stuck=>rw [ho] at p;exact p.elim
   |ok d h1=>
    rw [ho] at p
    refine nG (codeAny_mono (run (fun v H'=>∃m',m <+:m'∧Kp H H'∧HR X.K m' h1 H') E0 (by rw [ho];exact fun v m' H' p1 k1 hr' _=>⟨m',p1,k1,hr'⟩)) fun r s' hq=>?_)
    cases r with
    |error e=>
     obtain ⟨_,_,_,_,_,_,_,_,_,_,_,_,q⟩:=hq
     exact q.elim
    |ok fl=>
     cases fl with
     |ret u=>
      obtain ⟨v,H',os,bare,un,hok,_,m',p1,k1,hr'⟩:=hq
      exact wpAny_execs_nil ⟨σ,H',I.call' os un hok bare (fun b hb=>absurd hb (by simp)),p m' H' p1 k1 hr' σ (er.keep p1 k1)⟩
     |next=>exact hq.elim
     |brk=>exact hq.elim
     |cont=>exact hq.elim
   |err Cv fs h1=>
    rw [ho] at p
    cases Cv with
    |str n t=>
     simp only at p
     split at p
     ·rename_i hn
      refine nG (codeAny_mono (run (fun _ _=>False) (fun C' da H'=>C'=.str n t∧∃m',m <+:m'∧Kp H H'∧HR X.K m' h1 H'∧XD X.K m' H' fs da) (by rw [ho];exact fun da m' H' p1 k1 hr' xd=>⟨rfl,m',p1,k1,hr',xd⟩)) fun r s1 hq=>?_)
      clear nG
      cases r with
      |ok fl=>
       cases fl with
       |ret u=>obtain ⟨_,_,_,_,_,_,_,z⟩:=hq;exact z.elim
       |next=>exact hq.elim
       |brk=>exact hq.elim
       |cont=>exact hq.elim
      |error e=>
       obtain ⟨ae,Cc,n',da,H',rfl,os,bare,un,hok,fly,nm,hE,m',p1,k1,hr',xd⟩:=hq
       refine Classical.byContradiction fun nG=>?_
       have hnn:n'=n:=by cases hE;rfl
       subst hnn
       have I1:Inv X pins σ H' s1:=I.call' os un hok bare (fun b hb=>absurd hb (by simp))
       obtain ⟨fnew,fno,oe,ws,a0,T,oT,ts,e1,e2,e3,e4,e5,e6,e7,e8,e9,e10,e11⟩:=fly
       have fro:X.A.frames=some (X.env::X.outer):=by rw [←lv.stk];exact I1.ok.frames
       have stk:s1.heap.FunFrames X.base (X.env::X.outer):=by have:=I1.stack;rw [lv.stk] at this;exact this
       have frN:∀b∈frs X.stack,H' b=none:=fun b hb=>I1.stkFree b hb
       have frO:∀b∈frs X.stack,∃o,s1.heap.get? b=some o∧∀vs,o.data≠.fields vs:=fun b hb=>(I1.stack.mem hb).2
       have fly0:Heap.FlyingW (blank (fun b=>b=ae∨b=T∨b∈frs X.stack) s1.heap) (X.env::X.outer) ae (.ref Cc) a0 s1.heap:=
        ⟨MU,Gd (.inl rfl),Kn stk fun b hb=>.inr (.inr (by rw [lv.stk];exact hb)),oe,ws,T,oT,ts,e1,e2,e3,e4,Gd (.inr (.inl rfl)),e7,e8,e9,e10⟩
       refine nG (ZY fro lv.fr fly0 fun h4 held4 sm4 D4=>?_)
       clear nG
       refine ZZ held4 fun h5 held5 sm5 D5=>?_
       refine Classical.byContradiction fun nG=>?_
       obtain ⟨un5,hok5,fly5⟩:=QW un hok fnew e5 fno e6 frN frO held5.1 (sm4.trans sm5) held5.2.2.2 e1 e11 (D4.trans D5)
       have I5:Inv X pins σ H' {s1 with heap:=h5}:=I.call' (s':={s1 with heap:=h5}) os un5 hok5 bare (fun b hb=>absurd hb (by simp))
       have hmS:X.mg "SwitchError"=some (.ref Sw):=mg_of I.mod.kin I.mod.glob hSw
       have T5:=Ks et hn nm
       obtain ⟨_,_,oe5,ws5,_,_,_,_,f1,f2,f3,_⟩:=id fly5
       refine nG (wpAny_handleBy_cons (codeAny_handlers_test ?_) (by intro q;cases q))
       clear nG
       refine Calls.Name_function_global I5.ok.kind hgS (Calls.loadGlobal_global (by rw [I5.ok.glob];exact I5.mod.glob.keeps I5.bk) hmS ?_) (by decide)
       refine (exm_one (M:=model X.prog X.w) I5.kIn (TyAt.type ⟨oe5,f1,f2.1⟩) (T5.sw Sw hSw)).here ?_
       simp only [if_true]
       refine codeAny_handlers_suite_as (Z0 held5 fun h6 held6 sm6 D6=>?_)
       obtain ⟨un6,hok6,fly6⟩:=QW un hok fnew e5 fno e6 frN frO held6.1 ((sm4.trans sm5).trans sm6) held6.2.2.2 e1 e11 ((D4.trans D5).trans D6)
       have I6:Inv X pins σ H' {s1 with heap:=h6}:=I.call' (s':={s1 with heap:=h6}) os un6 hok6 bare (fun b hb=>absurd hb (by simp))
       obtain ⟨_,_,oe6,ws6,_,_,_,_,g1,g2,g3,_,_,_,_,_,_,_,g11⟩:=id fly6
       have older:∀b,s.heap.get? b=none→X.s₀.heap.get? b=none:=lv.older I
       have xok:ObjOk X.prog X.w (Aj H' ae (.ext (Fw Cc da ae))) h6 ae (.ext (Fw Cc da ae)):=
        ⟨⟨oe6,ws6,g1,g2.1,fun d z=>g11.trans z,g3⟩,⟨oe6,g1⟩,fun ha hb' z2_ k'=>by obtain ⟨o,w',z1,z2,z3,z4⟩:=z2_;exact (⟨o,w',k' o z1,z2,z3,z4⟩)⟩
       have neL:ae≠X.env.locals:=fun z=>by
        obtain ⟨mL,⟨oL,_,_,hoL,_⟩,_⟩:=I.loc
        rw [←z,fnew] at hoL;cases hoL
       have neC:∀x c,X.env.cells.lookup x=some c→c≠ae:=fun x c ex z=>by
        obtain ⟨v,o,hoc,_⟩:=I.cell x c ex
        rw [z,fnew] at hoc;cases hoc
       have neP:∀q∈X.pn++pins,q.1≠ae:=fun q hq z=>by
        have:=(I.pin q hq).1
        rw [z,fnew] at this;cases this
       have I6':=LS.Inv.track I6 (older ae fnew) fno neL neC neP xok
       have kx:Kp H' (Aj H' ae (.ext (Fw Cc da ae))):=.new fno
       refine LQ (v:=.ref ae) I6' nd hN2 (.inl S.k2) rfl (fun s7 I7 _=>?_) (.inr S.k2)
       split at p
       rename_i is his
       split at p
       ·rename_i d h2 hk2
        have hr7:HR X.K m' h1 (Aj H' ae (.ext (Fw Cc da ae))):=hr'.new fno
        have er7:ER X.K m' (Aj H' ae (.ext (Fw Cc da ae))) (ρ.set 2 (some (.exc n' is))) (σ.set 2 (some (.ref ae))):=
         ((er.keep p1 k1).keep (Ax _) kx).set (by simp only [DV];exact ⟨ae,Cc,da,rfl,nm,Cy,fun f i z=>by
           obtain ⟨b,fv,v,q1,q2,q3,q4⟩:=xd f _ (QX his z)
           simp only [DV] at q4
           exact ⟨b,fv,q1,by rw [AB (DY q2 fno)];exact q2,by rw [q3,q4]⟩⟩)
        have hρ:2 < ρ.length:=by rw [er.1,I.len,S.N];decide
        have sx:Cz (FH X ae) E0 [.Assign [.Name "_law_word" p8] (.Call (.Name "_law_kind" p9) [.Name "_law_e" p10] [] p11) p12] (Ap 1 (Ae Fk (Aa (Ab 2) Ac))):=
         J6 (Mu (X:=FH X ae) (i:=1) nd hN1 (Or.inl S.k1) (ZX (X:=FH X ae) hkind (RoomM.of hr _) (G4 (Mo (X:=FH X ae) (LR (X:=FH X ae) hN2 (.inl S.k2))) Ir) (Nat.le_succ _) hgK) (hf:=.inr S.k1))
        have post:G3 (FH X ae).K E0 (Ap 1 (Ae Fk (Aa (Ab 2) Ac))) {nx:=fun σ' H''=>Dn.nx (σ'.set 2 none) H'',rt:=fun _ _=>False} (σ.set 2 (some (.ref ae))) (Aj H' ae (.ext (Fw Cc da ae))):=by
         refine ⟨m',ρ.set 2 (some (.exc n' is)),h1,hr7,er7,?_⟩
         have ev:Ap 1 (Ae Fk (Aa (Ab 2) Ac)) (ρ.set 2 (some (.exc n' is))) h1=.ok (.nx,(ρ.set 2 (some (.exc n' is))).set 1 (some d)) h2:=by
          unfold Ap Ae Aa Ac Ab
          rw [Cw hρ]
          simp only [Out.bind_ok]
          rw [hk2]
          rfl
         rw [ev]
         intro m2 H2 p2 k2 hr2 σ' er2
         refine p m2 H2 (p1.trans p2) ((k1.trans kx).trans k2) hr2 _ ⟨by simp [er2.1.symm],fun i di e=>?_⟩
         by_cases hi:2=i
         ·subst hi
          rw [Cw (by simpa using hρ)] at e
          cases e
         ·rw [BF hi] at e
          obtain ⟨v,z1,z2⟩:=er2.2 i di (by
           by_cases h1i:1=i
           ·subst h1i
            rw [Cw (by omega)] at e
            rw [Cw (by simp;omega)];exact e
           ·rw [BF h1i] at e
            rw [BF h1i,BF hi];exact e)
          exact ⟨v,by rw [BF hi];exact z1,z2⟩
        refine wpAny_mono (sx pins s7 _ _ _ (Inv.marked I7) post) (fun fl s8 h8=>?_) fun _ _ z=>False.elim z
        cases fl with
        |next=>
         obtain ⟨σ',H'',I8,q8⟩:=h8
         exact Z1 (Inv.unmarked I.ok I8) nd hN2 S.k2 fun s9 I9=>⟨_,H'',I9,q8⟩
        |ret u=>obtain ⟨_,_,_,_,_,z⟩:=h8;exact False.elim z
        |brk=>obtain ⟨_,_,_,z⟩:=h8;exact False.elim z
        |cont=>obtain ⟨_,_,_,z⟩:=h8;exact False.elim z
       ·exact p.elim
       ·exact p.elim
     ·exact p.elim
    |_=>exact p.elim
  ·exact p.elim
 ·exact p.elim
end
end LS
namespace LS
open PySem PySem.Spec PyProof.Rows L2 PySem.W
variable {g:Str}
noncomputable def M6 (Fk:List D→HD→Out D):Out D→Out D
 |.ok _ h1=>.ok (.str "told") h1
 |.err (.str n _) fs h1=>if n∈excNames then (match EA fs with
  |some is=>(match Fk [.exc n is] h1 with
   |.ok d h2=>.ok d h2
   |_=>.stuck)
  |none=>.stuck) else .stuck
 |_=>.stuck
noncomputable def Gh (j:Nat) (g:Str) (cs:List Nat) (Fk:List D→HD→Out D) (f:ME):ME:=fun ρ h=>match (h[j]?:Option Cell),AN (cs.map fun j=>(ρ[j]?).join) with
 |some (.tabn g'),some ds=>if g'=g then M6 Fk (f (ds.map some) h) else .stuck
 |_,_=>.stuck
noncomputable abbrev DA (cs:List Nat) (Fk:List D→HD→Out D) (f:ME):ME:=Gh 0 "law" cs Fk f
structure LSc (X:Cx) (scope:Scope) (Nc:List Str) (cs:List Nat):Prop where
 lam:LamSc scope
 nd:(scope.names.map (·.1)).Nodup
 free:(scope.names.all fun y=>y.2 != .free||(X.env.kindOf y.1==some .cell||X.env.kindOf y.1==some .free))=true
 len:cs.length=Nc.length
 out:((Nc.zip cs).all fun p=>X.N[p.2]?==some p.1&&scope.names.lookup p.1==some .free)=true
theorem LSc.at_ {X:Cx} {scope:Scope} {Nc:List Str} {cs:List Nat} (S:LSc X scope Nc cs) {i j:Nat} {x:Str} (h1:Nc[i]?=some x) (h2:cs[i]?=some j):X.N[j]?=some x∧scope.names.lookup x=some .free:=by
 have hz:(Nc.zip cs)[i]?=some (x,j):=by
  rw [List.getElem?_zip_eq_some]
  exact ⟨h1,h2⟩
 have:=qaI.mp S.out (x,j) (EV hz)
 simpa using this
theorem LSc.fr {X:Cx} {scope:Scope} {Nc:List Str} {cs:List Nat} (S:LSc X scope Nc cs):∀y∈scope.names,y.2=.free→X.env.kindOf y.1=some .cell∨X.env.kindOf y.1=some .free:=fun y hy e=>by
 have:=qaI.mp S.free y hy
 rw [e] at this
 simpa using this
theorem QY {K:Frag} {m:List Addr} {H:Hp} {ρ:Af} {σ:L2.St} (er:ER K m H ρ σ):∀{cs:List Nat} {ds:List D},AN (cs.map fun j=>(ρ[j]?).join)=some ds→∃vs,DVs K m H ds vs∧vs.length=cs.length∧∀(i:Nat) (v:V),vs[i]?=some v→∃j,cs[i]?=some j∧σ[j]?=some (some v)
 |[],ds,e=>by
  simp [AN] at e
  subst e
  exact ⟨[],.nil,rfl,fun i v z=>by simp at z⟩
 |j::cs,ds,e=>by
  rw [Bx] at e
  cases ed:(ρ[j]?).join with
  |none=>rw [ed] at e;simp [AN] at e
  |some d=>
   rw [ed] at e
   simp only [AN,qaW] at e
   obtain ⟨ds',e1,rfl⟩:=e
   obtain ⟨vs,h1,h2,h3⟩:=QY er e1
   obtain ⟨v,e2,r⟩:=er.2 j d (join_some.mp ed)
   refine ⟨v::vs,.cons r h1,by simp [h2],fun i v' z=>?_⟩
   cases i with
   |zero=>simp at z;subst z;exact ⟨j,rfl,e2⟩
   |succ i=>simpa using h3 i v' (by simpa using z)
section
variable {X:Cx} {E:XK} {c P:Addr} {Nc:List Str} {cs:List Nat} {params:Arguments} {body:Expr} {scope:Scope}
theorem Z4 {α:Type} {l:List (Str×α)} {x:Str} {v:α} (h:(x,v)∈l):∃w,l.lookup x=some w:=by
 cases e:l.lookup x with
 |some w=>exact ⟨w,rfl⟩
 |none=>
  have:=List.lookup_eq_none_iff.mp e _ h
  simp at this
theorem Z5 {j:Nat} {k:Nat} {Fk:List D→HD→Out D} {f:ME} {fs:Addr} {fd:FuncData} {st:Stmt} {lpos p pos p1 p2 p3 p4 p5 p6 p7 p8 p9 p10 p11 p12 p13 p14 p15 p16:Pos} {j1:Nat} (L:LamX g X c P) (fna:∀x,X.fn x=true) (hr:Room (k+2) X.A) (lv:Lv X E) (et:etOk X.K=true)
 (hsw:∃Sw,nsIn X.K mainGlobals "SwitchError"=some (some (.ref Sw)))
 (Fn:Fun X.K "_law_said" "_law_said" st fs fd) (hbd:Binds X.K fd ["_law_call"] []) (hm:X.mg "_law_said"=some (.ref fs)) (hkp:keepIn X.K (.ref fs)=true)
 (Sf:Dq ["_law_call","_law_word","_law_e"] ["_law_call"] (defScope st)) (hk0:(defScope st).names.lookup ("_law_call":Str)=some .local) (hk1:(defScope st).names.lookup ("_law_word":Str)=some .local) (hk2:(defScope st).names.lookup ("_law_e":Str)=some .local)
 (hgS:∀L' cd,(envOfC "_law_said" (defScope st) L' fs cd).kindOf "SwitchError"=some .globalImplicit) (hgK:∀L' cd,(envOfC "_law_said" (defScope st) L' fs cd).kindOf "_law_kind"=some .globalImplicit)
 (hst:defBody st=[.Assign [.Name "_law_word" p1] (.Constant (.str "told") j1 p2) p3,.Try [.Expr (.Call (.Name "_law_call" p4) [] [] p5) p6] [.ExceptHandler (some (.Name "SwitchError" p7)) (some "_law_e") [.Assign [.Name "_law_word" p8] (.Call (.Name "_law_kind" p9) [.Name "_law_e" p10] [] p11) p12] p13] [] [] p14,.Return (some (.Name "_law_word" p15)) p16])
 (hkind:CaM X.prog X.w X.K X.mg X.base "_law_kind" k Fk) (hg:Gl X "_law_said") (S:LSc X scope Nc cs) (hdef:defaultsOf params X.env=([],[]))
 (hbind:∀(cl:List (Str×Addr)) (pm cv ctv:Value),bindArgs (kla_fn "<lambda>" (Bi g) params body scope cl pm cv ctv) ⟨[],[]⟩=pure [])
 (hb:∀(a:Addr) (cd:Value) (cl:List (Str×Addr)) (A:Around) (outer:List Env) (s:Shared) (H:Hp) (E':XK),Room k (A.deeper (envX (Bi g) scope s.heap.objs.size a cd cl))→Ev (Ez g X.prog X.w X.K X.mg X.base Nc scope a cd cl A outer s H E') E' body f)
 (he:starEach [.Lambda params body scope lpos] X.env=(false,eval (.Lambda params body scope lpos) X.env)::starEach [] X.env:=by rfl) (hpl:(backTo pos (starEach [] X.env)).any (·.1)=false:=by rfl):
 Ev X E (.Call (.Name "_law_said" p) [.Lambda params body scope lpos] [] pos) (Gh j g cs Fk f):=by
 rintro pins s σ H Q I ⟨m,ρ,h,hr1,er,pp⟩
 unfold Gh at pp
 split at pp
 ·rename_i g' ds et0 eds
  split at pp
  rotate_left
  ·exact pp.elim
  rename_i hgg
  have hgg:=hgg.symm
  subst hgg
  obtain ⟨aP,haP,tab⟩:=hr1.at et0
  obtain ⟨⟨cc,htp⟩,tabr⟩:=id tab
  rw [L.tp] at htp
  cases htp
  obtain ⟨vs,dvs,vlen,vat⟩:=QY er eds
  obtain ⟨cl,hclos,hcl,hcl2⟩:=P3 (scope:=scope) (env:=X.env) fun y hy hf=>I.ok.has y.1 (S.fr y hy hf)
  refine wpAny_Call_Name_kw (Fs I hg hm ?_ (by decide))
  refine PySem.W.callWith_K (h₀:=X.base) I.ok.mod.kin hkp ?_ he hpl
  rw [he]
  show wpAny _ _ (spliced ((false,eval (.Lambda params body scope lpos) X.env)::[])) _ _ s
  refine Calls.spliced_cons (ZR L I tab hdef hclos fun a c' ctv pm h' tk H' I' kp tab' same keep hsz no ob code=>?_)
  refine wpAny_pure ⟨I'.kIn,wpAny_call ?_⟩
  generalize hs1:({s with heap:=h',toks:=tk}:Shared)=s1 at I'
  have hh1:s1.heap=h':=by rw [←hs1]
  have hrN:HR X.K m h H':=hr1.tab kp same tab' tab et0 haP
  have frLt:∀b∈frs X.stack,b<s.heap.objs.size:=fun b hb=>by
   obtain ⟨_,o,ho,_⟩:=I.stack.mem hb
   exact AH ho
  have cof:∀x c,cl.lookup x=some c→X.env.cells.lookup x=some c:=fun x c e=>(hcl x c (mem_of_lookup e)).1
  have hasC:∀x,scope.names.lookup x=some .free→∃c,cl.lookup x=some c:=fun x e=>by
   obtain ⟨c,hc⟩:=hcl2 _ (mem_of_lookup e) rfl
   exact Z4 hc
  have C1:II s1.heap H' X.stack Nc scope cl vs:=by
   refine ⟨by rw [vlen,S.len],fun x y c e1 e2=>I.ok.inj x y c (cof x c e1) (cof y c e2),hasC,fun x c e=>?_,fun i x v e1 e2=>?_⟩
   ·refine ⟨I'.cell x c (cof x c e),I'.freeC x c (cof x c e),fun z=>?_⟩
    rcases qa9.mp (I.stkSub c z) with z |z
    ·exact I.cne x c (cof x c e) z
    ·obtain ⟨_,o,ho,_⟩:=I.ok.funs.mem z
     exact absurd (Bc (AH ho) (I.ok.cab x c (fna x) (cof x c e))) (Di _)
   ·obtain ⟨j,ej,sj⟩:=vat i v e2
    obtain ⟨hN,hf⟩:=S.at_ e1 ej
    have hk:=S.fr _ (mem_of_lookup hf) rfl
    obtain ⟨m0,hn0,hl0⟩:=I'.loc
    obtain ⟨u,r,lk⟩:=hl0 j x v hN sj (by rcases hk with z |z;exact .inr (.inl z);exact .inr (.inr z))
    refine ⟨hf,?_⟩
    rcases lk with ⟨z,_⟩ |⟨_,c,e3,e4⟩
    ·rcases hk with y |y<;>(rw [z] at y;cases y)
    ·obtain ⟨c2,e5⟩:=hasC x hf
     have:=cof x c2 e5
     rw [e3] at this
     cases this
     exact ⟨c,u,e5,e4,r⟩
  obtain ⟨oc,od,kV,doc,pm2,an,cdv,ct,osl,rfl,lk,hcd⟩:=Fn.ex
  have e0:=I'.env0
  have KX:X.K.In s1.heap:=I'.kIn
  have lim:s1.heap.NoLimit:=I'.nolimit
  have hkind2:∀y∈(["_law_call"]:List Str).zip [Value.ref a],(defScope st).names.lookup y.1=some .local∨((defScope st).names.lookup y.1=some .cell∧((cellsFrom (s1.heap.objs.size+1) (defScope st).names []).lookup y.1).isSome=true):=fun y hy=>by
   have:y=(("_law_call":Str),Value.ref a):=by simpa using hy
   subst this
   exact .inl hk0
  have bt:=hbd s1 [.ref a] I'.kIn rfl
  rw [EW] at bt
  refine codeAny_mono (R:=CR (AO X.prog X.w X.K) X.stack X.prog X.w H' s1 Q E) ?_ fun r s' hq=>?_
  ·refine codeAny_call_function hr.depth (KX _ _ lk) rfl Sf.co Sf.gen rfl (PySem.W.codeRec_of KX hcd) (bt _ _ _ _ ?_)
   refine wpAny_newFunctionEnv_cells Sf.kind hkind2 fun env he2 s2 x=>?_
   subst he2
   refine ⟨lim.keeps x.toInCall.keep,codeAny_func ?_⟩
   have I2:Inv (BO (AO X.prog X.w X.K) X.prog X.w X.K X.mg X.base ["_law_call","_law_word","_law_e"] "_law_said" (defScope st) fs cdv X.A X.stack s1 H' E) [] (L2.start ["_law_call","_law_word","_law_e"] [.ref a]) H' s2:=
    Pf Sf hr.hd e0 rfl (.cons rfl .nil) x
   obtain ⟨ps,hps,hca⟩:=code
   have tri:TriplesOk ps.toList:=by
    obtain ⟨_,ps',z1,z2,_⟩:=tab'
    rw [hps] at z1;cases z1;exact z2
   have SX:SaidX g (BO (AO X.prog X.w X.K) X.prog X.w X.K X.mg X.base ["_law_call","_law_word","_law_e"] "_law_said" (defScope st) fs cdv X.A X.stack s1 H' E) P a c' lpos Nc params body scope cl pm ctv vs:=
    ⟨rfl,hk0,hk1,hk2,⟨c,L.tp⟩,⟨ps,hps,tri,hca⟩,by show s1.heap.get? a=_;rw [hh1];exact ob,no,fun z=>absurd (Bc (frLt a z) hsz) (Di _),C1⟩
   have hrS:Room (k+1) (BO (AO X.prog X.w X.K) X.prog X.w X.K X.mg X.base ["_law_call","_law_word","_law_e"] "_law_said" (defScope st) fs cdv X.A X.stack s1 H' E).A:=hr.deeper _
   have bx:=J7 (Mu (X:=BO (AO X.prog X.w X.K) X.prog X.w X.K X.mg X.base ["_law_call","_law_word","_law_e"] "_law_said" (defScope st) fs cdv X.A X.stack s1 H' E) (E:=E) (i:=1) (pos:=p3) (pos':=p1) Sf.nd rfl (Or.inl hk1) (Pv (x:="told") (j:=j1) (pos:=p2)))
    (J7 (Z3 (j:=j) (p4:=p4) (p5:=p5) (p6:=p6) (p7:=p7) (p8:=p8) (p9:=p9) (p10:=p10) (p11:=p11) (p12:=p12) (p13:=p13) (p14:=p14) Ko SX hrS et hsw (hgS _ _) (hgK _ _) hkind S.lam (hbind cl pm (.ref c') ctv) (fun s H E'=>hb a (.ref c') cl _ _ s H E'))
     (J6 (PU (pos:=p16) (Mo (LR (i:=1) (x:="_law_word") (pos:=p15) rfl (.inl hk1))))))
   rw [←hst] at bx
   have post:G3 X.K E (Ag (Ap 1 (mC (.str "told"))) (Ag (Ku j g a vs Fk f) (Al (Ab 1)))) {nx:=fun _ H''=>Q .non H'',rt:=Q} (L2.start ["_law_call","_law_word","_law_e"] [.ref a]) H':=by
    refine ⟨m,[some (.clo a vs ds),none,none],h,hrN,?_,?_⟩
    ·refine ⟨rfl,fun i d e=>?_⟩
     match i,e with
     |0,e=>cases e;exact ⟨.ref a,rfl,by unfold DV;exact ⟨rfl,DVs.keep (Ax _) kp dvs⟩⟩
     |1,e=>cases e
     |2,e=>cases e
     |i+3,e=>cases e
    ·have p2:=Post.ahead (Ax m) kp pp
     unfold Ag Ap mC
     simp only [Out.bind_ok]
     unfold Ku
     simp only [List.set_cons_succ,List.set_cons_zero,List.getElem?_cons_zero,et0,and_self,if_true]
     unfold M6 at p2
     cases ho:f (ds.map some) h with
     |stuck=>rw [ho] at p2;exact p2.elim
     |ok d h1=>
      rw [ho] at p2
      exact fun m' H'' p1 k1 hr' v rv=>p2 v m' H'' p1 k1 hr' rv
     |err Cv fs h1=>
      rw [ho] at p2
      cases Cv with
      |str n t=>
       simp only at p2 ⊢
       split at p2
       ·rename_i hn
        simp only [hn,if_true]
        cases hi:EA fs with
        |none=>rw [hi] at p2;exact p2.elim
        |some is=>
         rw [hi] at p2
         simp only at p2 ⊢
         cases hk:Fk [.exc n is] h1 with
         |stuck=>rw [hk] at p2;exact p2.elim
         |err _ _ _=>rw [hk] at p2;exact p2.elim
         |ok d h2=>
          rw [hk] at p2
          exact fun m' H'' p1 k1 hr' v rv=>p2 v m' H'' p1 k1 hr' rv
       ·exact p2.elim
      |_=>exact p2.elim
   refine wpAny_mono (bx [] s2 _ H' _ I2 post) (fun fl s' hs=>?_) fun e s' hs=>hs
   cases fl with
   |ret u=>
    obtain ⟨v,σ',H'',J,rv,q⟩:=hs
    exact ⟨v,H'',J.os,J.bare,J.base,J.hok,rv,q⟩
   |next=>
    obtain ⟨σ',H'',J,q⟩:=hs
    exact ⟨V.non,H'',J.os,J.bare,J.base,J.hok,rfl,q⟩
   |brk=>
    obtain ⟨_,_,_,q⟩:=hs
    exact False.elim q
   |cont=>
    obtain ⟨_,_,_,q⟩:=hs
    exact False.elim q
  ·cases r with
   |error e=>exact MW lv pins σ H' s1 e s' I' hq
   |ok fl=>
    cases fl with
    |ret u=>exact I'.after hq
    |next=>exact False.elim hq
    |brk=>exact False.elim hq
    |cont=>exact False.elim hq
 ·exact pp.elim
end
end LS
namespace LS
open PySem PySem.Spec PyProof.Rows L2 PySem.W
def IJ (mg:Str→Option Value) (base:Heap):Prop:=∃bm o,mg "__builtins__"=some (.ref bm)∧bm≠builtinsNs∧base.get? bm=some o∧o.cls=.type "module"∧o.dict=some builtinsNs∧o.data=.plain
open AutoSeq1 (wpAny_loadPart')
theorem Z6:fillsNumberSlot (.type "tuple") "mul"=pure false:=by
 first |exact noFill_tuple_mul' |(unfold fillsNumberSlot;kernel_rfl)
theorem Z7:seqRepeat? (.type "tuple")=pure (some (.builtin "tuple.__mul__")):=by
 unfold seqRepeat?
 rw [PySem.seqSlot_of (T:="tuple") (name:="__mul__") (id:="tuple.__mul__") F.slot_tuple_mul.lookup (by decide +kernel),PySem.seqSlot_of (T:="tuple") (name:="__rmul__") (id:="tuple.__rmul__") (by rw [typeLookup_type,builtinLookup_eq_fast];kernel_rfl) (by decide +kernel)]
 rfl
theorem Z8 (a:Int) (t:Tok) (l:Addr) (items:Array Value) (n:Nat) (dd:Option Addr) (sl:Array (Option Value)):
 Meets (Builtin.«int.__rmul__» ⟨[.int a t,.ref l],[]⟩) (fun _ R s=>s.heap.get? l=some {cls:=.type "tuple",dict:=dd,data:=.seq items n,slots:=sl}∧R (.ok (.ret Value.notImplemented)) s):=
 .of_wp fun prog w A R s h=>by
  obtain ⟨hp,g,d,tk,os⟩:=s;obtain ⟨hl,h⟩:=h
  wp_walk;exact ⟨_,rfl,h⟩
theorem Z9 (l:Addr) (items:Array Value) (n:Nat) (dd:Option Addr) (sl:Array (Option Value)) (x:Int) (u:Tok) (h1:1<x) (h2:x<2^63) (hne:items.isEmpty=false) (hz:items.size*x.toNat≤sizeLine):
 Meets (Builtin.«tuple.__mul__» ⟨[.ref l,.int x u],[]⟩) (fun _ R s=>s.heap.get? l=some {cls:=.type "tuple",dict:=dd,data:=.seq items n,slots:=sl}∧R (.ok (.ret (Value.ref s.heap.objs.size))) {s with heap:=s.heap.push {cls:=Value.type "tuple",data:=Data.seq (List.foldl (fun x1 x2=>x1++x2) #[] (List.replicate x.toNat items))}}):=
 .of_wp fun prog w A R s h=>by
  obtain ⟨hp,g,d,tk,os⟩:=s;obtain ⟨hl,h⟩:=h
  have c1:(decide (x < -2^63)||decide (x≥2^63))=false:=by simp;omega
  have c2:(items.isEmpty||x==1)=false:=by
   rw [hne,Bool.false_or]
   exact beq_eq_false_iff_ne.mpr (by omega)
  have c3:(decide (x≤0)||items.isEmpty)=false:=by
   rw [hne,Bool.or_false]
   exact decide_eq_false (by omega)
  have hx:(x.toNat:Int)=x:=Int.toNat_of_nonneg (by omega)
  have hz':(items.size:Int)*x≤sizeLine:=by rw [←hx];exact_mod_cast hz
  have c4:¬((items.size:Int)*x>(2^63 - 1) / 8):=by
   have:(sizeLine:Int)≤(2^63 - 1) / 8:=by decide
   omega
  have c5:Builtin.Tuple.tupleTooMany ((items.size:Int)*x)=false:=by
   unfold Builtin.Tuple.tupleTooMany
   exact decide_eq_false (by omega)
  have c6:(List.foldl (fun x1 x2=>x1++x2) #[] (List.replicate x.toNat items)).size≤sizeLine:=by
   have f0:=JR items.toList x.toNat []
   rw [Fp] at f0
   have:List.foldl (fun x1 x2=>x1++x2) #[] (List.replicate x.toNat items)=(List.replicate x.toNat items.toList).flatten.toArray:=by simpa using f0
   rw [this,Bs,JS,Nat.mul_comm]
   simpa using hz
  wp_walk using wpAny_loadPart' hl
  rw [c1]
  simp only [Bl,if_false]
  refine wpAny_bind ?_
  unfold Builtin.Tuple.tupleItemsOf
  wp_walk using wpAny_loadPart' hl
  rw [c2]
  simp only [Bl,if_false]
  rw [c3]
  simp only [Bl,if_false]
  rw [if_neg c4,c5]
  simp only [Bl,if_false]
  refine wpAny_bind (wpAny_newObj_type (wpAny_pure ⟨_,rfl,h⟩) c6)
theorem Zaa (l:Addr) (items:Array Value) (n:Nat) (dd:Option Addr) (sl:Array (Option Value)) (u:Tok):
 Meets (Builtin.«tuple.__mul__» ⟨[.ref l,.int 1 u],[]⟩) (fun _ R s=>s.heap.get? l=some {cls:=.type "tuple",dict:=dd,data:=.seq items n,slots:=sl}∧R (.ok (.ret (Value.ref l))) s):=
 .of_wp fun prog w A R s h=>by
  obtain ⟨hp,g,d,tk,os⟩:=s;obtain ⟨hl,h⟩:=h
  have c1:(decide ((1:Int) < -2^63)||decide ((1:Int)≥2^63))=false:=by decide
  have c2:(items.isEmpty||(1:Int)==1)=true:=by simp
  wp_walk using wpAny_loadPart' hl
  exact ⟨_,rfl,h⟩
theorem Zab (l:Addr) (items:Array Value) (n:Nat) (dd:Option Addr) (sl:Array (Option Value)) (x:Int) (u:Tok) (h1:-(2^63)≤x) (h2:x≤0) (hne:items.isEmpty=false):
 Meets (Builtin.«tuple.__mul__» ⟨[.ref l,.int x u],[]⟩) (fun _ R s=>s.heap.get? l=some {cls:=.type "tuple",dict:=dd,data:=.seq items n,slots:=sl}∧R (.ok (.ret (Value.ref s.heap.objs.size))) {s with heap:=s.heap.push {cls:=Value.type "tuple",data:=Data.seq #[]}}):=
 .of_wp fun prog w A R s h=>by
  obtain ⟨hp,g,d,tk,os⟩:=s;obtain ⟨hl,h⟩:=h
  have c1:(decide (x < -2^63)||decide (x≥2^63))=false:=by simp;omega
  have c2:(items.isEmpty||x==1)=false:=by
   rw [hne,Bool.false_or]
   exact beq_eq_false_iff_ne.mpr (by omega)
  have c3:(decide (x≤0)||items.isEmpty)=true:=by
   rw [hne,Bool.or_false]
   exact decide_eq_true h2
  wp_walk using wpAny_loadPart' hl
  rw [c1]
  simp only [Bl,if_false]
  refine wpAny_bind ?_
  unfold Builtin.Tuple.tupleItemsOf
  wp_walk using wpAny_loadPart' hl
  rw [c2]
  simp only [Bl,if_false]
  rw [c3]
  simp only [if_true]
  refine wpAny_bind (wpAny_newObj_type (wpAny_pure ⟨_,rfl,h⟩) (by show (#[]:Array Value).size≤sizeLine;simp))
section
variable {X:Cx} {E:XK}
def Zac (K:Frag):R2:=fun x y H Q=>∃l k xs,x=.ref l∧y=.int k∧TupAt K H l xs∧xs≠[]∧-(2^63)≤k∧k<2^63∧xs.length*k.toNat≤sizeLine∧(k=1→Q (.ref l) H)∧
 ∀p,H p=none→Q (.ref p) (Aj H p (.tup (List.replicate k.toNat xs).flatten))
theorem Inv.tnew {pins:List (Addr×Obj)} {σ:L2.St} {H:Hp} {s:Shared} {ys:List V} {its:List Value} {t':Nat} (I:Inv X pins σ H s) (hv:Vals ys its) (hz:ys.length≤sizeLine):
 Inv X pins σ (Aj H s.heap.objs.size (.tup ys)) {s with heap:=s.heap.push {cls:=.type "tuple",data:=.seq its.toArray},toks:=t'}:=
 I.laid (fun _ _ q=>A5 _ q) (Au _) ⟨hz,its,hv,⟨_,BM _ rfl,rfl,0,rfl⟩,NoDict.new⟩
theorem op_repT:OpR X (binaryOp .Mult) (Zac X.K):=by
 intro pins s σ H x y v u Q I rx ry h
 obtain ⟨l,k,xs,rfl,rfl,hH,hne,h1,h2,hz,q1,q⟩:=h
 cases rx
 obtain ⟨t,rfl⟩:=ry
 obtain ⟨z,its,r,⟨o,ho,hc,n,hd⟩,_⟩:=tok ⟨I.hok,I.kIn⟩ hH
 obtain ⟨oc,dd,dat,sl⟩:=o
 simp only at hc hd
 subst hc hd
 have hl:=r.length
 have hine:its.toArray.isEmpty=false:=by
  cases its with
  |nil=>exfalso;cases xs with
   |nil=>exact hne rfl
   |cons _ _=>simp at hl
  |cons a b=>simp
 have mul:∀{Q':Value→Shared→Prop},wpAny (model X.prog X.w) X.A (call (.builtin "tuple.__mul__") [.ref l,.int k t]) Q' X.xe s→wpAny (model X.prog X.w) X.A (binaryOp .Mult (.ref l) (.int k t)) Q' X.xe s:=fun {Q'} hq=>
  wpAny_binaryOp_repeat_ref (T:="tuple") (U:="int") (by decide) ⟨_,ho,rfl⟩ (fun s'=>typeIs_int s' k t) Z6 F.fills_int_mul F.slot_int_rmul Z7 F.slot_int_index.lookup
   (call_meets F.slot_int_rmul (typeIs_int s k t) F.entry_int_rmul (F.args_int_rmul_2 _ _) (Z8 k t l its.toArray n dd sl) ⟨ho,rfl,⟨_,ho,rfl⟩,hq⟩)
 refine mul ?_
 rcases Int.lt_trichotomy k 1 with hk |hk |hk
 ·refine call_meets F.slot_tuple_mul ⟨_,ho,rfl⟩ F.entry_tuple_mul (F.args_tuple_mul_2 _ _) (Zab l its.toArray n dd sl k t h1 (by omega) hine) ⟨ho,?_⟩
  have e:(List.replicate k.toNat xs).flatten=[]:=by
   have:k.toNat=0:=by omega
   rw [this];rfl
  have:=q _ I.fresh
  rw [e] at this
  exact ⟨.ref _,_,LS.Inv.tnew (its:=[]) (t':=s.toks) I .nil (DL _),rfl,this⟩
 ·subst hk
  refine call_meets F.slot_tuple_mul ⟨_,ho,rfl⟩ F.entry_tuple_mul (F.args_tuple_mul_2 _ _) (Zaa l its.toArray n dd sl t) ⟨ho,?_⟩
  exact ⟨.ref l,H,I,rfl,q1 rfl⟩
 ·refine call_meets F.slot_tuple_mul ⟨_,ho,rfl⟩ F.entry_tuple_mul (F.args_tuple_mul_2 _ _) (Z9 l its.toArray n dd sl k t hk h2 hine (by rw [Bs,←hl];exact hz)) ⟨ho,?_⟩
  have f0:=JR its k.toNat []
  rw [Fp] at f0
  have f1:List.foldl (fun x1 x2=>x1++x2) #[] (List.replicate k.toNat its.toArray)=(List.replicate k.toNat its).flatten.toArray:=f0
  rw [f1]
  exact ⟨.ref _,_,LS.Inv.tnew (t':=s.toks) I (r.rep k.toNat) (by rw [JS,Nat.mul_comm];exact hz),rfl,q _ I.fresh⟩
noncomputable def DB:D→D→HD→Out D:=fun x y h=>match x,y with
 |.tup xs,.int k=>@ite _ (xs≠[]∧-(2^63)≤k∧k<2^63∧xs.length*k.toNat≤sizeLine) (Classical.propDecidable _) (.ok (.tup (List.replicate k.toNat xs).flatten) h) .stuck
 |_,_=>Dz x y h
theorem Zad:By X (binaryOp .Mult) DB:=by
 obtain ⟨r0,hr0,i0⟩:=YT (X:=X)
 refine ⟨_,op_repT.or hr0,fun m H h E x y v u Q hr rx ry q=>?_⟩
 unfold DB at q
 split at q
 ·rename_i xs k
  split at q
  ·rename_i hc
   obtain ⟨hne,h1,h2,hz⟩:=hc
   simp only [DV] at rx ry
   obtain ⟨a,vs,rfl,ha,dv⟩:=rx
   subst ry
   refine .inl ⟨a,k,vs,rfl,rfl,ha,?_,h1,h2,by rw [←dv.len];exact hz,fun e=>?_,?_⟩
   ·intro e;have:=dv.len;rw [e] at this;exact hne (List.length_eq_zero_iff.mp this)
   ·subst e
    refine AI hr q ?_
    simp only [DV]
    exact ⟨a,vs,rfl,ha,by simpa using dv⟩
   ·exact G5 hr (DVs.rep dv k.toNat) q
  ·exact q.elim
 ·exact .inr (i0 m H h E x y v u Q hr rx ry q)
end
end LS
namespace LS
open PySem PySem.Spec PyProof.Rows L2 PySem.W
section
variable {X:Cx} {E:XK}
abbrev MJ:=Str→Af→HD→Out Str
def Zae:MJ:=fun acc _ h=>if acc.length≤sizeLine then .ok acc h else .stuck
def Zaf (y:Str) (r:MJ):MJ:=fun acc ρ h=>if (acc++y).length≤sizeLine then r (acc++y) ρ h else .stuck
def QZ (f:ME) (r:MJ):MJ:=fun acc ρ h=>(f ρ h).bind fun d h1=>match d with
 |.int i=>if i.natAbs.log2<1920∧(acc++(toString i:Str)).length≤sizeLine then r (acc++(toString i:Str)) ρ h1 else .stuck
 |_=>.stuck
def M7 (fj:MJ):ME:=fun ρ h=>(fj Str.empty ρ h).bind fun x h1=>.ok (.str x) h1
def Zf5:D→HD→Out D:=fun x h=>match A9 h 8 x with
 |some p=>if p.showable=true∧p.hasDict=false∧p.depth≤40∧p.shown.length≤sizeLine then .ok (.str p.shown) h else .stuck
 |none=>.stuck
def AA:D→D→HD→Out D:=fun x y h=>match x,y with
 |.str a,.str b=>.ok (.bl (a==b)) h
 |_,_=>F6 x y h
def AZ:D→D→HD→Out D:=fun x y h=>match x,y with
 |.str a,.str b=>.ok (.bl (!(a==b))) h
 |_,_=>Em x y h
theorem Q0 (hu:X.A.units+64<cLine):By X (compareOp .Eq) AA:=by
 obtain ⟨r0,hr0,i0⟩:=XY (X:=X) hu
 refine ⟨_,op_eq.or hr0,fun m H h E x y v u Q hr rx ry q=>?_⟩
 unfold AA at q
 split at q
 ·simp only [DV] at rx ry
  subst rx ry
  exact .inl ⟨rfl,by rw [JM];exact AI hr q (by simp [DV])⟩
 ·exact .inr (i0 m H h E x y v u Q hr rx ry q)
theorem Zag (hu:X.A.units+64<cLine):By X (compareOp .NotEq) AZ:=by
 obtain ⟨r0,hr0,i0⟩:=XZ (X:=X) hu
 refine ⟨_,op_ne.or hr0,fun m H h E x y v u Q hr rx ry q=>?_⟩
 unfold AZ at q
 split at q
 ·simp only [DV] at rx ry
  subst rx ry
  exact .inl ⟨rfl,by rw [JM];exact AI hr q (by simp [DV])⟩
 ·exact .inr (i0 m H h E x y v u Q hr rx ry q)
def Kv:List Nat→List D→Af→Option Af
 |[],[],ρ=>some ρ
 |i::is,d::ds,ρ=>Kv is ds (ρ.set i (some d))
 |_,_,_=>none
def Gi (is:List Nat):MG:=fun d ρ=>match d with
 |.tup ds=>Kv is ds ρ
 |_=>none
def M8:List Nat→EZ
 |[]=>Ft
 |i::is=>CT (Ce i) (M8 is)
theorem Q1:∀{is:List Nat} {ds:List D} {ρ ρ':Af},Kv is ds ρ=some ρ'→ds.length=is.length
 |[],[],_,_,_=>rfl
 |[],_::_,_,_,e=>by cases e
 |_::_,[],_,_,e=>by cases e
 |_::is,_::ds,_,_,e=>by simpa using Q1 (is:=is) (ds:=ds) e
theorem Q2 {K:Frag} {m:List Addr} {H:Hp}:∀{is:List Nat} {ds:List D} {vs:List V} {ρ ρ':Af} {σ:L2.St} {Q:L2.St→Hp→Prop},DVs K m H ds vs→ER K m H ρ σ→Kv is ds ρ=some ρ'→(∀σ',ER K m H ρ' σ'→Q σ' H)→M8 is vs σ H Q
 |[],[],vs,ρ,ρ',σ,Q,r,er,e,q=>by
  simp only [DVs] at r
  subst r
  cases e
  exact ⟨rfl,q σ er⟩
 |[],_::_,_,_,_,_,_,_,_,e,_=>by cases e
 |_::_,[],_,_,_,_,_,_,_,e,_=>by cases e
 |i::is,d::ds,vs,ρ,ρ',σ,Q,r,er,e,q=>by
  simp only [DVs] at r
  obtain ⟨v,w,rfl,rv,rw'⟩:=r
  exact ⟨v,w,rfl,Q2 rw' (er.set rv) e q⟩
theorem Zah {es:List Expr} {is:List Nat} {kt:Nat} {pos:Pos} (h:PG X (.Tuple es kt pos) (Fu X.K is.length (M8 is))):Fz X (.Tuple es kt pos) (Gi is):=⟨_,h,fun m H d v ρ σ ρ' Q r er e q=>by
 unfold Gi at e
 split at e
 ·rename_i ds
  simp only [DV] at r
  obtain ⟨p,vs,rfl,hp,dv⟩:=r
  exact ⟨p,vs,rfl,tq hp,by rw [←dv.len];exact Q1 e,Q2 dv er e q⟩
 ·cases e⟩
end
variable {g:Str}
theorem M9 {K:Frag} (h:etOk K=true) {n:Str} (hn:n∈excNames):∃C,nsIn K mainGlobals n=some (some (.ref C)):=by
 unfold etOk at h
 split at h
 ·rename_i S hS
  have h1:=qaI.mp h n hn
  cases e:Ey K n with
  |none=>rw [e] at h1;cases h1
  |some C=>exact ⟨C,QN e⟩
 ·cases h
section
variable {X:Cx} {E:XK}
theorem Zai {x:Str} {pos:Pos} (et:etOk X.K=true) (hn:x∈excNames) (hg:Gl X x:=by rfl) (hd:(x==("__debug__":Str))=false:=by decide):Ev X E (.Name x pos) (mC (.glo x)):=by
 obtain ⟨a,h⟩:=M9 et hn
 exact ZF hg h hd
theorem Zaj {x:Str} {e:Expr} {es:List Expr} {fa:MA} {np cpos pos:Pos} (et:etOk X.K=true) (hn:x∈excNames) (hne:x≠"TooMany") (hg:Gl X x) (hc:X.calm=true) (th:MZ X E) (ha:CV X E (e::es) fa)
 (hdb:(x==("__debug__":Str))=false:=by decide) (he:starEach (e::es) X.env=(false,eval e X.env)::starEach es X.env:=by rfl) (hpl:(backTo cpos (starEach (e::es) X.env)).any (·.1)=false:=by rfl):
 Ex X E (.Raise (some (.Call (.Name x np) (e::es) [] cpos)) none pos) (E7 x fa):=by
 obtain ⟨C,h⟩:=M9 et hn
 exact Zo ((Ks et hn h).at_ hne) h hg hc th ha hdb he hpl
end
theorem CaM.mono {P:Program} {w:World} {K:Frag} {mg:Str→Option Value} {base:Heap} {x:Str} {j k:Nat} {F:List D→HD→Out D} (C:CaM P w K mg base x j F) (h:j≤k):CaM P w K mg base x k F:=by
 obtain ⟨f,fd,ps,G,r⟩:=C.ex
 exact ⟨f,fd,ps,⟨fun A outer s H args us vs Q hr=>G.run A outer s H args us vs Q (hr.mono h)⟩,r⟩
structure SaidD (K:Frag) (mg:Str→Option Value) (st:Stmt) (fs:Addr) (fd:FuncData):Prop where
 fn:Fun K "_law_said" "_law_said" st fs fd
 bd:Binds K fd ["_law_call"] []
 mg:mg "_law_said"=some (.ref fs)
structure Na (st:Stmt):Prop where
 sc:Dq ["_law_call","_law_word","_law_e"] ["_law_call"] (defScope st)
 k0:(defScope st).names.lookup ("_law_call":Str)=some .local
 k1:(defScope st).names.lookup ("_law_word":Str)=some .local
 k2:(defScope st).names.lookup ("_law_e":Str)=some .local
 gS:(defScope st).names.lookup ("SwitchError":Str)=some .globalImplicit
 gK:(defScope st).names.lookup ("_law_kind":Str)=some .globalImplicit
 tx:∃p1 j1 p2 p3 p4 p5 p6 p7 p8 p9 p10 p11 p12 p13 p14 p15 p16,defBody st=[.Assign [.Name "_law_word" p1] (.Constant (.str "told") j1 p2) p3,.Try [.Expr (.Call (.Name "_law_call" p4) [] [] p5) p6] [.ExceptHandler (some (.Name "SwitchError" p7)) (some "_law_e") [.Assign [.Name "_law_word" p8] (.Call (.Name "_law_kind" p9) [.Name "_law_e" p10] [] p11) p12] p13] [] [] p14,.Return (some (.Name "_law_word" p15)) p16]
theorem Zak {j:Nat} {X:Cx} {E:XK} {c P:Addr} {Nc:List Str} {cs:List Nat} {params:Arguments} {body:Expr} {scope:Scope} {k kk:Nat} {Fk:List D→HD→Out D} {f:ME} {fs:Addr} {fd:FuncData} {st:Stmt} {lpos p pos:Pos}
 (L:LamX g X c P) (fna:∀x,X.fn x=true) (hr:Room kk X.A) (lv:Lv X E) (et:etOk X.K=true) (Sd:SaidD X.K X.mg st fs fd) (St:Na st) (hkind:CaM X.prog X.w X.K X.mg X.base "_law_kind" k Fk) (S:LSc X scope Nc cs)
 (hb:∀(a:Addr) (cd:Value) (cl:List (Str×Addr)) (A:Around) (outer:List Env) (s:Shared) (H:Hp) (E':XK),Room k (A.deeper (envX (Bi g) scope s.heap.objs.size a cd cl))→Ev (Ez g X.prog X.w X.K X.mg X.base Nc scope a cd cl A outer s H E') E' body f)
 (hg:Gl X "_law_said") (hkk:k+2≤kk:=by decide) (hdef:defaultsOf params X.env=([],[]):=by rfl)
 (hbind:∀(cl:List (Str×Addr)) (pm cv ctv:Value),bindArgs (kla_fn "<lambda>" (Bi g) params body scope cl pm cv ctv) ⟨[],[]⟩=pure []:=by exact fun _ _ _ _=>rfl)
 (he:starEach [.Lambda params body scope lpos] X.env=(false,eval (.Lambda params body scope lpos) X.env)::starEach [] X.env:=by rfl) (hpl:(backTo pos (starEach [] X.env)).any (·.1)=false:=by rfl):
 Ev X E (.Call (.Name "_law_said" p) [.Lambda params body scope lpos] [] pos) (Gh j g cs Fk f):=by
 obtain ⟨p1,j1,p2,p3,p4,p5,p6,p7,p8,p9,p10,p11,p12,p13,p14,p15,p16,hst⟩:=St.tx
 exact Z5 L fna (hr.mono hkk) lv et (M9 et (by decide +kernel)) Sd.fn Sd.bd Sd.mg Sd.fn.kp St.sc St.k0 St.k1 St.k2 (fun _ _=>St.gS) (fun _ _=>St.gK) hst hkind hg S hdef hbind hb he hpl
theorem Zal {P:Program} {w:World} {K:Frag} {mg:Str→Option Value} {base:Heap} {x qual:Str} {st:Stmt} {f:Addr} {kV doc pm cdv ct oc:Value} {an od:Option Addr} {osl:Array (Option Value)} {N ps:List Str} {k:Nat} {F:List D→HD→Out D} {g:MS}
 (lk:K.lookup f=some ⟨oc,od,.func (PySem.W.fnOf x qual (defArgs st) (defBody st) (defScope st) .none kV doc pm an cdv ct),osl⟩) (hcd:PySem.W.codeIn K cdv qual=true) (S:Dq N ps (defScope st)) (ar:Ar ps.length F)
 (hg:∀ds h,ds.length=ps.length→F ds h=Ay N.length g ds h)
 (hbody:∀(A:Around) (outer:List Env) (s:Shared) (H:Hp) (E:XK),Room k (A.deeper (envOfC qual (defScope st) s.heap.objs.size f cdv))→Cz (BO (AO P w K) P w K mg base N qual (defScope st) f cdv A outer s H E) E (defBody st) g):
 FnOk P w K mg base (AO P w K) (k+1) f (PySem.W.fnOf x qual (defArgs st) (defBody st) (defScope st) .none kV doc pm an cdv ct) ps (DS K F):=by
 refine Pg lk hcd S (fun vs H Q E h=>Kr ar h) fun A outer s H vs Q E hr h=>?_
 refine ⟨_,hbody A outer s H E hr,?_⟩
 have hl:=Kr ar h
 obtain ⟨m,ds,hd,hr1,r,p⟩:=h
 have hld:ds.length=ps.length:=by rw [r.len];exact hl
 refine ⟨m,ds.map some++List.replicate (N.length - ds.length) none,hd,hr1,ER.start r,?_⟩
 rw [hg ds hd hld] at p
 unfold Ay at p
 cases o:g (ds.map some++List.replicate (N.length - ds.length) none) hd with
 |stuck=>rw [o] at p;exact p
 |err C fs h1=>rw [o] at p;exact p
 |ok a h1=>
  rw [o] at p
  obtain ⟨fl,ρ1⟩:=a
  intro m1 H1 p1 k1 hr1
  cases fl with
  |nx=>exact fun σ er=>p .non m1 H1 p1 k1 hr1 (by simp [rD,DV])
  |bk=>exact False.elim p
  |ct=>exact False.elim p
  |rt d=>exact fun v rv=>p v m1 H1 p1 k1 hr1 rv
def Zf6 (K:Frag) (T:Addr):Bool:=match tabP K "law" with
 |some (c,T')=>T'==T&&codeHdIn K c T
 |none=>false
end LS
namespace LS
open PySem PySem.Spec PyProof.Rows L2
def We {α:Type} (o:Out α) (Q:α→HD→Prop) (R:Str→List (Str×D)→HD→Prop):Prop:=match o with
 |.ok a h=>Q a h
 |.err (.str n _) fs h=>R n fs h
 |_=>False
section
variable {α β:Type} {o:Out α} {Q Q':α→HD→Prop} {R R':Str→List (Str×D)→HD→Prop}
@[simp] theorem BB (a:α) (h:HD):We (.ok a h) Q R=Q a h:=rfl
@[simp] theorem Zf7 (n:Str) (t:Tok) (fs:List (Str×D)) (h:HD):We (.err (.str n t) fs h:Out α) Q R=R n fs h:=rfl
@[simp] theorem Zf8:We .stuck Q R=False:=rfl
theorem B2 {k:α→HD→Out β} {Q:β→HD→Prop}:We (o.bind k) Q R=We o (fun a h=>We (k a h) Q R) R:=by
 cases o with
 |ok a h=>rfl
 |err C fs h=>cases C<;>rfl
 |stuck=>rfl
theorem Wp.we (h:Wp o Q):We o Q R:=by
 cases o with
 |ok a h'=>exact h
 |_=>exact h.elim
theorem We.mono (h:We o Q R) (f:∀a h,Q a h→Q' a h) (g:∀n fs h,R n fs h→R' n fs h):We o Q' R':=by
 cases o with
 |ok a h'=>exact f _ _ h
 |err C fs h'=>cases C<;>first |exact g _ _ _ h |exact h.elim
 |stuck=>exact h
theorem Pu.we {h:HD} {a:α} (p:Pu o h a) (k:∀h',Sm h h'→Q a h'):We o Q R:=Wp.we (p.wp k)
end
def Er {α:Type} (o:Out α) (h:HD) (n:Str):Prop:=We o (fun _ _=>False) fun n' fs h'=>n'=n∧fs=[]∧Sm h h'
theorem Er.we {α:Type} {o:Out α} {h:HD} {n:Str} {Q:α→HD→Prop} {R:Str→List (Str×D)→HD→Prop} (e:Er o h n) (k:∀h',Sm h h'→R n [] h'):We o Q R:=We.mono e (fun _ _ z=>z.elim) fun n' fs h' z1_=>by obtain ⟨rfl,rfl,s⟩:=z1_;exact k h' s
theorem EB {N:Nat} {g:MS} {ds:List D} {h:HD} {Q:D→HD→Prop} {R:Str→List (Str×D)→HD→Prop}:We (Ay N g ds h) Q R=We (g (ds.map some++List.replicate (N - ds.length) none) h) (FB Q) R:=by
 unfold Ay
 cases o:g (ds.map some++List.replicate (N - ds.length) none) h with
 |ok a h1=>
  obtain ⟨fl,ρ⟩:=a
  cases fl<;>rfl
 |err C fs h1=>cases C<;>rfl
 |stuck=>rfl
section
variable {ρ:Af} {h:HD} {Q:Fl×Af→HD→Prop} {QD:D→HD→Prop} {QB:Bool→HD→Prop} {R:Str→List (Str×D)→HD→Prop} {g g1 g2:MS} {f:ME} {t:MT} {fa:MA} {F:List D→HD→Out D}
def Nb (g2:MS) (Q:Fl×Af→HD→Prop) (R:Str→List (Str×D)→HD→Prop):Fl×Af→HD→Prop
 |(.nx,ρ),h=>We (g2 ρ h) Q R
 |y,h=>Q y h
@[simp] theorem Nd:Nb g2 Q R (.nx,ρ) h=We (g2 ρ h) Q R:=rfl
@[simp] theorem Zf9 {d:D}:Nb g2 Q R (.rt d,ρ) h=Q (.rt d,ρ) h:=rfl
@[simp] theorem BV:We (Ag g1 g2 ρ h) Q R=We (g1 ρ h) (Nb g2 Q R) R:=by
  unfold Ag
  rw [B2]
  congr 1
  funext x h1
  obtain ⟨fl,ρ1⟩:=x
  cases fl<;>rfl
@[simp] theorem Zam:We (AD ρ h) Q R=Q (.nx,ρ) h:=rfl
@[simp] theorem ED:We (Bn f ρ h) Q R=We (f ρ h) (fun _ h1=>Q (.nx,ρ) h1) R:=by unfold Bn;rw [B2];rfl
@[simp] theorem Zan:We (Al f ρ h) Q R=We (f ρ h) (fun d h1=>Q (.rt d,ρ) h1) R:=by unfold Al;rw [B2];rfl
@[simp] theorem Kw {i:Nat}:We (Ap i f ρ h) Q R=We (f ρ h) (fun d h1=>Q (.nx,ρ.set i (some d)) h1) R:=by unfold Ap;rw [B2];rfl
@[simp] theorem E8:We (Aw t g1 g2 ρ h) Q R=We (t ρ h) (fun b h1=>We (if b=true then g1 ρ h1 else g2 ρ h1) Q R) R:=by unfold Aw;rw [B2]
@[simp] theorem DD:We (Ae F fa ρ h) QD R=We (fa ρ h) (fun ds h1=>We (F ds h1) QD R) R:=by unfold Ae;rw [B2]
@[simp] theorem Zga {n:Str}:We (E7 n fa ρ h) Q R=We (fa ρ h) (fun xs h1=>We (if xs.length≤sizeLine then (.err (DR n) [] h1:Out (Fl×Af)) else .stuck) Q R) R:=by unfold E7;rw [B2]
@[simp] theorem Zgb:We (CA t ρ h) QB R=We (t ρ h) (fun b h1=>QB (!b) h1) R:=by unfold CA;rw [B2];rfl
@[simp] theorem Zgc {u:MT}:We (FY t u ρ h) QB R=We (t ρ h) (fun b h1=>We (if b=true then u ρ h1 else .ok false h1) QB R) R:=by unfold FY;rw [B2]
@[simp] theorem Zgd {u:MT}:We (Cg t u ρ h) QB R=We (t ρ h) (fun b h1=>We (if b=true then .ok true h1 else u ρ h1) QB R) R:=by unfold Cg;rw [B2]
@[simp] theorem Zao:We (Cf f ρ h) QB R=We (f ρ h) (fun x h1=>We (DO x h1) QB R) R:=by unfold Cf;rw [B2]
@[simp] theorem E9:We (An f ρ h) QB R=We (f ρ h) (fun x h1=>We (D1 x h1) QB R) R:=by unfold An;rw [B2]
@[simp] theorem CF {QA:List D→HD→Prop}:We (Ac ρ h) QA R=QA [] h:=rfl
@[simp] theorem CO {QA:List D→HD→Prop}:We (Aa f fa ρ h) QA R=We (f ρ h) (fun x h1=>We (fa ρ h1) (fun xs h2=>QA (x::xs) h2) R) R:=by
  unfold Aa;simp only [B2];rfl
@[simp] theorem Co {d:D} {r:Af}:We (Ab 0 (some d::r) h) QD R=QD d h:=rfl
@[simp] theorem CZ {i:Nat} {x:Option D} {r:Af}:We (Ab (i+1) (x::r) h) QD R=We (Ab i r h) QD R:=rfl
@[simp] theorem EF {d:D}:We (mC d ρ h) QD R=QD d h:=rfl
@[simp] theorem EG {op:D→D→HD→Out D} {f':ME}:We (Ad op f f' ρ h) QD R=We (f ρ h) (fun x h1=>We (f' ρ h1) (fun y h2=>We (op x y h2) QD R) R) R:=by unfold Ad;simp only [B2]
@[simp] theorem Zge {fj:MJ}:We (M7 fj ρ h) QD R=We (fj Str.empty ρ h) (fun x h1=>QD (.str x) h1) R:=by unfold M7;rw [B2];rfl
end
def Et {α:Type} (o:Out α) (h:HD) (n:Str) (fs:List (Str×D)):Prop:=We o (fun _ _=>False) fun n' fs' h'=>n'=n∧fs'=fs∧Sm h h'
theorem Et.we {α:Type} {o:Out α} {h:HD} {n:Str} {fs:List (Str×D)} {Q:α→HD→Prop} {R:Str→List (Str×D)→HD→Prop} (e:Et o h n fs) (k:∀h',Sm h h'→R n fs h'):We o Q R:=We.mono e (fun _ _ z=>z.elim) fun n' fs h' z1_=>by obtain ⟨rfl,rfl,s⟩:=z1_;exact k h' s
theorem Zap {j:Nat} {g:Str} {cs:List Nat} {Fk:List D→HD→Out D} {f:ME} {ρ:Af} {h:HD} {ds:List D} {Q:D→HD→Prop} (ht:h[j]?=some (.tabn g)) (hd:AN (cs.map fun j=>(ρ[j]?).join)=some ds)
 (q:We (f (ds.map some) h) (fun _ h1=>Q (.str "told") h1) fun n fs h1=>n∈excNames∧∃is,EA fs=some is∧Wp (Fk [.exc n is] h1) Q):Wp (Gh j g cs Fk f ρ h) Q:=by
 unfold Gh
 rw [ht,hd]
 simp only [if_true]
 unfold M6
 cases o:f (ds.map some) h with
 |ok a h1=>rw [o] at q;exact q
 |stuck=>rw [o] at q;exact q.elim
 |err C fs h1=>
  rw [o] at q
  cases C with
  |str n t=>
   obtain ⟨hn,is,hi,hk⟩:=(show n∈excNames∧∃is,EA fs=some is∧Wp (Fk [.exc n is] h1) Q from q)
   simp only [hn,if_true,hi]
   cases e:Fk [.exc n is] h1 with
   |ok d h2=>rw [e] at hk;exact hk
   |_=>rw [e] at hk;exact hk.elim
  |_=>exact q.elim
theorem Q3 {cs:List Nat} {Fk:List D→HD→Out D} {f:ME} {ρ:Af} {h:HD} {ds:List D} {Q:D→HD→Prop} (ht:h[0]?=some .tab) (hd:AN (cs.map fun j=>(ρ[j]?).join)=some ds)
 (q:We (f (ds.map some) h) (fun _ h1=>Q (.str "told") h1) fun n fs h1=>n∈excNames∧∃is,EA fs=some is∧Wp (Fk [.exc n is] h1) Q):Wp (DA cs Fk f ρ h) Q:=Zap ht hd q
def Rp (n L:Nat) (d:D):Prop:=∃p:PyData,(∀(h:HD) (m:Nat),A9 h (n+m) d=some p)∧p.showable=true∧p.hasDict=false∧p.depth≤n∧p.shown.length≤L
section
variable {h:HD} {i j:Int} {ds:List D} {a b:D} {l:Nat} {x y:Str}
@[simp] theorem Nf:AZ (.str x) (.str y) h=.ok (.bl (!(x==y))) h:=rfl
@[simp] theorem Zgf:AA (.str x) (.str y) h=.ok (.bl (x==y)) h:=rfl
@[simp] theorem Q4:AZ (.int i) (.int j) h=.ok (.bl (!(i==j))) h:=rfl
@[simp] theorem Zaq:AA (.int i) (.int j) h=.ok (.bl (i==j)) h:=rfl
@[simp] theorem Zgg {c d:Bool}:AZ (.bl c) (.bl d) h=.ok (.bl (!(c==d))) h:=rfl
@[simp] theorem Zgh {c d:Bool}:AA (.bl c) (.bl d) h=.ok (.bl (c==d)) h:=rfl
@[simp] theorem Zgi {es:List D}:AZ (.tup ds) (.tup es) h=Em (.tup ds) (.tup es) h:=rfl
@[simp] theorem Zgj {es:List D}:AA (.tup ds) (.tup es) h=F6 (.tup ds) (.tup es) h:=rfl
@[simp] theorem Zgk:DB (.int i) (.int j) h=Dz (.int i) (.int j) h:=rfl
@[simp] theorem Zar:DB (.loc l) b h=Dz (.loc l) b h:=rfl
@[simp] theorem Zgl:AC (.int i) b h=BA (.int i) b h:=rfl
@[simp] theorem Zgm {c:Bool}:AC (.bl c) b h=BA (.bl c) b h:=rfl
@[simp] theorem Zgn:AC .non b h=BA .non b h:=rfl
@[simp] theorem Zgo:AC (.str x) b h=BA (.str x) b h:=rfl
@[simp] theorem Zgp:AC (.tup ds) b h=BA (.tup ds) b h:=rfl
@[simp] theorem Q5:AC (.loc l) b h=BA (.loc l) b h:=rfl
@[simp] theorem Zgq {c:Bool}:BA (.bl c) (.ty "int") h=.ok (.bl true) h:=rfl
@[simp] theorem Zgr {c:Bool}:BA (.bl c) (.ty "bool") h=.ok (.bl true) h:=rfl
@[simp] theorem Zgs {c:Bool}:BA (.bl c) (.ty "tuple") h=.ok (.bl false) h:=rfl
@[simp] theorem Zgt:BA .non (.ty "int") h=.ok (.bl false) h:=rfl
@[simp] theorem Zgu:BA .non (.ty "tuple") h=.ok (.bl false) h:=rfl
@[simp] theorem Zgv:BA (.str x) (.ty "int") h=.ok (.bl false) h:=rfl
@[simp] theorem Zgw:BA (.str x) (.ty "tuple") h=.ok (.bl false) h:=rfl
theorem Zas (e:h[l]?=some (.lst ds)):BA (.loc l) (.ty "int") h=.ok (.bl false) h:=by
 simp only [BA,DQ,e];rfl
theorem Zat (e:h[l]?=some (.lst ds)):BA (.loc l) (.ty "tuple") h=.ok (.bl false) h:=by
 simp only [BA,DQ,e];rfl
@[simp] theorem Zgx:AC .edic (.ty "int") h=.ok (.bl false) h:=rfl
@[simp] theorem Zgy:AC .edic (.ty "tuple") h=.ok (.bl false) h:=rfl
theorem EH {n n':Str} {fs:List (Str×Int)} (h1:n∈excNames) (h2:n'∈excNames):AC (.exc n fs) (.glo n') h=.ok (.bl (BL n n')) h:=if_pos ⟨h1,h2⟩
theorem Zau {n:Str} {fs:List (Str×Int)} (h1:n∈excNames):AC (.exc n fs) (.ty "ValueError") h=.ok (.bl true) h:=if_pos ⟨h1,rfl⟩
@[simp] theorem Zgz {ρ:Af} {c d:D} {i j k l:Nat}:Gi [i,j,k,l] (.tup [a,b,c,d]) ρ=some ((((ρ.set i (some a)).set j (some b)).set k (some c)).set l (some d)):=rfl
theorem Zav (hz:x.length+y.length≤1000):Ah (.str x) (.str y) h=.ok (.str (x++y)) h:=by
 simp only [Ah]
 rw [if_pos (by unfold sizeLine;omega)]
theorem Ho {xs ys:List D} {k:Nat} (e1:h[l]?=some (.lst xs)) (e2:h[k]?=some (.lst ys)):Ah (.loc l) (.loc k) h=Bu (xs++ys) h:=by simp only [Ah,e1,e2]
theorem Zaw {vs:List V} {w:V} (e:h[l]?=some (.lst ds)) (e1:AN (ds.map CB)=some vs) (e2:CB a=some w):Gf (.loc l) a h=.ok (.int (Hl w vs)) h:=by
 simp only [Gf,B0,e,Out.bind_ok,Hm,Bj,e1,e2]
theorem Zax {vs:List V} {w:V} {j:Nat} (e:h[l]?=some (.lst ds)) (e1:AN (ds.map CB)=some vs) (e2:CB a=some w) (e3:Kt w vs=some j):Gg (.loc l) a h=.ok (.int j) h:=by
 simp only [Gg,e,e1,e2,e3]
@[simp] theorem Kx {chk:D→HD→Out D} {op:D→D→HD→Out D} {f g:ME} {ρ:Af} {Q:D→HD→Prop}:Wp (BJ chk op f g ρ h) Q=Wp (f ρ h) fun x h1=>Wp (chk x h1) fun x h2=>Wp (g ρ h2) fun y h3=>Wp (op x y h3) Q:=by unfold BJ;simp only [Ao]
@[simp] theorem sz6:(6≤sizeLine)=True:=eq_true (by unfold sizeLine;omega)
@[simp] theorem sz7:(7≤sizeLine)=True:=eq_true (by unfold sizeLine;omega)
@[simp] theorem sz8:(8≤sizeLine)=True:=eq_true (by unfold sizeLine;omega)
@[simp] theorem sz9:(9≤sizeLine)=True:=eq_true (by unfold sizeLine;omega)
@[simp] theorem ZgA:(10≤sizeLine)=True:=eq_true (by unfold sizeLine;omega)
end
section
variable {ρ:Af} {h:HD} {Q:Str→HD→Prop} {R:Str→List (Str×D)→HD→Prop} {acc y:Str} {r:MJ} {f:ME} {n:Nat} {i:Int}
end
end LS
namespace LS
open PySem PySem.Spec PyProof.Rows L2 PySem.W
section
variable {X:Cx} {E:XK}
def ZgB:D→HD→Out D:=fun x h=>match Bj x h with
 |some ds=>Bu ds h
 |none=>.stuck
theorem Zay {pos:Pos}:Ev X E (.Dict [] [] pos) (mC .edic):=fun pins s σ H Q I z1_=>by
 obtain ⟨m,ρ,h,hr,er,p⟩:=z1_
 have hf:H s.heap.objs.size=none:=I.hok.fresh (Au _)
 refine wpAny_Dict_empty ⟨.ref s.heap.objs.size,Aj H s.heap.objs.size (.ext (Mj s.heap.objs.size)),I.laid (t':=s.toks) (fun _ _ q=>A5 _ q) (Au _) ?_,rfl,?_⟩
 ·have ne:s.heap.objs.size≠sysModules:=by
   obtain ⟨og,_,_,eg,_⟩:=I.ok.mod.glob
   obtain ⟨ml,⟨ol,_,_,el,_⟩,_⟩:=I.loc
   have h1:(3:Nat)<X.base.objs.size:=AH eg
   have h2:(X.env.locals:Nat)<s.heap.objs.size:=AH el
   have h3:X.base.objs.size≤X.s₀.heap.objs.size:=I.ok.bsz
   have h4:X.s₀.heap.objs.size≤(X.env.locals:Nat):=I.ok.above
   have h5:(1:Nat)<s.heap.objs.size:=Bc (Bc (show 1<4 by decide) h1) (BG h3 (BG h4 (Fq h2)))
   exact fun z=>Nat.ne_of_gt h5 z
  exact ⟨⟨ne,_,_,BM _ rfl,⟨rfl,rfl,rfl⟩,rfl⟩,⟨_,BM _ rfl⟩,fun h1 h2 z2_ k=>by obtain ⟨ne,o,ep,z1,z2⟩:=z2_;exact (⟨ne,o,ep,k o z1,z2⟩)⟩
 ·exact p (.ref s.heap.objs.size) m _ (Ax _) (.new hf) (hr.new hf) (by simp only [rD,DV];exact ⟨_,rfl,Cy⟩)
def ZgC (T:List (Str×(List D→HD→Out D))) (fv:ME) (fa:MA):ME:=fun ρ h=>(fv ρ h).bind fun d h1=>match d with
 |.glo n=>(match T.lookup n with
  |some F=>(fa ρ h1).bind F
  |none=>.stuck)
 |_=>.stuck
def ZgD (P:Program) (w:World) (K:Frag) (mg:Str→Option Value) (base:Heap) (k:Nat) (T:List (Str×(List D→HD→Out D))):Prop:=∀n F,T.lookup n=some F→CaE P w K mg base n k F
theorem CaE.mono {P:Program} {w:World} {K:Frag} {mg:Str→Option Value} {base:Heap} {x:Str} {j k:Nat} {F:List D→HD→Out D} (C:CaE P w K mg base x j F) (h:j≤k):CaE P w K mg base x k F:=by
 obtain ⟨f,fd,ps,G,r⟩:=C.ex
 exact ⟨f,fd,ps,G.mono h,r⟩
end
def ZgE (K:Frag) (c:Addr):Bool:=match tabP K "law" with
 |some (c',T)=>c'==c&&codeHdIn K c T
 |none=>false
section
variable {prog:Program} {w:World} {A:Around} {E:Str→Value→Shared→Prop}
end
section
variable {X:Cx} {E:XK}
def ZgF (K:PySem.W.Frag):V→Option Int→Option Int→Hp→VK→Prop:=fun x lo hi H Q=>∃a xs,x=.ref a∧SqT K H a xs∧HT.sIx xs.length 0 lo=0∧HT.sIx xs.length xs.length hi=xs.length∧Q (.ref a) H
def Q6 (x:D) (lo hi:Option Int) (h:HD):Out D:=match x with
 |.tup xs=>.ok (.tup (cutD xs lo hi)) h
 |_=>.stuck
def Q7 (f:ME) (lo hi:MO):ME:=fun ρ h=>(f ρ h).bind fun x h1=>(lo ρ h1).bind fun l h2=>(hi ρ h2).bind fun u h3=>Q6 x l u h3
end
section
variable {f:ME} {lo hi:MO} {ρ:Af} {h:HD} {Q:D→HD→Prop}
@[simp] theorem ZgG:Wp (Q7 f lo hi ρ h) Q=Wp (f ρ h) fun x h1=>Wp (lo ρ h1) fun l h2=>Wp (hi ρ h2) fun u h3=>Wp (Q6 x l u h3) Q:=by unfold Q7;simp only [Ao]
end
section
variable {K:Frag} {mg:Str→Option Value} {h:Heap}
theorem SaidD.of {st:Stmt} {f:Addr} {fd:FuncData} (d:Dn K mg "_law_said" ["_law_call"] st f fd):SaidD K mg st f fd:=⟨d.fn,d.bd,d.mg⟩
end
open AutoSeq1 (wpAny_loadPart')
section
variable {prog:Program} {w:World} {A:Around} {E:Value→Shared→Prop} {s:Shared}
end
def Ng (r:Addr) (n:Nat) (h:Heap):Prop:=∃t u v,IsRange h r 0 (n:Int) 1 t u v
section
variable {X:Cx} {E:XK}
inductive Zaz (vs:List V) (H:Hp) (Q:VK):Prop where
 |mk (n:Nat) (e:vs=[.int (n:Int)]) (hn:n≤1000) (q:∀p,H p=none→Q (.ref p) (Aj H p (.ext (Ng p n)))):Zaz vs H Q
inductive ZaA (vs:List V) (H:Hp) (Q:VK):Prop where
 |mk (r:Addr) (n:Nat) (e:vs=[.ref r]) (hr:H r=some (.ext (Ng r n))) (hn:n≤1000) (q:∀p,H p=none→Q (.ref p) (Aj H p (.tup ((List.range n).map fun i=>V.int ((i:Nat):Int))))):ZaA vs H Q
noncomputable def ZaB:D→HD→Out D:=fun d h=>match d with
 |.int i=>@ite _ (0≤i∧i≤1000) (Classical.propDecidable _) (.ok (.tup ((List.range i.toNat).map fun k=>D.int ((k:Nat):Int))) h) .stuck
 |_=>.stuck
noncomputable def ZgH (f:ME):ME:=fun ρ h=>(f ρ h).bind ZaB
end
end LS
namespace LS
open PySem PySem.Spec PyProof.Rows L2 PySem.W
section
variable {X:Cx} {E:XK}
def ZaC:D→HD→Out D:=fun x h=>match x with
 |.tup _=>.ok x h
 |_=>.stuck
def ZgI:D→D→HD→Out D:=fun x y h=>(ZaC x h).bind fun _ _=>Hm x y h
mutual
def Nh:PyData→Bool
 |.list _=>false
 |.tuple xs=>Ni xs
 |_=>true
def Ni:List PyData→Bool
 |[]=>true
 |x::xs=>Nh x&&Ni xs
end
def Nj (h:HD):Nat→D→Option PyData
 |_,.non=>some .none
 |_,.bl b=>some (.bool b)
 |_,.int i=>some (.int i)
 |_,.str x=>some (.str x)
 |_,.edic=>some (.dict [])
 |n+1,.tup ds=>(AN (ds.map (Nj h n))).map .tuple
 |n+1,.loc l=>match h[l]? with
  |some (.lst ds)=>(AN (ds.map (Nj h n))).map .list
  |_=>none
 |_,_=>none
inductive RdX (h:Heap) (u:Value) (p:PyData):Prop where
 |mk (as:List Addr) (f1:Reads h u p as) (f2:Nh p=true→sysModules∉as):RdX h u p
inductive ZaD (h:Heap) (us:List Value) (ps:List PyData):Prop where
 |mk (as:List Addr) (f1:ReadsAll h us ps as) (f2:Ni ps=true→sysModules∉as):ZaD h us ps
variable {pins:List (Addr×Obj)} {σ:L2.St} {H:Hp} {s:Shared} {m:List Addr} {h:HD}
def ZgJ:D→HD→Out D:=fun x h=>match Nj h 8 x with
 |some p=>if p.showable=true∧(p.hasDict=false∨Nh p=true)∧p.depth≤40∧p.shown.length≤sizeLine then .ok (.str p.shown) h else .stuck
 |none=>.stuck
end
end LS
namespace HT
open PySem PyProof.Rows
def lexLe:List Int→List Int→Bool
 |[],[]=>true
 |[],_::_=>true
 |_::_,[]=>false
 |x::xs,y::ys=>if x=y then lexLe xs ys else decide (x≤y)
section
open PySem.SeqAt
open PySem.AutoSeq1 (wpAny_loadPart')
open PySem.MeetsSeq PySem.MeetsSeq2 PySem.MeetsSeq3
end
section
variable {prog:Program} {w:World} {A:Around} {E:Value→Shared→Prop} {s:Shared}
end
end HT
namespace L2
open PySem PySem.Spec PyProof.Rows
section
variable {X:Cx}
def ZgK (K:PySem.W.Frag):R2:=fun x y H Q=>∃a b ns ms,x=.ref a∧y=.ref b∧SqT K H a (ns.map V.int)∧SqT K H b (ms.map V.int)∧Q (.bl (HT.lexLe ns ms)) H
end
end L2
namespace LS
open PySem PySem.Spec PyProof.Rows L2
section
variable {X:Cx} {E:XK}
def Q8:D→Option (List Int)
 |.tup ds=>AN (ds.map MC)
 |_=>none
def ZgL (f:List Int→List Int→Bool):D→D→HD→Out D:=fun x y h=>match Q8 x,Q8 y with
 |some ns,some ms=>.ok (.bl (f ns ms)) h
 |_,_=>.stuck
end
section
variable {prog:Program} {w:World} {A:Around} {E:Value→Shared→Prop} {s:Shared}
end
section
variable {X:Cx} {E:XK} {e:Expr} {f:ME}
def ZaE:D→HD→Out D:=fun x h=>match x with
 |.tup ds=>.ok (.tup ds.reverse) h
 |_=>.stuck
def ZgM (f:ME):ME:=fun ρ h=>(f ρ h).bind ZaE
end
end LS
namespace LS
open PySem
section
variable {prog:Program} {w:World} {A:Around} {E:Value→Shared→Prop} {h:Heap} {g:Array GenState} {d:Drawn} {t:Nat} {os:OsState}
variable {nm q:Str} {C N:Addr} {bs bm bmB:List Value} {hdct:Bool} {sn:List Str} {sub:List Value} {ab:Bool} {col:Option Bool} {dd:Option Addr} {k0 k1 k2 k3 k5:Option Value} {B newId initId:String}
end
end LS
namespace LS
open PySem PySem.Spec PyProof.Rows L2
def ZgN (i j k:Nat):MG:=fun d ρ=>match d with
 |.tup [x,.tup [y,z]]=>some (((ρ.set i (some x)).set j (some y)).set k (some z))
 |_=>none
abbrev ZgO (K:PySem.W.Frag) (i j k:Nat):TG:=Fu K 2 (CT (Ce i) (CT (Fu K 2 (CT (Ce j) (CT (Ce k) Ft))) Ft))
def emS (elt:Expr) (gens:List Comprehension) (scope:Scope) (pos:Pos) (d:Nat) (acc:Value) (env:Env):Sem Unit:=match gens[d+1]? with
 |some g=>eval g.iter env >>=fun x=>standAt g.iter.pos >>=fun _=>foldedSetIterable g.iter env x >>=fun y=>holding [y] (pyIter y) >>=fun it=>
  runOwn (.compStart (.ListComp elt gens scope pos) (d+1) it acc env) env >>=fun _=>pure ()
 |none=>eval elt env >>=fun x=>call (.builtin "list.append") [acc,x] >>=fun _=>pure ()
section
variable {prog:Program} {w:World} {A:Around} {R:Result→Shared→Prop} {s:Shared} {elt tg iter:Expr} {gens:List Comprehension} {ifs:List Expr} {scope:Scope} {pos:Pos} {d:Nat} {it acc:Value} {env:Env}
end
abbrev Nk (its:List Value) (k:Nat):Obj:={cls:=.type "list",data:=.seq its.toArray k}
structure ZgP (X:Cx) (D:Addr):Prop where
 lo:D≠X.env.locals
 ce:∀x c,X.env.cells.lookup x=some c→c≠D
 pn:∀p∈X.pn,p.1≠D
 ex:D∈X.ex
 fs:D∉X.fs
section
variable {X:Cx} {D:Addr} {its its':List Value} {k k':Nat} {rest:List (Addr×Obj)} {σ:L2.St} {H:Hp} {s:Shared} {h':Heap}
def EM (X:Cx) (D:Addr) (em:Sem Unit) (te:L2.St→Hp→List V→(List V→Hp→Prop)→Prop):Prop:=
 ∀(rest:List (Addr×Obj)) (its:List Value) (k:Nat) (acc:List V) (σ:L2.St) (H:Hp) (s:Shared) (Q:List V→Hp→Prop),Inv X ((D,Nk its k)::rest) σ H s→(∀p∈rest,p.1≠D)→Vals acc its→te σ H acc Q→
  wpAny (model X.prog X.w) X.A em (fun _ s'=>∃its' k' acc' H',Inv X ((D,Nk its' k')::rest) σ H' s'∧Vals acc' its'∧Q acc' H') (fun _ _=>False) s
def ZgQ (te:TE):L2.St→Hp→List V→(List V→Hp→Prop)→Prop:=fun σ H acc Q=>acc.length<sizeLine∧te σ H fun y H'=>Q (acc++[y]) H'
def ZgR (wi:TI) (g:TG) (tc:TT) (te:L2.St→Hp→List V→(List V→Hp→Prop)→Prop):L2.St→Hp→List V→(List V→Hp→Prop)→Prop:=fun σ H acc Q=>wi σ H fun J H1=>∃W:Nat→Nat→List V→Hp→Prop,(∃n,W 0 n acc H1)∧∀i n acc H,W i n acc H→
 (J.stop i H∧Q acc H)∨
 (J.go i H∧∀x H',J.yld i H x H'→g x σ H' fun σ2 H2=>Sub σ σ2∧tc σ2 H2 fun b H3=>if b=true then te σ2 H3 acc fun acc' H4=>∃n',n' < n∧W (i+1) n' acc' H4 else ∃n',n' < n∧W (i+1) n' acc H3)
inductive CL2 (X:Cx) (D:Addr) (rest:List (Addr×Obj)) (σ:L2.St) (W:Nat→Nat→List V→Hp→Prop) (tn:Nat→Heap→Prop) (fp:List Addr) (n:Nat) (s':Shared):Prop where
 |mk (i:Nat) (acc:List V) (H':Hp) (its:List Value) (k:Nat) (w:W i n acc H') (ii:Inv X ((D,Nk its k)::rest) σ H' s') (st:tn i s'.heap) (fr:∀b∈fp,H' b=none) (rv:Vals acc its):CL2 X D rest σ W tn fp n s'
end
def ZgS (cs:List (Option Nat)) (wi:TI) (g:TG) (tc:TT) (te:L2.St→Hp→List V→(List V→Hp→Prop)→Prop):TE:=fun σ H Q=>wi σ H fun J H1=>∃W:Nat→Nat→List V→Hp→Prop,(∃n,W 0 n [] H1)∧∀i n acc H,W i n acc H→
 (J.stop i H∧acc.length≤sizeLine∧∀p,H p=none→Q (.ref p) (Aj H p (.lst acc)))∨
 (J.go i H∧∀x H',J.yld i H x H'→g x (BI cs σ) H' fun σ2 H2=>Sub (BI cs σ) σ2∧tc σ2 H2 fun b H3=>if b=true then te σ2 H3 acc fun acc' H4=>∃n',n' < n∧W (i+1) n' acc' H4 else ∃n',n' < n∧W (i+1) n' acc H3)
section
variable {X:Cx} {elt tg iter:Expr} {ifs:List Expr} {gs:List Comprehension} {scope:Scope} {pos:Pos} {Nc:List Str} {cs:List (Option Nat)} {wi:TI} {g:TG} {tc:TT} {te:L2.St→Hp→List V→(List V→Hp→Prop)→Prop}
end
abbrev DU:=Af→HD→List D→Out (List D)
abbrev Q9:=L2.St→Hp→List V→(List V→Hp→Prop)→Prop
def Frs (js:List Nat) (σ:L2.St):Prop:=∀j∈js,σ[j]?=some none
def ZgT (K:PySem.W.Frag) (is js:List Nat) (gg:TG) (sg:MG):Prop:=
 ∀m H d v ρ σ ρ' Q,DV K m H d v→ER K m H ρ σ→Frs (is++js) σ→sg d ρ=some ρ'→(∀σ',Sub σ σ'→Frs js σ'→ER K m H ρ' σ'→Q σ' H)→gg v σ H Q
theorem Frs.set {js:List Nat} {σ:L2.St} {i:Nat} {v:Option V} (h:Frs js σ) (n:i∉js):Frs js (σ.set i v):=fun j hj=>by
 have hn:i≠j:=by
  rintro rfl
  exact n hj
 rw [BF hn]
 exact h j hj
noncomputable def ZgU (f:ME):DU:=fun ρ h acc=>if acc.length<sizeLine then (noErr (f ρ h)).bind fun y h2=>.ok (acc++[y]) h2 else .stuck
open Classical in
noncomputable def IK (src:AY) (items:List D) (sg:MG) (t:MT) (e:DU) (ρ:Af):List D→HD→List D→Out (List D)
 |[],h,acc=>if BZ src items h then .ok acc h else .stuck
 |d::ds,h,acc=>if BZ src items h then match sg d ρ with
   |none=>.stuck
   |some ρ1=>(noErr (t ρ1 h)).bind fun b h1=>if b=true then (noErr (e ρ1 h1 acc)).bind fun acc2 h2=>IK src items sg t e ρ ds h2 acc2 else IK src items sg t e ρ ds h1 acc
  else .stuck
noncomputable def ZgV (it:MI) (sg:MG) (t:MT) (e:DU):DU:=fun ρ h acc=>(noErr (it ρ h)).bind fun x h1=>IK x.2 x.1 sg t e ρ x.1 h1 acc
noncomputable def Ky (cs:List (Option Nat)) (it:MI) (sg:MG) (t:MT) (e:DU):ME:=fun ρ h=>(it ρ h).bind fun x h1=>(IK x.2 x.1 sg t e (CD cs ρ) x.1 h1 []).bind Bu
def tEm (K:PySem.W.Frag) (js:List Nat) (e:DU):Q9:=fun σ H acc Q=>∃m ρ h dacc,HR K m h H∧ER K m H ρ σ∧DVs K m H dacc acc∧Frs js σ∧Post K (FV K) m H E0 Q (e ρ h dacc)
theorem EM.imp {X:Cx} {D:Addr} {em:Sem Unit} {te te':Q9} (h:EM X D em te) (f:∀σ H acc Q,te' σ H acc Q→te σ H acc Q):EM X D em te':=
 fun rest its k acc σ H s Q I hr rv z=>h rest its k acc σ H s Q I hr rv (f _ _ _ _ z)
inductive EmI {β:Type} (K:PySem.W.Frag) (E:XK) (α:Type) (R:List Addr→Hp→α→β→Prop) (Q:β→Hp→Prop) (kk:List D→HD→Out α) (src:AY) (items:List D) (sg:MG) (t:MT) (e:DU) (ρ:Af) (m1:List Addr) (H1:Hp) (i n:Nat) (acc:List V) (H2:Hp):Prop where
 |mk (en:n=items.length - i) (l:i≤items.length) (m2:List Addr) (h2:HD) (dacc:List D) (p:m1 <+:m2) (k:Kp H1 H2) (hr:HR K m2 h2 H2) (da:DVs K m2 H2 dacc acc) (q:Post K R m2 H2 E Q ((IK src items sg t e ρ (items.drop i) h2 dacc).bind kk)):EmI K E α R Q kk src items sg t e ρ m1 H1 i n acc H2
section
variable {X:Cx} {E:XK} {D:Addr} {elt tg iter:Expr} {ifs:List Expr} {gs gens:List Comprehension} {scope:Scope} {pos:Pos} {Nc:List Str} {cs:List (Option Nat)} {it:MI} {gg:TG} {sg:MG} {t:MT} {f:ME} {e:DU} {d:Nat} {is js:List Nat}
end
section
variable {α β:Type} {cs:List (Option Nat)} {it:MI} {sg:MG} {t:MT} {f:ME} {e:DU} {ρ:Af} {h:HD} {src:AY} {xs:List α} {φ:α→D} {acc:List D}
noncomputable def ZaF (cs:List (Option Nat)) (it:MI) (sg:MG) (t:MT) (e:DU):ME:=Ae (Ak CC) (Aa (Ky cs it sg t e) Ac)
noncomputable def ZaG (cs:List (Option Nat)) (it:MI) (sg:MG) (t:MT) (e:DU):ME:=Ae (Ak Dy) (Aa (Ky cs it sg t e) Ac)
@[simp] theorem ZgW:Ae (Ak CC) (Aa (Ky cs it sg t e) Ac) ρ h=ZaF cs it sg t e ρ h:=rfl
@[simp] theorem ZgX:Ae (Ak Dy) (Aa (Ky cs it sg t e) Ac) ρ h=ZaG cs it sg t e ρ h:=rfl
end
end LS
namespace LS
open PySem
inductive TlN (h:Heap) (ns:List Str) (bB:List Value):List Value→Prop
 |base:TlN h ns bB bB
 |own {a:Addr} {c0:Value} {dd:Option Addr} {cd:ClassData} {sl:Array (Option Value)} {m:Str→Option Value} {tl:List Value} (ha:h.get? a=some {cls:=c0,dict:=dd,data:=.cls cd,slots:=sl}) (hm:h.Ns cd.ns m) (no:∀n∈ns,m n=none) (r:TlN h ns bB tl):TlN h ns bB (.ref a::tl)
theorem TlN.keeps {h h':Heap} {ns:List Str} {bB tl:List Value} (T:TlN h ns bB tl) (k:∀b o,h.get? b=some o→h'.get? b=some o):TlN h' ns bB tl:=by
 induction T with
 |base=>exact .base
 |own ha hm no _ ih=>exact .own (k _ _ ha) (hm.keeps k) no ih
theorem TlN.has {h:Heap} {ns:List Str} {bB tl:List Value} {v:Value} (T:TlN h ns bB tl) (hv:bB.contains v=true):tl.contains v=true:=by
 induction T with
 |base=>exact hv
 |own ha hm no _ ih=>rw [List.contains_cons,ih,Bool.or_true]
section
variable {M:Model} {A:Around} {E:Value→Shared→Prop} {h:Heap} {g:Array GenState} {d:Drawn} {t:Nat} {os:OsState}
theorem TlN.look {ns:List Str} {bB tl:List Value} {n:Str} {y:Option Value} {Q:Option Value→Shared→Prop} (T:TlN h ns bB tl) (hn:n∈ns) (e:lookupAlong bB n=pure y) (q:Q y ⟨h,g,d,t,os⟩):wpAny M A (lookupAlong tl n) Q E ⟨h,g,d,t,os⟩:=by
 induction T with
 |base=>rw [e];exact wpAny_pure q
 |own ha hm no _ ih=>
  rw [lookupAlong_cons];refine wpAny_bind (wpAny_classOwn_cls ha hm ?_);rw [no n hn]
  exact ih
variable {nm q:Str} {C N x:Addr} {bs bm bB:List Value} {hd:Bool} {sn:List Str} {sub:List Value} {ab:Bool} {col:Option Bool} {dd:Option Addr} {k0 k1 k2 k3 k5:Option Value} {B newId sa owner:String} {ns:List Str} {mN mA:Str→Option Value} {name:Str} {v:Value}
end
section
variable {prog:Program} {w:World} {A:Around} {E:Value→Shared→Prop} {h:Heap} {g:Array GenState} {d:Drawn} {t:Nat} {os:OsState}
variable {nm q:Str} {C N x:Addr} {bs bm bB:List Value} {sn:List Str} {sub:List Value} {ab:Bool} {col:Option Bool} {dd:Option Addr} {k0 k1 k2 k3 k5:Option Value} {B newId sa owner:String} {ns:List Str} {mN mA:Str→Option Value} {name:Str} {v:Value}
structure ZgY (h h':Heap) (x C:Addr) (name:Str) (v:Value) (mA:Str→Option Value):Prop where
 inst:h'.Inst x C (fun y=>if y=name then some v else mA y)
 keep:∀b o,b≠x→(∀o0 dx,h.get? x=some o0→o0.dict=some dx→b≠dx)→h.get? b=some o→h'.get? b=some o
 new:∀o0,h.get? x=some o0→o0.dict=none→∃o1,h'.get? x=some o1∧o1.dict=some h.objs.size
 same:∀o0,h.get? x=some o0→∃o1,h'.get? x=some o1∧o1.cls=o0.cls∧o1.data=o0.data∧o1.slots=o0.slots∧∀dx,o0.dict=some dx→o1.dict=some dx
end
section
variable {prog:Program} {w:World} {A:Around} {E:Value→Shared→Prop} {h:Heap} {g:Array GenState} {d:Drawn} {t:Nat} {os:OsState}
variable {nm q:Str} {C N x:Addr} {bs bm bB:List Value} {sn:List Str} {sub:List Value} {ab:Bool} {col:Option Bool} {dd:Option Addr} {k0 k1 k2 k3 k5:Option Value} {B newId:String} {ns:List Str} {mN mA:Str→Option Value} {name:Str} {v:Value}
end
end LS
namespace LS
open PySem PySem.Spec PyProof.Rows L2
def tmNames:List Str:=["__init__","__setattr__","__getattribute__","__getattr__","many","most"]
def Ra (K:PySem.W.Frag) (ns:List Str) (bB:List Value):List Value→Bool
 |[]=>bB==[]
 |v::r=>(v::r)==bB||match v with
  |.ref a=>(match K.lookup a with
   |some o=>(match clsOf o.data with
    |some cd=>PySem.W.nsOkIn K cd.ns&&(ns.all (fun n=>PySem.W.nsIn K cd.ns n==some none)&&Ra K ns bB r)
    |none=>false)
   |none=>false)
  |_=>false
theorem TlN.tail {h:Heap} {ns:List Str} {bB tl:List Value} (T:TlN h ns bB tl) (hi:("__init__":Str)∈ns):OwnTail h bB tl:=by
 induction T with
 |base=>exact .base
 |own ha hm no _ ih=>exact .own ha hm (no _ hi) ih
inductive ZaH (h:Heap) (C fI:Addr):Prop where
 |mk (bm:List Value) (N:Addr) (nm q:Str) (bs:List Value) (sn:List Str) (sub:List Value) (ab:Bool) (col:Option Bool) (dd:Option Addr) (k0 k1 k2 k3 k5:Option Value) (mN:Str→Option Value)
  (hC:h.get? C=some (excClassObj nm q C N bs bm true sn sub ab col dd k0 k1 k2 k3 k5 "ValueError.__new__")) (hN:h.Ns N mN) (hi:mN "__init__"=some (.ref fI)) (no:∀n∈tmNames.tail,mN n=none) (T:TlN h tmNames IE bm):ZaH h C fI
def tmY (K:PySem.W.Frag) (C fI:Addr) (o:Obj) (cd:ClassData):Bool:=
 decide (o.cls=.type "type")&&(decide (cd.mro=.ref C::cd.mro.tail)&&(!cd.hasDel&&(Ra K tmNames IE cd.mro.tail&&(PySem.W.nsOkIn K cd.ns&&(PySem.W.nsIn K cd.ns "__init__"==some (some (.ref fI))&&(tmNames.tail.all (fun n=>PySem.W.nsIn K cd.ns n==some none)&&(decide (o.slots.toList.length=6)&&(decide (o.slots.toList[4]?=some (some (.builtin "ValueError.__new__")))&&cd.hasDict))))))))
def tmX (K:PySem.W.Frag) (C fI:Addr):Bool:=match K.lookup C with
 |some o=>(match clsOf o.data with
  |some cd=>tmY K C fI o cd
  |none=>false)
 |none=>false
def exO (C t0:Addr) (da:Option Addr):Obj:={cls:=.ref C,dict:=da,data:=.fields #[.ref t0,.none,.none,.none,.bool false,.none]}
def Kz (C e:Addr) (da:Option Addr) (h:Heap):Prop:=∃t0,h.get? e=some (exO C t0 da)
def ZgZ (d:Addr) (m:Str→Option Value) (h:Heap):Prop:=h.Ns1 d m
def one (n:Str) (u:Value):Str→Option Value:=fun y=>if y=n then some u else none
section
variable {X:Cx} {pins:List (Addr×Obj)} {σ:L2.St} {H:Hp} {s:Shared} {E:Value→Shared→Prop} {A:Around} {C fI e da:Addr} {n:Str} {u:Value}
def del (H:Hp) (a:Addr):Hp:=fun b=>if b=a then none else H b
theorem Rb {H:Hp} {a b:Addr} (h:b≠a):del H a b=H b:=by unfold del;rw [if_neg h]
theorem Kp.del {H:Hp} {a:Addr} {φ:Heap→Prop} (h:H a=some (.mex φ)):Kp H (LS.del H a):=fun b o e i=>by
 rw [Rb]
 ·exact e
 ·intro z
  rw [z,h] at e;cases e;cases i
theorem HR.del {K:PySem.W.Frag} {m:List Addr} {h:HD} {H:Hp} {a:Addr} {φ:Heap→Prop} (r:HR K m h H) (e:H a=some (.mex φ)):HR K m h (LS.del H a):=r.same (.del e) fun b hb=>Rb fun z=>by
 subst z
 obtain ⟨l,hl,el⟩:=HW hb
 have hl':l<h.length:=by rw [←r.len];exact hl
 have c:=r.cells l h[l] m[l] (BK hl') (BK hl)
 rw [el] at c
 cases hc:h[l] with
 |lst ds=>rw [hc] at c;obtain ⟨vs,q,_⟩:=c;rw [e] at q;cases q
 |ins n fs=>
  rw [hc] at c
  obtain ⟨_,_,_,_,q,_⟩:=c
  rw [e] at q;cases q
 |tabn g=>rw [hc] at c;obtain ⟨_,ps,q,_⟩:=c;rw [e] at q;cases q
 |dic fz kvs=>
  rw [hc] at c
  obtain ⟨es,q,_⟩:=c
  cases fz with
  |true=>obtain ⟨o,q⟩:=q;rw [e] at q;cases q
  |false=>exact absurd (e.symm.trans q) (by intro z;cases z)
end
end LS
namespace LS
open PySem PySem.Spec PyProof.Rows L2 PySem.Calls PySem.W
def swX (K:PySem.W.Frag) (S:Addr):Bool:=PySem.W.readsIn K S (.type "type")&&(match PySem.W.findCls K (.ref S) (.type "type") "__init__" with
 |some (.val (.builtin b))=>b=="ValueError.__init__"
 |_=>false)
def Zg0 (H₀:Hp) (C:Addr) (ta:TA):TE:=fun σ H Q=>∃e,H₀ e≠none∧H e=some (.mex (Kz C e none))∧ta σ (del H e) fun vs H1=>∃x,vs=[.ref e,.str x]∧(H1 e=none→Q .non (Aj H1 e (.mex (Kz C e none))))
section
variable {X:Cx} {C fI S:Addr} {ta:TA} {a1 a2:Expr} {p1 p2 p5:Pos}
end
end LS
namespace LS
open PySem PySem.Spec PyProof.Rows L2 PySem.Calls
section
variable {X:Cx} {C fI S:Addr}
end
noncomputable abbrev Nl:ME:=M7 (QZ (Ab 1) (Zaf " are more than " (QZ (Ab 2) Zae)))
inductive Rc (K:PySem.W.Frag) (C:Addr) (vs:List V) (H:Hp) (Q:VK) (E:XK):Prop
 |mk (e:Addr) (a b:Int) (m:List Addr) (h h2:HD) (x:Str) (ev:vs=[.ref e,.int a,.int b]) (hr:HR K m h H) (hH:H e=some (.mex (Kz C e none))) (hj:Nl [none,some (.int a),some (.int b)] h=.ok (.str x) h2)
  (q:∀m1 H1 da,m <+:m1→Kp (del H e) H1→HR K m1 h2 H1→H1 e=none→H1 da=none→da≠e→Q .non (Aj (Aj H1 e (.mex (Kz C e (some da)))) da (.xd [("many",.int a),("most",.int b)]))):Rc K C vs H Q E
section
variable {P:Program} {w:World} {K:PySem.W.Frag} {mg:Str→Option Value} {base:Heap} {C f S:Addr} {k:Nat} {qual:Str} {scope:Scope} {p1 p2 p3 p4 p5 p6 q1 q2 q3 q4 r1 r2 r3 r4:Pos} {js:Expr}
abbrev Zg1 (js:Expr) (p1 p2 p3 p5 p6 q1 q2 q3 q4 r1 r2 r3 r4:Pos):List Stmt:=[.Expr (.Call (.Attribute (.Name "SwitchError" p1) "__init__" p2) [.Name "self" p3,js] [] p5) p6,.Assign [.Attribute (.Name "self" q1) "many" q2] (.Name "many" q3) q4,.Assign [.Attribute (.Name "self" r1) "most" r2] (.Name "most" r3) r4]
end
noncomputable def Zg2 (fa:MA):MS:=fun ρ h=>(fa ρ h).bind fun xs h1=>match xs with
 |[.int a,.int b]=>(match Nl [none,some (.int a),some (.int b)] h1 with
  |.ok (.str _) h2=>.err (DR "TooMany") [("many",.int a),("most",.int b)] h2
  |_=>.stuck)
 |_=>.stuck
section
variable {X:Cx} {E:XK} {C fI:Addr} {fd:FuncData} {k:Nat}
end
def Re (nm:Str):D→HD→Out D
 |.exc n fs,h=>if n="TooMany" then (match fs.lookup nm with
  |some i=>.ok (.int i) h
  |none=>.stuck) else .stuck
 |_,_=>.stuck
noncomputable def Rf (f:ME) (nm:Str):ME:=fun ρ h=>(f ρ h).bind fun d h1=>Re nm d h1
section
variable {X:Cx} {E:XK} {C fI:Addr}
end
end LS
namespace Tp
open PySem PySem.W PySem.Spec PySem.Calls PyProof.Rows
section
variable {α β:Type}
noncomputable def fN (n:Nat) (k:Nat→α):α:=@Nat.rec (fun _=>α) (k 0) (fun m _=>k (Nat.succ m)) n
theorem KA (n:Nat) (k:Nat→α):fN n k=k n:=by cases n<;>rfl
noncomputable def fL (l:List β):(List β→α)→α:=@List.rec β (fun _=>(List β→α)→α) (fun k=>k []) (fun a _ ih k=>ih fun l'=>k (a::l')) l
theorem IP:∀(l:List β) (k:List β→α),fL l k=k l
 |[],_=>rfl
 |a::l,k=>IP l fun l'=>k (a::l')
noncomputable def fE (l:List DictEntry):(List DictEntry→α)→α:=@List.rec DictEntry (fun _=>(List DictEntry→α)→α) (fun k=>k []) (fun a _ ih k=>ih fun l'=>@DictEntry.rec (fun _=>α) (fun x y z=>k (⟨x,y,z⟩::l')) a) l
theorem Rg:∀(l:List DictEntry) (k:List DictEntry→α),fE l k=k l
 |[],_=>rfl
 |⟨_,_,_⟩::l,k=>Rg l fun l'=>k (_::l')
noncomputable def fD (d:Data) (k:Data→α):α:=@Data.rec (fun _=>α) (k .plain) (fun v=>k (.prim v)) (fun x n=>@Array.rec Value (fun _=>α) (fun l=>fL l fun l=>fN n fun n=>k (.seq ⟨l⟩ n)) x)
 (fun x n=>@Array.rec DictEntry (fun _=>α) (fun l=>fE l fun l=>fN n fun n=>k (.dict ⟨l⟩ n)) x) (fun x n t=>k (.set x n t)) (fun b n=>k (.bytearray b n)) (fun v=>k (.cell v)) (fun f=>k (.func f)) (fun c=>k (.cls c))
 (fun x=>@Array.rec Value (fun _=>α) (fun l=>fL l fun l=>k (.fields ⟨l⟩)) x) (k .freed) d
theorem ZaI (d:Data) (k:Data→α):fD d k=k d:=by
 cases d with
 |seq x n=>cases x;simp only [fD,IP,KA]
 |dict x n=>cases x;simp only [fD,Rg,KA]
 |fields x=>cases x;simp only [fD,IP]
 |_=>rfl
noncomputable def fO (o:Obj) (k:Obj→α):α:=@Obj.rec (fun _=>α) (fun c d da sl=>fD da fun da=>k ⟨c,d,da,sl⟩) o
theorem Rh (o:Obj) (k:Obj→α):fO o k=k o:=by cases o;simp only [fO,ZaI]
noncomputable def fT (t:BT):(BT→α)→α:=@BT.rec (fun _=>(BT→α)→α) (fun k=>k .nil) (fun v _ _ il ir k=>fO v fun v=>il fun l=>ir fun r=>k (.node v l r)) t
theorem Nm:∀(t:BT) (k:BT→α),fT t k=k t
 |.nil,_=>rfl
 |.node v l r,k=>by
  show fO v (fun v=>fT l fun l=>fT r fun r=>k (.node v l r))=_
  rw [Rh,Nm l,Nm r]
noncomputable def fS (s:SharedT) (k:SharedT→α):α:=@SharedT.rec (fun _=>α) (fun t n li g d tk os=>fT t fun t=>fN n fun n=>fN tk fun tk=>@Drawn.rec (fun _=>α) (fun a b c e=>@Array.rec GenState (fun _=>α) (fun g=>fL g fun g=>k ⟨t,n,li,⟨g⟩,⟨a,b,c,e⟩,tk,os⟩) g) d) s
theorem Nn (s:SharedT) (k:SharedT→α):fS s k=k s:=by
 obtain ⟨t,n,li,⟨g⟩,⟨a,b,c,e⟩,tk,os⟩:=s
 simp only [fS,Nm,KA,IP]
noncomputable def fP (p:Pos) (k:Pos→α):α:=@Pos.rec (fun _=>α) (fun a b c d=>fN a fun a=>fN b fun b=>fN c fun c=>fN d fun d=>k ⟨a,b,c,d⟩) p
theorem Np (p:Pos) (k:Pos→α):fP p k=k p:=by cases p;simp only [fP,KA]
end
section
variable (stp:SharedT→Thread→Option (SharedT×Thread)) (ok:Thread→Bool) (seg:Nat→SharedT→Thread→Option (Flow×SharedT×Code×Pos))
noncomputable def Hq (env:Env) (c:Code) (f:Nat):List (List Stmt)→SharedT→Pos→List Code→Option (SharedT×Pos×List Code)
 |[],s,pos,cs=>some (s,pos,cs)
 |l::ls,s,pos,cs=>match seg f s (piecesOf l env c pos [topFrame ⟨0,0,0,0⟩]) with
  |some (.next,s',c',pos')=>fS s' fun s'=>fP pos' fun pos'=>Hq env c f ls s' pos' (c'::cs)
  |_=>none
def KB:Nat→SharedT→Thread→Option (SharedT×Thread)
 |0,s,t=>some (s,t)
 |n+1,s,t=>match through t with
  |true=>none
  |false=>match ok t with
   |false=>none
   |true=>match stp s t with
    |some (s',t')=>KB n s' t'
    |none=>none
def KC:Nat→SharedT→Thread→Option SharedT
 |0,_,_=>none
 |n+1,s,t=>match through t with
  |true=>some s
  |false=>match ok t with
   |false=>none
   |true=>match stp s t with
    |some (s',t')=>KC n s' t'
    |none=>none
def cut:Nat→List Stmt→List (List Stmt)
 |0,l=>[l]
 |n+1,l=>match l with
  |[]=>[]
  |a::b::c::d::l=>[a,b,c,d]::cut n l
  |l=>[l]
theorem Ri:∀(n:Nat) (l:List Stmt),(cut n l).flatten=l
 |0,l=>by simp [cut]
 |_+1,[]=>rfl
 |n+1,a::b::c::d::l=>by simp [cut,Ri n l]
 |n+1,[a]=>rfl
 |n+1,[a,b]=>rfl
 |n+1,[a,b,c]=>rfl
theorem cut_len:∀(n:Nat) (l:List Stmt),(cut n l).length≤n+1
 |0,l=>Au _
 |_+1,[]=>DL _
 |n+1,a::b::c::d::l=>Nat.succ_le_succ (cut_len n l)
 |n+1,[a]=>by simp [cut]
 |n+1,[a,b]=>by simp [cut]
 |n+1,[a,b,c]=>by simp [cut]
def Nq (p:Program):Env:={scope:=p.main.scope,locals:=mainNs,globals:=mainNs,cells:=[],code:=.ref 13,frame:=some 14}
def Gj (p:Program):Code:=.body (behindTheImports p) (Nq p)
noncomputable def EI (p:Program) (S0:SharedT):Option (Thread×List Code×SharedT):=match KB stp ok 12 S0 (topStub p) with
 |some (sa,ta)=>match seg 1 sa (blockOf (behindTheImports p) (Nq p) (Gj p) ⟨0,0,0,0⟩ [topFrame ⟨0,0,0,0⟩]) with
  |some (.next,sb,cb,pb)=>fS sb fun sb=>fP pb fun pb=>match Hq seg (Nq p) (Gj p) 2000 (cut 400 (behindTheImports p)) sb pb [cb] with
   |some (sf,pf,cs)=>match KC stp ok 2 sf ⟨doneF .next,Gj p,pf,[topFrame ⟨0,0,0,0⟩]⟩ with
    |some sg=>some (ta,cs,sg)
    |none=>none
   |none=>none
  |_=>none
 |none=>none
end
noncomputable def Rj (P:Params) (os:OsState):SharedT:=⟨((boot_heap P).objs.toList.foldl (fun (x:BT×Nat) o=>(x.1.ins x.2 o,x.2+1)) (.nil,0)).1,11,(boot_heap P).life,⟨[]⟩,boot_drawn,boot_toks,os⟩
theorem ZaJ (P:Params) (os:OsState):(Rj P os).abs=⟨boot_heap P,⟨[]⟩,boot_drawn,boot_toks,os⟩:=by kernel_rfl
section
variable {α:Type}
noncomputable def Nr (l:List Obj):(List Obj→α)→α:=@List.rec Obj (fun _=>(List Obj→α)→α) (fun k=>k []) (fun a _ ih k=>fO a fun a=>ih fun l'=>k (a::l')) l
theorem Rk:∀(l:List Obj) (k:List Obj→α),Nr l k=k l
 |[],_=>rfl
 |a::l,k=>by show fO a (fun a=>Nr l fun l'=>k (a::l'))=_;rw [Rh,Rk]
noncomputable def AF (s:SharedT) (k:Shared→α):α:=Nr (s.tree.list s.n) fun l=>k ⟨⟨⟨l⟩,s.life⟩,s.gens,s.drawn,s.toks,s.os⟩
theorem ZaK (s:SharedT) (k:Shared→α):AF s k=k s.abs:=Rk _ _
end
section
variable {tb:String→Option Builtin} {p:Program} {w:World} {m0:Nat} {ann:Option Value}
theorem Rl:∀{n:Nat} {s s':SharedT} {t t':Thread},KB (stepT (denote tb) p w) (stepOk m0 ann) n s t=some (s',t')→topGo tb p w m0 ann n s.abs t=some (s'.abs,t')
 |0,_,_,_,_,h=>by cases h;rfl
 |n+1,s,s',t,t',h=>by
  unfold KB at h
  unfold topGo
  cases he:through t with
  |true=>rw [he] at h;cases h
  |false=>
   rw [he] at h
   cases hk:stepOk m0 ann t with
   |false=>rw [hk] at h;cases h
   |true=>
    rw [hk] at h
    cases hs:stepT (denote tb) p w s t with
    |none=>rw [hs] at h;cases h
    |some r=>obtain ⟨s₂,t₂⟩:=r;rw [hs] at h;rw [stepT_spec hs];exact Rl h
theorem Rm:∀{n:Nat} {s s':SharedT} {t:Thread},KC (stepT (denote tb) p w) (stepOk m0 ann) n s t=some s'→topRun tb p w m0 ann n s.abs t=some s'.abs
 |0,_,_,_,h=>by cases h
 |n+1,s,s',t,h=>by
  unfold KC at h
  unfold topRun
  cases he:through t with
  |true=>rw [he] at h;cases h;rfl
  |false=>
   rw [he] at h
   cases hk:stepOk m0 ann t with
   |false=>rw [hk] at h;cases h
   |true=>
    rw [hk] at h
    cases hs:stepT (denote tb) p w s t with
    |none=>rw [hs] at h;cases h
    |some r=>obtain ⟨s₂,t₂⟩:=r;rw [hs] at h;rw [stepT_spec hs];exact Rm h
theorem Nt {seg:Nat→SharedT→Thread→Option (Flow×SharedT×Code×Pos)} {env:Env} {c:Code} {f:Nat}:∀{ls:List (List Stmt)} {s sf:SharedT} {pos pf:Pos} {c0 cs:List Code},Hq seg env c f ls s pos c0=some (sf,pf,cs)→∀x∈c0,x∈cs
 |[],_,_,_,_,_,_,h,x,hx=>by cases h;exact hx
 |l::ls,s,sf,pos,pf,c0,cs,h,x,hx=>by
  unfold Hq at h
  split at h
  ·rw [Nn,Np] at h;exact Nt h x (.tail _ hx)
  ·cases h
theorem Rn {env:Env} {c:Code} {f:Nat}:∀{ls:List (List Stmt)} {s sf:SharedT} {pos pf:Pos} {c0 cs:List Code},Hq (segRunT tb p w m0 ann 1) env c f ls s pos c0=some (sf,pf,cs)→(∀x∈cs,x=c)→∀{N:Nat} {r:Shared},
 topRun tb p w m0 ann N sf.abs ⟨doneF .next,c,pf,[topFrame ⟨0,0,0,0⟩]⟩=some r→topRun tb p w m0 ann (ls.length*f+N) s.abs (restOf ls.flatten env c pos [topFrame ⟨0,0,0,0⟩])=some r
 |[],s,sf,pos,pf,c0,cs,h,hc,N,r,k=>by
  cases h
  rw [List.length_nil,Nat.zero_mul,Nat.zero_add]
  exact piece_nil k
 |l::ls,s,sf,pos,pf,c0,cs,h,hc,N,r,k=>by
  unfold Hq at h
  split at h
  ·rename_i s' c' pos' e
   rw [Nn,Np] at h
   have e1:=segRun_of e
   rw [hc c' (Nt h c' (.head _))] at e1
   have:=piece_app (rest:=ls.flatten) e1 (Rn h hc k)
   rw [CL,Ib,Nat.add_comm (ls.length*f) f,Ia]
   exact this
  ·cases h
end
noncomputable def ZaL {α:Type} (OS:Program→List Str→List Str→(Shared→Bool)→Bool→Shared→_) (IM:List Stmt→List Str) (p q:Program) (loose:List Str) (Yf:Shared→α) (H₀:Heap) (s:Shared):=
 ((staticsOk (IM p.main.body) H₀ s.heap&&namesBound p s.heap&&gensDone s&&laidKept H₀ s.heap),(OS q loose (IM p.main.body) (fun _=>true) true s:type_of% (openSeen q loose [] (fun _=>true) true s)),Yf s)
theorem left_of {p q:Program} {loose:List Str} {α:Type} {Yf:Shared→α} {Ya:World→α} {n:Nat} (e:opening p=plainProg p.main.scope.names) (fm:∀s,fenceModules? p s=some s)
 (size:∀w:World,((boot_heap w.params).isNs mainGlobals&&(Array.mk ([]:List GenState)).size==0,(boot_heap w.params).objs.size,(boot_heap w.params).nsMap mainGlobals "__annotations__")=(true,11,some (.ref 6)))
 (h:∀(w:World) (os:OsState),(EI (stepT (denote treeTable) p w) (stepOk 11 (some (.ref 6))) (segRunT treeTable p w 11 (some (.ref 6)) 1) p (Rj w.params os)).map (fun r=>(r.1,r.2.1,AF r.2.2 (ZaL openSeen importedModules p q loose Yf (boot_heap w.params))))=
  some (⟨denote treeTable (Gj p),Gj p,⟨0,0,0,0⟩,[topFrame ⟨0,0,0,0⟩]⟩,List.replicate n (Gj p),(true,openGood q loose,Ya w))):
 LeftO p q loose (fun _=>true) Yf Ya 1000000:=fun w=>by
 obtain ⟨⟨hp,gs,d,k,os⟩,e0,e'⟩:=qaW.mp (boot_open (N:=1000000) e rfl fm w)
 obtain ⟨rfl,rfl,rfl,rfl⟩:hp=boot_heap w.params∧gs=Array.mk []∧d=boot_drawn∧k=boot_toks:=by simpa using e'
 obtain ⟨z1,z2,z3⟩:_∧_∧_:=by simpa only [Prod.mk.injEq] using size w
 obtain ⟨⟨ta,cs,sg⟩,h1,h2⟩:=qaW.mp (h w os)
 dsimp only at h2
 rw [ZaK] at h2
 obtain ⟨h3,h4⟩:=Prod.mk.inj h2
 obtain ⟨h5,h6⟩:=Prod.mk.inj h4
 obtain ⟨l1,h7⟩:=Prod.mk.inj h6
 obtain ⟨l2,l3⟩:=Prod.mk.inj h7
 have hcs:∀x∈cs,x=Gj p:=fun x hx=>by rw [h5] at hx;exact List.eq_of_mem_replicate hx
 have run:topRun treeTable p w 11 (some (.ref 6)) 1000000 ⟨boot_heap w.params,Array.mk [],boot_drawn,boot_toks,os⟩ (topStub p)=some sg.abs:=by
  rw [←ZaJ]
  unfold EI at h1
  split at h1
  ·rename_i sa ta' ea
   split at h1
   ·rename_i sb cb pb eb
    rw [Nn,Np] at h1
    split at h1
    ·rename_i sf pf cs' ec
     split at h1
     ·rename_i sg' eg
      cases h1
      have hb:=segRun_of eb
      rw [hcs cb (Nt ec cb (.head _))] at hb
      have c1:=Rn ec hcs (Rm eg)
      rw [Ri] at c1
      have c2:=piece_block hb c1
      have c3:=Rl ea
      rw [h3] at c3
      have c4:=go_top c3 c2
      have hl:=cut_len 400 (behindTheImports p)
      have:=topRun_mono (1000000 - (12+(1+((cut 400 (behindTheImports p)).length*2000+2)))) _ _ _ _ c4
      rwa [show 12+(1+((cut 400 (behindTheImports p)).length*2000+2))+(1000000 - (12+(1+((cut 400 (behindTheImports p)).length*2000+2))))=1000000 by omega] at this
     ·cases h1
    ·cases h1
   ·cases h1
  ·cases h1
 have t:topFrom treeTable p w 1000000 ⟨boot_heap w.params,Array.mk [],boot_drawn,boot_toks,os⟩=some sg.abs:=by
  unfold topFrom
  dsimp only
  rw [z1,z2,z3,run]
  show (match staticsOk (importedModules p.main.body) (boot_heap w.params) sg.abs.heap&&namesBound p sg.abs.heap&&gensDone sg.abs&&laidKept (boot_heap w.params) sg.abs.heap with |true=>_ |false=>_)=_
  rw [l1]
 unfold openEnds
 rw [e0]
 show (topFrom treeTable p w 1000000 _).map _=_
 rw [t]
 exact congrArg some (Prod.ext l2 l3)
def Gk:List Obj→Nat→Frag
 |[],_=>[]
 |o::l,a=>match o.isFreed with
  |true=>Gk l (a+1)
  |false=>match o.cls,a==mainNs||a==cStatics with
   |.none,false=>Gk l (a+1)
   |_,_=>(a,o)::Gk l (a+1)
def Hr (h:Heap):Frag:=Gk h.objs.toList 0
theorem lookup_mem {a:Addr} {o:Obj}:∀{l:Frag},l.lookup a=some o→(a,o)∈l
 |[],h=>by cases h
 |(b,o')::l,h=>by
  rw [Dm] at h
  split at h
  ·rename_i q
   cases h
   rw [beq_iff_eq.mp q]
   exact .head _
  ·exact .tail _ (lookup_mem h)
theorem Ro:∀{l:List Obj} {k:Nat} {p:Addr×Obj},p∈Gk l k→∃i,p.1=k+i∧l[i]?=some p.2∧p.2.isFreed=false
 |[],_,_,h=>by cases h
 |o::l,k,p,h=>by
  have rest:p∈Gk l (k+1)→∃i,p.1=k+i∧(o::l)[i]?=some p.2∧p.2.isFreed=false:=fun q=>by
   obtain ⟨i,h1,h2,h3⟩:=Ro q
   exact ⟨i+1,by rw [h1];show (k+1+i:Nat)=k+(i+1);omega,by simpa using h2,h3⟩
  unfold Gk at h
  split at h
  ·exact rest h
  ·rename_i hf
   split at h
   ·exact rest h
   ·rcases qa9.mp h with rfl |h
    ·exact ⟨0,rfl,rfl,hf⟩
    ·exact rest h
theorem ZaM (h:Heap):(Hr h).In h:=fun a o e=>by
 obtain ⟨i,h1,h2,h3⟩:=Ro (lookup_mem e)
 simp only [Nat.zero_add] at h1
 subst h1
 simp only at h2 h3
 have e2:h.objs[a]?=some o:=by simpa using h2
 unfold Heap.get?
 rw [e2]
 obtain ⟨c,d,dt,sl⟩:=o
 cases dt<;>first |rfl |cases h3
def blank (fd:FuncData):FuncData:={fd with kwdefaults:=.none,doc:=.none,pyModule:=.none,annotations:=none,code:=.none,closureTuple:=.none}
def Gm (K:Frag) (n:Str):Option (FuncData×Bool×Bool):=match nsIn K mainGlobals n with
 |some (some (.ref f))=>(match K.lookup f with
  |some ⟨_,_,.func fd,_⟩=>some (blank fd,codeIn K fd.code n,keepIn K (.ref f))
  |_=>none)
 |_=>none
abbrev IQ (n:Str) (st:Stmt):FuncData:=fnOf n n (L2.defArgs st) (L2.defBody st) (L2.defScope st) .none .none .none .none none .none .none
inductive SeenF (K:Frag) (n:Str) (st:Stmt):Prop where
 |mk (f:Addr) (od an:Option Addr) (sl:Array (Option Value)) (oc kV dc pm cd ct:Value) (a:nsIn K mainGlobals n=some (some (.ref f)))
  (l:K.lookup f=some ⟨oc,od,.func (fnOf n n (L2.defArgs st) (L2.defBody st) (L2.defScope st) .none kV dc pm an cd ct),sl⟩) (c:codeIn K cd n=true) (k:keepIn K (.ref f)=true):SeenF K n st
theorem ZaN {K:Frag} {n:Str} {st:Stmt} (e:Gm K n=some (IQ n st,true,true)):SeenF K n st:=by
 unfold Gm at e
 split at e
 ·rename_i f hf
  split at e
  ·rename_i oc od fd sl hl
   obtain ⟨e1,e2⟩:=Prod.mk.inj (Option.some.inj e)
   obtain ⟨e3,e4⟩:=Prod.mk.inj e2
   obtain ⟨x1,x2,x3,x4,x5,x6,x7,x8,x9,x10,x11,x12,x13,x14,x15⟩:=fd
   replace e1:FuncData.mk x1 x2 x3 x4 x5 x6 x7 x8 .none .none .none none .none .none x15=IQ n st:=e1
   injection e1 with y1 y2 y3 y4 y5 y6 y7 y8 y9 y10 y11 y12 y13 y14 y15
   subst x1 x2 x3 x4 x5 x6 x7 x8 x15
   exact ⟨f,od,x12,sl,oc,x9,x10,x11,x13,x14,hf,hl,e3,e4⟩
  ·cases e
 ·cases e
def Gn (K:Frag) (x:Str):Option Int:=match nsIn K mainGlobals x with
 |some (some (.int v _))=>some v
 |_=>none
theorem ZaO {K:Frag} {x:Str} {v:Int} (e:Gn K x=some v):∃t,nsIn K mainGlobals x=some (some (.int v t)):=by
 unfold Gn at e
 split at e
 ·rename_i t h;cases e;exact ⟨t,h⟩
 ·cases e
def Nu (K:Frag) (h:Heap):Option (Option Obj×Bool×Bool):=match LS.tabP K "law" with
 |some (c,T)=>some (h.get? T,codeHdIn K c T,(K.lookup T).isNone)
 |none=>none
structure Want where
 fs:List (Str×Stmt)
 cs:List (Str×Int)
 bs:List Str
abbrev Hs:=List (Option (FuncData×Bool×Bool))×List (Option Int)×List (Option (Option Value))×Bool×Option (Option Obj×Bool×Bool)
noncomputable def Zg3 (W:Want) (s:Shared):Hs:=fL (Hr s.heap) fun K=>
 (W.fs.map fun x=>Gm K x.1,W.cs.map fun x=>Gn K x.1,W.bs.map (nsIn K mainGlobals),LS.etOk K,Nu K s.heap)
def Rq (W:Want):Hs:=(W.fs.map fun x=>some (IQ x.1 x.2,true,true),W.cs.map fun x=>some x.2,W.bs.map fun _=>some none,true,some (some (tabObj #[]),true,true))
inductive KG (W:Want) (K:Frag) (c T:Addr):Prop where
 |mk (fs:∀(i:Nat) n st,W.fs[i]?=some (n,st)→SeenF K n st) (cs:∀(i:Nat) n v,W.cs[i]?=some (n,v)→∃t,nsIn K mainGlobals n=some (some (.int v t))) (bs:∀(i:Nat) n,W.bs[i]?=some n→nsIn K mainGlobals n=some none)
  (et:LS.etOk K=true) (tb:LS.tabP K "law"=some (c,T)) (hd:codeHdIn K c T=true) (no:K.lookup T=none):KG W K c T
def Says (W:Want) (_:World) (h:Heap):Prop:=∃(K:Frag) (c T:Addr),K.In h∧KG W K c T∧h.get? T=some (tabObj #[])
theorem Says.keeps {W:Want} (w:World) (h h':Heap) (x:Says W w h) (k:∀b o,h.get? b=some o→h'.get? b=some o):Says W w h':=by
 obtain ⟨K,c,T,h1,h2,h3⟩:=x
 exact ⟨K,c,T,h1.keeps k,h2,k _ _ h3⟩
theorem Gp {α β:Type} {f g:α→β} {l:List α} (e:l.map f=l.map g) {i:Nat} {x:α} (h:l[i]?=some x):f x=g x:=by
 have:=congrArg (·[i]?) e
 simp only [CK,h,H0,Option.some.injEq] at this
 exact this
end Tp
namespace LS
open PySem PySem.W PySem.Spec PySem.Calls PyProof.Rows L2
end LS
namespace Tp
open PySem PySem.W PySem.Spec PySem.Calls PyProof.Rows
def ZaP (K:Frag):Option (FuncData×List Bool):=match nsIn K mainGlobals "TooMany",nsIn K mainGlobals "SwitchError" with
 |some (some (.ref C)),some (some (.ref S))=>(match K.lookup C with
  |some o=>(match LS.clsOf o.data with
   |some cd=>(match nsIn K cd.ns "__init__" with
    |some (some (.ref f))=>(match K.lookup f with
     |some ⟨oc,_,.func fd,_⟩=>some (blank fd,[codeIn K fd.code "TooMany.__init__",LS.tmX K C f,LS.swX K S,keepIn K (.ref C),oc==.type "function"])
     |_=>none)
    |_=>none)
   |none=>none)
  |none=>none)
 |_,_=>none
abbrev fnI (st:Stmt):FuncData:=fnOf "__init__" "TooMany.__init__" (L2.defArgs st) (L2.defBody st) (L2.defScope st) .none .none .none .none none .none .none
inductive Rr (K:Frag) (st:Stmt):Prop where
 |mk (C S f:Addr) (od an:Option Addr) (sl:Array (Option Value)) (kV dc pm cd ct:Value) (nC:nsIn K mainGlobals "TooMany"=some (some (.ref C))) (nS:nsIn K mainGlobals "SwitchError"=some (some (.ref S)))
  (l:K.lookup f=some ⟨.type "function",od,.func (fnOf "__init__" "TooMany.__init__" (L2.defArgs st) (L2.defBody st) (L2.defScope st) .none kV dc pm an cd ct),sl⟩) (c:codeIn K cd "TooMany.__init__"=true) (tm:LS.tmX K C f=true) (sw:LS.swX K S=true) (kp:keepIn K (.ref C)=true):Rr K st
noncomputable def Zg4 (W:Want) (s:Shared):Hs×Option (FuncData×List Bool):=fL (Hr s.heap) fun K=>
 ((W.fs.map fun x=>Gm K x.1,W.cs.map fun x=>Gn K x.1,W.bs.map (nsIn K mainGlobals),LS.etOk K,Nu K s.heap),ZaP K)
def Zg5 (W:Want) (st:Stmt):Hs×Option (FuncData×List Bool):=(Rq W,some (fnI st,[true,true,true,true,true]))
def SaysT (W:Want) (st:Stmt) (_:World) (h:Heap):Prop:=∃(K:Frag) (c T:Addr),K.In h∧(KG W K c T∧Rr K st)∧h.get? T=some (tabObj #[])
theorem SaysT.keeps {W:Want} {st:Stmt} (w:World) (h h':Heap) (x:SaysT W st w h) (k:∀b o,h.get? b=some o→h'.get? b=some o):SaysT W st w h':=by
 obtain ⟨K,c,T,h1,h2,h3⟩:=x
 exact ⟨K,c,T,h1.keeps k,h2,k _ _ h3⟩
end Tp
namespace LS
open PySem PySem.W PySem.Spec PySem.Calls PyProof.Rows L2
structure TmK (P:Program) (w:World) (K:Frag) (mg:Str→Option Value) (base:Heap) (C f:Addr) (fd:FuncData) (oI:Obj):Prop where
 tm:tmX K C f=true
 F:FnOk P w K mg base (AO P w K) 1 f fd ["self","many","most"] (Rc K C)
 hb:Binds K fd ["self","many","most"] []
 lI:K.lookup f=some oI
 cI:oI.cls=.type "function"
 kp:keepIn K (.ref C)=true
 nC:nsIn K mainGlobals "TooMany"=some (some (.ref C))
end LS
namespace LS
open PySem PySem.Spec PyProof.Rows L2
open Classical in
noncomputable def strOfD:D→HD→Out D
 |.int i,h=>if i.natAbs<4611686018427387904 then .ok (.str (toString i)) h else .stuck
 |_,_=>.stuck
section
variable {X:Cx}
theorem ZaQ:Dp X (.type "str") (fun xs H Q=>∃i:Int,xs=[.int i]∧i.natAbs<4611686018427387904∧Q (.str (toString i)) H):=by
 intro pins s σ H xs us Q I r h
 obtain ⟨i,rfl,hi,q⟩:=h
 obtain ⟨u,rfl,t,rfl⟩:=E4 r
 exact str_of_int_fit (N:=4611686018427387904) (by split<;>omega) (Int.le_refl _) fun _=>⟨.str (toString i),H,I.tok _,⟨_,rfl⟩,q⟩
theorem ZaR:Dj X (.type "str") (Ak strOfD):=by
 refine ⟨_,ZaQ,fun m H h E ds vs Q hr r q=>F7 r q fun d v ev rv q=>?_⟩
 unfold strOfD at q
 split at q
 ·split at q
  ·rename_i i hi
   simp only [DV] at rv;subst rv
   exact ⟨_,ev,hi,AI hr q (by simp [DV])⟩
  ·exact q.elim
 ·exact q.elim
def Zg6 (i j k:Nat) (ta:TA):TS:=fun Dn σ H=>ta σ H fun vs H1=>∃u v w,vs=[u,v,w]∧Dn.nx (((σ.set i (some u)).set j (some v)).set k (some w)) H1
def Nv (i j k:Nat) (ρ:Af):List D→HD→Out (Fl×Af)
 |[u,v,w],h=>.ok (.nx,((ρ.set i (some u)).set j (some v)).set k (some w)) h
 |_,_=>.stuck
noncomputable def Rt (i j k:Nat) (fa:MA):MS:=fun ρ h=>(fa ρ h).bind fun ds h1=>Nv i j k ρ ds h1
end
@[simp] theorem Zg7 {i j k:Nat} {fa:MA} {ρ:Af} {h:HD} {Q:Fl×Af→HD→Prop}:Wp (Rt i j k fa ρ h) Q=Wp (fa ρ h) fun ds h1=>Wp (Nv i j k ρ ds h1) Q:=by unfold Rt;rw [Ao]
@[simp] theorem Zg8 {i j k:Nat} {ρ:Af} {u v w:D} {h:HD} {Q:Fl×Af→HD→Prop}:Wp (Nv i j k ρ [u,v,w] h) Q=Q (.nx,((ρ.set i (some u)).set j (some v)).set k (some w)) h:=rfl
section
variable {X:Cx}
abbrev Zg9:=Fx fun i j=>.int (Builtin.bitXor i j)
end
section
variable {X:Cx} {E:XK} {D:Addr} {elt tg iter:Expr} {ifs:List Expr} {gs gens:List Comprehension} {scope:Scope} {pos:Pos} {Nc:List Str} {cs:List (Option Nat)} {it:MI} {gg:TG} {sg:MG} {t:MT} {f:ME} {e:DU} {d:Nat} {is js:List Nat}
end
def ZaS:List Expr→Option (List (Int×Int))
 |[]=>some []
 |.Tuple [.Constant (.int a) _ _,.Constant (.int b) _ _] _ _::es=>(ZaS es).map ((a,b)::·)
 |_=>none
noncomputable def KH:List (Int×Int)→MA
 |[]=>Ac
 |p::ps=>Aa (Du (Aa (mC (.int p.1)) (Aa (mC (.int p.2)) Ac))) (KH ps)
@[simp] theorem Zha:KH []=Ac:=rfl
@[simp] theorem Zhb {p:Int×Int} {ps:List (Int×Int)}:KH (p::ps)=Aa (Du (Aa (mC (.int p.1)) (Aa (mC (.int p.2)) Ac))) (KH ps):=rfl
section
variable {X:Cx} {E:XK}
@[irreducible] def ExI (X:Cx) (E:XK) (st:Stmt) (g:MS):Prop:=Ex X E st g
@[irreducible] def Zhc (X:Cx) (E:XK) (sts:List Stmt) (g:MS):Prop:=Cz X E sts g
end
end LS
namespace LS
open PySem PySem.Spec PySem.W PyProof.Rows L2
end LS
namespace LS
open PySem PySem.Spec PyProof.Rows L2 PySem.W
end LS
namespace Tp
open PySem PySem.W PySem.Spec PySem.Calls PyProof.Rows
abbrev Ru:=List (Option (FuncData×Bool×Bool))×List (Option Int)×List (Option (Option Value))×Bool
noncomputable def Zhd (W:Want) (s:Shared):Ru:=fL (Hr s.heap) fun K=>
 (W.fs.map fun x=>Gm K x.1,W.cs.map fun x=>Gn K x.1,W.bs.map (nsIn K mainGlobals),true)
def Zhe (W:Want):Ru:=(W.fs.map fun x=>some (IQ x.1 x.2,true,true),W.cs.map fun x=>some x.2,W.bs.map fun _=>some none,true)
inductive Rv (W:Want) (K:Frag):Prop where
 |mk (fs:∀(i:Nat) n st,W.fs[i]?=some (n,st)→SeenF K n st) (cs:∀(i:Nat) n v,W.cs[i]?=some (n,v)→∃t,nsIn K mainGlobals n=some (some (.int v t))) (bs:∀(i:Nat) n,W.bs[i]?=some n→nsIn K mainGlobals n=some none)
  (et:True):Rv W K
def Says0 (W:Want) (_:World) (h:Heap):Prop:=∃K:Frag,K.In h∧Rv W K
theorem Says0.keeps {W:Want} (w:World) (h h':Heap) (x:Says0 W w h) (k:∀b o,h.get? b=some o→h'.get? b=some o):Says0 W w h':=by
 obtain ⟨K,h1,h2⟩:=x
 exact ⟨K,h1.keeps k,h2⟩
end Tp
namespace LS
open PySem PySem.W PySem.Spec PySem.Calls PyProof.Rows L2
end LS
namespace LS
open PySem PySem.Spec PyProof.Rows L2
def ZaT:D→HD→Out D:=fun x h=>match x with
 |.loc l=>(match h[l]? with
  |some (.lst ds)=>Bu ds.reverse h
  |_=>.stuck)
 |_=>.stuck
def Zhf (f:ME):ME:=fun ρ h=>(f ρ h).bind ZaT
section
variable {X:Cx} {E:XK} {e:Expr} {f:ME}
end
def Ht:D→D→HD→Out D:=fun x y h=>match x with
 |.exc _ _=>.stuck
 |.edic=>.stuck
 |_=>AC x y h
section
variable {h:HD} {y:D} {i:Int} {b:Bool} {x:Str} {ds:List D} {l:Nat}
@[simp] theorem Zhg:Ht (.int i) y h=AC (.int i) y h:=rfl
@[simp] theorem Zhh:Ht (.bl b) y h=AC (.bl b) y h:=rfl
@[simp] theorem Zhi:Ht .non y h=AC .non y h:=rfl
@[simp] theorem Zhj:Ht (.str x) y h=AC (.str x) y h:=rfl
@[simp] theorem Zhk:Ht (.tup ds) y h=AC (.tup ds) y h:=rfl
@[simp] theorem Zhl:Ht (.loc l) y h=AC (.loc l) y h:=rfl
end
end LS
namespace LS
open PySem PySem.Spec PyProof.Rows L2 PySem.W PySem.Calls
section
variable {X:Cx} {E:XK}
def Ea:D→D→HD→Out D:=fun x y h=>match x,y with
 |.str z,.int i=>if z.length≤sizeLine then (match BY z.cps.toList i with
  |some c=>.ok (.str ⟨#[c]⟩) h
  |none=>.stuck) else .stuck
 |_,_=>.stuck
theorem ZaU {a b:Expr} {pos:Pos} {f g:ME} (ha:Ev X E a f) (hb:Ev X E b g) (hs:Mf b):Ev X E (.Subscript a b pos) (Ad Ea f g):=
 BH (Pk WX ha hb hs) fun σ H Q hq=>Ip hq fun m H2 h2 x y v u hr rx ry q=>by
  unfold Ea at q
  split at q
  ·rename_i z i
   split at q
   ·rename_i hz
    split at q
    ·rename_i c ec
     simp only [DV] at rx ry
     subst rx ry
     exact ⟨z,i,c,rfl,rfl,hz,ec,AI hr q (by simp [DV])⟩
    ·exact q.elim
   ·exact q.elim
  ·exact q.elim
def Gq:List D→Option (List Str)
 |[]=>some []
 |.str x::ds=>(Gq ds).map (x::·)
 |_=>none
def Hu (sep:Str):List Str→Str
 |[x]=>x
 |xs=>Builtin.Str.glued sep xs
def BC:D→HD→Out D
 |.str x,h=>.ok (.str x) h
 |_,_=>.stuck
def Dc:D→D→HD→Out D:=fun x y h=>match x,y with
 |.str sep,.loc l=>(match h[l]? with
  |some (.lst ds)=>(match Gq ds with
   |some xs=>if xs.toArray.foldl (·+ ·.length+sep.length) 0≤sizeLine∧(Hu sep xs).length≤sizeLine then .ok (.str (Hu sep xs)) h else .stuck
   |none=>.stuck)
  |_=>.stuck)
 |_,_=>.stuck
theorem ZaV (x y:D) (h:HD):DT (Dc x y h):=by
 unfold Dc
 repeat' split
 all_goals trivial
theorem KI:M4 X "str" BC where
 two:=fun x h=>by
  unfold BC
  split
  ·exact .inl rfl
  ·exact .inr rfl
 ty:=fun m H h x v hr r e=>by
  unfold BC at e
  split at e
  ·simp only [DV] at r
   subst r
   exact fun pins σ s u I ru=>JQ I ru rfl
  ·cases e
theorem Rw {K:Frag} {m:List Addr} {H:Hp}:∀{ds:List D} {vs:List V} {us:List Value} {xs:List Str},DVs K m H ds vs→Vals vs us→Gq ds=some xs→∃l:List (Str×Tok),us=strValues l∧l.map (·.1)=xs
 |[],_,_,_,r,t,e=>by
  simp only [DVs] at r
  subst r
  cases t
  cases e
  exact ⟨[],rfl,rfl⟩
 |d::ds,_,_,xs,r,t,e=>by
  simp only [DVs] at r
  obtain ⟨v,w,rfl,rv,rw'⟩:=r
  cases t with
  |cons t1 t2=>
   cases d<;>simp only [Gq] at e<;>try cases e
   rename_i x
   cases q:Gq ds with
   |none=>rw [q] at e;cases e
   |some ys=>
    rw [q] at e
    cases e
    obtain ⟨l,e1,e2⟩:=Rw rw' t2 q
    simp only [DV] at rv
    subst rv
    obtain ⟨tk,rfl⟩:=t1
    exact ⟨(x,tk)::l,by rw [e1];rfl,by simp [e2]⟩
theorem ZaW:FG X "str.join" Dc:=by
 intro pins s σ H m h x y v yv u uy Q I hr rx ry r r2 q
 unfold Dc at q
 split at q
 ·rename_i sep l
  split at q
  ·rename_i ds el
   split at q
   ·rename_i xs ex
    split at q
    ·rename_i hz
     simp only [DV] at rx ry
     subst rx
     obtain ⟨a,rfl,ha⟩:=ry
     cases (show uy=Value.ref a from r2)
     obtain ⟨t,rfl⟩:=r
     obtain ⟨vs,hv,dv⟩:=hr.cells l _ a el ha
     obtain ⟨z,its,n,rr,hl,e⟩:=I.lstM hv
     obtain ⟨ps,e1,e2⟩:=Rw dv rr ex
     subst e1
     have hlen:Builtin.Str.tooLong ((ps.map (·.1)).toArray.foldl (·+ ·.length+sep.length) 0)=false:=by
      rw [e2]
      exact decide_eq_false (Nat.not_lt.mpr hz.1)
     have AF:∀(tk tk':Tok),EP X pins σ Q (.str (Hu sep xs) tk) {s with toks:=tk'}:=fun tk tk'=>⟨.str (Hu sep xs),H,I.tok _,⟨tk,rfl⟩,AI hr q (by simp [DV])⟩
     refine call_meets F.slot_str_join (typeIs_str _ _ _) F.entry_str_join (F.args_str_join_2 _ _) (meets_str_join_list sep t a ps hlen) ⟨⟨_,e,rfl,n,rfl⟩,?_⟩
     subst e2
     match ps,AF,hz with
     |[],AF,hz=>exact ⟨hz.2,AF _ _⟩
     |[p],AF,hz=>exact AF _ _
     |p::p'::ps,AF,hz=>exact ⟨hz.2,AF _ _⟩
    ·exact q.elim
   ·exact q.elim
  ·exact q.elim
 ·exact q.elim
def Nw (n:Str):List D→HD→Out D:=fun xs h1=>if xs.length≤sizeLine then .ok (.exc n []) h1 else .stuck
def Rx (n:Str) (fa:MA):ME:=fun ρ h=>(fa ρ h).bind (Nw n)
noncomputable def Ry:List D→HD→Out D:=fun xs h1=>match xs with
 |[.int a,.int b]=>(match Nl [none,some (.int a),some (.int b)] h1 with
  |.ok (.str _) h2=>.ok (.exc "TooMany" [("many",a),("most",b)]) h2
  |_=>.stuck)
 |_=>.stuck
noncomputable def Rz (fa:MA):ME:=fun ρ h=>(fa ρ h).bind Ry
end
section
variable {n:Str} {fa:MA} {f:ME} {ρ:Af} {h:HD} {Q:D→HD→Prop}
@[simp] theorem Zhm:Wp (Rx n fa ρ h) Q=Wp (fa ρ h) fun xs h1=>Wp (Nw n xs h1) Q:=by unfold Rx;rw [Ao]
@[simp] theorem Zhn {x:D}:Nw n [x] h=.ok (.exc n []) h:=if_pos (by show 1≤sizeLine;decide)
@[simp] theorem Zho:Wp (Rz fa ρ h) Q=Wp (fa ρ h) fun xs h1=>Wp (Ry xs h1) Q:=by unfold Rz;rw [Ao]
@[simp] theorem Zhp {x:Str}:BC (.str x) h=.ok (.str x) h:=rfl
@[simp] theorem Zhq {nm:Str}:Wp (Rf f nm ρ h) Q=Wp (f ρ h) fun d h1=>Wp (Re nm d h1) Q:=by unfold Rf;rw [Ao]
end
def RA:D→D→HD→Out D:=fun x y h=>match x,y with
 |.loc l,.loc k=>(match h[l]?,h[k]? with
  |some (.lst ds),some (.lst es)=>if ds.length+es.length≤sizeLine then .ok .non (h.set l (.lst (ds++es))) else .stuck
  |_,_=>.stuck)
 |_,_=>.stuck
section
variable {X:Cx} {E:XK}
def RB (f g:ME):ME:=fun ρ h=>((f ρ h).bind B0).bind fun x h1=>(g ρ h1).bind fun y h2=>RA x y h2
end
section
variable {f g:ME} {ρ:Af} {h:HD} {Q:D→HD→Prop} {l k:Nat} {ds es:List D}
@[simp] theorem Zhr:Wp (RB f g ρ h) Q=Wp (f ρ h) fun x h1=>Wp (B0 x h1) fun x h1=>Wp (g ρ h1) fun y h2=>Wp (RA x y h2) Q:=by unfold RB;simp only [Ao]
end
def isI:AW→Bool
 |.i _=>true
 |_=>false
def Hv (kvs:List (AW×D)):Bool:=kvs.all fun p=>isI p.1
def IS (kvs:List (AW×D)) (k:AW):Option D:=(kvs.find? fun p=>decide (p.1=k)).map (·.2)
def Gr (kvs:List (AW×D)) (k:AW) (v:D):List (AW×D):=if kvs.any (fun p=>decide (p.1=k)) then kvs.map (fun p=>if p.1=k then (p.1,v) else p) else kvs++[(k,v)]
def IR (K:Frag) (m:List Addr) (H:Hp) (p:AW×D) (q:Int×Value):Prop:=p.1=.i q.1∧∃v,DV K m H p.2 v∧RelV v q.2
section
variable {P:Program} {w:World} {K:Frag} {m:List Addr} {H:Hp} {h:Heap} {a:Addr}
theorem EntD.len:∀{kvs:List (AW×D)} {es:List (AW×V×V)},EntD K m H kvs es→kvs.length=es.length
 |[],_,e=>by simp only [EntD] at e;subst e;rfl
 |_::_,_,e=>by
  simp only [EntD] at e
  obtain ⟨kv,vv,r',rfl,_,_,t⟩:=e
  simp [EntD.len t]
end
section
variable {X:Cx} {E:XK} {pins:List (Addr×Obj)} {σ:L2.St} {H:Hp} {s:Shared}
theorem ZaX (I:Inv X pins σ H s):(s.heap.objs.size==sysModules)=false:=by
 have ne:s.heap.objs.size≠sysModules:=by
  obtain ⟨og,_,_,eg,_⟩:=I.ok.mod.glob
  obtain ⟨ml,⟨ol,_,_,el,_⟩,_⟩:=I.loc
  have h1:(3:Nat)<X.base.objs.size:=AH eg
  have h2:(X.env.locals:Nat)<s.heap.objs.size:=AH el
  have h3:X.base.objs.size≤X.s₀.heap.objs.size:=I.ok.bsz
  have h4:X.s₀.heap.objs.size≤(X.env.locals:Nat):=I.ok.above
  have h5:(1:Nat)<s.heap.objs.size:=Bc (Bc (show 1<4 by decide) h1) (BG h3 (BG h4 (Fq h2)))
  exact fun z=>Nat.ne_of_gt h5 z
 exact beq_eq_false_iff_ne.mpr ne
def Nx (kvs:List (AW×D)) (h:HD):Out D:=.ok (.loc h.length) (h++[.dic false kvs])
def ZaY:ME:=fun _ h=>Nx [] h
def ZaZ (i j:Int):ME:=fun _ h=>Nx [(.i i,.int j)] h
def RC:D→HD→Out D:=fun x h=>match x with
 |.loc l=>(match h[l]? with
  |some (.dic _ _)=>.ok x h
  |_=>.stuck)
 |_=>.stuck
def RD:D→D→D→HD→Out D:=fun x y z h=>match x,y with
 |.loc l,.int n=>(match h[l]? with
  |some (.dic _ kvs)=>if Hv kvs then .ok ((IS kvs (.i n)).getD z) h else .stuck
  |_=>.stuck)
 |_,_=>.stuck
def RE (f g k:ME):ME:=fun ρ h=>((f ρ h).bind RC).bind fun x h1=>(g ρ h1).bind fun y h2=>(k ρ h2).bind fun z h3=>RD x y z h3
def RF (o i v:D) (h:HD) (g:HD→Out (Fl×Af)):Out (Fl×Af):=match o,i with
 |.loc l,.int n=>(match h[l]? with
  |some (.dic false kvs)=>if Hv kvs∧kvs.length<sizeLine then g (h.set l (.dic false (Gr kvs (.i n) v))) else .stuck
  |_=>.stuck)
 |_,_=>.stuck
def RG (fo fi fv:ME):MS:=fun ρ h=>(fv ρ h).bind fun v h1=>(fo ρ h1).bind fun o h2=>(fi ρ h2).bind fun i h3=>RF o i v h3 fun h4=>.ok (.nx,ρ) h4
def Zhs (K:Frag):V→V→V→Hp→(Hp→Prop)→Prop:=fun o i v H Q=>∃(m:List Addr) (a:Addr) (n:Int) (kvs:List (AW×D)) (es:List (AW×V×V)) (d:D),o=.ref a∧i=.int n∧H a=some (.dct (Dr a es))∧EntD K m H kvs es∧Hv kvs=true∧kvs.length<sizeLine∧DV K m H d v∧
 ∀es',EntD K m H (Gr kvs (.i n) d) es'→Q (Aj H a (.dct (Dr a es')))
def Zht (a:Addr) (ob:Obj) (es:List (AW×V×V)):It:=⟨fun i H=>H a=some (.frz ob (.dct (Dr a es)))∧i<es.length,fun i H x H'=>∃p k kv vv,H p=none∧x=.ref p∧es[i]?=some (k,kv,vv)∧H'=Aj H p (.tup [kv,vv]),fun i H=>H a=some (.frz ob (.dct (Dr a es)))∧i=es.length⟩
def RH (d:D) (h:HD):Out (List D×AY):=match d with
 |.loc l=>(match h[l]? with
  |some (.dic _ kvs)=>if Hv kvs then .ok (kvs.map fun p=>.tup [kD p.1,p.2],[]) (h.set l (.dic true kvs)) else .stuck
  |_=>.stuck)
 |_=>.stuck
def RI (f:ME):MI:=fun ρ h=>(f ρ h).bind RH
end
section
variable {f g k fo fi fv:ME} {ρ:Af} {h:HD} {Q:D→HD→Prop} {QS:Fl×Af→HD→Prop} {QI:List D×AY→HD→Prop} {i j:Int} {l:Nat} {fz:Bool} {kvs:List (AW×D)}
@[simp] theorem Zhu:Wp (ZaY ρ h) Q=Q (.loc h.length) (h++[.dic false []]):=id rfl
@[simp] theorem Zhv:Wp (ZaZ i j ρ h) Q=Q (.loc h.length) (h++[.dic false [(.i i,.int j)]]):=id rfl
@[simp] theorem Zhw:Wp (RE f g k ρ h) Q=Wp (f ρ h) fun x h1=>Wp (RC x h1) fun x h2=>Wp (g ρ h2) fun y h3=>Wp (k ρ h3) fun z h4=>Wp (RD x y z h4) Q:=by unfold RE;simp only [Ao]
@[simp] theorem Zhx:Wp (RG fo fi fv ρ h) QS=Wp (fv ρ h) fun v h1=>Wp (fo ρ h1) fun o h2=>Wp (fi ρ h2) fun i h3=>Wp (RF o i v h3 fun h4=>.ok (.nx,ρ) h4) QS:=by unfold RG;simp only [Ao]
@[simp] theorem Zhy:Wp (RI f ρ h) QI=Wp (f ρ h) fun d h1=>Wp (RH d h1) QI:=by unfold RI;rw [Ao]
end
namespace Db
open PySem
section
variable {prog:Program} {w:World} {A:Around} {E:Value→Shared→Prop} {s:Shared}
abbrev iK (prog:Program) (w:World):KeyKind prog w Int:=intKind prog w
inductive RowsAre (prog:Program) (w:World) (h:Heap):List (List Int)→List Value→Prop
 |nil:RowsAre prog w h [] []
 |cons {k:List Int} {v:Value} {ks:List (List Int)} {vs:List Value}:(∃b,v=.ref b∧IsTupleKey (iK prog w) h k b)→RowsAre prog w h ks vs→RowsAre prog w h (k::ks) (v::vs)
def IsBoardKey (prog:Program) (w:World) (h:Heap) (ks:List (List Int)) (a:Addr):Prop:=∃o items n,h.get? a=some o∧o.cls=.type "tuple"∧o.data=.seq items n∧RowsAre prog w h ks items.toList
theorem RowsAre.inj {h:Heap} {x y:List (List Int)} {vs:List Value} (hx:RowsAre prog w h x vs) (hy:RowsAre prog w h y vs):x=y:=by
 induction hx generalizing y with
 |nil=>cases hy;rfl
 |cons h1 _ ih=>
  cases hy with
  |cons h2 t2=>
   obtain ⟨b1,rfl,q1⟩:=h1
   obtain ⟨b2,e,q2⟩:=h2
   cases e
   rw [q1.inj q2,ih t2]
theorem IsBoardKey.inj {h:Heap} {a:Addr} {x y:List (List Int)} (hx:IsBoardKey prog w h x a) (hy:IsBoardKey prog w h y a):x=y:=by
 obtain ⟨o,items,n,ho,_,hd,hi⟩:=hx
 obtain ⟨o',items',n',ho',_,hd',hi'⟩:=hy
 obtain rfl:o=o':=Option.some.inj (ho.symm.trans ho')
 rw [hd] at hd'
 injection hd' with h1 _
 subst h1
 exact hi.inj hi'
theorem IsBoardKey.typeIs {ks:List (List Int)} {a:Addr} (x:IsBoardKey prog w s.heap ks a):s.TypeIs (.ref a) "tuple":=let ⟨o,_,_,ho,hc,_⟩:=x;⟨o,ho,hc⟩
theorem RowsAre.keeps {h h':Heap} {d:Addr} {o:Obj} {es ep} (ho:h.get? d=some o) (hd:o.data=.dict es ep) (hs:Heap.SameBut d h h'):∀{ks:List (List Int)} {vs:List Value},RowsAre prog w h ks vs→RowsAre prog w h' ks vs
 |_,_,.nil=>.nil
 |_,_,.cons h1 t=>.cons (let ⟨b,e,q⟩:=h1;⟨b,e,q.keeps ho hd hs⟩) (RowsAre.keeps ho hd hs t)
theorem IsBoardKey.keeps {h h':Heap} {ks:List (List Int)} {a d:Addr} {o:Obj} {es ep} (x:IsBoardKey prog w h ks a) (ho:h.get? d=some o) (hd:o.data=.dict es ep) (hs:Heap.SameBut d h h'):IsBoardKey prog w h' ks a:=by
 obtain ⟨o',items,n,ho',hc,hd',hi⟩:=x
 have hne:a≠d:=by
  rintro rfl
  obtain rfl:o'=o:=Option.some.inj (ho'.symm.trans ho)
  rw [hd] at hd';exact nomatch hd'
 exact ⟨o',items,n,(hs.2 a hne).trans ho',hc,hd',hi.keeps ho hd hs⟩
def IT (ks:List (List Int)):Nat:=(ks.map fun r=>r.length+1).sum
def Ny (prog:Program) (w:World) (ks:List (List Int)):Int:=reduceHash (Builtin.Tuple.tupleHashOf (ks.map (tupleKeyHash (iK prog w))))
theorem Za0 {ks:List (List Int)} {a:Addr} {Q:Int→Shared→Prop} (hu:A.units+1<cLine) (hk:IsBoardKey prog w s.heap ks a) (h:Q (Ny prog w ks) {s with toks:=s.toks+(IT ks+1)}):
 wpAny (model prog w) A (pyHash (.ref a)) Q E s:=by
 have hT:=hk.typeIs
 obtain ⟨o,items,n,ho,_,hd,hi⟩:=hk
 unfold pyHash
 first |unfold pyHashByItsType |skip
 first |refine wpAny_bind (wpAny_cRoomFor_or (.inr (by omega)) ?_) |skip
 refine wpAny_bind (wpAny_specialOf hT F.slot_tuple_hash.lookup ?_)
 show wpAny _ _ (if (some (Value.builtin "tuple.__hash__")==some Value.none)=true then _ else _) Q E s
 rw [if_neg (by rw [beq_builtin_none];exact BN)]
 refine wpAny_bind (wpAny_specialOf hT F.slot_tuple_hash.lookup ?_)
 show wpAny _ _ (callSpecialIfBoundUnlessNone? (.ref a) "__hash__" _ >>=_) Q E s
 refine wpAny_bind (wpAny_callSpecialIfBoundUnlessNone?_slot hT F.slot_tuple_hash (wpAny_call_entry F.slot_tuple_hash hT F.entry_tuple_hash ?_ (F.args_tuple_hash_1 _)))
 show wpAny _ _ (Builtin.Tuple.tupleItemsOf (.ref a) >>=_) _ _ s
 refine wpAny_bind (wpAny_tupleItemsOf ho hd ?_)
 refine wpAny_bind ?_
 rw [←Array.forIn_toList]
 refine wpAny_forIn_list _
  (fun rest (b:Array Int) s'=>∃done left,ks=done++left∧RowsAre prog w s.heap left rest∧b.toList=done.map (tupleKeyHash (iK prog w))∧s'={s with toks:=s.toks+IT done})
  _ ?_ ?_ _ _ ⟨[],ks,rfl,hi,rfl,rfl⟩
 ·rintro x rest b s' ⟨done,left,rfl,hl,hb,rfl⟩
  cases hl with
  |@cons k _ ks' _ h1 hl'=>
   obtain ⟨rb,rfl,hrow⟩:=h1
   refine wpAny_bind (wpAny_pyHash_tuple (by show _<cLine;first |exact hu |omega) hrow ?_)
   first
    |exact wpAny_pure ⟨done++[k],ks',by simp,hl',by simp [hb],by simp [IT,Ia]⟩
    |exact wpAny_bind (wpAny_pure (wpAny_pure ⟨done++[k],ks',by simp,hl',by simp [hb],by simp [IT,Ia]⟩))
 ·rintro b s' ⟨done,left,rfl,hl,hb,rfl⟩
  cases hl
  rw [EW] at h
  show wpAny _ _ (retInt (Builtin.Tuple.tupleHashOf b.toList)) _ _ _
  rw [hb]
  refine wpAny_ret_mkInt ?_
  show wpAny _ _ (if (decide (-(2:Int)^63≤Builtin.Tuple.tupleHashOf (done.map (tupleKeyHash (iK prog w))))&&decide (Builtin.Tuple.tupleHashOf (done.map (tupleKeyHash (iK prog w)))<2^63))=true then _ else _) Q E _
  unfold Ny reduceHash at h
  by_cases hr:(decide (-(2:Int)^63≤Builtin.Tuple.tupleHashOf (done.map (tupleKeyHash (iK prog w))))&&decide (Builtin.Tuple.tupleHashOf (done.map (tupleKeyHash (iK prog w)))<2^63))=true
  ·rw [if_pos hr]
   rw [if_pos hr] at h
   exact wpAny_pure (by simpa [Ia] using h)
  ·rw [if_neg hr]
   rw [if_neg hr] at h
   exact wpAny_bind (wpAny_rule (wpAny_pure (by simpa [Ia] using h)))
theorem Za1 {x y:List (List Int)} {a b:Addr} {P:Fin→Shared→Prop} (hu:A.units<cLine) (hx:IsBoardKey prog w s.heap x a) (hy:IsBoardKey prog w s.heap y b) (h:P (.done (.ret (.bool (decide (x=y))))) s):
 wpAny (model prog w) A (Builtin.«tuple.__eq__» ⟨[.ref a,.ref b],[]⟩) P E s:=by
 have hTb:=hy.typeIs
 obtain ⟨oa,xs,na,hoa,_,hda,hia⟩:=hx
 obtain ⟨ob,ys,nb,hob,_,hdb,hib⟩:=hy
 show wpAny _ _ (isInstance (.ref b) (.type "tuple") >>=_) _ _ s
 refine wpAny_bind (wpAny_isInstance hTb isSubtype_tuple_tuple ?_)
 simp only [FQ,Bl,if_false]
 refine wpAny_bind (wpAny_tupleItemsOf hoa hda ?_)
 refine wpAny_bind (wpAny_tupleItemsOf hob hdb ?_)
 refine wpAny_bind ?_
 refine wpAny_forIn_list _
  (fun rest r s'=>r.1=none∧s'=s∧∃x' y' xs' ys',rest=List.zip xs' ys'∧RowsAre prog w s.heap x' xs'∧RowsAre prog w s.heap y' ys'∧decide (x'=y')=decide (x=y)∧(xs'.length==ys'.length)=(xs.size==ys.size))
  _ ?_ ?_ _ _ ⟨rfl,rfl,x,y,xs.toList,ys.toList,rfl,hia,hib,rfl,by simp⟩
 ·rintro ⟨u,v⟩ rest r s' ⟨hr,rfl,x',y',xs',ys',hz,hx',hy',hdec,hlen⟩
  cases hx' with
  |nil=>simp at hz
  |@cons k1 u' x'' xs'' h1 hx''=>
   cases hy' with
   |nil=>simp at hz
   |@cons k2 v' y'' ys'' h2 hy''=>
    simp only [HX,List.cons.injEq,Prod.mk.injEq] at hz
    obtain ⟨⟨rfl,rfl⟩,rfl⟩:=hz
    obtain ⟨b1,rfl,r1⟩:=h1
    obtain ⟨b2,rfl,r2⟩:=h2
    refine wpAny_bind (wpAny_eqBool_tuple (x:=k1) (y:=k2) (by show _<cLine;first |exact hu |omega) r1 r2 ?_)
    by_cases hk:k1=k2
    ·subst hk
     rw [decide_eq_true rfl]
     simp only [FQ,Bl,if_false]
     refine wpAny_pure ⟨rfl,rfl,x'',y'',xs'',ys'',rfl,hx'',hy'',?_,by simpa using hlen⟩
     rw [←hdec]
     by_cases hxy:x''=y''
     ·simp [hxy]
     ·simp [hxy]
    ·rw [decide_eq_false hk]
     simp only [Bool.not_false,if_true]
     have hf:decide (x=y)=false:=by rw [←hdec];simp [hk]
     rw [hf] at h
     exact wpAny_bind (wpAny_pure (wpAny_pure (wpAny_pure h)))
 ·rintro ⟨r1,r2⟩ s' ⟨hr,rfl,x',y',xs',ys',hz,hx',hy',hdec,hlen⟩
  simp only at hr
  subst hr
  refine wpAny_pure ?_
  have hfin:(xs.size==ys.size)=decide (x=y):=by
   rw [←hdec,←hlen]
   cases hx' with
   |nil=>
    cases hy' with
    |nil=>simp
    |cons _ _=>simp
   |cons _ _=>
    cases hy' with
    |nil=>simp
    |cons _ _=>simp at hz
  show P (.done (.ret (.bool (xs.size==ys.size)))) s'
  rw [hfin];exact h
theorem Za2 {x y:List (List Int)} {a b:Addr} {Q:Bool→Shared→Prop} (hu:A.units+1<cLine) (hx:IsBoardKey prog w s.heap x a) (hy:IsBoardKey prog w s.heap y b) (h:Q (decide (x=y)) s):
 wpAny (model prog w) A (eqBool (.ref a) (.ref b)) Q E s:=by
 unfold eqBool
 try with_reducible refine wpAny_holding ?_
 show wpAny _ _ (if (Value.ref a==Value.ref b)=true then _ else _) Q E s
 by_cases hab:(Value.ref a==Value.ref b)=true
 ·rw [if_pos hab]
  have e:a=b:=by have:=eq_of_beq hab;injection this
  subst e
  obtain rfl:=hx.inj hy
  exact wpAny_bind (wpAny_rule (wpAny_pure (by simpa using h)))
 ·rw [if_neg hab]
  exact wpAny_bind (wpAny_richCompare_same_room (op:=.Eq) hx.typeIs hy.typeIs F.slot_tuple_eq
   (wpAny_call_entry F.slot_tuple_eq hx.typeIs F.entry_tuple_eq (Za1 (by show A.in1.units<cLine;exact hu) hx hy ⟨_,rfl,(fun e=>nomatch e),wpAny_truthy_bool h⟩) (F.args_tuple_eq_2 _ _)) (by omega))
theorem Za3 {ks:List Int} {a:Addr} {Q:Bool→Shared→Prop} (hk:IsTupleKey (iK prog w) s.heap ks a) (h:Q true s):wpAny (model prog w) A (eqIsQuiet 7 (.ref a)) Q E s:=by
 have hT:=hk.typeIs
 obtain ⟨o,items,n,ho,_,hd,hi⟩:=hk
 unfold eqIsQuiet
 refine wpAny_bind (wpAny_specialOf hT F.slot_tuple_eq.lookup ?_)
 show wpAny _ _ (isInstance (.ref a) (.type "tuple") >>=_) _ _ s
 refine wpAny_bind (wpAny_isInstance hT isSubtype_tuple_tuple ?_)
 simp only [FQ,Bl,if_false]
 refine wpAny_bind (wpAny_seqItems ho hd ?_)
 refine wpAny_bind ?_
 show wpAny _ _ (forIn items _ _) _ _ s
 rw [←Array.forIn_toList]
 refine wpAny_forIn_list _ (fun rest r s'=>r.1=none∧s'=s∧∀v∈rest,carriedByValue v=true) _ ?_ ?_ _ _ ⟨rfl,rfl,hi.byValue⟩
 ·rintro v rest r s' ⟨hr,rfl,hall⟩
  rw [eqIsQuiet_byValue _ (hall v Bf)]
  refine wpAny_bind (wpAny_pure ?_)
  simp only [FQ,Bl,if_false]
  exact wpAny_pure ⟨rfl,rfl,fun u hu'=>hall u (Be _ hu')⟩
 ·rintro ⟨r1,r2⟩ s' ⟨hr,rfl,_⟩
  simp only at hr
  subst hr
  exact wpAny_pure h
theorem Za4 {ks:List (List Int)} {a:Addr} {Q:Bool→Shared→Prop} (hk:IsBoardKey prog w s.heap ks a) (h:Q true s):wpAny (model prog w) A (eqIsQuiet 8 (.ref a)) Q E s:=by
 have hT:=hk.typeIs
 obtain ⟨o,items,n,ho,_,hd,hi⟩:=hk
 unfold eqIsQuiet
 refine wpAny_bind (wpAny_specialOf hT F.slot_tuple_eq.lookup ?_)
 show wpAny _ _ (isInstance (.ref a) (.type "tuple") >>=_) _ _ s
 refine wpAny_bind (wpAny_isInstance hT isSubtype_tuple_tuple ?_)
 simp only [FQ,Bl,if_false]
 refine wpAny_bind (wpAny_seqItems ho hd ?_)
 refine wpAny_bind ?_
 show wpAny _ _ (forIn items _ _) _ _ s
 rw [←Array.forIn_toList]
 refine wpAny_forIn_list _ (fun rest r s'=>r.1=none∧s'=s∧∃ks',RowsAre prog w s.heap ks' rest) _ ?_ ?_ _ _ ⟨rfl,rfl,_,hi⟩
 ·rintro v rest r s' ⟨hr,rfl,hall⟩
  obtain ⟨ks',hall⟩:=hall
  cases hall with
  |cons h1 t1=>
  obtain ⟨rb,rfl,hrow⟩:=h1
  refine wpAny_bind (Za3 hrow ?_)
  simp only [FQ,Bl,if_false]
  exact wpAny_pure ⟨rfl,rfl,_,t1⟩
 ·rintro ⟨r1,r2⟩ s' ⟨hr,rfl,_⟩
  simp only at hr
  subst hr
  exact wpAny_pure h
end
def Zhz (prog:Program) (w:World):HeapKind prog w (List (List Int)) where
 is:=IsBoardKey prog w
 hash:=Ny prog w
 draws:=fun ks=>IT ks+1
 room:=fun A=>A.units+1<cLine
 inj:=fun hx hy=>hx.inj hy
 keeps:=fun x ho hd hs=>x.keeps ho hd hs
 pyHash:=fun hu hk h=>Za0 hu hk h
 eqBool:=fun hu hx hy h=>Za2 hu hx hy h
 quiet:=fun hk h=>Za4 hk h
section
variable {prog:Program} {w:World} {A:Around} {E:Value→Shared→Prop} {s:Shared}
end
end Db
end LS
namespace LS
open PySem PySem.Spec PyProof.Rows L2 PySem.W PySem.Calls
def isB:AW→Bool
 |.b _=>true
 |_=>false
def RJ (kvs:List (AW×D)):Bool:=kvs.all fun p=>isB p.1
def BR (K:Frag) (m:List Addr) (H:Hp) (p:AW×D) (q:List (List Int)×Addr×Value):Prop:=p.1=.b q.1∧DV K m H (kD p.1) (.ref q.2.1)∧∃v,DV K m H p.2 v∧RelV v q.2.2
section
variable {P:Program} {w:World} {K:Frag} {m:List Addr} {H:Hp} {h:Heap} {a:Addr}
end
def Nz:List D→Option (List Int)
 |[]=>some []
 |.int n::ds=>(Nz ds).map (n::·)
 |_=>none
def RK:List D→Option (List (List Int))
 |[]=>some []
 |.tup ds::r=>(match Nz ds,RK r with
  |some a,some b=>some (a::b)
  |_,_=>none)
 |_=>none
def Za5:D→Option (List (List Int))
 |.tup ds=>RK ds
 |_=>none
def RL (o i v:D) (h:HD) (g:HD→Out (Fl×Af)):Out (Fl×Af):=match o,Za5 i with
 |.loc l,some rs=>(match h[l]? with
  |some (.dic false kvs)=>if RJ kvs∧kvs.length<sizeLine then g (h.set l (.dic false (Gr kvs (.b rs) v))) else .stuck
  |_=>.stuck)
 |_,_=>.stuck
def RM (fo fi fv:ME):MS:=fun ρ h=>(fv ρ h).bind fun v h1=>(fo ρ h1).bind fun o h2=>(fi ρ h2).bind fun i h3=>RL o i v h3 fun h4=>.ok (.nx,ρ) h4
def ZhA (K:Frag):V→V→V→Hp→(Hp→Prop)→Prop:=fun o i v H Q=>∃(m:List Addr) (a:Addr) (rs:List (List Int)) (kvs:List (AW×D)) (es:List (AW×V×V)) (d:D),o=.ref a∧DV K m H (kD (.b rs)) i∧H a=some (.dct (Dr a es))∧EntD K m H kvs es∧RJ kvs=true∧kvs.length<sizeLine∧DV K m H d v∧
 ∀es',EntD K m H (Gr kvs (.b rs) d) es'→Q (Aj H a (.dct (Dr a es')))
section
variable {X:Cx} {E:XK} {pins:List (Addr×Obj)} {σ:L2.St} {H:Hp} {s:Shared}
def ZhB:D→HD→Out D:=fun x h=>match x with
 |.loc l=>(match h[l]? with
  |some (.dic _ kvs)=>.ok (.int kvs.length) h
  |_=>.stuck)
 |_=>.stuck
def ZhC (a:Addr) (ob:Obj) (es:List (AW×V×V)):It:=⟨fun i H=>H a=some (.frz ob (.dct (Dr a es)))∧i<es.length,fun i H x H'=>H'=H∧∃k vv,es[i]?=some (k,x,vv),fun i H=>H a=some (.frz ob (.dct (Dr a es)))∧i=es.length⟩
def RN (d:D) (h:HD):Out (List D×AY):=match d with
 |.loc l=>(match h[l]? with
  |some (.dic _ kvs)=>.ok (kvs.map fun p=>kD p.1,[]) (h.set l (.dic true kvs))
  |_=>.stuck)
 |_=>.stuck
def RO (f:ME):MI:=fun ρ h=>(f ρ h).bind RN
end
section
variable {f fo fi fv:ME} {ρ:Af} {h:HD} {QS:Fl×Af→HD→Prop} {QI:List D×AY→HD→Prop}
@[simp] theorem ZhD:Wp (RM fo fi fv ρ h) QS=Wp (fv ρ h) fun v h1=>Wp (fo ρ h1) fun o h2=>Wp (fi ρ h2) fun i h3=>Wp (RL o i v h3 fun h4=>.ok (.nx,ρ) h4) QS:=by unfold RM;simp only [Ao]
@[simp] theorem ZhE:Wp (RO f ρ h) QI=Wp (f ρ h) fun d h1=>Wp (RN d h1) QI:=by unfold RO;rw [Ao]
end
namespace Dt
open PySem
section
variable {prog:Program} {w:World} {A:Around} {E:Value→Shared→Prop} {s:Shared}
abbrev iK (prog:Program) (w:World):KeyKind prog w Int:=intKind prog w
abbrev tK (prog:Program) (w:World):HeapKind prog w (List Int):=tupleKind (iK prog w)
abbrev KJ:=List Int×Addr×Value
def ZhF (P:Program) (w:World) (h:Heap) (u:Value) (e:KJ):Prop:=∃p o m,u=.ref p∧h.get? p=some o∧o.cls=.type "tuple"∧o.data=.seq #[.ref e.2.1,e.2.2] m∧IsTupleKey (iK P w) h e.1 e.2.1
def ZhG (xs:List KJ) (e:KJ):List KJ:=storedH xs e.1 e.2.1 e.2.2
end
end Dt
end LS
namespace LS
open PySem PySem.Spec PyProof.Rows L2 PySem.W PySem.Calls
namespace Mn
open PySem
def ZhH (prog:Program) (w:World) (A:Around) (h0:Heap) (P:Nat→Value→Prop) (bt:Nat→Nat→Bool):Prop:=
 ∀i j vi vj (s:Shared) (Q:Value→Shared→Prop) (E:Value→Shared→Prop),(∀b o,h0.get? b=some o→s.heap.get? b=some o)→P i vi→P j vj→Q (.bool (bt i j)) s→wpAny (model prog w) A (richCompare .Lt vi vj) Q E s
section
variable {prog:Program} {w:World} {A:Around} {R:Result→Shared→Prop} {I:Addr} {fp wr:List Addr} {n:Nat} {P:Nat→Value→Prop} {St:Nat→Heap→Prop}
end
section
variable {prog:Program} {w:World} {A:Around} {E:Value→Shared→Prop} {s:Shared}
end
end Mn
end LS
namespace LS
open PySem PySem.Spec PyProof.Rows L2 PySem.W PySem.Calls
def isT:AW→Bool
 |.t _=>true
 |_=>false
def IU (kvs:List (AW×D)):Bool:=kvs.all fun p=>isT p.1
def TR (K:Frag) (m:List Addr) (H:Hp) (p:AW×D) (q:List Int×Addr×Value):Prop:=p.1=.t q.1∧DV K m H (kD p.1) (.ref q.2.1)∧∃v,DV K m H p.2 v∧RelV v q.2.2
section
variable {P:Program} {w:World} {K:Frag} {m:List Addr} {H:Hp} {h:Heap} {a:Addr}
end
def Hw:D→Option (List Int)
 |.tup ds=>Nz ds
 |_=>none
def Za6:D→Option (AW×D)
 |.tup [k,v]=>(Hw k).map fun ns=>(.t ns,v)
 |_=>none
def ZhI:D→HD→Out D:=fun x h=>match x with
 |.loc l=>(match h[l]? with
  |some (.lst ds)=>(match AN (ds.map Za6) with
   |some ps=>Nx (ps.foldl (fun acc p=>Gr acc p.1 p.2) []) h
   |none=>.stuck)
  |_=>.stuck)
 |_=>.stuck
section
variable {P:Program} {w:World} {K:Frag} {m:List Addr} {H:Hp} {h:Heap} {a:Addr}
end
section
variable {X:Cx} {E:XK}
def ZhJ (neg:Bool):D→D→HD→Out D:=fun x y h=>match Hw x,y with
 |some ns,.loc l=>(match h[l]? with
  |some (.dic _ kvs)=>if IU kvs then .ok (.bl (Bool.xor neg (kvs.any fun p=>decide (p.1=.t ns)))) h else .stuck
  |_=>.stuck)
 |_,_=>.stuck
end
def Za7 (nss:List (List Int)) (i j:Nat):Bool:=HT.lexLt (nss.getD i []) (nss.getD j [])
def ZhK:D→HD→Out D:=fun x h=>match x with
 |.loc l=>(match h[l]? with
  |some (.lst ds)=>(match AN (ds.map Hw) with
   |some nss=>if nss=[] then .stuck else .ok (ds.getD (argBest (Za7 nss) (nss.length - 1)) .non) h
   |none=>.stuck)
  |_=>.stuck)
 |_=>.stuck
section
variable {X:Cx} {E:XK}
end
def RP (o i v:D) (h:HD) (g:HD→Out (Fl×Af)):Out (Fl×Af):=match o,Hw i with
 |.loc l,some rs=>(match h[l]? with
  |some (.dic false kvs)=>if IU kvs∧kvs.length<sizeLine then g (h.set l (.dic false (Gr kvs (.t rs) v))) else .stuck
  |_=>.stuck)
 |_,_=>.stuck
def RQ (fo fi fv:ME):MS:=fun ρ h=>(fv ρ h).bind fun v h1=>(fo ρ h1).bind fun o h2=>(fi ρ h2).bind fun i h3=>RP o i v h3 fun h4=>.ok (.nx,ρ) h4
def ZhL (K:Frag):V→V→V→Hp→(Hp→Prop)→Prop:=fun o i v H Q=>∃(m:List Addr) (a:Addr) (rs:List Int) (kvs:List (AW×D)) (es:List (AW×V×V)) (d:D),o=.ref a∧DV K m H (kD (.t rs)) i∧H a=some (.dct (Dr a es))∧EntD K m H kvs es∧IU kvs=true∧kvs.length<sizeLine∧DV K m H d v∧
 ∀es',EntD K m H (Gr kvs (.t rs) d) es'→Q (Aj H a (.dct (Dr a es')))
section
variable {X:Cx} {E:XK} {pins:List (Addr×Obj)} {σ:L2.St} {H:Hp} {s:Shared}
end
section
variable {K:Frag} {m:List Addr} {H:Hp}
end
def Za8 (neg:Bool):D→D→HD→Out D:=fun x y h=>match y with
 |.loc l=>(match h[l]? with
  |some (.dic _ kvs)=>(match x with
   |.int n=>if Hv kvs then .ok (.bl (Bool.xor neg (IS kvs (.i n)).isSome)) h else .stuck
   |_=>(match Hw x with
    |some ns=>if IU kvs then .ok (.bl (Bool.xor neg (IS kvs (.t ns)).isSome)) h else .stuck
    |none=>.stuck))
  |_=>.stuck)
 |_=>.stuck
section
variable {X:Cx} {E:XK}
def ZhM (X:Cx) (neg:Bool):R2:=fun v u H Q=>∃m h x y,HR X.K m h H∧DV X.K m H x v∧DV X.K m H y u∧Post X.K (rD X.K) m H E0 Q (Za8 neg x y h)
def Za9:D→D→HD→Out D:=fun x y h=>match x with
 |.loc l=>(match h[l]? with
  |some (.dic _ kvs)=>(match y with
   |.int n=>if Hv kvs then (match IS kvs (.i n) with
    |some d=>.ok d h
    |none=>.stuck) else .stuck
   |_=>(match Hw y with
    |some ns=>if IU kvs then (match IS kvs (.t ns) with
     |some d=>.ok d h
     |none=>.stuck) else .stuck
    |none=>.stuck))
  |_=>.stuck)
 |_=>.stuck
def ZhN (X:Cx):R2:=fun v u H Q=>∃m h x y,HR X.K m h H∧DV X.K m H x v∧DV X.K m H y u∧Post X.K (rD X.K) m H E0 Q (Za9 x y h)
def IV:D→HD→Out D:=fun x h=>match x with
 |.loc l=>(match h[l]? with
  |some (.lst ds)=>(match ds[ds.length - 1]? with
   |some d=>.ok d (h.set l (.lst ds.dropLast))
   |none=>.stuck)
  |_=>.stuck)
 |_=>.stuck
def IW (f:ME):ME:=fun ρ h=>((f ρ h).bind B0).bind IV
theorem DVs.dropLast {K:Frag} {m:List Addr} {H:Hp} {ds:List D} {vs:List V} (r:DVs K m H ds vs):DVs K m H ds.dropLast vs.dropLast:=by
 rw [List.dropLast_eq_take,List.dropLast_eq_take,r.len]
 exact r.take _
theorem Zba {o:Expr} {f:ME} {apos cpos:Pos} (ho:Ev X E o f)
 (hbase:attributeBase o "pop" X.env (eval o X.env)=eval o X.env:=by rfl) (hline:(apos.endLine==cpos.line)=true:=by rfl):
 Ev X E (.Call (.Attribute o "pop" apos) [] [] cpos) (IW f):=
 BH (Pl PySem.F.plainAttrs_list PySem.F.slot_list_pop PySem.F.type_list_pop Xl ho hbase hline) fun σ H Q z1_=>by
  obtain ⟨m,ρ,h,hr,er,p⟩:=z1_
  refine ⟨m,ρ,h,hr,er,?_⟩
  unfold IW at p
  rw [Out.bind_assoc] at p
  refine Post.bind p fun x h1 v m1 H1 eo p1 k1 hr1 r1 q1=>?_
  clear eo
  unfold B0 at q1
  split at q1
  ·rename_i l
   split at q1
   ·rename_i ds el
    simp only [Out.bind_ok] at q1
    simp only [rD,DV] at r1
    obtain ⟨a,rfl,ha⟩:=r1
    obtain ⟨ws,hv,dv⟩:=hr1.cells l _ a el ha
    refine ⟨.inl ⟨rfl,ws,SqL.of hv⟩,?_⟩
    unfold IV at q1
    simp only [el] at q1
    split at q1
    ·rename_i d ed
     obtain ⟨w,hw,dw⟩:=dv.get ed
     refine ⟨a,ws,w,rfl,rfl,hv,by rw [←dv.len];exact hw,?_⟩
     refine q1 w m1 _ (Ax _) (.set hv rfl) (hr1.setCell ha hv rfl ⟨_,Cy,?_⟩) (DV.keep (Ax _) (.set hv rfl) dw)
     exact (DVs.dropLast dv).keep (Ax _) (.set hv rfl)
    ·exact q1.elim
   ·exact q1.elim
  ·exact q1.elim
end
section
variable {f fo fi fv:ME} {ρ:Af} {h:HD} {QS:Fl×Af→HD→Prop} {Q:D→HD→Prop} {l:Nat} {ds:List D}
@[simp] theorem ZhO:Wp (RQ fo fi fv ρ h) QS=Wp (fv ρ h) fun v h1=>Wp (fo ρ h1) fun o h2=>Wp (fi ρ h2) fun i h3=>Wp (RP o i v h3 fun h4=>.ok (.nx,ρ) h4) QS:=by unfold RQ;simp only [Ao]
@[simp] theorem ZhP:Wp (IW f ρ h) Q=Wp (f ρ h) fun x h1=>Wp (B0 x h1) fun x h1=>Wp (IV x h1) Q:=by unfold IW;simp only [Ao]
end
end LS
namespace LS
open PySem PySem.Spec PyProof.Rows L2
def ZhQ (i j k l:Nat):MG:=fun d ρ=>match d with
 |.tup [.tup [x,y,z],t]=>some ((((ρ.set i (some x)).set j (some y)).set k (some z)).set l (some t))
 |_=>none
abbrev ZhR (K:PySem.W.Frag) (i j k l:Nat):TG:=Fu K 2 (CT (Fu K 3 (CT (Ce i) (CT (Ce j) (CT (Ce k) Ft)))) (CT (Ce l) Ft))
abbrev RR (h:Heap) (z TI TO:Addr) (f0 f1:Value):Prop:=h.get? z=some {cls:=.type "zip",dict:=none,data:=.fields #[f0,f1,.bool false,.ref TI,.ref TO],slots:=#[]}
inductive ZipN (h:Heap) (z TI TO:Addr):Prop where
 |none (b:Bool) (e:RR h z TI TO .none (.bool b)):ZipN h z TI TO
 |held (a:Int) (t:Tok) (b:Bool) (e:RR h z TI TO (.int a t) (.bool b)):ZipN h z TI TO
section
variable {prog:Program} {w:World} {A:Around} {E:Value→Shared→Prop} {s:Shared} {z TI TO p q:Addr} {f g:List Addr} {n1 n2 k:Nat} {P1 P2:Nat→Value→Prop} {S1 S2:Nat→Heap→Prop} {a b:Value}
theorem ZipN.at {h h':Heap} (x:ZipN h z TI TO) (f:∀o,h.get? z=some o→h'.get? z=some o):ZipN h' z TI TO:=by
 cases x with
 |none b e=>exact .none b (f _ e)
 |held a t b e=>exact .held a t b (f _ e)
theorem ZipN.get {h:Heap} (x:ZipN h z TI TO):∃o,h.get? z=some o:=by
 cases x with
 |none b e=>exact ⟨_,e⟩
 |held a t b e=>exact ⟨_,e⟩
end
inductive Zbb (k1 k2:Bool) (z TI TO p q t u:Addr) (i:Nat) (h:Heap):Prop where
 |mk (zz:ZipN h z TI TO) (zi:IsPair h TI (.ref p) (.ref q)) (zo:∃a b,IsPair h TO a b) (x1:ItAt k1 h p t i) (x2:ItAt k2 h q u i):Zbb k1 k2 z TI TO p q t u i h
section
variable {X:Cx} {E:XK}
end
section
variable {X:Cx} {E:XK}
inductive Zbc (vs:List V) (H:Hp) (Q:VK):Prop where
 |mk (r:Addr) (n:Nat) (e:vs=[.ref r]) (hr:H r=some (.ext (Ng r n))) (hn:n≤1000) (q:∀p,H p=none→Q (.ref p) (Aj H p (.lst ((List.range n).map fun i=>V.int ((i:Nat):Int))))):Zbc vs H Q
noncomputable def Zbd:D→HD→Out D:=fun d h=>match d with
 |.int i=>@ite _ (0≤i∧i≤1000) (Classical.propDecidable _) (Bu ((List.range i.toNat).map fun k=>D.int ((k:Nat):Int)) h) .stuck
 |_=>.stuck
noncomputable def ZhS (f:ME):ME:=fun ρ h=>(f ρ h).bind Zbd
end
end LS
namespace LS
open PySem PySem.Spec PyProof.Rows L2 PySem.W PySem.Calls
variable {g:Str}
def RS:Expr→List Str
 |.Name x _=>[x]
 |_=>[]
def tn2:Expr→List Str
 |.Tuple es _ _=>es.flatMap RS
 |_=>[]
def tnB:Expr→List Str
 |.Name x _=>[x]
 |.Tuple es _ _=>es.flatMap RS++es.flatMap tn2
 |_=>[]
def ncO (cs:List (Option Nat)) (N:List Str):List Str:=cs.filterMap fun o=>o.map fun j=>N.getD j ""
abbrev KL (tg:Expr) (cs:List (Option Nat)) (N:List Str):List Str:=tnB tg++ncO cs N
theorem Zbe {X:Cx} {E:XK} {i:Nat} {x:Str} {pos:Pos} (hN:X.N[i]?=some x:=by rfl) (hv:JD X.env.scope x:=by first |exact Or.inl rfl |exact Or.inr (Or.inl rfl) |exact Or.inr (Or.inr rfl)) (hd:(x==("__debug__":Str))=false:=by decide) (hcd:(x==("__classdict__":Str))=false:=by decide):Ev X E (.Name x pos) (Ab i):=Mo (LR hN hv hd hcd)
section
variable {X:Cx} {E:XK} {scope:Scope} {cs:List (Option Nat)} {tg iter elt:Expr} {it:MI} {gg:TG} {sg:MG} {ifs:List Expr} {t:MT} {f:ME} {pos:Pos}
theorem Zbf (hcalm:X.calm=true) (S:CSc X scope (KL tg cs X.N) cs) (hi:G8 X E tg iter it) (hg:J9 X.K cs gg sg)
 (hb:∀(C D:Addr) (cells:List (Str×Addr)) (fp:List Addr) (s₀:Shared) (H₀:Hp) (pins:List (Addr×Obj)),PG (Ci X (KL tg cs X.N) scope C D cells fp s₀ H₀ pins) tg gg∧Ka (Ci X (KL tg cs X.N) scope C D cells fp s₀ H₀ pins) E0 ifs t∧Ev (Ci X (KL tg cs X.N) scope C D cells fp s₀ H₀ pins) E0 elt f)
 (hsf:∀x,foldedSetIterable iter X.env x=pure x:=by intro _;rfl):Ev X E (.ListComp elt [⟨tg,iter,ifs,0⟩] scope pos) (Ba cs it sg t f):=YH hcalm S.ok hi hg hb hsf
theorem Zbg {j:Nat} {X:Cx} {E:XK} {c P:Addr} {cs:List Nat} {params:Arguments} {body:Expr} {scope:Scope} {k kk:Nat} {Fk:List D→HD→Out D} {f:ME} {fs:Addr} {fd:FuncData} {st:Stmt} {lpos p pos:Pos}
 (L:LamX g X c P) (fna:∀x,X.fn x=true) (hr:Room kk X.A) (lv:Lv X E) (et:etOk X.K=true) (Sd:SaidD X.K X.mg st fs fd) (St:Na st) (hkind:CaM X.prog X.w X.K X.mg X.base "_law_kind" k Fk) (S:LSc X scope (cs.map fun j=>X.N.getD j "") cs)
 (hb:∀(a:Addr) (cd:Value) (cl:List (Str×Addr)) (A:Around) (outer:List Env) (s:Shared) (H:Hp) (E':XK),Room k (A.deeper (envX (Bi g) scope s.heap.objs.size a cd cl))→Ev (Ez g X.prog X.w X.K X.mg X.base (cs.map fun j=>X.N.getD j "") scope a cd cl A outer s H E') E' body f)
 (hg:Gl X "_law_said") (hkk:k+2≤kk:=by decide) (hdef:defaultsOf params X.env=([],[]):=by rfl)
 (hbind:∀(cl:List (Str×Addr)) (pm cv ctv:Value),bindArgs (kla_fn "<lambda>" (Bi g) params body scope cl pm cv ctv) ⟨[],[]⟩=pure []:=by exact fun _ _ _ _=>rfl)
 (he:starEach [.Lambda params body scope lpos] X.env=(false,eval (.Lambda params body scope lpos) X.env)::starEach [] X.env:=by rfl) (hpl:(backTo pos (starEach [] X.env)).any (·.1)=false:=by rfl):
 Ev X E (.Call (.Name "_law_said" p) [.Lambda params body scope lpos] [] pos) (Gh j g cs Fk f):=Zak L fna hr lv et Sd St hkind S hb hg hkk hdef hbind he hpl
end
noncomputable def AU (n m:Nat) (g:MS):List D→HD→Out D:=fun ds h=>if ds.length=n then Ay m g ds h else .stuck
section
variable {P:Program} {w:World} {K:PySem.W.Frag} {mg:Str→Option Value} {base h:Heap} {x:Str} {st:Stmt} {N ps:List Str} {k:Nat} {g:MS}
theorem NA (S:Tp.SeenF K x st) (X:K.In h) (G:h.Ns mainGlobals mg) (bd:∀(kV doc pm:Value) (an:Option Addr) (cdv ct:Value) (us:List Value),us.length=ps.length→bindArgs (PySem.W.fnOf x x (defArgs st) (defBody st) (defScope st) .none kV doc pm an cdv ct) ⟨us,[]⟩=pure (ps.zip us)):∃f fd,Dn K mg x ps st f fd:=by
 obtain ⟨_,_,_,_,_,_,_,_,_,_,a,l,c,k⟩:=S
 exact ⟨_,_,JT l c k,(JT l c k).binds bd,PySem.W.mg_of X G a⟩
theorem Bv (S:Tp.SeenF K x st) (X:K.In h) (G:h.Ns mainGlobals mg)
 (b:N.Nodup→∀(f:Addr) (cdv:Value) (A:Around) (outer:List Env) (s:Shared) (H:Hp) (E:XK),Room k (A.deeper (envOfC x (defScope st) s.heap.objs.size f cdv))→Cz (BO (AO P w K) P w K mg base N x (defScope st) f cdv A outer s H E) E (defBody st) g)
 (bd:∀(kV doc pm:Value) (an:Option Addr) (cdv ct:Value) (us:List Value),us.length=ps.length→bindArgs (PySem.W.fnOf x x (defArgs st) (defBody st) (defScope st) .none kV doc pm an cdv ct) ⟨us,[]⟩=pure (ps.zip us):=by
  intro _ _ _ _ _ _ us hl;rcases us with _ |⟨_,_ |⟨_,_ |⟨_,_ |⟨_,_⟩⟩⟩⟩<;>first |rfl |exact absurd hl (by simp)) (sc:Dq N ps (defScope st):=by exact ⟨rfl,rfl,rfl,by decide +kernel,rfl,by decide +kernel,by decide +kernel⟩):CaE P w K mg base x (k+1) (AU ps.length N.length g):=by
 obtain ⟨f,fd,D⟩:=NA S X G bd
 exact ⟨f,fd,_,M0 D.fn sc (fun ds h e=>if_neg e) (fun ds h e=>if_pos e) (fun cdv A outer s H E hr=>b sc.nd f cdv A outer s H E hr),D.bd,D.mg,D.fn.kp⟩
theorem mkM (S:Tp.SeenF K x st) (X:K.In h) (G:h.Ns mainGlobals mg)
 (b:N.Nodup→∀(f:Addr) (cdv:Value) (A:Around) (outer:List Env) (s:Shared) (H:Hp),RoomM k (A.deeper (envOfC x (defScope st) s.heap.objs.size f cdv))→Cz (Hn P w K mg base N x (defScope st) f cdv A outer s H) E0 (defBody st) g)
 (bd:∀(kV doc pm:Value) (an:Option Addr) (cdv ct:Value) (us:List Value),us.length=ps.length→bindArgs (PySem.W.fnOf x x (defArgs st) (defBody st) (defScope st) .none kV doc pm an cdv ct) ⟨us,[]⟩=pure (ps.zip us):=by
  intro _ _ _ _ _ _ us hl;rcases us with _ |⟨_,_ |⟨_,_ |⟨_,_ |⟨_,_⟩⟩⟩⟩<;>first |rfl |exact absurd hl (by simp)) (sc:Dq N ps (defScope st):=by exact ⟨rfl,rfl,rfl,by decide +kernel,rfl,by decide +kernel,by decide +kernel⟩):CaM P w K mg base x (k+1) (AU ps.length N.length g):=by
 obtain ⟨f,fd,D⟩:=NA S X G bd
 exact ⟨f,fd,_,ZW D.fn sc (fun ds h e=>if_neg e) (fun ds h e=>if_pos e) (fun cdv A outer s H hr=>b sc.nd f cdv A outer s H hr),D.bd,D.mg,D.fn.kp,fun ds h e=>if_neg e⟩
theorem mkS (S:Tp.SeenF K "_law_said" st) (X:K.In h) (G:h.Ns mainGlobals mg)
 (bd:∀(kV doc pm:Value) (an:Option Addr) (cdv ct:Value) (us:List Value),us.length=(["_law_call"]:List Str).length→bindArgs (PySem.W.fnOf "_law_said" "_law_said" (defArgs st) (defBody st) (defScope st) .none kV doc pm an cdv ct) ⟨us,[]⟩=pure ((["_law_call"]:List Str).zip us):=by
  intro _ _ _ _ _ _ us hl;rcases us with _ |⟨_,_ |⟨_,_⟩⟩<;>first |rfl |exact absurd hl (by simp)):∃f fd,SaidD K mg st f fd:=by
 obtain ⟨f,fd,D⟩:=NA S X G bd
 exact ⟨f,fd,SaidD.of D⟩
theorem mkB {bs:List Str} (hb:∀(i:Nat) n,bs[i]?=some n→PySem.W.nsIn K mainGlobals n=some none) (X:K.In h) (G:h.Ns mainGlobals mg):∀x∈bs,mg x=none:=fun x hx=>by
 obtain ⟨i,hi,rfl⟩:=HW hx
 exact PySem.W.mg_none_of X G (hb i _ (BK hi))
end
end LS
namespace LS
open PySem PySem.Builtin PySem.Builtin.Str
abbrev tx (l:List Nat):Str:=⟨l.toArray⟩
theorem Bw (l:List Nat):(tx l).length=l.length:=by show l.toArray.size=_;simp
def Br (c:Nat):List Nat→Nat→List Nat
 |[],_=>[]
 |a::l,k=>if a=c then k::Br c l (k+1) else Br c l (k+1)
theorem Zbh (l:List Nat) (c i:Nat) (h:i<l.length):subAt (tx l) (tx [c]) i=decide (l[i]=c):=by
 unfold subAt
 have e:((tx l).cps.extract i (i+(tx [c]).length))=#[l[i]]:=by
  show (l.toArray).extract i (i+1)=_
  apply Array.ext
  ·simp;omega
  ·intro j h1 h2
   simp at h2
   subst h2
   simp
 rw [e]
 by_cases z:l[i]=c
 ·rw [decide_eq_true z];simp [z]
 ·rw [decide_eq_false z];simp [z]
theorem KM (l:List Nat) (c limit:Nat):∀(n k:Nat) (found:Array Nat) (free:Nat),k+n=l.length→free≤k→
 (forIn (List.range' k (n+1)) (found,free) (StrLaws.occBody (tx l) (tx [c]) l.length limit)).run.fst.toList=found.toList++(Br c (l.drop k) k).take (limit - found.size)
 |0,k,found,free,e,hf=>by
  have:l.drop k=[]:=List.drop_eq_nil_of_le (by omega)
  rw [this]
  unfold StrLaws.occBody
  simp [Br,List.range'_succ]
  rw [if_neg (by rintro ⟨⟨_,h⟩,_⟩;have:(tx [c]).length=1:=rfl;omega)]
  rfl
 |n+1,k,found,free,e,hf=>by
  have hk:k<l.length:=by omega
  rw [List.range'_succ,List.forIn_cons,Js hk,Br]
  unfold StrLaws.occBody
  rw [Zbh l c k hk]
  have one:(tx [c]).length=1:=rfl
  by_cases z:l[k]=c
  ·rw [if_pos z]
   by_cases hs:found.size<limit
   ·rw [if_pos (by simp [z,hs,hf,one];omega)]
    have ih:=KM l c limit n (k+1) (found.push k) (k+(tx [c]).length) (by omega) (GZ (by rw [one]))
    refine Eq.trans ih ?_
    simp
    rw [show limit - found.size=(limit - (found.size+1))+1 by omega,List.take_succ_cons]
   ·rw [if_neg (by simp;intro h1;omega)]
    have ih:=KM l c limit n (k+1) found free (by omega) (by omega)
    refine Eq.trans ih ?_
    rw [show limit - found.size=0 by omega,List.take_zero,List.take_zero]
  ·rw [if_neg z,if_neg (by simp [z])]
   exact KM l c limit n (k+1) found free (by omega) (by omega)
theorem IX (l:List Nat) (c limit:Nat):occurrences (tx l) (tx [c]) 0 (tx l).length limit=(Br c l 0).take limit:=by
 have hl:(tx l).length=l.length:=Bw l
 rw [StrLaws.occ_eq,hl]
 have:=KM l c limit l.length 0 #[] 0 (by omega) (Au _)
 simpa using this
def B3 (c:Nat) (l:List Nat):Int:=match Br c l 0 with
 |i::_=>(i:Int)
 |[]=>-1
theorem Zbi (l:List Nat) (c:Nat):Txt.find (tx l) (tx [c])=B3 c l:=by
 unfold Txt.find B3
 rw [IX]
 cases Br c l 0<;>rfl
def Ai (c:Nat):List Nat→List (List Nat)
 |[]=>[[]]
 |a::l=>if a=c then []::Ai c l else match Ai c l with
  |[]=>[[a]]
  |p::ps=>(a::p)::ps
theorem DW (c:Nat):∀l,Ai c l≠[]
 |[]=>by simp [Ai]
 |a::l=>by
  unfold Ai
  split
  ·simp
  ·split<;>simp
theorem KN (c:Nat):∀l,(∀a∈l,a≠c)→Ai c l=[l]
 |[],_=>rfl
 |a::l,h=>by
  unfold Ai
  rw [if_neg (h a Bf),KN c l fun b hb=>h b (Be _ hb)]
theorem KO (c:Nat):∀l k,Br c l k=[]↔∀a∈l,a≠c
 |[],k=>by simp [Br]
 |a::l,k=>by
  unfold Br
  split
  ·rename_i h
   subst h
   simp
  ·rename_i h
   rw [KO c l]
   simp [h]
theorem KP (c:Nat):∀l k,(Br c l k).length≤l.length
 |[],k=>DL _
 |a::l,k=>by
  unfold Br
  split
  ·simp;exact KP c l _
  ·simp;exact Nat.le_succ_of_le (KP c l _)
theorem NB (c:Nat):∀l k,∀i∈Br c l k,k≤i
 |[],k,i,h=>by cases h
 |a::l,k,i,h=>by
  unfold Br at h
  split at h
  ·rcases qa9.mp h with rfl |h
   ·exact Au _
   ·exact Ju (NB c l _ i h)
  ·exact Ju (NB c l _ i h)
theorem NC (L:List Nat) (c:Nat):∀(n k s:Nat),k+n=L.length→s≤k→(∀i,s≤i→i<k→∀h:i<L.length,L[i]≠c)→
 (((s::(Br c (L.drop k) k).map (·+ 1)).zip ((Br c (L.drop k) k)++[L.length])).map fun p=>(tx L).cps.toList.extract p.1 p.2)=(match Ai c (L.drop k) with
   |[]=>[L.extract s k]
   |p::ps=>(L.extract s k++p)::ps)
 |0,k,s,e,hs,hn=>by
  have:L.drop k=[]:=List.drop_eq_nil_of_le (by omega)
  rw [this]
  have hk:L.length=k:=by omega
  simp [Br,Ai,hk]
 |n+1,k,s,e,hs,hn=>by
  have hk:k<L.length:=by omega
  rw [Js hk,Br,Ai]
  by_cases z:L[k]=c
  ·rw [if_pos z,if_pos z]
   have ih:=NC L c n (k+1) (k+1) (by omega) (Au _) (fun i h1 h2=>by omega)
   rw [Bx,DK,HX,Bx,ih]
   have e0:L.extract (k+1) (k+1)=[]:=by simp
   rw [e0]
   cases hq:Ai c (L.drop (k+1)) with
   |nil=>exact absurd hq (DW _ _)
   |cons p ps=>simp
  ·rw [if_neg z,if_neg z]
   have ih:=NC L c n (k+1) s (by omega) (by omega) (fun i h1 h2 h3=>by
    by_cases q:i=k
    ·subst q;exact z
    ·exact hn i h1 (by omega) h3)
   rw [ih]
   have e1:L.extract s (k+1)=L.extract s k++[L[k]]:=by
    rw [List.extract_eq_drop_take,List.extract_eq_drop_take]
    have hl:k - s<(L.drop s).length:=by rw [Fo];omega
    rw [show k+1 - s=(k - s)+1 by omega,List.take_succ_eq_append_getElem hl]
    congr 2
    rw [List.getElem_drop]
    congr 1
    omega
   rw [e1]
   cases hq:Ai c (L.drop (k+1)) with
   |nil=>exact absurd hq (DW _ _)
   |cons p ps=>simp
theorem Zbj (l:List Nat) (c n:Nat) (hn:l.length≤n):partsBetween (tx l) (occurrences (tx l) (tx [c]) 0 (tx l).length n) (tx [c]).length=(Ai c l).map tx:=by
 rw [IX,Fj (BG (KP c l 0) hn)]
 unfold partsBetween
 have:=NC l c l.length 0 0 (by omega) (Au _) (fun i h1 h2=>by omega)
 have e:Ai c l=(match Ai c (l.drop 0) with
  |[]=>[l.extract 0 0]
  |p::ps=>(l.extract 0 0++p)::ps):=by
  rw [List.drop_zero]
  cases hq:Ai c l with
  |nil=>exact absurd hq (DW _ _)
  |cons p ps=>simp
 rw [e,←this]
 rw [EY,List.drop_zero]
 show List.map _ _=List.map _ _
 apply GW
 intro p _
 show (⟨(tx l).cps.extract p.1 p.2⟩:Str)=⟨((tx l).cps.toList.extract p.1 p.2).toArray⟩
 congr 1
 simp
def Dk (c:Nat):List Nat→Option (List Nat×List Nat)
 |[]=>none
 |a::l=>if a=c then some ([],l) else (Dk c l).map fun p=>(a::p.1,p.2)
theorem cutL_none (c:Nat):∀l,Dk c l=none↔∀a∈l,a≠c
 |[]=>by simp [Dk]
 |a::l=>by
  unfold Dk
  split
  ·rename_i h
   subst h
   simp
  ·rename_i h
   simp [h,cutL_none c l]
theorem RT (c:Nat):∀l k,Dk c l=(match Br c l k with
 |[]=>none
 |i::_=>some (l.take (i - k),l.drop (i - k+1)))
 |[],k=>rfl
 |a::l,k=>by
  unfold Dk Br
  split
  ·simp
  ·rw [RT c l (k+1)]
   cases e:Br c l (k+1) with
   |nil=>rfl
   |cons i r=>
    have hi:k+1≤i:=NB c l (k+1) i (by rw [e];exact Bf)
    simp
    rw [show i - k=(i - (k+1))+1 by omega]
    simp
end LS
namespace LS
open PySem PySem.Spec PyProof.Rows L2 PySem.W PySem.Calls
section
variable {X:Cx} {E:XK}
theorem Zbk {x z:Str} {t:Tok} {pos:Pos} (hg:Gl X x) (hm:X.mg x=some (.str z t)) (hd:(x==("__debug__":Str))=false:=by decide):Ev X E (.Name x pos) (mC (.str z)):=
 FW (LU (v:=.str z) hg hm ⟨t,rfl⟩ hd) fun _ _=>by simp [DV]
def Gs (f:Str→Str→Option D):D→D→HD→Out D:=fun x y h=>match x,y with
 |.str a,.str b=>(match f a b with
  |some d=>.ok d h
  |none=>.stuck)
 |_,_=>.stuck
theorem Zbl (f:Str→Str→Option D) (x y:D) (h:HD):DT (Gs f x y h):=by
 unfold Gs
 repeat' split
 all_goals trivial
theorem Zbm {id:String} {f:Str→Str→Option D} (h:∀(pins:List (Addr×Obj)) (s:Shared) (σ:L2.St) (H:Hp) (a b:Str) (t u:Tok) (d:D) (Q:VK),Inv X pins σ H s→f a b=some d→(∀v:V,(∀m H,DV X.K m H d v)→Q v H)→wpAny (model X.prog X.w) X.A (call (.builtin id) [.str a t,.str b u]) (EP X pins σ Q) X.xe s):FG X id (Gs f):=by
 intro pins s σ H m hd x y v yv u uy Q I hr rx ry r r2 q
 unfold Gs at q
 split at q
 ·rename_i a b
  split at q
  ·rename_i d ed
   simp only [DV] at rx ry
   subst rx ry
   obtain ⟨t,rfl⟩:=r
   obtain ⟨t2,rfl⟩:=r2
   exact h pins s σ H a b t t2 d Q I ed fun v hv=>AI hr q (hv m H)
  ·exact q.elim
 ·exact q.elim
def KQ:D→D→HD→Out D:=Gs fun a b=>some (.int (Txt.find a b))
theorem Zbn:FG X "str.find" KQ:=Zbm fun pins s σ H a b t u d Q I e q=>by
 cases e
 exact SC.find ⟨.int (Txt.find a b),H,I.tok _,⟨_,rfl⟩,q _ fun _ _=>by simp [DV]⟩
def ZhT:D→D→HD→Out D:=Gs fun a b=>some (.bl (Txt.startswith a b))
def ZhU:D→D→HD→Out D:=Gs fun a b=>some (.int (Txt.count a b))
def CG:D→D→HD→Out D:=fun x y h=>match x,y with
 |.str a,.str ⟨⟨[c]⟩⟩=>if a.length≤sizeLine then Bu ((Ai c a.cps.toList).map fun l=>.str (tx l)) h else .stuck
 |_,_=>.stuck
theorem Zbo {ds:List D} {h:HD}:DT (Bu ds h):=by
 unfold Bu
 split<;>trivial
theorem Zbp (x y:D) (h:HD):DT (CG x y h):=by
 unfold CG
 repeat' split
 all_goals first |trivial |exact Zbo
theorem RU:∀(l:List Str) (tk:Nat),Vals (l.map V.str) (strsFrom tk l)
 |[],_=>.nil
 |x::l,tk=>.cons ⟨tk,rfl⟩ (RU l (tk+1))
theorem RV {K:Frag} {m:List Addr} {H:Hp}:∀(l:List (List Nat)),DVs K m H (l.map fun l=>.str (tx l)) ((l.map tx).map V.str)
 |[]=>.nil
 |x::l=>.cons (by simp [DV]) (RV l)
theorem Zbq {l:List Nat} {c:Nat} (h:c∈l):Builtin.Str.strKind (tx [c])≤Builtin.Str.strKind (tx l):=by
 unfold Builtin.Str.strKind
 simp only [List.all_toArray,List.all_cons,List.all_nil,Bool.and_true,qaI,decide_eq_true_eq]
 by_cases h1:∀x∈l,x<256
 ·rw [if_pos h1,if_pos (h1 c h)]
  exact Au _
 ·rw [if_neg h1]
  by_cases h2:∀x∈l,x<65536
  ·rw [if_pos h2]
   split
   ·decide
   ·rw [if_pos (h2 c h)]
    exact Au _
  ·rw [if_neg h2]
   repeat' split
   all_goals decide
theorem Zbr:FG X "str.split" CG:=by
 intro pins s σ H m hd x y v yv u uy Q I hr rx ry r r2 q
 unfold CG at q
 split at q
 ·rename_i a c
  split at q
  ·rename_i ha
   simp only [DV] at rx ry
   subst rx ry
   obtain ⟨t,rfl⟩:=r
   obtain ⟨t2,rfl⟩:=r2
   obtain ⟨⟨l⟩⟩:=a
   obtain ⟨hz,AF⟩:=G6 hr (RV (K:=X.K) (m:=m) (H:=H) (Ai c l)) q
   have hf:H s.heap.objs.size=none:=I.hok.fresh (Au _)
   have one:(Ai c l)=[l]→EP X pins σ Q (.ref s.heap.objs.size) {s with heap:=s.heap.push {cls:=.type "list",data:=.seq [Value.str (tx l) t].toArray}}:=fun e=>by
    rw [e] at AF
    exact ⟨.ref s.heap.objs.size,Aj H s.heap.objs.size (.lst [.str (tx l)]),I.laid (t':=s.toks) (fun b u e=>A5 _ e) (Au _) ⟨by show 1≤sizeLine;decide,[.str (tx l) t],0,.cons ⟨t,rfl⟩ .nil,BM _ rfl⟩,rfl,AF _ hf⟩
   by_cases h1:(decide ((tx l).length<(tx [c]).length)||decide (Builtin.Str.strKind (tx l)<Builtin.Str.strKind (tx [c])))=true
   ·refine call_meets F.slot_str_split (typeIs_str _ _ _) F.entry_str_split (F.args_str_split_2 _ _) (meets_str_split_cannot_occur (tx l) (tx [c]) t t2 h1) (one (KN c l fun b hb z=>?_))
    subst z
    rw [Jz,decide_eq_true_eq,decide_eq_true_eq,Bw,Bw] at h1
    rcases h1 with h1 |h1
    ·cases l with
     |nil=>cases hb
     |cons=>simp at h1
    ·exact absurd h1 (Nat.not_lt.mpr (Zbq hb))
   ·have h1:(decide ((tx l).length<(tx [c]).length)||decide (Builtin.Str.strKind (tx l)<Builtin.Str.strKind (tx [c])))=false:=by simpa using h1
    have ho:=IX l c ((tx l).length+1)
    rw [Bw,Fj (Nat.le_succ_of_le (KP c l 0)),←Bw l] at ho
    by_cases h2:Br c l 0=[]
    ·refine call_meets F.slot_str_split (typeIs_str _ _ _) F.entry_str_split (F.args_str_split_2 _ _) (meets_str_split_not_found (tx l) (tx [c]) t t2 h1 rfl (by rw [ho,h2];rfl)) (one (KN c l ((KO c l 0).mp h2)))
    ·have hp:Builtin.Str.partsBetween (tx l) (Builtin.Str.occurrences (tx l) (tx [c]) 0 (tx l).length ((tx l).length+1)) (tx [c]).length=(Ai c l).map tx:=Zbj l c _ (by rw [Bw];exact Nat.le_succ _)
     refine call_meets F.slot_str_split (typeIs_str _ _ _) F.entry_str_split (F.args_str_split_2 _ _) (meets_str_split_sep (tx l) (tx [c]) t t2 h1 rfl (by rw [ho];cases e:Br c l 0 with
      |nil=>exact absurd e h2
      |cons=>rfl) ha (by rw [hp];simpa using hz)) ?_
     rw [hp]
     exact ⟨.ref s.heap.objs.size,Aj H s.heap.objs.size (.lst (((Ai c l).map tx).map V.str)),I.laid (fun b u e=>A5 _ e) (Au _) ⟨hz,_,0,RU _ _,BM _ rfl⟩,rfl,AF _ hf⟩
  ·exact q.elim
 ·exact q.elim
def Bk (c:Nat) (l:List Nat):List Nat×List Nat×List Nat:=match Dk c l with
 |some (a,b)=>(a,[c],b)
 |none=>(l,[],[])
def Fb:D→D→HD→Out D:=fun x y h=>match x,y with
 |.str a,.str ⟨⟨[c]⟩⟩=>if a.length≤sizeLine then .ok (.tup [.str (tx (Bk c a.cps.toList).1),.str (tx (Bk c a.cps.toList).2.1),.str (tx (Bk c a.cps.toList).2.2)]) h else .stuck
 |_,_=>.stuck
theorem Zbs (x y:D) (h:HD):DT (Fb x y h):=by
 unfold Fb
 repeat' split
 all_goals trivial
theorem Zbt:FG X "str.partition" Fb:=by
 intro pins s σ H m hd x y v yv u uy Q I hr rx ry r r2 q
 unfold Fb at q
 split at q
 ·rename_i a c
  split at q
  ·rename_i ha
   simp only [DV] at rx ry
   subst rx ry
   obtain ⟨t,rfl⟩:=r
   obtain ⟨t2,rfl⟩:=r2
   obtain ⟨⟨l⟩⟩:=a
   have hf:H s.heap.objs.size=none:=I.hok.fresh (Au _)
   have AF:=G5 (vs:=[.str (tx (Bk c l).1),.str (tx (Bk c l).2.1),.str (tx (Bk c l).2.2)]) hr (.cons (by simp [DV]) (.cons (by simp [DV]) (.cons (by simp [DV]) .nil))) q
   refine call_meets F.slot_str_partition (typeIs_str _ _ _) F.entry_str_partition (F.args_str_partition_2 _ _) (meets_str_partition (tx l) (tx [c]) t t2 rfl ha) ?_
   have hc:=RT c l 0
   rw [IX]
   cases e:Br c l 0 with
   |nil=>
    rw [e] at hc
    have ep:Bk c l=(l,[],[]):=by unfold Bk;rw [hc]
    rw [ep] at AF
    exact ⟨.ref s.heap.objs.size,Aj H s.heap.objs.size (.tup [.str (tx l),.str (tx []),.str (tx [])]),I.laid (fun b u e=>A5 _ e) (Au _) ⟨by show 3≤sizeLine;decide,_,.cons ⟨_,rfl⟩ (.cons ⟨_,rfl⟩ (.cons ⟨_,rfl⟩ .nil)),IsTup.new _ _,NoDict.new⟩,rfl,AF _ hf⟩
   |cons i r=>
    rw [e] at hc
    have ep:Bk c l=(l.take i,[c],l.drop (i+1)):=by unfold Bk;rw [hc];rfl
    rw [ep] at AF
    have e1:Builtin.Str.strSub (tx l) 0 i=tx (l.take i):=by
     show (⟨(tx l).cps.extract 0 i⟩:Str)=_
     congr 1
     simp
    have e2:Builtin.Str.strSub (tx l) (i+(tx [c]).length) (tx l).length=tx (l.drop (i+1)):=by
     show (⟨(tx l).cps.extract (i+1) (tx l).length⟩:Str)=_
     congr 1
     rw [Bw]
     apply Array.ext'
     simp
     rw [Fj (by rw [Fo];exact Au _)]
    show EP X pins σ Q _ {s with toks:=s.toks+1+1,heap:=s.heap.push {cls:=.type "tuple",data:=.seq [.str (Builtin.Str.strSub (tx l) 0 i) s.toks,.str (tx [c]) t2,.str (Builtin.Str.strSub (tx l) (i+(tx [c]).length) (tx l).length) (s.toks+1)].toArray}}
    rw [e1,e2]
    exact ⟨.ref s.heap.objs.size,Aj H s.heap.objs.size (.tup [.str (tx (l.take i)),.str (tx [c]),.str (tx (l.drop (i+1)))]),I.laid (fun b u e=>A5 _ e) (Au _) ⟨by show 3≤sizeLine;decide,_,.cons ⟨_,rfl⟩ (.cons ⟨_,rfl⟩ (.cons ⟨_,rfl⟩ .nil)),IsTup.new _ _,NoDict.new⟩,rfl,AF _ hf⟩
  ·exact q.elim
 ·exact q.elim
end
theorem Zbu (x y:D) (h:HD):DT (KQ x y h):=Zbl _ x y h
theorem Zbv (l:List Nat) (lo hi:Option Int):(Builtin.Str.strSliceIndices lo hi 1 l.length).filterMap (l.toArray[·]?)=(l.drop (HT.sIx l.length 0 lo)).take (HT.sIx l.length l.length hi - HT.sIx l.length 0 lo)∧(Builtin.Str.strSliceIndices lo hi 1 l.length).length=HT.sIx l.length l.length hi - HT.sIx l.length 0 lo:=by
 have a0:∀o,HT.sIx l.length 0 o≤l.length:=fun o=>HT.sIx_le _ _ (DL _) o
 have b0:∀o,HT.sIx l.length l.length o≤l.length:=fun o=>HT.sIx_le _ _ (Au _) o
 have key:∀(a b:Nat),a≤l.length→b≤l.length→(sliceRange (a:Int) (b:Int) 1)=(List.range (b - a)).map fun k=>a+k:=fun a b ha hb=>by
  unfold sliceRange
  by_cases hlt:(a:Int)<b
  ·simp only [show ((1:Int)>0)=True from by simp,if_true,hlt]
   have e3:(((b:Int) - a+1 - 1) / 1).toNat=b - a:=by first |omega |(simp;done) |(simp;omega)
   rw [e3]
   exact GW fun k _=>by omega
  ·have:b - a=0:=by omega
   simp [hlt,this]
 have cl:∀(v:Int) (d:Nat),max (0:Int) (min (if v<0 then v+(l.length:Int) else v) l.length)=((HT.sIx l.length d (some v):Nat):Int):=fun v d=>by
  rw [←HT.clip_eq v l.length d]
  split<;>omega
 have main:Builtin.Str.strSliceIndices lo hi 1 l.length=sliceRange ((HT.sIx l.length 0 lo:Nat):Int) ((HT.sIx l.length l.length hi:Nat):Int) 1:=by
  unfold Builtin.Str.strSliceIndices
  simp only [show ((1:Int)>0)=True from by simp,if_true]
  congr 1
  ·cases lo with
   |none=>rfl
   |some v=>exact cl v 0
  ·cases hi with
   |none=>rfl
   |some v=>exact cl v l.length
 rw [main,key _ _ (a0 lo) (b0 hi)]
 refine ⟨?_,by simp⟩
 have:=StrLaws.picks l (HT.sIx l.length l.length hi - HT.sIx l.length 0 lo) (HT.sIx l.length 0 lo)
 by_cases hh:HT.sIx l.length 0 lo≤HT.sIx l.length l.length hi
 ·have:=this (by have:=b0 hi;omega)
  simpa using this
 ·rw [show HT.sIx l.length l.length hi - HT.sIx l.length 0 lo=0 by omega]
  simp
def CP (l:List Nat) (lo hi:Option Int):List Nat:=(l.drop (HT.sIx l.length 0 lo)).take (HT.sIx l.length l.length hi - HT.sIx l.length 0 lo)
section
variable {X:Cx} {E:XK}
def Zbw:V→Option Int→Option Int→Hp→VK→Prop:=fun x lo hi H Q=>∃l:List Nat,x=.str (tx l)∧l.length≤sizeLine∧Q (.str (tx (CP l lo hi))) H
theorem RW {v:Value} {o:Option Int} (p:IsPart v o):∃q:Option (Int×Tok),v=partValue q∧q.map (·.1)=o:=by
 cases p with
 |none=>exact ⟨none,rfl,rfl⟩
 |int i t=>exact ⟨some (i,t),rfl,rfl⟩
theorem Zbx:SlR X Zbw:=by
 intro pins s σ H x v vl vu lo hi sl Q I rx hs pl pu h
 obtain ⟨l,rfl,hl,q⟩:=h
 obtain ⟨t,rfl⟩:=rx
 obtain ⟨ql,rfl,el⟩:=RW pl
 obtain ⟨qu,rfl,eu⟩:=RW pu
 subst el eu
 refine ⟨"str",_,F.slot_str_getitem.lookup,typeIs_str _ _ _,?_⟩
 refine wpAny_getItem_str_slice (l:=ql) (u:=qu) (st:=none) hs rfl ?_
 obtain ⟨c1,c2⟩:=Zbv l (ql.map (·.1)) (qu.map (·.1))
 have hp:slicePicked (tx l) ql qu none=Builtin.Str.strSliceIndices (ql.map (·.1)) (qu.map (·.1)) 1 l.length:=by unfold slicePicked;rw [Bw];rfl
 unfold sliceMade
 rw [hp]
 split
 ·rename_i hw
  rw [BX,beq_iff_eq,beq_iff_eq,c2,Bw] at hw
  have e:CP l (ql.map (·.1)) (qu.map (·.1))=l:=by
   unfold CP
   have h1:=HT.sIx_le l.length l.length (Au _) (qu.map (·.1))
   have h0:=HT.sIx_le l.length 0 (DL _) (ql.map (·.1))
   have h2:=hw.2
   rw [h2,show HT.sIx l.length 0 (ql.map (·.1))=0 by omega]
   simp
  rw [e] at q
  exact ⟨.str (tx l),H,I,⟨t,rfl⟩,q⟩
 ·rw [c1]
  refine ⟨?_,.str (tx (CP l (ql.map (·.1)) (qu.map (·.1)))),H,I.tok _,⟨_,rfl⟩,q⟩
  rw [Bw]
  refine BG ?_ hl
  rw [GY,Fo]
  omega
def Hx (x:D) (lo hi:Option Int) (h:HD):Out D:=match x with
 |.str a=>if a.length≤sizeLine then .ok (.str (tx (CP a.cps.toList lo hi))) h else .stuck
 |_=>.stuck
def AV (f:ME) (lo hi:MO):ME:=fun ρ h=>(f ρ h).bind fun x h1=>(lo ρ h1).bind fun l h2=>(hi ρ h2).bind fun u h3=>Hx x l u h3
theorem Zby {e:Expr} {lo hi:Option Expr} {f:ME} {fl fh:MO} {p2 pos:Pos} (he:Ev X E e f) (hl:Hj X E lo fl) (hu:Hj X E hi fh):Ev X E (.Subscript e (.Slice lo hi none p2) pos) (AV f fl fh):=
 BH (Pi Zbx he hl hu) fun σ H Q z3_=>by obtain ⟨m,ρ,h,hr,er,p⟩:=z3_;exact (⟨m,ρ,h,hr,er,Post.bind p fun x h1 v m1 H1 eo1 p1 k1 hr1 r1 q1=>
  ⟨m1,ρ,h1,hr1,er.keep p1 k1,Post.bind q1 fun l h2 l' m2 H2 eo2 p2 k2 hr2 r2 q2=>
   ⟨m2,ρ,h2,hr2,(er.keep p1 k1).keep p2 k2,Post.bind q2 fun u h3 u' m3 H3 eo3 p3 k3 hr3 r3 q3=>by
    clear eo1 eo2 eo3
    subst r2 r3
    have rx:=DV.keep p3 k3 (DV.keep p2 k2 r1)
    unfold Hx at q3
    split at q3
    ·rename_i a
     split at q3
     ·rename_i ha
      simp only [DV] at rx
      subst rx
      obtain ⟨⟨ls⟩⟩:=a
      exact ⟨ls,rfl,by rw [Bw] at ha;exact ha,AI hr3 q3 (by simp [DV])⟩
     ·exact q3.elim
    ·exact q3.elim⟩⟩⟩)
def ZhV (f:ME) (r:MJ):MJ:=fun acc ρ h=>(f ρ h).bind fun d h1=>match d with
 |.str z=>if z.length≤sizeLine∧(acc++z).length≤sizeLine then r (acc++z) ρ h1 else .stuck
 |_=>.stuck
def RX (x:Str):It:=⟨fun i _=>i<x.cps.size,fun i H v H'=>H'=H∧∃c,x.cps[i]?=some c∧v=.str ⟨#[c]⟩,fun i _=>x.cps.size≤i⟩
theorem Zbz {P:Program} {w:World} {K:Frag} {tg:Expr} {x:Str} {t:Tok} {it:Addr} {n:String} (hn:n="str_ascii_iterator"∨n="str_iterator") (wk:∀A':Around,A'.handled=none→Walks P w A' it [it] [it] x.cps.size (SignAt x) (fun i h=>h.IsStrIter it n x t i)):Ig P w K tg (RX x) [it] it (fun i h=>h.IsStrIter it n x t i∧i≤x.cps.size) where
 mem:=by simp
 obj:=fun i h st b hb=>by
  have e:b=it:=by simpa using hb
  subst e
  obtain ⟨⟨o,e,c,d⟩,_⟩:=st
  exact ⟨o,e,fun v z=>by rw [d] at z;cases z⟩
 keep:=fun i h h' st k=>by
  obtain ⟨⟨o,e,c,d⟩,st2⟩:=st
  exact ⟨⟨o,k it (by simp) o e,c,d⟩,st2⟩
 item:=by
  intro X hP hw hK hc i pins s σ H E I hf st hg
  subst hP hw hK
  obtain ⟨f0,f1,f2,f3,f4,f5⟩:=hf it (by simp)
  refine (wk X.A (I.ok.hd hc)).item i s _ E hg st.1 fun v h' k' hv hit hk=>?_
  have I1:Inv X pins σ H {s with heap:=h',toks:=k'}:=I.turned (t':=k') (fun b o hb e=>hk b o (by simpa using hb) e) f0 f1 f3 f4 f5
  obtain ⟨c,u,e1,rfl⟩:=hv
  obtain ⟨o,e,c2,d⟩:=id hit
  exact ⟨_,rfl,JI (s:={s with heap:=h',toks:=k'}) e c2 d (by rcases hn with rfl |rfl<;>decide) ⟨.str ⟨#[c]⟩,H,I1,⟨u,rfl⟩,⟨rfl,c,e1,rfl⟩,⟨hit,hg⟩,fun b hb=>(hf b hb).1⟩⟩
 done:=by
  intro X hP hw hK hc i pins s σ H E I hf st hg
  subst hP hw hK
  obtain ⟨f0,f1,f2,f3,f4,f5⟩:=hf it (by simp)
  obtain ⟨st,hi⟩:=st
  have e:i=x.cps.size:=Nat.le_antisymm hi hg
  subst e
  exact (wk X.A (I.ok.hd hc)).done s _ E st fun h' k' eb=>⟨rfl,I.turned (t':=k') (fun b o hb e=>eb b o (by simpa using hb) e) f0 f1 f3 f4 f5⟩
 self:=fun A i s Q E st h=>by
  rcases hn with rfl |rfl
  ·exact wpAny_pyIter_striter_ascii st.1 h
  ·exact wpAny_pyIter_striter_wide st.1 h
theorem ZbA {tg l:Expr} {tl:TE} (hl:PE X l tl):PI X tg l (fun σ H R=>tl σ H fun x H1=>∃z,x=.str z∧R (RX z) H1):=by
 intro pins s σ H R I h
 refine Am (hl pins s σ H _ I h) fun v s1 z12_=>?_
 obtain ⟨x,H1,I1,r1,z,rfl,q⟩:=z12_
 obtain ⟨t,rfl⟩:=r1
 have AF:∀(n:String),(n="str_ascii_iterator"∨n="str_iterator")→(∀A':Around,A'.handled=none→Walks X.prog X.w A' s1.heap.objs.size [s1.heap.objs.size] [s1.heap.objs.size] z.cps.size (SignAt z) (fun i h=>h.IsStrIter s1.heap.objs.size n z t i))→
  JH X pins σ tg R (.ref s1.heap.objs.size) {s1 with heap:=s1.heap.push {cls:=.type n,data:=.fields #[.str z t,.int 0 0]}}:=fun n hn wk=>
  ⟨s1.heap.objs.size,[s1.heap.objs.size],_,_,H1,rfl,I1.kept (t':=s1.toks) fun b o e=>A5 _ e,Zbz hn wk,⟨⟨_,BM _ rfl,rfl,rfl⟩,DL _⟩,fun b hb=>by
   have e:b=s1.heap.objs.size:=by simpa using hb
   subst e
   exact I1.fpOk (Au _) (I1.hok.fresh (Au _)),q⟩
 cases ha:z.cps.all (·< 128)
 ·exact wpAny_pyIter_wide ha (AF _ (.inr rfl) fun A' hA=>Walks.strWide hA _ z t)
 ·exact wpAny_pyIter_ascii ha (AF _ (.inl rfl) fun A' hA=>Walks.strAscii hA _ z t)
def Hz (z:Str):List D:=z.cps.toList.map fun c=>.str (tx [c])
def IY (d:D) (h:HD):Out (List D×AY):=match d with
 |.str z=>.ok (Hz z,[]) h
 |_=>.stuck
def FI (f:ME):MI:=fun ρ h=>(f ρ h).bind IY
theorem ZbB {tg a:Expr} {f:ME} (ha:Ev X E a f):G8 X E tg a (FI f):=
 Mw (ZbA ha) fun σ H R ⟨m,ρ,h,hr,er,p⟩=>⟨m,ρ,h,hr,er,Post.bind p fun x h1 v m1 H1 eo p1 k1 hr1 r1 q1=>by
  clear eo
  unfold IY at q1
  split at q1
  ·rename_i z
   simp only [rD,DV] at r1
   subst r1
   refine ⟨z,rfl,q1 _ m1 H1 (Ax _) (.refl _) hr1 fun i m2 h2 H2 p2 k2 hr2 _=>⟨fun hi=>?_,fun hi=>?_⟩⟩
   ·have hi':i<z.cps.size:=by simpa [Hz] using hi
    refine ⟨hi',fun y H3 z=>?_⟩
    obtain ⟨e3,c,ec,ey⟩:=z
    subst e3 ey
    refine ⟨.refl _,hr2,.str (tx [c]),?_,by simp [DV]⟩
    simp [Hz,ec]
   ·show z.cps.size≤i
    have hi':i=z.cps.size:=by simpa [Hz] using hi
    omega
  ·exact q1.elim⟩
end
section
variable {f:ME} {ρ:Af} {h:HD} {Q:D→HD→Prop} {lo hi:MO} {QI:List D×AY→HD→Prop}
@[simp] theorem ZhW:Wp (FI f ρ h) QI=Wp (f ρ h) fun d h1=>Wp (IY d h1) QI:=by unfold FI;rw [Ao]
@[simp] theorem ZhX:Wp (AV f lo hi ρ h) Q=Wp (f ρ h) fun x h1=>Wp (lo ρ h1) fun l h2=>Wp (hi ρ h2) fun u h3=>Wp (Hx x l u h3) Q:=by unfold AV;simp only [Ao]
end
end LS
namespace Tp
open PySem PySem.W PySem.Spec PySem.Calls PyProof.Rows
def ND (K:Frag) (n v:Str):Bool:=match nsIn K mainGlobals n with
 |some (some (.str z _))=>z.cps.toList==v.cps.toList
 |_=>false
theorem ZbC {K:Frag} {n v:Str} (e:ND K n v=true):∃t,nsIn K mainGlobals n=some (some (.str v t)):=by
 unfold ND at e
 split at e
 ·rename_i z t h
  have:z=v:=by
   obtain ⟨⟨z⟩⟩:=z
   obtain ⟨⟨v⟩⟩:=v
   simpa using e
  subst this
  exact ⟨t,h⟩
 ·cases e
def KR (K:Frag):List (Str×Str)→Bool
 |[]=>true
 |p::r=>ND K p.1 p.2&&KR K r
theorem strsIn_of {K:Frag}:∀{l:List (Str×Str)},KR K l=true→∀(i:Nat) n v,l[i]?=some (n,v)→∃t,nsIn K mainGlobals n=some (some (.str v t))
 |[],_,i,n,v,h=>by simp at h
 |p::r,e,0,n,v,h=>by
  simp only [CL,Nat.zero_lt_succ,getElem?_pos,List.getElem_cons_zero,Option.some.injEq] at h
  subst h
  exact ZbC (qbD.mp e).1
 |p::r,e,i+1,n,v,h=>strsIn_of (qbD.mp e).2 i n v (by simpa using h)
noncomputable def ZhY (W:Want) (ex:Frag→Bool) (s:Shared):Hs×Bool:=fL (Hr s.heap) fun K=>
 ((W.fs.map fun x=>Gm K x.1,W.cs.map fun x=>Gn K x.1,W.bs.map (nsIn K mainGlobals),LS.etOk K,Nu K s.heap),ex K)
def ZhZ (W:Want):Hs×Bool:=(Rq W,true)
def SaysX (W:Want) (ex:Frag→Bool) (_:World) (h:Heap):Prop:=∃(K:Frag) (c T:Addr),K.In h∧(KG W K c T∧ex K=true)∧h.get? T=some (tabObj #[])
theorem SaysX.keeps {W:Want} {ex:Frag→Bool} (w:World) (h h':Heap) (x:SaysX W ex w h) (k:∀b o,h.get? b=some o→h'.get? b=some o):SaysX W ex w h':=by
 obtain ⟨K,c,T,h1,h2,h3⟩:=x
 exact ⟨K,c,T,h1.keeps k,h2,k _ _ h3⟩
end Tp
namespace LS
open PySem PySem.W PySem.Spec PySem.Calls PyProof.Rows L2
end LS
namespace LS
open PySem PySem.Spec PyProof.Rows L2 PySem.W PySem.Calls
def CQ (sep:List Nat):List (List Nat)→List Nat
 |[]=>[]
 |x::r=>x++r.flatMap fun y=>sep++y
theorem RY (sep:List Nat):∀(r:List (List Nat)) (x:List Nat),((r.map tx).foldl (fun acc p=>acc++(tx sep).cps++p.cps) (tx x).cps)=(tx (x++r.flatMap fun y=>sep++y)).cps
 |[],x=>by simp
 |y::r,x=>by
  rw [Bx,Jy]
  have e:(tx x).cps++(tx sep).cps++(tx y).cps=(tx (x++(sep++y))).cps:=by simp
  rw [e,RY sep r]
  simp
theorem ZbD (sep:List Nat) (l:List (List Nat)):Hu (tx sep) (l.map tx)=tx (CQ sep l):=by
 cases l with
 |nil=>rfl
 |cons x r=>
  cases r with
  |nil=>simp [Hu,CQ]
  |cons y r=>
   show Builtin.Str.glued (tx sep) ((x::y::r).map tx)=_
   unfold Builtin.Str.glued
   have:=RY sep (y::r) x
   exact congrArg Str.mk this
theorem RZ {α:Type} (e:α→List Nat):∀xs:List α,Gq (xs.map fun x=>D.str (tx (e x)))=some ((xs.map e).map tx)
 |[]=>rfl
 |x::xs=>by
  simp only [Bx,Gq,RZ e xs]
  rfl
theorem ZbE (n m:Nat) (l:List (List Nat)) (hl:∀x∈l,x.length≤n):∀a,(l.map tx).foldl (fun (x:Nat) (y:Str)=>x+y.length+m) a≤a+l.length*(n+m):=by
 induction l with
 |nil=>intro a;simp
 |cons x r ih=>
  intro a
  rw [Bx,Jy]
  have h1:=ih (fun y hy=>hl y (Be _ hy)) (a+(tx x).length+m)
  have h2:=hl x Bf
  rw [Bw] at h1 ⊢
  rw [CL,Ib]
  omega
theorem NF (sep:List Nat) (n:Nat):∀(l:List (List Nat)),(∀x∈l,x.length≤n)→(CQ sep l).length≤l.length*(n+sep.length)
 |[],_=>by simp [CQ]
 |x::r,h=>by
  have:∀(r:List (List Nat)),(∀x∈r,x.length≤n)→(r.flatMap fun y=>sep++y).length≤r.length*(n+sep.length):=fun r hr=>by
   induction r with
   |nil=>simp
   |cons y r ih=>
    have h1:=ih fun z hz=>hr z (Be _ hz)
    have h2:=hr y Bf
    simp only [Jv,Ca,CL,Ib]
    omega
  have h1:=this r fun z hz=>h z (Be _ hz)
  have h2:=h x Bf
  simp only [CQ,Ca,CL,Ib]
  omega
theorem R0 {α:Type} {e:α→List Nat} {xs:List α} {sep:List Nat} {l n:Nat} {h:HD} (el:h[l]?=some (.lst (xs.map fun x=>.str (tx (e x))))) (he:∀x∈xs,(e x).length≤n) (hz:xs.length*(n+sep.length)≤sizeLine):
 Dc (.str (tx sep)) (.loc l) h=.ok (.str (tx (CQ sep (xs.map e)))) h:=by
 have he':∀x∈xs.map e,x.length≤n:=fun x hx=>by
  obtain ⟨y,hy,rfl⟩:=qaR.mp hx
  exact he y hy
 simp only [Dc,el,RZ,ZbD]
 rw [if_pos]
 refine ⟨?_,?_⟩
 ·rw [List.foldl_toArray]
  have:=ZbE n (tx sep).length (xs.map e) he' 0
  rw [Bw] at this
  rw [Bt,Nat.zero_add] at this
  rw [Bw]
  exact BG this hz
 ·rw [Bw]
  have:=NF sep n (xs.map e) he'
  rw [Bt] at this
  exact BG this hz
noncomputable def NG (sep:List Nat) (cs:List (Option Nat)) (it:MI) (sg:MG) (f:ME):ME:=BJ BC Dc (mC (.str (tx sep))) (Ba cs it sg BS f)
theorem NH {α:Type} {cs:List (Option Nat)} {it:MI} {sg:MG} {f:ME} {ρ:Af} {h:HD} {src:AY} {xs:List α} {φ:α→D} {sep:List Nat} (e:α→List Nat) (ρ1:α→Af) (n:Nat) (hi:Eu (it ρ h) h (xs.map φ) src) (hg:∀x∈xs,sg (φ x) (CD cs ρ)=some (ρ1 x)) (hf:∀x∈xs,∀h',Sm h h'→Pu (f (ρ1 x) h') h' (.str (tx (e x))))
 (hx:xs.length≤sizeLine) (he:∀x∈xs,(e x).length≤n) (hz:xs.length*(n+sep.length)≤sizeLine):Pu (NG sep cs it sg f ρ h) h (.str (tx (CQ sep (xs.map e)))):=by
 unfold Pu NG
 rw [Kx]
 show Wp (Ba cs it sg BS f ρ h) _
 refine Hg (fun _=>true) (fun x=>.str (tx (e x))) ρ1 hi hx hg (fun x hx h' s'=>(.ok:Pu (.ok true h') h' true)) (fun x hx _ h' s'=>hf x hx h' s') fun l h' s' e'=>?_
 rw [MM] at e'
 rw [R0 e' he hz]
 exact ⟨rfl,s'⟩
theorem R1 {l:List Nat} {ρ:Af} {h:HD} {i:Nat} (e:ρ[i]?=some (some (.str (tx l)))):Eu (FI (Ab i) ρ h) h (l.map fun c=>.str (tx [c])) []:=by
 simp [Eu,Sm.refl,BZ,Ab,e,IY,Hz]
theorem ZbF (a b:List Nat):(tx a++tx b:Str)=tx (a++b):=by
 show (⟨a.toArray++b.toArray⟩:Str)=_
 simp
theorem EJ {a b:List Nat} {h:HD} (hz:a.length+b.length≤sizeLine):Ah (.str (tx a)) (.str (tx b)) h=.ok (.str (tx (a++b))) h:=by
 simp only [Ah,Bw,ZbF]
 rw [if_pos hz]
theorem ZbG {l:List Nat} {c:Nat} {h:HD}:KQ (.str (tx l)) (.str (tx [c])) h=.ok (.int (B3 c l)) h:=by
 show Out.ok (D.int (Txt.find (tx l) (tx [c]))) h=_
 rw [Zbi]
theorem R3 {l:List Nat} {c:Nat} {h:HD} (hz:l.length≤sizeLine):CG (.str (tx l)) (.str (tx [c])) h=Bu ((Ai c l).map fun l=>.str (tx l)) h:=by
 show (if (tx l).length≤sizeLine then Bu ((Ai c l).map fun l=>.str (tx l)) h else .stuck)=_
 rw [Bw,if_pos hz]
theorem ZbH {l:List Nat} {c:Nat} {h:HD} (hz:l.length≤sizeLine):Fb (.str (tx l)) (.str (tx [c])) h=.ok (.tup [.str (tx (Bk c l).1),.str (tx (Bk c l).2.1),.str (tx (Bk c l).2.2)]) h:=by
 show (if (tx l).length≤sizeLine then Out.ok (D.tup [.str (tx (Bk c l).1),.str (tx (Bk c l).2.1),.str (tx (Bk c l).2.2)]) h else .stuck)=_
 rw [Bw,if_pos hz]
theorem KS {l:List Nat} {lo hi:Option Int} {h:HD} (hz:l.length≤sizeLine):Hx (.str (tx l)) lo hi h=.ok (.str (tx (CP l lo hi))) h:=by
 show (if (tx l).length≤sizeLine then Out.ok (D.str (tx (CP l lo hi))) h else .stuck)=_
 rw [Bw,if_pos hz]
theorem NI {l:List Nat} {k c:Nat} {h:HD} (hl:l.length≤sizeLine) (e:l[k]?=some c):Ea (.str (tx l)) (.int (k:Nat)) h=.ok (.str (tx [c])) h:=by
 have hk:k<l.length:=(qa1.mp e).1
 have e1:BY l ((k:Nat):Int)=some c:=by
  unfold BY CU
  rw [if_pos (by omega),if_pos (by omega)]
  simpa using e
 show (if (tx l).length≤sizeLine then (match BY l ((k:Nat):Int) with
  |some c=>Out.ok (D.str ⟨#[c]⟩) h
  |none=>.stuck) else .stuck)=_
 rw [Bw,if_pos hl,e1]
def KU:List Int→List Value→Bool
 |[],[]=>true
 |i::r,.int j _::us=>decide (i=j)&&KU r us
 |_,_=>false
def KV (K:Frag) (f:List Value→Bool):Value→Bool
 |.ref a=>(match K.lookup a with
  |some ⟨.type n,none,.seq its _,_⟩=>decide (n="tuple")&&decide (its.size≤8)&&f its.toList
  |_=>false)
 |_=>false
def KW (K:Frag):List (List Int)→List Value→Bool
 |[],[]=>true
 |r::rs,u::us=>KV K (KU r) u&&KW K rs us
 |_,_=>false
def brdIn (K:Frag) (n:Str) (rs:List (List Int)):Bool:=match nsIn K mainGlobals n with
 |some (some v)=>KV K (KW K rs) v
 |_=>false
def R4 (rs:List (List Int)):D:=.tup (rs.map fun r=>.tup (r.map D.int))
section
variable {K:Frag} {m:List Addr} {H:Hp}
theorem R5:∀{r:List Int} {us:List Value},KU r us=true→∃vs,Vals vs us∧DVs K m H (r.map D.int) vs
 |[],[],_=>⟨[],.nil,.nil⟩
 |[],_::_,h=>by cases h
 |i::r,[],h=>by cases h
 |i::r,u::us,h=>by
  cases u with
  |int j t=>
   simp only [KU,BX,decide_eq_true_eq] at h
   obtain ⟨rfl,h⟩:=h
   obtain ⟨vs,h1,h2⟩:=R5 h
   exact ⟨.int i::vs,.cons ⟨t,rfl⟩ h1,.cons (by simp [DV]) h2⟩
  |_=>cases h
theorem R6 {f:List Value→Bool} {ds:List D} {u:Value} (h:KV K f u=true) (g:∀us,f us=true→∃vs,Vals vs us∧DVs K m H ds vs):∃v,RelV v u∧DV K m H (.tup ds) v:=by
 unfold KV at h
 split at h
 ·rename_i a
  split at h
  ·rename_i n its q sl e
   simp only [BX,decide_eq_true_eq] at h
   obtain ⟨⟨rfl,h1⟩,h2⟩:=h
   obtain ⟨vs,h3,h4⟩:=g _ h2
   refine ⟨.ref a,rfl,?_⟩
   simp only [DV]
   exact ⟨a,vs,rfl,.inr ⟨_,its,q,e,rfl,rfl,rfl,BG h1 (by unfold sizeLine;omega),h3⟩,h4⟩
  ·cases h
 ·cases h
theorem R7:∀{rs:List (List Int)} {us:List Value},KW K rs us=true→∃vs,Vals vs us∧DVs K m H (rs.map fun r=>.tup (r.map D.int)) vs
 |[],[],_=>⟨[],.nil,.nil⟩
 |[],_::_,h=>by cases h
 |_::_,[],h=>by cases h
 |r::rs,u::us,h=>by
  simp only [KW,BX] at h
  obtain ⟨v,h1,h2⟩:=R6 (m:=m) (H:=H) h.1 fun us z=>R5 z
  obtain ⟨vs,h3,h4⟩:=R7 h.2
  exact ⟨v::vs,.cons h1 h3,.cons h2 h4⟩
end
section
variable {X:Cx} {E:XK}
theorem ZbI {n:Str} {p:Pos} {rs:List (List Int)} (hg:Gl X n) (hb:brdIn X.K n rs=true) (hd:(n==("__debug__":Str))=false:=by decide):Ev X E (.Name n p) (mC (R4 rs)):=by
 intro pins s σ H Q I z
 unfold brdIn at hb
 split at hb
 ·rename_i v e
  have hm:X.mg n=some v:=PySem.W.mg_of I.mod.kin I.mod.glob e
  obtain ⟨m,ρ,h,hr,er,q⟩:=z
  obtain ⟨w,h1,h2⟩:=R6 (m:=m) (H:=H) hb fun us z=>R7 z
  refine LU (v:=w) (u:=v) hg hm h1 hd pins s σ H Q I ?_
  exact q w m H (Ax _) (.refl _) hr h2
 ·cases hb
end
def putD (f:Str) (d:D):List (Str×D)→List (Str×D)
 |[]=>[(f,d)]
 |p::r=>if p.1=f then (f,d)::r else p::putD f d r
section
variable {K:Frag} {m:List Addr} {H:Hp}
theorem FDs.len:∀{fs:List (Str×D)} {vs:List (Str×V)},FDs K m H fs vs→fs.length=vs.length
 |[],_,h=>by cases h;rfl
 |_::_,_,h=>by obtain ⟨v,r',rfl,_,t⟩:=h;simp [t.len]
theorem FDs.get:∀{fs:List (Str×D)} {vs:List (Str×V)} {f:Str} {d:D},FDs K m H fs vs→fs.lookup f=some d→∃v,vs.lookup f=some v∧DV K m H d v
 |[],_,_,_,_,e=>by cases e
 |p::_,_,f,d,h,e=>by
  obtain ⟨v,r',rfl,dv,t⟩:=h
  rw [Dm] at e ⊢
  cases q:f==p.1 with
  |true=>rw [q] at e;cases e;exact ⟨v,rfl,dv⟩
  |false=>rw [q] at e;exact t.get e
theorem FDs.none:∀{fs:List (Str×D)} {vs:List (Str×V)} {f:Str},FDs K m H fs vs→fs.lookup f=none→vs.lookup f=none
 |[],_,_,h,_=>by cases h;rfl
 |p::_,_,f,h,e=>by
  obtain ⟨v,r',rfl,dv,t⟩:=h
  rw [Dm] at e ⊢
  cases q:f==p.1 with
  |true=>rw [q] at e;cases e
  |false=>rw [q] at e;exact t.none e
end
def DE (n f:Str):D→HD→Out D:=fun x h=>match x with
 |.loc l=>(match h[l]? with
  |some (.ins n' fs)=>if n'=n then (match fs.lookup f with
   |some d=>.ok d h
   |none=>.stuck) else .stuck
  |_=>.stuck)
 |_=>.stuck
def Cp (n:Str) (g:ME) (f:Str):ME:=fun ρ h=>(g ρ h).bind (DE n f)
def IZ (K:Frag) (n:Str) (fs:List Str):Prop:=∃C,nsIn K mainGlobals n=some (some (.ref C))∧Cls K C∧∀f∈fs,NoAttr K C f
section
variable {X:Cx} {E:XK}
theorem ZbJ {n f:Str} {ns:List Str} {e:Expr} {g:ME} {pos:Pos} (c:IZ X.K n ns) (he:Ev X E e g) (hf:f∈ns:=by decide) (hb:attributeBase e f X.env (eval e X.env)=eval e X.env:=by rfl):Ev X E (.Attribute e f pos) (Cp n g f):=
 BH (Wn he hb) fun σ H Q z=>by
  obtain ⟨m,ρ,h,hr,er,p⟩:=z
  refine ⟨m,ρ,h,hr,er,Post.bind p fun x h1 v m1 H1 eo p1 k1 hr1 r1 q1=>?_⟩
  clear eo
  unfold DE at q1
  split at q1
  ·rename_i l
   split at q1
   ·rename_i n' fs el
    split at q1
    ·rename_i hn
     subst hn
     split at q1
     ·rename_i d ed
      simp only [rD,DV] at r1
      obtain ⟨a,rfl,ha⟩:=r1
      obtain ⟨C,dx,fv,e1,e2,e3⟩:=hr1.cells l _ a el ha
      obtain ⟨C',c1,c2,c3⟩:=c
      rw [c1] at e1
      cases e1
      obtain ⟨v,ev,dv⟩:=e3.get ed
      exact ⟨a,C,dx,fv,v,rfl,e2,c2,c3 f hf,ev,AI hr1 q1 dv⟩
     ·exact q1.elim
    ·exact q1.elim
   ·exact q1.elim
  ·exact q1.elim
theorem R8 {K:Frag} {m:List Addr} {H:Hp} {f:Str} {d:D} {v:V} (dv:DV K m H d v):∀{fs:List (Str×D)} {vs:List (Str×V)},FDs K m H fs vs→FDs K m H (putD f d fs) (B6 f v vs)
 |[],_,h=>by cases h;exact ⟨v,[],rfl,dv,rfl⟩
 |p::r,_,h=>by
  obtain ⟨w,r',rfl,dw,t⟩:=h
  unfold putD B6
  by_cases q:p.1=f
  ·rw [if_pos q]
   simp only [q,beq_self_eq_true,if_true]
   exact ⟨v,r',rfl,dv,t⟩
  ·rw [if_neg q]
   have q':(p.1==f)=false:=by simpa using q
   simp only [q',Bl,if_false,q]
   exact ⟨w,_,rfl,dw,R8 dv t⟩
def DF (n f:Str) (x y:D) (ρ:Af) (h:HD):Out (Fl×Af):=match x with
 |.loc l=>(match h[l]? with
  |some (.ins n' fs)=>if n'=n∧fs.length<1000 then .ok (.nx,ρ) (h.set l (.ins n (putD f y fs))) else .stuck
  |_=>.stuck)
 |_=>.stuck
def Eb (n:Str) (fo:ME) (f:Str) (fv:ME):MS:=fun ρ h=>(fv ρ h).bind fun y h1=>(fo ρ h1).bind fun x h2=>DF n f x y ρ h2
theorem ZbK {n f:Str} {ns:List Str} {o e:Expr} {fo fv:ME} {tpos pos:Pos} (c:IZ X.K n ns) (ho:Ev X E o fo) (he:Ev X E e fv) (hf:f∈ns:=by decide) (hs:swapsWith e (some (.Attribute o f tpos)) pos.line X.env=pure false:=by rfl):Ex X E (.Assign [.Attribute o f tpos] e pos) (Eb n fo f fv):=
 Ek (Wo ho he hs) fun Dn σ H z=>by
  obtain ⟨m,ρ,h,hr,er,p⟩:=z
  refine ⟨m,ρ,h,hr,er,PostS.bind p fun y h1 vy m1 H1 eo1 p1 k1 hr1 r1 q1=>?_⟩
  refine ⟨m1,ρ,h1,hr1,er.keep p1 k1,PostS.bind q1 fun x h2 vx m2 H2 eo2 p2 k2 hr2 r2 q2=>?_⟩
  clear eo1 eo2
  have ry:=DV.keep p2 k2 r1
  unfold DF at q2
  split at q2
  ·rename_i l
   split at q2
   ·rename_i n' fs el
    split at q2
    ·rename_i hn
     obtain ⟨rfl,hl⟩:=hn
     simp only [rD,DV] at r2
     obtain ⟨a,rfl,ha⟩:=r2
     obtain ⟨C,dx,fv,e1,e2,e3⟩:=hr2.cells l _ a el ha
     obtain ⟨C',c1,c2,c3⟩:=c
     rw [c1] at e1
     cases e1
     refine ⟨a,C,dx,fv,rfl,e2,c2,c3 f hf,by rw [←e3.len];exact hl,?_⟩
     have kp:Kp H2 (Aj H2 a (.ins C dx (B6 f vy fv))):=.set e2 rfl
     have hr3:HR X.K m2 (h2.set l (.ins n' (putD f y fs))) (Aj H2 a (.ins C dx (B6 f vy fv))):=hr2.setCell ha e2 rfl ⟨C,dx,_,c1,Cy,(R8 ry e3).keep (Ax _) kp⟩
     exact q2 m2 _ (Ax _) kp hr3 σ (((er.keep p1 k1).keep p2 k2).keep (Ax _) kp)
    ·exact q2.elim
   ·exact q2.elim
  ·exact q2.elim
def EK (n mn:Str):D→HD→Out D:=fun x h=>match x with
 |.loc l=>(match h[l]? with
  |some (.ins n' fs)=>if n'=n∧fs.lookup mn=none then .ok x h else .stuck
  |_=>.stuck)
 |_=>.stuck
def AL (n mn:Str) (F:List D→HD→Out D) (fo:ME) (fa:MA):ME:=fun ρ h=>((fo ρ h).bind (EK n mn)).bind fun x h1=>(fa ρ h1).bind fun xs h2=>F (x::xs) h2
structure Cq (P:Program) (w:World) (K:Frag) (mg:Str→Option Value) (base:Heap) (n mn:Str) (k:Nat) (F:List D→HD→Out D):Prop where
 ex:∃(C f:Addr) (fd:FuncData) (ps:List Str),nsIn K mainGlobals n=some (some (.ref C))∧Cls K C∧JN K C mn f∧FnOk P w K mg base (AO P w K) k f fd ps (DS K F)∧Binds K fd ps []
theorem R9 {n mn:Str} {x:D} {v:V} {m1:List Addr} {H1:Hp} {h1:HD} {β:Type} {R:List Addr→Hp→D→β→Prop} {Q:β→Hp→Prop} {C:Addr} {k:D→HD→Out D} (c1:nsIn X.K mainGlobals n=some (some (.ref C))) (hr1:HR X.K m1 h1 H1) (r1:DV X.K m1 H1 x v) (q1:Post X.K R m1 H1 E Q ((EK n mn x h1).bind k)):
 ∃a dx fv,v=.ref a∧H1 a=some (.ins C dx fv)∧fv.lookup mn=none∧Post X.K R m1 H1 E Q (k x h1):=by
 unfold EK at q1
 split at q1
 ·rename_i l
  split at q1
  ·rename_i n' fs el
   split at q1
   ·rename_i hn
    obtain ⟨rfl,hl⟩:=hn
    simp only [DV] at r1
    obtain ⟨a,rfl,ha⟩:=r1
    obtain ⟨C',dx,fv,e1,e2,e3⟩:=hr1.cells l _ a el ha
    rw [c1] at e1
    cases e1
    exact ⟨a,dx,fv,rfl,e2,e3.none hl,q1⟩
   ·exact q1.elim
  ·exact q1.elim
 ·exact q1.elim
theorem ZbL {n mn:Str} {k k':Nat} {F:List D→HD→Out D} {fo:ME} {fa:MA} {o e:Expr} {es:List Expr} {apos pos:Pos} {pl:Sem Bool} (Cm:Cq X.prog X.w X.K X.mg X.base n mn k F) (hr:Room k' X.A) (hx:CM (AO X.prog X.w X.K) X E) (ho:Ev X E o fo) (ha:CV X E (e::es) fa) (hk:k≤k':=by decide)
 (hst:starEach (e::es) X.env=(false,eval e X.env)::starEach es X.env:=by rfl) (hpl:(backTo pos (starEach es X.env)).any (·.1)=false:=by rfl)
 (ht:eval (.Call (.Attribute o mn apos) (e::es) [] pos) X.env=(do
  let ov ←eval o X.env
  standAt apos.atName
  let (f,first) ←holding [ov] (getMethod ov mn pl)
  callWith pos f first (backTo pos (starEach (e::es) X.env)) (backToKw pos (keywordEach [] X.env))):=by rfl):Ev X E (.Call (.Attribute o mn apos) (e::es) [] pos) (AL n mn F fo fa):=by
 obtain ⟨C,f,fd,ps,c1,c2,c3,G,hb⟩:=Cm.ex
 refine BH (WD (E:=E) ho c2 c3 G (hr.mono hk) hb .nil hx ha hst hpl ht) fun σ H Q z=>?_
 obtain ⟨m,ρ,h,hr1,er,p⟩:=z
 unfold AL at p
 rw [Out.bind_assoc] at p
 refine ⟨m,ρ,h,hr1,er,Post.bind p fun x h1 v m1 H1 eo p1 k1 hr1 r1 q1=>?_⟩
 clear eo
 obtain ⟨a,dx,fv,rfl,e2,hl,q1⟩:=R9 c1 hr1 r1 q1
 refine ⟨a,dx,fv,rfl,e2,hl,m1,ρ,h1,hr1,er.keep p1 k1,Post.bind q1 fun xs h2 vs m2 H2 eo p2 k2 hr2 r2 q2=>?_⟩
 rw [EW]
 exact ⟨m2,x::xs,h2,hr2,.cons (DV.keep p2 k2 r1) r2,q2⟩
theorem ZbM {n mn:Str} {k k':Nat} {F:List D→HD→Out D} {fo:ME} {o:Expr} {apos pos:Pos} {pl:Sem Bool} (Cm:Cq X.prog X.w X.K X.mg X.base n mn k F) (hr:Room k' X.A) (hx:CM (AO X.prog X.w X.K) X E) (ho:Ev X E o fo) (hk:k≤k':=by decide)
 (ht:eval (.Call (.Attribute o mn apos) [] [] pos) X.env=(do
  let ov ←eval o X.env
  standAt apos.atName
  let (f,first) ←holding [ov] (getMethod ov mn pl)
  callWith pos f first (backTo pos (starEach [] X.env)) (backToKw pos (keywordEach [] X.env))):=by rfl):Ev X E (.Call (.Attribute o mn apos) [] [] pos) (AL n mn F fo Ac):=by
 obtain ⟨C,f,fd,ps,c1,c2,c3,G,hb⟩:=Cm.ex
 refine BH (WG (E:=E) ho c2 c3 G (hr.mono hk) hb .nil hx ht) fun σ H Q z=>?_
 obtain ⟨m,ρ,h,hr1,er,p⟩:=z
 unfold AL at p
 rw [Out.bind_assoc] at p
 refine ⟨m,ρ,h,hr1,er,Post.bind p fun x h1 v m1 H1 eo p1 k1 hr1 r1 q1=>?_⟩
 clear eo
 obtain ⟨a,dx,fv,rfl,e2,hl,q1⟩:=R9 c1 hr1 r1 q1
 exact ⟨a,dx,fv,rfl,e2,hl,m1,[x],h1,hr1,.cons r1 .nil,q1⟩
def Ec (n:Str) (F:List D→HD→Out D) (fa:MA):ME:=fun ρ h=>(fa ρ h).bind fun xs h1=>(F (.loc h1.length::xs) (h1++[.ins n []])).bind fun v h2=>match v with
 |.non=>.ok (.loc h1.length) h2
 |_=>.stuck
structure FJ (P:Program) (w:World) (K:Frag) (mg:Str→Option Value) (base:Heap) (n:Str) (k:Nat) (F:List D→HD→Out D):Prop where
 ex:∃(C f:Addr) (fd:FuncData) (ps:List Str),nsIn K mainGlobals n=some (some (.ref C))∧Mk K C f∧FnOk P w K mg base (AO P w K) k f fd ps (DS K F)∧Binds K fd ps []
theorem Sa {n:Str} {F:List D→HD→Out D} {C:Addr} {xs:List D} {vs:List V} {m1:List Addr} {H1:Hp} {h1:HD} {Q:VK} (c1:nsIn X.K mainGlobals n=some (some (.ref C))) (hr1:HR X.K m1 h1 H1) (r1:DVs X.K m1 H1 xs vs)
 (q:Post X.K (rD X.K) m1 H1 E Q ((F (.loc h1.length::xs) (h1++[.ins n []])).bind fun v h2=>match v with
  |.non=>.ok (.loc h1.length) h2
  |_=>.stuck)) (x dx:Addr) (hx:H1 x=none) (hdx:H1 dx=none) (ne:dx≠x):DS X.K F (.ref x::vs) (Aj (Aj H1 dx (.own x)) x (.ins C dx [])) (fun v H2=>v=.non∧Q (.ref x) H2) E:=by
 have hx2:Aj H1 dx (.own x) x=none:=by rw [AB (Ne.symm ne)];exact hx
 have kp:Kp H1 (Aj (Aj H1 dx (.own x)) x (.ins C dx [])):=(Kp.new hdx).trans (.new hx2)
 have pre:m1 <+:m1++[x]:=GX _ _
 have hr2:HR X.K (m1++[x]) (h1++[.ins n []]) (Aj (Aj H1 dx (.own x)) x (.ins C dx [])):=(hr1.new hdx).newCell hx2 ⟨C,dx,[],c1,Cy,rfl⟩
 have hm:(m1++[x])[h1.length]?=some x:=by rw [←hr1.len];simp
 refine ⟨m1++[x],.loc h1.length::xs,h1++[.ins n []],hr2,.cons (by simp only [DV];exact ⟨x,rfl,hm⟩) (r1.keep pre kp),Post.bind (q.ahead pre kp) fun v h3 u m3 H3 eo p3 k3 hr3 r3 q3=>?_⟩
 clear eo
 split at q3
 ·simp only [rD,DV] at r3
  refine ⟨r3,AI hr3 q3 ?_⟩
  simp only [DV]
  exact ⟨x,rfl,JU p3 hm⟩
 ·exact q3.elim
theorem ZbN {n:Str} {k k':Nat} {F:List D→HD→Out D} {fa:MA} {e:Expr} {es:List Expr} {p pos:Pos} (Ck:FJ X.prog X.w X.K X.mg X.base n k F) (hr:Room k' X.A) (hx:CM (AO X.prog X.w X.K) X E) (hg:Gl X n) (ha:CV X E (e::es) fa) (hk:k+1≤k':=by decide)
 (hdb:(n==("__debug__":Str))=false:=by decide) (hst:starEach (e::es) X.env=(false,eval e X.env)::starEach es X.env:=by rfl) (hpl:(backTo pos (starEach es X.env)).any (·.1)=false:=by rfl):Ev X E (.Call (.Name n p) (e::es) [] pos) (Ec n F fa):=by
 obtain ⟨C,f,fd,ps,c1,M,G,hb⟩:=Ck.ex
 intro pins s σ H Q I z
 have hm:X.mg n=some (.ref C):=PySem.W.mg_of I.mod.kin I.mod.glob c1
 refine WH (E:=E) M G (hr.mono hk) hg hm hb .nil hx ha hdb hst hpl pins s σ H Q I ?_
 obtain ⟨m,ρ,h,hr1,er,p⟩:=z
 refine ⟨m,ρ,h,hr1,er,Post.bind p fun xs h1 vs m1 H1 eo p1 k1 hr1 r1 q1=>?_⟩
 clear eo
 intro x dx h1 h2 h3
 rw [EW]
 exact Sa c1 hr1 r1 q1 x dx h1 h2 h3
theorem ZbO {n:Str} {k k':Nat} {F:List D→HD→Out D} {p pos:Pos} (Ck:FJ X.prog X.w X.K X.mg X.base n k F) (hr:Room k' X.A) (hx:CM (AO X.prog X.w X.K) X E) (hg:Gl X n) (hk:k+1≤k':=by decide)
 (hdb:(n==("__debug__":Str))=false:=by decide):Ev X E (.Call (.Name n p) [] [] pos) (Ec n F Ac):=by
 obtain ⟨C,f,fd,ps,c1,M,G,hb⟩:=Ck.ex
 intro pins s σ H Q I z
 have hm:X.mg n=some (.ref C):=PySem.W.mg_of I.mod.kin I.mod.glob c1
 refine WI (E:=E) M G (hr.mono hk) hg hm hb .nil hx (hdb:=hdb) pins s σ H Q I ?_
 obtain ⟨m,ρ,h,hr1,er,p⟩:=z
 intro x dx h1 h2 h3
 exact Sa c1 hr1 .nil p x dx h1 h2 h3
end
end LS
namespace LS
open PySem PySem.Spec PyProof.Rows L2 PySem.W
structure TbOk (K:Frag) (h:Heap) (t:Str×Addr×Addr):Prop where
 tp:tabP K t.1=some (t.2.1,t.2.2)
 hd:codeHdIn K t.2.1 t.2.2=true
 at_:h.get? t.2.2=some (tabObj #[])
 no:K.lookup t.2.2=none
theorem ZbP {P:Program} {w:World} {K:Frag} {mg mb:Str→Option Value} {k:Nat} {fa a:Addr} {fd:FuncData} {x:Str} {F:List D→HD→Out D} {s₁:Shared} {vs:List Value} {ns:List Int} {ts:List (Str×Addr×Addr)}
 (KX:K.In s₁.heap) (hns:s₁.heap.Ns mainGlobals mg) (hb:s₁.heap.Ns builtinsNs mb) (hbb:∀x:Str,x≠"__name__"→mb x=bootBuiltins x) (hlim:s₁.heap.NoLimit) (hg:s₁.gens=#[]) (hbm:IJ mg s₁.heap)
 (ha:s₁.heap.get? a=some {cls:=.type "list",data:=.seq vs.toArray}) (hi:IntsAre vs ns) (hl:ns.length≤sizeLine) (hr:Room k callerA)
 (ht:∀t∈ts,TbOk K s₁.heap t) (nd:(ts.map (·.2.2)).Nodup)
 (FF:∀base:Heap,K.In base→base.Ns mainGlobals mg→IJ mg base→FnOk P w K mg base (AO P w K) k fa fd [x] (DS K F)) (hbind:∀(s:Shared) (u:Value),BindsTo s fd ⟨[u],[]⟩ [(x,u)])
 (hF:∃h',F [.scr ns] (ts.map fun t=>.tabn t.1)=.ok (.bl true) h'):
 codeAny (model P w) callerA (.call (.ref fa) ⟨[.ref a],[]⟩) (fun r s'=>r=.ok (.ret (.bool true))∧OldK s₁.heap s'.heap∧s'.os=s₁.os∧AllBare s'.gens) s₁:=by
 have rv:=L2.vals_ints hi
 have lenV:=hi.length
 obtain ⟨Ts,hTs⟩:∃Ts,Ts=ts.map (·.2.2):=⟨_,rfl⟩
 rw [←hTs] at nd
 have inT:∀b,b∈Ts→∃t∈ts,b=t.2.2∧TbOk K s₁.heap t:=fun b hb=>by
  rw [hTs] at hb
  obtain ⟨t,h1,rfl⟩:=qaR.mp hb
  exact ⟨t,h1,rfl,ht t h1⟩
 have atT:∀b,b∈Ts→s₁.heap.get? b=some (tabObj #[])∧K.lookup b=none:=fun b hb=>by
  obtain ⟨t,_,rfl,q⟩:=inT b hb
  exact ⟨q.at_,q.no⟩
 have aT:a∉Ts:=fun z=>by
  have:=(atT a z).1
  rw [this] at ha;cases ha
 have core:∀H:Hp,(∀b,b∈Ts∨H b=none∨∃o xs,H b=some (.frz o (.lst xs)))→(∀b∈Ts,H b=some (.tbl #[]))→FzL K H a (ns.map V.int)→HOk P w H s₁.heap→(∀b,H b≠none→b=a∨b∈Ts)→(H a≠none→K.lookup a=none)→
  codeAny (model P w) callerA (.call (.ref fa) ⟨[.ref a],[]⟩) (fun r s'=>r=.ok (.ret (.bool true))∧OldK s₁.heap s'.heap∧s'.os=s₁.os∧AllBare s'.gens) s₁:=by
  intro H hO hHT hS hok hA hK
  have base_of:∀{b:Addr} {o:Obj},s₁.heap.get? b=some o→H b=none→(Ei s₁.heap H).get? b=some o:=fun e n=>U2 e n
  have noA:∀{b:Addr} {o:Obj},s₁.heap.get? b=some o→(∀its n,o.data≠.seq its n)→(∀ws,o.data≠.fields ws)→H b=none:=fun {b o} e d1 d2=>by
   cases q:H b with
   |none=>rfl
   |some u=>
    rcases hA b (by rw [q];simp) with e' |e'
    ·subst e'
     rw [ha] at e;cases e
     exact absurd rfl (d1 _ _)
    ·rw [(atT b e').1] at e;cases e
     exact absurd rfl (d2 _)
  have nsK:∀{b:Addr} {m:Str→Option Value},s₁.heap.Ns b m→(Ei s₁.heap H).Ns b m:=fun {b m} ⟨o,es,ep,e,d,r⟩=>⟨o,es,ep,base_of e (noA e (fun _ _ z=>by rw [d] at z;cases z) (fun _ z=>by rw [d] at z;cases z)),d,r⟩
  have hKb:K.In (Ei s₁.heap H):=fun b o e=>base_of (KX b o e) (by
   cases q:H b with
   |none=>rfl
   |some u=>
    rcases hA b (by rw [q];simp) with e' |e'
    ·subst e'
     rw [hK (by rw [q];simp)] at e;cases e
    ·rw [(atT b e').2] at e;cases e)
  have hM:Mod K mg (Ei s₁.heap H):=⟨hKb,nsK hns,⟨mb,nsK hb,hbb⟩,let ⟨mc,h1,h2⟩:=hlim;⟨mc,nsK h1,h2⟩⟩
  have e0:Env0 P w K mg (Ei s₁.heap H) callerA [] s₁ H:=⟨rfl,hM,fun b o e=>U3 e,GZ (U1 _ _),trivial,fun b hb=>absurd (show b∈([]:List Addr) from hb) (by simp),hok,.of_eq hg⟩
  have hBM:IJ mg (Ei s₁.heap H):=by
   obtain ⟨bm,o,h1,h2,h3,h4,h5,h6⟩:=hbm
   exact ⟨bm,o,h1,h2,base_of h3 (noA h3 (fun _ _ z=>by rw [h6] at z;cases z) (fun _ z=>by rw [h6] at z;cases z)),h4,h5,h6⟩
  have hsp:DS K F [.ref a] H (fun v _=>v=.bl true) fun _ _ _=>False:=by
   obtain ⟨h',e⟩:=hF
   refine ⟨Ts,[.scr ns],ts.map fun t=>.tabn t.1,⟨by rw [hTs,Bt,Bt],nd,fun l cc b e1 e2=>?_⟩,.cons (by simp only [DV];exact ⟨a,rfl,hS⟩) .nil,?_⟩
   ·rw [CK] at e1
    rw [hTs,CK] at e2
    cases q:ts[l]? with
    |none=>rw [q] at e1;cases e1
    |some t=>
     rw [q] at e1 e2
     cases e1
     cases e2
     have hm:t∈ts:=EV q
     exact ⟨⟨t.2.1,(ht t hm).tp⟩,#[],hHT _ (by rw [hTs];exact qaR.mpr ⟨t,hm,rfl⟩),trivial,fun pos cv z=>by simp [codeAmong] at z⟩
   ·rw [e]
    intro v m' H' _ _ _ r
    simpa [rD,DV] using r
  refine codeAny_mono ((FF _ hKb (nsK hns) hBM).run callerA [] s₁ H ⟨[.ref a],[]⟩ [.ref a] [.ref a] _ _ hr e0 (hbind s₁ (.ref a)) (.cons rfl .nil) hsp) fun r s' h=>?_
  cases r with
  |error e=>
   obtain ⟨_,_,_,_,_,_,_,_,_,_,_,_,q⟩:=h
   exact q.elim
  |ok fl=>
   cases fl with
   |next=>exact False.elim h
   |brk=>exact False.elim h
   |cont=>exact False.elim h
   |ret u=>
    obtain ⟨v,H',os,bare,un,hok',r',q⟩:=h
    have q':v=.bl true:=q
    subst q'
    obtain rfl:u=Value.bool true:=r'
    have keepO:∀b o,b∉Ts→s₁.heap.get? b=some o→s'.heap.get? b=some o:=fun b o hbT e=>by
     cases q:H b with
     |none=>exact un.keep b o e q (by intro z;exact absurd (show b∈([]:List Addr) from z) (by simp)) (by simp)
     |some u=>
      rcases hO b with z |z |⟨ob,xs,z⟩
      ·exact absurd z hbT
      ·rw [q] at z;cases z
      ·have z2:=un.frzs b ob _ z
       obtain ⟨e1,_⟩:=hok b _ z
       obtain ⟨e2,_⟩:=hok' b _ z2
       rw [e] at e1;cases e1
       exact e2
    have T2:∀b,b∈Ts→∃more,s'.heap.get? b=some (tabObj (#[]++more)):=fun b hb=>by
     obtain ⟨more,hT'⟩:=un.tbls b _ (hHT b hb)
     exact ⟨more,hok' b _ hT'⟩
    refine ⟨rfl,⟨fun b o e=>?_,fun b o e=>?_⟩,os,bare⟩
    ·by_cases hbT:b∈Ts
     ·obtain ⟨more,hT2⟩:=T2 b hbT
      obtain ⟨t,_,rfl,q⟩:=inT b hbT
      rw [q.at_] at e
      cases e
      exact .inr (.inl ⟨((codeHd_of_K KX q.hd).tab q.at_).isCodeTable,rfl,#[],more,rfl,hT2⟩)
     ·exact .inl (keepO b o hbT e)
    ·by_cases hbT:b∈Ts
     ·obtain ⟨more,hT2⟩:=T2 b hbT
      exact ⟨_,hT2⟩
     ·exact ⟨o,keepO b o hbT e⟩
 cases hk:K.lookup a with
 |some o=>
  have e:=KX a o hk
  rw [ha] at e
  cases e
  refine core (fun b=>if b∈Ts then some (.tbl #[]) else none) (fun b=>?_) (fun b hb=>if_pos hb) (.inr (.inr ⟨_,vs.toArray,_,hk,rfl,rfl,rfl,by rw [Bs,lenV];exact hl,by simpa using rv⟩)) (fun b u z=>?_) (fun b z=>?_) fun z=>absurd (if_neg aT) z
  ·by_cases hb:b∈Ts
   ·exact .inl hb
   ·exact .inr (.inl (if_neg hb))
  ·by_cases hb:b∈Ts
   ·have z':=(if_pos hb).symm.trans z
    cases z'
    exact (atT b hb).1
   ·have z':=(if_neg hb).symm.trans z
    cases z'
  ·by_cases hb:b∈Ts
   ·exact .inr hb
   ·exact absurd (if_neg hb) z
 |none=>
  refine core (fun b=>if b∈Ts then some (.tbl #[]) else if b=a then some (.frz {cls:=.type "list",data:=.seq vs.toArray} (.lst (ns.map V.int))) else none) (fun b=>?_) (fun b hb=>if_pos hb) (.inl ⟨{cls:=.type "list",data:=.seq vs.toArray},(if_neg aT).trans (if_pos rfl)⟩) (fun b u z=>?_) (fun b z=>?_) fun _=>hk
  ·by_cases hb:b∈Ts
   ·exact .inl hb
   ·by_cases hba:b=a
    ·exact .inr (.inr ⟨_,_,(if_neg hb).trans (if_pos hba)⟩)
    ·exact .inr (.inl ((if_neg hb).trans (if_neg hba)))
  ·by_cases hb:b∈Ts
   ·have z':=(if_pos hb).symm.trans z
    cases z'
    exact (atT b hb).1
   ·have z1:=(if_neg hb).symm.trans z
    by_cases hba:b=a
    ·have z':=(if_pos hba).symm.trans z1
     cases z'
     subst hba
     exact ⟨ha,by rw [Bt];exact hl,vs,_,rv,ha⟩
    ·have z':=(if_neg hba).symm.trans z1
     cases z'
  ·by_cases hb:b∈Ts
   ·exact .inr hb
   ·by_cases hba:b=a
    ·exact .inl hba
    ·exact absurd ((if_neg hb).trans (if_neg hba)) z
end LS
namespace Tp
open PySem PySem.W PySem.Spec PySem.Calls PyProof.Rows
abbrev NJ (n m:Str) (st:Stmt):FuncData:=fnOf m (n++(".":Str)++m) (L2.defArgs st) (L2.defBody st) (L2.defScope st) .none .none .none .none none .none .none
def NK (K:Frag) (n m:Str):Option (FuncData×Bool×Bool×Bool):=match nsIn K mainGlobals n with
 |some (some (.ref C))=>(match findIn K (.ref C) m with
  |some (some (.ref f))=>(match K.lookup f with
   |some ⟨_,_,.func fd,_⟩=>some (blank fd,codeIn K fd.code (n++(".":Str)++m),isFn K (.ref f),keepIn K (.ref f))
   |_=>none)
  |_=>none)
 |_=>none
inductive SeenM (K:Frag) (n m:Str) (st:Stmt):Prop where
 |mk (C f:Addr) (od an:Option Addr) (sl:Array (Option Value)) (oc kV dc pm cd ct:Value) (a:nsIn K mainGlobals n=some (some (.ref C))) (b:findIn K (.ref C) m=some (some (.ref f)))
  (l:K.lookup f=some ⟨oc,od,.func (fnOf m (n++(".":Str)++m) (L2.defArgs st) (L2.defBody st) (L2.defScope st) .none kV dc pm an cd ct),sl⟩) (c:codeIn K cd (n++(".":Str)++m)=true) (fn:isFn K (.ref f)=true) (k:keepIn K (.ref f)=true):SeenM K n m st
theorem ZbQ {K:Frag} {n m:Str} {st:Stmt} (e:NK K n m=some (NJ n m st,true,true,true)):SeenM K n m st:=by
 unfold NK at e
 split at e
 ·rename_i C hC
  split at e
  ·rename_i f hf
   split at e
   ·rename_i oc od fd sl hl
    obtain ⟨e1,e2⟩:=Prod.mk.inj (Option.some.inj e)
    obtain ⟨e3,e4⟩:=Prod.mk.inj e2
    obtain ⟨e4,e5⟩:=Prod.mk.inj e4
    obtain ⟨x1,x2,x3,x4,x5,x6,x7,x8,x9,x10,x11,x12,x13,x14,x15⟩:=fd
    replace e1:FuncData.mk x1 x2 x3 x4 x5 x6 x7 x8 .none .none .none none .none .none x15=NJ n m st:=e1
    injection e1 with y1 y2 y3 y4 y5 y6 y7 y8 y9 y10 y11 y12 y13 y14 y15
    subst x1 x2 x3 x4 x5 x6 x7 x8 x15
    exact ⟨C,f,od,x12,sl,oc,x9,x10,x11,x13,x14,hC,hf,hl,e3,e4,e5⟩
   ·cases e
  ·cases e
 ·cases e
def Sb (K:Frag) (C:Addr) (f:Str):Bool:=match findIn K (.ref C) f with
 |some none=>true
 |_=>false
def NL (K:Frag) (n:Str) (fs:List Str):Bool:=match nsIn K mainGlobals n with
 |some (some (.ref C))=>plainGet K C Str.empty&&hasDictIn K C&&plainOver K C&&(match findIn K (.ref C) "__setattr__" with
  |some (some (.builtin id))=>id=="object.__setattr__"
  |_=>false)&&makesIn K C&&keepIn K (.ref C)&&fs.all (Sb K C)
 |_=>false
inductive SeenC (K:Frag) (n:Str) (fs:List Str):Prop where
 |mk (C:Addr) (a:nsIn K mainGlobals n=some (some (.ref C))) (c:L2.Cls K C) (m:makesIn K C=true) (k:keepIn K (.ref C)=true) (f:∀f∈fs,L2.NoAttr K C f):SeenC K n fs
theorem ZbR {K:Frag} {n:Str} {fs:List Str} (e:NL K n fs=true):SeenC K n fs:=by
 unfold NL at e
 split at e
 ·rename_i C hC
  simp only [BX] at e
  obtain ⟨⟨⟨⟨⟨⟨e1,e2⟩,e3⟩,e4⟩,e5⟩,e6⟩,e7⟩:=e
  refine ⟨C,hC,⟨e1,e2,e3,?_⟩,e5,e6,fun f hf=>?_⟩
  ·split at e4
   ·rename_i id h
    rw [h,beq_iff_eq.mp e4]
   ·cases e4
  ·have:=qaI.mp e7 f hf
   unfold Sb at this
   split at this
   ·assumption
   ·cases this
 ·cases e
def NM (K:Frag) (h:Heap) (g:Str):Option (Option Obj×Bool×Bool):=match LS.tabP K g with
 |some (c,T)=>some (h.get? T,codeHdIn K c T,(K.lookup T).isNone)
 |none=>none
def tbAt (K:Frag) (g:Str):Addr×Addr:=(LS.tabP K g).getD (0,0)
def tbsOf (K:Frag) (gs:List Str):List (Str×Addr×Addr):=gs.map fun g=>(g,tbAt K g)
def NO:List Addr→Bool
 |[]=>true
 |a::l=>!(l.contains a)&&NO l
theorem Se:∀{l:List Addr},NO l=true→l.Nodup
 |[],_=>List.nodup_nil
 |a::l,h=>by
  obtain ⟨h1,h2⟩:=qbD.mp h
  refine qbA.mpr ⟨fun z=>?_,Se h2⟩
  have:l.contains a=true:=List.contains_iff_mem.mpr z
  rw [this] at h1;cases h1
structure WantZ where
 w:Want
 ms:List (Str×Str×Stmt)
 cl:List (Str×List Str)
 gs:List Str
 ss:List (Str×Str)
 ts:List (Str×List (List Int)):=[]
abbrev Sg:=(List (Option (FuncData×Bool×Bool))×List (Option Int)×List (Option (Option Value))×Bool)×List (Option (FuncData×Bool×Bool×Bool))×List Bool×List (Option (Option Obj×Bool×Bool))×Bool×Bool
noncomputable def obsZ (W:WantZ) (s:Shared):Sg:=fL (Hr s.heap) fun K=>
 ((W.w.fs.map fun x=>Gm K x.1,W.w.cs.map fun x=>Gn K x.1,W.w.bs.map (nsIn K mainGlobals),LS.etOk K),W.ms.map fun x=>NK K x.1 x.2.1,W.cl.map fun x=>NL K x.1 x.2,W.gs.map fun g=>NM K s.heap g,NO (W.gs.map fun g=>(tbAt K g).2),KR K W.ss&&W.ts.all fun x=>LS.brdIn K x.1 x.2)
def valZ (W:WantZ):Sg:=((W.w.fs.map fun x=>some (IQ x.1 x.2,true,true),W.w.cs.map fun x=>some x.2,W.w.bs.map fun _=>some none,true),W.ms.map fun x=>some (NJ x.1 x.2.1 x.2.2,true,true,true),W.cl.map fun _=>true,W.gs.map fun _=>some (some (tabObj #[]),true,true),true,true)
structure HasZ (W:WantZ) (K:Frag):Prop where
 fs:∀(i:Nat) n st,W.w.fs[i]?=some (n,st)→SeenF K n st
 cs:∀(i:Nat) n v,W.w.cs[i]?=some (n,v)→∃t,nsIn K mainGlobals n=some (some (.int v t))
 bs:∀(i:Nat) n,W.w.bs[i]?=some n→nsIn K mainGlobals n=some none
 et:LS.etOk K=true
 ms:∀(i:Nat) n m st,W.ms[i]?=some (n,m,st)→SeenM K n m st
 cl:∀(i:Nat) n fs,W.cl[i]?=some (n,fs)→SeenC K n fs
 tb:∀(i:Nat) g,W.gs[i]?=some g→LS.tabP K g=some (tbAt K g)∧codeHdIn K (tbAt K g).1 (tbAt K g).2=true
 ss:KR K W.ss=true
 ts:∀(i:Nat) n rs,W.ts[i]?=some (n,rs)→LS.brdIn K n rs=true
def SaysZ (W:WantZ) (_:World) (h:Heap):Prop:=∃K:Frag,K.In h∧HasZ W K∧(∀t∈tbsOf K W.gs,LS.TbOk K h t)∧((tbsOf K W.gs).map (·.2.2)).Nodup
theorem SaysZ.keeps {W:WantZ} (w:World) (h h':Heap) (x:SaysZ W w h) (k:∀b o,h.get? b=some o→h'.get? b=some o):SaysZ W w h':=by
 obtain ⟨K,h1,h2,h3,h4⟩:=x
 exact ⟨K,h1.keeps k,h2,fun t ht=>let q:=h3 t ht;⟨q.tp,q.hd,k _ _ q.at_,q.no⟩,h4⟩
theorem Sh {K:Frag} {h:Heap} {g:Str} (e:NM K h g=some (some (tabObj #[]),true,true)):LS.TbOk K h (g,tbAt K g):=by
 unfold NM at e
 split at e
 ·rename_i c T hT
  obtain ⟨a1,a2⟩:=Prod.mk.inj (Option.some.inj e)
  obtain ⟨a2,a3⟩:=Prod.mk.inj a2
  have:tbAt K g=(c,T):=by unfold tbAt;rw [hT];rfl
  refine ⟨?_,?_,?_,?_⟩
  ·rw [this];exact hT
  ·rw [this];exact a2
  ·rw [this];exact a1
  ·rw [this];exact Option.isNone_iff_eq_none.mp a3
 ·cases e
theorem saysZ_of {W:WantZ} (w:World) (s:Shared) (e:obsZ W s=valZ W):SaysZ W w s.heap:=by
 unfold obsZ valZ at e
 rw [IP] at e
 obtain ⟨e0,e⟩:=Prod.mk.inj e
 obtain ⟨e1,e0⟩:=Prod.mk.inj e0
 obtain ⟨e2,e0⟩:=Prod.mk.inj e0
 obtain ⟨e3,e4⟩:=Prod.mk.inj e0
 obtain ⟨e5,e⟩:=Prod.mk.inj e
 obtain ⟨e6,e⟩:=Prod.mk.inj e
 obtain ⟨e7,e⟩:=Prod.mk.inj e
 obtain ⟨e8,e9⟩:=Prod.mk.inj e
 refine ⟨_,ZaM _,⟨fun i n st h=>ZaN (Gp e1 h),fun i n v h=>ZaO (Gp e2 h),fun i n h=>Gp e3 h,e4,fun i n m st h=>ZbQ (Gp (x:=(n,m,st)) e5 h),fun i n fs h=>ZbR (Gp (x:=(n,fs)) e6 h),fun i g h=>?_,(qbD.mp e9).1,fun i n rs h=>?_⟩,fun t ht=>?_,?_⟩
 ·have q:=Sh (Gp e7 h)
  exact ⟨q.tp,q.hd⟩
 ·have:=qaI.mp (qbD.mp e9).2 (n,rs) (EV h)
  exact this
 ·obtain ⟨g,hg,rfl⟩:=qaR.mp ht
  obtain ⟨i,hi,rfl⟩:=HW hg
  exact Sh (Gp e7 (BK hi))
 ·have:=Se e8
  unfold tbsOf
  rw [EY]
  exact this
end Tp
namespace LS
open PySem PySem.W PySem.Spec PySem.Calls PyProof.Rows L2
theorem walk_hdZ {l:OpenLaw} {n k:Nat} {q:Program} {loose:List Str} {XP:(Str→Option Value)→Heap→Prop} {W:Tp.WantZ} {d:DefRec} {x:Str} {F:List D→HD→Out D}
 (hn:l.most=some n) (hn2:n≤sizeLine) (hdf:d.params.defaults=[]) (hr:Room k callerA)
 (Fn:∀(w:World) (K:Frag) (mg:Str→Option Value) (fa:Addr) (h:Heap),Tp.HasZ W K→K.In h→h.Ns mainGlobals mg→mg d.name=some (.ref fa)→
  ∃fd:FuncData,(∀(s:Shared) (u:Value),BindsTo s fd ⟨[u],[]⟩ [(x,u)])∧
   ∀base:Heap,K.In base→base.Ns mainGlobals mg→IJ mg base→FnOk l.prog w K mg base (AO l.prog w K) k fa fd [x] (DS K F))
 (hF:∀ns:List Int,ns.length≤n→(∀i∈ns,Builtin.Int.intBits i≤2^20)→∃h',F [.scr ns] (W.gs.map fun g=>.tabn g)=.ok (.bl true) h'):
 WalkO q loose XP (Tp.SaysZ W) l.row.toRowW d [] (fun f vs=>PySem.call f vs):=by
 refine Att.attach_bits hn hdf fun w s₀ s₁ mg mb fa o pm cd doc a vs ns hbits G Y ho hd hcd' hmg hobj hints hlen hg=>?_
 obtain ⟨K,KX,HS,h3,h4⟩:=Y
 obtain ⟨fd,hb,hF'⟩:=Fn w K mg fa _ HS KX G.T.g hmg
 obtain ⟨bm,ob,b1,b2,b3,b4,b5,b6⟩:=G.T.bmain
 have hF2:=hF ns hlen hbits
 have e:(W.gs.map fun g=>Cell.tabn g)=((Tp.tbsOf K W.gs).map fun t=>Cell.tabn t.1):=by unfold Tp.tbsOf;rw [EY];rfl
 rw [e] at hF2
 exact ZbP KX G.T.g G.T.b G.T.builtins G.T.nolimit hg ⟨bm,ob,b1,b2,b3,b4,b5,b6⟩ hobj hints (BG hlen hn2) hr h3 h4 hF' hb hF2
end LS
namespace LS
open PySem PySem.Spec PyProof.Rows L2 PySem.W PySem.Calls
def FK:Stmt→Nat→Stmt
 |.ClassDef _ _ _ body _ _ _ _ _ _ _,j=>body.getD j (.Pass ⟨0,0,0,0⟩)
 |_,_=>.Pass ⟨0,0,0,0⟩
section
variable {P:Program} {w:World} {K:Frag} {mg:Str→Option Value} {base h:Heap} {n m:Str} {st:Stmt} {N ps:List Str} {k:Nat} {g:MS}
theorem HA {fl:List Str} (S:Tp.SeenM K n m st) (Sc:Tp.SeenC K n fl)
 (b:N.Nodup→∀(f:Addr) (cdv:Value) (A:Around) (outer:List Env) (s:Shared) (H:Hp) (E:XK),Room k (A.deeper (envOfC (n++(".":Str)++m) (defScope st) s.heap.objs.size f cdv))→Cz (BO (AO P w K) P w K mg base N (n++(".":Str)++m) (defScope st) f cdv A outer s H E) E (defBody st) g)
 (bd:∀(kV doc pm:Value) (an:Option Addr) (cdv ct:Value) (us:List Value),us.length=ps.length→bindArgs (PySem.W.fnOf m (n++(".":Str)++m) (defArgs st) (defBody st) (defScope st) .none kV doc pm an cdv ct) ⟨us,[]⟩=pure (ps.zip us):=by
  intro _ _ _ _ _ _ us hl;rcases us with _ |⟨_,_ |⟨_,_ |⟨_,_ |⟨_,_⟩⟩⟩⟩<;>first |rfl |exact absurd hl (by simp)) (sc:Dq N ps (defScope st):=by exact ⟨rfl,rfl,rfl,by decide +kernel,rfl,by decide +kernel,by decide +kernel⟩):Cq P w K mg base n m (k+1) (AU ps.length N.length g):=by
 obtain ⟨C,f,od,an,sl,oc,kV,dc,pm,cd,ct,a,bf,l,c,fn,kp⟩:=S
 obtain ⟨C',a',c1,_,_,_⟩:=Sc
 rw [a] at a'
 cases a'
 have F:=JT l c kp
 exact ⟨C,f,_,ps,a,c1,⟨bf,fn,kp⟩,M0 F sc (fun ds h e=>if_neg e) (fun ds h e=>if_pos e) (fun cdv A outer s H E hr=>b sc.nd f cdv A outer s H E hr),F.binds bd⟩
theorem Si {fl:List Str} (S:Tp.SeenM K n "__init__" st) (Sc:Tp.SeenC K n fl)
 (b:N.Nodup→∀(f:Addr) (cdv:Value) (A:Around) (outer:List Env) (s:Shared) (H:Hp) (E:XK),Room k (A.deeper (envOfC (n++(".":Str)++"__init__") (defScope st) s.heap.objs.size f cdv))→Cz (BO (AO P w K) P w K mg base N (n++(".":Str)++"__init__") (defScope st) f cdv A outer s H E) E (defBody st) g)
 (bd:∀(kV doc pm:Value) (an:Option Addr) (cdv ct:Value) (us:List Value),us.length=ps.length→bindArgs (PySem.W.fnOf "__init__" (n++(".":Str)++"__init__") (defArgs st) (defBody st) (defScope st) .none kV doc pm an cdv ct) ⟨us,[]⟩=pure (ps.zip us):=by
  intro _ _ _ _ _ _ us hl;rcases us with _ |⟨_,_ |⟨_,_ |⟨_,_ |⟨_,_⟩⟩⟩⟩<;>first |rfl |exact absurd hl (by simp)) (sc:Dq N ps (defScope st):=by exact ⟨rfl,rfl,rfl,by decide +kernel,rfl,by decide +kernel,by decide +kernel⟩):FJ P w K mg base n (k+1) (AU ps.length N.length g):=by
 obtain ⟨C,f,od,an,sl,oc,kV,dc,pm,cd,ct,a,bf,l,c,fn,kp⟩:=S
 obtain ⟨C',a',c1,c2,c3,_⟩:=Sc
 rw [a] at a'
 cases a'
 have F:=JT l c kp
 exact ⟨C,f,_,ps,a,⟨c2,bf,fn,c3⟩,M0 F sc (fun ds h e=>if_neg e) (fun ds h e=>if_pos e) (fun cdv A outer s H E hr=>b sc.nd f cdv A outer s H E hr),F.binds bd⟩
theorem Cr {fl:List Str} (Sc:Tp.SeenC K n fl):IZ K n fl:=by
 obtain ⟨C,a,c,_,_,f⟩:=Sc
 exact ⟨C,a,c,f⟩
theorem tab_cdG {x:Str} {c T f:Addr} {oc kV dc pm cd ct:Value} {od an:Option Addr} {sl:Array (Option Value)} {st:Stmt} (h:tabP K x=some (c,T)) (a:nsIn K mainGlobals x=some (some (.ref f)))
 (l:K.lookup f=some ⟨oc,od,.func (fnOf x x (L2.defArgs st) (L2.defBody st) (L2.defScope st) .none kV dc pm an cd ct),sl⟩):cd=.ref c:=by
 unfold LS.tabP at h
 rw [a] at h
 dsimp only at h
 rw [l] at h
 dsimp only at h
 split at h
 ·split at h
  ·split at h
   ·cases h;rfl
   ·cases h
  ·cases h
 ·cases h
end
section
variable {prog:Program} {w:World} {A:Around} {E:Value→Shared→Prop} {s:Shared}
end
section
variable {X:Cx} {E:XK}
def Zh0 (K:Frag) (n:Nat) (t:EZ):TG:=fun v σ H Q=>∃a xs,v=.ref a∧SqL K H a xs∧xs.length=n∧t xs σ H Q
def Sj (i j:Nat) (d:D) (ρ:Af) (h:HD):Out (Fl×Af):=match d with
 |.loc l=>(match h[l]? with
  |some (.lst [x,y])=>.ok (.nx,(ρ.set i (some x)).set j (some y)) h
  |_=>.stuck)
 |_=>.stuck
def Sk (i j:Nat) (f:ME):MS:=fun ρ h=>(f ρ h).bind fun d h1=>Sj i j d ρ h1
def Zh1:D→D→HD→Out D:=fun x y h=>match x,y with
 |.tup _,.tup [.int _,.int _]=>.ok (.bl true) h
 |_,_=>CW true x y h
end
section
variable {n mn f:Str} {g fo fv:ME} {fa:MA} {F:List D→HD→Out D} {ρ:Af} {h:HD} {Q:D→HD→Prop} {QS:Fl×Af→HD→Prop} {R:Str→List (Str×D)→HD→Prop} {i j:Nat}
@[simp] theorem Zh2:Wp (Cp n g f ρ h) Q=Wp (g ρ h) fun x h1=>Wp (DE n f x h1) Q:=by unfold Cp;rw [Ao]
@[simp] theorem Gu:We (Cp n g f ρ h) Q R=We (g ρ h) (fun x h1=>We (DE n f x h1) Q R) R:=by unfold Cp;rw [B2]
@[simp] theorem ZbS:Wp (Eb n fo f fv ρ h) QS=Wp (fv ρ h) fun y h1=>Wp (fo ρ h1) fun x h2=>Wp (DF n f x y ρ h2) QS:=by unfold Eb;simp only [Ao]
@[simp] theorem Zh3:We (Eb n fo f fv ρ h) QS R=We (fv ρ h) (fun y h1=>We (fo ρ h1) (fun x h2=>We (DF n f x y ρ h2) QS R) R) R:=by unfold Eb;simp only [B2]
@[simp] theorem ZbT:Wp (AL n mn F fo fa ρ h) Q=Wp (fo ρ h) fun x h1=>Wp (EK n mn x h1) fun x h2=>Wp (fa ρ h2) fun xs h3=>Wp (F (x::xs) h3) Q:=by unfold AL;simp only [Ao]
@[simp] theorem Ed:We (AL n mn F fo fa ρ h) Q R=We (fo ρ h) (fun x h1=>We (EK n mn x h1) (fun x h2=>We (fa ρ h2) (fun xs h3=>We (F (x::xs) h3) Q R) R) R) R:=by unfold AL;simp only [B2]
def KY (l:Nat) (v:D) (h:HD):Out D:=match v with
 |.non=>.ok (.loc l) h
 |_=>.stuck
@[simp] theorem Sl {l:Nat}:KY l .non h=.ok (.loc l) h:=rfl
@[simp] theorem Sn:Wp (Ec n F fa ρ h) Q=Wp (fa ρ h) fun xs h1=>Wp (F (.loc h1.length::xs) (h1++[.ins n []])) fun v h2=>Wp (KY h1.length v h2) Q:=by unfold Ec;simp only [Ao];rfl
@[simp] theorem Zh4:We (Ec n F fa ρ h) Q R=We (fa ρ h) (fun xs h1=>We (F (.loc h1.length::xs) (h1++[.ins n []])) (fun v h2=>We (KY h1.length v h2) Q R) R) R:=by unfold Ec;simp only [B2];rfl
@[simp] theorem Zh5:Wp (Sk i j g ρ h) QS=Wp (g ρ h) fun d h1=>Wp (Sj i j d ρ h1) QS:=by unfold Sk;rw [Ao]
end
end LS
namespace LS
open PySem PySem.Spec PyProof.Rows L2 PySem.W
section
variable {X:Cx} {E:XK} {e:Expr} {f:ME}
def Gv:D→D→HD→Out D:=fun x y h=>match x,y with
 |.str i,.str j=>.ok (.bl (!(!(Builtin.Str.occurrences j i 0 j.length 1).isEmpty))) h
 |_,_=>.stuck
theorem ZbU:By X (compareOp .NotIn) Gv:=by
 refine ⟨_,W8,fun m H h E x y v u Q hr rx ry q=>?_⟩
 unfold Gv at q
 split at q
 ·simp only [DV] at rx ry
  subst rx ry
  exact ⟨_,_,rfl,rfl,AI hr q (by simp [DV])⟩
 ·exact q.elim
def FL:D→D→HD→Out D:=fun x y h=>match x,y with
 |.str i,.str j=>.ok (.bl (!(Builtin.Str.occurrences j i 0 j.length 1).isEmpty)) h
 |_,_=>.stuck
theorem ZbV:By X (compareOp .In) FL:=by
 refine ⟨_,VZ,fun m H h E x y v u Q hr rx ry q=>?_⟩
 unfold FL at q
 split at q
 ·simp only [DV] at rx ry
  subst rx ry
  exact ⟨_,_,rfl,rfl,AI hr q (by simp [DV])⟩
 ·exact q.elim
def Dd:D→HD→Out D:=fun d h=>match d with
 |.str z=>if z.length≤sizeLine then .ok (.int z.length) h else .stuck
 |_=>.stuck
theorem ZbW:Dj X (.builtin "len") (Ak Dd):=by
 refine ⟨_,Xa,fun m H h E ds vs Q hr r q=>F7 r q fun d v ev rv q=>?_⟩
 unfold Dd at q
 split at q
 ·simp only [DV] at rv;subst rv
  split at q
  ·rename_i hl
   exact ⟨_,ev,hl,AI hr q (by simp [DV])⟩
  ·exact q.elim
 ·exact q.elim
theorem ZbX:Dp X (.type "int") (fun xs H Q=>∃x n,xs=[.str x]∧x.length≤640∧PySem.intText? x=some n∧Q (.int n) H):=by
 intro pins s σ H xs us Q I r h
 obtain ⟨x,n,rfl,hl,hn,q⟩:=h
 obtain ⟨u,rfl,r1⟩:=E4 r
 obtain ⟨t,rfl⟩:=r1
 exact KIN.call_text hn hl ⟨.int n,H,I.tok _,⟨_,rfl⟩,q⟩
def Gw:D→HD→Out D:=fun d h=>match d with
 |.str x=>if x.length≤640 then (match PySem.intText? x with
  |some n=>.ok (.int n) h
  |none=>.stuck) else .stuck
 |_=>.stuck
theorem ZbY:Dj X (.type "int") (Ak Gw):=by
 refine ⟨_,ZbX,fun m H h E ds vs Q hr r q=>F7 r q fun d v ev rv q=>?_⟩
 unfold Gw at q
 split at q
 ·simp only [DV] at rv;subst rv
  split at q
  ·rename_i hl
   split at q
   ·rename_i n hn
    exact ⟨_,n,ev,hl,hn,AI hr q (by simp [DV])⟩
   ·exact q.elim
  ·exact q.elim
 ·exact q.elim
theorem ZbZ (x:Str) (tk:Tok):(slicePicked x none none (some (-1,tk))).filterMap (x.cps[·]?)=x.cps.toList.reverse:=by
 unfold slicePicked Builtin.Str.strSliceIndices
 show (sliceRange ((x.length:Int) - 1) (-1) (-1)).filterMap (x.cps[·]?)=_
 have e:x.length=x.cps.size:=rfl
 rw [e,PySem.W.krv_sliceRange,PySem.W.krv_range,List.filterMap_reverse,PySem.W.krv_all]
def KZ:D→HD→Out D:=fun d h=>match d with
 |.str x=>if x.length≤sizeLine then .ok (.str ⟨x.cps.toList.reverse.toArray⟩) h else .stuck
 |_=>.stuck
def HB (f:ME):ME:=fun ρ h=>(f ρ h).bind KZ
theorem Zb0 {j:Nat} {p1 p2 p3 pos:Pos} (he:Ev X E e f):Ev X E (.Subscript e (.Slice none none (some (.UnaryOp .USub (.Constant (.int 1) j p1) p2)) p3) pos) (HB f):=by
 rintro pins s σ H Q I ⟨m,ρ,h,hr,er,p⟩
 have p':tD X.K E f σ H fun v H1=>∃x,v=.str x∧x.length≤sizeLine∧Q (.str ⟨x.cps.toList.reverse.toArray⟩) H1:=⟨m,ρ,h,hr,er,Post.bind p fun x h1 v m1 H1 eo p1 k1 hr1 r1 q1=>by
  clear eo
  unfold KZ at q1
  split at q1
  ·simp only [rD,DV] at r1
   subst r1
   split at q1
   ·rename_i hz
    exact ⟨_,rfl,hz,AI hr1 q1 (by simp [DV])⟩
   ·exact q1.elim
  ·exact q1.elim⟩
 refine Subscript_ (Am (he pins s σ H _ I p') fun v s1 z1_=>?_)
 obtain ⟨x,H1,I1,r1,y,ex,hz,q1⟩:=z1_
 subst ex
 obtain ⟨t,rfl⟩:=r1
 refine wpAny_Slice ?_
 rw [evalPart_none,evalPart_some]
 refine wpAny_pure (wpAny_pure ?_)
 have st:PE X (.UnaryOp .USub (.Constant (.int 1) j p1) p2) (OW (rU fun i=>.int (-i)) (tC (.int 1))):=OX O0 ON
 refine Am (st pins s1 σ H1 (fun v H3=>v=.int (-1)∧H3=H1) I1 ⟨1,rfl,rfl,rfl⟩) fun sv s3 z2_=>?_
 obtain ⟨x,H3,I3,r3,ex,eH⟩:=z2_
 subst ex eH
 obtain ⟨tk,rfl⟩:=r3
 have I4:Inv X pins σ H3 {s3 with heap:=s3.heap.push {cls:=.type "slice",data:=.fields #[.none,.none,.int (-1) tk]}}:=I3.kept (t':=s3.toks) fun b ob q=>A5 _ q
 have hsl:(s3.heap.push {cls:=.type "slice",data:=.fields #[.none,.none,.int (-1) tk]}).IsSlice s3.heap.objs.size none none (some (-1,tk)):=⟨_,BM _ rfl,rfl,rfl⟩
 show wpAny (model X.prog X.w) X.A (subscriptTail e (.Slice none none (some (.UnaryOp .USub (.Constant (.int 1) j p1) p2)) p3) (.str y t) (.ref s3.heap.objs.size)) (EP X pins σ Q) X.xe {s3 with heap:=s3.heap.push {cls:=.type "slice",data:=.fields #[.none,.none,.int (-1) tk]}}
 refine tail_any (ops:=[.str y t,.ref s3.heap.objs.size]) (T:="str") (typeIs_str _ y t) F.slot_str_getitem.lookup (wpAny_getItem_str_slice (s:={s3 with heap:=s3.heap.push {cls:=.type "slice",data:=.fields #[.none,.none,.int (-1) tk]}}) (l:=none) (u:=none) (st:=some (-1,tk)) hsl rfl ?_) (by with_unfolding_all rfl)
 unfold sliceMade
 rw [if_neg (by simp)]
 rw [ZbZ]
 refine ⟨?_,.str ⟨y.cps.toList.reverse.toArray⟩,H3,I4.tok _,⟨_,rfl⟩,q1⟩
 show y.cps.toList.reverse.toArray.size≤sizeLine
 have hz':y.cps.size≤sizeLine:=hz
 simpa using hz'
end
end LS
namespace LS
open PySem PySem.Spec PyProof.Rows L2 PySem.W PySem.Calls
section
variable {X:Cx} {E:XK}
def Gx (x:D) (lo hi:Option Int) (h:HD):Out D:=match x with
 |.loc l=>(match h[l]? with
  |some (.lst ds)=>Bu (cutD ds lo hi) h
  |_=>.stuck)
 |_=>.stuck
def BP (f:ME) (lo hi:MO):ME:=fun ρ h=>(f ρ h).bind fun x h1=>(lo ρ h1).bind fun l h2=>(hi ρ h2).bind fun u h3=>Gx x l u h3
theorem Zb1 {e:Expr} {lo hi:Option Expr} {f:ME} {fl fh:MO} {p2 pos:Pos} (he:Ev X E e f) (hl:Hj X E lo fl) (hu:Hj X E hi fh):Ev X E (.Subscript e (.Slice lo hi none p2) pos) (BP f fl fh):=
 BH (Pi W4 he hl hu) fun σ H Q z3_=>by obtain ⟨m,ρ,h,hr,er,p⟩:=z3_;exact (⟨m,ρ,h,hr,er,Post.bind p fun x h1 v m1 H1 eo1 p1 k1 hr1 r1 q1=>
  ⟨m1,ρ,h1,hr1,er.keep p1 k1,Post.bind q1 fun l h2 l' m2 H2 eo2 p2 k2 hr2 r2 q2=>
   ⟨m2,ρ,h2,hr2,(er.keep p1 k1).keep p2 k2,Post.bind q2 fun u h3 u' m3 H3 eo3 p3 k3 hr3 r3 q3=>by
    clear eo1 eo2 eo3
    subst r2 r3
    have rx:=DV.keep p3 k3 (DV.keep p2 k2 r1)
    unfold Gx at q3
    split at q3
    ·rename_i n
     split at q3
     ·rename_i ds el
      simp only [DV] at rx
      obtain ⟨a,rfl,ha⟩:=rx
      obtain ⟨vs,hv,dv⟩:=hr3.cells n _ a el ha
      exact ⟨a,vs,rfl,SqL.of hv,(G6 hr3 (dv.cut l u) q3).2⟩
     ·exact q3.elim
    ·exact q3.elim⟩⟩⟩)
def Gy (f:ME):ME:=fun ρ h=>(f ρ h).bind fun x h1=>match x with
 |.str z=>if Builtin.Str.tooLong (Txt.upper z).length=false then .ok (.str (Txt.upper z)) h1 else .stuck
 |_=>.stuck
theorem Zb2:Il X "str.upper" (fun x vs H Q=>∃z,x=.str z∧vs=[]∧Builtin.Str.tooLong (Txt.upper z).length=false∧Q (.str (Txt.upper z)) H):=by
 rintro pins s σ H x vs v us Q I rx rs ⟨z,rfl,rfl,hl,q⟩
 obtain ⟨t,rfl⟩:=rx
 cases rs
 exact SC.upper hl ⟨.str _,H,I.tok _,⟨_,rfl⟩,q⟩
theorem Zb3 {o:Expr} {f:ME} {apos cpos:Pos} (ho:Ev X E o f)
 (hbase:attributeBase o "upper" X.env (eval o X.env)=eval o X.env:=by rfl) (hline:(apos.endLine==cpos.line)=true:=by rfl):Ev X E (.Call (.Attribute o "upper" apos) [] [] cpos) (Gy f):=
 BH (Pl PySem.F.plainAttrs_str PySem.F.slot_str_upper PySem.F.type_str_upper Zb2 ho hbase hline) fun σ H Q z1_=>by
  obtain ⟨m,ρ,h,hr,er,p⟩:=z1_
  refine ⟨m,ρ,h,hr,er,Post.bind p fun x h1 v m1 H1 eo p1 k1 hr1 r1 q1=>?_⟩
  clear eo
  split at q1
  ·rename_i z
   split at q1
   ·rename_i hz
    simp only [rD,DV] at r1
    subst r1
    exact ⟨rfl,z,rfl,rfl,hz,AI hr1 q1 (by simp [DV])⟩
   ·exact q1.elim
  ·exact q1.elim
noncomputable def EL:D→D→HD→Out D:=fun x y h=>match x,y with
 |.str z,.int k=>@ite _ (MulOk z k) (Classical.propDecidable _) (.ok (.str (Txt.mul z k)) h) .stuck
 |_,_=>.stuck
theorem Zb4:By X (binaryOp .Mult) EL:=by
 refine ⟨fun x y H Q=>∃z k,x=.str z∧y=.int k∧MulOk z k∧Q (.str (Txt.mul z k)) H,?_,fun m H h E x y v u Q hr rx ry q=>?_⟩
 ·intro pins s σ H x y v u Q I rx ry hq
  obtain ⟨z,k,rfl,rfl,hm,q⟩:=hq
  obtain ⟨t,rfl⟩:=rx
  obtain ⟨t',rfl⟩:=ry
  exact SB.mul hm fun t' k'=>⟨.str _,H,I.tok _,⟨_,rfl⟩,q⟩
 ·unfold EL at q
  split at q
  ·split at q
   ·rename_i hm
    simp only [DV] at rx ry
    subst rx ry
    exact ⟨_,_,rfl,rfl,hm,AI hr q (by simp [DV])⟩
   ·exact q.elim
  ·exact q.elim
end
def NP:List Str→List V→List (Value×Value)→Prop
 |[],[],[]=>True
 |k::ks,v::vs,(a,b)::ws=>(∃t,a=.str k t)∧RelV v b∧NP ks vs ws
 |_,_,_=>False
theorem So:∀{ks:List Str} {us:List Value} {acc:List (Str×Value)},ks.Nodup→(∀k∈ks,∀p∈acc,p.1≠k)→merged acc (ks.zip us)=acc++ks.zip us
 |[],_,acc,_,_=>by simp [merged]
 |_::_,[],acc,_,_=>by simp [merged]
 |k::ks,u::us,acc,nd,ha=>by
  rw [qbA] at nd
  have e:stored acc k u=acc++[(k,u)]:=by
   unfold stored
   rw [if_neg]
   intro z
   rw [List.any_eq_true] at z
   obtain ⟨p,hp,e⟩:=z
   exact ha k (by simp) p hp (of_decide_eq_true e)
  have:=So (us:=us) (acc:=acc++[(k,u)]) nd.2 (fun j hj p hp=>by
   rcases qaP.mp hp with hp |hp
   ·exact ha j (by simp [hj]) p hp
   ·rw [qaL.mp hp]
    rintro rfl
    exact nd.1 hj)
  unfold merged at this ⊢
  rw [HX,Jy,e,this]
  simp
theorem Sq {P:Program} {w:World}:∀{ks:List Str} {vs:List V} {ws:List (Value×Value)},NP ks vs ws→∃us,Vals vs us∧ks.length=us.length∧Carries (PySem.strKind P w) ws (ks.zip us)
 |[],[],[],_=>⟨[],.nil,rfl,trivial⟩
 |k::ks,v::vs,(a,b)::ws,h=>by
  obtain ⟨⟨t,rfl⟩,h2,h3⟩:=h
  obtain ⟨us,q1,q2,q3⟩:=Sq (P:=P) (w:=w) h3
  refine ⟨b::us,.cons h2 q1,by simp [q2],?_,rfl,q3⟩
  show Value.isStrOf k (.str k t)=true
  unfold Value.isStrOf
  simp
 |[],[],_::_,h=>h.elim
 |[],_::_,_,h=>h.elim
 |_::_,[],_,h=>h.elim
 |_::_,_::_,[],h=>h.elim
theorem Sr {K:Frag} {m:List Addr} {H:Hp} {x:Str}:∀{ks:List Str} {xs:List D} {vs:List V} {us:List Value},DVs K m H xs vs→Vals vs us→
 ((ks.zip xs).lookup x=none∧valueAt (ks.zip us) x=none)∨∃d u v,(ks.zip xs).lookup x=some d∧valueAt (ks.zip us) x=some u∧DV K m H d v∧RelV v u
 |[],_,_,_,_,_=>.inl ⟨rfl,rfl⟩
 |k::ks,[],_,_,d,r=>by
  simp only [DVs] at d
  subst d
  cases r
  exact .inl ⟨rfl,rfl⟩
 |k::ks,y::ys,_,_,d,r=>by
  simp only [DVs] at d
  obtain ⟨v,vs,rfl,dv,dt⟩:=d
  cases r with
  |@cons _ u _ us r1 r2=>
   rw [HX,HX,Dm]
   by_cases e:x=k
   ·subst e
    rw [beq_self_eq_true]
    refine .inr ⟨y,u,v,rfl,?_,dv,r1⟩
    simp [valueAt]
   ·rw [beq_eq_false_iff_ne.mpr e]
    have e2:valueAt ((k,u)::ks.zip us) x=valueAt (ks.zip us) x:=by
     unfold valueAt
     rw [List.find?_cons_of_neg (by simpa using Ne.symm e)]
    rw [e2]
    exact Sr dt r2
def Gz (ks:List Str) (xs:List D) (y z:D) (h:HD):Out D:=match y with
 |.str x=>.ok (((ks.zip xs).lookup x).getD z) h
 |_=>.stuck
def I0 (ks:List Str) (fa:MA) (g k:ME):ME:=fun ρ h=>(fa ρ h).bind fun xs h1=>(g ρ h1).bind fun y h2=>(k ρ h2).bind fun z h3=>Gz ks xs y z h3
section
variable {X:Cx} {E:XK}
def K0 (X:Cx) (E:XK) (pos:Pos) (ks:List Str) (keys:List (Option Expr)) (vals:List Expr) (f:MA):Prop:=
 ∀(pins:List (Addr×Obj)) (s:Shared) (σ:L2.St) (H:Hp) (Q:List V→Hp→Prop),Inv X pins σ H s→JW X.K E f σ H Q→
  wpAny (model X.prog X.w) X.A (evalPairs (pairTrees keys vals X.env pos)) (fun ws s'=>∃vs H',Inv X pins σ H' s'∧NP ks vs ws∧Q vs H') X.xe s
theorem Zb5 {pos:Pos}:K0 X E pos [] [] [] Ac:=fun pins s σ H Q I z=>by
 obtain ⟨m,ρ,h,hr,er,p⟩:=z
 exact pairTrees_nil_walk ⟨[],H,I,trivial,p [] m H (Ax _) (.refl _) hr .nil⟩
theorem Zb6 {pos p1:Pos} {k:Str} {j:Nat} {v:Expr} {f:ME} {fa:MA} {ks:List Str} {keys:List (Option Expr)} {vals:List Expr} (hv:Ev X E v f) (hp:K0 X E pos ks keys vals fa):K0 X E pos (k::ks) (some (.Constant (.str k) j p1)::keys) (v::vals) (Aa f fa):=fun pins s σ H Q I z=>by
 obtain ⟨m,ρ,h,hr,er,p⟩:=z
 refine pairTrees_cons_walk (Am (OO pins s σ H (fun v H1=>v=.str k∧H1=H) I ⟨rfl,rfl⟩) fun u s1 z1=>?_)
 obtain ⟨x,H1,I1,r1,rfl,rfl⟩:=z1
 refine Am (hv pins s1 σ H1 (fun v H2=>JW X.K E fa σ H2 fun vs H3=>Q (v::vs) H3) I1 ⟨m,ρ,h,hr,er,Post.bind p fun x h1 v m1 H1 _ p1 k1 hr1 r1 q1=>
  ⟨m1,ρ,h1,hr1,er.keep p1 k1,Post.bind q1 fun xs h2 vs m2 H2 _ p2 k2 hr2 r2 q2=>q2 _ m2 H2 (Ax _) (.refl _) hr2 (DVs.cons (DV.keep p2 k2 r1) r2)⟩⟩) fun u2 s2 z2=>?_
 obtain ⟨y,H2,I2,r2,q2⟩:=z2
 refine Am (hp pins s2 σ H2 _ I2 q2) fun ws s3 z3=>?_
 obtain ⟨vs,H3,I3,r3,q3⟩:=z3
 exact ⟨y::vs,H3,I3,⟨r1,r2,r3⟩,q3⟩
theorem Zb7 {ks:List Str} {keys:List (Option Expr)} {vals:List Expr} {fa:MA} {g k:ME} {e e':Expr} {dpos apos cpos:Pos} (hp:K0 X E dpos ks keys vals fa) (he:Ev X E e g) (he':Ev X E e' k)
 (nd:ks.Nodup:=by decide +kernel) (hall:keys.all (·.isSome)=true:=by rfl) (hl:keys.length=vals.length:=by rfl) (h0:keys≠[]:=by simp) (h15:keys.length≤15:=by decide)
 (hbase:attributeBase (.Dict keys vals dpos) "get" X.env (eval (.Dict keys vals dpos) X.env)=eval (.Dict keys vals dpos) X.env:=by rfl)
 (hfew:((backTo cpos (starEach [e,e'] X.env)).all (fun x=>!x.1)&&(backToKw cpos (keywordEach [] X.env)).all (fun x=>x.1.isSome)
  &&decide ([e,e'].length+([]:List Keyword).length+(if ([]:List Keyword).isEmpty then 0 else 1)<30))=true:=by rfl)
 (hline:(apos.endLine==cpos.line)=true:=by rfl) (hs:starEach [e,e'] X.env=(false,eval e X.env)::starEach [e'] X.env:=by rfl) (hs2:starEach [e'] X.env=(false,eval e' X.env)::starEach [] X.env:=by rfl) (hplain:(backTo cpos (starEach [e'] X.env)).any (·.1)=false:=by rfl):
 Ev X E (.Call (.Attribute (.Dict keys vals dpos) "get" apos) [e,e'] [] cpos) (I0 ks fa g k):=by
 intro pins s σ H Q I z
 obtain ⟨m,ρ,h,hr,er,p⟩:=z
 obtain ⟨a,ea⟩:∃a,a=s.heap.objs.size:=⟨_,rfl⟩
 obtain ⟨f0,f1,f2,f3,f4,f5⟩:=I.fpOk (H':=H) (Au s.heap.objs.size) I.fresh
 have hsys:=ZaX I
 rw [←ea] at f0 f1 f2 f3 f4 f5 hsys
 have I1:Inv X pins σ H {s with heap:=s.heap.push {cls:=.type "dict",data:=.dict #[]}}:=I.kept (t':=s.toks) fun b o q=>A5 _ q
 have hnew:(s.heap.push {cls:=.type "dict",data:=.dict #[]}).get? a=some {cls:=.type "dict",data:=.dict #[]}:=by rw [ea];exact BM _ rfl
 have I1':Inv X ((a,{cls:=.type "dict",data:=.dict #[]})::pins) σ H {s with heap:=s.heap.push {cls:=.type "dict",data:=.dict #[]}}:=I1.pins_of fun q hq=>by
  rcases qa9.mp hq with rfl |hq
  ·exact ⟨hnew,f0,f1,f2,fun v=>by simp⟩
  ·exact I1.pin q (B5 _ hq)
 refine wpAny_Call_method_late hbase hfew hline rfl (wpAny_Dict_walk (knd:=PySem.strKind X.prog X.w) hall hl h0 h15 (Am (hp _ _ σ H (fun vs H1=>∃m1 h1 xs,HR X.K m1 h1 H1∧ER X.K m1 H1 ρ σ∧DVs X.K m1 H1 xs vs∧Post X.K (rD X.K) m1 H1 E Q ((g ρ h1).bind fun y h2=>(k ρ h2).bind fun z h3=>Gz ks xs y z h3)) I1' ⟨m,ρ,h,hr,er,Post.bind p fun xs h1 vs m1 H1 eo p1 k1 hr1 r1 q1=>⟨m1,h1,xs,hr1,er.keep p1 k1,r1,q1⟩⟩) fun ws s2 z2=>?_))
 obtain ⟨vs,H2,I2,pr,m1,h1,xs,hr1,er1,dv,q1⟩:=z2
 rw [←ea]
 obtain ⟨g1,g2,_⟩:=I2.pin (a,{cls:=.type "dict",data:=.dict #[]}) (B5 _ (Bf ..))
 simp only at g1 g2
 obtain ⟨us,ru,lu,c⟩:=Sq (P:=X.prog) (w:=X.w) pr
 refine ⟨_,c,⟨_,#[],0,g1,⟨rfl,rfl,rfl⟩,rfl,fun _ he=>by simp at he,Pairs.nil,List.nodup_nil⟩,fun h' dd hsm=>?_⟩
 rw [So (us:=us) nd (by simp),Fp] at dd
 have I2u:Inv X pins σ H2 s2:=I2.pins_of fun q hq=>I2.pin q (B5 _ (Be _ hq))
 have I3:Inv X pins σ H2 {s2 with heap:=h',toks:=s2.toks+ws.length}:=I2u.turned (it:=a) (fun b o hb q=>(hsm.2 b hb).trans q) g2 f1 f3 f4 f5
 obtain ⟨o,es,ep,d1,d2,d3⟩:=dd
 have I3':Inv X ((a,o)::pins) σ H2 {s2 with heap:=h',toks:=s2.toks+ws.length}:=I3.pins_of fun q hq=>by
  rcases qa9.mp hq with rfl |hq
  ·exact ⟨d1,g2,f1,f2,fun v=>by rw [d3.1];simp⟩
  ·exact I3.pin q (B5 _ hq)
 refine ⟨"dict","dict.get",PySem.F.plainAttrs_dict,PySem.F.slot_dict_get,PySem.F.type_dict_get,⟨o,d1,d2.1⟩,fun b e=>by cases e;exact ⟨o,d1,d2.2.1⟩,?_⟩
 have hA:=(G4 he (G4 he' Ir hs2) hs) cpos ((a,o)::pins) _ σ H2 (fun vs' H4=>∃m4 h4 y z yv zv,vs'=[yv,zv]∧HR X.K m4 h4 H4∧DVs X.K m4 H4 xs vs∧DV X.K m4 H4 y yv∧DV X.K m4 H4 z zv∧Post X.K (rD X.K) m4 H4 E Q (Gz ks xs y z h4)) I3' ⟨m1,ρ,h1,hr1,er1,by
  have q2:Post X.K (rD X.K) m1 H2 E Q ((Aa g (Aa k Ac) ρ h1).bind fun ys h2=>match ys with
   |[y,z]=>Gz ks xs y z h2
   |_=>.stuck):=by
   unfold Aa Ac
   rw [Out.bind_assoc]
   cases eg:g ρ h1 with
   |stuck=>rw [eg] at q1;exact q1
   |err C fs h2=>rw [eg] at q1;exact q1
   |ok y h2=>
    rw [eg] at q1
    simp only [Out.bind_ok] at q1 ⊢
    rw [Out.bind_assoc]
    cases ek:k ρ h2 with
    |stuck=>rw [ek] at q1;exact q1
    |err C fs h2=>rw [ek] at q1;exact q1
    |ok z h3=>rw [ek] at q1;exact q1
  refine Post.bind q2 fun ys h4 vs4 m4 H4 eo p4 k4 hr4 r4 q4=>?_
  clear eo
  split at q4
  ·rename_i y z
   simp only [FV,DVs] at r4
   obtain ⟨yv,w,rfl,ry,zv,w',rfl,rz,rfl⟩:=r4
   exact ⟨m4,h4,y,z,yv,zv,rfl,hr4,dv.keep p4 k4,ry,rz,q4⟩
  ·exact q4.elim⟩
 rw [hs] at hA ⊢
 refine callWith_builtin (by show (false||(backTo cpos (starEach [e'] X.env)).any (·.1))=false;rw [hplain]<;>rfl) (evalArgs_plain ?_)
 refine Am hA fun us' s4 z4=>?_
 obtain ⟨vs',H4,I4,r4,m4,h4,y,z,yv,zv,rfl,hr4,dv4,ry,rz,q4⟩:=z4
 obtain ⟨uy,uz,rfl,r1,r2⟩:=Ik r4
 have I4u:Inv X pins σ H4 s4:=I4.pins_of fun q hq=>I4.pin q (B5 _ (Be _ hq))
 have o4:=(I4.pin (a,o) (B5 _ (Bf ..))).1
 have dd4:s4.heap.DictOf (PySem.strKind X.prog X.w) a (ks.zip us):=⟨o,es,ep,o4,d2,d3⟩
 unfold Gz at q4
 split at q4
 ·rename_i x
  simp only [DV] at ry
  subst ry
  obtain ⟨t,rfl⟩:=r1
  refine call_meetsIn PySem.F.slot_dict_get ⟨o,o4,d2.1⟩ PySem.F.entry_dict_get (PySem.F.args_dict_get_3 _ _ _) (meets_dict_get_default (PySem.strKind X.prog X.w) a (k:=x) (by show Value.isStrOf x (.str x t)=true;unfold Value.isStrOf;simp) hsys uz) ⟨_,dd4.mapOf,?_⟩
  rcases Sr (ks:=ks) (x:=x) dv4 ru with ⟨e1,e2⟩ |⟨d,u',v',e1,e2,e3,e4⟩
  ·rw [e1] at q4
   rw [e2]
   exact ⟨zv,H4,I4u.tok _,r2,AI hr4 q4 rz⟩
  ·rw [e1] at q4
   rw [e2]
   exact ⟨v',H4,I4u.tok _,e4,AI hr4 q4 e3⟩
 ·exact q4.elim
@[simp] theorem Zb8 {ks:List Str} {fa:MA} {g k:ME} {ρ:Af} {h:HD} {Q:D→HD→Prop}:Wp (I0 ks fa g k ρ h) Q=Wp (fa ρ h) fun xs h1=>Wp (g ρ h1) fun y h2=>Wp (k ρ h2) fun z h3=>Wp (Gz ks xs y z h3) Q:=by unfold I0;simp only [Ao]
@[simp] theorem Ss {f:ME} {lo hi:MO} {ρ:Af} {h:HD} {Q:D→HD→Prop}:Wp (BP f lo hi ρ h) Q=Wp (f ρ h) fun x h1=>Wp (lo ρ h1) fun l h2=>Wp (hi ρ h2) fun u h3=>Wp (Gx x l u h3) Q:=by unfold BP;simp only [Ao]
def NQ (x:D) (h:HD):Out D:=match x with
 |.str z=>if Builtin.Str.tooLong (Txt.upper z).length=false then .ok (.str (Txt.upper z)) h else .stuck
 |_=>.stuck
@[simp] theorem Zb9 {f:ME} {ρ:Af} {h:HD} {Q:D→HD→Prop}:Wp (Gy f ρ h) Q=Wp (f ρ h) fun x h1=>Wp (NQ x h1) Q:=by unfold Gy;rw [Ao];rfl
end
end LS
set_option maxHeartbeats 0
namespace LK
open PySem PySem.Spec PyProof.Rows L2 LS
def A0 (i:Nat):Stmt:=PySem.Challenge.pw_lineswitch_k99_desk_rows_that_are_none.main.body.getD i (.Pass ⟨0,0,0,0⟩)
abbrev NR:Stmt:=A0 86
abbrev Su:Stmt:=A0 15
noncomputable abbrev Sv:MS:=Al (El (Ae (A6 AC) (Aa (Ab 0) (Aa (mC (.ty "int")) (Ac)))) (JZ (Ae (A6 AC) (Aa (Ab 0) (Aa (mC (.ty "bool")) (Ac))))))
noncomputable def HC:List D→HD→Out D:=AU 1 1 Sv
abbrev Sy:Stmt:=A0 18
noncomputable abbrev Sz:MS:=Al (El (Ae (A6 AC) (Aa (Ab 0) (Aa (mC (.ty "tuple")) (Ac)))) (D2 Dv Dv (mC (.int 1)) (Ae (Ak Bm) (Aa (Ab 0) (Ac))) (mC (.int 8))))
noncomputable def HE:List D→HD→Out D:=AU 1 1 Sz
abbrev SA:Stmt:=A0 36
noncomputable abbrev Zca:MS:=CY
noncomputable def K1:List D→HD→Out D:=AU 2 2 Zca
abbrev SD:Stmt:=FK (A0 65) 1
noncomputable abbrev SE:MS:=Ag (Bn (Eo (Cp "Keeper" (Ab 0) "earlier") (Cp "Keeper" (Ab 0) "now"))) (Eb "Keeper" (Ab 0) "now" (Ab 1))
noncomputable def GA:List D→HD→Out D:=AU 2 2 SE
abbrev SF:Stmt:=FK (A0 65) 5
noncomputable abbrev NS:MS:=Ag (Aw (CA (Cf (Cp "Keeper" (Ab 0) "earlier"))) (E7 "NoRow" (Aa (mC (.str "no deed stands")) (Ac))) (AD)) (Eb "Keeper" (Ab 0) "now" (IW (Cp "Keeper" (Ab 0) "earlier")))
noncomputable def HF:List D→HD→Out D:=AU 1 1 NS
abbrev SG:Stmt:=FK (A0 65) 6
noncomputable abbrev SH:MS:=Al (Cp "Keeper" (Ab 0) "now")
noncomputable def FM:List D→HD→Out D:=AU 1 1 SH
abbrev SI:Stmt:=A0 70
noncomputable abbrev NU:MS:=Al (Ae (Ak CC) (Aa (Ba [none,some 1] (FI (Ab 0)) (AK 0) (BS) (BJ BC KQ (Ab 1) (Ab 0))) (Ac)))
noncomputable def Ja:List D→HD→Out D:=AU 2 2 NU
abbrev SJ:Stmt:=A0 71
noncomputable abbrev SK:MS:=Aw (CA (Cf (Ae (A6 AC) (Aa (Ab 0) (Aa (mC (.ty "str")) (Ac)))))) (E7 "NoText" (Aa (mC (.str "this is no text")) (Ac))) (AD)
noncomputable def K2:List D→HD→Out D:=AU 1 1 SK
abbrev SL:Stmt:=A0 75
noncomputable abbrev SM:MS:=Ag (Aw (An (Ad AA (Ab 1) (mC (.str "road")))) (CY) (AD)) (Ag (Aw (An (Ad AA (Ab 1) (mC (.str "form")))) (CY) (AD)) (Ag (Aw (An (Ad AA (Ab 1) (mC (.str "turn")))) (CY) (AD)) (Al (mC .non))))
noncomputable def K3:List D→HD→Out D:=AU 2 2 SM
abbrev SO:Stmt:=A0 77
noncomputable abbrev NV:MS:=Aw (CA (Cf (Ab 0))) (E7 "NoRow" (Aa (mC (.str "this is no row of the desk")) (Ac))) (AD)
noncomputable def DG:List D→HD→Out D:=AU 1 1 NV
abbrev SQ:Stmt:=A0 81
noncomputable abbrev NW:MS:=Ag (Aw (An (Ad Mp (Ab 1) (Ae (Ak Bm) (Aa (Ab 0) (Ac))))) (Al (Ad AE (Ab 0) (Ab 1))) (AD)) (Al (Ad Ah (Ad DB (mC (.int 6151)) (Ab 1)) (mC (.int 29))))
noncomputable def K4:List D→HD→Out D:=AU 2 2 NW
abbrev SS:Stmt:=A0 82
noncomputable abbrev SU:MS:=Ag (Ap 2 (Ad Ah (Ad DB (Ad Ah (Ab 0) (mC (.int 1))) (mC (.int 40692))) (Ad DB (mC (.int 104729)) (Ab 1)))) (Ag (Ap 2 (Ad Ah (Ad F4 (Ad DB (Ab 2) (Ab 2)) (mC (.int 2147483399))) (Ab 1))) (Al (Ad F4 (Ad DB (Ab 2) (Ad Ah (Ab 2) (mC (.int 31)))) (mC (.int 2147483563)))))
noncomputable def K5:List D→HD→Out D:=AU 2 3 SU
abbrev SV:Stmt:=A0 84
noncomputable abbrev SW:MS:=Ag (FA (J8 2 3) (Ae (A6 Iu) (Aa (Ad AE (Ab 0) (mC (.int 0))) (Aa (Ab 1) (Ac))))) (Ag (Kc (Ab 0) (mC (.int 0)) (Ab 2)) (Al (Ab 3)))
noncomputable def A4:List D→HD→Out D:=AU 2 4 SW
abbrev SY:Stmt:=A0 85
noncomputable abbrev SZ:MS:=Ag (Ap 1 (As (Aa (Ae (A6 AC) (Aa (Ab 0) (Aa (mC (.glo "NoBoard")) (Ac)))) (Aa (Ae (A6 AC) (Aa (Ab 0) (Aa (mC (.glo "NoLine")) (Ac)))) (Aa (Ae (A6 AC) (Aa (Ab 0) (Aa (mC (.glo "NoSwitching")) (Ac)))) (Aa (Ae (A6 AC) (Aa (Ab 0) (Aa (mC (.glo "NoNumber")) (Ac)))) (Ac))))))) (Ag (Ap 1 (Ad Ah (Ab 1) (As (Aa (Ae (A6 AC) (Aa (Ab 0) (Aa (mC (.glo "Unlike")) (Ac)))) (Aa (Ae (A6 AC) (Aa (Ab 0) (Aa (mC (.glo "NoNet")) (Ac)))) (Aa (Ae (A6 AC) (Aa (Ab 0) (Aa (mC (.glo "NoPlace")) (Ac)))) (Aa (Ae (A6 AC) (Aa (Ab 0) (Aa (mC (.glo "NoText")) (Ac)))) (Ac)))))))) (Ag (Ap 1 (Ad Ah (Ab 1) (As (Aa (Ae (A6 AC) (Aa (Ab 0) (Aa (mC (.glo "NoRow")) (Ac)))) (Aa (Ae (A6 AC) (Aa (Ab 0) (Aa (mC (.glo "TooMany")) (Ac)))) (Ac)))))) (Ag (Aw (Cg (CA (Cf (Ae (A6 AC) (Aa (Ab 0) (Aa (mC (.ty "ValueError")) (Ac)))))) (An (Ad AZ (BJ B0 Gf (Ab 1) (mC (.bl true))) (mC (.int 1))))) (Al (mC (.str "! other"))) (AD)) (Ag (Aw (Cf (Ad AE (Ab 1) (mC (.int 9)))) CY AD) (Ag (Ap 2 (As (Aa (mC (.str "board")) (Aa (mC (.str "line")) (Aa (mC (.str "switching")) (Aa (mC (.str "number")) (Aa (mC (.str "unlike")) (Aa (mC (.str "net")) (Aa (mC (.str "place")) (Aa (mC (.str "text")) (Aa (mC (.str "row")) (Ac)))))))))))) (Al (Ad Ah (mC (.str "! ")) (Ad AE (Ab 2) (BJ B0 Gg (Ab 1) (mC (.bl true)))))))))))
noncomputable def CS:List D→HD→Out D:=AU 1 3 SZ
abbrev S3:Stmt:=A0 90
noncomputable abbrev NX:MS:=Al (BJ BC Dc (mC (.str "/")) (Ba [none] (Bg (Ab 0)) (AK 0) (BS) (BJ BC Dc (mC (.str "")) (Ba [none] (Bg (Ab 0)) (AK 0) (BS) (Ad Ea (mC (.str ".#")) (Ab 0))))))
noncomputable def K6:List D→HD→Out D:=AU 1 1 NX
abbrev S4:Stmt:=A0 91
noncomputable abbrev S5:MS:=Ag (Ap 1 (As (Aa (As (Ac)) (Ac)))) (Ag (Bz (FI (Ab 0)) (AK 2) (Aw (An (Ad AA (Ab 2) (mC (.str "/")))) (Bn (Eo (Ab 1) (As (Ac)))) (Aw (An (Ad (CW false) (Ab 2) (Du (Aa (mC (.str ".")) (Aa (mC (.str "#")) (Ac)))))) (Bn (Eo (Ad AE (Ab 1) (Ga (mC (.int 1)))) (Ae (Ak intOfD) (Aa (Ad AA (Ab 2) (mC (.str "#"))) (Ac))))) (Al (mC (.bl false)))))) (Ag (Aw (Cg (CA (An (D2 Dv Dv (mC (.int 1)) (Ae (Ak Bm) (Aa (Ab 1) (Ac))) (mC (.int 8))))) (CA (An (D2 Dv Dv (mC (.int 1)) (Ae (Ak Bm) (Aa (Ad AE (Ab 1) (mC (.int 0))) (Ac))) (mC (.int 8)))))) (Al (mC (.bl false))) (AD)) (Al (Ad AA (Ba [none,some 1] (Bg (Ab 1)) (AK 0) (An (Ad AZ (Ae (Ak Bm) (Aa (Ab 0) (Ac))) (Ae (Ak Bm) (Aa (Ad AE (Ab 1) (mC (.int 0))) (Ac))))) (Ab 0)) (As (Ac))))))
noncomputable def Jb:List D→HD→Out D:=AU 1 3 S5
abbrev S6:Stmt:=A0 16
noncomputable abbrev NY:MS:=Al (El (Ae HC (Aa (Ab 0) (Ac))) (D2 Dv Dv (Ab 1) (Ab 0) (Ab 2)))
noncomputable def Jc:List D→HD→Out D:=AU 3 3 NY
abbrev S7:Stmt:=A0 78
noncomputable abbrev GB:MS:=Ag (Ap 1 (BJ BC CG (Ab 0) (mC (.str " ")))) (Ag (Bn (Ae DG (Aa (Ae (Ak Dy) (Aa (Ba [none] (Bg (Ab 1)) (AK 0) (BS) (El (Ad AA (Ae (Ak Dd) (Aa (Ab 0) (Ac))) (mC (.int 1))) (Ad FL (Ab 0) (mC (.str "0123456789"))))) (Ac))) (Ac)))) (Al (Ba [none] (Bg (Ab 1)) (AK 0) (BS) (Ae (Ak Gw) (Aa (Ab 0) (Ac))))))
noncomputable def HG:List D→HD→Out D:=AU 1 2 GB
abbrev Ta:Stmt:=FK (A0 79) 3
noncomputable abbrev K7:MS:=Ag (Bn (Ae DG (Aa (Ad AA (Ae (Ak Bm) (Aa (Ab 2) (Ac))) (DP (An (Ad AA (Ab 1) (mC (.str "light")))) (mC (.int 2)) (mC (.int 1)))) (Ac)))) (Aw (An (Ad AA (Ab 1) (mC (.str "light")))) (CY) (Aw (An (Ad AA (Ab 1) (mC (.str "row")))) (CY) (Ag (Bn (Ae DG (Aa (Ad AA (Ab 1) (mC (.str "column"))) (Ac)))) (CY))))
noncomputable def Jd:List D→HD→Out D:=AU 3 3 K7
abbrev Tb:Stmt:=A0 83
noncomputable abbrev Tc:MS:=Ag (Ap 2 (Ae K4 (Aa (Ab 0) (Aa (Ab 1) (Ac))))) (Ag (Aw (An (Ad AA (Ad F4 (Ab 2) (mC (.int 2))) (mC (.int 0)))) (Al (As (Aa (Ad J5 (Ab 2) (mC (.int 2))) (Ac)))) (AD)) (Ag (Ap 3 (mC (.int 0))) (Ag (Bz (D8 (Aa (mC (.int 24)) (Ac))) (AK 4) (Ap 3 (Ad Ah (Ad DB (Ab 3) (mC (.int 2147483647))) (Ae K5 (Aa (Ab 2) (Aa (Ab 4) (Ac))))))) (Al (As (Aa (Ab 3) (Ac)))))))
noncomputable def K8:List D→HD→Out D:=AU 2 5 Tc
abbrev Td:Stmt:=A0 87
noncomputable abbrev Te:MS:=Ag (D3 1 2 (Aa (Ae A4 (Aa (Ab 0) (Aa (mC (.int 2147483647)) (Ac)))) (Aa (mC (.int 0)) (Ac)))) (Ag (Bz (D8 (Aa (mC (.int 24)) (Ac))) (AK 3) (Ag (Ap 1 (Ad F4 (Ad Ah (Ad Ah (Ad DB (Ab 1) (mC (.int 48271))) (mC (.int 11))) (Ab 3)) (mC (.int 2147483647)))) (Ap 2 (Ad Ah (Ad DB (Ab 2) (mC (.int 2147483647))) (Ab 1))))) (Al (As (Aa (Ab 2) (Ac)))))
noncomputable def HH:List D→HD→Out D:=AU 1 4 Te
abbrev Tf:Stmt:=A0 89
noncomputable abbrev Tg:MS:=Ag (D3 2 3 (Aa (Ae A4 (Aa (Ab 0) (Aa (Ad Ah (Ae (Ak Dd) (Aa (Ab 1) (Ac))) (mC (.int 1))) (Ac)))) (Aa (Ae A4 (Aa (Ab 0) (Aa (Ad Ah (Ae (Ak Dd) (Aa (Ab 1) (Ac))) (mC (.int 1))) (Ac)))) (Ac)))) (Ag (Ap 4 (mC (.str " !\"#$&'()*+,-./0123456789:;<=>?@ABCDEFGHIJKLMNOPQRSTUVWXYZ[\\]^_`"))) (Ag (Ap 4 (Ad Ah (Ab 4) (mC (.str "abcdefghijklmnopqrstuvwxyz{|}~\n\t")))) (Ag (Ap 5 (Ad AE (As (Aa (mC (.str ".")) (Aa (mC (.str "#")) (Aa (mC (.str "/")) (Aa (mC (.str "r")) (Aa (mC (.str "c")) (Aa (mC (.str "0")) (Aa (mC (.str "7")) (Aa (mC (.str "8")) (Aa (mC (.str " ")) (Aa (Ad Ea (Ab 4) (Ae A4 (Aa (Ab 0) (Aa (mC (.int 96)) (Ac))))) (Ac)))))))))))) (Ae A4 (Aa (Ab 0) (Aa (mC (.int 10)) (Ac)))))) (Ag (D3 6 7 (Aa (Ae (A6 E6) (Aa (Ab 2) (Aa (Ab 3) (Ac)))) (Aa (Ae (A6 E5) (Aa (Ab 2) (Aa (Ab 3) (Ac)))) (Ac)))) (Ag (Ap 8 (As (Aa (Ad Ah (Ad Ah (AV (Ab 1) (Az) (Av (Ab 2))) (Ab 5)) (AV (Ab 1) (Av (Ab 2)) (Az))) (Aa (Ad Ah (AV (Ab 1) (Az) (Av (Ab 2))) (AV (Ab 1) (Av (Ad Ah (Ab 2) (mC (.int 1)))) (Az))) (Aa (Ad Ah (Ad Ah (AV (Ab 1) (Az) (Av (Ab 2))) (Ab 5)) (AV (Ab 1) (Av (Ad Ah (Ab 2) (mC (.int 1)))) (Az))) (Aa (Ad Ah (Ab 1) (Ab 5)) (Ac))))))) (Ag (Ap 8 (Ad Ah (Ab 8) (As (Aa (Ad Ah (Ab 5) (Ab 1)) (Aa (Ad Ah (AV (Ab 1) (Az) (Av (Ab 6))) (AV (Ab 1) (Av (Ab 7)) (Az))) (Aa (Ad Ah (AV (Ab 1) (Az) (Av (Ab 7))) (AV (Ab 1) (Av (Ab 6)) (Az))) (Aa (HB (Ab 1)) (Aa (Ad Ah (Ab 1) (Ab 1)) (Aa (Ab 5) (Aa (mC (.str "")) (Ac))))))))))) (Al (Ad AE (Ab 8) (Ae A4 (Aa (Ab 0) (Aa (mC (.int 11)) (Ac))))))))))))
noncomputable def HI:List D→HD→Out D:=AU 2 9 Tg
abbrev Th:Stmt:=A0 92
noncomputable abbrev NZ:MS:=Ag (Aw (An (Ad (CW false) (AV (Ab 0) (Az) (Av (mC (.int 6)))) (Du (Aa (mC (.str "board ")) (Aa (mC (.str "alike ")) (Ac)))))) (Al (DP (Cf (Ae Jb (Aa (AV (Ab 0) (Av (mC (.int 6))) (Az)) (Ac)))) (mC (.str "")) (mC (.str "! text")))) (AD)) (Ag (Ap 1 (BJ BC CG (Ab 0) (mC (.str " ")))) (Ag (Ap 2 (I0 ["light","row","column"] (Aa (mC (.int 2)) (Aa (mC (.int 1)) (Aa (mC (.int 1)) (Ac)))) (Ad AE (Ab 1) (mC (.int 0))) (mC (.int 0)))) (Ag (Ap 3 (As (Aa (mC (.str "road")) (Aa (mC (.str "form")) (Aa (mC (.str "turn")) (Aa (mC (.str "undo")) (Aa (mC (.str "show")) (Aa (mC (.str "lit")) (Aa (mC (.str "left")) (Aa (mC (.str "bound")) (Aa (mC (.str "fours")) (Aa (mC (.str "counts")) (Ac))))))))))))) (Ag (Aw (Cg (An (Ad (CW true) (Ad AE (Ab 1) (mC (.int 0))) (Ad Ah (Ab 3) (As (Aa (mC (.str "light")) (Aa (mC (.str "row")) (Aa (mC (.str "column")) (Ac)))))))) (An (Ad AZ (Ae (Ak Bm) (Aa (Ab 1) (Ac))) (Ad Ah (mC (.int 1)) (Ab 2))))) (Al (mC (.str "! row"))) (AD)) (Ag (Aw (An (Ad AZ (Ba [none] (Bg (BP (Ab 1) (Av (mC (.int 1))) (Az))) (AK 0) (Cg (An (Ad AZ (Ae (Ak Dd) (Aa (Ab 0) (Ac))) (mC (.int 1)))) (An (Ad Gv (Ab 0) (mC (.str "0123456789"))))) (Ab 0)) (As (Ac)))) (Al (mC (.str "! row"))) (AD)) (Al (mC (.str ""))))))))
noncomputable def K9:List D→HD→Out D:=AU 1 4 NZ
abbrev Ti:Stmt:=A0 93
noncomputable abbrev N0:MS:=Ag (D3 2 3 (Aa (Ae (Ak strOfD) (Aa (Ae A4 (Aa (Ab 0) (Aa (mC (.int 10)) (Ac)))) (Ac))) (Aa (Ae (Ak strOfD) (Aa (Ae A4 (Aa (Ab 0) (Aa (mC (.int 10)) (Ac)))) (Ac))) (Ac)))) (Ag (Ap 4 (As (Aa (Ad Ah (mC (.str "board ")) (Ab 1)) (Aa (Ad Ah (mC (.str "alike ")) (Ab 1)) (Aa (Ad Ah (Ad Ah (Ad Ah (mC (.str "light ")) (Ab 2)) (mC (.str " "))) (Ab 3)) (Aa (Ad Ah (mC (.str "row ")) (Ab 2)) (Aa (Ad Ah (mC (.str "column ")) (Ab 3)) (Ac)))))))) (Al (Ad Ah (Ab 4) (As (Aa (mC (.str "road")) (Aa (mC (.str "form")) (Aa (mC (.str "turn")) (Aa (mC (.str "undo")) (Aa (mC (.str "show")) (Aa (mC (.str "lit")) (Aa (mC (.str "left")) (Aa (mC (.str "bound")) (Aa (mC (.str "fours")) (Aa (mC (.str "counts")) (Ac)))))))))))))))
noncomputable def La:List D→HD→Out D:=AU 2 5 N0
abbrev Tj:Stmt:=A0 17
noncomputable abbrev Tn:MS:=Al (Ae Jc (Aa (Ab 0) (Aa (mC (.int 0)) (Aa (mC (.int 1)) (Ac)))))
noncomputable def Lb:List D→HD→Out D:=AU 1 1 Tn
abbrev To:Stmt:=A0 88
noncomputable abbrev Tq:MS:=Ag (Ap 3 (Ae A4 (Aa (Ab 0) (Aa (mC (.int 5)) (Ac))))) (Ag (Ap 4 (Ae HH (Aa (Ab 0) (Ac)))) (Ag (Ap 5 (Ad AE (As (Aa (mC (.int 3)) (Aa (mC (.int 1)) (Aa (mC (.int 5)) (Aa (mC (.int 3)) (Aa (mC (.int 2)) (Ac))))))) (Ab 3))) (Ag (Ap 6 (As (Ac))) (Ag (Bz (D8 (Aa (Ab 1) (Ac))) (AK 7) (Bn (Eo (Ab 6) (Ae (Ak CC) (Aa (Ba [none,some 4,some 5] (D8 (Aa (Ab 2) (Ac))) (AK 0) (BS) (Ae (Ak intOfD) (Aa (Ad Mp (Ae A4 (Aa (Ab 1) (Aa (mC (.int 6)) (Ac)))) (Ab 2)) (Ac)))) (Ac)))))) (Ag (Aw (An (Ad AA (Ab 3) (mC (.int 3)))) (Ap 6 (Ad DB (As (Aa (Ad AE (Ab 6) (mC (.int 0))) (Ac))) (Ab 1))) (AD)) (Al (Ae (Ak CC) (Aa (Ab 6) (Ac)))))))))
noncomputable def Lc:List D→HD→Out D:=AU 3 8 Tq
abbrev Tr:Stmt:=A0 94
noncomputable abbrev N1:MS:=Ag (Ap 2 (BJ BC CG (Ab 1) (mC (.str " ")))) (Ag (Ap 3 (Ae A4 (Aa (Ab 0) (Aa (Ae (Ak Bm) (Aa (Ab 2) (Ac))) (Ac))))) (Ag (Ap 4 (Ad AE (As (Aa (mC (.str "")) (Aa (mC (.str "00")) (Aa (mC (.str "10")) (Aa (mC (.str "-1")) (Aa (mC (.str "x")) (Aa (mC (.str "1.")) (Aa (mC (.str "+1")) (Aa (mC (.str "#")) (Aa (mC (.str "board")) (Aa (mC (.str "undo")) (Ac)))))))))))) (Ae A4 (Aa (Ab 0) (Aa (mC (.int 10)) (Ac)))))) (Ag (Ap 5 (As (Aa (Ad Ah (Ad Ah (BP (Ab 2) (Az) (Av (Ab 3))) (As (Aa (Ab 4) (Ac)))) (BP (Ab 2) (Av (Ad Ah (Ab 3) (mC (.int 1)))) (Az))) (Aa (Ad Ah (Ad Ah (BP (Ab 2) (Az) (Av (Ab 3))) (As (Aa (Ab 4) (Ac)))) (BP (Ab 2) (Av (Ab 3)) (Az))) (Aa (Ad Ah (Ab 2) (As (Aa (Ab 4) (Ac)))) (Aa (BP (Ab 2) (Az) (Av (Ga (mC (.int 1))))) (Ac))))))) (Ag (Ap 5 (Ad Ah (Ab 5) (As (Aa (Ad Ah (Ad Ah (BP (Ab 2) (Az) (Av (Ab 3))) (BP (Ab 2) (Av (Ab 3)) (Av (Ad Ah (Ab 3) (mC (.int 1)))))) (BP (Ab 2) (Av (Ab 3)) (Az))) (Aa (Ad Ah (As (Aa (Ab 4) (Ac))) (Ab 2)) (Aa (Ad Ah (As (Aa (Gy (Ad AE (Ab 2) (mC (.int 0)))) (Ac))) (BP (Ab 2) (Av (mC (.int 1))) (Az))) (Ac))))))) (Ag (Aw (An (Ad AA (Ae A4 (Aa (Ab 0) (Aa (mC (.int 2)) (Ac)))) (mC (.int 0)))) (Al (Ae HI (Aa (Ab 0) (Aa (Ab 1) (Ac))))) (AD)) (Al (BJ BC Dc (mC (.str " ")) (Ad AE (Ab 5) (Ae A4 (Aa (Ab 0) (Aa (mC (.int 7)) (Ac))))))))))))
noncomputable def Ld:List D→HD→Out D:=AU 2 6 N1
abbrev Tt:Stmt:=A0 19
noncomputable abbrev Tu:MS:=Al (El (Ae HE (Aa (Ab 0) (Ac))) (Ae (Ak Dy) (Aa (Ba [none] (Bg (Ab 0)) (AK 0) (BS) (Ae Lb (Aa (Ab 0) (Ac)))) (Ac))))
noncomputable def Le:List D→HD→Out D:=AU 1 1 Tu
abbrev Tv:Stmt:=A0 20
noncomputable abbrev Tw:MS:=Ag (Aw (Cg (CA (Cf (Ae HE (Aa (Ab 0) (Ac))))) (CA (Cf (Ae (Ak Dy) (Aa (Ba [none] (Bg (Ab 0)) (AK 0) (BS) (Ae Le (Aa (Ab 0) (Ac)))) (Ac)))))) (Al (mC (.bl false))) (AD)) (Al (Ae (Ak Dy) (Aa (Ba [none,some 0] (Bg (Ab 0)) (AK 0) (BS) (Ad AA (Ae (Ak Bm) (Aa (Ab 0) (Ac))) (Ae (Ak Bm) (Aa (Ad AE (Ab 1) (mC (.int 0))) (Ac))))) (Ac))))
noncomputable def HJ:List D→HD→Out D:=AU 1 1 Tw
abbrev Tx:Stmt:=A0 21
noncomputable abbrev Tz:MS:=Aw (CA (Cf (Ae HJ (Aa (Ab 0) (Ac))))) (E7 "NoBoard" (Aa (mC (.str "this is no board")) (Ac))) (AD)
noncomputable def GC:List D→HD→Out D:=AU 1 1 Tz
abbrev TB:Stmt:=A0 72
noncomputable abbrev GD:MS:=Ag (Bn (Ae K2 (Aa (Ab 0) (Ac)))) (Ag (Ap 1 (Ae (Ak CC) (Aa (Ba [none] (Bg (BJ BC CG (Ab 0) (mC (.str "/")))) (AK 0) (BS) (Ae Ja (Aa (Ab 0) (Aa (mC (.str ".#")) (Ac))))) (Ac)))) (Ag (Aw (CA (Cf (Ae HJ (Aa (Ab 1) (Ac))))) (E7 "NoText" (Aa (mC (.str "this writes no board")) (Ac))) (AD)) (Al (Ab 1))))
noncomputable def EN:List D→HD→Out D:=AU 1 2 GD
abbrev TC:Stmt:=FK (A0 65) 0
noncomputable abbrev TF:MS:=Ag (Bn (Ae GC (Aa (Ab 1) (Ac)))) (Ag (Eb "Keeper" (Ab 0) "now" (Ab 1)) (Eb "Keeper" (Ab 0) "earlier" (As (Ac))))
noncomputable def Je:List D→HD→Out D:=AU 2 2 TF
abbrev TH:Stmt:=A0 69
noncomputable abbrev N2:MS:=Ag (Bn (Ae GC (Aa (Ab 0) (Ac)))) (Al (BJ BC Dc (mC (.str "/")) (Ba [none] (Bg (Ab 0)) (AK 0) (BS) (BJ BC Dc (mC (.str "")) (Ba [none] (Bg (Ab 0)) (AK 0) (BS) (Ad Ea (mC (.str ".#")) (Ab 0)))))))
noncomputable def Jf:List D→HD→Out D:=AU 1 1 N2
abbrev TJ:Stmt:=A0 76
noncomputable abbrev HK:MS:=Ag (Aw (An (Ad AA (Ab 1) (mC (.str "show")))) (Al (Ae Jf (Aa (Ab 0) (Ac)))) (AD)) (Ag (Aw (An (Ad AA (Ab 1) (mC (.str "lit")))) (CY) (AD)) (Ag (Aw (An (Ad AA (Ab 1) (mC (.str "left")))) (CY) (AD)) (Ag (Aw (An (Ad AA (Ab 1) (mC (.str "bound")))) (CY) (AD)) (Ag (Aw (An (Ad AA (Ab 1) (mC (.str "fours")))) (CY) (AD)) (Ag (Aw (An (Ad AA (Ab 1) (mC (.str "counts")))) (CY) (AD)) (Al (mC .non)))))))
noncomputable def HL:List D→HD→Out D:=AU 2 2 HK
abbrev TK:Stmt:=FK (A0 79) 0
noncomputable abbrev Zcb:MS:=Eb "Desk" (Ab 0) "kept" (Ec "Keeper" Je (Aa (mC (R4 [[0]])) (Ac)))
noncomputable def Jg:List D→HD→Out D:=AU 1 1 Zcb
abbrev TL:Stmt:=FK (A0 79) 2
noncomputable abbrev GE:MS:=Ag (Ap 2 (Ae HL (Aa (AL "Keeper" "board" FM (Cp "Desk" (Ab 0) "kept") (Ac)) (Aa (Ab 1) (Ac))))) (Ag (Aw (An (Ad F5 (Ab 2) (mC .non))) (Al (Ab 2)) (AD)) (Ag (Aw (An (Ad AA (Ab 1) (mC (.str "undo")))) (Ag (Bn (AL "Keeper" "undo" HF (Cp "Desk" (Ab 0) "kept") (Ac))) (Al (mC (.str "ok")))) (AD)) (Ag (Ap 3 (Ae K3 (Aa (AL "Keeper" "board" FM (Cp "Desk" (Ab 0) "kept") (Ac)) (Aa (Ab 1) (Ac))))) (Ag (Bn (Ae DG (Aa (Ad F5 (Ab 3) (mC .non)) (Ac)))) (Ag (Bn (AL "Keeper" "change_to" GA (Cp "Desk" (Ab 0) "kept") (Aa (Ab 3) (Ac)))) (Al (mC (.str "ok"))))))))
noncomputable def HM:List D→HD→Out D:=AU 2 4 GE
abbrev TM:Stmt:=FK (A0 79) 1
noncomputable abbrev Lf:MS:=Ag (Bn (Ae DG (Aa (Ae (A6 AC) (Aa (Ab 1) (Aa (mC (.ty "str")) (Ac)))) (Ac)))) (Ag (FA (Gi [2,3,4]) (BJ BC Fb (Ab 1) (mC (.str " ")))) (Ag (Aw (An (Ad AA (Ab 3) (mC (.str "")))) (Al (AL "Desk" "say_word" HM (Ab 0) (Aa (Ab 2) (Ac)))) (AD)) (Ag (Aw (An (Ad AA (Ab 2) (mC (.str "alike")))) (Al (DP (Cf (Ae K1 (Aa (AL "Keeper" "board" FM (Cp "Desk" (Ab 0) "kept") (Ac)) (Aa (Ae EN (Aa (Ab 4) (Ac))) (Ac))))) (mC (.str "yes")) (mC (.str "no")))) (AD)) (Ag (Aw (An (Ad AA (Ab 2) (mC (.str "board")))) (Bn (AL "Keeper" "change_to" GA (Cp "Desk" (Ab 0) "kept") (Aa (Ae EN (Aa (Ab 4) (Ac))) (Ac)))) (Bn (AL "Desk" "do_at" Jd (Ab 0) (Aa (Ab 2) (Aa (Ae HG (Aa (Ab 4) (Ac))) (Ac)))))) (Al (mC (.str "ok")))))))
noncomputable def AS:List D→HD→Out D:=AU 2 5 Lf
abbrev s_law:Stmt:=A0 95
noncomputable abbrev N3:MS:=Ag (Bz (D8 (Aa (Ae (A6 E5) (Aa (mC (.int 1)) (Aa (Ae (A6 E6) (Aa (Ae (Ak Bm) (Aa (Ab 0) (Ac))) (Aa (mC (.int 4)) (Ac)))) (Ac)))) (Ac))) (AK 1) (Ag (Ap 2 (Ae K8 (Aa (Ab 0) (Aa (Ab 1) (Ac))))) (Ag (Ap 3 (Ae Lc (Aa (Ab 2) (Aa (Ad Ah (mC (.int 1)) (Ae A4 (Aa (Ab 2) (Aa (mC (.int 8)) (Ac))))) (Aa (Ad Ah (mC (.int 1)) (Ae A4 (Aa (Ab 2) (Aa (mC (.int 8)) (Ac))))) (Ac)))))) (Ag (Ap 4 (Ae K6 (Aa (Ab 3) (Ac)))) (Ag (Ap 5 (Ae HH (Aa (Ab 2) (Ac)))) (Ag (Ap 6 (Ec "Desk" Jg (Ac))) (Ag (Aw (An (Ad AZ (AL "Desk" "say" AS (Ab 6) (Aa (Ad Ah (mC (.str "board ")) (Ab 4)) (Ac))) (mC (.str "ok")))) (Al (mC (.bl false))) (AD)) (Ag (Bz (Bg (Ae La (Aa (Ab 5) (Aa (Ab 4) (Ac))))) (AK 7) (Bz (D8 (Aa (mC (.int 3)) (Ac))) (AK 8) (Ag (Ap 9 (Ae Ld (Aa (Ab 5) (Aa (Ab 7) (Ac))))) (Ag (Ap 10 (Ae K9 (Aa (Ab 9) (Ac)))) (Aw (FY (An (Ad AZ (Ab 10) (mC (.str "")))) (An (Ad AZ (DA [9,6] CS (AL "Desk" "say" AS (Ab 1) (Aa (Ab 0) (Ac)))) (Ab 10)))) (Al (mC (.bl false))) (AD)))))) (Ag (Bz (Bg (As (Aa (mC .non) (Aa (mC (.int 7)) (Aa (mC (.bl true)) (Aa (Du (Aa (mC (.str "undo")) (Ac))) (Aa (As (Aa (mC (.str "show")) (Ac))) (Aa (mC .edic) (Aa (Du (Aa (mC (.str "board")) (Aa (Ab 4) (Ac)))) (Ac)))))))))) (AK 11) (Aw (An (Ad AZ (DA [11,6] CS (AL "Desk" "say" AS (Ab 1) (Aa (Ab 0) (Ac)))) (mC (.str "! row")))) (Al (mC (.bl false))) (AD))) (Ag (Bz (Bg (As (Aa (mC (.str "")) (Aa (Ad Ah (Ab 4) (mC (.str "/"))) (Aa (Ad Ah (mC (.str "/")) (Ab 4)) (Aa (Ad Ah (Ab 4) (mC (.str " "))) (Aa (mC (.str "none")) (Aa (mC (.str "x")) (Aa (Ad Ah (Ad Ah (Ab 4) (mC (.str "/"))) (Ad EL (mC (.str ".")) (mC (.int 9)))) (Aa (Ad EL (mC (.str "#")) (mC (.int 9))) (Ac))))))))))) (AK 12) (Bz (Bg (As (Aa (mC (.str "board ")) (Aa (mC (.str "alike ")) (Ac))))) (AK 13) (Aw (An (Ad AZ (DA [6,13,12] CS (AL "Desk" "say" AS (Ab 0) (Aa (Ad Ah (Ab 1) (Ab 2)) (Ac)))) (mC (.str "! text")))) (Al (mC (.bl false))) (AD)))) (Ag (Bz (Bg (As (Aa (mC (.str "board")) (Aa (mC (.str "alike")) (Aa (Ad Ah (mC (.str "Board ")) (Ab 4)) (Aa (Ad Ah (mC (.str " board ")) (Ab 4)) (Aa (mC (.str "board")) (Aa (mC (.str "boards")) (Aa (mC (.str "alike")) (Ac)))))))))) (AK 13) (Aw (An (Ad AZ (DA [13,6] CS (AL "Desk" "say" AS (Ab 1) (Aa (Ab 0) (Ac)))) (mC (.str "! row")))) (Al (mC (.bl false))) (AD))) (Ag (Aw (Cg (An (Ad AZ (AL "Desk" "say" AS (Ab 6) (Aa (mC (.str "show")) (Ac))) (Ab 4))) (Cg (An (Ad AZ (AL "Desk" "say" AS (Ab 6) (Aa (mC (.str "undo")) (Ac))) (mC (.str "ok")))) (An (Ad AZ (AL "Desk" "say" AS (Ab 6) (Aa (mC (.str "show")) (Ac))) (mC (.str ".")))))) (Al (mC (.bl false))) (AD)) (Aw (An (Ad AZ (DA [6] CS (AL "Desk" "say" AS (Ab 0) (Aa (mC (.str "undo")) (Ac)))) (mC (.str "! row")))) (Al (mC (.bl false))) (AD)))))))))))))) (Al (mC (.bl true)))
noncomputable def F_law:List D→HD→Out D:=AU 1 14 N3
end LK
set_option maxHeartbeats 0
namespace LK
open PySem PySem.Spec PyProof.Rows L2 LS
def want:Tp.Want:=⟨[(("is_whole":Str),Su),(("is_line_tuple":Str),Sy),(("are_alike":Str),SA),(("signs_read":Str),SI),(("need_text":Str),SJ),(("board_made":Str),SL),(("need_row":Str),SO),(("_law_cell":Str),SQ),(("_law_mix":Str),SS),(("_law_take":Str),SV),(("_law_kind":Str),SY),(("_law_text":Str),S3),(("_law_board_in":Str),S4),(("is_between":Str),S6),(("figures_read":Str),S7),(("_law_box":Str),Tb),(("_law_wide_box":Str),Td),(("_law_bent":Str),Tf),(("_law_due":Str),Th),(("_law_right_rows":Str),Ti),(("is_light":Str),Tj),(("_law_board":Str),To),(("_law_otherwise":Str),Tr),(("is_row":Str),Tt),(("is_board":Str),Tv),(("need_board":Str),Tx),(("board_read":Str),TB),(("board_text":Str),TH),(("answer_to":Str),TJ),(("law":Str),s_law),(("_law_said":Str),NR)],[(("MOST_LINES":Str),(8:Int))],["ValueError","all","bool","divmod","int","isinstance","len","max","min","range","str","tuple"]⟩
def wantZ:Tp.WantZ:=⟨want,[(("Keeper":Str),("change_to":Str),SD),(("Keeper":Str),("undo":Str),SF),(("Keeper":Str),("board":Str),SG),(("Desk":Str),("do_at":Str),Ta),(("Keeper":Str),("__init__":Str),TC),(("Desk":Str),("__init__":Str),TK),(("Desk":Str),("say_word":Str),TL),(("Desk":Str),("say":Str),TM)],[(("Desk":Str),["kept"]),(("Keeper":Str),["now","earlier"])],["law"],[(("FIGURES":Str),("0123456789":Str)),(("LIGHT_SIGNS":Str),(".#":Str))],[(("FIRST_BOARD":Str),[[0]])]⟩
end LK
namespace LK
open PySem PySem.W
abbrev top_q:Program:=view PySem.Challenge.pw_lineswitch_k99_desk_rows_that_are_none [95]
abbrev top_loose:List Str:=(PySem.Challenge.pw_lineswitch_k99_desk_rows_that_are_none.main.scope.names.map (·.1)).filter fun x=>!(x=="law")
set_option maxHeartbeats 0 in
theorem top_left:LeftO PySem.Challenge.pw_lineswitch_k99_desk_rows_that_are_none top_q top_loose (fun _=>true) (Tp.obsZ wantZ) (fun _=>Tp.valZ wantZ) 1000000:=
 Tp.left_of (n:=25) (by kernel_rfl) (fun s=>by kernel_rfl) (fun w=>by kernel_rfl) (fun w os=>by
  rw [PySem.W.Fast.te10156331382660048174,PySem.W.Fast.te11892475500146522536,PySem.W.Fast.te14364793385576792824,PySem.W.Fast.te10110043849684766642,PySem.W.Fast.te6613529449190102663,PySem.W.Fast.te4187177175401517315,PySem.W.Fast.te5923862056798008813]
  kernel_rfl)
end LK
namespace LK
open PySem PySem.Spec PyProof.Rows L2 LS
theorem _root_.LS.Sm.len {h h':HD} (s:Sm h h'):h.length≤h'.length:=by
 cases e:h.length with
 |zero=>exact DL _
 |succ n=>
  have hn:n<h.length:=by omega
  have:=s n h[n] (BK hn)
  have:=(qa1.mp this).1
  omega
theorem sz {n:Nat} (hn:n≤8):(List.range n).length≤sizeLine:=by
 rw [List.length_range];unfold sizeLine;omega
open PySem.Builtin.Int in
theorem Zcc {ns:List Int} {k:Nat} (hb:∀i∈ns,Builtin.Int.intBits i≤2^20) (hk:k≤1000):∃c:Int,Builtin.Int.intBits c≤2^20∧∀h,Pu (K4 [.scr ns,.int (k:Nat)] h) h (.int c):=by
 by_cases hl:k<ns.length
 ·refine ⟨ns[k],hb _ (HZ hl),fun h=>?_⟩
  change Wp (Ay 2 NW [.scr ns,.int (k:Nat)] h) _
  refine Eq.mpr (Bb) ?_
  have:(k:Int)<ns.length:=by omega
  simp [this]
  refine B1 (Y3 (BK hl)) ?_
  simp [Sm.refl]
 ·refine ⟨6151*(k:Int)+29,?_,fun h=>?_⟩
  ·rw [intBits_le_iff]
   have h1:(6151*(k:Int)+29).natAbs<2^30:=by omega
   exact Bc h1 (Nat.pow_le_pow_right (by decide) (by omega))
  ·change Wp (Ay 2 NW [.scr ns,.int (k:Nat)] h) _
   refine Eq.mpr (Bb) ?_
   have:¬(k:Int)<ns.length:=by omega
   simp [this]
   rw [MN (by decide) (by decide)]
   simp [Sm.refl]
def TN (c:Int) (k:Nat):Int:=(((c+1)*40692+104729*(k:Int))*((c+1)*40692+104729*(k:Int))) % 2147483399+(k:Int)
theorem TQ {h:HD}:Ha [.int 24] h=.ok ((List.range 24).map fun k=>D.int ((k:Nat):Int),[]) h:=Iz (n:=24) (by decide)
theorem Zcd {c:Int} {k:Nat} (hc:Builtin.Int.intBits c≤2^20) (hk:k≤1000):∃r:Int,∀h,Pu (K5 [.int c,.int (k:Nat)] h) h (.int r):=by
 refine ⟨TN c k*(TN c k+31) % 2147483563,fun h=>?_⟩
 change Wp (Ay 3 SU [.int c,.int (k:Nat)] h) _
 refine Eq.mpr (Bb) ?_
 have bX:Builtin.Int.intBits ((c+1)*40692+104729*(k:Int))≤16777216:=by
  have hk':Builtin.Int.intBits ((k:Nat):Int)≤10:=PySem.intBits_le_iff.mpr (by omega)
  have:=PySem.intBits_add_le (PySem.intBits_mul_le (PySem.intBits_add_le hc (show Builtin.Int.intBits 1≤1 by decide)) (show Builtin.Int.intBits 40692≤16 by decide)) (PySem.intBits_mul_le (show Builtin.Int.intBits 104729≤17 by decide) hk')
  exact BG this (by decide)
 have h1:=Int.emod_nonneg (((c+1)*40692+104729*(k:Int))*((c+1)*40692+104729*(k:Int))) (show (2147483399:Int)≠0 by decide)
 have h2:=Int.emod_lt_of_pos (((c+1)*40692+104729*(k:Int))*((c+1)*40692+104729*(k:Int))) (show (0:Int)<2147483399 by decide)
 simp
 rw [Kj (by decide) (by decide)]
 simp
 rw [MN (by decide) (by decide)]
 simp
 rw [Y7 bX bX]
 simp
 rw [Kk (by decide)]
 simp
 rw [MN (by omega) (by omega)]
 simp
 rw [Kk (by decide)]
 simp
 exact ⟨rfl,.refl _⟩
def BoxAt (h:HD) (b:Nat):Prop:=∃n:Int,h[b]?=some (.lst [.int n])
inductive TU (ns:List Int) (k:Nat) (c:Int) (h:HD) (xs:List Nat) (ρ:Af) (h':HD):Prop where
 |mk (N:Int) (x:Option D) (f0:ρ=[some (.scr ns),some (.int (k:Nat)),some (.int c),some (.int N),x]) (f1:Sm h h') (f2:∀j∈xs,j<24):TU ns k c h xs ρ h'
theorem Zce {ns:List Int} {k:Nat} {h:HD} {Q:D→HD→Prop} (hb:∀i∈ns,Builtin.Int.intBits i≤2^20) (hk:k≤1000) (q:∀l h',BoxAt h' l→h.length≤l→Sm h h'→Q (.loc l) h'):Wp (K8 [.scr ns,.int (k:Nat)] h) Q:=by
 change Wp (Ay 5 (Tc) [.scr ns,.int (k:Nat)] h) _
 refine Eq.mpr (Bb) ?_
 obtain ⟨c,bc,pc⟩:=Zcc (k:=k) hb hk
 simp
 refine (pc h).wp fun h1 s1=>?_
 rw [Kk (by decide)]
 simp
 by_cases hz:c % 2=0
 ·simp [hz]
  rw [Y8 (by decide) (by decide)]
  simp
  exact AX (by simp) fun l h' s e el _=>q l h' ⟨_,e⟩ (by have:=s1.len;omega) (s1.trans s)
 ·simp [hz]
  refine Hh (src:=[]) (xs:=List.range 24) (fun i=>.int ((i:Nat):Int)) (TU ns k c h) ?_ (fun ys ρ h' _=>F8) ?_ ?_
  ·simp [TQ]
   exact ⟨_,_,rfl,s1,fun j hj=>qcB.mp hj⟩
  ·rintro x xs ρ h' ⟨N,y,rfl,sh,hx⟩
   refine ⟨_,rfl,?_⟩
   obtain ⟨m,pm⟩:=Zcd (k:=x) bc (by have:=hx x Bf;omega)
   simp
   rw [Kj (by decide) (by decide)]
   simp
   refine (pm h').wp fun h2 s2=>?_
   simp [Es]
   exact ⟨_,_,rfl,sh.trans s2,fun j hj=>hx j (Be _ hj)⟩
  ·rintro ρ h' ⟨N,y,rfl,sh,_⟩
   simp
   exact AX (by simp) fun l h' s e el _=>q l h' ⟨_,e⟩ (by have:=sh.len;omega) (sh.trans s)
def Smx (b:Nat) (h h':HD):Prop:=∀(l:Nat) (c:Cell),l≠b→h[l]?=some c→h'[l]?=some c
theorem Smx.refl (b:Nat) (h:HD):Smx b h h:=fun _ _ _ e=>e
theorem Smx.trans {b:Nat} {h h1 h2:HD} (a:Smx b h h1) (c:Smx b h1 h2):Smx b h h2:=fun l x n e=>c l x n (a l x n e)
theorem Dl {b:Nat} {h h':HD} (s:Sm h h'):Smx b h h':=fun l c _ e=>s l c e
theorem De {b:Nat} {m:Int} {h:HD} {Q:D→HD→Prop} (hx:BoxAt h b) (h1:0<m) (h2:m<18446744073709551616) (q:∀d h',0≤d→d<m→BoxAt h' b→Smx b h h'→Q (.int d) h'):Wp (A4 [.loc b,.int m] h) Q:=by
 change Wp (Ay 4 SW [.loc b,.int m] h) _
 refine Eq.mpr (Bb) ?_
 obtain ⟨N,e⟩:=hx
 simp
 rw [show (0:Int)=((0:Nat):Int) from rfl]
 refine B1 (FD e (k:=0) rfl) ?_
 simp
 refine B1 (Y9 h1 h2) ?_
 simp
 rw [show (0:Int)=((0:Nat):Int) from rfl]
 refine B1 (Y4 e (by simp)) ?_
 simp
 have hl:b<h.length:=(qa1.mp e).1
 refine q _ _ (Int.emod_nonneg _ (by omega)) (Int.emod_lt_of_pos _ h1) ⟨_,by rw [Cw hl]⟩ fun l c ne el=>?_
 rw [BF (Ne.symm ne)]
 exact el
theorem BoxAt.sm {b:Nat} {h h':HD} (x:BoxAt h b) (s:Sm h h'):BoxAt h' b:=let ⟨n,e⟩:=x;⟨n,s _ _ e⟩
theorem BoxAt.smx {a b:Nat} {h h':HD} (x:BoxAt h b) (s:Smx a h h') (ne:b≠a):BoxAt h' b:=let ⟨n,e⟩:=x;⟨n,s _ _ ne e⟩
theorem BoxAt.new {b:Nat} {h:HD} {c:Cell} (x:BoxAt h b):BoxAt (h++[c]) b:=x.sm (.app _ _)
def Plain (h:HD):D→Prop
 |.int _=>True
 |.bl _=>True
 |.non=>True
 |.str _=>True
 |.tup _=>True
 |.edic=>True
 |.loc l=>∃ds,h[l]?=some (.lst ds)
 |_=>False
theorem Plain.sm {h h':HD} {d:D} (p:Plain h d) (s:Sm h h'):Plain h' d:=by
 cases d with
 |loc l=>obtain ⟨ds,e⟩:=p;exact ⟨ds,s _ _ e⟩
 |_=>exact p
def B9:D→List D
 |.tup ds=>ds
 |_=>[]
def Plain2 (h:HD) (d:D):Prop:=Plain h d∧∀x∈B9 d,Plain h x
def Plain3 (h:HD) (d:D):Prop:=Plain h d∧∀x∈B9 d,Plain2 h x
theorem Plain2.sm {h h':HD} {d:D} (p:Plain2 h d) (s:Sm h h'):Plain2 h' d:=⟨p.1.sm s,fun x hx=>(p.2 x hx).sm s⟩
theorem Plain3.sm {h h':HD} {d:D} (p:Plain3 h d) (s:Sm h h'):Plain3 h' d:=⟨p.1.sm s,fun x hx=>(p.2 x hx).sm s⟩
def GF:D→Bool
 |.int i=>decide (0≤i)&&decide (i≤1)
 |_=>false
def CH:D→Bool
 |.tup ds=>decide (1≤ds.length)&&decide (ds.length≤8)
 |_=>false
def Df (d:D):Bool:=CH d&&(B9 d).all GF
def Ee (d:D):Nat:=(B9 d).length
def DH (d:D):Bool:=CH d&&(B9 d).all Df&&(B9 d).all fun x=>Ee x==Ee ((B9 d).getD 0 .non)
theorem p_is_between_int {i a b:Int} {h:HD}:Pu (Jc [.int i,.int a,.int b] h) h (.bl (decide (a≤i)&&decide (i≤b))):=by
 change Wp (Ay 3 (NY) [.int i,.int a,.int b] h) _
 refine Eq.mpr (Bb) ?_
 have e:HC [.int i] h=.ok (.bl true) h:=rfl
 simp [e]
 by_cases h1:a≤i<;>simp [h1,Ao,Sm.refl]
theorem Zcf {d:D} {a b:Int} {h:HD} (e:HC [d] h=.ok (.bl false) h):Pu (Jc [d,.int a,.int b] h) h (.bl false):=by
 change Wp (Ay 3 (NY) [d,.int a,.int b] h) _
 refine Eq.mpr (Bb) ?_
 simp [e,Sm.refl]
def N4:D→Bool
 |.int _=>true
 |_=>false
theorem Zcg {d:D} {h:HD} (p:Plain h d):HC [d] h=.ok (.bl (N4 d)) h:=by
 cases d with
 |loc l=>
  obtain ⟨ds,e⟩:=p
  have i1:AC (.loc l) (.ty "int") h=.ok (.bl false) h:=Zas e
  have w:Wp (Ay 1 Sv [.loc l] h) fun d h'=>d=.bl false∧h'=h:=by
   refine Eq.mpr Bb ?_
   simp [-Q5,i1]
  obtain ⟨a,h',e',rfl,rfl⟩:=Wp.ex w
  exact e'
 |tup ds=>rfl
 |int i=>rfl
 |bl b=>rfl
 |non=>rfl
 |str x=>rfl
 |edic=>rfl
 |_=>exact p.elim
theorem Zch {d:D} (h:N4 d=true):∃i,d=.int i:=by cases d<;>first |exact ⟨_,rfl⟩ |cases h
theorem Zci {d:D} {h:HD} (p:Plain h d):Pu (Lb [d] h) h (.bl (GF d)):=by
 change Wp (Ay 1 (Tn) [d] h) _
 refine Eq.mpr Bb ?_
 simp
 cases hw:N4 d with
 |true=>
  obtain ⟨i,rfl⟩:=Zch hw
  exact p_is_between_int.wp fun h' s=>⟨rfl,s⟩
 |false=>
  have e:=Zcg p
  rw [hw] at e
  have e2:GF d=false:=by cases d<;>first |rfl |cases hw
  exact (Zcf e).wp fun h' s=>⟨by rw [e2],s⟩
def N5:D→Bool
 |.tup _=>true
 |_=>false
theorem Zcj {d:D} {h:HD} (p:Plain h d):AC d (.ty "tuple") h=.ok (.bl (N5 d)) h:=by
 cases d with
 |loc l=>obtain ⟨ds,e⟩:=p;exact Zat e
 |tup ds=>rfl
 |int i=>rfl
 |bl b=>rfl
 |non=>rfl
 |str x=>rfl
 |edic=>rfl
 |_=>exact p.elim
theorem Zck {d:D} (h:N5 d=true):∃ds,d=.tup ds:=by cases d<;>first |exact ⟨_,rfl⟩ |cases h
theorem TV {d:D} {h:HD} (p:Plain h d):Pu (HE [d] h) h (.bl (CH d)):=by
 change Wp (Ay 1 Sz [d] h) _
 refine Eq.mpr Bb ?_
 cases hT:N5 d with
 |true=>
  obtain ⟨ds,rfl⟩:=Zck hT
  have a1:(1:Int)≤ds.length↔1≤ds.length:=by omega
  have a2:(ds.length:Int)≤8↔ds.length≤8:=by omega
  by_cases h1:1≤ds.length
  ·by_cases h2:ds.length≤8
   ·simp [a1.mpr h1,a2.mpr h2,Ao,Sm.refl,CH,h1,h2]
   ·have b2:¬(ds.length:Int)≤8:=by omega
    simp [a1.mpr h1,b2,Ao,Sm.refl,CH,h1,h2]
  ·have b1:¬(1:Int)≤ds.length:=by omega
   simp [b1,Ao,Sm.refl,CH,h1]
 |false=>
  have:CH d=false:=by cases d<;>first |rfl |cases hT
  simp [Zcj p,hT,this,Sm.refl]
theorem N6 {d:D} (h:CH d=true):∃ds,d=.tup ds∧1≤ds.length∧ds.length≤8:=by
 cases d with
 |tup ds=>exact ⟨ds,rfl,by simpa [CH] using h⟩
 |_=>cases h
theorem Zcl {d:D} {h:HD} (p:Plain2 h d):Pu (Le [d] h) h (.bl (Df d)):=by
 change Wp (Ay 1 (Tu) [d] h) _
 refine Eq.mpr (Bb) ?_
 simp
 refine (TV p.1).wp fun h1 s1=>?_
 cases hl:CH d with
 |false=>simp [Df,hl,s1]
 |true=>
  obtain ⟨ds,rfl,l1,l2⟩:=N6 hl
  simp
  refine Pu.wp (Ki (src:=[]) (xs:=ds) (φ:=fun x=>x) GF (fun x=>[some x]) (by rw [List.map_id'];exact Hi) (fun x _=>rfl) (fun x hx h' s'=>?_) (by unfold sizeLine;omega)) fun h2 s2=>?_
  ·simp [Pu]
   exact Zci ((p.2 x hx).sm (s1.trans s'))
  ·simp [Df,hl,B9,s1.trans s2]
theorem TX {d:D} {h:HD} (hl:CH d=true):Bm d h=.ok (.int (Ee d:Nat)) h:=by
 obtain ⟨ds,rfl,_,_⟩:=N6 hl
 simp [Ee,B9]
theorem TY {d:D} (h:Df d=true):CH d=true:=by unfold Df at h;exact (qbD.mp h).1
theorem N7 {d:D} {h:HD} (p:Plain3 h d):Pu (HJ [d] h) h (.bl (DH d)):=by
 change Wp (Ay 1 (Tw) [d] h) _
 refine Eq.mpr (Bb) ?_
 simp
 refine (TV p.1).wp fun h1 s1=>?_
 cases hl:CH d with
 |false=>simp [DH,hl,s1]
 |true=>
  obtain ⟨ds,rfl,l1,l2⟩:=N6 hl
  simp
  refine Pu.wp (Ki (src:=[]) (xs:=ds) (φ:=fun x=>x) Df (fun x=>[some x]) (by rw [List.map_id'];exact Hi) (fun x _=>rfl) (fun x hx h' s'=>?_) (by unfold sizeLine;omega)) fun h2 s2=>?_
  ·simp [Pu]
   exact Zcl ((p.2 x hx).sm (s1.trans s'))
  ·cases ha:ds.all Df with
   |false=>simp [DH,hl,B9,ha,s1.trans s2]
   |true=>
    simp
    have hr:∀x∈ds,Df x=true:=fun x hx=>qaI.mp ha x hx
    obtain ⟨d0,rest,rfl⟩:∃d0 rest,ds=d0::rest:=by
     cases ds with
     |nil=>simp at l1
     |cons a r=>exact ⟨a,r,rfl⟩
    refine Pu.wp (Ki (src:=[]) (xs:=d0::rest) (φ:=fun x=>x) (fun x=>Ee x==Ee d0) (fun x=>[some x,some (.tup (d0::rest))]) (by rw [List.map_id'];exact Hi) (fun x _=>rfl) (fun x hx h' s'=>?_) (by unfold sizeLine;omega)) fun h3 s3=>?_
    ·simp [Pu]
     rw [TX (TY (hr x hx))]
     simp
     rw [show (0:Int)=((0:Nat):Int) from rfl]
     refine B1 (ix_tup (k:=0) rfl) ?_
     simp
     rw [TX (TY (hr d0 Bf))]
     simp [Sm.refl]
     rw [qaZ]
     simp
     omega
    ·have:(d0::rest).all Df=true:=ha
     simp only [DH,hl,B9,this,Bool.true_and]
     refine ⟨?_,(s1.trans s2).trans s3⟩
     simp
theorem Zcm {d:D} {h:HD} (p:Plain3 h d) (hb:DH d=true):Pu (GC [d] h) h .non:=by
 change Wp (Ay 1 (Tz) [d] h) _
 refine Eq.mpr (Bb) ?_
 simp
 refine (N7 p).wp fun h1 s1=>?_
 simp [hb,s1]
def lit (x:Bool):D:=.int (if x then 1 else 0)
def BD (w:Nat) (f:Nat→Bool):D:=.tup ((List.range w).map fun j=>lit (f j))
def bD (h w:Nat) (f:Nat→Nat→Bool):D:=.tup ((List.range h).map fun i=>BD w (f i))
section
variable {H W:Nat} {h:HD} {f:Nat→Nat→Bool} {r:Nat→Bool}
theorem Zcn {x:Bool}:GF (lit x)=true:=by cases x<;>rfl
theorem Zco:Plain2 h (BD W r):=⟨trivial,fun x hx=>by
 simp only [BD,B9,qaR] at hx
 obtain ⟨j,_,rfl⟩:=hx
 exact trivial⟩
theorem Zcp:Plain3 h (bD H W f):=⟨trivial,fun x hx=>by
 simp only [bD,B9,qaR] at hx
 obtain ⟨j,_,rfl⟩:=hx
 exact Zco⟩
theorem TZ {ds:List D} (h1:1≤ds.length) (h2:ds.length≤8):CH (.tup ds)=true:=by simp [CH,h1,h2]
theorem Zcq (hw:1≤W∧W≤8):Df (BD W r)=true:=by
 unfold Df
 rw [BX]
 refine ⟨TZ (by simp;omega) (by simp;omega),qaI.mpr fun x hx=>?_⟩
 simp only [BD,B9,qaR] at hx
 obtain ⟨j,_,rfl⟩:=hx
 exact Zcn
theorem T1:Ee (BD W r)=W:=by simp [Ee,BD,B9]
theorem T3 (hh:1≤H∧H≤8) (hw:1≤W∧W≤8):DH (bD H W f)=true:=by
 unfold DH
 rw [BX,BX]
 refine ⟨⟨TZ (by simp;omega) (by simp;omega),qaI.mpr fun x hx=>?_⟩,qaI.mpr fun x hx=>?_⟩
 ·simp only [bD,B9,qaR] at hx
  obtain ⟨j,_,rfl⟩:=hx
  exact Zcq hw
 ·simp only [bD,B9,qaR] at hx ⊢
  obtain ⟨j,_,rfl⟩:=hx
  have:((List.range H).map fun i=>BD W (f i)).getD 0 .non=BD W (f 0):=by
   rw [HV,CK,List.getElem?_range (by omega)];rfl
  rw [this,T1,T1]
  simp
theorem T4 (hh:1≤H∧H≤8) (hw:1≤W∧W≤8):Pu (GC [bD H W f] h) h .non:=Zcm Zcp (T3 hh hw)
end
section
variable {h:HD}
variable {H W:Nat} {f:Nat→Nat→Bool} {r:Nat→Bool}
def NoRowD (h:HD) (H W:Nat) (x:D):Prop:=Plain2 h x∧(Df x=false∨(1<H∧Ee x≠W))
def putD (H W:Nat) (f:Nat→Nat→Bool) (A:Nat) (x:D):D:=.tup (((List.range H).map fun i=>BD W (f i)).take A++[x]++((List.range H).map fun i=>BD W (f i)).drop (A+1))
def NoB (h:HD) (d:D):Prop:=Plain3 h d∧DH d=false
theorem NoB.sm {h':HD} {d:D} (n:NoB h d) (s:Sm h h'):NoB h' d:=⟨n.1.sm s,n.2⟩
end
theorem Plain.smx {b:Nat} {h h':HD} {d:D} (p:Plain h d) (s:Smx b h h') (x:BoxAt h' b):Plain h' d:=by
 cases d with
 |loc l=>
  obtain ⟨ds,e⟩:=p
  by_cases hl:l=b
  ·obtain ⟨n,e'⟩:=x
   exact ⟨_,hl ▸ e'⟩
  ·exact ⟨ds,s _ _ hl e⟩
 |_=>exact p
theorem Plain2.smx {b:Nat} {h h':HD} {d:D} (p:Plain2 h d) (s:Smx b h h') (x:BoxAt h' b):Plain2 h' d:=⟨p.1.smx s x,fun y hy=>(p.2 y hy).smx s x⟩
theorem Plain3.smx {b:Nat} {h h':HD} {d:D} (p:Plain3 h d) (s:Smx b h h') (x:BoxAt h' b):Plain3 h' d:=⟨p.1.smx s x,fun y hy=>(p.2 y hy).smx s x⟩
theorem NoB.smx {b:Nat} {h h':HD} {d:D} (n:NoB h d) (s:Smx b h h') (x:BoxAt h' b):NoB h' d:=⟨n.1.smx s x,n.2⟩
def TabAt (h:HD):Prop:=h[0]?=some .tab
theorem TabAt.sm {h h':HD} (t:TabAt h) (s:Sm h h'):TabAt h':=s _ _ t
theorem TabAt.smx {b:Nat} {h h':HD} (t:TabAt h) (s:Smx b h h') (hb:0<b):TabAt h':=s _ _ (by omega) t
theorem TabAt.pos {h:HD} (t:TabAt h):0<h.length:=(qa1.mp t).1
theorem T6 {b:Nat} {m:Int} {h:HD} {Q:D→HD→Prop} (hx:BoxAt h b) (hb:0<b) (ht:TabAt h) (h1:0<m) (h2:m≤1000) (q:∀(d:Nat) h',(d:Int)<m→BoxAt h' b→TabAt h'→Smx b h h'→Q (.int (d:Nat)) h'):Wp (A4 [.loc b,.int m] h) Q:=
 De hx (by omega) (by omega) fun d h' d0 d1 x s=>by
  obtain ⟨k,rfl⟩:∃k:Nat,d=(k:Int):=⟨d.toNat,by omega⟩
  exact q k h' (by omega) x (ht.smx s hb) s
theorem BoxAt.lt {b:Nat} {h:HD} (x:BoxAt h b):b<h.length:=let ⟨_,e⟩:=x;(qa1.mp e).1
@[simp] theorem Zh6 {ρ:Af} {a b:D} {i j:Nat}:Gi [i,j] (.tup [a,b]) ρ=some ((ρ.set i (some a)).set j (some b)):=id rfl
theorem all_nil {P:D→Prop}:∀d∈([]:List D),P d:=fun d hd=>by cases hd
theorem all_cons {P:D→Prop} {a:D} {l:List D} (h:P a) (t:∀d∈l,P d):∀d∈a::l,P d:=fun d hd=>by
 rcases qa9.mp hd with rfl |hd
 ·exact h
 ·exact t d hd
theorem T7 {P:D→Prop} {l r:List D} (h:∀d∈l,P d) (t:∀d∈r,P d):∀d∈l++r,P d:=fun d hd=>by
 rcases qaP.mp hd with hd |hd
 ·exact h d hd
 ·exact t d hd
theorem Jh (P:D→Prop) {l o:Nat} {ds:List D} {h:HD} (e:h[l]?=some (.lst ds)) (ho:o<ds.length) (hp:∀d∈ds,P d):∃y,AE (.loc l) (.int (o:Nat)) h=.ok y h∧P y:=
 ⟨ds[o],FD e (BK ho),hp _ (HZ ho)⟩
def Zh7 (h:HD) (H W l:Nat):Prop:=∃ds:List D,h[l]?=some (.lst ds)∧ds.length≤10∧∀d∈ds,NoRowD h H W d
theorem NoRowD.sm {h h':HD} {H W:Nat} {d:D} (n:NoRowD h H W d) (s:Sm h h'):NoRowD h' H W d:=⟨n.1.sm s,n.2⟩
theorem NoB.tup {h:HD} {ds:List D} (hp:∀x∈ds,Plain2 h x) (hb:DH (.tup ds)=false):NoB h (.tup ds):=⟨⟨trivial,hp⟩,hb⟩
theorem Smx.over {a b:Nat} {h h1 h2:HD} (s:Smx b h h1) (s2:Smx a h1 h2) (hl:h.length≤a):Smx b h h2:=fun l c n e=>s2 l c (by have:=(qa1.mp e).1;omega) (s l c n e)
theorem Smx.put {a b:Nat} {c:Cell} {h h1:HD} (s:Smx b h h1) (hl:h.length≤a):Smx b h (h1.set a c):=fun l x n e=>by
 rw [BF (by have:=(qa1.mp e).1;omega)]
 exact s l x n e
theorem Smx.new {b:Nat} {c:Cell} {h h1:HD} (s:Smx b h h1):Smx b h (h1++[c]):=s.trans (Dl (.app _ _))
theorem Smx.len {b:Nat} {h h':HD} (s:Smx b h h') (hb:b<h'.length):h.length≤h'.length:=by
 cases e:h.length with
 |zero=>exact DL _
 |succ n=>
  have hn:n<h.length:=by omega
  by_cases hz:n=b
  ·omega
  ·have:=s n h[n] hz (BK hn)
   have:=(qa1.mp this).1
   omega
inductive T8 (b:Nat) (h1:HD) (xs:List Nat) (ρ:Af) (h':HD):Prop where
 |mk (N M:Int) (x:Option D) (f0:ρ=[some (.loc b),some (.int N),some (.int M),x]) (f1:h'=h1):T8 b h1 xs ρ h'
theorem T9 {b:Nat} {h:HD} {Q:D→HD→Prop} (hx:BoxAt h b) (q:∀l h',BoxAt h' b→BoxAt h' l→l≠b→h.length≤l→Smx b h h'→Q (.loc l) h'):Wp (HH [.loc b] h) Q:=by
 change Wp (Ay 4 (Te) [.loc b] h) _
 refine Eq.mpr (Bb) ?_
 simp
 refine De hx (by decide) (by decide) fun d h1 d0 d1 x1 s1=>?_
 refine Hh (src:=[]) (xs:=List.range 24) (fun i=>.int ((i:Nat):Int)) (T8 b h1) ?_ (fun ys ρ h' _=>F8) ?_ ?_
 ·simp [TQ]
  exact ⟨_,_,_,rfl,rfl⟩
 ·rintro x xs ρ h' ⟨N,M,y,rfl,rfl⟩
  refine ⟨_,rfl,?_⟩
  simp
  rw [Kj (by decide) (by decide)]
  simp
  rw [Kk (by decide)]
  simp
  rw [Kj (by decide) (by decide)]
  simp [Es]
  exact ⟨_,_,_,rfl,rfl⟩
 ·rintro ρ h' ⟨N,M,y,rfl,rfl⟩
  simp
  refine AX (by simp) fun l h2 s e el _=>?_
  exact q l h2 (x1.sm s) ⟨_,e⟩ (by have:=x1.lt;omega) (by have:=s1.len x1.lt;omega) (s1.trans (Dl s))
theorem Zcr {W:Nat} {rows:List (Nat→Bool)} {H:Nat} (e:rows.length=H):D.tup (rows.map (BD W))=bD H W fun i=>rows.getD i fun _=>false:=by
 unfold bD
 congr 1
 apply List.ext_getElem
 ·simp [e]
 ·intro i h1 h2
  simp at h1 h2
  simp [HV,BK h1]
inductive Ua (b H W:Nat) (way dense:Int) (l2 l3:Nat) (h:HD) (xs:List Nat) (ρ:Af) (h':HD):Prop where
 |mk (x:Option D) (rows:List (Nat→Bool)) (f0:ρ=[some (.loc b),some (.int (H:Nat)),some (.int (W:Nat)),some (.int way),some (.loc l2),some (.int dense),some (.loc l3),x]) (f1:BoxAt h' b) (f2:BoxAt h' l2) (f3:h'[l3]?=some (.lst (rows.map (BD W)))) (f4:rows.length+xs.length=H) (f5:Smx b h h'):Ua b H W way dense l2 l3 h xs ρ h'
inductive Ub (b W l2 l3:Nat) (rows:List (Nat→Bool)) (h h':HD):Prop where
 |mk (f1:BoxAt h' b) (f2:BoxAt h' l2) (f3:h'[l3]?=some (.lst (rows.map (BD W)))) (f4:Smx b h h'):Ub b W l2 l3 rows h h'
theorem Zcs {b H W:Nat} {h:HD} {Q:D→HD→Prop} (hx:BoxAt h b) (hh:1≤H∧H≤8) (hw:1≤W∧W≤8) (q:∀f h',BoxAt h' b→Smx b h h'→Q (bD H W f) h'):Wp (Lc [.loc b,.int (H:Nat),.int (W:Nat)] h) Q:=by
 change Wp (Ay 8 (Tq) [.loc b,.int (H:Nat),.int (W:Nat)] h) _
 refine Eq.mpr (Bb) ?_
 simp [-Aq]
 refine De hx (by decide) (by decide) fun way h1 d0 d1 x1 z1=>?_
 simp [-Aq,Aq (g:=Ag (Ap 4 _) _)]
 refine T9 x1 fun l2 h2 x2 y2 n2 k2 z2=>?_
 have kl2:h.length≤l2:=by have:=z1.len x1.lt;omega
 refine Eq.mpr (Aq) ?_
 simp [-Aq]
 refine AX (by simp) fun l h3 s3 e3 el3 _=>?_
 obtain ⟨dense,ed⟩:∃dense:Int,AE (.loc l) (.int way) h3=.ok (.int dense) h3:=by
  obtain ⟨w,rfl⟩:∃w:Nat,way=(w:Int):=⟨way.toNat,by omega⟩
  obtain ⟨y,ey,z,rfl⟩:=Jh (fun y=>∃i,y=.int i) (o:=w) e3 (by simp;omega) <| all_cons ⟨_,rfl⟩ <| all_cons ⟨_,rfl⟩ <| all_cons ⟨_,rfl⟩ <| all_cons ⟨_,rfl⟩ <| all_cons ⟨_,rfl⟩ all_nil
  exact ⟨z,ey⟩
 refine B1 (ed) ?_
 rw [AR]
 refine Eq.mpr (Aq) ?_
 simp [-Aq]
 refine AX (by simp) fun l3 h4 s4 e4 el4 _=>?_
 have x4:BoxAt h4 b:=(x2.sm s3).sm s4
 have y4:BoxAt h4 l2:=(y2.sm s3).sm s4
 have z4:Smx b h h4:=((z1.trans z2).trans (Dl s3)).trans (Dl s4)
 have kl3:h.length≤l3:=by have:=(z1.trans z2).len x2.lt;have:=s3.len;omega
 have n3:l3≠b:=by
  obtain ⟨n,e⟩:=x2.sm s3
  have:=(qa1.mp e).1
  omega
 have n4:l3≠l2:=by
  obtain ⟨n,e⟩:=y2.sm s3
  have:=(qa1.mp e).1
  omega
 refine Eq.mpr (Aq) ?_
 simp [-Aq]
 refine Hh (src:=[]) (xs:=List.range H) (fun i=>.int ((i:Nat):Int)) (Ua b H W way dense l2 l3 h) ?_ (fun ys ρ h' _=>F8) ?_ ?_
 ·simp [Iz (show H≤1000 by omega)]
  exact ⟨_,[],rfl,x4,y4,e4,by simp,z4⟩
 ·rintro x xs ρ h' ⟨y,rows,rfl,x5,y5,e5,hl,z5⟩
  refine ⟨_,rfl,?_⟩
  simp [Gc e5]
  refine Za (src:=[]) (xs:=List.range W) (fun i=>.int ((i:Nat):Int)) (Ub b W l2 l3 rows h) (fun _ b=>b=true) (fun i d=>∃r:Bool,d=lit r) (fun i=>[some (.int ((i:Nat):Int)),some (.loc l2),some (.int dense)]) ?_ (fun _ _=>F8) (fun h c x=>by obtain ⟨a1,a2,a3,a4⟩:=x;exact ⟨a1.new,a2.new,Sm.app _ _ _ _ a3,a4.new⟩) List.nodup_range (sz hw.2) (fun x _=>rfl) ?_ ?_
  ·simp [Iz (show W≤1000 by omega)]
   exact ⟨x5,y5,e5,z5⟩
  ·intro x hx h i
   simp
   obtain ⟨a1,a2,a3,a4⟩:=i
   refine De a2 (by decide) (by decide) fun d h1 d0 d1 x1 s1=>?_
   simp only [AR,CN,BU,Y1,Bp,Bo,YZ,Y2]
   exact ⟨⟨a1.smx s1 (Ne.symm n2),x1,s1 _ _ n4 a3,a4.over s1 kl2⟩,by cases decide (d<dense)<;>simp [lit]⟩
  ·intro h6 g e x6 hr tr
   obtain ⟨x61,x62,x63,x64⟩:=x6
   have hr':∃r:Nat→Bool,∀x∈List.range W,e x=lit (r x):=by
    refine ⟨fun x=>if h:x∈List.range W then (hr x h (tr x h)).choose else false,fun x hx=>?_⟩
    simp only [dif_pos hx]
    exact (hr x hx (tr x hx)).choose_spec
   obtain ⟨r,er⟩:=hr'
   have ef:(List.range W).filter g=List.range W:=List.filter_eq_self.mpr tr
   have em:D.tup (((List.range W).filter g).map e)=BD W r:=by
    rw [ef];unfold BD;congr 1;exact GW er
   rw [em]
   simp [Kh x63 (show (rows.map (BD W)).length<sizeLine by simp;unfold sizeLine;omega),Es]
   have hl3:l3<h6.length:=(qa1.mp x63).1
   refine ⟨_,rows++[r],rfl,?_,?_,?_,?_,x64.put kl3⟩
   ·obtain ⟨n,e⟩:=x61
    exact ⟨n,by rw [BF n3];exact e⟩
   ·obtain ⟨n,e⟩:=x62
    exact ⟨n,by rw [BF n4];exact e⟩
   ·rw [Cw hl3]
    simp
   ·simp at hl ⊢
    omega
 ·rintro ρ h' ⟨y,rows,rfl,x5,y5,e5,hl,z5⟩
  simp at hl
  simp
  by_cases h3:way=3
  ·simp [h3]
   obtain ⟨r0,rest,rfl⟩:∃r0 rest,rows=r0::rest:=by
    cases rows with
    |nil=>simp at hl;omega
    |cons a r=>exact ⟨a,r,rfl⟩
   rw [show (0:Int)=((0:Nat):Int) from rfl]
   refine B1 (FD e5 (k:=0) (a:=BD W r0) rfl) ?_
   simp
   refine AX (by simp) fun l5 h5 s5 e6 _ _=>?_
   refine B1 (Zar) ?_
   refine B1 (Zv e6 (by omega)) ?_
   refine AX (by simp;unfold sizeLine;omega) fun l6 h6 s6 e7 _ _=>?_
   simp [Qk e7]
   have:D.tup (List.replicate H (BD W r0))=bD H W fun _=>r0:=by
    unfold bD
    congr 1
    apply List.ext_getElem
    ·simp
    ·intro i h1 h2;simp
   rw [this]
   exact q _ _ ((x5.sm s5).sm s6) ((z5.trans (Dl s5)).trans (Dl s6))
  ·simp [h3,Qk e5]
   rw [Zcr hl]
   exact q _ _ x5 z5
def N8 (c:Str):List V:=[.bl (BL c "NoBoard"),.bl (BL c "NoLine"),.bl (BL c "NoSwitching"),.bl (BL c "NoNumber"),.bl (BL c "Unlike"),.bl (BL c "NoNet"),.bl (BL c "NoPlace"),.bl (BL c "NoText"),.bl (BL c "NoRow"),.bl (BL c "TooMany")]
def Zct:List D:=[.str "board",.str "line",.str "switching",.str "number",.str "unlike",.str "net",.str "place",.str "text",.str "row"]
theorem Uc {c w t:Str} {j:Nat} {h:HD} (hc:c∈excNames) (hn:Hl (.bl true) (N8 c)=1) (h9:BL c "TooMany"=false) (hj:Kt (.bl true) (N8 c)=some j) (hw:Zct[j]?=some (.str w)) (hz:((("! ":String):Str)).length+w.length≤1000) (ht:((("! ":String):Str))++w=t):Pu (CS [.exc c []] h) h (.str t):=by
 have i0:∀h,AC (.exc c []) (.glo "NoBoard") h=.ok (.bl (BL c "NoBoard")) h:=fun h=>EH hc (by decide +kernel)
 have i1:∀h,AC (.exc c []) (.glo "NoLine") h=.ok (.bl (BL c "NoLine")) h:=fun h=>EH hc (by decide +kernel)
 have i2:∀h,AC (.exc c []) (.glo "NoSwitching") h=.ok (.bl (BL c "NoSwitching")) h:=fun h=>EH hc (by decide +kernel)
 have i3:∀h,AC (.exc c []) (.glo "NoNumber") h=.ok (.bl (BL c "NoNumber")) h:=fun h=>EH hc (by decide +kernel)
 have i4:∀h,AC (.exc c []) (.glo "Unlike") h=.ok (.bl (BL c "Unlike")) h:=fun h=>EH hc (by decide +kernel)
 have i5:∀h,AC (.exc c []) (.glo "NoNet") h=.ok (.bl (BL c "NoNet")) h:=fun h=>EH hc (by decide +kernel)
 have i6:∀h,AC (.exc c []) (.glo "NoPlace") h=.ok (.bl (BL c "NoPlace")) h:=fun h=>EH hc (by decide +kernel)
 have i7:∀h,AC (.exc c []) (.glo "NoText") h=.ok (.bl (BL c "NoText")) h:=fun h=>EH hc (by decide +kernel)
 have i8:∀h,AC (.exc c []) (.glo "NoRow") h=.ok (.bl (BL c "NoRow")) h:=fun h=>EH hc (by decide +kernel)
 have i9:∀h,AC (.exc c []) (.glo "TooMany") h=.ok (.bl (BL c "TooMany")) h:=fun h=>EH hc (by decide +kernel)
 have iv:∀h,AC (.exc c []) (.ty "ValueError") h=.ok (.bl true) h:=fun h=>Zau hc
 change Wp (Ay 3 SZ [.exc c []] h) _
 refine Eq.mpr Bb ?_
 simp [-Aq,i0,i1,i2,i3]
 refine AX (by simp) fun l1 h1 s1 e1 _ _=>?_
 refine Eq.mpr Aq ?_
 simp [-Aq,i4,i5,i6,i7]
 refine AX (by simp) fun l2 h2 s2 e2 _ _=>?_
 refine B1 (Ho (s2 _ _ e1) e2) ?_
 refine AX (by simp) fun l3 h3 s3 e3 _ _=>?_
 refine Eq.mpr Aq ?_
 simp [-Aq,i8,i9]
 refine AX (by simp) fun l4 h4 s4 e4 _ _=>?_
 refine B1 (Ho (s4 _ _ e3) e4) ?_
 refine AX (by simp) fun l5 h5 s5 e5 _ _=>?_
 refine Eq.mpr Aq ?_
 simp [-Aq,iv,Gc e5]
 refine B1 ((Zaw (vs:=N8 c) e5 rfl rfl).trans (by rw [hn])) ?_
 simp [-Aq]
 refine Eq.mpr Aq ?_
 simp [-Aq]
 rw [show (9:Int)=((9:Nat):Int) from rfl]
 refine B1 (FD e5 (k:=9) rfl) ?_
 simp [-Aq,h9]
 refine Eq.mpr Aq ?_
 simp [-Aq]
 refine AX (by simp) fun l6 h6 s6 e6 _ _=>?_
 refine Eq.mpr Aq ?_
 simp [Gc (s6 _ _ e5)]
 refine B1 (Zax (s6 _ _ e5) rfl rfl hj) ?_
 simp only [AR]
 refine B1 (FD e6 hw) ?_
 simp only [AR]
 refine B1 (Zav hz) ?_
 exact ⟨congrArg D.str ht,((((s1.trans s2).trans s3).trans s4).trans s5).trans s6⟩
theorem AQ {n:Nat} (h:n≤1000):n≤sizeLine:=by unfold sizeLine;omega
theorem GG (c:Nat):∀l,(Ai c l).length≤l.length+1∧∀p∈Ai c l,p.length≤l.length
 |[]=>by simp [Ai]
 |a::l=>by
  obtain ⟨h1,h2⟩:=GG c l
  unfold Ai
  split
  ·refine ⟨by simpa using h1,fun p hp=>?_⟩
   rcases qa9.mp hp with rfl |hp
   ·simp
   ·have:=h2 p hp;simp;omega
  ·generalize Ai c l=m at h1 h2
   match m with
   |[]=>simp
   |q::ps=>
    refine ⟨by simpa using Nat.le_succ_of_le h1,fun p hp=>?_⟩
    rcases qa9.mp hp with rfl |hp
    ·have:=h2 q (.head _);simp;omega
    ·have:=h2 p (.tail _ hp);simp;omega
def EO (s l:List Nat):D:=.tup (l.map fun c=>.int (B3 c s))
def Fc (L:List Nat):D:=.tup ((Ai 47 L).map (EO [46,35]))
section
variable {h:HD}
theorem Zcu {s l:List Nat}:Plain2 h (EO s l):=⟨trivial,fun x hx=>by
 obtain ⟨c,_,rfl⟩:=qaR.mp hx
 trivial⟩
theorem Ud {L:List Nat}:Plain3 h (Fc L):=⟨trivial,fun x hx=>by
 obtain ⟨c,_,rfl⟩:=qaR.mp hx
 exact Zcu⟩
theorem Zcv {l s:List Nat} (hl:l.length≤1000):Pu (Ja [.str (tx l),.str (tx s)] h) h (EO s l):=by
 change Wp (Ay 2 NU [.str (tx l),.str (tx s)] h) _
 refine Eq.mpr Bb ?_
 simp only [NU,Ep,Y5]
 refine Pu.wp (Qm (src:=[]) (xs:=l) (φ:=fun c=>.str (tx [c])) (fun c=>.int (B3 c s)) (fun c=>[some (.str (tx [c])),some (.str (tx s))]) (R1 (i:=0) rfl) (fun x _=>rfl) (fun x _ h' _=>?_) (AQ hl)) fun h2 s2=>⟨rfl,s2⟩
 simp [Pu]
 rw [ZbG]
 exact ⟨rfl,.refl _⟩
theorem p_need_text {x:Str}:Pu (K2 [.str x] h) h .non:=by
 change Wp (Ay 1 SK [.str x] h) _
 refine Eq.mpr Bb ?_
 have e:AC (.str x) (.ty "str") h=.ok (.bl true) h:=rfl
 simp [e,Sm.refl]
theorem Ue {L:List Nat} (hl:L.length≤900) {c:Option D}:Pu (IB [none] (Bg (BJ BC CG (Ab 0) (mC (.str "/")))) (AK 0) BS (Ae Ja (Aa (Ab 0) (Aa (mC (.str ".#")) Ac))) [some (.str (tx L)),c] h) h (Fc L):=by
 have hsz:L.length≤sizeLine:=AQ (by omega)
 obtain ⟨n1,n2⟩:=GG 47 L
 have e0:CG (.str (tx L)) (.str "/") h=Bu ((Ai 47 L).map fun l=>.str (tx l)) h:=by
  rw [show ("/":Str)=tx [47] from rfl,R3 hsz]
 have hz:((Ai 47 L).map fun l=>D.str (tx l)).length≤sizeLine:=by rw [Bt];exact AQ (by omega)
 refine Pu.eq (Qm (src:=[(h.length,(Ai 47 L).map fun l=>.str (tx l))]) (xs:=Ai 47 L) (φ:=fun l=>.str (tx l)) (fun l=>EO [46,35] l) (fun l=>[some (.str (tx l))]) ?_ (fun x _=>rfl) (fun x hx h' _=>?_) (AQ (by omega))) rfl
 ·unfold Eu
  simp only [Gb,Kx,BU,BC,AR]
  show Wp (CG (.str (tx L)) (.str "/") h) _
  rw [e0,Bu,if_pos hz]
  show Wp (D7 (.loc h.length) _) _
  simp [D7,Bj,G9]
  refine ⟨.app _ _,fun h2 s2=>?_⟩
  refine G7 (s2 _ _ ?_)
  simp
 ·simp [Pu]
  rw [show (".#":Str)=tx [46,35] from rfl]
  refine Pu.wp (Zcv (by have:=n2 x hx;omega)) fun h3 s3=>⟨rfl,s3⟩
theorem Zcw {L:List Nat} (hl:L.length≤900) (hb:DH (Fc L)=true):Pu (EN [.str (tx L)] h) h (Fc L):=by
 change Wp (Ay 2 GD [.str (tx L)] h) _
 refine Eq.mpr Bb ?_
 change Wp (GD [some (.str (tx L)),none] h) _
 simp only [GD,AG,ML,Cb,Bq,BU,Bp]
 refine p_need_text.wp fun h1 s1=>?_
 refine Eq.mpr Aq ?_
 rw [AG,Cj]
 refine (Ue hl).wp fun h2 s2=>?_
 refine Eq.mpr Aq ?_
 simp
 refine (N7 Ud).wp fun h3 s3=>?_
 simp [hb,(s1.trans s2).trans s3]
theorem Zcx {L:List Nat} (hl:L.length≤900) (hb:DH (Fc L)=false):Er (EN [.str (tx L)] h) h "NoText":=by
 change We (Ay 2 GD [.str (tx L)] h) _ _
 refine Eq.mpr EB ?_
 change We (GD [some (.str (tx L)),none] h) _ _
 simp only [GD,BV,ED,DD,CO,Co,CF]
 refine p_need_text.we fun h1 s1=>?_
 simp
 refine (Ue hl).we fun h2 s2=>?_
 refine (N7 Ud).we fun h3 s3=>?_
 simp [hb,(s1.trans s2).trans s3,DR]
end
theorem Zcy (c:Nat):GF (.int (B3 c [46,35]))=decide (c=46∨c=35):=by
 by_cases h1:c=46
 ·subst h1;rfl
 ·by_cases h2:c=35
  ·subst h2;rfl
  ·have e:B3 c [46,35]=-1:=by
    unfold B3
    have:Br c [46,35] 0=[]:=by simp [Br,Ne.symm h1,Ne.symm h2]
    rw [this]
   rw [e]
   simp [GF,h1,h2]
theorem Ug {c:Nat} (h:c=46∨c=35):B3 c [46,35]=if c=35 then 1 else 0:=by
 rcases h with rfl |rfl<;>rfl
theorem N9 (c:Nat):∀(l:List Nat) (x:Nat),(∃p∈Ai c l,x∈p)↔x∈l∧x≠c
 |[],x=>by simp [Ai]
 |a::l,x=>by
  have ih:=N9 c l x
  unfold Ai
  split
  ·rename_i e
   subst e
   simp only [qa9,exists_eq_or_imp,List.not_mem_nil,false_or]
   rw [ih]
   exact ⟨fun z=>⟨.inr z.1,z.2⟩,fun z=>⟨z.1.resolve_left z.2,z.2⟩⟩
  ·rename_i hne
   have hn:=DW c l
   generalize Ai c l=m at ih hn
   match m with
   |[]=>exact absurd rfl hn
   |q::ps=>
    simp only [qa9,exists_eq_or_imp] at ih ⊢
    constructor
    ·rintro ((rfl |z) |z)
     ·exact ⟨.inl rfl,hne⟩
     ·have:=ih.mp (.inl z);exact ⟨.inr this.1,this.2⟩
     ·have:=ih.mp (.inr z);exact ⟨.inr this.1,this.2⟩
    ·rintro ⟨rfl |z,z2⟩
     ·exact .inl (.inl rfl)
     ·rcases ih.mpr ⟨z,z2⟩ with y |y
      ·exact .inl (.inr y)
      ·exact .inr y
theorem Zcz (r:List Nat):Df (EO [46,35] r)=(decide (1≤r.length∧r.length≤8)&&r.all fun c=>decide (c=46∨c=35)):=by
 unfold Df EO
 simp only [CH,B9,Bt,List.all_map]
 congr 1
 ·simp
 ·congr 1
  funext c
  exact Zcy c
def BW (L:List Nat):Bool:=decide ((∀c∈L,c=46∨c=35∨c=47)∧(Ai 47 L).length≤8∧(1≤((Ai 47 L).getD 0 []).length∧((Ai 47 L).getD 0 []).length≤8)∧∀r∈Ai 47 L,r.length=((Ai 47 L).getD 0 []).length)
theorem ZcA (L:List Nat):DH (Fc L)=BW L:=by
 have hne:=DW 47 L
 have hm:=N9 47 L
 have hs:(∀c∈L,c=46∨c=35∨c=47)↔∀r∈Ai 47 L,∀c∈r,c=46∨c=35:=by
  constructor
  ·intro z r hr c hc
   have:=(hm c).mp ⟨r,hr,hc⟩
   rcases z c this.1 with e |e |e
   ·exact .inl e
   ·exact .inr e
   ·exact absurd e this.2
  ·intro z c hc
   by_cases e:c=47
   ·exact .inr (.inr e)
   ·obtain ⟨r,hr,hcr⟩:=(hm c).mpr ⟨hc,e⟩
    rcases z r hr c hcr with e |e
    ·exact .inl e
    ·exact .inr (.inl e)
 unfold BW
 rw [qaZ,decide_eq_true_eq,hs]
 unfold Fc DH
 simp only [CH,B9,Bt,List.all_map,BX,decide_eq_true_eq,qaI,Function.comp,Zcz,beq_iff_eq]
 generalize Ai 47 L=m at hne
 match m,hne with
 |q::ps,_=>
  have l0:∀r,Ee (EO [46,35] r)=r.length:=fun r=>by simp [Ee,EO,B9]
  simp only [Bx,List.getD_cons_zero,l0]
  constructor
  ·rintro ⟨⟨⟨a1,a2⟩,a3⟩,a4⟩
   exact ⟨fun r hr c hc=>(a3 r hr).2 c hc,by simpa using a2,(a3 q (.head _)).1,a4⟩
  ·rintro ⟨b1,b2,b3,b4⟩
   refine ⟨⟨⟨by simp,by simpa using b2⟩,fun r hr=>⟨?_,b1 r hr⟩⟩,b4⟩
   rw [b4 r hr];exact b3
theorem ZcB {h:HD} {l:Nat} {ds:List D} {x:D} (E:h[l]?=some (.lst (ds++[x]))):AE (.loc l) (.int (-1)) h=.ok x h:=by
 have e1:BY (ds++[x]) (-1)=some x:=by
  have h1:CU (ds++[x]).length (-1)=some ds.length:=by
   unfold CU
   rw [if_neg (by decide)]
   simp
   omega
  unfold BY
  rw [h1]
  simp
 simp only [AE,Bj,E,e1]
def GH (l:List Nat):Cell:=.lst (l.map fun c=>.int (B3 c [46,35]))
inductive Rws (h h':HD) (R:Nat) (rs:List (Nat×List Nat)):Prop where
 |mk (sm:Sm h h') (hR:h.length≤R) (eR:h'[R]?=some (.lst (rs.map fun p=>.loc p.1))) (er:∀p∈rs,h'[p.1]?=some (GH p.2)) (nR:∀p∈rs,p.1≠R∧h.length≤p.1) (nd:(rs.map (·.1)).Nodup):Rws h h' R rs
theorem Rws.newRow {h h':HD} {R:Nat} {rs:List (Nat×List Nat)} (x:Rws h h' R rs):Rws h ((h'++[Cell.lst []]).set R (Cell.lst ((rs++[(h'.length,[])]).map fun (p:Nat×List Nat)=>D.loc p.1))) R (rs++[(h'.length,[])]):=by
 obtain ⟨sm,hR,eR,er,nR,nd⟩:=x
 have hRl:R<h'.length:=(qa1.mp eR).1
 have lt:∀p∈rs,p.1<h'.length:=fun p hp=>(qa1.mp (er p hp)).1
 refine ⟨fun l c e=>?_,hR,?_,fun p hp=>?_,fun p hp=>?_,?_⟩
 ·have hl:l<h.length:=(qa1.mp e).1
  have e2:=sm l c e
  have hl2:l<h'.length:=(qa1.mp e2).1
  rw [BF (by omega),DJ hl2]
  exact e2
 ·rw [Cw (by simp;omega)]
 ·rcases qaP.mp hp with hp |hp
  ·have:=lt p hp
   rw [BF (Ne.symm (nR p hp).1),DJ this]
   exact er p hp
  ·cases qaL.mp hp
   show ((h'++[Cell.lst []]).set R _)[h'.length]?=_
   rw [BF (by omega)]
   simp [GH]
 ·rcases qaP.mp hp with hp |hp
  ·exact nR p hp
  ·cases qaL.mp hp
   refine ⟨by omega,?_⟩
   show h.length≤h'.length
   omega
 ·rw [JA,Jt]
  refine ⟨nd,by simp,fun a ha b hb=>?_⟩
  obtain ⟨p,hp,rfl⟩:=qaR.mp ha
  simp at hb
  subst hb
  exact Cd (lt p hp)
theorem Rws.newSign {h h':HD} {R k:Nat} {rs:List (Nat×List Nat)} {l:List Nat} {c:Nat} (x:Rws h h' R (rs++[(k,l)])):Rws h (h'.set k (GH (l++[c]))) R (rs++[(k,l++[c])]):=by
 obtain ⟨sm,hR,eR,er,nR,nd⟩:=x
 have hk:=nR (k,l) (by simp)
 have hkl:k<h'.length:=(qa1.mp (er (k,l) (by simp))).1
 rw [JA,Jt] at nd
 refine ⟨fun i d e=>?_,hR,?_,fun p hp=>?_,fun p hp=>?_,?_⟩
 ·have hl:i<h.length:=(qa1.mp e).1
  have hk2:h.length≤k:=hk.2
  rw [BF (by omega)]
  exact sm i d e
 ·rw [BF hk.1,eR]
  simp
 ·rcases qaP.mp hp with hp |hp
  ·have hne:p.1≠k:=nd.2.2 p.1 (qaR.mpr ⟨p,hp,rfl⟩) k (by simp)
   rw [BF (Ne.symm hne)]
   exact er p (GU _ hp)
  ·cases qaL.mp hp
   exact Cw hkl
 ·rcases qaP.mp hp with hp |hp
  ·exact nR p (GU _ hp)
  ·cases qaL.mp hp
   exact hk
 ·rw [JA,Jt]
  exact nd
inductive HN (L:List Nat) (h:HD) (cs:List Nat) (ρ:Af) (h':HD):Prop where
 |mk (R k:Nat) (rs:List (Nat×List Nat)) (l:List Nat) (x:Option D) (c3:List (Option D)) (f0:ρ=some (.str (tx L))::some (.loc R)::x::c3) (f1:Rws h h' R (rs++[(k,l)]))
  (f2:Ai 47 L=rs.map (·.2)++(l++(Ai 47 cs).headD [])::(Ai 47 cs).tail) (f3:(∀c∈L,c=46∨c=35∨c=47)↔∀c∈cs,c=46∨c=35∨c=47) (f4:rs.length+l.length+cs.length≤901):HN L h cs ρ h'
noncomputable def Oa:MS:=Aw (An (Ad AA (Ab 2) (mC (.str "/")))) (Bn (Eo (Ab 1) (As (Ac)))) (Aw (An (Ad (CW false) (Ab 2) (Du (Aa (mC (.str ".")) (Aa (mC (.str "#")) (Ac)))))) (Bn (Eo (Ad AE (Ab 1) (Ga (mC (.int 1)))) (Ae (Ak intOfD) (Aa (Ad AA (Ab 2) (mC (.str "#"))) (Ac))))) (Al (mC (.bl false))))
theorem Ji (a b:Nat):(tx [a]==tx [b])=decide (a=b):=by
 by_cases h:a=b
 ·subst h;simp
 ·rw [decide_eq_false h,beq_eq_false_iff_ne]
  intro e
  exact h (by simpa [tx] using e)
theorem ZcC (c:Nat) (h:HD):CW false (.str (tx [c])) (.tup [.str ".",.str "#"]) h=.ok (.bl (decide (c=46∨c=35))) h:=by
 show Out.ok (D.bl ((tx [46]==tx [c])||((tx [35]==tx [c])||false))) h=_
 congr 2
 rw [Ji,Ji,Bool.or_false,qaZ]
 simp only [Jz,decide_eq_true_eq]
 omega
theorem ZcD {L:List Nat} {h h0:HD} {ρ0:Af} {Q:Fl×Af→HD→Prop} (hl:L.length≤900) (i0:HN L h L ρ0 h0)
 (qn:∀ρ h',Sm h h'→BW L=false→Q (.rt (.bl false),ρ) h') (qe:∀ρ h',HN L h [] ρ h'→Q (.nx,ρ) h'):
 Wp (Bz (FI (Ab 0)) (AK 2) Oa ρ0 h0) Q:=by
 refine Hh (src:=[]) (xs:=L) (fun c=>.str (tx [c])) (HN L h) ?_ (fun ys ρ h' _=>F8) ?_ qe
 ·have hi:=id i0
  obtain ⟨R,k,rs,l,x,c3,rfl,_,_,_,_⟩:=i0
  have:=R1 (l:=L) (ρ:=some (.str (tx L))::some (.loc R)::x::c3) (h:=h0) (i:=0) rfl
  simp [Ab,IY,Hz]
  exact hi
 ·rintro c cs ρ h' ⟨R,k,rs,l,x,c3,rfl,X,f2,f3,f4⟩
  refine ⟨_,rfl,?_⟩
  have hX:=id X
  obtain ⟨sm,hR,eR,er,nR,nd⟩:=X
  unfold Oa
  by_cases h1:c=47
  ·subst h1
   simp
   rw [if_pos (show tx [47]=Str.ofString "/" from rfl)]
   simp [Gc eR]
   refine AX (by simp) fun n h2 s2 e2 en eh=>?_
   subst eh en
   have hRl:R<h'.length:=(qa1.mp eR).1
   have eR2:(h'++[Cell.lst []])[R]?=some (.lst ((rs++[(k,l)]).map fun p=>.loc p.1)):=s2 _ _ eR
   rw [Kh eR2 (by rw [Bt];simp;simp at f4;exact Bc (by omega) (AQ (Au 1000)))]
   simp only [AR,Es]
   have hn:=hX.newRow
   refine ⟨R,h'.length,rs++[(k,l)],[],_,c3,rfl,?_,?_,?_,?_⟩
   ·simpa using hn
   ·have e:Ai 47 (47::cs)=[]::Ai 47 cs:=by rw [Ai,if_pos rfl]
    rw [f2,e]
    have hne:=DW 47 cs
    generalize Ai 47 cs=m at hne
    match m,hne with
    |q::ps,_=>simp
   ·rw [f3]
    exact ⟨fun z c hc=>z c (.tail _ hc),fun z c hc=>by
     rcases qa9.mp hc with rfl |hc
     ·exact .inr (.inr rfl)
     ·exact z c hc⟩
   ·simp at f4 ⊢;omega
  ·have e1:¬tx [c]=Str.ofString "/":=fun e=>h1 (by have:=(Ji c 47);rw [show tx [c]=tx [47] from e] at this;simpa using this.symm)
   have e:Ai 47 (c::cs)=(match Ai 47 cs with
    |[]=>[[c]]
    |p::ps=>(c::p)::ps):=by rw [Ai,if_neg h1]<;>rfl
   simp
   rw [if_neg e1]
   simp [ZcC]
   by_cases h2:c=46∨c=35
   ·have eR':h'[R]?=some (.lst (rs.map (fun p=>D.loc p.1)++[.loc k])):=by rw [eR];simp
    have ek:=er (k,l) (by simp)
    have hsz:(l.map fun c=>D.int (B3 c [46,35])).length<sizeLine:=by
     rw [Bt];simp at f4;exact Bc (by omega) (AQ (Au 1000))
    have ek':h'[k]?=some (.lst (l.map fun c=>D.int (B3 c [46,35]))):=ek
    have ei:LS.intOfD (.bl (tx [c]==Str.ofString "#")) h'=.ok (.int (B3 c [46,35])) h':=by
     rw [show Str.ofString "#"=tx [35] from rfl,Ji,Ug h2]
     by_cases e:c=35<;>simp [LS.intOfD,e]
    simp [h2]
    have ev:(if tx [c]=Str.ofString "#" then (1:Int) else 0)=B3 c [46,35]:=by
     rw [Ug h2]
     by_cases e3:c=35
     ·subst e3;rfl
     ·have:=Ji c 35
      rw [decide_eq_false e3,beq_eq_false_iff_ne] at this
      rw [if_neg (show ¬tx [c]=Str.ofString "#" from this),if_neg e3]
    rw [ev,ZcB eR',AR,Gc ek',AR,Kh ek' hsz,AR]
    simp only [Es]
    have hn:=hX.newSign (c:=c)
    refine ⟨R,k,rs,l++[c],_,c3,rfl,?_,?_,?_,?_⟩
    ·simpa [GH] using hn
    ·rw [f2,e]
     have hne:=DW 47 cs
     generalize Ai 47 cs=m at hne
     match m,hne with
     |q::ps,_=>simp
    ·rw [f3]
     exact ⟨fun z c hc=>z c (.tail _ hc),fun z d hd=>by
      rcases qa9.mp hd with rfl |hd
      ·rcases h2 with e |e
       ·exact .inl e
       ·exact .inr (.inl e)
      ·exact z d hd⟩
    ·simp at f4 ⊢;omega
   ·simp [h2]
    refine qn _ _ sm ?_
    unfold BW
    rw [decide_eq_false_iff_not,f3]
    rintro ⟨z,_⟩
    have:=z c (.head _)
    omega
theorem ZcE {L:List Nat} {h h':HD} {ρ:Af} (i:HN L h [] ρ h'):∃R rs x c3,ρ=some (.str (tx L))::some (.loc R)::x::c3∧Rws h h' R rs∧Ai 47 L=rs.map (·.2)∧(∀c∈L,c=46∨c=35∨c=47)∧rs.length≤902∧rs≠[]:=by
 obtain ⟨R,k,rs,l,x,c3,e,X,f2,f3,f4⟩:=i
 refine ⟨R,rs++[(k,l)],x,c3,e,X,?_,f3.mpr (fun c hc=>by cases hc),by simp at f4 ⊢;omega,by simp⟩
 rw [f2]
 simp [Ai]
noncomputable def Ob:MS:=Ag (Aw (Cg (CA (An (D2 Dv Dv (mC (.int 1)) (Ae (Ak Bm) (Aa (Ab 1) (Ac))) (mC (.int 8))))) (CA (An (D2 Dv Dv (mC (.int 1)) (Ae (Ak Bm) (Aa (Ad AE (Ab 1) (mC (.int 0))) (Ac))) (mC (.int 8)))))) (Al (mC (.bl false))) (AD)) (Al (Ad AA (Ba [none,some 1] (Bg (Ab 1)) (AK 0) (An (Ad AZ (Ae (Ak Bm) (Aa (Ab 0) (Ac))) (Ae (Ak Bm) (Aa (Ad AE (Ab 1) (mC (.int 0))) (Ac))))) (Ab 0)) (As (Ac))))
theorem ZcF {L l:List Nat} {k:Nat} {rs:List (Nat×List Nat)} (good:∀c∈L,c=46∨c=35∨c=47) (e:Ai 47 L=((k,l)::rs).map (·.2)):
 BW L=true↔rs.length+1≤8∧(1≤l.length∧l.length≤8)∧∀p∈rs,p.2.length=l.length:=by
 unfold BW
 rw [decide_eq_true_eq,e]
 simp only [Bx,CL,Bt,List.getD_cons_zero,qa9,qaR]
 constructor
 ·rintro ⟨_,b1,b2,b3⟩
  exact ⟨b1,b2,fun p hp=>b3 p.2 (.inr ⟨p,hp,rfl⟩)⟩
 ·rintro ⟨b1,b2,b3⟩
  refine ⟨good,b1,b2,?_⟩
  rintro r (rfl |⟨p,hp,rfl⟩)
  ·rfl
  ·exact b3 p hp
def GI (l:List Nat):PyData:=.list (l.map fun c=>.int (B3 c [46,35]))
theorem Lg {α:Type} (g:α→Option PyData) (f:α→PyData):∀(xs:List α),(∀x∈xs,g x=some (f x))→AN (xs.map g)=some (xs.map f)
 |[],_=>rfl
 |x::xs,h=>by
  have ih:=Lg g f xs fun y hy=>h y (.tail _ hy)
  simp only [Bx,h x (.head _)]
  simp [AN,ih]
theorem Oc {α:Type} (f:α→PyData) (h:∀x,(f x).canLay0=true):∀xs:List α,PyData.canLayAll0 (xs.map f)=true
 |[]=>rfl
 |x::xs=>by simp [PyData.canLayAll0,h x,Oc f h xs]
theorem Lh {α:Type} (f:α→PyData) (n:Nat) (h:∀x,(f x).depth≤n):∀xs:List α,PyData.depthAll (xs.map f)≤n
 |[]=>by simp [PyData.depthAll]
 |x::xs=>by
  simp only [Bx,PyData.depthAll]
  have:=h x
  have:=Lh f n h xs
  omega
theorem ZcG (l:List Nat):(GI l).canLay0=true:=Oc _ (fun c=>rfl) l
theorem ZcH (l:List Nat):(GI l).depth≤1:=by
 have:=Lh (fun c:Nat=>PyData.int (B3 c [46,35])) 0 (fun c=>Au _) l
 show PyData.depthAll _+1≤1
 omega
theorem Od {α:Type} (g:α→List Nat) (rs:List α):SeqAt.shaped (.list (rs.map fun p=>GI (g p)))=true:=by
 unfold SeqAt.shaped
 rw [BX,decide_eq_true_eq]
 refine ⟨Oc _ (fun p=>ZcG _) rs,?_⟩
 have:=Lh (fun p=>GI (g p)) 1 (fun p=>ZcH _) rs
 show PyData.depthAll _+1≤64
 omega
theorem ZcI {h:HD} {i n:Nat} {l:List Nat} (e:h[i]?=some (GH l)):A9 h (n+1) (.loc i)=some (GI l):=by
 have e':h[i]?=some (.lst (l.map fun c=>D.int (B3 c [46,35]))):=e
 simp only [A9,e']
 rw [EY,Lg _ (fun c=>.int (B3 c [46,35])) l (fun c _=>by cases n<;>rfl)]
 rfl
theorem ZcJ {h:HD} {n m:Nat} {rs:List (Nat×List Nat)} (en:h[n]?=some (.lst (rs.map fun p=>.loc p.1))) (er:∀p∈rs,h[p.1]?=some (GH p.2)) (em:h[m]?=some (.lst [])):AA (.loc n) (.loc m) h=.ok (.bl rs.isEmpty) h:=by
 have e1:A9 h 8 (.loc n)=some (.list (rs.map fun p=>GI p.2)):=by
  simp only [A9,en]
  rw [EY,Lg (A9 h 7∘fun p=>D.loc p.1) (fun p=>GI p.2) rs (fun p hp=>ZcI (n:=6) (er p hp))]
  rfl
 have e2:A9 h 8 (.loc m)=some (.list []):=by
  simp only [A9,em]
  rfl
 show F6 (.loc n) (.loc m) h=_
 simp only [F6,Fy,e1,e2]
 rw [if_pos ⟨Od (fun p=>p.2) rs,Od (fun p:Nat=>[]) []⟩]
 cases rs<;>rfl
theorem ZcK {L:List Nat} {h h':HD} {ρ:Af} {Q:Fl×Af→HD→Prop} (i:HN L h [] ρ h') (q:∀d ρ h2,d=.bl (BW L)→Sm h h2→Q (.rt d,ρ) h2):Wp (Ob ρ h') Q:=by
 obtain ⟨R,rs,x,c3,rfl,X,e,good,hl,hne⟩:=ZcE i
 match rs,hne with
 |(k,l)::rs,_=>
  have hX:=id X
  obtain ⟨sm,hR,eR,er,nR,nd⟩:=X
  have ek:=er (k,l) (.head _)
  have ek':h'[k]?=some (.lst (l.map fun c=>D.int (B3 c [46,35]))):=ek
  have ix0:∀h2,Sm h' h2→AE (.loc R) (.int 0) h2=.ok (.loc k) h2:=fun h2 s2=>FD (k:=0) (s2 _ _ eR) (by simp)
  have hok:=ZcF good e
  unfold Ob
  simp [Ew eR,ix0 h' (.refl _),Ew ek']
  by_cases a1:rs.length+1≤8
  ·have z1:(1:Int)≤(rs.length:Int)+1:=by omega
   have z2:(rs.length:Int)+1≤8:=by omega
   by_cases a2:1≤l.length
   ·have z3:(1:Int)≤(l.length:Int):=by omega
    by_cases a3:l.length≤8
    ·have z4:(l.length:Int)≤8:=by omega
     simp [z1,z2,z3,z4,Ao,ix0 h' (.refl _),Ew ek']
     refine Hg (xs:=(k,l)::rs) (φ:=fun p=>.loc p.1) (src:=[(R,((k,l)::rs).map fun p=>.loc p.1)]) (fun p=>!decide (p.2.length=l.length)) (fun p=>.loc p.1) (fun p=>[some (.loc p.1),some (.loc R)]) ?_ (AQ (by omega)) (fun p _=>rfl) (fun p hp h2 s2=>?_) (fun p hp _ h2 s2=>?_) fun n h2 s2 e2=>?_
     ·simp only [Gb]
      simp [Ab,D7,Bj,G9,eR,Sm.refl]
      exact fun h3 s3=>G7 (s3 _ _ (by simpa using eR))
     ·have ep:h2[p.1]?=some (.lst (p.2.map fun c=>D.int (B3 c [46,35]))):=s2 _ _ (er p hp)
      simp [Pu,Ew ep,ix0 h2 s2,Ew (s2 _ _ ek')]
      refine ⟨?_,.refl _⟩
      rw [qaZ,beq_iff_eq,decide_eq_true_eq]
      omega
     ·simp [Pu,Sm.refl]
     ·refine AX (by simp) fun m h3 s3 e3 _ _=>?_
      have key:=ZcJ (rs:=((k,l)::rs).filter fun p=>!decide (p.2.length=l.length)) (s3 _ _ e2) (fun p hp=>s3 _ _ (s2 _ _ (er p (qbO.mp hp).1))) e3
      rw [key]
      cases hf:(((k,l)::rs).filter fun p=>!decide (p.2.length=l.length)) with
      |nil=>
       have hall:∀p∈rs,p.2.length=l.length:=fun p hp=>by
        have:=qc0.mp hf p (.tail _ hp)
        simpa using this
       have ok:BW L=true:=hok.mpr ⟨a1,⟨a2,a3⟩,hall⟩
       simp
       exact q _ _ _ (by rw [ok]) ((sm.trans s2).trans s3)
      |cons p ps=>
       have hp:p∈((k,l)::rs).filter fun p=>!decide (p.2.length=l.length):=by rw [hf];exact .head _
       have hp2:=qbO.mp hp
       have bad:¬BW L=true:=fun z=>by
        have h3:=(hok.mp z).2.2
        rcases qa9.mp hp2.1 with rfl |hpr
        ·simp at hp2
        ·have:=h3 p hpr
         simp [this] at hp2
       simp
       exact q _ _ _ (by rw [qbQ.mpr bad]) ((sm.trans s2).trans s3)
    ·have z4:¬(l.length:Int)≤8:=by omega
     simp [z1,z2,z3,z4,Ao,ix0 h' (.refl _),Ew ek']
     exact q _ _ _ (by rw [qbQ.mpr (fun z=>a3 (hok.mp z).2.1.2)]) sm
   ·have z3:¬(1:Int)≤(l.length:Int):=by omega
    simp [z1,z2,z3,Ao,ix0 h' (.refl _),Ew ek']
    exact q _ _ _ (by rw [qbQ.mpr (fun z=>a2 (hok.mp z).2.1.1)]) sm
  ·have z1:(1:Int)≤(rs.length:Int)+1:=by omega
   have z2:¬(rs.length:Int)+1≤8:=by omega
   simp [z1,z2,Ao]
   exact q _ _ _ (by rw [qbQ.mpr (fun z=>a1 (hok.mp z).1)]) sm
theorem ZcL {L:List Nat} {h:HD} (hl:L.length≤900):Pu (Jb [.str (tx L)] h) h (.bl (BW L)):=by
 change Wp (Ay 3 S5 [.str (tx L)] h) _
 refine Eq.mpr Bb ?_
 change Wp (Ag (Ap 1 (As (Aa (As (Ac)) (Ac)))) (Ag (Bz (FI (Ab 0)) (AK 2) Oa) Ob) [some (.str (tx L)),none,none] h) _
 rw [AG,Cj]
 simp
 refine AX (by simp) fun a h1 s1 e1 ea eh1=>?_
 refine AX (by simp) fun b h2 s2 e2 eb eh2=>?_
 subst ea eb
 refine ZcD (h:=h) hl ?_ (fun ρ h' s no=>?_) (fun ρ h' i=>?_)
 ·refine ⟨h1.length,h.length,[],[],none,[],rfl,?_,?_,Iff.rfl,by simp;omega⟩
  ·have l1:h1.length=h.length+1:=by rw [eh1];simp
   refine ⟨s1.trans s2,by omega,by simpa using e2,fun p hp=>?_,fun p hp=>?_,by simp⟩
   ·cases qaL.mp hp
    simpa [GH] using s2 _ _ e1
   ·cases qaL.mp hp
    exact ⟨by show h.length≠h1.length;omega,Au _⟩
  ·have hne:=DW 47 L
   generalize Ai 47 L=m at hne
   match m,hne with
   |q::ps,_=>simp
 ·simp [no,s]
 ·refine Eq.mpr Aq ?_
  refine ZcK i fun d ρ h3 e s=>?_
  simp [e,s]
def TxN (n:Nat) (d:D):Prop:=∃L:List Nat,d=.str (tx L)∧L.length≤n∧∀c∈L,c<128
def Low (L:List Nat):Prop:=∀c∈L,c<128
theorem Low.cut {L:List Nat} {lo hi:Option Int} (h:Low L):Low (CP L lo hi):=fun c hc=>h c (LM (LN hc))
theorem cut_len {L:List Nat} {lo hi:Option Int}:(CP L lo hi).length≤L.length:=by
 unfold CP
 rw [GY,Fo]
 omega
theorem Low.app {a b:List Nat} (h1:Low a) (h2:Low b):Low (a++b):=fun c hc=>by
 rcases qaP.mp hc with hc |hc
 ·exact h1 c hc
 ·exact h2 c hc
theorem TxN.mk' {n:Nat} {L:List Nat} (h:Low L) (hl:L.length≤n):TxN n (.str (tx L)):=⟨L,rfl,hl,h⟩
def Jj:List Nat:=(Str.ofString " !\"#$&'()*+,-./0123456789:;<=>?@ABCDEFGHIJKLMNOPQRSTUVWXYZ[\\]^_`").cps.toList
def Jk:List Nat:=(Str.ofString "abcdefghijklmnopqrstuvwxyz{|}~\n\t").cps.toList
theorem s96:(Jj++Jk).length=96:=by decide +kernel
theorem ZcM:Low (Jj++Jk):=by unfold Low;decide +kernel
theorem ZcN {L:List Nat} {h:HD} (hl:L.length≤1000):KZ (.str (tx L)) h=.ok (.str (tx L.reverse)) h:=by
 simp only [KZ]
 rw [if_pos (by rw [Bw];exact AQ hl)]
noncomputable def Li:MS:=Ag (D3 6 7 (Aa (Ae (A6 E6) (Aa (Ab 2) (Aa (Ab 3) (Ac)))) (Aa (Ae (A6 E5) (Aa (Ab 2) (Aa (Ab 3) (Ac)))) (Ac)))) (Ag (Ap 8 (As (Aa (Ad Ah (Ad Ah (AV (Ab 1) (Az) (Av (Ab 2))) (Ab 5)) (AV (Ab 1) (Av (Ab 2)) (Az))) (Aa (Ad Ah (AV (Ab 1) (Az) (Av (Ab 2))) (AV (Ab 1) (Av (Ad Ah (Ab 2) (mC (.int 1)))) (Az))) (Aa (Ad Ah (Ad Ah (AV (Ab 1) (Az) (Av (Ab 2))) (Ab 5)) (AV (Ab 1) (Av (Ad Ah (Ab 2) (mC (.int 1)))) (Az))) (Aa (Ad Ah (Ab 1) (Ab 5)) (Ac))))))) (Ag (Ap 8 (Ad Ah (Ab 8) (As (Aa (Ad Ah (Ab 5) (Ab 1)) (Aa (Ad Ah (AV (Ab 1) (Az) (Av (Ab 6))) (AV (Ab 1) (Av (Ab 7)) (Az))) (Aa (Ad Ah (AV (Ab 1) (Az) (Av (Ab 7))) (AV (Ab 1) (Av (Ab 6)) (Az))) (Aa (HB (Ab 1)) (Aa (Ad Ah (Ab 1) (Ab 1)) (Aa (Ab 5) (Aa (mC (.str "")) (Ac))))))))))) (Al (Ad AE (Ab 8) (Ae A4 (Aa (Ab 0) (Aa (mC (.int 11)) (Ac))))))))
noncomputable def Uh (s0 s1:Str):MS:=Ag (D3 2 3 (Aa (Ae A4 (Aa (Ab 0) (Aa (Ad Ah (Ae (Ak Dd) (Aa (Ab 1) (Ac))) (mC (.int 1))) (Ac)))) (Aa (Ae A4 (Aa (Ab 0) (Aa (Ad Ah (Ae (Ak Dd) (Aa (Ab 1) (Ac))) (mC (.int 1))) (Ac)))) (Ac)))) (Ag (Ap 4 (mC (.str s0))) (Ag (Ap 4 (Ad Ah (Ab 4) (mC (.str s1)))) (Ag (Ap 5 (Ad AE (As (Aa (mC (.str ".")) (Aa (mC (.str "#")) (Aa (mC (.str "/")) (Aa (mC (.str "r")) (Aa (mC (.str "c")) (Aa (mC (.str "0")) (Aa (mC (.str "7")) (Aa (mC (.str "8")) (Aa (mC (.str " ")) (Aa (Ad Ea (Ab 4) (Ae A4 (Aa (Ab 0) (Aa (mC (.int 96)) (Ac))))) (Ac)))))))))))) (Ae A4 (Aa (Ab 0) (Aa (mC (.int 10)) (Ac)))))) Li)))
def GJ (ρ:Af) (f:ME):Prop:=∀h,∃i:Int,f ρ h=.ok (.int i) h
def TxE (n:Nat) (ρ:Af) (f:ME):Prop:=∀h,∃d,f ρ h=.ok d h∧TxN n d
def Fd (n:Nat) (k:Nat) (ρ:Af) (fa:MA):Prop:=∀h,∃ds,fa ρ h=.ok ds h∧ds.length=k∧∀d∈ds,TxN n d
section
variable {ρ:Af} {f g:ME} {fa:MA} {n m k i:Nat}
theorem Ef {z:Int} (e:ρ[i]?=some (some (.int z))):GJ ρ (Ab i):=fun h=>⟨z,by simp only [Ab,e]⟩
theorem Oe {z:Int} (e:ρ[i]?=some (some (.int z))):GJ ρ (Ad Ah (Ab i) (mC (.int 1))):=fun h=>⟨z+1,by simp only [Ad,Ab,e,mC,Out.bind_ok];rfl⟩
theorem GK {L:List Nat} (e:ρ[i]?=some (some (.str (tx L)))) (hl:L.length≤n) (hL:Low L):TxE n ρ (Ab i):=fun h=>⟨_,by simp only [Ab,e],.mk' hL hl⟩
theorem CI (a:TxE n ρ f) (b:TxE m ρ g) (hz:n+m≤k) (hk:k≤1000):TxE k ρ (Ad Ah f g):=fun h=>by
 obtain ⟨_,e1,L1,rfl,l1,w1⟩:=a h
 obtain ⟨_,e2,L2,rfl,l2,w2⟩:=b h
 refine ⟨.str (tx (L1++L2)),?_,.mk' (Low.app w1 w2) (by simp;omega)⟩
 simp only [Ad,e1,e2,Out.bind_ok]
 exact EJ (AQ (by omega))
theorem Of {L:List Nat} (e:ρ[i]?=some (some (.str (tx L)))) (hl:L.length≤n) (hn:n≤1000) (hL:Low L) (a:GJ ρ f):TxE n ρ (AV (Ab i) Az (Av f)):=fun h=>by
 obtain ⟨z,e1⟩:=a h
 refine ⟨.str (tx (CP L none (some z))),?_,.mk' hL.cut (BG cut_len hl)⟩
 simp only [AV,Ab,e,Az,Av,e1,Out.bind_ok]
 exact KS (AQ (by omega))
theorem Lj {L:List Nat} (e:ρ[i]?=some (some (.str (tx L)))) (hl:L.length≤n) (hn:n≤1000) (hL:Low L) (a:GJ ρ f):TxE n ρ (AV (Ab i) (Av f) Az):=fun h=>by
 obtain ⟨z,e1⟩:=a h
 refine ⟨.str (tx (CP L (some z) none)),?_,.mk' hL.cut (BG cut_len hl)⟩
 simp only [AV,Ab,e,Az,Av,e1,Out.bind_ok]
 exact KS (AQ (by omega))
theorem ZcO {L:List Nat} (e:ρ[i]?=some (some (.str (tx L)))) (hl:L.length≤n) (hn:n≤1000) (hL:Low L):TxE n ρ (HB (Ab i)):=fun h=>by
 refine ⟨.str (tx L.reverse),?_,.mk' (fun c hc=>hL c (List.mem_reverse.mp hc)) (by simpa using hl)⟩
 simp only [HB,Ab,e,Out.bind_ok]
 exact ZcN (by omega)
theorem Ui {x:Str} {L:List Nat} (e:x=tx L) (hl:L.length≤n) (hL:Low L):TxE n ρ (mC (.str x)):=fun h=>⟨_,rfl,e ▸ .mk' hL hl⟩
theorem TxE.up (a:TxE n ρ f) (h:n≤m):TxE m ρ f:=fun hd=>by
 obtain ⟨_,e1,L1,rfl,l1,w1⟩:=a hd
 exact ⟨_,e1,.mk' w1 (by omega)⟩
theorem Jl:Fd n 0 ρ Ac:=fun h=>⟨[],rfl,rfl,fun d hd=>nomatch hd⟩
theorem Bd (a:TxE n ρ f) (b:Fd n k ρ fa):Fd n (k+1) ρ (Aa f fa):=fun h=>by
 obtain ⟨d,e1,t1⟩:=a h
 obtain ⟨ds,e2,l2,t2⟩:=b h
 refine ⟨d::ds,by simp only [Aa,e1,e2,Out.bind_ok],by simp [l2],fun x hx=>?_⟩
 rcases qa9.mp hx with rfl |hx
 ·exact t1
 ·exact t2 x hx
theorem Jm {h:HD} {Q:D→HD→Prop} (a:Fd n k ρ fa) (hk:k≤1000) (q:∀ds h',ds.length=k→(∀d∈ds,TxN n d)→h'[h.length]?=some (.lst ds)→Sm h h'→Q (.loc h.length) h'):Wp (As fa ρ h) Q:=by
 obtain ⟨ds,e,l,t⟩:=a h
 unfold As
 rw [e,Out.bind_ok]
 refine AX (AQ (by omega)) fun l' h' s' e' el _=>?_
 subst el
 exact q ds h' l t e' s'
end
theorem ZcP {a b:Nat}:∃k:Int,∀h,E6 (.int (a:Nat)) (.int (b:Nat)) h=.ok (.int k) h:=⟨_,fun _=>rfl⟩
theorem ZcQ {a b:Nat}:∃k:Int,∀h,E5 (.int (a:Nat)) (.int (b:Nat)) h=.ok (.int k) h:=⟨_,fun _=>rfl⟩
noncomputable def Uj:MA:=Aa (Ad Ah (Ad Ah (AV (Ab 1) (Az) (Av (Ab 2))) (Ab 5)) (AV (Ab 1) (Av (Ab 2)) (Az))) (Aa (Ad Ah (AV (Ab 1) (Az) (Av (Ab 2))) (AV (Ab 1) (Av (Ad Ah (Ab 2) (mC (.int 1)))) (Az))) (Aa (Ad Ah (Ad Ah (AV (Ab 1) (Az) (Av (Ab 2))) (Ab 5)) (AV (Ab 1) (Av (Ad Ah (Ab 2) (mC (.int 1)))) (Az))) (Aa (Ad Ah (Ab 1) (Ab 5)) (Ac))))
noncomputable def Uk:MA:=Aa (Ad Ah (Ab 5) (Ab 1)) (Aa (Ad Ah (AV (Ab 1) (Az) (Av (Ab 6))) (AV (Ab 1) (Av (Ab 7)) (Az))) (Aa (Ad Ah (AV (Ab 1) (Az) (Av (Ab 7))) (AV (Ab 1) (Av (Ab 6)) (Az))) (Aa (HB (Ab 1)) (Aa (Ad Ah (Ab 1) (Ab 1)) (Aa (Ab 5) (Aa (mC (.str "")) (Ac)))))))
theorem ZcR:Li=Ag (D3 6 7 (Aa (Ae (A6 E6) (Aa (Ab 2) (Aa (Ab 3) (Ac)))) (Aa (Ae (A6 E5) (Aa (Ab 2) (Aa (Ab 3) (Ac)))) (Ac)))) (Ag (Ap 8 (As Uj)) (Ag (Ap 8 (Ad Ah (Ab 8) (As Uk))) (Al (Ad AE (Ab 8) (Ae A4 (Aa (Ab 0) (Aa (mC (.int 11)) (Ac)))))))):=rfl
section
variable {ρ:Af} {L:List Nat} {a c:Nat} {k1 k2:Int}
theorem ZcS (h1:ρ[1]?=some (some (.str (tx L)))) (h2:ρ[2]?=some (some (.int (a:Nat)))) (h5:ρ[5]?=some (some (.str (tx [c])))) (hl:L.length≤100) (hL:Low L) (hc:Low [c]):Fd 201 4 ρ Uj:=by
 have v1:TxE 100 ρ (Ab 1):=GK h1 hl hL
 have v5:TxE 1 ρ (Ab 5):=GK h5 (by simp) hc
 have lo:=Of h1 hl (by omega) hL (Ef h2)
 have hi:=Lj h1 hl (by omega) hL (Ef h2)
 have hi1:=Lj h1 hl (by omega) hL (Oe h2)
 exact Bd (CI (CI lo v5 (Au _) (by omega)) hi (by omega) (by omega)) (Bd (CI lo hi1 (by omega) (by omega)) (Bd (CI (CI lo v5 (Au _) (by omega)) hi1 (by omega) (by omega)) (Bd (CI v1 v5 (by omega) (by omega)) Jl)))
theorem ZcT (h1:ρ[1]?=some (some (.str (tx L)))) (h6:ρ[6]?=some (some (.int k1))) (h7:ρ[7]?=some (some (.int k2))) (h5:ρ[5]?=some (some (.str (tx [c])))) (hl:L.length≤100) (hL:Low L) (hc:Low [c]):Fd 201 7 ρ Uk:=by
 have v1:TxE 100 ρ (Ab 1):=GK h1 hl hL
 have v5:TxE 1 ρ (Ab 5):=GK h5 (by simp) hc
 have lo6:=Of h1 hl (by omega) hL (Ef h6)
 have hi6:=Lj h1 hl (by omega) hL (Ef h6)
 have lo7:=Of h1 hl (by omega) hL (Ef h7)
 have hi7:=Lj h1 hl (by omega) hL (Ef h7)
 exact Bd (CI v5 v1 (by omega) (by omega)) (Bd (CI lo6 hi7 (by omega) (by omega)) (Bd (CI lo7 hi6 (by omega) (by omega)) (Bd ((ZcO h1 hl (by omega) hL).up (by omega)) (Bd (CI v1 v1 (by omega) (by omega)) (Bd (v5.up (by omega)) (Bd (Ui (L:=[]) rfl (by simp) (fun c hc=>nomatch hc)) Jl))))))
end
theorem ZcU {b at_ to c:Nat} {s:D} {L:List Nat} {h h0:HD} {Q:D→HD→Prop} (hx:BoxAt h b) (s0:Smx b h0 h) (hl:L.length≤100) (hL:Low L) (hc:c<128) (q:∀d h',TxN 201 d→BoxAt h' b→Smx b h0 h'→Q d h'):
 Wp (Li [some (.loc b),some (.str (tx L)),some (.int (at_:Nat)),some (.int (to:Nat)),some s,some (.str (tx [c])),none,none,none] h) (FB Q):=by
 rw [ZcR]
 obtain ⟨k1,e1⟩:=ZcP (a:=at_) (b:=to)
 obtain ⟨k2,e2⟩:=ZcQ (a:=at_) (b:=to)
 have hcL:Low [c]:=fun x hx=>by cases qaL.mp hx;exact hc
 rw [AG]
 simp [e1,e2,-Aq,-AG]
 refine Eq.mpr Aq ?_
 refine Eq.mpr AG (Eq.mpr Cj ?_)
 refine Jm (ZcS rfl rfl rfl hl hL hcL) (by omega) fun ds4 h1 l4 t4 g4 s4=>?_
 refine Eq.mpr Aq ?_
 refine Eq.mpr AG (Eq.mpr Cj (Eq.mpr Bo ?_))
 refine Eq.mpr (Hf (d:=.loc h.length) rfl) ?_
 refine Jm (ZcT rfl rfl rfl rfl hl hL hcL) (by omega) fun ds7 h2 l7 t7 g7 s7=>?_
 have g4':=s7 _ _ g4
 simp only [Ah,g4',g7]
 refine AX (by rw [Ca,l4,l7];exact AQ (by omega)) fun n h3 s3 e3 en _=>?_
 refine Eq.mpr Aq (Eq.mpr Ep (Eq.mpr Bo (Eq.mpr (Hf (d:=.loc n) rfl) (Eq.mpr Cb (Eq.mpr Bq (Eq.mpr (Hf (d:=.loc b) rfl) (Eq.mpr Bq (Eq.mpr B8 (Eq.mpr Bp ?_)))))))))
 have sm:Sm h h3:=(s4.trans s7).trans s3
 refine De (hx.sm sm) (by omega) (by omega) fun d h4 d0 d1 x4 s4'=>?_
 have nb:n≠b:=by
  have:=hx.lt
  have:=(s4.trans s7).len
  omega
 have e4:=s4' _ _ nb e3
 obtain ⟨o,rfl⟩:=Eh d0
 obtain ⟨y,ey,py⟩:=Jh (TxN 201) (o:=o) e4 (by rw [Ca,l4,l7];omega) (T7 t4 t7)
 have ey':AE (.loc n) (.int (Int.ofNat o)) h4=.ok y h4:=ey
 refine Eq.mpr (congrArg (fun w=>Wp w _) ey') ?_
 exact q y h4 py x4 ((s0.trans (Dl sm)).trans s4')
theorem ZcV {b:Nat} {L:List Nat} {h:HD} {Q:D→HD→Prop} (hx:BoxAt h b) (hl:L.length≤100) (hL:Low L) (q:∀d h',TxN 201 d→BoxAt h' b→Smx b h h'→Q d h'):Wp (HI [.loc b,.str (tx L)] h) Q:=by
 change Wp (Ay 9 Tg [.loc b,.str (tx L)] h) _
 refine Eq.mpr Bb ?_
 change Wp (Uh (tx Jj) (tx Jk) [some (.loc b),some (.str (tx L)),none,none,none,none,none,none,none] h) (FB Q)
 have hs:(tx Jj:Str).length+(tx Jk:Str).length≤1000:=by decide +kernel
 have L96:=s96
 have W96:=ZcM
 generalize Jj=u0 at *
 generalize Jk=u1 at *
 unfold Uh
 have tail:=@ZcU
 generalize Li=tail2 at *
 have hadd:∀h2,Ah (.str (tx u0)) (.str (tx u1)) h2=.ok (.str (tx (u0++u1))) h2:=fun h2=>EJ (by rw [Bw,Bw] at hs;exact AQ hs)
 have hlen:∀h2,Dd (.str (tx L)) h2=.ok (.int (L.length:Nat)) h2:=fun h2=>by
  simp only [Dd,Bw]
  rw [if_pos (AQ (by omega))]
 rw [AG]
 simp [hlen,-Aq,-AG]
 refine De hx (by omega) (by omega) fun a h1 a0 _ x1 s1=>?_
 refine De x1 (by omega) (by omega) fun t h2 t0 _ x2 s2=>?_
 refine Eq.mpr Aq ?_
 rw [AG]
 simp [-Aq,-AG]
 refine Eq.mpr Aq ?_
 rw [AG]
 simp [hadd,-Aq,-AG]
 refine Eq.mpr Aq ?_
 rw [AG]
 simp [-Aq,-AG]
 refine De x2 (by omega) (by omega) fun d h3 d0 d1 x3 s3=>?_
 obtain ⟨d,rfl⟩:=Eh d0
 obtain ⟨a,rfl⟩:=Eh a0
 obtain ⟨t,rfl⟩:=Eh t0
 have dl:d<(u0++u1).length:=by rw [L96];omega
 have e3:Ea (.str (tx (u0++u1))) (.int (Int.ofNat d)) h3=.ok (.str (tx [(u0++u1)[d]])) h3:=NI (AQ (by rw [L96];omega)) (BK dl)
 have w3:(u0++u1)[d]<128:=W96 _ (HZ dl)
 generalize (u0++u1)[d]=c at e3 w3
 refine Eq.mpr (congrArg (fun w=>Wp w _) e3) ?_
 simp [-Aq,-AG]
 refine AX (AQ (by simp)) fun n h4 s4 e4 en _=>?_
 have nb:n≠b:=by
  have:=x3.lt
  omega
 refine De (x3.sm s4) (by omega) (by omega) fun o h5 o0 o1 x5 s5=>?_
 obtain ⟨o,rfl⟩:=Eh o0
 have e5:=s5 _ _ nb e4
 obtain ⟨y,ey,c',hc',rfl⟩:=Jh (fun d=>∃c:Nat,c<128∧d=.str (tx [c])) (o:=o) e5 (by simp;omega) (all_cons ⟨46,by omega,rfl⟩ (all_cons ⟨35,by omega,rfl⟩ (all_cons ⟨47,by omega,rfl⟩ (all_cons ⟨114,by omega,rfl⟩ (all_cons ⟨99,by omega,rfl⟩ (all_cons ⟨48,by omega,rfl⟩ (all_cons ⟨55,by omega,rfl⟩ (all_cons ⟨56,by omega,rfl⟩ (all_cons ⟨32,by omega,rfl⟩ (all_cons ⟨c,w3,rfl⟩ all_nil))))))))))
 have ey':AE (.loc n) (.int (Int.ofNat o)) h5=.ok (.str (tx [c'])) h5:=ey
 refine Eq.mpr (congrArg (fun w=>Wp w _) ey') ?_
 refine Eq.mpr Aq ?_
 exact tail x5 ((((s1.trans s2).trans s3).trans (Dl s4)).trans s5) hl hL hc' q
section
variable {H W n:Nat} {f:Nat→Nat→Bool} {r p q:Nat→Bool} {h:HD}
def GL (b:Bool):Nat:=if b then 35 else 46
def Cs (W:Nat) (r:Nat→Bool):List Nat:=(List.range W).map fun j=>GL (r j)
def AJ (H W:Nat) (f:Nat→Nat→Bool):List Nat:=CQ [47] ((List.range H).map fun i=>Cs W (f i))
theorem Jn:(Cs W r).length=W:=by simp [Cs]
theorem Ul (hh:H≤8) (hw:W≤8):(AJ H W f).length≤100:=by
 have:=NF [47] 8 ((List.range H).map fun i=>Cs W (f i)) fun x hx=>by
  obtain ⟨i,_,rfl⟩:=qaR.mp hx
  rw [Jn];exact hw
 rw [Bt,List.length_range] at this
 unfold AJ
 have h2:H*(8 + [47].length)≤8*9:=Nat.mul_le_mul hh (by decide)
 omega
theorem ZcW {b:Bool}:Ea (.str ".#") (lit b) h=.ok (.str (tx [GL b])) h:=by
 cases b
 ·exact NI (l:=[46,35]) (k:=0) (by decide) rfl
 ·exact NI (l:=[46,35]) (k:=1) (by decide) rfl
theorem ZcX (l:List Nat) {α:Type} (g:α→Nat) (xs:List α) (e:l=xs.map g):CQ [] (xs.map fun x=>[g x])=l:=by
 subst e
 have key:∀xs:List α,(xs.map fun x=>[g x]).flatMap (fun y=>([]:List Nat)++y)=xs.map g:=fun xs=>by
  induction xs with
  |nil=>rfl
  |cons b xs ih=>rw [Bx,Jv,ih];rfl
 cases xs with
 |nil=>rfl
 |cons a xs=>
  rw [Bx,CQ,key]
  rfl
theorem p_row_text:Pu (NG [] [none] (Bg (Ab 0)) (AK 0) (Ad Ea (mC (.str ".#")) (Ab 0)) [some (BD W r)] h) h (.str (tx (Cs W r)))∨8<W:=by
 by_cases hw:W≤8
 ·left
  have:=NH (sep:=[]) (xs:=List.range W) (φ:=fun j=>lit (r j)) (ρ:=[some (BD W r)]) (h:=h) (cs:=[none]) (it:=Bg (Ab 0)) (sg:=AK 0) (f:=Ad Ea (mC (.str ".#")) (Ab 0)) (src:=[]) (fun j=>[GL (r j)]) (fun j=>[some (lit (r j))]) 1 Hi (fun x _=>rfl) (fun x _ h' _=>by
   simp [Pu]
   rw [ZcW]
   exact ⟨rfl,.refl _⟩) (sz hw) (fun x _=>by simp) (AQ (by simp;omega))
  rw [ZcX (Cs W r) (fun j=>GL (r j)) _ rfl] at this
  exact this
 ·right;omega
theorem ZcY (hh:1≤H∧H≤8) (hw:1≤W∧W≤8):Pu (Jf [bD H W f] h) h (.str (tx (AJ H W f))):=by
 change Wp (Ay 1 N2 [bD H W f] h) _
 refine Eq.mpr Bb ?_
 simp only [N2,AG,ML,Cb,Bq,BU,Bp]
 refine (T4 hh hw).wp fun h1 s1=>?_
 refine Eq.mpr Aq ?_
 rw [Ep]
 refine Pu.wp (a:=.str (tx (AJ H W f))) ?_ fun h2 s2=>⟨rfl,s1.trans s2⟩
 refine NH (sep:=[47]) (xs:=List.range H) (φ:=fun i=>BD W (f i)) (src:=[]) (fun i=>Cs W (f i)) (fun i=>[some (BD W (f i))]) 8 Hi (fun x _=>rfl) (fun x _ h' _=>?_) (sz hh.2) (fun x _=>by rw [Jn];exact hw.2) (AQ (by simp;omega))
 exact p_row_text.resolve_right (by omega)
theorem Og:∀(rs:List (List Nat)) (x:List Nat),(∀c∈x,c≠47)→(∀y∈rs,∀c∈y,c≠47)→Ai 47 (x++rs.flatMap fun y=>[47]++y)=x::rs
 |rs,a::x,hx,hr=>by
  have ih:=Og rs x (fun c hc=>hx c (Be _ hc)) hr
  rw [DK,Ai,if_neg (hx a Bf),ih]
 |[],[],_,_=>rfl
 |y::rs,[],_,hr=>by
  have ih:=Og rs y (hr y Bf) fun z hz=>hr z (Be _ hz)
  rw [Jv,Fp,List.append_assoc,List.singleton_append,Ai,if_pos rfl,ih]
theorem ZcZ {b:Bool}:GL b≠47:=by cases b<;>decide
theorem Um:∀c∈Cs W r,c≠47:=fun c hc=>by
 obtain ⟨j,_,rfl⟩:=qaR.mp hc
 exact ZcZ
theorem Uo (hh:1≤H):Ai 47 (AJ H W f)=(List.range H).map fun i=>Cs W (f i):=by
 unfold AJ
 obtain ⟨k,rfl⟩:∃k,H=k+1:=⟨H - 1,by omega⟩
 rw [List.range_succ_eq_map,Bx,CQ]
 refine Og _ _ Um fun y hy=>?_
 obtain ⟨i,_,rfl⟩:=qaR.mp hy
 exact Um
theorem Zc0 {b:Bool}:D.int (B3 (GL b) [46,35])=lit b:=by cases b<;>rfl
theorem Zc1:EO [46,35] (Cs W r)=BD W r:=by
 unfold EO Cs BD
 rw [EY]
 congr 1
 exact GW fun j _=>Zc0
theorem Up (hh:1≤H):Fc (AJ H W f)=bD H W f:=by
 unfold Fc bD
 rw [Uo hh,EY]
 congr 1
 exact GW fun i _=>Zc1
theorem Zc2 (hh:1≤H∧H≤8) (hw:1≤W∧W≤8):Pu (EN [.str (tx (AJ H W f))] h) h (bD H W f):=by
 have:=Zcw (h:=h) (L:=AJ H W f) (BG (Ul hh.2 hw.2) (by omega)) (by rw [Up hh.1];exact T3 hh hw)
 rwa [Up hh.1] at this
end
abbrev Jo (k:Nat):Cell:=.ins "Desk" [("kept",.loc k)]
abbrev Eg (x:D) (e:Nat):Cell:=.ins "Keeper" [("now",x),("earlier",.loc e)]
structure DeskAt (h:HD) (d k e:Nat) (ds:List D) (b:D):Prop where
 a1:h[d]?=some (Jo k)
 a2:h[k]?=some (Eg b e)
 a3:h[e]?=some (.lst ds)
section
variable {h h':HD} {d k e:Nat} {ds:List D} {b x y:D} {ρ:Af}
theorem DeskAt.sm (A:DeskAt h d k e ds b) (s:Sm h h'):DeskAt h' d k e ds b:=⟨s _ _ A.a1,s _ _ A.a2,s _ _ A.a3⟩
theorem ES (E:h[d]?=some (Jo k)):DE "Desk" "kept" (.loc d) h=.ok (.loc k) h:=by unfold DE;simp only [E];rfl
theorem Uq (E:h[k]?=some (Eg x e)):DE "Keeper" "now" (.loc k) h=.ok x h:=by unfold DE;simp only [E];rfl
theorem Oh (E:h[k]?=some (Eg x e)):DE "Keeper" "earlier" (.loc k) h=.ok (.loc e) h:=by unfold DE;simp only [E];rfl
theorem Ur (E:h[k]?=some (Eg x e)):DF "Keeper" "now" (.loc k) y ρ h=.ok (.nx,ρ) (h.set k (Eg y e)):=by unfold DF;simp only [E];rfl
theorem FN {m:Str} (E:h[k]?=some (Eg x e)) (hm:[(("now":Str),x),("earlier",D.loc e)].lookup m=none:=by rfl):EK "Keeper" m (.loc k) h=.ok (.loc k) h:=by
 unfold EK
 simp only [E,hm,and_self,if_true]
theorem GM {m:Str} (E:h[d]?=some (Jo k)) (hm:[(("kept":Str),D.loc k)].lookup m=none:=by rfl):EK "Desk" m (.loc d) h=.ok (.loc d) h:=by
 unfold EK
 simp only [E,hm,and_self,if_true]
theorem Jp (E:h[k]?=some (Eg x e)):Pu (FM [.loc k] h) h x:=by
 change Wp (Ay 1 SH [.loc k] h) _
 refine Eq.mpr Bb ?_
 simp [Uq E,Sm.refl]
theorem p_need_row:Pu (DG [.bl true] h) h .non:=by
 change Wp (Ay 1 NV [.bl true] h) _
 refine Eq.mpr Bb ?_
 simp [Sm.refl]
theorem er_need_row:Er (DG [.bl false] h) h "NoRow":=by
 change We (Ay 1 NV [.bl false] h) _ _
 refine Eq.mpr EB ?_
 simp [Sm.refl,DR]
end
def Dg:List Str:=["road","form","turn","undo","show","lit","left","bound","fours","counts"]
section
variable {h h':HD} {d k e:Nat} {ds:List D} {b x y:D} {ρ:Af} {L:List Nat}
theorem Oi:F5 .non .non h=.ok (.bl false) h:=rfl
theorem Zc3 (hn:∀s∈Dg,¬tx L=s):Pu (HL [b,.str (tx L)] h) h .non:=by
 change Wp (Ay 2 HK [b,.str (tx L)] h) _
 refine Eq.mpr Bb ?_
 simp [hn "show" (by decide),hn "lit" (by decide),hn "left" (by decide),hn "bound" (by decide),hn "fours" (by decide),hn "counts" (by decide),Sm.refl]
theorem Zc4 (hn:∀s∈Dg,¬tx L=s):Pu (K3 [b,.str (tx L)] h) h .non:=by
 change Wp (Ay 2 SM [b,.str (tx L)] h) _
 refine Eq.mpr Bb ?_
 simp [hn "road" (by decide),hn "form" (by decide),hn "turn" (by decide),Sm.refl]
theorem Zc5 (A:DeskAt h d k e ds b) (hn:∀s∈Dg,¬tx L=s):Er (HM [.loc d,.str (tx L)] h) h "NoRow":=by
 change We (Ay 4 GE [.loc d,.str (tx L)] h) _ _
 refine Eq.mpr EB ?_
 simp only [GE,BV,Kw,DD,CO,Ed,Gu]
 change We (DE "Desk" "kept" (.loc d) h) _ _
 rw [ES A.a1,BB]
 rw [FN A.a2,BB,CF]
 refine (Jp A.a2).we fun h1 s1=>?_
 have A1:=A.sm s1
 simp
 refine (Zc3 hn).we fun h2 s2=>?_
 have A2:=A1.sm s2
 simp [Oi,hn "undo" (by decide),ES A2.a1,FN (m:="board") A2.a2]
 refine (Jp A2.a2).we fun h3 s3=>?_
 refine (Zc4 hn).we fun h4 s4=>?_
 simp [Oi]
 exact er_need_row.we fun h5 s5=>⟨rfl,rfl,(((s1.trans s2).trans s3).trans s4).trans s5⟩
end
def BE (w:List Nat):Bool:=match w with
 |[c]=>decide (48≤c∧c≤57)
 |_=>false
def GN:List Nat:=[48,49,50,51,52,53,54,55,56,57]
theorem mem_digits {c:Nat}:c∈GN↔48≤c∧c≤57:=by
 unfold GN
 simp
 omega
theorem Us (l:List Nat) (c:Nat) (h:HD):FL (.str (tx [c])) (.str (tx l)) h=.ok (.bl (decide (c∈l))) h:=by
 show Out.ok (D.bl (!(Builtin.Str.occurrences (tx l) (tx [c]) 0 (tx l).length 1).isEmpty)) h=_
 rw [IX]
 have e:(!((Br c l 0).take 1).isEmpty)=decide (c∈l):=by
  cases q:Br c l 0 with
  |nil=>
   have:=(KO c l 0).mp q
   rw [decide_eq_false (fun z=>this c z rfl)]
   rfl
  |cons i r=>
   have:c∈l:=by
    refine Decidable.byContradiction fun z=>?_
    have:=(KO c l 0).mpr fun a ha e=>z (e ▸ ha)
    rw [q] at this
    cases this
   rw [decide_eq_true this]
   rfl
 rw [e]
theorem Zc6:∀c∈GN,∃n,PySem.intText? (tx [c])=some n:=by
 intro c hc
 have:∀c∈GN,(PySem.intText? (tx [c])).isSome=true:=by decide +kernel
 exact qbB.mp (this c hc)
theorem Ut {l:List Nat} {h:HD} (hl:l.length≤1000):Dd (.str (tx l)) h=.ok (.int (l.length:Nat)) h:=by
 show (if (tx l).length≤sizeLine then Out.ok (D.int ((tx l).length:Nat)) h else .stuck)=_
 rw [Bw,if_pos (AQ hl)]
section
variable {h h':HD} {d k e l:Nat} {ds:List D} {b x y:D} {ρ:Af} {L R w:List Nat}
theorem Zc7 (hl:w.length≤1000) {c:List (Option D)}:Pu (El (Ad AA (Ae (Ak Dd) (Aa (Ab 0) (Ac))) (mC (.int 1))) (Ad FL (Ab 0) (mC (.str "0123456789"))) (some (.str (tx w))::c) h) h (.bl (BE w)):=by
 unfold Pu
 rw [show ("0123456789":Str)=tx GN from rfl]
 simp [Ut hl]
 by_cases z:w.length=1
 ·obtain ⟨c,rfl⟩:=List.length_eq_one_iff.mp z
  show Wp (FL (.str (tx [c])) (.str (tx GN)) h) _
  rw [Us]
  exact ⟨by simp [BE,mem_digits],.refl _⟩
 ·have z':((w.length:Int)==1)=false:=beq_eq_false_iff_ne.mpr (by omega)
  rw [z']
  refine ⟨?_,.refl _⟩
  show D.bl false=_
  congr 1
  symm
  unfold BE
  split
  ·simp at z
  ·rfl
theorem Uu {l:Nat} {ws:List (List Nat)} {ρ:Af} {i:Nat} (ei:ρ[i]?=some (some (.loc l))) (E:h[l]?=some (.lst (ws.map fun w=>.str (tx w)))):Eu (Bg (Ab i) ρ h) h (ws.map fun w=>.str (tx w)) [(l,ws.map fun w=>.str (tx w))]:=by
 unfold Eu
 simp only [Gb]
 simp [Ab,ei,D7,Bj,G9,E,Sm.refl]
 exact fun h3 s3=>G7 (s3 _ _ E)
theorem Lk {i:Nat} {ρ:Af} (ei:ρ[i]?=some (some (.str (tx R)))) (hl:R.length≤900) {Q:D→HD→Prop} (q:∀l h',Sm h h'→h.length≤l→h'[l]?=some (.lst ((Ai 32 R).map fun w=>.str (tx w)))→Q (.loc l) h'):Wp (BJ BC CG (Ab i) (mC (.str " ")) ρ h) Q:=by
 have e0:CG (.str (tx R)) (.str " ") h=Bu ((Ai 32 R).map fun l=>.str (tx l)) h:=by
  rw [show (" ":Str)=tx [32] from rfl,R3 (AQ (by omega))]
 have hz:((Ai 32 R).map fun l=>D.str (tx l)).length≤sizeLine:=by rw [Bt];exact AQ (by have:=(GG 32 R).1;omega)
 simp only [Kx,Ab,ei,AR,BC]
 show Wp (CG (.str (tx R)) (.str " ") h) _
 rw [e0,Bu,if_pos hz]
 exact q _ _ (.app _ _) (Au _) (by simp)
theorem Uv {l:Nat} {ws:List (List Nat)} {ρ:Af} {i:Nat} (ei:ρ[i]?=some (some (.loc l))) (E:h[l]?=some (.lst (ws.map fun w=>.str (tx w)))) (hw:∀w∈ws,w.length≤1000) (hn:ws.length≤1000):
 Pu (Ae (Ak Dy) (Aa (Ba [none] (Bg (Ab i)) (AK 0) (BS) (El (Ad AA (Ae (Ak Dd) (Aa (Ab 0) (Ac))) (mC (.int 1))) (Ad FL (Ab 0) (mC (.str "0123456789"))))) (Ac)) ρ h) h (.bl (ws.all BE)):=by
 rw [Y6]
 exact Ki (xs:=ws) (φ:=fun w=>.str (tx w)) BE (fun w=>[some (.str (tx w))]) (Uu ei E) (fun x _=>rfl) (fun x hx h' _=>Zc7 (hw x hx)) (AQ hn)
theorem Zc8 (hl:R.length≤900) (hb:(Ai 32 R).all BE=false):Er (HG [.str (tx R)] h) h "NoRow":=by
 change We (Ay 2 GB [.str (tx R)] h) _ _
 refine Eq.mpr EB ?_
 change We (GB [some (.str (tx R)),none] h) _ _
 simp only [GB,BV,Kw]
 refine Wp.we (Lk rfl hl fun l h1 s1 _ e1=>?_)
 rw [Nd,BV,ED,DD,CO]
 have n1:=GG 32 R
 have pf:=Uv (h:=h1) (ρ:=[some (.str (tx R)),some (.loc l)]) (i:=1) rfl e1 (fun w hw=>by have:=n1.2 w hw;omega) (by omega)
 rw [hb] at pf
 refine pf.we fun h2 s2=>?_
 rw [CF]
 exact er_need_row.we fun h3 s3=>⟨rfl,rfl,(s1.trans s2).trans s3⟩
theorem Zc9 (hw:BE w=true):∃n:Int,∀h (c:List (Option D)),Ae (Ak Gw) (Aa (Ab 0) (Ac)) (some (.str (tx w))::c) h=.ok (.int n) h:=by
 unfold BE at hw
 split at hw
 ·rename_i c
  obtain ⟨n,hn⟩:=Zc6 c (mem_digits.mpr (of_decide_eq_true hw))
  refine ⟨n,fun h r=>?_⟩
  show Gw (.str (tx [c])) h=_
  unfold Gw
  simp only [hn]
  rw [if_pos (by show (tx [c]).length≤640;rw [Bw];simp)]
 ·cases hw
theorem Zda (hl:R.length≤900) (hb:(Ai 32 R).all BE=true) {Q:D→HD→Prop} (q:∀l xs h',Sm h h'→h'[l]?=some (.lst xs)→xs.length=(Ai 32 R).length→Q (.loc l) h'):Wp (HG [.str (tx R)] h) Q:=by
 change Wp (Ay 2 GB [.str (tx R)] h) _
 refine Eq.mpr Bb ?_
 change Wp (GB [some (.str (tx R)),none] h) _
 simp only [GB,AG,Cj]
 refine Lk rfl hl fun l h1 s1 _ e1=>?_
 refine Eq.mpr Aq ?_
 rw [AG,ML,Cb,Bq]
 have n1:=GG 32 R
 have pf:=Uv (h:=h1) (ρ:=[some (.str (tx R)),some (.loc l)]) (i:=1) rfl e1 (fun w hw=>by have:=n1.2 w hw;omega) (by omega)
 rw [hb] at pf
 refine pf.wp fun h2 s2=>?_
 rw [Bp]
 refine p_need_row.wp fun h3 s3=>?_
 refine Eq.mpr Aq ?_
 rw [Ep]
 have s13:=s2.trans s3
 have hd:∀w∈Ai 32 R,BE w=true:=fun w hw=>qaI.mp hb w hw
 have key:∀w,∃n:Int,BE w=true→∀h (c:List (Option D)),Ae (Ak Gw) (Aa (Ab 0) (Ac)) (some (.str (tx w))::c) h=.ok (.int n) h:=fun w=>by
  by_cases z:BE w=true
  ·obtain ⟨n,hn⟩:=Zc9 z
   exact ⟨n,fun _=>hn⟩
  ·exact ⟨0,fun z'=>absurd z' z⟩
 obtain ⟨num,hnum⟩:=Classical.axiomOfChoice key
 refine Hg (xs:=Ai 32 R) (φ:=fun w=>.str (tx w)) (fun _=>true) (fun w=>.int (num w)) (fun w=>[some (.str (tx w))]) (Uu rfl (s13 _ _ e1)) (AQ (by omega)) (fun _ _=>rfl) (fun x _ h' s'=>⟨rfl,.refl _⟩) (fun x hx _ h' s'=>?_) fun n h4 s4 e4=>?_
 ·unfold Pu
  rw [hnum x (hd x hx)]
  exact ⟨rfl,.refl _⟩
 ·refine q _ _ _ ((s1.trans s13).trans s4) e4 ?_
  rw [Bt,List.filter_eq_self.mpr (fun _ _=>rfl)]
theorem Zdb {xs:List D} (E:h[l]?=some (.lst xs)) (h1:tx w=("light":Str)→xs.length≠2) (h2:tx w=("row":Str)→xs.length≠1) (h3:tx w=("column":Str)→xs.length≠1):Er (Jd [.loc d,.str (tx w),.loc l] h) h "NoRow":=by
 change We (Ay 3 K7 [.loc d,.str (tx w),.loc l] h) _ _
 refine Eq.mpr EB ?_
 have en:=Ew E
 by_cases z:tx w=("light":Str)
 ·have n1:=h1 z
  have p:Pu (Ad AA (Ae (Ak Bm) (Aa (Ab 2) (Ac))) (DP (An (Ad AA (Ab 1) (mC (.str "light")))) (mC (.int 2)) (mC (.int 1))) [some (.loc d),some (.str (tx w)),some (.loc l)] h) h (.bl false):=by
   simp [Pu,en,z,Sm.refl]
   omega
  simp only [K7,BV,ED,DD,CO,CF]
  refine p.we fun h4 s4=>?_
  exact er_need_row.we fun h5 s5=>⟨rfl,rfl,s4.trans s5⟩
 ·have p:Pu (Ad AA (Ae (Ak Bm) (Aa (Ab 2) (Ac))) (DP (An (Ad AA (Ab 1) (mC (.str "light")))) (mC (.int 2)) (mC (.int 1))) [some (.loc d),some (.str (tx w)),some (.loc l)] h) h (.bl (decide (xs.length=1))):=by
   simp [Pu,en,z,Sm.refl]
   rw [qaZ,beq_iff_eq,decide_eq_true_eq]
   omega
  simp only [K7,BV,ED,DD,CO,CF]
  refine p.we fun h4 s4=>?_
  by_cases n1:xs.length=1
  ·rw [decide_eq_true n1]
   refine p_need_row.we fun h5 s5=>?_
   have r1:¬tx w=("row":Str):=fun q=>h2 q n1
   have r2:¬tx w=("column":Str):=fun q=>h3 q n1
   simp [z,r1]
   rw [beq_eq_false_iff_ne.mpr r2]
   exact er_need_row.we fun h6 s6=>⟨rfl,rfl,(s4.trans s5).trans s6⟩
  ·rw [decide_eq_false n1]
   exact er_need_row.we fun h5 s5=>⟨rfl,rfl,s4.trans s5⟩
end
noncomputable def HP:MS:=Aw (An (Ad AA (Ab 2) (mC (.str "alike")))) (Al (DP (Cf (Ae K1 (Aa (AL "Keeper" "board" FM (Cp "Desk" (Ab 0) "kept") (Ac)) (Aa (Ae EN (Aa (Ab 4) (Ac))) (Ac))))) (mC (.str "yes")) (mC (.str "no")))) (AD)
noncomputable def Fe:MS:=Ag (Aw (An (Ad AA (Ab 2) (mC (.str "board")))) (Bn (AL "Keeper" "change_to" GA (Cp "Desk" (Ab 0) "kept") (Aa (Ae EN (Aa (Ab 4) (Ac))) (Ac)))) (Bn (AL "Desk" "do_at" Jd (Ab 0) (Aa (Ab 2) (Aa (Ae HG (Aa (Ab 4) (Ac))) (Ac)))))) (Al (mC (.str "ok")))
noncomputable def Jq:MS:=Aw (An (Ad AA (Ab 3) (mC (.str "")))) (Al (AL "Desk" "say_word" HM (Ab 0) (Aa (Ab 2) (Ac)))) (AD)
theorem Uw:Lf=Ag (Bn (Ae DG (Aa (Ae (A6 AC) (Aa (Ab 1) (Aa (mC (.ty "str")) (Ac)))) (Ac)))) (Ag (FA (Gi [2,3,4]) (BJ BC Fb (Ab 1) (mC (.str " ")))) (Ag Jq (Ag HP Fe))):=rfl
@[simp] theorem Zdc {ρ:Af} {a b c:D} {i j k:Nat}:Gi [i,j,k] (.tup [a,b,c]) ρ=some (((ρ.set i (some a)).set j (some b)).set k (some c)):=id rfl
theorem Zdd {sg:MG} {f:ME} {ρ:Af} {h:HD} {Q:Fl×Af→HD→Prop} {R:Str→List (Str×D)→HD→Prop}:We (FA sg f ρ h) Q R=We (f ρ h) (fun d h1=>We (Kd (sg d ρ) h1) Q R) R:=by unfold FA;rw [B2];rfl
theorem Ll (c:Nat):∀(a b:List Nat),(∀x∈a,x≠c)→Ai c (a++c::b)=a::Ai c b
 |[],b,_=>by rw [Fp,Ai,if_pos rfl]
 |x::a,b,h=>by
  rw [DK,Ai,if_neg (h x (by simp)),Ll c a b fun y hy=>h y (by simp [hy])]
theorem Ux (c:Nat):∀(l a b:List Nat),Dk c l=some (a,b)→l=a++c::b∧∀x∈a,x≠c
 |[],_,_,h=>by cases h
 |x::l,a,b,h=>by
  unfold Dk at h
  by_cases e:x=c
  ·rw [if_pos e] at h
   cases h
   exact ⟨by simp [e],by simp⟩
  ·rw [if_neg e] at h
   cases q:Dk c l with
   |none=>rw [q] at h;cases h
   |some p=>
    rw [q] at h
    obtain ⟨p1,p2⟩:=p
    cases h
    obtain ⟨h1,h2⟩:=Ux c l p1 p2 q
    refine ⟨by rw [h1];rfl,fun y hy=>?_⟩
    rcases qa9.mp hy with rfl |hy
    ·exact e
    ·exact h2 y hy
theorem Uy (c:Nat):∀(a b:List Nat),(∀x∈a,x≠c)→Dk c (a++c::b)=some (a,b)
 |[],b,_=>by rw [Fp,Dk,if_pos rfl]
 |x::a,b,h=>by
  rw [DK,Dk,if_neg (h x (by simp)),Uy c a b fun y hy=>h y (by simp [hy])]
  rfl
theorem Uz {w R P:List Nat} (hw:∀x∈w,x≠32) (hP:P.length=5) (hp:∀x∈P,x≠32):(w++32::R).take 6=P++[32]↔w=P:=by
 constructor
 ·intro e
  have h1:w++32::R=P++32::(w++32::R).drop 6:=by
   conv=>lhs;rw [←LL 6 (w++32::R),e]
   simp
  have h2:=Ll 32 w R hw
  rw [h1,Ll 32 P _ hp] at h2
  injection h2 with h2
  exact h2.symm
 ·rintro rfl
  rw [List.take_append,Fj (by omega),hP]
  rfl
theorem UA {L P:List Nat} (hL:∀x∈L,x≠32):¬L.take 6=P++[32]:=fun e=>by
 have:32∈L.take 6:=by rw [e];simp
 exact hL 32 (LN this) rfl
def Ff:List Str:=["light","row","column"]
def DI (w:List Nat):Nat:=if tx w=("light":Str) then 2 else if tx w=("row":Str)∨tx w=("column":Str) then 1 else 0
def Ct:List Nat:=[98,111,97,114,100]
def EU:List Nat:=[97,108,105,107,101]
def DX (L:List Nat):Bool:=decide (L.take 6=Ct++[32]∨L.take 6=EU++[32])
def Dh (ws:List (List Nat)):Bool:=match ws with
 |[]=>false
 |w::ws=>decide (tx w∈Dg++Ff)&&decide (ws.length=DI w)&&ws.all BE
def CJ (L:List Nat):Str:=if DX L=true then (if BW (L.drop 6)=true then "" else "! text") else if Dh (Ai 32 L)=true then "" else "! row"
theorem Zde:∀s∈Dg,¬s=("light":Str)∧¬s=("row":Str)∧¬s=("column":Str):=by decide +kernel
section
variable {h h':HD} {d k e l:Nat} {ds:List D} {b x y:D} {ρ:Af} {L R w:List Nat}
theorem Oj (hl:L.length≤900) {Q:D→HD→Prop} {E:Str→List (Str×D)→HD→Prop} (q:∀h',Sm h h'→We (Ag Jq (Ag HP Fe) [some (.loc d),some (.str (tx L)),some (.str (tx (Bk 32 L).1)),some (.str (tx (Bk 32 L).2.1)),some (.str (tx (Bk 32 L).2.2))] h') (FB Q) E):We (AS [.loc d,.str (tx L)] h) Q E:=by
 change We (Ay 5 Lf [.loc d,.str (tx L)] h) _ _
 refine Eq.mpr EB ?_
 rw [Uw]
 change We (Ag _ _ [some (.loc d),some (.str (tx L)),none,none,none] h) _ _
 have pi:Pu (Ae (A6 AC) (Aa (Ab 1) (Aa (mC (.ty "str")) (Ac))) [some (.loc d),some (.str (tx L)),none,none,none] h) h (.bl true):=by
  have e:AC (.str (tx L)) (.ty "str") h=.ok (.bl true) h:=rfl
  simp [Pu,e,Sm.refl]
 rw [BV,ED,DD,CO]
 refine pi.we fun h1 s1=>?_
 rw [CF]
 refine p_need_row.we fun h2 s2=>?_
 have pe:Pu (BJ BC Fb (Ab 1) (mC (.str " ")) [some (.loc d),some (.str (tx L)),none,none,none] h2) h2 (.tup [.str (tx (Bk 32 L).1),.str (tx (Bk 32 L).2.1),.str (tx (Bk 32 L).2.2)]):=by
  have e1:Fb (.str (tx L)) (.str " ") h2=.ok (.tup [.str (tx (Bk 32 L).1),.str (tx (Bk 32 L).2.1),.str (tx (Bk 32 L).2.2)]) h2:=by
   rw [show (" ":Str)=tx [32] from rfl,ZbH (AQ (by omega))]
  simp [Pu,e1,Sm.refl]
 rw [Nd,BV,Zdd]
 refine pe.we fun h3 s3=>?_
 simp only [Zdc]
 refine Eq.mpr (show We (Kd (some _) h3) _ _=_ from rfl) ?_
 exact q h3 ((s1.trans s2).trans s3)
theorem UB (A:DeskAt h d k e ds b) (hl:L.length≤900) (hc:∀x∈L,x≠32) (hn:∀s∈Dg,¬tx L=s):Er (AS [.loc d,.str (tx L)] h) h "NoRow":=by
 refine Oj hl fun h1 s1=>?_
 have ep:Bk 32 L=(L,[],[]):=by
  unfold Bk
  rw [(LS.cutL_none 32 L).mpr hc]
 rw [ep]
 have A1:=A.sm s1
 rw [BV]
 unfold Jq
 have e0:AA (.str (tx [])) (.str "") h1=.ok (.bl true) h1:=rfl
 simp [e0]
 simp only [ES A1.a1,GM (m:="say_word") A1.a1,BB]
 exact (Zc5 A1 hn).we fun h2 s2=>⟨rfl,rfl,s1.trans s2⟩
theorem Zdf {t:MT} {f g:ME} {Q:D→HD→Prop} {R:Str→List (Str×D)→HD→Prop}:We (DP t f g ρ h) Q R=We (t ρ h) (fun b h1=>We (if b=true then f ρ h1 else g ρ h1) Q R) R:=by unfold DP;rw [B2]
theorem Zdg (hw:∀x∈w,x≠32):Bk 32 (w++32::R)=(w,[32],R):=by
 unfold Bk
 rw [Uy 32 w R hw]
theorem Ol (hw:∀x∈w,x≠32) (hl:(w++32::R).length≤900) {Q:D→HD→Prop} {E:Str→List (Str×D)→HD→Prop} (q:∀h',Sm h h'→We (Ag HP Fe [some (.loc d),some (.str (tx (w++32::R))),some (.str (tx w)),some (.str (tx [32])),some (.str (tx R))] h') (FB Q) E):We (AS [.loc d,.str (tx (w++32::R))] h) Q E:=by
 refine Oj hl fun h1 s1=>?_
 rw [Zdg hw,BV]
 unfold Jq
 have e0:AA (.str (tx [32])) (.str "") h1=.ok (.bl false) h1:=rfl
 simp only [E8,E9,EG,CZ,Co,EF,e0,BB]
 exact q h1 s1
theorem UC (A:DeskAt h d k e ds b) (hw:w=Ct∨w=EU) (hl:(w++32::R).length≤900) (hb:BW R=false):Er (AS [.loc d,.str (tx (w++32::R))] h) h "NoText":=by
 have hw0:∀x∈w,x≠32:=by rcases hw with rfl |rfl<;>decide
 have hlR:R.length≤900:=by rw [Ca,CL] at hl;omega
 have eb:∀h,Er (EN [.str (tx R)] h) h "NoText":=fun h=>Zcx hlR (by rw [ZcA];exact hb)
 refine Ol hw0 hl fun h1 s1=>?_
 have A1:=A.sm s1
 rw [BV]
 unfold HP
 rcases hw with rfl |rfl
 ·have e1:AA (.str (tx Ct)) (.str "alike") h1=.ok (.bl false) h1:=rfl
  simp only [E8,E9,EG,CZ,Co,EF,e1,BB]
  show We (Fe _ h1) _ _
  unfold Fe
  have e2:AA (.str (tx Ct)) (.str "board") h1=.ok (.bl true) h1:=rfl
  simp only [BV,E8,E9,EG,CZ,Co,EF,e2,BB]
  show We (Bn _ _ h1) _ _
  simp only [ED,Ed,Gu,CZ,Co,ES A1.a1,FN (m:="change_to") A1.a2,BB,CO,DD,CF]
  exact (eb h1).we fun h2 s2=>⟨rfl,rfl,s1.trans s2⟩
 ·have e1:AA (.str (tx EU)) (.str "alike") h1=.ok (.bl true) h1:=rfl
  simp only [E8,E9,EG,CZ,Co,EF,e1,BB]
  show We (Al _ _ h1) _ _
  simp only [Zan,Zdf,Zao,DD,CO,CF,Ed,Gu,CZ,Co,ES A1.a1,FN (m:="board") A1.a2,BB]
  refine (Jp A1.a2).we fun h2 s2=>?_
  exact (eb h2).we fun h3 s3=>⟨rfl,rfl,(s1.trans s2).trans s3⟩
theorem UD (A:DeskAt h d k e ds b) (hw0:∀x∈w,x≠32) (hl:(w++32::R).length≤900) (h1:¬tx w=("alike":Str)) (h2:¬tx w=("board":Str)) (hb:Dh (w::Ai 32 R)=false):Er (AS [.loc d,.str (tx (w++32::R))] h) h "NoRow":=by
 have hlR:R.length≤900:=by rw [Ca,CL] at hl;omega
 refine Ol hw0 hl fun h1' s1=>?_
 have A1:=A.sm s1
 rw [BV]
 unfold HP
 have e1:AA (.str (tx w)) (.str "alike") h1'=.ok (.bl false) h1':=by
  show Out.ok (D.bl (tx w=="alike")) _=_
  rw [beq_eq_false_iff_ne.mpr h1]
 have e2:AA (.str (tx w)) (.str "board") h1'=.ok (.bl false) h1':=by
  show Out.ok (D.bl (tx w=="board")) _=_
  rw [beq_eq_false_iff_ne.mpr h2]
 simp only [E8,E9,EG,CZ,Co,EF,e1,BB]
 show We (Fe _ h1') _ _
 unfold Fe
 simp only [BV,E8,E9,EG,CZ,Co,EF,e2,BB]
 show We (Bn _ _ h1') _ _
 simp only [ED,Ed,CZ,Co,GM (m:="do_at") A1.a1,BB,CO,DD,CF]
 cases hd:(Ai 32 R).all BE with
 |false=>exact (Zc8 hlR hd).we fun h2 s2=>⟨rfl,rfl,s1.trans s2⟩
 |true=>
  refine Wp.we (Zda hlR hd fun l xs h3 s3 e3 n3=>?_)
  simp only [Dh,hd,Bool.and_true,Bool.and_eq_false_iff,decide_eq_false_iff_not] at hb
  have key:(tx w=("light":Str)→xs.length≠2)∧(tx w=("row":Str)→xs.length≠1)∧(tx w=("column":Str)→xs.length≠1):=by
   rw [n3]
   refine ⟨fun z=>?_,fun z=>?_,fun z=>?_⟩
   ·rcases hb with hb |hb
    ·exact absurd (by rw [z];decide +kernel) hb
    ·rw [DI,if_pos z] at hb;exact hb
   ·rcases hb with hb |hb
    ·exact absurd (by rw [z];decide +kernel) hb
    ·rw [DI,if_neg (by rw [z];decide +kernel),if_pos (.inl z)] at hb;exact hb
   ·rcases hb with hb |hb
    ·exact absurd (by rw [z];decide +kernel) hb
    ·rw [DI,if_neg (by rw [z];decide +kernel),if_pos (.inr z)] at hb;exact hb
  exact (Zdb e3 key.1 key.2.1 key.2.2).we fun h4 s4=>⟨rfl,rfl,(s1.trans s3).trans s4⟩
theorem Zdh (A:DeskAt h d k e ds b) (hl:L.length≤900):(CJ L="! row"→Er (AS [.loc d,.str (tx L)] h) h "NoRow")∧(CJ L="! text"→Er (AS [.loc d,.str (tx L)] h) h "NoText"):=by
 have n1:¬("":Str)="! row":=by decide +kernel
 have n2:¬("":Str)="! text":=by decide +kernel
 have n3:¬("! text":Str)="! row":=by decide +kernel
 cases hc:Dk 32 L with
 |none=>
  have hno:=(LS.cutL_none 32 L).mp hc
  have it:DX L=false:=by
   unfold DX
   rw [decide_eq_false_iff_not]
   rintro (z |z)
   ·exact UA hno z
   ·exact UA hno z
  unfold CJ
  rw [it,KN 32 L hno]
  simp only [Bl,if_false]
  cases hk:Dh [L] with
  |true=>
   simp only [if_true]
   exact ⟨fun z=>absurd z n1,fun z=>absurd z n2⟩
  |false=>
   simp only [Bl,if_false]
   refine ⟨fun _=>UB A hl hno fun s hs z=>?_,fun z=>absurd z.symm n3⟩
   have:Dh [L]=true:=by
    obtain ⟨a1,a2,a3⟩:=Zde s hs
    simp only [Dh,List.all_nil,Bool.and_true,BX,decide_eq_true_eq]
    rw [←z] at a1 a2 a3
    refine ⟨by rw [z];exact GU _ hs,?_⟩
    rw [DI,if_neg a1,if_neg (by rintro (q |q);exact a2 q;exact a3 q)]
    rfl
   rw [hk] at this
   cases this
 |some p=>
  obtain ⟨w,R⟩:=p
  obtain ⟨rfl,hw⟩:=Ux 32 L w R hc
  have t1:=Uz (w:=w) (R:=R) (P:=Ct) hw rfl (by decide)
  have t2:=Uz (w:=w) (R:=R) (P:=EU) hw rfl (by decide)
  by_cases hwb:w=Ct∨w=EU
  ·have it:DX (w++32::R)=true:=by
    unfold DX
    rw [decide_eq_true_eq,t1,t2]
    exact hwb
   have ed:(w++32::R).drop 6=R:=by rcases hwb with rfl |rfl<;>rfl
   unfold CJ
   rw [it,ed]
   simp only [if_true]
   cases ho:BW R with
   |true=>
    simp only [if_true]
    exact ⟨fun z=>absurd z n1,fun z=>absurd z n2⟩
   |false=>
    simp only [Bl,if_false]
    exact ⟨fun z=>absurd z n3,fun _=>UC A hwb hl ho⟩
  ·have it:DX (w++32::R)=false:=by
    unfold DX
    rw [decide_eq_false_iff_not,t1,t2]
    exact hwb
   unfold CJ
   rw [it,Ll 32 w R hw]
   simp only [Bl,if_false]
   cases hk:Dh (w::Ai 32 R) with
   |true=>
    simp only [if_true]
    exact ⟨fun z=>absurd z n1,fun z=>absurd z n2⟩
   |false=>
    simp only [Bl,if_false]
    refine ⟨fun _=>UD A hw hl (fun z=>hwb (.inr ?_)) (fun z=>hwb (.inl ?_)) hk,fun z=>absurd z.symm n3⟩
    ·have:tx w=tx EU:=z
     injection this with this
     simpa using this
    ·have:tx w=tx Ct:=z
     injection this with this
     simpa using this
end
noncomputable def Om:MS:=Aw (An (Ad (CW false) (AV (Ab 0) (Az) (Av (mC (.int 6)))) (Du (Aa (mC (.str "board ")) (Aa (mC (.str "alike ")) (Ac)))))) (Al (DP (Cf (Ae Jb (Aa (AV (Ab 0) (Av (mC (.int 6))) (Az)) (Ac)))) (mC (.str "")) (mC (.str "! text")))) (AD)
noncomputable def On:MS:=Ap 2 (I0 ["light","row","column"] (Aa (mC (.int 2)) (Aa (mC (.int 1)) (Aa (mC (.int 1)) (Ac)))) (Ad AE (Ab 1) (mC (.int 0))) (mC (.int 0)))
noncomputable def UE:MS:=Ap 3 (As (Aa (mC (.str "road")) (Aa (mC (.str "form")) (Aa (mC (.str "turn")) (Aa (mC (.str "undo")) (Aa (mC (.str "show")) (Aa (mC (.str "lit")) (Aa (mC (.str "left")) (Aa (mC (.str "bound")) (Aa (mC (.str "fours")) (Aa (mC (.str "counts")) (Ac))))))))))))
noncomputable def Oo:MS:=Aw (Cg (An (Ad (CW true) (Ad AE (Ab 1) (mC (.int 0))) (Ad Ah (Ab 3) (As (Aa (mC (.str "light")) (Aa (mC (.str "row")) (Aa (mC (.str "column")) (Ac)))))))) (An (Ad AZ (Ae (Ak Bm) (Aa (Ab 1) (Ac))) (Ad Ah (mC (.int 1)) (Ab 2))))) (Al (mC (.str "! row"))) (AD)
noncomputable def Oq:MS:=Aw (An (Ad AZ (Ba [none] (Bg (BP (Ab 1) (Av (mC (.int 1))) (Az))) (AK 0) (Cg (An (Ad AZ (Ae (Ak Dd) (Aa (Ab 0) (Ac))) (mC (.int 1)))) (An (Ad Gv (Ab 0) (mC (.str "0123456789"))))) (Ab 0)) (As (Ac)))) (Al (mC (.str "! row"))) (AD)
theorem Zdi:NZ=Ag Om (Ag (Ap 1 (BJ BC CG (Ab 0) (mC (.str " ")))) (Ag On (Ag UE (Ag Oo (Ag Oq (Al (mC (.str "")))))))):=rfl
theorem UF (x:Str):∀(ss:List Str),G1 (.str x) (ss.map V.str)=decide (x∈ss)
 |[]=>rfl
 |s::ss=>by
  show ((s==x)||G1 (.str x) (ss.map V.str))=_
  rw [UF x ss,qaZ]
  simp only [Jz,beq_iff_eq,decide_eq_true_eq,qa9]
  exact ⟨fun z=>z.imp Eq.symm id,fun z=>z.imp Eq.symm id⟩
theorem UG:∀(ss:List Str),AN ((ss.map D.str).map CB)=some (ss.map V.str)
 |[]=>rfl
 |s::ss=>by
  show (AN ((ss.map D.str).map CB)).map _=_
  rw [UG ss]
  rfl
theorem UH {neg:Bool} {x:Str} {y:D} {ss:List Str} {h:HD} (e:Bj y h=some (ss.map D.str)):CW neg (.str x) y h=.ok (.bl (if neg then !decide (x∈ss) else decide (x∈ss))) h:=by
 unfold CW
 simp only [e,UG,CB,UF]
theorem Zdj (l:List Nat) (k:Nat):CP l none (some (k:Nat))=l.take k:=by
 unfold CP
 have h1:HT.sIx l.length l.length (some (k:Nat))=min k l.length:=HT.sIx_nat _ _ k
 rw [h1]
 show (l.drop 0).take (min k l.length - 0)=_
 rw [List.drop_zero,Nat.sub_zero]
 by_cases h:k≤l.length
 ·rw [Nat.min_eq_left h]
 ·rw [Nat.min_eq_right (by omega),Fj (Au _),Fj (by omega)]
theorem Zdk (l:List Nat) (k:Nat):CP l (some (k:Nat)) none=l.drop k:=by
 unfold CP
 have h1:HT.sIx l.length 0 (some (k:Nat))=min k l.length:=HT.sIx_nat _ _ k
 rw [h1]
 show (l.drop (min k l.length)).take (l.length - min k l.length)=_
 by_cases h:k≤l.length
 ·rw [Nat.min_eq_left h,Fj (by simp)]
 ·rw [Nat.min_eq_right (by omega),List.drop_of_length_le (Au _),List.drop_of_length_le (by omega)]
  simp
theorem UI:∀(ws:List (List Nat)),(∀w∈ws,Low w)→PyData.canLayAll0 (ws.map fun w=>.str (tx w))=true
 |[],_=>rfl
 |w::ws,h=>by
  have hw:=h w (.head _)
  have e:(PyData.str (tx w)).canLay0=true:=by
   simp only [PyData.canLay0,PyData.strOk]
   simp
   intro c hc
   have:=hw c hc
   omega
  simp [PyData.canLayAll0,e,UI ws fun d hd=>h d (.tail _ hd)]
theorem Zdl {h:HD} {n m:Nat} {ws:List (List Nat)} (hw:∀w∈ws,Low w) (en:h[n]?=some (.lst (ws.map fun w=>D.str (tx w)))) (em:h[m]?=some (.lst [])):AZ (.loc n) (.loc m) h=.ok (.bl (!ws.isEmpty)) h:=by
 have e1:A9 h 8 (.loc n)=some (.list (ws.map fun w=>.str (tx w))):=by
  simp only [A9,en]
  rw [EY,Lg (A9 h 7∘fun w=>D.str (tx w)) (fun w=>.str (tx w)) ws (fun c _=>rfl)]
  rfl
 have e2:A9 h 8 (.loc m)=some (.list []):=by
  simp only [A9,em]
  rfl
 show Em (.loc n) (.loc m) h=_
 simp only [Em,Fy,e1,e2]
 rw [if_pos]
 ·cases ws<;>rfl
 ·refine ⟨?_,Od (fun p:Nat=>[]) []⟩
  unfold SeqAt.shaped
  rw [BX,decide_eq_true_eq]
  refine ⟨UI ws hw,?_⟩
  have:=Lh (fun w=>PyData.str (tx w)) 0 (fun c=>Au _) ws
  show PyData.depthAll _+1≤64
  omega
section
variable {h h':HD} {ρ:Af} {L w:List Nat} {ws:List (List Nat)}
theorem Zdm (hl:L.length≤900) {c:List (Option D)} {Q:Fl×Af→HD→Prop} (q1:DX L=true→∀ρ h',Sm h h'→Q (.rt (.str (if BW (L.drop 6)=true then "" else "! text")),ρ) h') (q2:DX L=false→Q (.nx,some (.str (tx L))::c) h):Wp (Om (some (.str (tx L))::c) h) Q:=by
 unfold Om
 have e1:Hx (.str (tx L)) none (some 6) h=.ok (.str (tx (L.take 6))) h:=by
  rw [KS (AQ (by omega))]
  rw [show (6:Int)=((6:Nat):Int) from rfl,Zdj]
 have e2:∀h,Hx (.str (tx L)) (some 6) none h=.ok (.str (tx (L.drop 6))) h:=fun h=>by
  rw [KS (AQ (by omega))]
  rw [show (6:Int)=((6:Nat):Int) from rfl,Zdk]
 have e3:CW false (.str (tx (L.take 6))) (.tup [.str "board ",.str "alike "]) h=.ok (.bl (DX L)) h:=by
  rw [UH (ss:=["board ","alike "]) rfl]
  simp only [Bl,if_false]
  congr 2
  unfold DX
  rw [qaZ]
  simp only [decide_eq_true_eq,qa9,List.not_mem_nil,or_false]
  have b1:("board ":Str)=tx (Ct++[32]):=rfl
  have b2:("alike ":Str)=tx (EU++[32]):=rfl
  rw [b1,b2]
  constructor
  ·rintro (z |z)
   ·injection z with z;exact .inl (by simpa using z)
   ·injection z with z;exact .inr (by simpa using z)
  ·rintro (z |z)
   ·rw [z];exact .inl rfl
   ·rw [z];exact .inr rfl
 simp [e1,e3]
 cases ht:DX L with
 |false=>
  simp
  exact q2 ht
 |true=>
  simp [e2]
  refine (ZcL (L:=L.drop 6) (h:=h) (by rw [Fo];omega)).wp fun h1 s1=>?_
  have:=q1 ht
  cases ho:BW (L.drop 6) with
  |true=>rw [ho] at this;simp;exact this _ _ s1
  |false=>rw [ho] at this;simp;exact this _ _ s1
theorem Zdn {h:HD}:Gz ["light","row","column"] [.int 2,.int 1,.int 1] (.str (tx w)) (.int 0) h=.ok (.int (DI w:Nat)) h:=by
 show Out.ok (((([("light",D.int 2),("row",D.int 1),("column",D.int 1)]:List (Str×D)).lookup (tx w))).getD (.int 0)) h=_
 unfold DI
 rw [Dm,Dm,Dm,List.lookup_nil]
 by_cases h1:tx w=("light":Str)
 ·rw [beq_iff_eq.mpr h1,if_pos h1];rfl
 ·rw [beq_eq_false_iff_ne.mpr h1,if_neg h1]
  by_cases h2:tx w=("row":Str)
  ·rw [beq_iff_eq.mpr h2,if_pos (.inl h2)];rfl
  ·rw [beq_eq_false_iff_ne.mpr h2]
   by_cases h3:tx w=("column":Str)
   ·rw [beq_iff_eq.mpr h3,if_pos (.inr h3)];rfl
   ·rw [beq_eq_false_iff_ne.mpr h3,if_neg (by rintro (z |z);exact h2 z;exact h3 z)];rfl
theorem Zdo (l:List Nat) (c:Nat) (h:HD):Gv (.str (tx [c])) (.str (tx l)) h=.ok (.bl (!decide (c∈l))) h:=by
 have:=Us l c h
 unfold FL at this
 unfold Gv
 simp only [Out.ok.injEq,D.bl.injEq,and_true] at this ⊢
 rw [this]
theorem Zdp (hl:w.length≤1000) {c:List (Option D)}:Pu (Cg (An (Ad AZ (Ae (Ak Dd) (Aa (Ab 0) (Ac))) (mC (.int 1)))) (An (Ad Gv (Ab 0) (mC (.str "0123456789")))) (some (.str (tx w))::c) h) h (!BE w):=by
 unfold Pu
 rw [show ("0123456789":Str)=tx GN from rfl]
 simp only [Kf,Cn,Bo,Cb,Bq,BU,Bp,B8,Ak,Ut hl,AR,Q4]
 show Wp (D1 (.bl (!((w.length:Int)==1))) h) _
 by_cases z:w.length=1
 ·obtain ⟨c,rfl⟩:=List.length_eq_one_iff.mp z
  have z1:(([c].length:Int)==1)=true:=rfl
  have z2:D1 (.bl (!true)) h=.ok false h:=rfl
  rw [z1,z2]
  simp only [AR,Bl,if_false,Cn,Bo,BU,B8,Zdo,AR]
  exact ⟨by simp [BE,mem_digits],.refl _⟩
 ·have z':((w.length:Int)==1)=false:=beq_eq_false_iff_ne.mpr (by omega)
  rw [z']
  refine ⟨?_,.refl _⟩
  show true=_
  unfold BE
  split
  ·simp at z
  ·rfl
theorem Zdq {l:Nat} {ws:List (List Nat)} {h:HD} (E:h[l]?=some (.lst (ws.map fun w=>.str (tx w)))):Gx (.loc l) (some 1) none h=Bu ((ws.drop 1).map fun w=>.str (tx w)) h:=by
 unfold Gx
 simp only [E]
 congr 1
 unfold LS.cutD
 have h1:HT.sIx (ws.map fun w=>D.str (tx w)).length 0 (some 1)=min 1 (ws.map fun w=>D.str (tx w)).length:=HT.sIx_nat _ _ 1
 rw [h1]
 show ((ws.map fun w=>D.str (tx w)).drop (min 1 _)).take ((ws.map fun w=>D.str (tx w)).length - min 1 _)=_
 cases ws with
 |nil=>rfl
 |cons a l=>
  rw [show min 1 (List.map (fun w=>D.str (tx w)) (a::l)).length=1 by simp]
  simp
  exact Fj (by simp)
theorem Zdr {l:Nat} {ρ:Af} (ei:ρ[1]?=some (some (.loc l))) (E:h[l]?=some (.lst (ws.map fun w=>.str (tx w)))) (hn:ws.length≤1000) (hw:∀w∈ws,w.length≤1000∧Low w) {Q:Fl×Af→HD→Prop} (q:∀h',Sm h h'→if (ws.drop 1).all BE=true then Q (.nx,ρ) h' else ∀ρ,Q (.rt (.str "! row"),ρ) h'):Wp (Oq ρ h) Q:=by
 unfold Oq
 simp only [D9,Cn,Bo]
 have dl:(ws.drop 1).length≤1000:=by rw [Fo];omega
 have dm:∀w∈ws.drop 1,w∈ws:=fun w hw=>LM hw
 refine Hg (xs:=ws.drop 1) (φ:=fun w=>.str (tx w)) (src:=[(h.length,(ws.drop 1).map fun w=>.str (tx w))]) (fun w=>!BE w) (fun w=>.str (tx w)) (fun w=>[some (.str (tx w))]) ?_ (AQ dl) (fun _ _=>rfl) (fun x hx h' s'=>Zdp (hw x (dm x hx)).1) (fun x _ _ h' s'=>⟨rfl,.refl _⟩) fun n h2 s2 e2=>?_
 ·simp only [Gb,Ss,Ab,ei,AR]
  show Wp (Gx (.loc l) (some 1) none h) _
  rw [Zdq E]
  refine AX (by rw [Bt];exact AQ dl) fun m h3 s3 e3 em _=>?_
  subst em
  simp [D7,Bj,G9,e3,s3]
  exact fun h4 s4=>G7 (s4 _ _ (by simpa using e3))
 ·simp only [FC,Bp]
  refine AX (by simp) fun m h3 s3 e3 _ _=>?_
  have key:=Zdl (h:=h3) (ws:=(ws.drop 1).filter fun w=>!BE w) (fun w hw'=>(hw w (dm w (qbO.mp hw').1)).2) (s3 _ _ e2) e3
  rw [key]
  have q':=q h3 (s2.trans s3)
  cases ha:(ws.drop 1).all BE with
  |true=>
   have:((ws.drop 1).filter fun w=>!BE w)=[]:=qc0.mpr fun w hw'=>by simp [qaI.mp ha w hw']
   rw [this]
   rw [ha] at q'
   simp at q' ⊢
   exact q'
  |false=>
   have:((ws.drop 1).filter fun w=>!BE w).isEmpty=false:=by
    cases hf:((ws.drop 1).filter fun w=>!BE w) with
    |cons _ _=>rfl
    |nil=>
     have h1:=qc0.mp hf
     have:(ws.drop 1).all BE=true:=qaI.mpr fun w hw'=>by simpa using h1 w hw'
     rw [ha] at this;cases this
   rw [this]
   rw [ha] at q'
   simp at q' ⊢
   exact q' _
theorem UJ {L:List Nat} (h:Low L):∀w∈Ai 32 L,Low w:=fun w hw c hc=>h c ((N9 32 L c).mp ⟨w,hw,hc⟩).1
theorem Zds (hl:L.length≤900) (hL:Low L):Pu (K9 [.str (tx L)] h) h (.str (CJ L)):=by
 change Wp (Ay 4 NZ [.str (tx L)] h) _
 refine Eq.mpr Bb ?_
 rw [Zdi]
 change Wp (Ag _ _ [some (.str (tx L)),none,none,none] h) _
 rw [AG]
 refine Zdm hl (fun ht ρ h1 s1=>?_) fun ht=>?_
 ·refine ⟨?_,s1⟩
  show D.str _=D.str (CJ L)
  unfold CJ
  rw [if_pos ht]
 refine Eq.mpr Aq ?_
 rw [AG,Cj]
 refine Lk rfl hl fun l h1 s1 _ e1=>?_
 refine Eq.mpr Aq ?_
 have n1:=GG 32 L
 have low:=UJ hL
 have ed:CJ L=if Dh (Ai 32 L)=true then ("":Str) else ("! row":Str):=by unfold CJ;rw [ht];rfl
 rw [ed]
 have hne:=DW 32 L
 generalize Ai 32 L=ws at e1 n1 low hne
 match ws,hne with
 |w::ws,_=>
  have ix0:∀h2,Sm h1 h2→AE (.loc l) (.int 0) h2=.ok (.str (tx w)) h2:=fun h2 s2=>FD (k:=0) (s2 _ _ e1) (by simp)
  show Wp (Ag On _ [some (.str (tx L)),some (.loc l),none,none] h1) _
  rw [AG]
  unfold On
  simp only [Cj,Zb8,Bq,B8,Bp,Bo,CN,BU,ix0 h1 (.refl _),AR,Zdn]
  refine Eq.mpr Aq ?_
  rw [AG]
  unfold UE
  simp only [Cj,FC,Bq,B8,Bp]
  refine AX (by decide) fun a h2 s2 e2 _ _=>?_
  refine Eq.mpr Aq ?_
  show Wp (Ag Oo _ [some (.str (tx L)),some (.loc l),some (.int (DI w:Nat)),some (.loc a)] h2) _
  rw [AG]
  unfold Oo
  simp only [D9,Kf,Cn,Bo,CN,BU,B8,ix0 h2 s2,AR,FC,Bq,Bp]
  refine AX (by decide) fun b h3 s3 e3 _ _=>?_
  rw [Ho (s3 _ _ e2) e3]
  refine AX (by decide) fun c h4 s4 e4 _ _=>?_
  have ei:=UH (neg:=true) (x:=tx w) (y:=.loc c) (ss:=Dg++Ff) (h:=h4) (by simp only [Bj,e4];rfl)
  rw [ei]
  have s14:=(s2.trans s3).trans s4
  have sh:=s1.trans s14
  have el:=Ew (s14 _ _ e1)
  by_cases hk:tx w∈Dg++Ff
  ·have ek:(if true=true then !decide (tx w∈Dg++Ff) else decide (tx w∈Dg++Ff))=false:=by simp [hk]
   rw [ek]
   show Wp (An (Ad AZ (Ae (Ak Bm) (Aa (Ab 1) (Ac))) (Ad Ah (mC (.int 1)) (Ab 2))) [some (.str (tx L)),some (.loc l),some (.int (DI w:Nat)),some (.loc a)] h4) _
   simp only [Cn,Bo,Cb,Bq,CN,BU,Bp,B8,Ak,el,AR,Y0,Q4]
   show Wp (D1 (.bl (!(((List.map (fun w=>D.str (tx w)) (w::ws)).length:Int)==1+(DI w:Int)))) h4) _
   by_cases hm:ws.length=DI w
   ·have em:((List.map (fun w=>D.str (tx w)) (w::ws)).length:Int)==1+(DI w:Int):=by
     rw [beq_iff_eq,Bt,CL];omega
    rw [em]
    refine Eq.mpr Aq ?_
    rw [AG]
    refine Zdr (ws:=w::ws) (l:=l) rfl (s14 _ _ e1) (by have:=n1.1;omega) (fun x hx=>⟨by have:=n1.2 x hx;omega,low x hx⟩) fun h5 s5=>?_
    have dd:(w::ws).drop 1=ws:=rfl
    rw [dd]
    have wo:Dh (w::ws)=ws.all BE:=by simp [Dh,hk,hm]
    rw [wo]
    cases ha:ws.all BE with
    |true=>
     simp only [if_true]
     refine Eq.mpr Aq ?_
     rw [Ep,B8]
     exact ⟨rfl,sh.trans s5⟩
    |false=>
     simp only [Bl,if_false]
     exact fun ρ=>⟨rfl,sh.trans s5⟩
   ·have em:(((List.map (fun w=>D.str (tx w)) (w::ws)).length:Int)==1+(DI w:Int))=false:=by
     rw [beq_eq_false_iff_ne,Bt,CL];omega
    rw [em]
    have wo:Dh (w::ws)=false:=by simp [Dh,hm]
    rw [wo]
    exact ⟨rfl,sh⟩
  ·have ek:(if true=true then !decide (tx w∈Dg++Ff) else decide (tx w∈Dg++Ff))=true:=by simp [hk]
   rw [ek]
   have wo:Dh (w::ws)=false:=by simp [Dh,hk]
   rw [wo]
   exact ⟨rfl,sh⟩
end
noncomputable def Ot:MA:=Aa (Ad Ah (Ad Ah (BP (Ab 2) (Az) (Av (Ab 3))) (As (Aa (Ab 4) (Ac)))) (BP (Ab 2) (Av (Ad Ah (Ab 3) (mC (.int 1)))) (Az))) (Aa (Ad Ah (Ad Ah (BP (Ab 2) (Az) (Av (Ab 3))) (As (Aa (Ab 4) (Ac)))) (BP (Ab 2) (Av (Ab 3)) (Az))) (Aa (Ad Ah (Ab 2) (As (Aa (Ab 4) (Ac)))) (Aa (BP (Ab 2) (Az) (Av (Ga (mC (.int 1))))) (Ac))))
noncomputable def Ou:MA:=Aa (Ad Ah (Ad Ah (BP (Ab 2) (Az) (Av (Ab 3))) (BP (Ab 2) (Av (Ab 3)) (Av (Ad Ah (Ab 3) (mC (.int 1)))))) (BP (Ab 2) (Av (Ab 3)) (Az))) (Aa (Ad Ah (As (Aa (Ab 4) (Ac))) (Ab 2)) (Aa (Ad Ah (As (Aa (Gy (Ad AE (Ab 2) (mC (.int 0)))) (Ac))) (BP (Ab 2) (Av (mC (.int 1))) (Az))) (Ac)))
noncomputable def Ov:MA:=Aa (mC (.str "")) (Aa (mC (.str "00")) (Aa (mC (.str "10")) (Aa (mC (.str "-1")) (Aa (mC (.str "x")) (Aa (mC (.str "1.")) (Aa (mC (.str "+1")) (Aa (mC (.str "#")) (Aa (mC (.str "board")) (Aa (mC (.str "undo")) (Ac))))))))))
theorem Zdt:N1=Ag (Ap 2 (BJ BC CG (Ab 1) (mC (.str " ")))) (Ag (Ap 3 (Ae A4 (Aa (Ab 0) (Aa (Ae (Ak Bm) (Aa (Ab 2) (Ac))) (Ac))))) (Ag (Ap 4 (Ad AE (As (Ov)) (Ae A4 (Aa (Ab 0) (Aa (mC (.int 10)) (Ac)))))) (Ag (Ap 5 (As Ot)) (Ag (Ap 5 (Ad Ah (Ab 5) (As Ou))) (Ag (Aw (An (Ad AA (Ae A4 (Aa (Ab 0) (Aa (mC (.int 2)) (Ac)))) (mC (.int 0)))) (Al (Ae HI (Aa (Ab 0) (Aa (Ab 1) (Ac))))) (AD)) (Al (BJ BC Dc (mC (.str " ")) (Ad AE (Ab 5) (Ae A4 (Aa (Ab 0) (Aa (mC (.int 7)) (Ac)))))))))))):=rfl
noncomputable def Ow:MA:=Aa (Ad Ah (mC (.str "board ")) (Ab 1)) (Aa (Ad Ah (mC (.str "alike ")) (Ab 1)) (Aa (Ad Ah (Ad Ah (Ad Ah (mC (.str "light ")) (Ab 2)) (mC (.str " "))) (Ab 3)) (Aa (Ad Ah (mC (.str "row ")) (Ab 2)) (Aa (Ad Ah (mC (.str "column ")) (Ab 3)) (Ac)))))
noncomputable def Ox:MA:=Aa (mC (.str "road")) (Aa (mC (.str "form")) (Aa (mC (.str "turn")) (Aa (mC (.str "undo")) (Aa (mC (.str "show")) (Aa (mC (.str "lit")) (Aa (mC (.str "left")) (Aa (mC (.str "bound")) (Aa (mC (.str "fours")) (Aa (mC (.str "counts")) (Ac))))))))))
theorem Zdu:N0=Ag (D3 2 3 (Aa (Ae (Ak strOfD) (Aa (Ae A4 (Aa (Ab 0) (Aa (mC (.int 10)) (Ac)))) (Ac))) (Aa (Ae (Ak strOfD) (Aa (Ae A4 (Aa (Ab 0) (Aa (mC (.int 10)) (Ac)))) (Ac))) (Ac)))) (Ag (Ap 4 (As Ow)) (Al (Ad Ah (Ab 4) (As Ox)))):=rfl
def GO (c:Nat):Nat:=if 97≤c∧c≤122 then c - 32 else c
theorem UK:∀(L:List Nat),Low L→Txt.upper (tx L)=tx (L.map GO)
 |[],_=>rfl
 |c::L,h=>by
  have e:tx (c::L)=(⟨#[c]⟩:Str)++tx L:=by
   show (⟨(c::L).toArray⟩:Str)=⟨#[c]++L.toArray⟩
   congr 1
   simp
  rw [e,PySem.W.KOpn.upper_app,PySem.W.KOpn.upper_one (h c (.head _)),UK L fun d hd=>h d (.tail _ hd)]
  show (⟨#[GO c]++(L.map GO).toArray⟩:Str)=_
  congr 1
  simp
theorem Zdv {L:List Nat} (h:Low L):Low (L.map GO):=fun c hc=>by
 obtain ⟨d,hd,rfl⟩:=qaR.mp hc
 have:=h d hd
 unfold GO
 split<;>omega
def BQ (ws:List (List Nat)):Nat:=(ws.map List.length).sum
theorem Lm (a b:List (List Nat)):BQ (a++b)=BQ a+BQ b:=by simp [BQ]
theorem Zdw (a:List (List Nat)) (n:Nat):BQ (a.take n)≤BQ a:=by
 conv=>rhs;rw [←LL n a]
 rw [Lm];omega
theorem Zdx (a:List (List Nat)) (n:Nat):BQ (a.drop n)≤BQ a:=by
 conv=>rhs;rw [←LL n a]
 rw [Lm];omega
theorem Zdy {a:List (List Nat)} {w:List Nat} (h:w∈a):w.length≤BQ a:=by
 obtain ⟨x,y,rfl⟩:=List.append_of_mem h
 rw [Lm]
 simp [BQ]
 omega
theorem Zdz (ws:List (List Nat)):(CQ [32] ws).length≤BQ ws+ws.length:=by
 cases ws with
 |nil=>simp [CQ]
 |cons x r=>
  show (x++r.flatMap fun y=>[32]++y).length≤_
  rw [Ca]
  have:∀r:List (List Nat),(r.flatMap fun y=>[32]++y).length=BQ r+r.length:=by
   intro r
   induction r with
   |nil=>rfl
   |cons a r ih=>rw [Jv,Ca,ih];simp [BQ];omega
  rw [this r]
  simp [BQ]
  omega
theorem ZdA {ws:List (List Nat)} (h:∀w∈ws,Low w):Low (CQ [32] ws):=by
 cases ws with
 |nil=>exact fun c hc=>nomatch hc
 |cons x r=>
  refine Low.app (h x (.head _)) fun c hc=>?_
  obtain ⟨y,hy,hc⟩:=List.mem_flatMap.mp hc
  rcases qaP.mp hc with hc |hc
  ·rw [qaL.mp hc];omega
  ·exact h y (.tail _ hy) c hc
theorem UL:∀L:List Nat,BQ (Ai 32 L)+(Ai 32 L).length≤L.length+1
 |[]=>by simp [Ai,BQ]
 |a::L=>by
  have ih:=UL L
  unfold Ai
  by_cases h:a=32
  ·rw [if_pos h]
   simp [BQ] at ih ⊢
   omega
  ·rw [if_neg h]
   have hne:=DW 32 L
   revert ih hne
   generalize Ai 32 L=m
   intro ih hne
   match m,hne with
   |q::ps,_=>
    simp [BQ] at ih ⊢
    omega
def WL (n:Nat) (h:HD) (d:D):Prop:=∃l ws,d=.loc l∧h[l]?=some (.lst (ws.map fun w=>.str (tx w)))∧(∀w∈ws,Low w)∧BQ ws+ws.length≤n
theorem WL.sm {n:Nat} {h h':HD} {d:D} (x:WL n h d) (s:Sm h h'):WL n h' d:=by
 obtain ⟨l,ws,e,e1,e2,e3⟩:=x
 exact ⟨l,ws,e,s _ _ e1,e2,e3⟩
def WE (n:Nat) (h0:HD) (ρ:Af) (f:ME):Prop:=∀h,Sm h0 h→Wp (f ρ h) fun d h'=>Sm h h'∧WL n h' d
def WA (n k:Nat) (h0:HD) (ρ:Af) (fa:MA):Prop:=∀h,Sm h0 h→Wp (fa ρ h) fun ds h'=>Sm h h'∧ds.length=k∧∀d∈ds,WL n h' d
section
variable {n m k i:Nat} {h0 h:HD} {ρ:Af} {f g:ME} {fa:MA} {L:List Nat}
theorem UM {d:D} (e:ρ[i]?=some (some d)) (x:WL n h0 d):WE n h0 ρ (Ab i):=fun h s=>by
 simp only [Ab,e,AR]
 exact ⟨.refl _,x.sm s⟩
theorem WE.up (a:WE n h0 ρ f) (hm:n≤m):WE m h0 ρ f:=fun h s=>Wp.mono (a h s) fun d h' z=>by
 obtain ⟨s',l,ws,e,e1,e2,e3⟩:=z
 exact ⟨s',l,ws,e,e1,e2,by omega⟩
theorem Fg (a:WE n h0 ρ f) (b:WE m h0 ρ g) (hk:n+m≤1000):WE (n+m) h0 ρ (Ad Ah f g):=fun h s=>by
 simp only [Bo]
 refine Wp.mono (a h s) fun x h1 z1=>?_
 obtain ⟨s1,l,ws,rfl,e1,e2,e3⟩:=z1
 refine Wp.mono (b h1 (s.trans s1)) fun y h2 z2=>?_
 obtain ⟨s2,l',ws',rfl,e4,e5,e6⟩:=z2
 rw [Ho (s2 _ _ e1) e4]
 refine AX (AQ (by simp;omega)) fun l3 h3 s3 e7 _ _=>?_
 refine ⟨(s1.trans s2).trans s3,l3,ws++ws',rfl,by rw [JA];exact e7,fun w hw=>?_,by rw [Lm,Ca];omega⟩
 rcases qaP.mp hw with hw |hw
 ·exact e2 w hw
 ·exact e5 w hw
theorem ZdB {ws:List (List Nat)} {lo hi:Option Int}:∃ws',LS.cutD (ws.map fun w=>D.str (tx w)) lo hi=(ws'.map fun w=>D.str (tx w))∧(∀w∈ws',w∈ws)∧BQ ws' + ws'.length≤BQ ws+ws.length:=by
 unfold LS.cutD
 rw [←List.map_drop,←List.map_take]
 refine ⟨_,rfl,fun w hw=>LM (LN hw),?_⟩
 generalize HT.sIx (ws.map fun w=>D.str (tx w)).length 0 lo=a
 generalize HT.sIx (ws.map fun w=>D.str (tx w)).length (ws.map fun w=>D.str (tx w)).length hi - a=b
 have h1:=Zdw (ws.drop a) b
 have h2:=Zdx ws a
 have h3:((ws.drop a).take b).length≤ws.length:=by rw [GY,Fo];omega
 omega
def Ln (ρ:Af) (lo:MO):Prop:=∀h,∃x,lo ρ h=.ok x h
theorem GP:Ln ρ Az:=fun h=>⟨none,rfl⟩
theorem Fh {f:ME} (a:GJ ρ f):Ln ρ (Av f):=fun h=>by
 obtain ⟨i,e⟩:=a h
 refine ⟨some i,?_⟩
 unfold Av
 rw [e]
 rfl
theorem ZdC {z:Int}:GJ ρ (mC (.int z)):=fun h=>⟨z,rfl⟩
theorem ZdD {z:Int}:GJ ρ (Ga (mC (.int z))):=fun h=>⟨-z,rfl⟩
theorem FO {d:D} {lo hi:MO} (e:ρ[i]?=some (some d)) (x:WL n h0 d) (hn:n≤1000) (a:Ln ρ lo) (b:Ln ρ hi):WE n h0 ρ (BP (Ab i) lo hi):=fun h s=>by
 obtain ⟨l,ws,rfl,e1,e2,e3⟩:=x.sm s
 obtain ⟨u,hu⟩:=a h
 obtain ⟨v,hv⟩:=b h
 simp only [Ss,Ab,e,AR,hu,hv]
 unfold Gx
 simp only [e1]
 obtain ⟨ws',c1,c2,c3⟩:=ZdB (ws:=ws) (lo:=u) (hi:=v)
 rw [c1]
 refine AX (by rw [Bt];exact AQ (by omega)) fun l3 h3 s3 e7 _ _=>?_
 exact ⟨s3,l3,ws',rfl,e7,fun w hw=>e2 w (c2 w hw),by omega⟩
theorem UN (e:ρ[i]?=some (some (.str (tx L)))) (hL:Low L) (hn:L.length+1≤n):WE n h0 ρ (As (Aa (Ab i) Ac)):=fun h s=>by
 simp only [FC,Bq,Ab,e,AR,Bp]
 refine AX (by simp) fun l3 h3 s3 e7 _ _=>?_
 refine ⟨s3,l3,[L],rfl,e7,fun w hw=>by rw [qaL.mp hw];exact hL,by simp [BQ];omega⟩
theorem ZdE {d:D} {l:Nat} {w:List Nat} {ws:List (List Nat)} (e:ρ[i]?=some (some (.loc l))) (el:h0[l]?=some (.lst ((w::ws).map fun w=>.str (tx w)))) (hL:Low w) (hn:w.length+1≤n) (h1:n≤1000):WE n h0 ρ (As (Aa (Gy (Ad AE (Ab i) (mC (.int 0)))) Ac)):=fun h s=>by
 have ix0:AE (.loc l) (.int 0) h=.ok (.str (tx w)) h:=FD (k:=0) (s _ _ el) (by simp)
 simp only [FC,Bq,Zb9,Bo,Ab,e,AR,B8,ix0,Bp]
 have eu:NQ (.str (tx w)) h=.ok (.str (tx (w.map GO))) h:=by
  unfold NQ
  simp only [UK w hL]
  rw [if_pos]
  unfold Builtin.Str.tooLong
  rw [decide_eq_false_iff_not,Bw,Bt]
  have:=AQ (n:=w.length) (by omega)
  omega
 rw [eu,AR]
 refine AX (by simp) fun l3 h3 s3 e7 _ _=>?_
 exact ⟨s3,l3,[w.map GO],rfl,e7,fun w hw=>by rw [qaL.mp hw];exact Zdv hL,by simp [BQ];omega⟩
theorem UO:WA n 0 h0 ρ Ac:=fun h s=>⟨.refl _,rfl,fun d hd=>nomatch hd⟩
theorem GQ (a:WE n h0 ρ f) (b:WA n k h0 ρ fa):WA n (k+1) h0 ρ (Aa f fa):=fun h s=>by
 simp only [Bq]
 refine Wp.mono (a h s) fun x h1 z1=>?_
 refine Wp.mono (b h1 (s.trans z1.1)) fun xs h2 z2=>?_
 refine ⟨z1.1.trans z2.1,by simp [z2.2.1],fun d hd=>?_⟩
 rcases qa9.mp hd with rfl |hd
 ·exact z1.2.sm z2.1
 ·exact z2.2.2 d hd
end
section
variable {n m k i:Nat} {h0 h:HD} {ρ:Af} {L:List Nat}
theorem ZdF {s:List Nat} (h:(s.all fun c=>decide (c<128))=true):Low s:=fun c hc=>of_decide_eq_true (qaI.mp h c hc)
theorem B4 {x:Str} (hl:x.length≤n) (hL:(x.cps.toList.all fun c=>decide (c<128))=true):TxE n ρ (mC (.str x)):=by
 obtain ⟨⟨l⟩⟩:=x
 exact Ui (L:=l) rfl (by rw [←Bw l];exact hl) (ZdF hL)
theorem ZdG:Fd 5 10 ρ Ov:=by
 unfold Ov
 refine Bd (B4 (by decide) (by decide)) (Bd (B4 (by decide) (by decide)) (Bd (B4 (by decide) (by decide)) (Bd (B4 (by decide) (by decide)) (Bd (B4 (by decide) (by decide)) (Bd (B4 (by decide) (by decide)) (Bd (B4 (by decide) (by decide)) (Bd (B4 (by decide) (by decide)) (Bd (B4 (by decide) (by decide)) (Bd (B4 (by decide) (by decide)) Jl)))))))))
theorem ZdH:Fd 90 10 ρ Ox:=by
 unfold Ox
 refine Bd (B4 (by decide) (by decide)) (Bd (B4 (by decide) (by decide)) (Bd (B4 (by decide) (by decide)) (Bd (B4 (by decide) (by decide)) (Bd (B4 (by decide) (by decide)) (Bd (B4 (by decide) (by decide)) (Bd (B4 (by decide) (by decide)) (Bd (B4 (by decide) (by decide)) (Bd (B4 (by decide) (by decide)) (Bd (B4 (by decide) (by decide)) Jl)))))))))
theorem ZdI {a c:Nat} (h1:ρ[1]?=some (some (.str (tx L)))) (h2:ρ[2]?=some (some (.str (tx [a])))) (h3:ρ[3]?=some (some (.str (tx [c])))) (hl:L.length≤72) (hL:Low L) (ha:a<128) (hc:c<128):Fd 90 5 ρ Ow:=by
 have l1:Low [a]:=fun x hx=>by cases qaL.mp hx;exact ha
 have l2:Low [c]:=fun x hx=>by cases qaL.mp hx;exact hc
 have v1:TxE 72 ρ (Ab 1):=GK h1 hl hL
 have v2:TxE 1 ρ (Ab 2):=GK h2 (by simp) l1
 have v3:TxE 1 ρ (Ab 3):=GK h3 (by simp) l2
 have c1:∀{x:Str},x.length≤7→(x.cps.toList.all fun c=>decide (c<128))=true→TxE 7 ρ (mC (.str x)):=fun a b=>B4 a b
 unfold Ow
 exact Bd (CI (c1 (by decide) (by decide)) v1 (by omega) (by omega)) (Bd (CI (c1 (by decide) (by decide)) v1 (by omega) (by omega)) (Bd (CI (CI (CI (c1 (by decide) (by decide)) v2 (Au _) (by omega)) (c1 (by decide) (by decide)) (Au _) (by omega)) v3 (by omega) (by omega)) (Bd (CI (c1 (by decide) (by decide)) v2 (by omega) (by omega)) (Bd (CI (c1 (by decide) (by decide)) v3 (by omega) (by omega)) Jl))))
theorem ZdJ {l a:Nat} {z:List Nat} (h2:ρ[2]?=some (some (.loc l))) (h3:ρ[3]?=some (some (.int (a:Nat)))) (h4:ρ[4]?=some (some (.str (tx z)))) (x:WL 101 h0 (.loc l)) (hz:z.length≤5) (hL:Low z):WA 310 4 h0 ρ Ot:=by
 have lo:=FO h2 x (by omega) GP (Fh (Ef h3))
 have hi:=FO h2 x (by omega) (Fh (Ef h3)) GP
 have hi1:=FO h2 x (by omega) (Fh (Oe h3)) GP
 have m1:=FO h2 x (by omega) GP (Fh (ZdD (z:=1)))
 have v4:WE 6 h0 ρ (As (Aa (Ab 4) Ac)):=UN h4 hL (by omega)
 have v2:=UM h2 x
 unfold Ot
 exact GQ ((Fg (Fg lo v4 (by omega)) hi1 (by omega)).up (by omega)) (GQ ((Fg (Fg lo v4 (by omega)) hi (by omega)).up (by omega)) (GQ ((Fg v2 v4 (by omega)).up (by omega)) (GQ (m1.up (by omega)) UO)))
theorem ZdK {l a:Nat} {z w:List Nat} {ws:List (List Nat)} (h2:ρ[2]?=some (some (.loc l))) (h3:ρ[3]?=some (some (.int (a:Nat)))) (h4:ρ[4]?=some (some (.str (tx z)))) (x:WL 101 h0 (.loc l)) (hz:z.length≤5) (hL:Low z) (el:h0[l]?=some (.lst ((w::ws).map fun w=>.str (tx w)))) (hw:Low w) (hwl:w.length≤100):WA 310 3 h0 ρ Ou:=by
 have lo:=FO h2 x (by omega) GP (Fh (Ef h3))
 have mi:=FO h2 x (by omega) (Fh (Ef h3)) (Fh (Oe h3))
 have hi:=FO h2 x (by omega) (Fh (Ef h3)) GP
 have h1:=FO h2 x (by omega) (Fh (ZdC (z:=1))) GP
 have v4:WE 6 h0 ρ (As (Aa (Ab 4) Ac)):=UN h4 hL (by omega)
 have v2:=UM h2 x
 have up:WE 101 h0 ρ (As (Aa (Gy (Ad AE (Ab 2) (mC (.int 0)))) Ac)):=ZdE (d:=.non) h2 el hw (by omega) (by omega)
 unfold Ou
 exact GQ ((Fg (Fg lo mi (by omega)) hi (by omega)).up (by omega)) (GQ ((Fg v4 v2 (by omega)).up (by omega)) (GQ ((Fg up h1 (by omega)).up (by omega)) UO))
theorem UP {h:HD} {Q:D→HD→Prop} {fa:MA} (a:WA n k h0 ρ fa) (s0:Sm h0 h) (hk:k≤1000) (q:∀l ds h',ds.length=k→(∀d∈ds,WL n h' d)→h'[l]?=some (.lst ds)→h.length≤l→Sm h h'→Q (.loc l) h'):Wp (As fa ρ h) Q:=by
 rw [FC]
 refine Wp.mono (a h s0) fun ds h1 z1=>?_
 obtain ⟨s1,e,t⟩:=z1
 refine AX (AQ (by omega)) fun l' h' s' e' el _=>?_
 subst el
 exact q _ ds h' e (fun d hd=>(t d hd).sm s') e' s1.len (s1.trans s')
theorem ZdL {l:Nat} {ws:List (List Nat)} {h:HD} (el:h[l]?=some (.lst (ws.map fun w=>.str (tx w)))) (hn:BQ ws+ws.length≤310):Dc (.str (tx [32])) (.loc l) h=.ok (.str (tx (CQ [32] ws))) h:=by
 have:=R0 (e:=fun w:List Nat=>w) (xs:=ws) (sep:=[32]) (n:=310) el (fun x hx=>by have:=Zdy hx;omega) (by
  have:ws.length*(310 + [32].length)≤310*311:=Nat.mul_le_mul (by omega) (Au _)
  unfold sizeLine
  omega)
 rwa [List.map_id'] at this
theorem ZdM {b:Nat} {Q:D→HD→Prop} (hx:BoxAt h b) (hl:L.length≤100) (hL:Low L) (q:∀d h',TxN 900 d→BoxAt h' b→Smx b h h'→Q d h'):Wp (Ld [.loc b,.str (tx L)] h) Q:=by
 change Wp (Ay 6 N1 [.loc b,.str (tx L)] h) _
 refine Eq.mpr Bb ?_
 rw [Zdt]
 change Wp (Ag _ _ [some (.loc b),some (.str (tx L)),none,none,none,none] h) _
 rw [AG,Cj]
 refine Lk rfl (by omega) fun l h1 s1 hl1 e1=>?_
 refine Eq.mpr Aq ?_
 have n1:=GG 32 L
 have low:=UJ hL
 have sm1:=UL L
 have hne:=DW 32 L
 generalize Ai 32 L=ws0 at e1 n1 low hne sm1
 match ws0,hne with
 |w::ws,_=>
 have hb:=hx.lt
 have lb:l≠b:=by omega
 show Wp (Ag _ _ [some (.loc b),some (.str (tx L)),some (.loc l),none,none,none] h1) _
 rw [AG,Cj]
 simp only [Cb,Bq,CN,BU,Bp,Ak,Ew e1,AR]
 refine De (hx.sm s1) (by simp<;>omega) (by simp;have:=n1.1;simp at this;omega) fun a h2 a0 _ x2 t2=>?_
 obtain ⟨a,rfl⟩:=Eh a0
 have e2:=t2 _ _ lb e1
 refine Eq.mpr Aq ?_
 show Wp (Ag _ _ [some (.loc b),some (.str (tx L)),some (.loc l),some (.int (a:Nat)),none,none] h2) _
 rw [AG,Cj,Bo]
 refine Jm ZdG (by omega) fun ds h3 l3 t3 g3 s3=>?_
 simp only [Cb,Bq,CN,BU,Bp,B8]
 refine De (x2.sm s3) (by omega) (by omega) fun o h4 o0 o1 x4 t4=>?_
 obtain ⟨o,rfl⟩:=Eh o0
 have hb2:=x2.lt
 have e4:=t4 _ _ lb (s3 _ _ e2)
 obtain ⟨y,ey,py⟩:=Jh (TxN 5) (o:=o) (t4 _ _ (by omega) g3) (by rw [l3];omega) t3
 have ey':AE (.loc h2.length) (.int (Int.ofNat o)) h4=.ok y h4:=ey
 refine Eq.mpr (congrArg (fun w=>Wp w _) ey') ?_
 obtain ⟨z,rfl,hz,hzL⟩:=py
 rw [AR]
 refine Eq.mpr Aq ?_
 show Wp (Ag _ _ [some (.loc b),some (.str (tx L)),some (.loc l),some (.int (a:Nat)),some (.str (tx z)),none] h4) _
 have xw:WL 101 h4 (.loc l):=⟨l,w::ws,rfl,e4,low,by omega⟩
 have hwl:w.length≤100:=by have:=n1.2 w (.head _);omega
 rw [AG,Cj]
 refine UP (ZdJ rfl rfl rfl xw hz hzL) (.refl _) (by omega) fun l5 ds5 h5 n5 w5 e5 g5 s5=>?_
 refine Eq.mpr Aq ?_
 show Wp (Ag _ _ [some (.loc b),some (.str (tx L)),some (.loc l),some (.int (a:Nat)),some (.str (tx z)),some (.loc l5)] h5) _
 rw [AG,Cj,Bo]
 refine Eq.mpr (Hf (d:=.loc l5) rfl) ?_
 refine UP (ZdK (h0:=h5) rfl rfl rfl (xw.sm s5) hz hzL (s5 _ _ e4) (low w (.head _)) hwl) (.refl _) (by omega) fun l6 ds6 h6 n6 w6 e6 g6 s6=>?_
 rw [Ho (s6 _ _ e5) e6]
 refine AX (by rw [Ca,n5,n6];exact AQ (by omega)) fun l7 h7 s7 e7 en7 _=>?_
 refine Eq.mpr Aq ?_
 show Wp (Ag _ _ [some (.loc b),some (.str (tx L)),some (.loc l),some (.int (a:Nat)),some (.str (tx z)),some (.loc l7)] h7) _
 have s47:=(s5.trans s6).trans s7
 have sx:Smx b h h7:=(((Dl s1).trans t2).trans (Dl s3)).trans (t4.trans (Dl s47))
 have hw7:∀d∈ds5++ds6,WL 310 h7 d:=fun d hd=>by
  rcases qaP.mp hd with hd |hd
  ·exact (w5 d hd).sm (s6.trans s7)
  ·exact (w6 d hd).sm s7
 have x7:=x4.sm s47
 have hb7:=x4.lt
 have l7b:l7≠b:=by have:=(s5.trans s6).len;omega
 rw [AG]
 simp only [D9,Cn,Bo,Cb,Bq,BU,B8,Bp]
 refine De x7 (by omega) (by omega) fun c h8 c0 c1 x8 t8=>?_
 simp only [Zaq,AR]
 by_cases hc:c=0
 ·have ec:(c==0)=true:=beq_iff_eq.mpr hc
  rw [ec]
  show Wp (Al (Ae HI (Aa (Ab 0) (Aa (Ab 1) (Ac)))) [some (.loc b),some (.str (tx L)),some (.loc l),some (.int (a:Nat)),some (.str (tx z)),some (.loc l7)] h8) _
  simp only [Ep,Cb,Bq,CN,BU,Bp]
  refine ZcV x8 hl hL fun d h9 t9 x9 s9=>?_
  obtain ⟨M,e,f1,f2⟩:=t9
  exact q d h9 ⟨M,e,by omega,f2⟩ x9 ((sx.trans t8).trans s9)
 ·have ec:(c==0)=false:=beq_eq_false_iff_ne.mpr hc
  rw [ec]
  refine Eq.mpr Aq ?_
  show Wp (Al (BJ BC Dc (mC (.str " ")) (Ad AE (Ab 5) (Ae A4 (Aa (Ab 0) (Aa (mC (.int 7)) (Ac)))))) [some (.loc b),some (.str (tx L)),some (.loc l),some (.int (a:Nat)),some (.str (tx z)),some (.loc l7)] h8) _
  simp only [Ep,Kx,B8,BC,AR,Bo,CN,BU,Cb,Bq,Bp]
  refine De x8 (by omega) (by omega) fun c h9 c0 c1 x9 t9=>?_
  obtain ⟨c,rfl⟩:=Eh c0
  obtain ⟨y,ey,py⟩:=Jh (WL 310 h7) (o:=c) (t9 _ _ l7b (t8 _ _ l7b e7)) (by rw [Ca,n5,n6];omega) hw7
  have ey':AE (.loc l7) (.int (Int.ofNat c)) h9=.ok y h9:=ey
  refine Eq.mpr (congrArg (fun w=>Wp w _) ey') ?_
  rw [AR]
  obtain ⟨ly,wy,rfl,y1,y2,y3⟩:=py
  have lyb:ly≠b:=fun z=>by
   subst z
   obtain ⟨N,eN⟩:=x7
   rw [eN] at y1
   cases wy with
   |nil=>simp at y1
   |cons v vs=>simp at y1
  rw [show (" ":Str)=tx [32] from rfl,ZdL (t9 _ _ lyb (t8 _ _ lyb y1)) y3]
  have jl:=Zdz wy
  exact q _ h9 ⟨CQ [32] wy,rfl,by omega,ZdA y2⟩ x9 ((sx.trans t8).trans t9)
theorem UQ {x:Nat} (hx:x<10):LS.strOfD (.int (x:Nat)) h=.ok (.str (tx [48+x])) h:=by
 show (if ((x:Nat):Int).natAbs<4611686018427387904 then Out.ok (D.str (Str.ofString (toString ((x:Nat):Int)))) h else .stuck)=_
 rw [if_pos (by omega)]
 congr 2
 match x,hx with
 |0,_=>rfl
 |1,_=>rfl
 |2,_=>rfl
 |3,_=>rfl
 |4,_=>rfl
 |5,_=>rfl
 |6,_=>rfl
 |7,_=>rfl
 |8,_=>rfl
 |9,_=>rfl
theorem ZdN {b:Nat} {Q:D→HD→Prop} (hx:BoxAt h b) (hl:L.length≤72) (hL:Low L) (q:∀l ds h',h'[l]?=some (.lst ds)→ds.length=15→(∀d∈ds,TxN 90 d)→h.length≤l→BoxAt h' b→Smx b h h'→Q (.loc l) h'):Wp (La [.loc b,.str (tx L)] h) Q:=by
 change Wp (Ay 5 N0 [.loc b,.str (tx L)] h) _
 refine Eq.mpr Bb ?_
 rw [Zdu]
 change Wp (Ag _ _ [some (.loc b),some (.str (tx L)),none,none,none] h) _
 have hb:=hx.lt
 rw [AG]
 simp [-Aq,-AG]
 refine De hx (by omega) (by omega) fun a h1 a0 a1 x1 t1=>?_
 obtain ⟨a,rfl⟩:=Eh a0
 have ea:LS.strOfD (.int (Int.ofNat a)) h1=.ok (.str (tx [48+a])) h1:=UQ (by omega)
 refine Eq.mpr (congrArg (fun w=>Wp w _) ea) ?_
 simp [-Aq,-AG]
 refine De x1 (by omega) (by omega) fun c h2 c0 c1 x2 t2=>?_
 obtain ⟨c,rfl⟩:=Eh c0
 have ec:LS.strOfD (.int (Int.ofNat c)) h2=.ok (.str (tx [48+c])) h2:=UQ (by omega)
 refine Eq.mpr (congrArg (fun w=>Wp w _) ec) ?_
 simp [-Aq,-AG]
 refine Eq.mpr Aq ?_
 show Wp (Ag _ _ [some (.loc b),some (.str (tx L)),some (.str (tx [48+a])),some (.str (tx [48+c])),none] h2) _
 rw [AG,Cj]
 refine Jm (ZdI rfl rfl rfl hl hL (by omega) (by omega)) (by omega) fun ds5 h3 l5 t5 g5 s5=>?_
 refine Eq.mpr Aq ?_
 rw [Ep,Bo]
 refine Eq.mpr (Hf (d:=.loc h2.length) rfl) ?_
 refine Jm ZdH (by omega) fun ds10 h4 l10 t10 g10 s10=>?_
 rw [Ho (s10 _ _ g5) g10]
 refine AX (by rw [Ca,l5,l10];exact AQ (by omega)) fun n h5 s6 e6 en _=>?_
 have sm:=(s5.trans s10).trans s6
 have hb2:=x2.lt
 have ln:=(s5.trans s10).len
 have l12:=(t1.trans t2).len hb2
 exact q n _ h5 e6 (by rw [Ca,l5,l10]) (T7 t5 t10) (by omega) (x2.sm sm) ((t1.trans t2).trans (Dl sm))
end
theorem GR {l:Nat} {c:Cell} {h:HD} (hl:l<h.length):(h.set l c)[l]?=some c:=Cw hl
theorem Cu {l j:Nat} {c:Cell} {h:HD} (hl:l≠j):(h.set l c)[j]?=h[j]?:=BF hl
theorem Fi {l:Nat} {c:Cell} {h:HD} (e:h[l]?=some c):l<h.length:=(qa1.mp e).1
theorem ZdO {l:Nat} {ds:List D} {x:D} {h:HD} (E:h[l]?=some (.lst (ds++[x]))):IV (.loc l) h=.ok x (h.set l (.lst ds)):=by
 unfold IV
 simp [E]
def Sx (k e:Nat) (h h':HD):Prop:=∀l c,l≠k→l≠e→h[l]?=some c→h'[l]?=some c
theorem Sx.trans {k e:Nat} {h h1 h2:HD} (a:Sx k e h h1) (b:Sx k e h1 h2):Sx k e h h2:=fun l c n1 n2 z=>b l c n1 n2 (a l c n1 n2 z)
theorem UR {k e:Nat} {h h':HD} (s:Sm h h'):Sx k e h h':=fun l c _ _ z=>s l c z
section
variable {h:HD} {d k e:Nat} {ds:List D} {b x y:D} {ρ:Af} {L:List Nat}
theorem DeskAt.ne (A:DeskAt h d k e ds b):e≠k∧d≠k∧d≠e:=by
 refine ⟨fun z=>?_,fun z=>?_,fun z=>?_⟩
 ·have:=A.a3;rw [z,A.a2] at this;cases this
 ·have:=A.a1;rw [z,A.a2] at this;cases this
 ·have:=A.a1;rw [z,A.a3] at this;cases this
theorem ZdP {Q:D→HD→Prop} (A:DeskAt h d k e ds b) (hl:ds.length≤1000) (q:∀h',DeskAt h' d k e (ds++[b]) y→Sx k e h h'→Q .non h'):Wp (GA [.loc k,y] h) Q:=by
 change Wp (Ay 2 SE [.loc k,y] h) _
 refine Eq.mpr Bb ?_
 obtain ⟨ne,n2,n3⟩:=A.ne
 simp [Oh A.a2]
 rw [Gc A.a3]
 simp [Uq A.a2]
 rw [Kh A.a3 (Nat.lt_of_le_of_lt hl (by decide))]
 simp
 have e2:(h.set e (.lst (ds++[b])))[k]?=some (Eg b e):=by rw [Cu ne];exact A.a2
 rw [Ur e2]
 simp
 refine q _ ⟨?_,GR (by rw [Jx];exact Fi A.a2),?_⟩ fun l c n1 n2 z=>?_
 ·rw [Cu (Ne.symm n2),Cu (Ne.symm n3)];exact A.a1
 ·rw [Cu (Ne.symm ne),GR (Fi A.a3)]
 ·rw [Cu (Ne.symm n1),Cu (Ne.symm n2)]
  exact z
theorem ZdQ {Q:D→HD→Prop} (A:DeskAt h d k e (ds++[x]) b) (q:∀h',DeskAt h' d k e ds x→Sx k e h h'→Q .non h'):Wp (HF [.loc k] h) Q:=by
 change Wp (Ay 1 NS [.loc k] h) _
 refine Eq.mpr Bb ?_
 obtain ⟨ne,n2,n3⟩:=A.ne
 simp [Oh A.a2,DO,A.a3]
 rw [Gc A.a3]
 simp
 rw [ZdO A.a3]
 simp
 have e2:(h.set e (.lst ds))[k]?=some (Eg b e):=by rw [Cu ne];exact A.a2
 rw [Ur e2]
 simp
 refine q _ ⟨?_,GR (by rw [Jx];exact Fi A.a2),?_⟩ fun l c n1 n2 z=>?_
 ·rw [Cu (Ne.symm n2),Cu (Ne.symm n3)];exact A.a1
 ·rw [Cu (Ne.symm ne),GR (Fi A.a3)]
 ·rw [Cu (Ne.symm n1),Cu (Ne.symm n2)]
  exact z
theorem ZdR (A:DeskAt h d k e [] b):Er (HF [.loc k] h) h "NoRow":=by
 change We (Ay 1 NS [.loc k] h) _ _
 refine Eq.mpr EB ?_
 simp [Oh A.a2,DO,A.a3,DR,Sm.refl]
theorem ZdS (E:h[k]?=some (.ins "Keeper" [])):DF "Keeper" "now" (.loc k) y ρ h=.ok (.nx,ρ) (h.set k (.ins "Keeper" [("now",y)])):=by unfold DF;simp only [E];rfl
theorem ZdT {l:Nat} (E:h[k]?=some (.ins "Keeper" [("now",x)])):DF "Keeper" "earlier" (.loc k) (.loc l) ρ h=.ok (.nx,ρ) (h.set k (Eg x l)):=by unfold DF;simp only [E];rfl
theorem ZdU (E:h[d]?=some (.ins "Desk" [])):DF "Desk" "kept" (.loc d) (.loc k) ρ h=.ok (.nx,ρ) (h.set d (Jo k)):=by unfold DF;simp only [E];rfl
theorem ZdV {H W:Nat} {f:Nat→Nat→Bool} {Q:D→HD→Prop} (hh:1≤H∧H≤8) (hw:1≤W∧W≤8) (E:h[k]?=some (.ins "Keeper" [])) (q:∀h' e,h'[k]?=some (Eg (bD H W f) e)→h'[e]?=some (.lst [])→h.length≤e→(∀l c,l≠k→h[l]?=some c→h'[l]?=some c)→Q .non h'):Wp (Je [.loc k,bD H W f] h) Q:=by
 change Wp (Ay 2 TF [.loc k,bD H W f] h) _
 refine Eq.mpr Bb ?_
 simp
 refine (T4 hh hw).wp fun h1 s1=>?_
 have E1:=s1 _ _ E
 try simp
 rw [ZdS E1]
 simp
 refine AX (by simp) fun l h2 s2 e2 el _=>?_
 have E2:h2[k]?=some (.ins "Keeper" [("now",bD H W f)]):=s2 _ _ (GR (Fi E1))
 have hl:h.length≤l:=by rw [el,Jx];exact s1.len
 have kl:k≠l:=by have:=Fi E;omega
 rw [ZdT E2]
 simp
 refine q _ l (GR (Fi E2)) (by rw [Cu kl];exact e2) hl fun j c n z=>?_
 rw [Cu (Ne.symm n)]
 exact s2 _ _ (by rw [Cu (Ne.symm n)];exact s1 _ _ z)
abbrev b0:D:=bD 1 1 fun _ _=>false
theorem ZdW:Jg [.loc d] h=Ay 1 (Eb "Desk" (Ab 0) "kept" (Ec "Keeper" Je (Aa (mC b0) (Ac)))) [.loc d] h:=rfl
theorem ZdX {Q:D→HD→Prop} (q:∀d k e h',DeskAt h' d k e [] b0→h.length≤d→h.length≤k→h.length≤e→Sm h h'→Q (.loc d) h'):Wp (Ec "Desk" Jg Ac ρ h) Q:=by
 rw [Sn,Bp]
 rw [ZdW,Bb]
 simp only [ZbS,Sn,Bq,B8,Bp]
 have l1:(h++[Cell.ins "Desk" []]).length=h.length+1:=by simp
 have ek:(h++[Cell.ins "Desk" []]++[Cell.ins "Keeper" []])[(h++[Cell.ins "Desk" []]).length]?=some (.ins "Keeper" []):=by simp
 have ed:(h++[Cell.ins "Desk" []]++[Cell.ins "Keeper" []])[h.length]?=some (.ins "Desk" []):=by simp
 refine ZdV (H:=1) (W:=1) (f:=fun _ _=>false) (by omega) (by omega) ek fun h1 e e1 e2 l2 s1=>?_
 rw [Sl,AR]
 show Wp (DF "Desk" "kept" (.loc h.length) (.loc _) _ h1) _
 have ed1:=s1 _ _ (by omega) ed
 rw [ZdU ed1,AR]
 have le:h.length+2≤e:=by simp at l2;omega
 show Wp (KY h.length .non (h1.set h.length (Jo (h++[Cell.ins "Desk" []]).length))) _
 rw [Sl,AR]
 refine q _ _ e _ ⟨GR (Fi ed1),by rw [Cu (by omega)];exact e1,by rw [Cu (by omega)];exact e2⟩ (Au _) (by omega) (by omega) fun l c z=>?_
 have hl:=Fi z
 rw [Cu (by omega)]
 refine s1 _ _ (by omega) ?_
 rw [DJ (by simp;omega),DJ hl]
 exact z
theorem Oy {α:Type} {o:Out α} {Q:α→HD→Prop} (w:We o Q fun _ _ _=>False):Wp o Q:=by
 cases o with
 |ok a h=>exact w
 |err C fs h=>
  unfold We at w
  cases C<;>exact w.elim
 |stuck=>exact w
theorem ZdY {H W:Nat} {f:Nat→Nat→Bool} {Q:D→HD→Prop} (hh:1≤H∧H≤8) (hw:1≤W∧W≤8) (A:DeskAt h d k e ds b) (hl:ds.length≤1000) (q:∀h',DeskAt h' d k e (ds++[b]) (bD H W f)→Sx k e h h'→Q (.str "ok") h'):Wp (AS [.loc d,.str (tx (Ct++32::AJ H W f))] h) Q:=by
 have lb:=Ul (H:=H) (W:=W) (f:=f) hh.2 hw.2
 have hw0:∀x∈Ct,x≠32:=by decide
 refine Oy (Ol hw0 (by simp [Ct];omega) fun h1 s1=>?_)
 have A1:=A.sm s1
 rw [BV]
 unfold HP
 have e1:AA (.str (tx Ct)) (.str "alike") h1=.ok (.bl false) h1:=rfl
 simp only [E8,E9,EG,CZ,Co,EF,e1,BB]
 show We (Fe _ h1) _ _
 unfold Fe
 have e2:AA (.str (tx Ct)) (.str "board") h1=.ok (.bl true) h1:=rfl
 simp only [BV,E8,E9,EG,CZ,Co,EF,e2,BB]
 show We (Bn _ _ h1) _ _
 simp only [ED,Ed,Gu,CZ,Co,ES A1.a1,FN (m:="change_to") A1.a2,BB,CO,DD,CF]
 refine (Zc2 hh hw).we fun h2 s2=>?_
 refine Wp.we (ZdP (A1.sm s2) hl fun h3 A3 s3=>?_)
 exact q h3 A3 ((UR (s1.trans s2)).trans s3)
theorem US (hl:L.length≤900) (hc:∀x∈L,x≠32) {Q:D→HD→Prop} {E:Str→List (Str×D)→HD→Prop} (A:DeskAt h d k e ds b) (q:∀h',Sm h h'→We (HM [.loc d,.str (tx L)] h') Q E):We (AS [.loc d,.str (tx L)] h) Q E:=by
 refine Oj hl fun h1 s1=>?_
 have ep:Bk 32 L=(L,[],[]):=by
  unfold Bk
  rw [(LS.cutL_none 32 L).mpr hc]
 rw [ep]
 have A1:=A.sm s1
 rw [BV]
 unfold Jq
 have e0:AA (.str (tx [])) (.str "") h1=.ok (.bl true) h1:=rfl
 simp [e0]
 simp only [ES A1.a1,GM (m:="say_word") A1.a1,BB]
 exact q h1 s1
def GS:List Nat:=[115,104,111,119]
def GT:List Nat:=[117,110,100,111]
theorem UT {H W:Nat} {f:Nat→Nat→Bool} (hh:1≤H∧H≤8) (hw:1≤W∧W≤8) (A:DeskAt h d k e ds (bD H W f)):Pu (AS [.loc d,.str "show"] h) h (.str (tx (AJ H W f))):=by
 refine Oy (US (L:=GS) (by decide) (by decide) A fun h1 s1=>?_)
 have A1:=A.sm s1
 change We (Ay 4 GE [.loc d,.str (tx GS)] h1) _ _
 refine Eq.mpr EB ?_
 simp only [GE,BV,Kw,DD,CO,Ed,Gu]
 change We (DE "Desk" "kept" (.loc d) h1) _ _
 rw [ES A1.a1,BB]
 rw [FN A1.a2,BB,CF]
 refine (Jp A1.a2).we fun h2 s2=>?_
 simp
 have pa:Pu (HL [bD H W f,.str (tx GS)] h2) h2 (.str (tx (AJ H W f))):=by
  change Wp (Ay 2 HK [bD H W f,.str (tx GS)] h2) _
  refine Eq.mpr Bb ?_
  have es:AA (.str (tx GS)) (.str "show") h2=.ok (.bl true) h2:=rfl
  change Wp (HK [some (bD H W f),some (.str (tx GS))] h2) _
  simp only [HK,AG,D9,Cn,Bo,B8,CN,BU,es,AR]
  show Wp (Al (Ae Jf (Aa (Ab 0) (Ac))) [some (bD H W f),some (.str (tx GS))] h2) _
  simp only [Ep,Cb,Bq,BU,Bp]
  exact (ZcY hh hw).wp fun h3 s3=>⟨rfl,s3⟩
 refine pa.we fun h3 s3=>?_
 have en:F5 (.str (tx (AJ H W f))) .non h3=.ok (.bl true) h3:=rfl
 simp [en]
 exact (s1.trans s2).trans s3
theorem ZdZ:∀s∈(["show","lit","left","bound","fours","counts"]:List Str),¬tx GT=s:=by decide +kernel
theorem UU {Q:D→HD→Prop} {E:Str→List (Str×D)→HD→Prop} (A:DeskAt h d k e ds b) (q:∀h',Sm h h'→We (HF [.loc k] h') (fun _ h2=>Q (.str "ok") h2) E):We (AS [.loc d,.str "undo"] h) Q E:=by
 refine US (L:=GT) (by decide) (by decide) A fun h1 s1=>?_
 have A1:=A.sm s1
 change We (Ay 4 GE [.loc d,.str (tx GT)] h1) _ _
 refine Eq.mpr EB ?_
 simp only [GE,BV,Kw,DD,CO,Ed,Gu]
 change We (DE "Desk" "kept" (.loc d) h1) _ _
 rw [ES A1.a1,BB]
 rw [FN A1.a2,BB,CF]
 refine (Jp A1.a2).we fun h2 s2=>?_
 have A2:=A1.sm s2
 simp
 have pa:Pu (HL [b,.str (tx GT)] h2) h2 .non:=by
  change Wp (Ay 2 HK [b,.str (tx GT)] h2) _
  refine Eq.mpr Bb ?_
  have hn:=ZdZ
  generalize GT=L at hn
  simp [hn "show" (by decide),hn "lit" (by decide),hn "left" (by decide),hn "bound" (by decide),hn "fours" (by decide),hn "counts" (by decide),Sm.refl]
 refine pa.we fun h3 s3=>?_
 have A3:=A2.sm s3
 have eu:AA (.str (tx GT)) (.str "undo") h3=.ok (.bl true) h3:=rfl
 rw [Oi,BB]
 have ea:D1 (.bl false) h3=.ok false h3:=rfl
 rw [ea,BB]
 simp only [Bl,if_false,Zam,Nd,BV,E8,E9,EG,CZ,Co,EF]
 rw [eu,BB]
 show We (Ag (Bn _) _ _ h3) _ _
 simp only [BV,ED,Ed,Gu,Co,ES A3.a1,FN (m:="undo") A3.a2,BB,CF]
 refine We.mono (q h3 ((s1.trans s2).trans s3)) (fun v h4 z=>?_) fun _ _ _ z=>z
 exact z
theorem Zd0 {Q:D→HD→Prop} (A:DeskAt h d k e (ds++[x]) b) (q:∀h',DeskAt h' d k e ds x→Sx k e h h'→Q (.str "ok") h'):Wp (AS [.loc d,.str "undo"] h) Q:=
 Oy (UU A fun h1 s1=>Wp.we (ZdQ (A.sm s1) fun h2 A2 s2=>q h2 A2 ((UR s1).trans s2)))
theorem Zd1 (A:DeskAt h d k e [] b):Er (AS [.loc d,.str "undo"] h) h "NoRow":=
 UU A fun h1 s1=>(ZdR (A.sm s1)).we fun h2 s2=>⟨rfl,rfl,s1.trans s2⟩
theorem Zd2 (hi:AC x (.ty "str") h=.ok (.bl false) h):Er (AS [.loc d,x] h) h "NoRow":=by
 change We (Ay 5 Lf [.loc d,x] h) _ _
 refine Eq.mpr EB ?_
 rw [Uw]
 change We (Ag _ _ [some (.loc d),some x,none,none,none] h) _ _
 have pi:Pu (Ae (A6 AC) (Aa (Ab 1) (Aa (mC (.ty "str")) (Ac))) [some (.loc d),some x,none,none,none] h) h (.bl false):=by
  simp [Pu,hi,Sm.refl]
 rw [BV,ED,DD,CO]
 refine pi.we fun h1 s1=>?_
 rw [CF]
 exact er_need_row.we fun h2 s2=>⟨rfl,rfl,s1.trans s2⟩
end
@[irreducible] noncomputable def Oz:MS:=Ap 2 (Ae K8 (Aa (Ab 0) (Aa (Ab 1) (Ac))))
@[irreducible] noncomputable def OA:MS:=Ap 3 (Ae Lc (Aa (Ab 2) (Aa (Ad Ah (mC (.int 1)) (Ae A4 (Aa (Ab 2) (Aa (mC (.int 8)) (Ac))))) (Aa (Ad Ah (mC (.int 1)) (Ae A4 (Aa (Ab 2) (Aa (mC (.int 8)) (Ac))))) (Ac)))))
@[irreducible] noncomputable def OB:MS:=Ap 4 (Ae K6 (Aa (Ab 3) (Ac)))
@[irreducible] noncomputable def OC:MS:=Ap 5 (Ae HH (Aa (Ab 2) (Ac)))
@[irreducible] noncomputable def OD:MS:=Ap 6 (Ec "Desk" Jg (Ac))
@[irreducible] noncomputable def Lo:MS:=Aw (An (Ad AZ (AL "Desk" "say" AS (Ab 6) (Aa (Ad Ah (mC (.str "board ")) (Ab 4)) (Ac))) (mC (.str "ok")))) (Al (mC (.bl false))) (AD)
@[irreducible] noncomputable def Lp:MS:=Ag (Ap 9 (Ae Ld (Aa (Ab 5) (Aa (Ab 7) (Ac))))) (Ag (Ap 10 (Ae K9 (Aa (Ab 9) (Ac)))) (Aw (FY (An (Ad AZ (Ab 10) (mC (.str "")))) (An (Ad AZ (DA [9,6] CS (AL "Desk" "say" AS (Ab 1) (Aa (Ab 0) (Ac)))) (Ab 10)))) (Al (mC (.bl false))) (AD)))
@[irreducible] noncomputable def Lq:MS:=Bz (D8 (Aa (mC (.int 3)) (Ac))) (AK 8) Lp
@[irreducible] noncomputable def Jr:MS:=Bz (Bg (Ae La (Aa (Ab 5) (Aa (Ab 4) (Ac))))) (AK 7) Lq
@[irreducible] noncomputable def OE:MS:=Aw (An (Ad AZ (DA [11,6] CS (AL "Desk" "say" AS (Ab 1) (Aa (Ab 0) (Ac)))) (mC (.str "! row")))) (Al (mC (.bl false))) (AD)
@[irreducible] noncomputable def Lr:MS:=Bz (Bg (As (Aa (mC .non) (Aa (mC (.int 7)) (Aa (mC (.bl true)) (Aa (Du (Aa (mC (.str "undo")) (Ac))) (Aa (As (Aa (mC (.str "show")) (Ac))) (Aa (mC .edic) (Aa (Du (Aa (mC (.str "board")) (Aa (Ab 4) (Ac)))) (Ac)))))))))) (AK 11) OE
@[irreducible] noncomputable def OF:MS:=Aw (An (Ad AZ (DA [6,13,12] CS (AL "Desk" "say" AS (Ab 0) (Aa (Ad Ah (Ab 1) (Ab 2)) (Ac)))) (mC (.str "! text")))) (Al (mC (.bl false))) (AD)
@[irreducible] noncomputable def Ls:MS:=Bz (Bg (As (Aa (mC (.str "board ")) (Aa (mC (.str "alike ")) (Ac))))) (AK 13) OF
@[irreducible] noncomputable def Lu:MS:=Bz (Bg (As (Aa (mC (.str "")) (Aa (Ad Ah (Ab 4) (mC (.str "/"))) (Aa (Ad Ah (mC (.str "/")) (Ab 4)) (Aa (Ad Ah (Ab 4) (mC (.str " "))) (Aa (mC (.str "none")) (Aa (mC (.str "x")) (Aa (Ad Ah (Ad Ah (Ab 4) (mC (.str "/"))) (Ad EL (mC (.str ".")) (mC (.int 9)))) (Aa (Ad EL (mC (.str "#")) (mC (.int 9))) (Ac))))))))))) (AK 12) Ls
@[irreducible] noncomputable def OG:MS:=Aw (An (Ad AZ (DA [13,6] CS (AL "Desk" "say" AS (Ab 1) (Aa (Ab 0) (Ac)))) (mC (.str "! row")))) (Al (mC (.bl false))) (AD)
@[irreducible] noncomputable def Lw:MS:=Bz (Bg (As (Aa (mC (.str "board")) (Aa (mC (.str "alike")) (Aa (Ad Ah (mC (.str "Board ")) (Ab 4)) (Aa (Ad Ah (mC (.str " board ")) (Ab 4)) (Aa (mC (.str "board")) (Aa (mC (.str "boards")) (Aa (mC (.str "alike")) (Ac)))))))))) (AK 13) OG
@[irreducible] noncomputable def Lx:MS:=Aw (Cg (An (Ad AZ (AL "Desk" "say" AS (Ab 6) (Aa (mC (.str "show")) (Ac))) (Ab 4))) (Cg (An (Ad AZ (AL "Desk" "say" AS (Ab 6) (Aa (mC (.str "undo")) (Ac))) (mC (.str "ok")))) (An (Ad AZ (AL "Desk" "say" AS (Ab 6) (Aa (mC (.str "show")) (Ac))) (mC (.str ".")))))) (Al (mC (.bl false))) (AD)
@[irreducible] noncomputable def Ly:MS:=Aw (An (Ad AZ (DA [6] CS (AL "Desk" "say" AS (Ab 0) (Aa (mC (.str "undo")) (Ac)))) (mC (.str "! row")))) (Al (mC (.bl false))) (AD)
noncomputable def Lz:MS:=Ag Oz (Ag OA (Ag OB (Ag OC (Ag OD (Ag Lo (Ag Jr (Ag Lr (Ag Lu (Ag Lw (Ag Lx (Ly)))))))))))
theorem p_kind_text {h:HD}:Pu (CS [.exc "NoText" []] h) h (.str "! text"):=Uc (w:="text") (j:=7) (by decide +kernel) (by decide +kernel) (by decide +kernel) (by decide +kernel) rfl (by decide +kernel) (by decide +kernel)
theorem p_kind_row {h:HD}:Pu (CS [.exc "NoRow" []] h) h (.str "! row"):=Uc (w:="row") (j:=8) (by decide +kernel) (by decide +kernel) (by decide +kernel) (by decide +kernel) rfl (by decide +kernel) (by decide +kernel)
theorem UV {cs:List Nat} {f:ME} {ρ:Af} {h:HD} {ds:List D} {Q:D→HD→Prop} (ht:TabAt h) (hd:AN (cs.map fun j=>(ρ[j]?).join)=some ds) (he:Er (f (ds.map some) h) h "NoText")
 (q:∀h',Sm h h'→Q (.str "! text") h'):Wp (DA cs CS f ρ h) Q:=
 Q3 ht hd (he.we fun h' s=>⟨by decide +kernel,[],rfl,p_kind_text.wp fun h2 s2=>q h2 (s.trans s2)⟩)
theorem LA {cs:List Nat} {f:ME} {ρ:Af} {h:HD} {ds:List D} {Q:D→HD→Prop} (ht:TabAt h) (hd:AN (cs.map fun j=>(ρ[j]?).join)=some ds) (he:Er (f (ds.map some) h) h "NoRow")
 (q:∀h',Sm h h'→Q (.str "! row") h'):Wp (DA cs CS f ρ h) Q:=
 Q3 ht hd (he.we fun h' s=>⟨by decide +kernel,[],rfl,p_kind_row.wp fun h2 s2=>q h2 (s.trans s2)⟩)
theorem LC {it:MI} {sg:MG} {body:MS} {Q:Fl×Af→HD→Prop} {ρ:Af} {h:HD} (I:List D→Af→HD→Prop) (hi:Wp (it ρ h) fun x h'=>∃l ds,x=(ds,[(l,ds)])∧h'[l]?=some (.lst ds)∧I ds ρ h')
 (step:∀d ds ρ h,I (d::ds) ρ h→∃ρ1,sg d ρ=some ρ1∧Wp (body ρ1 h) (fun y h'=>Sm h h'∧Es (I ds) Q y h')) (done:∀ρ h,I [] ρ h→Q (.nx,ρ) h):Wp (Bz it sg body ρ h) Q:=by
 unfold Bz
 rw [Ao]
 refine Wp.mono hi fun x h1 z=>?_
 obtain ⟨l,ds,rfl,el,i⟩:=z
 have:=IA (src:=[(l,ds)]) (items:=ds) (sg:=sg) (body:=body) (Q:=Q) (fun d:D=>d) (fun xs ρ h=>h[l]?=some (.lst ds)∧I xs ρ h) (fun xs ρ h z=>G7 z.1) (fun d xs ρ h z=>by
  obtain ⟨ρ1,e,w⟩:=step d xs ρ h z.2
  refine ⟨ρ1,e,Wp.mono w fun y h' zz=>?_⟩
  obtain ⟨s,kk⟩:=zz
  obtain ⟨fl,ρ2⟩:=y
  cases fl with
  |nx=>exact ⟨s _ _ z.1,kk⟩
  |ct=>exact ⟨s _ _ z.1,kk⟩
  |bk=>exact kk
  |rt d=>exact kk) (fun ρ h z=>done ρ h z.2) ds ρ h1 ⟨el,i⟩
 rwa [List.map_id''] at this
 exact fun _=>rfl
theorem Zd3 {b:Nat} {it:MI} {sg:MG} {body:MS} {Q:Fl×Af→HD→Prop} {ρ:Af} {h:HD} (I:List D→Af→HD→Prop) (hi:Wp (it ρ h) fun x h'=>∃l ds,x=(ds,[(l,ds)])∧h'[l]?=some (.lst ds)∧l≠b∧I ds ρ h')
 (step:∀d ds ρ h,I (d::ds) ρ h→∃ρ1,sg d ρ=some ρ1∧Wp (body ρ1 h) (fun y h'=>Smx b h h'∧Es (I ds) Q y h')) (done:∀ρ h,I [] ρ h→Q (.nx,ρ) h):Wp (Bz it sg body ρ h) Q:=by
 unfold Bz
 rw [Ao]
 refine Wp.mono hi fun x h1 z=>?_
 obtain ⟨l,ds,rfl,el,nb,i⟩:=z
 have:=IA (src:=[(l,ds)]) (items:=ds) (sg:=sg) (body:=body) (Q:=Q) (fun d:D=>d) (fun xs ρ h=>h[l]?=some (.lst ds)∧I xs ρ h) (fun xs ρ h z=>G7 z.1) (fun d xs ρ h z=>by
  obtain ⟨ρ1,e,w⟩:=step d xs ρ h z.2
  refine ⟨ρ1,e,Wp.mono w fun y h' zz=>?_⟩
  obtain ⟨s,kk⟩:=zz
  obtain ⟨fl,ρ2⟩:=y
  cases fl with
  |nx=>exact ⟨s _ _ nb z.1,kk⟩
  |ct=>exact ⟨s _ _ nb z.1,kk⟩
  |bk=>exact kk
  |rt d=>exact kk) (fun ρ h z=>done ρ h z.2) ds ρ h1 ⟨el,i⟩
 rwa [List.map_id''] at this
 exact fun _=>rfl
theorem Zd4 {A B:List Nat} (a:Low A) (b:Low B):Low (A++B):=fun c hc=>(qaP.mp hc).elim (a c) (b c)
theorem Zd5 {W:Nat} {r:Nat→Bool}:Low (Cs W r):=fun c hc=>by
 unfold Cs at hc
 obtain ⟨i,hi,rfl⟩:=qaR.mp hc
 unfold GL
 split<;>omega
section
variable {H W:Nat} {f:Nat→Nat→Bool} {h:HD}
theorem Zd6:Low (AJ H W f):=by
 unfold AJ
 cases hr:((List.range H).map fun i=>Cs W (f i)) with
 |nil=>exact fun c hc=>nomatch hc
 |cons x r=>
  have hx:∀y∈x::r,Low y:=fun y hy=>by
   rw [←hr] at hy
   obtain ⟨i,_,rfl⟩:=qaR.mp hy
   exact Zd5
  refine Zd4 (hx x (.head _)) fun c hc=>?_
  obtain ⟨y,hy,hc⟩:=List.mem_flatMap.mp hc
  rcases qaP.mp hc with hc |hc
  ·rw [qaL.mp hc];omega
  ·exact hx y (.tail _ hy) c hc
theorem LD (hh:H≤8) (hw:W≤8):(AJ H W f).length≤72:=by
 have:=NF [47] 8 ((List.range H).map fun i=>Cs W (f i)) fun x hx=>by
  obtain ⟨i,_,rfl⟩:=qaR.mp hx
  rw [Jn];exact hw
 rw [Bt,List.length_range] at this
 unfold AJ
 have h2:H*(8 + [47].length)≤8*9:=Nat.mul_le_mul hh (by decide)
 omega
theorem Zd7 (hh:1≤H∧H≤8) (hw:1≤W∧W≤8):Pu (K6 [bD H W f] h) h (.str (tx (AJ H W f))):=by
 change Wp (Ay 1 NX [bD H W f] h) _
 refine Eq.mpr Bb ?_
 simp only [NX]
 rw [Ep]
 refine Pu.wp (a:=.str (tx (AJ H W f))) ?_ fun h2 s2=>⟨rfl,s2⟩
 refine NH (sep:=[47]) (xs:=List.range H) (φ:=fun i=>BD W (f i)) (src:=[]) (fun i=>Cs W (f i)) (fun i=>[some (BD W (f i))]) 8 Hi (fun x _=>rfl) (fun x _ h' _=>?_) (sz hh.2) (fun x _=>by rw [Jn];exact hw.2) (AQ (by simp;omega))
 exact p_row_text.resolve_right (by omega)
theorem UW (c:Nat):∀(a b:List Nat),Ai c (a++c::b)=Ai c a++Ai c b
 |[],b=>by
  show (if c=c then []::Ai c b else _)=_
  rw [if_pos rfl];rfl
 |x::a,b=>by
  rw [DK,Ai,Ai,UW c a b]
  by_cases h:x=c
  ·rw [if_pos h,if_pos h];rfl
  ·rw [if_neg h,if_neg h]
   have hne:=DW c a
   generalize Ai c a=m at hne
   match m,hne with
   |q::ps,_=>rfl
theorem UX {Z:List Nat} (hh:1≤H∧H≤8) (hz:∃r∈Ai 47 Z,r.length≠W):BW (AJ H W f++47::Z)=false:=by
 obtain ⟨r,hr,nr⟩:=hz
 unfold BW
 rw [decide_eq_false_iff_not]
 rintro ⟨_,_,_,h4⟩
 rw [UW,Uo hh.1] at h4
 have:=h4 r (B5 _ hr)
 have e0:(((List.range H).map fun i=>Cs W (f i))++Ai 47 Z).getD 0 []=Cs W (f 0):=by
  obtain ⟨n,rfl⟩:∃n,H=n+1:=⟨H - 1,by omega⟩
  rw [List.range_succ_eq_map]
  rfl
 rw [e0,Jn] at this
 exact nr this
theorem Zd8 {Z:List Nat}:BW (47::Z)=false:=by
 unfold BW
 rw [decide_eq_false_iff_not]
 rintro ⟨_,_,h3,_⟩
 have e:Ai 47 (47::Z)=[]::Ai 47 Z:=by rw [Ai,if_pos rfl]
 rw [e] at h3
 simp at h3
theorem Zd9 {L:List Nat} {c:Nat} (hc:c∈L) (h:¬(c=46∨c=35∨c=47)):BW L=false:=by
 unfold BW
 rw [decide_eq_false_iff_not]
 rintro ⟨h1,_⟩
 exact h (h1 c hc)
end
structure LSt (h:HD) (c d k e H W:Nat) (f:Nat→Nat→Bool):Prop where
 t:TabAt h
 A:DeskAt h d k e [b0] (bD H W f)
 x:BoxAt h c
 n:0<c∧c≠d∧c≠k∧c≠e
section
variable {ns:List Int} {kk b c d k e H W:Nat} {f:Nat→Nat→Bool} {h h':HD} {c7 c8 c9 c10 c11 c12 c13:Option D} {Q:Fl×Af→HD→Prop} {x:D} {L:List Nat} {n:Str}
theorem LSt.sm (S:LSt h c d k e H W f) (s:Sm h h'):LSt h' c d k e H W f:=⟨S.t.sm s,S.A.sm s,S.x.sm s,S.n⟩
theorem LSt.smx (S:LSt h c d k e H W f) (s:Smx c h h') (x:BoxAt h' c):LSt h' c d k e H W f:=
 ⟨S.t.smx s S.n.1,⟨s _ _ (Ne.symm S.n.2.1) S.A.a1,s _ _ (Ne.symm S.n.2.2.1) S.A.a2,s _ _ (Ne.symm S.n.2.2.2) S.A.a3⟩,x,S.n⟩
def AM (ns:List Int) (kk b H W:Nat) (f:Nat→Nat→Bool) (c d:Nat) (c7 c8 c9 c10 c11 c12 c13:Option D):Af:=[some (.scr ns),some (.int (kk:Nat)),some (.loc b),some (bD H W f),some (.str (tx (AJ H W f))),some (.loc c),some (.loc d),c7,c8,c9,c10,c11,c12,c13]
theorem LG (A:DeskAt h d k e [b0] (bD H W f)) (he:Er (AS [.loc d,x] h) h n):Er (AL "Desk" "say" AS (Ab 1) (Aa (Ab 0) (Ac)) (([x,.loc d]:List D).map some) h) h n:=by
 show We (AL "Desk" "say" AS (Ab 1) (Aa (Ab 0) (Ac)) [some x,some (.loc d)] h) _ _
 simp only [Ed,CZ,Co,GM (m:="say") A.a1,BB,CO,CF]
 exact he
theorem Zea (L:List Nat):CJ L=""∨CJ L="! text"∨CJ L="! row":=by
 unfold CJ
 split
 ·split
  ·exact .inl rfl
  ·exact .inr (.inl rfl)
 ·split
  ·exact .inl rfl
  ·exact .inr (.inr rfl)
theorem Zeb (S:LSt h c d k e H W f) (hl:L.length≤100) (hL:Low L) (q:∀c9 c10 h',LSt h' c d k e H W f→Smx c h h'→Q (.nx,AM ns kk b H W f c d (some (.str (tx L))) c8 c9 c10 c11 c12 c13) h'):Wp (Lp (AM ns kk b H W f c d (some (.str (tx L))) c8 c9 c10 c11 c12 c13) h) Q:=by
 unfold Lp AM
 rw [AG]
 simp only [Cj,Cb,Bq,CN,BU,Bp]
 refine ZdM S.x hl hL fun y h1 ty x1 s1=>?_
 obtain ⟨M,rfl,hM,hML⟩:=ty
 have S1:=S.smx s1 x1
 refine Eq.mpr Aq ?_
 rw [AG]
 simp only [Cj,Cb,Bq,List.set_cons_succ,List.set_cons_zero,CN,BU,Bp]
 refine (Zds hM hML).wp fun h2 s2=>?_
 have S2:=S1.sm s2
 refine Eq.mpr Aq ?_
 have AF:∀h',Sm h2 h'→Q (.nx,AM ns kk b H W f c d (some (.str (tx L))) c8 (some (.str (tx M))) (some (.str (CJ M))) c11 c12 c13) h':=fun h' s=>q _ _ h' (S2.sm s) ((s1.trans (Dl s2)).trans (Dl s))
 show Wp (Aw _ _ _ (AM ns kk b H W f c d (some (.str (tx L))) c8 (some (.str (tx M))) (some (.str (CJ M))) c11 c12 c13) h2) _
 have er:=Zdh S2.A hM
 have hdue:=Zea M
 generalize CJ M=due at er AF hdue
 simp only [D9,YV,Cn,Bo,B8]
 unfold AM at AF ⊢
 simp only [CN,BU]
 rcases hdue with rfl |rfl |rfl
 ·exact AF h2 (.refl _)
 ·refine (show Wp (An _ _ h2) _ from ?_)
  simp only [Cn,Bo]
  refine UV S2.t (ds:=[.str (tx M),.loc d]) rfl (LG S2.A (er.2 rfl)) fun h3 s3=>?_
  exact AF h3 s3
 ·refine (show Wp (An _ _ h2) _ from ?_)
  simp only [Cn,Bo]
  refine LA S2.t (ds:=[.str (tx M),.loc d]) rfl (LG S2.A (er.1 rfl)) fun h3 s3=>?_
  exact AF h3 s3
theorem Zec (S:LSt h c d k e H W f) (hl:L.length≤100) (hL:Low L) (q:∀c8 c9 c10 h',LSt h' c d k e H W f→Smx c h h'→Q (.nx,AM ns kk b H W f c d (some (.str (tx L))) c8 c9 c10 c11 c12 c13) h'):Wp (Lq (AM ns kk b H W f c d (some (.str (tx L))) c8 c9 c10 c11 c12 c13) h) Q:=by
 unfold Lq
 refine Hh (src:=[]) (xs:=List.range 3) (fun i=>.int ((i:Nat):Int)) (fun _ ρ h'=>∃c8 c9 c10,ρ=AM ns kk b H W f c d (some (.str (tx L))) c8 c9 c10 c11 c12 c13∧LSt h' c d k e H W f∧Smx c h h') ?_ (fun ys ρ h' _=>F8) ?_ ?_
 ·simp
  rw [show (3:Int)=((3:Nat):Int) from rfl,Iz (by decide)]
  exact ⟨rfl,⟨_,_,_,rfl⟩,S,Smx.refl _ _⟩
 ·rintro x xs ρ h1 ⟨c8,c9,c10,rfl,S1,s1⟩
  refine ⟨AM ns kk b H W f c d (some (.str (tx L))) (some (.int ((x:Nat):Int))) c9 c10 c11 c12 c13,rfl,?_⟩
  exact Zeb S1 hl hL fun c9 c10 h2 S2 s2=>⟨_,_,_,rfl,S2,s1.trans s2⟩
 ·rintro ρ h1 ⟨c8,c9,c10,rfl,S1,s1⟩
  exact q _ _ _ h1 S1 s1
theorem Zed (S:LSt h c d k e H W f) (hh:1≤H∧H≤8) (hw:1≤W∧W≤8) (q:∀c7 c8 c9 c10 h',LSt h' c d k e H W f→Q (.nx,AM ns kk b H W f c d c7 c8 c9 c10 c11 c12 c13) h'):Wp (Jr (AM ns kk b H W f c d c7 c8 c9 c10 c11 c12 c13) h) Q:=by
 unfold Jr
 refine Zd3 (b:=c) (fun xs ρ h'=>∃c7 c8 c9 c10,ρ=AM ns kk b H W f c d c7 c8 c9 c10 c11 c12 c13∧LSt h' c d k e H W f∧∀d∈xs,TxN 90 d) ?_ ?_ ?_
 ·rw [Gb]
  unfold AM
  simp only [Cb,Bq,CN,BU,Bp]
  refine ZdN S.x (LD hh.2 hw.2) Zd6 fun l ds h1 e1 n1 t1 l1 x1 s1=>?_
  refine B1 (IG e1) ?_
  exact ⟨l,ds,rfl,e1,by have:=S.x.lt;omega,_,_,_,_,rfl,S.smx s1 x1,t1⟩
 ·rintro x xs ρ h1 ⟨c7,c8,c9,c10,rfl,S1,hx⟩
  obtain ⟨L,rfl,hl,hL⟩:=hx x (.head _)
  refine ⟨AM ns kk b H W f c d (some (.str (tx L))) c8 c9 c10 c11 c12 c13,rfl,?_⟩
  exact Zec S1 (by omega) hL fun c8 c9 c10 h2 S2 s2=>⟨s2,_,_,_,_,rfl,S2,fun y hy=>hx y (.tail _ hy)⟩
 ·rintro ρ h1 ⟨c7,c8,c9,c10,rfl,S1,hx⟩
  exact q _ _ _ _ h1 S1
def NT (h:HD) (d:D):Prop:=∀h',Sm h h'→AC d (.ty "str") h'=.ok (.bl false) h'
theorem NT.sm {d:D} (n:NT h d) (s:Sm h h'):NT h' d:=fun h2 s2=>n h2 (s.trans s2)
theorem Zee (S:LSt h c d k e H W f) (q:∀c11 h',LSt h' c d k e H W f→Q (.nx,AM ns kk b H W f c d c7 c8 c9 c10 c11 c12 c13) h'):Wp (Lr (AM ns kk b H W f c d c7 c8 c9 c10 c11 c12 c13) h) Q:=by
 unfold Lr
 refine LC (fun xs ρ h'=>∃c11,ρ=AM ns kk b H W f c d c7 c8 c9 c10 c11 c12 c13∧LSt h' c d k e H W f∧∀d∈xs,NT h' d) ?_ ?_ ?_
 ·simp [AM]
  refine AX (by simp) fun l1 h1 s1 e1 _ _=>?_
  try simp
  refine AX (by simp) fun l h3 s3 e3 _ _=>?_
  refine B1 (IG e3) ?_
  refine ⟨l,_,rfl,e3,S.sm (s1.trans s3),?_⟩
  refine all_cons (fun _ _=>rfl) <| all_cons (fun _ _=>rfl) <| all_cons (fun _ _=>rfl) <| all_cons (fun _ _=>rfl) <| all_cons (fun h2 s2=>?_) <| all_cons (fun _ _=>rfl) <| all_cons (fun _ _=>rfl) all_nil
  have e2:=s2 _ _ (s3 _ _ e1)
  rw [Q5]
  simp [BA,DQ,e2]
  rfl
 ·rintro x xs ρ h1 ⟨c11,rfl,S1,hx⟩
  refine ⟨AM ns kk b H W f c d c7 c8 c9 c10 (some x) c12 c13,rfl,?_⟩
  unfold OE
  simp only [D9,Cn,Bo]
  refine LA S1.t (ds:=[x,.loc d]) rfl (LG S1.A (Zd2 (hx x (.head _) h1 (.refl _)))) fun h2 s2=>?_
  exact ⟨s2,_,rfl,S1.sm s2,fun y hy=>(hx y (.tail _ hy)).sm s2⟩
 ·rintro ρ h1 ⟨c11,rfl,S1,hx⟩
  exact q _ h1 S1
def OH (x:D):Prop:=∃R,x=.str (tx R)∧R.length≤100∧BW R=false
theorem Zef {w:Str} (A:DeskAt h d k e [b0] (bD H W f)) (hx:OH x) (hw:w="board "∨w="alike "):Er (AL "Desk" "say" AS (Ab 0) (Aa (Ad Ah (Ab 1) (Ab 2)) (Ac)) (([.loc d,.str w,x]:List D).map some) h) h "NoText":=by
 obtain ⟨R,rfl,hl,hb⟩:=hx
 obtain ⟨p,hp,ep⟩:∃p,(p=Ct∨p=EU)∧w=tx (p++[32]):=by
  rcases hw with rfl |rfl
  ·exact ⟨Ct,.inl rfl,rfl⟩
  ·exact ⟨EU,.inr rfl,rfl⟩
 have pl:p.length=5:=by rcases hp with rfl |rfl<;>rfl
 show We (AL "Desk" "say" AS (Ab 0) (Aa (Ad Ah (Ab 1) (Ab 2)) (Ac)) [some (.loc d),some (.str w),some (.str (tx R))] h) _ _
 have ea:Ah (.str w) (.str (tx R)) h=.ok (.str (tx (p++32::R))) h:=by
  rw [ep,EJ (AQ (by simp;omega))]
  simp
 simp only [Ed,CZ,Co,GM (m:="say") A.a1,BB,CO,EG,ea,CF]
 exact UC A hp (by simp;omega) hb
theorem Zeg (S:LSt h c d k e H W f) (hx:OH x) (q:∀c13 h',LSt h' c d k e H W f→Sm h h'→Q (.nx,AM ns kk b H W f c d c7 c8 c9 c10 c11 (some x) c13) h'):Wp (Ls (AM ns kk b H W f c d c7 c8 c9 c10 c11 (some x) c13) h) Q:=by
 unfold Ls
 refine LC (fun xs ρ h'=>∃c13,ρ=AM ns kk b H W f c d c7 c8 c9 c10 c11 (some x) c13∧LSt h' c d k e H W f∧Sm h h'∧∀y∈xs,y=.str "board "∨y=.str "alike ") ?_ ?_ ?_
 ·simp [AM]
  refine AX (by simp) fun l h3 s3 e3 _ _=>?_
  refine B1 (IG e3) ?_
  exact ⟨l,_,rfl,e3,S.sm s3,s3,all_cons (.inl rfl) <| all_cons (.inr rfl) all_nil⟩
 ·rintro y ys ρ h1 ⟨c13,rfl,S1,s1,hy⟩
  refine ⟨AM ns kk b H W f c d c7 c8 c9 c10 c11 (some x) (some y),rfl,?_⟩
  obtain ⟨w,rfl,hw⟩:∃w:Str,y=.str w∧(w="board "∨w="alike "):=by
   rcases hy y (.head _) with rfl |rfl
   ·exact ⟨_,rfl,.inl rfl⟩
   ·exact ⟨_,rfl,.inr rfl⟩
  unfold OF
  simp only [D9,Cn,Bo]
  refine UV S1.t (ds:=[.loc d,.str w,x]) rfl (Zef S1.A hx hw) fun h2 s2=>?_
  exact ⟨s2,_,rfl,S1.sm s2,s1.trans s2,fun z hz=>hy z (.tail _ hz)⟩
 ·rintro ρ h1 ⟨c13,rfl,S1,s1,hy⟩
  exact q _ h1 S1 s1
theorem UY {z:Nat} {h:HD}:EL (.str (tx [z])) (.int 9) h=.ok (.str (tx (List.replicate 9 z))) h:=by
 have ok:MulOk (tx [z]) 9:=by
  refine ⟨by decide,fun _ _=>?_,fun _ _=>?_⟩
  ·show ¬((1:Int)>(2^63 - 1) / 9)
   decide
  ·show Builtin.Str.tooLong (1*9)=false
   decide
 have e:EL (.str (tx [z])) (.int 9) h=.ok (.str (Txt.mul (tx [z]) 9)) h:=if_pos ok
 rw [e]
 rfl
theorem Zeh (S:LSt h c d k e H W f) (hh:1≤H∧H≤8) (hw:1≤W∧W≤8) (q:∀c12 c13 h',LSt h' c d k e H W f→Q (.nx,AM ns kk b H W f c d c7 c8 c9 c10 c11 c12 c13) h'):Wp (Lu (AM ns kk b H W f c d c7 c8 c9 c10 c11 c12 c13) h) Q:=by
 have lb:=LD (H:=H) (W:=W) (f:=f) hh.2 hw.2
 unfold Lu
 refine LC (fun xs ρ h'=>∃c12 c13,ρ=AM ns kk b H W f c d c7 c8 c9 c10 c11 c12 c13∧LSt h' c d k e H W f∧∀d∈xs,OH d) ?_ ?_ ?_
 ·have a1:Ah (.str (tx (AJ H W f))) (.str "/") h=.ok (.str (tx (AJ H W f++[47]))) h:=EJ (a:=AJ H W f) (b:=[47]) (AQ (by simp;omega))
  have a2:Ah (.str "/") (.str (tx (AJ H W f))) h=.ok (.str (tx (47::AJ H W f))) h:=EJ (a:=[47]) (b:=AJ H W f) (AQ (by simp;omega))
  have a3:Ah (.str (tx (AJ H W f))) (.str " ") h=.ok (.str (tx (AJ H W f++[32]))) h:=EJ (a:=AJ H W f) (b:=[32]) (AQ (by simp;omega))
  have m1:EL (.str ".") (.int 9) h=.ok (.str (tx (List.replicate 9 46))) h:=UY
  have m2:EL (.str "#") (.int 9) h=.ok (.str (tx (List.replicate 9 35))) h:=UY
  have a4:Ah (.str (tx (AJ H W f++[47]))) (.str (tx (List.replicate 9 46))) h=.ok (.str (tx ((AJ H W f++[47])++List.replicate 9 46))) h:=EJ (a:=AJ H W f++[47]) (b:=List.replicate 9 46) (AQ (by simp;omega))
  rw [Gb,FC]
  unfold AM
  simp only [Bq,Bo,CN,BU,B8,a1,a2,a3,a4,m1,m2,AR,Bp]
  refine AX (by simp) fun l h3 s3 e3 _ _=>?_
  refine B1 (IG e3) ?_
  refine ⟨l,_,rfl,e3,_,_,rfl,S.sm s3,?_⟩
  refine all_cons ⟨[],rfl,by simp,by decide⟩ <| all_cons ⟨_,rfl,by simp;omega,UX hh ⟨[],by simp [Ai],by simp;omega⟩⟩ <| all_cons ⟨_,rfl,by simp;omega,Zd8⟩ <| all_cons ⟨_,rfl,by simp;omega,Zd9 (c:=32) (by simp) (by omega)⟩ <| all_cons ⟨[110,111,110,101],rfl,by simp,by decide⟩ <| all_cons ⟨[120],rfl,by simp,by decide⟩ <| all_cons ⟨_,rfl,by simp;omega,?_⟩ <| all_cons ⟨List.replicate 9 35,rfl,by simp,by decide⟩ all_nil
  rw [List.append_assoc]
  exact UX hh ⟨List.replicate 9 46,by decide,by simp;omega⟩
 ·rintro x xs ρ h1 ⟨c12,c13,rfl,S1,hx⟩
  refine ⟨AM ns kk b H W f c d c7 c8 c9 c10 c11 (some x) c13,rfl,?_⟩
  exact Zeg S1 (hx x (.head _)) fun c13 h2 S2 s2=>⟨s2,_,_,rfl,S2,fun y hy=>hx y (.tail _ hy)⟩
 ·rintro ρ h1 ⟨c12,c13,rfl,S1,hx⟩
  exact q _ _ h1 S1
def HQ (x:D):Prop:=∃L,x=.str (tx L)∧∀(h:HD) d k e ds b,DeskAt h d k e ds b→Er (AS [.loc d,.str (tx L)] h) h "NoRow"
theorem OI {L:List Nat} (hl:L.length≤900) (hc:∀x∈L,x≠32) (hn:∀s∈Dg,¬tx L=s):HQ (.str (tx L)):=⟨L,rfl,fun h d k e ds b A=>UB A hl hc hn⟩
theorem UZ {w R:List Nat} (hl:(w++32::R).length≤900) (hc:∀x∈w,x≠32) (hn:∀s∈(([("alike":Str),"board"]++Dg)++Ff),¬tx w=s):HQ (.str (tx (w++32::R))):=⟨_,rfl,fun h d k e ds b A=>by
 refine UD A hc hl (hn _ (by simp)) (hn _ (by simp)) ?_
 have:¬tx w∈Dg++Ff:=fun z=>hn _ (qaP.mpr ((qaP.mp z).imp (fun z=>B5 _ z) id)) rfl
 simp [Dh,this]⟩
theorem Zei (S:LSt h c d k e H W f) (hh:1≤H∧H≤8) (hw:1≤W∧W≤8) (q:∀c13 h',LSt h' c d k e H W f→Q (.nx,AM ns kk b H W f c d c7 c8 c9 c10 c11 c12 c13) h'):Wp (Lw (AM ns kk b H W f c d c7 c8 c9 c10 c11 c12 c13) h) Q:=by
 have lb:=LD (H:=H) (W:=W) (f:=f) hh.2 hw.2
 unfold Lw
 refine LC (fun xs ρ h'=>∃c13,ρ=AM ns kk b H W f c d c7 c8 c9 c10 c11 c12 c13∧LSt h' c d k e H W f∧∀d∈xs,HQ d) ?_ ?_ ?_
 ·have a1:Ah (.str "Board ") (.str (tx (AJ H W f))) h=.ok (.str (tx ([66,111,97,114,100]++32::AJ H W f))) h:=EJ (a:=[66,111,97,114,100,32]) (b:=AJ H W f) (AQ (by simp;omega))
  have a2:Ah (.str " board ") (.str (tx (AJ H W f))) h=.ok (.str (tx ([]++32::([98,111,97,114,100,32]++AJ H W f)))) h:=EJ (a:=[32,98,111,97,114,100,32]) (b:=AJ H W f) (AQ (by simp;omega))
  rw [Gb,FC]
  unfold AM
  simp only [Bq,Bo,CN,BU,B8,a1,a2,AR,Bp]
  refine AX (by simp) fun l h3 s3 e3 _ _=>?_
  refine B1 (IG e3) ?_
  refine ⟨l,_,rfl,e3,_,rfl,S.sm s3,?_⟩
  have n1:HQ (.str "board"):=OI (L:=Ct) (by decide) (by decide) (by decide +kernel)
  have n2:HQ (.str "alike"):=OI (L:=EU) (by decide) (by decide) (by decide +kernel)
  have n3:HQ (.str "boards"):=OI (L:=[98,111,97,114,100,115]) (by decide) (by decide) (by decide +kernel)
  exact all_cons n1 <| all_cons n2 <| all_cons (UZ (by simp;omega) (by decide) (by decide +kernel)) <| all_cons (UZ (by simp;omega) (by decide) (by decide +kernel)) <| all_cons n1 <| all_cons n3 <| all_cons n2 all_nil
 ·rintro x xs ρ h1 ⟨c13,rfl,S1,hx⟩
  refine ⟨AM ns kk b H W f c d c7 c8 c9 c10 c11 c12 (some x),rfl,?_⟩
  obtain ⟨L,rfl,he⟩:=hx x (.head _)
  unfold OG
  simp only [D9,Cn,Bo]
  refine LA S1.t (ds:=[.str (tx L),.loc d]) rfl (LG S1.A (he _ _ _ _ _ _ S1.A)) fun h2 s2=>?_
  exact ⟨s2,_,rfl,S1.sm s2,fun y hy=>hx y (.tail _ hy)⟩
 ·rintro ρ h1 ⟨c13,rfl,S1,hx⟩
  exact q _ h1 S1
theorem LH {fa:MA} {v:D} {F:D→HD→Prop} {ds:List D} {b':D} (A:DeskAt h d k e ds b') (ea:fa (AM ns kk b H W f c d c7 c8 c9 c10 c11 c12 c13) h=.ok [v] h) (w:Wp (AS [.loc d,v] h) F):Wp (AL "Desk" "say" AS (Ab 6) fa (AM ns kk b H W f c d c7 c8 c9 c10 c11 c12 c13) h) F:=by
 rw [ZbT]
 show Wp (EK "Desk" "say" (.loc d) h) _
 rw [GM (m:="say") A.a1,AR,ea,AR]
 exact w
theorem Zej (S:LSt h c d k e H W f) (hh:1≤H∧H≤8) (hw:1≤W∧W≤8) (hd:0<k∧0<e) (q:∀h',TabAt h'→DeskAt h' d k e [] b0→Q (.nx,AM ns kk b H W f c d c7 c8 c9 c10 c11 c12 c13) h'):Wp (Lx (AM ns kk b H W f c d c7 c8 c9 c10 c11 c12 c13) h) Q:=by
 unfold Lx
 simp only [D9,Kf,Cn,Bo]
 have ea:∀h,D1 (.bl (!true)) h=.ok false h:=fun _=>rfl
 refine LH S.A rfl ((UT hh hw S.A).wp fun h1 s1=>?_)
 have S1:=S.sm s1
 refine Eq.mpr (Hf (d:=.str (tx (AJ H W f))) rfl) ?_
 rw [Nf,beq_self_eq_true,AR,ea,AR]
 simp only [Bl,if_false,Kf,Cn,Bo]
 refine LH S1.A rfl (Zd0 (ds:=[]) S1.A fun h2 A2 s2=>?_)
 have t2:TabAt h2:=s2 _ _ (by omega) (by omega) S1.t
 rw [B8,Nf,beq_self_eq_true,AR,ea,AR]
 simp only [Bl,if_false,Cn,Bo]
 refine LH A2 rfl ((UT (by omega) (by omega) A2).wp fun h3 s3=>?_)
 have ed:AZ (.str (tx (AJ 1 1 fun _ _=>false))) (.str ".") h3=.ok (.bl (!true)) h3:=rfl
 rw [B8,ed,AR,ea,AR]
 exact q h3 (t2.sm s3) (A2.sm s3)
theorem Zek (t:TabAt h) (A:DeskAt h d k e [] b0) (q:∀h',TabAt h'→Q (.nx,AM ns kk b H W f c d c7 c8 c9 c10 c11 c12 c13) h'):Wp (Ly (AM ns kk b H W f c d c7 c8 c9 c10 c11 c12 c13) h) Q:=by
 unfold Ly
 simp only [D9,Cn,Bo]
 have er:Er (AL "Desk" "say" AS (Ab 0) (Aa (mC (.str "undo")) (Ac)) (([.loc d]:List D).map some) h) h "NoRow":=by
  show We (AL "Desk" "say" AS (Ab 0) (Aa (mC (.str "undo")) (Ac)) [some (.loc d)] h) _ _
  simp only [Ed,Co,GM (m:="say") A.a1,BB,CO,EF,CF]
  exact Zd1 A
 refine LA t (ds:=[.loc d]) rfl er fun h2 s2=>?_
 exact q h2 (t.sm s2)
theorem Zel {a2 a3 a4 a5 a6 a7 a8 a9 a10 a11 a12 a13:Option D} (hb:∀i∈ns,Builtin.Int.intBits i≤2^20) (hk:kk≤1000) (ht:TabAt h)
 (q:∀(b2 b3 b4 b5 b6 b7 b8 b9 b10 b11 b12 b13:Option D) h',TabAt h'→Q (.nx,[some (.scr ns),some (.int (kk:Nat)),b2,b3,b4,b5,b6,b7,b8,b9,b10,b11,b12,b13]) h'):
 Wp (Lz [some (.scr ns),some (.int (kk:Nat)),a2,a3,a4,a5,a6,a7,a8,a9,a10,a11,a12,a13] h) Q:=by
 unfold Lz
 refine Eq.mpr AG ?_
 simp only [Oz,Cj,Cb,Bq,CN,BU,Bp]
 refine Zce hb hk fun b h1 x1 lb s1=>?_
 have hb0:0<b:=by have:=ht.pos;omega
 have t1:=ht.sm s1
 refine Eq.mpr Aq ?_
 refine Eq.mpr AG ?_
 unfold OA
 try simp [-Aq]
 refine T6 x1 hb0 t1 (by decide) (by decide) fun d1 h2 l1 x2 t2 s2=>?_
 try simp [-Aq]
 refine T6 x2 hb0 t2 (by decide) (by decide) fun d2 h3 l2 x3 t3 s3=>?_
 try simp [-Aq]
 obtain ⟨H,eH,hh⟩:∃H:Nat,(1:Int)+(d1:Int)=(H:Int)∧1≤H∧H≤8:=⟨1+d1,by omega,by omega,by omega⟩
 obtain ⟨W,eW,hw⟩:∃W:Nat,(1:Int)+(d2:Int)=(W:Int)∧1≤W∧W≤8:=⟨1+d2,by omega,by omega,by omega⟩
 rw [eH,eW]
 refine Zcs x3 hh hw fun f h4 x4 s4=>?_
 have t4:=t3.smx s4 hb0
 refine Eq.mpr Aq ?_
 refine Eq.mpr AG ?_
 unfold OB
 try simp [-Aq]
 refine (Zd7 hh hw).wp fun h5 s5=>?_
 have x5:=x4.sm s5
 have t5:=t4.sm s5
 refine Eq.mpr Aq ?_
 refine Eq.mpr AG ?_
 unfold OC
 try simp [-Aq]
 refine T9 x5 fun c h6 x6 y6 ne lc s6=>?_
 have t6:=t5.smx s6 hb0
 have hc0:0<c:=by have:=t5.pos;omega
 refine Eq.mpr Aq ?_
 refine Eq.mpr AG ?_
 unfold OD
 rw [Cj]
 refine ZdX fun d k e h7 A7 ld lk le s7=>?_
 have lc6:=y6.lt
 have p6:=t6.pos
 refine Eq.mpr Aq ?_
 refine (show Wp (Ag Lo _ (AM ns kk b H W f c d _ _ _ _ _ _ _) h7) _ from ?_)
 refine Eq.mpr AG ?_
 unfold Lo
 simp only [D9,Cn,Bo]
 have ea:Ah (.str "board ") (.str (tx (AJ H W f))) h7=.ok (.str (tx (Ct++32::AJ H W f))) h7:=EJ (a:=[98,111,97,114,100,32]) (b:=AJ H W f) (AQ (by have:=LD (H:=H) (W:=W) (f:=f) hh.2 hw.2;simp;omega))
 refine LH A7 (v:=.str (tx (Ct++32::AJ H W f))) ?_ (ZdY hh hw A7 (by simp) fun h8 A8 s8=>?_)
 ·show (Ad Ah (mC (.str "board ")) (Ab 4) (AM ns kk b H W f c d _ _ _ _ _ _ _) h7).bind _=_
  rw [show Ad Ah (mC (.str "board ")) (Ab 4) (AM ns kk b H W f c d _ _ _ _ _ _ _) h7=Ah (.str "board ") (.str (tx (AJ H W f))) h7 from rfl,ea]
  rfl
 have t8:TabAt h8:=s8 _ _ (by omega) (by omega) (t6.sm s7)
 have x8:BoxAt h8 c:=by
  obtain ⟨N,eN⟩:=y6.sm s7
  exact ⟨N,s8 _ _ (by omega) (by omega) eN⟩
 have eb:D1 (.bl (!true)) h8=.ok false h8:=rfl
 rw [B8,Nf,beq_self_eq_true,AR,eb,AR]
 have S8:LSt h8 c d k e H W f:=⟨t8,A8,x8,hc0,by omega,by omega,by omega⟩
 refine (show Wp (Ag Jr _ (AM ns kk b H W f c d _ _ _ _ _ _ _) h8) _ from ?_)
 refine Eq.mpr AG ?_
 refine Zed S8 hh hw fun c7 c8 c9 c10 h9 S9=>?_
 refine Eq.mpr Aq ?_
 refine Eq.mpr AG ?_
 refine Zee S9 fun c11 h10 S10=>?_
 refine Eq.mpr Aq ?_
 refine Eq.mpr AG ?_
 refine Zeh S10 hh hw fun c12 c13 h11 S11=>?_
 refine Eq.mpr Aq ?_
 refine Eq.mpr AG ?_
 refine Zei S11 hh hw fun c13 h12 S12=>?_
 refine Eq.mpr Aq ?_
 refine Eq.mpr AG ?_
 refine Zej S12 hh hw ⟨by omega,by omega⟩ fun h13 t13 A13=>?_
 refine Eq.mpr Aq ?_
 refine Zek t13 A13 fun h14 t14=>?_
 exact q _ _ _ _ _ _ _ _ _ _ _ _ h14 t14
end
def IL (ns:List Int) (xs:List Nat) (ρ:Af) (h':HD):Prop:=∃d1 d2 d3 d4 d5 d6 d7 d8 d9 d10 d11 d12 d13,ρ=[some (.scr ns),d1,d2,d3,d4,d5,d6,d7,d8,d9,d10,d11,d12,d13]∧TabAt h'∧∀k∈xs,k≤1000
theorem Zem:N3=Ag (Bz (D8 (Aa (Ae (A6 E5) (Aa (mC (.int 1)) (Aa (Ae (A6 E6) (Aa (Ae (Ak Bm) (Aa (Ab 0) (Ac))) (Aa (mC (.int 4)) (Ac)))) (Ac)))) (Ac))) (AK 1) Lz) (Al (mC (.bl true))):=by
 unfold Lz Oz OA OB OC OD Lo Jr Lr Lu Lw Lx Ly Lq Lp OE Ls OF OG
 rfl
theorem law_true (ns:List Int) (hl:ns.length≤63) (hb:∀i∈ns,Builtin.Int.intBits i≤2^20):∃h',F_law [.scr ns] [.tab]=.ok (.bl true) h':=by
 have main:Wp (F_law [.scr ns] [.tab]) fun d _=>d=.bl true:=by
  change Wp (Ay 14 (N3) [.scr ns] [.tab]) _
  rw [Zem,Bb,AG]
  obtain ⟨n,en,hn⟩:∃n:Nat,(if (if (4:Int)<(ns.length:Int) then (4:Int) else (ns.length:Int))>1 then (if (4:Int)<(ns.length:Int) then (4:Int) else (ns.length:Int)) else 1)=(n:Int)∧n≤99:=by
   have h0:0≤(if (if (4:Int)<(ns.length:Int) then (4:Int) else (ns.length:Int))>1 then (if (4:Int)<(ns.length:Int) then (4:Int) else (ns.length:Int)) else 1)∧(if (if (4:Int)<(ns.length:Int) then (4:Int) else (ns.length:Int))>1 then (if (4:Int)<(ns.length:Int) then (4:Int) else (ns.length:Int)) else 1)≤99:=by
    constructor<;>(split<;>split<;>omega)
   generalize (if (if (4:Int)<(ns.length:Int) then (4:Int) else (ns.length:Int))>1 then (if (4:Int)<(ns.length:Int) then (4:Int) else (ns.length:Int)) else 1)=E at h0
   exact ⟨E.toNat,by omega,by omega⟩
  refine Hh (src:=[]) (xs:=List.range n) (fun i=>.int ((i:Nat):Int)) (IL ns) ?_ (fun ys ρ h' _=>F8) ?_ ?_
  ·simp
   rw [en,Iz (by omega)]
   exact ⟨rfl,_,_,_,_,_,_,_,_,_,_,_,_,_,rfl,rfl,fun k hk=>by have:=qcB.mp hk;omega⟩
  ·rintro x xs ρ h' ⟨d1,d2,d3,d4,d5,d6,d7,d8,d9,d10,d11,d12,d13,rfl,t,hx⟩
   refine ⟨_,rfl,?_⟩
   refine Zel hb (hx x Bf) t fun _ _ _ _ _ _ _ _ _ _ _ _ h2 t2=>?_
   simp [Es]
   exact ⟨_,_,_,_,_,_,_,_,_,_,_,_,_,rfl,t2,fun k hk=>hx k (Be _ hk)⟩
  ·rintro ρ h' ⟨d1,d2,d3,d4,d5,d6,d7,d8,d9,d10,d11,d12,d13,rfl,t,hx⟩
   simp
 obtain ⟨a,h',e,rfl⟩:=Wp.ex main
 exact ⟨h',e⟩
end LK
set_option maxHeartbeats 0
namespace LK
open PySem PySem.Spec PyProof.Rows L2 LS
theorem Zen:Na NR:=⟨⟨rfl,rfl,rfl,by decide +kernel,rfl,by decide +kernel,by decide +kernel⟩,rfl,rfl,rfl,rfl,rfl,⟨_,_,_,_,_,_,_,_,_,_,_,_,_,_,_,_,_,rfl⟩⟩
section
set_option hygiene false
local macro_rules |`(tactic|infer_instance)=>`(tactic|first |((with_reducible show PE _ (.Name _ _) _);first |exact Zbe |exact Xy rfl (by show mg _=_;with_reducible assumption) |exact Zbk rfl (by show mg _=_;with_reducible assumption) |exact ZbI rfl (by show LS.brdIn K _ _=true;with_reducible assumption) |exact YK rfl (B _ (by decide +kernel)) (by decide +kernel) |exact Zai et (by decide +kernel)) |((with_reducible show PE _ (.Constant _ _ _) _);first |exact Xv |exact Xw |exact Xx |exact Pv) |((with_reducible show PE _ (.Tuple _ _ _) _);((with_reducible refine XN ?_);ac_rfl)) |((with_reducible show PE _ (.List _ _) _);((with_reducible refine XO ?_);ac_rfl)) |((with_reducible show PE _ (.BinOp _ .Add _ _) _);(refine Iq XT ?_ ?_<;>ac_rfl)) |((with_reducible show PE _ (.BinOp _ .Mod _ _) _);(refine Iq XU ?_ ?_<;>ac_rfl)) |((with_reducible show PE _ (.BinOp _ .Mult _ _) _);first |(refine Iq Zad ?_ ?_<;>ac_rfl) |(refine Iq Zb4 ?_ ?_<;>ac_rfl)) |((with_reducible show PE _ (.BinOp _ .FloorDiv _ _) _);(refine Iq X8 ?_ ?_<;>ac_rfl)) |((with_reducible show PE _ (.Subscript _ (.Slice _ _ _ _) _) _);first |(refine Zb1 ?_ ?_ ?_<;>ac_rfl) |(refine Zby ?_ ?_ ?_<;>ac_rfl) |(refine Zb0 ?_;ac_rfl)) |((with_reducible show PE _ (.Subscript _ _ _) _);first |(refine X3 ?_ ?_ fun _ _=>rfl<;>ac_rfl) |(refine ZaU ?_ ?_ fun _ _=>rfl<;>ac_rfl)) |((with_reducible show PE _ (.Call (.Attribute _ "upper" _) _ _ _) _);(refine Zb3 ?_;ac_rfl)) |((with_reducible show PE _ (.Call (.Attribute (.Dict _ _ _) "get" _) _ _ _) _);(refine Zb7 ?_ ?_ ?_<;>ac_rfl)) |((with_reducible show PE _ (.Call (.Attribute _ "append" _) _ _ _) _);(refine YO ?_ ?_<;>ac_rfl)) |((with_reducible show PE _ (.Call (.Attribute _ "pop" _) _ _ _) _);(refine Zba ?_;ac_rfl)) |((with_reducible show PE _ (.Call (.Attribute _ "count" _) _ _ _) _);(refine Hk PySem.F.plainAttrs_list PySem.F.slot_list_count PySem.F.type_list_count M5 ZO ZM ?_ ?_<;>ac_rfl)) |((with_reducible show PE _ (.Call (.Attribute _ "index" _) _ _ _) _);(refine Hk PySem.F.plainAttrs_list PySem.F.slot_list_index PySem.F.type_list_index M5 ZN ZP ?_ ?_<;>ac_rfl)) |((with_reducible show PE _ (.Call (.Attribute _ "find" _) _ _ _) _);(refine Hk PySem.F.plainAttrs_str PySem.F.slot_str_find PySem.F.type_str_find KI Zbu Zbn ?_ ?_<;>ac_rfl)) |((with_reducible show PE _ (.Call (.Attribute _ "join" _) _ _ _) _);(refine Hk PySem.F.plainAttrs_str PySem.F.slot_str_join PySem.F.type_str_join KI ZaV ZaW ?_ ?_<;>ac_rfl)) |((with_reducible show PE _ (.Call (.Attribute _ "partition" _) _ _ _) _);(refine Hk PySem.F.plainAttrs_str PySem.F.slot_str_partition PySem.F.type_str_partition KI Zbs Zbt ?_ ?_<;>ac_rfl)) |((with_reducible show PE _ (.Call (.Attribute _ "split" _) _ _ _) _);(refine Hk PySem.F.plainAttrs_str PySem.F.slot_str_split PySem.F.type_str_split KI Zbp Zbr ?_ ?_<;>ac_rfl)) |((with_reducible show PE _ (.Call (.Name _ _) [.Lambda _ _ _ _] _ _) _);(refine Zbg LX (fun _=>rfl) hr Ko et Sd Zen (CaM.mono (k:=10) C10 (by decide)) ⟨⟨rfl,rfl,rfl,by kernel_rfl⟩,by decide +kernel,by kernel_rfl,rfl,by kernel_rfl⟩ (fun a cd cl A outer s H E' hr=>?_) rfl;ac_rfl)) |((with_reducible show PE _ (.Call (.Attribute _ _ _) _ _ _) _);first |(refine ZbL (by show Cq l.prog w K mg base _ _ _ _;with_reducible assumption) hr (by first |exact ID |exact IF |exact IH) ?_ ?_<;>ac_rfl) |(refine ZbM (by show Cq l.prog w K mg base _ _ _ _;with_reducible assumption) hr (by first |exact ID |exact IF |exact IH) ?_;ac_rfl)) |((with_reducible show PE _ (.Attribute _ _ _) _);(refine ZbJ (by show IZ K _ _;with_reducible assumption) ?_;ac_rfl)) |((with_reducible show PE _ (.Call (.Name _ _) _ _ _) _);first |(refine ZbN (by show FJ l.prog w K mg base _ _ _;with_reducible assumption) hr (by first |exact ID |exact IF |exact IH) rfl ?_;ac_rfl) |exact ZbO (by show FJ l.prog w K mg base _ _ _;with_reducible assumption) hr (by first |exact ID |exact IF |exact IH) rfl |(refine Zp (by show CaE l.prog w K mg base _ _ _;with_reducible assumption) hr (by first |exact ID |exact IF |exact IH) ?_;ac_rfl) |(refine XR (by first |exact YN rfl |exact ZI et |exact X9 rfl |exact Yb rfl |exact X6 |exact X4 |exact ZbW) rfl (B _ (by decide +kernel)) (by decide +kernel) ?_;ac_rfl) |(refine XS (by first |exact Yc |exact ZbY |exact ZaR |exact Yd) rfl (B _ (by decide +kernel)) (by decide +kernel) ?_;ac_rfl)) |((with_reducible show PE _ (.ListComp _ _ _ _) _);(refine Zbf rfl ⟨rfl,by decide +kernel,by kernel_rfl,by decide +kernel,rfl,by kernel_rfl⟩ ?_ (YD rfl) fun C D cells fp s₀ H₀ pins=>⟨?_,?_,?_⟩<;>ac_rfl)) |((with_reducible show PE _ (.Compare _ [.Eq] _ _) _);(refine JY (Q0 hr.units) ?_ ?_ (FS _)<;>ac_rfl)) |((with_reducible show PE _ (.Compare _ [.In] _ _) _);(refine JY ZbV ?_ ?_ (by with_unfolding_all rfl)<;>ac_rfl)) |((with_reducible show PE _ (.Compare _ [.IsNot] _ _) _);(refine JY PM ?_ ?_ (FS _)<;>ac_rfl)) |((with_reducible show PE _ (.Compare _ [.Lt] _ _) _);(refine JY PL ?_ ?_ (FS _)<;>ac_rfl)) |((with_reducible show PE _ (.Compare _ [_,_] _ _) _);(refine XJ J1 J1 ?_ ?_ ?_<;>ac_rfl)) |((with_reducible show PE _ (.BoolOp _ _ _) _);first |(refine XG ?_ ?_<;>ac_rfl) |(refine XF ?_;ac_rfl)) |((with_reducible show PE _ (.UnaryOp _ _ _) _);first |(refine XH ?_;ac_rfl) |(refine YR ?_;ac_rfl)) |((with_reducible show PE _ (.IfExp _ _ _ _) _);(refine XI ?_ ?_ ?_<;>ac_rfl)) |((with_reducible show PE _ (.Dict _ _ _) _);exact Zay))
local macro_rules |`(tactic|nofun)=>`(tactic|first |((with_reducible show PT _ (.Compare _ [.Eq] _ _) _);(refine FX (Q0 hr.units) ?_ ?_ (FS _)<;>ac_rfl)) |((with_reducible show PT _ (.Compare _ [.NotEq] _ _) _);(refine FX (Zag hr.units) ?_ ?_ (FS _)<;>ac_rfl)) |((with_reducible show PT _ (.Compare _ [.In] _ _) _);(refine FX X0 ?_ ?_ (by with_unfolding_all rfl)<;>ac_rfl)) |((with_reducible show PT _ (.Compare _ [.IsNot] _ _) _);(refine FX PM ?_ ?_ (FS _)<;>ac_rfl)) |((with_reducible show PT _ (.Compare _ [.Lt] _ _) _);(refine FX PL ?_ ?_ (FS _)<;>ac_rfl)) |((with_reducible show PT _ (.Compare _ [.NotIn] _ _) _);first |(refine FX X1 ?_ ?_ (by with_unfolding_all rfl)<;>ac_rfl) |(refine FX ZbU ?_ ?_ (by with_unfolding_all rfl)<;>ac_rfl)) |((with_reducible show PT _ (.Compare _ [_,_] _ _) _);(refine XM J1 J1 ?_ ?_ ?_<;>ac_rfl)) |((with_reducible show PT _ (.UnaryOp .Not _ _) _);(refine XE ?_;ac_rfl)) |((with_reducible show PT _ (.BoolOp _ _ _) _);first |(refine PD (PC ?_ ?_)<;>ac_rfl) |(refine PD (PB ?_ ?_)<;>ac_rfl)) |((with_reducible show PT _ _ _);(refine XA ?_;ac_rfl)))
local macro_rules |`(tactic|contradiction)=>`(tactic|first |((with_reducible show PI _ _ (.Call (.Name _ _) _ _ _) _);(refine Yr rfl (B _ (by decide +kernel)) ?_;ac_rfl)) |((with_reducible show PI _ _ _ _);first |(refine ZbB ?_;ac_rfl) |(refine Yp ?_;ac_rfl)))
local macro_rules |`(tactic|bv_omega)=>`(tactic|first |((with_reducible show PS _ (.Return _ _) _);first |with_reducible exact Mt |(refine PU ?_;ac_rfl)) |((with_reducible show PS _ (.Expr _ _) _);first |with_reducible exact Mt |(refine Yg ?_;ac_rfl)) |((with_reducible show PS _ (.If _ _ _ _) _);(refine Yh ?_ ?_ ?_<;>ac_rfl)) |((with_reducible show PS _ (.Assign [.Name _ _] _ _) _);((with_reducible refine Mu ?_ ?_ ?_ ?_ ?_ ?_)<;>ac_rfl)) |((with_reducible show PS _ (.For _ _ _ _ _) _);(refine Ys Zq rfl ?_ ?_ ?_<;>ac_rfl)) |((with_reducible show PS _ (.Assign [.Tuple _ _ _] _ _) _);first |(refine Yj rfl nd rfl rfl (by decide) rfl rfl ?_ (by first |rfl |with_unfolding_all rfl);ac_rfl) |(refine Ym ?_ ?_<;>ac_rfl)) |((with_reducible show PS _ (.Assign [.Attribute _ _ _] _ _) _);(refine ZbK (by show IZ K _ _;with_reducible assumption) ?_ ?_<;>ac_rfl)) |((with_reducible show PS _ (.Assign [.Subscript _ _ _] _ _) _);(refine YQ ?_ ?_ ?_<;>ac_rfl)) |((with_reducible show PS _ (.Raise _ _ _) _);first |with_reducible exact Mt |(refine Zaj et (by decide +kernel) (by decide +kernel) rfl rfl Zn ?_;ac_rfl)))
local macro_rules |`(tactic|split)=>`(tactic|first |((with_reducible show PW _ _ _);first |(refine PC ?_ ?_<;>ac_rfl) |(refine XC ?_;ac_rfl) |(refine PB ?_ ?_<;>ac_rfl) |(refine XB ?_;ac_rfl)) |((with_reducible show Fz _ (.Name _ _) _);exact Yk (FR (by first |exact nd |exact of_decide_eq_true (by kernel_rfl)) rfl (by first|exact .inl rfl|exact .inr rfl))) |((with_reducible show Fz _ (.Tuple [_,_] _ _) _);exact Yl (YS rfl (FR (by first |exact nd |exact of_decide_eq_true (by kernel_rfl)) rfl (by first|exact .inl rfl|exact .inr rfl)) (FR (by first |exact nd |exact of_decide_eq_true (by kernel_rfl)) rfl (by first|exact .inl rfl|exact .inr rfl)))) |((with_reducible show Fz _ (.Tuple [_,_,_] _ _) _);exact Zah (OT rfl (Ie (FR (by first |exact nd |exact of_decide_eq_true (by kernel_rfl)) rfl (by first|exact .inl rfl|exact .inr rfl)) (Ie (FR (by first |exact nd |exact of_decide_eq_true (by kernel_rfl)) rfl (by first|exact .inl rfl|exact .inr rfl)) (Ie (FR (by first |exact nd |exact of_decide_eq_true (by kernel_rfl)) rfl (by first|exact .inl rfl|exact .inr rfl)) OR))))) |((with_reducible show PG _ (.Name _ _) _);exact FR (by first |exact nd |exact of_decide_eq_true (by kernel_rfl)) rfl (by first|exact .inl rfl|exact .inr rfl)) |exact Zb5 |(refine Zb6 ?_ ?_<;>ac_rfl) |rfl |exact nd |exact Or.inl rfl |exact Or.inr rfl |exact YE |(refine YF ?_;ac_rfl) |exact Zr |(refine Zs ?_;ac_rfl))
local macro_rules |`(tactic|ac_rfl)=>`(tactic|first |((with_reducible show PE _ _ _);infer_instance) |((with_reducible show PA _ _ _);first |with_reducible exact Ir |((with_reducible refine G4 ?_ ?_ ?_)<;>ac_rfl)) |((with_reducible show PS _ _ _);bv_omega) |((with_reducible show Do _ _ _);first |with_reducible exact Yi |with_reducible exact Ye |((with_reducible refine J6 ?_);ac_rfl) |((with_reducible refine J7 ?_ ?_)<;>ac_rfl) |(refine J6 ?_;ac_rfl) |(refine J7 ?_ ?_<;>ac_rfl)) |((with_reducible show PT _ _ _);nofun) |((with_reducible show PI _ _ _ _);contradiction) |split)
section
variable {l:PySem.W.OpenLaw} {w:World} {K:PySem.W.Frag} {h base:Heap} {mg:Str→Option Value} {t_MOST_LINES t_FIGURES t_LIGHT_SIGNS:Tok} (fs:∀(i:Nat) n st,want.fs[i]?=some (n,st)→Tp.SeenF K n st) (X:K.In h) (G:h.Ns mainGlobals mg) (B:∀x∈want.bs,mg x=none) (et:etOk K=true) (M_MOST_LINES:mg "MOST_LINES"=some (.int 8 t_MOST_LINES)) (M_FIGURES:mg "FIGURES"=some (.str "0123456789" t_FIGURES)) (M_LIGHT_SIGNS:mg "LIGHT_SIGNS"=some (.str ".#" t_LIGHT_SIGNS)) (T_FIRST_BOARD:LS.brdIn K "FIRST_BOARD" [[0]]=true) (Cl_Desk:Tp.SeenC K "Desk" ["kept"]) (Cl_Keeper:Tp.SeenC K "Keeper" ["now","earlier"]) (ms:∀(i:Nat) n m st,wantZ.ms[i]?=some (n,m,st)→Tp.SeenM K n m st)
include fs X G B et M_MOST_LINES M_FIGURES M_LIGHT_SIGNS T_FIRST_BOARD Cl_Desk Cl_Keeper ms
theorem cc0:CaE l.prog w K mg base "is_whole" 1 HC:=Bv (fs 0 _ Su rfl) X G (N:=["thing"]) (ps:=["thing"]) fun nd _ _ _ _ _ _ _ hr=>by ac_rfl
theorem cc1:CaE l.prog w K mg base "is_line_tuple" 1 HE:=Bv (fs 1 _ Sy rfl) X G (N:=["thing"]) (ps:=["thing"]) fun nd _ _ _ _ _ _ _ hr=>by ac_rfl
theorem cc2:CaE l.prog w K mg base "are_alike" 1 K1:=Bv (fs 2 _ SA rfl) X G (N:=["one","other"]) (ps:=["one","other"]) fun nd _ _ _ _ _ _ _ hr=>by ac_rfl
theorem Zeo:Cq l.prog w K mg base "Keeper" "change_to" 1 GA:=HA (ms 0 _ _ SD rfl) Cl_Keeper (N:=["self","board"]) (ps:=["self","board"]) fun nd _ _ _ _ _ _ _ hr=>by have L_Desk:=Cr Cl_Desk;have L_Keeper:=Cr Cl_Keeper;ac_rfl
theorem Zep:Cq l.prog w K mg base "Keeper" "undo" 1 HF:=HA (ms 1 _ _ SF rfl) Cl_Keeper (N:=["self"]) (ps:=["self"]) fun nd _ _ _ _ _ _ _ hr=>by have L_Desk:=Cr Cl_Desk;have L_Keeper:=Cr Cl_Keeper;ac_rfl
theorem Zeq:Cq l.prog w K mg base "Keeper" "board" 1 FM:=HA (ms 2 _ _ SG rfl) Cl_Keeper (N:=["self"]) (ps:=["self"]) fun nd _ _ _ _ _ _ _ hr=>by have L_Desk:=Cr Cl_Desk;have L_Keeper:=Cr Cl_Keeper;ac_rfl
theorem cc3:CaE l.prog w K mg base "signs_read" 1 Ja:=Bv (fs 3 _ SI rfl) X G (N:=["text","signs"]) (ps:=["text","signs"]) fun nd _ _ _ _ _ _ _ hr=>by ac_rfl
theorem cc4:CaE l.prog w K mg base "need_text" 1 K2:=Bv (fs 4 _ SJ rfl) X G (N:=["thing"]) (ps:=["thing"]) fun nd _ _ _ _ _ _ _ hr=>by ac_rfl
theorem cc5:CaE l.prog w K mg base "board_made" 1 K3:=Bv (fs 5 _ SL rfl) X G (N:=["board","word"]) (ps:=["board","word"]) fun nd _ _ _ _ _ _ _ hr=>by ac_rfl
theorem cc6:CaE l.prog w K mg base "need_row" 1 DG:=Bv (fs 6 _ SO rfl) X G (N:=["holds"]) (ps:=["holds"]) fun nd _ _ _ _ _ _ _ hr=>by ac_rfl
theorem cc7:CaE l.prog w K mg base "_law_cell" 1 K4:=Bv (fs 7 _ SQ rfl) X G (N:=["_law_script","_law_k"]) (ps:=["_law_script","_law_k"]) fun nd _ _ _ _ _ _ _ hr=>by ac_rfl
theorem cc8:CaE l.prog w K mg base "_law_mix" 1 K5:=Bv (fs 8 _ SS rfl) X G (N:=["_law_cell_here","_law_k","_law_number"]) (ps:=["_law_cell_here","_law_k"]) fun nd _ _ _ _ _ _ _ hr=>by ac_rfl
theorem cc9:CaE l.prog w K mg base "_law_take" 1 A4:=Bv (fs 9 _ SV rfl) X G (N:=["_law_box_here","_law_many","_law_left","_law_digit"]) (ps:=["_law_box_here","_law_many"]) fun nd _ _ _ _ _ _ _ hr=>by ac_rfl
theorem Zer:CaM l.prog w K mg base "_law_kind" 1 CS:=mkM (fs 10 _ SY rfl) X G (N:=["_law_e","_law_kinds","_law_words"]) (ps:=["_law_e"]) fun nd _ _ _ _ _ _ hr=>by ac_rfl
theorem Zes:CaE l.prog w K mg base "_law_text" 1 K6:=Bv (fs 11 _ S3 rfl) X G (N:=["_law_board_here"]) (ps:=["_law_board_here"]) fun nd _ _ _ _ _ _ _ hr=>by ac_rfl
theorem Zet:CaE l.prog w K mg base "_law_board_in" 1 Jb:=Bv (fs 12 _ S4 rfl) X G (N:=["_law_text_here","_law_rows","_law_sign"]) (ps:=["_law_text_here"]) fun nd _ _ _ _ _ _ _ hr=>by ac_rfl
theorem Zeu (C0:CaE l.prog w K mg base "is_whole" 1 HC):CaE l.prog w K mg base "is_between" 2 Jc:=Bv (fs 13 _ S6 rfl) X G (N:=["thing","least","most"]) (ps:=["thing","least","most"]) fun nd _ _ _ _ _ _ _ hr=>by ac_rfl
theorem Zev (C6:CaE l.prog w K mg base "need_row" 1 DG):CaE l.prog w K mg base "figures_read" 2 HG:=Bv (fs 14 _ S7 rfl) X G (N:=["text","words"]) (ps:=["text"]) fun nd _ _ _ _ _ _ _ hr=>by ac_rfl
theorem Zew (C6:CaE l.prog w K mg base "need_row" 1 DG):Cq l.prog w K mg base "Desk" "do_at" 2 Jd:=HA (ms 3 _ _ Ta rfl) Cl_Desk (N:=["self","word","numbers"]) (ps:=["self","word","numbers"]) fun nd _ _ _ _ _ _ _ hr=>by have L_Desk:=Cr Cl_Desk;have L_Keeper:=Cr Cl_Keeper;ac_rfl
theorem Zex (C7:CaE l.prog w K mg base "_law_cell" 1 K4) (C8:CaE l.prog w K mg base "_law_mix" 1 K5):CaE l.prog w K mg base "_law_box" 2 K8:=Bv (fs 15 _ Tb rfl) X G (N:=["_law_script","_law_k","_law_here","_law_number","_law_j"]) (ps:=["_law_script","_law_k"]) fun nd _ _ _ _ _ _ _ hr=>by ac_rfl
theorem Zey (C9:CaE l.prog w K mg base "_law_take" 1 A4):CaE l.prog w K mg base "_law_wide_box" 2 HH:=Bv (fs 16 _ Td rfl) X G (N:=["_law_box_here","_law_number","_law_many","_law_j"]) (ps:=["_law_box_here"]) fun nd _ _ _ _ _ _ _ hr=>by ac_rfl
theorem Zez (C9:CaE l.prog w K mg base "_law_take" 1 A4):CaE l.prog w K mg base "_law_bent" 2 HI:=Bv (fs 17 _ Tf rfl) X G (N:=["_law_box_here","_law_text_here","_law_at","_law_to","_law_signs","_law_sign","_law_low","_law_high","_law_some"]) (ps:=["_law_box_here","_law_text_here"]) fun nd _ _ _ _ _ _ _ hr=>by ac_rfl
theorem ZeA (C12:CaE l.prog w K mg base "_law_board_in" 1 Jb):CaE l.prog w K mg base "_law_due" 2 K9:=Bv (fs 18 _ Th rfl) X G (N:=["_law_row","_law_words","_law_many","_law_alone"]) (ps:=["_law_row"]) fun nd _ _ _ _ _ _ _ hr=>by ac_rfl
theorem ZeB (C9:CaE l.prog w K mg base "_law_take" 1 A4):CaE l.prog w K mg base "_law_right_rows" 2 La:=Bv (fs 19 _ Ti rfl) X G (N:=["_law_box_here","_law_text_here","_law_one","_law_other","_law_some"]) (ps:=["_law_box_here","_law_text_here"]) fun nd _ _ _ _ _ _ _ hr=>by ac_rfl
theorem ZeC (C13:CaE l.prog w K mg base "is_between" 2 Jc):CaE l.prog w K mg base "is_light" 3 Lb:=Bv (fs 20 _ Tj rfl) X G (N:=["thing"]) (ps:=["thing"]) fun nd _ _ _ _ _ _ _ hr=>by ac_rfl
theorem ZeD (C9:CaE l.prog w K mg base "_law_take" 1 A4) (C16:CaE l.prog w K mg base "_law_wide_box" 2 HH):CaE l.prog w K mg base "_law_board" 3 Lc:=Bv (fs 21 _ To rfl) X G (N:=["_law_box_here","_law_high","_law_wide","_law_way","_law_digits","_law_dense","_law_rows","_law_number"]) (ps:=["_law_box_here","_law_high","_law_wide"]) fun nd _ _ _ _ _ _ _ hr=>by ac_rfl
theorem ZeE (C9:CaE l.prog w K mg base "_law_take" 1 A4) (C17:CaE l.prog w K mg base "_law_bent" 2 HI):CaE l.prog w K mg base "_law_otherwise" 3 Ld:=Bv (fs 22 _ Tr rfl) X G (N:=["_law_box_here","_law_row","_law_words","_law_at","_law_odd","_law_some"]) (ps:=["_law_box_here","_law_row"]) fun nd _ _ _ _ _ _ _ hr=>by ac_rfl
theorem ZeF (C1:CaE l.prog w K mg base "is_line_tuple" 1 HE) (C20:CaE l.prog w K mg base "is_light" 3 Lb):CaE l.prog w K mg base "is_row" 4 Le:=Bv (fs 23 _ Tt rfl) X G (N:=["thing"]) (ps:=["thing"]) fun nd _ _ _ _ _ _ _ hr=>by ac_rfl
theorem ZeG (C1:CaE l.prog w K mg base "is_line_tuple" 1 HE) (C23:CaE l.prog w K mg base "is_row" 4 Le):CaE l.prog w K mg base "is_board" 5 HJ:=Bv (fs 24 _ Tv rfl) X G (N:=["thing"]) (ps:=["thing"]) fun nd _ _ _ _ _ _ _ hr=>by ac_rfl
theorem ZeH (C24:CaE l.prog w K mg base "is_board" 5 HJ):CaE l.prog w K mg base "need_board" 6 GC:=Bv (fs 25 _ Tx rfl) X G (N:=["thing"]) (ps:=["thing"]) fun nd _ _ _ _ _ _ _ hr=>by ac_rfl
theorem ZeI (C4:CaE l.prog w K mg base "need_text" 1 K2) (C3:CaE l.prog w K mg base "signs_read" 1 Ja) (C24:CaE l.prog w K mg base "is_board" 5 HJ):CaE l.prog w K mg base "board_read" 6 EN:=Bv (fs 26 _ TB rfl) X G (N:=["text","board"]) (ps:=["text"]) fun nd _ _ _ _ _ _ _ hr=>by ac_rfl
theorem ZeJ (C25:CaE l.prog w K mg base "need_board" 6 GC):FJ l.prog w K mg base "Keeper" 7 Je:=Si (ms 4 _ _ TC rfl) Cl_Keeper (N:=["self","board"]) (ps:=["self","board"]) fun nd _ _ _ _ _ _ _ hr=>by have L_Desk:=Cr Cl_Desk;have L_Keeper:=Cr Cl_Keeper;ac_rfl
theorem ZeK (C25:CaE l.prog w K mg base "need_board" 6 GC):CaE l.prog w K mg base "board_text" 7 Jf:=Bv (fs 27 _ TH rfl) X G (N:=["board"]) (ps:=["board"]) fun nd _ _ _ _ _ _ _ hr=>by ac_rfl
theorem ZeL (C27:CaE l.prog w K mg base "board_text" 7 Jf):CaE l.prog w K mg base "answer_to" 8 HL:=Bv (fs 28 _ TJ rfl) X G (N:=["board","word"]) (ps:=["board","word"]) fun nd _ _ _ _ _ _ _ hr=>by ac_rfl
theorem ZeM (CKeeper____init__:FJ l.prog w K mg base "Keeper" 7 Je):FJ l.prog w K mg base "Desk" 9 Jg:=Si (ms 5 _ _ TK rfl) Cl_Desk (N:=["self"]) (ps:=["self"]) fun nd _ _ _ _ _ _ _ hr=>by have L_Desk:=Cr Cl_Desk;have L_Keeper:=Cr Cl_Keeper;ac_rfl
theorem ZeN (CKeeper__board:Cq l.prog w K mg base "Keeper" "board" 1 FM) (C28:CaE l.prog w K mg base "answer_to" 8 HL) (CKeeper__undo:Cq l.prog w K mg base "Keeper" "undo" 1 HF) (C5:CaE l.prog w K mg base "board_made" 1 K3) (C6:CaE l.prog w K mg base "need_row" 1 DG) (CKeeper__change_to:Cq l.prog w K mg base "Keeper" "change_to" 1 GA):Cq l.prog w K mg base "Desk" "say_word" 9 HM:=HA (ms 6 _ _ TL rfl) Cl_Desk (N:=["self","word","answer","made"]) (ps:=["self","word"]) fun nd _ _ _ _ _ _ _ hr=>by have L_Desk:=Cr Cl_Desk;have L_Keeper:=Cr Cl_Keeper;ac_rfl
theorem ZeO (C6:CaE l.prog w K mg base "need_row" 1 DG) (CDesk__say_word:Cq l.prog w K mg base "Desk" "say_word" 9 HM) (C26:CaE l.prog w K mg base "board_read" 6 EN) (CKeeper__board:Cq l.prog w K mg base "Keeper" "board" 1 FM) (C2:CaE l.prog w K mg base "are_alike" 1 K1) (CKeeper__change_to:Cq l.prog w K mg base "Keeper" "change_to" 1 GA) (C14:CaE l.prog w K mg base "figures_read" 2 HG) (CDesk__do_at:Cq l.prog w K mg base "Desk" "do_at" 2 Jd):Cq l.prog w K mg base "Desk" "say" 10 AS:=HA (ms 7 _ _ TM rfl) Cl_Desk (N:=["self","row","word","blank","rest"]) (ps:=["self","row"]) fun nd _ _ _ _ _ _ _ hr=>by have L_Desk:=Cr Cl_Desk;have L_Keeper:=Cr Cl_Keeper;ac_rfl
end
theorem all_mk {l:PySem.W.OpenLaw} {w:World} {K:PySem.W.Frag} {h:Heap} {mg:Str→Option Value} {fa:Addr} (HS:Tp.HasZ wantZ K) (X:K.In h) (G:h.Ns mainGlobals mg) (hfa:mg "law"=some (.ref fa)):
 ∃fd:FuncData,(∀(s:Shared) (v:Value),BindsTo s fd ⟨[v],[]⟩ [("_law_script",v)])∧∀base:Heap,K.In base→base.Ns mainGlobals mg→IJ mg base→FnOk l.prog w K mg base (AO l.prog w K) 13 fa fd ["_law_script"] (DS K F_law):=by
 obtain ⟨fs,cs,bs,et,ms,cl,tbz,wx,wt⟩:=HS
 obtain ⟨tb,hd⟩:=tbz 0 _ rfl
 obtain ⟨f_law,_,an_law,_,_,kV_law,dc_law,pm_law,cd_law,ct_law,a_law,l_law,c_law,k_law⟩:=fs 29 "law" s_law rfl
 cases LS.tab_cdG tb a_law l_law
 cases hfa.symm.trans (PySem.W.mg_of X G a_law)
 have B:=mkB bs X G
 obtain ⟨fsd,fdd,Sd⟩:=mkS (fs 30 _ NR rfl) X G
 obtain ⟨t_MOST_LINES,v_MOST_LINES⟩:=cs 0 "MOST_LINES" 8 rfl
 have M_MOST_LINES:=PySem.W.mg_of X G v_MOST_LINES
 obtain ⟨t_FIGURES,v_FIGURES⟩:=Tp.strsIn_of wx 0 "FIGURES" "0123456789" rfl
 have M_FIGURES:=PySem.W.mg_of X G v_FIGURES
 obtain ⟨t_LIGHT_SIGNS,v_LIGHT_SIGNS⟩:=Tp.strsIn_of wx 1 "LIGHT_SIGNS" ".#" rfl
 have M_LIGHT_SIGNS:=PySem.W.mg_of X G v_LIGHT_SIGNS
 have T_FIRST_BOARD:=wt 0 "FIRST_BOARD" [[0]] rfl
 refine ⟨PySem.W.fnOf "law" "law" (defArgs s_law) (defBody s_law) (defScope s_law) .none kV_law dc_law pm_law an_law (.ref (Tp.tbAt K "law").1) ct_law,fun s v=>.of_eq rfl,fun base _ _ hbm=>?_⟩
 have Cl_Desk:=cl 0 "Desk" ["kept"] rfl
 have L_Desk:=Cr Cl_Desk
 have Cl_Keeper:=cl 1 "Keeper" ["now","earlier"] rfl
 have L_Keeper:=Cr Cl_Keeper
 have C0:=cc0 (l:=l) (w:=w) (base:=base) fs X G B et M_MOST_LINES M_FIGURES M_LIGHT_SIGNS T_FIRST_BOARD Cl_Desk Cl_Keeper ms
 have C1:=cc1 (l:=l) (w:=w) (base:=base) fs X G B et M_MOST_LINES M_FIGURES M_LIGHT_SIGNS T_FIRST_BOARD Cl_Desk Cl_Keeper ms
 have C2:=cc2 (l:=l) (w:=w) (base:=base) fs X G B et M_MOST_LINES M_FIGURES M_LIGHT_SIGNS T_FIRST_BOARD Cl_Desk Cl_Keeper ms
 have CKeeper__change_to:=Zeo (l:=l) (w:=w) (base:=base) fs X G B et M_MOST_LINES M_FIGURES M_LIGHT_SIGNS T_FIRST_BOARD Cl_Desk Cl_Keeper ms
 have CKeeper__undo:=Zep (l:=l) (w:=w) (base:=base) fs X G B et M_MOST_LINES M_FIGURES M_LIGHT_SIGNS T_FIRST_BOARD Cl_Desk Cl_Keeper ms
 have CKeeper__board:=Zeq (l:=l) (w:=w) (base:=base) fs X G B et M_MOST_LINES M_FIGURES M_LIGHT_SIGNS T_FIRST_BOARD Cl_Desk Cl_Keeper ms
 have C3:=cc3 (l:=l) (w:=w) (base:=base) fs X G B et M_MOST_LINES M_FIGURES M_LIGHT_SIGNS T_FIRST_BOARD Cl_Desk Cl_Keeper ms
 have C4:=cc4 (l:=l) (w:=w) (base:=base) fs X G B et M_MOST_LINES M_FIGURES M_LIGHT_SIGNS T_FIRST_BOARD Cl_Desk Cl_Keeper ms
 have C5:=cc5 (l:=l) (w:=w) (base:=base) fs X G B et M_MOST_LINES M_FIGURES M_LIGHT_SIGNS T_FIRST_BOARD Cl_Desk Cl_Keeper ms
 have C6:=cc6 (l:=l) (w:=w) (base:=base) fs X G B et M_MOST_LINES M_FIGURES M_LIGHT_SIGNS T_FIRST_BOARD Cl_Desk Cl_Keeper ms
 have C7:=cc7 (l:=l) (w:=w) (base:=base) fs X G B et M_MOST_LINES M_FIGURES M_LIGHT_SIGNS T_FIRST_BOARD Cl_Desk Cl_Keeper ms
 have C8:=cc8 (l:=l) (w:=w) (base:=base) fs X G B et M_MOST_LINES M_FIGURES M_LIGHT_SIGNS T_FIRST_BOARD Cl_Desk Cl_Keeper ms
 have C9:=cc9 (l:=l) (w:=w) (base:=base) fs X G B et M_MOST_LINES M_FIGURES M_LIGHT_SIGNS T_FIRST_BOARD Cl_Desk Cl_Keeper ms
 have C10:=Zer (l:=l) (w:=w) (base:=base) fs X G B et M_MOST_LINES M_FIGURES M_LIGHT_SIGNS T_FIRST_BOARD Cl_Desk Cl_Keeper ms
 have C11:=Zes (l:=l) (w:=w) (base:=base) fs X G B et M_MOST_LINES M_FIGURES M_LIGHT_SIGNS T_FIRST_BOARD Cl_Desk Cl_Keeper ms
 have C12:=Zet (l:=l) (w:=w) (base:=base) fs X G B et M_MOST_LINES M_FIGURES M_LIGHT_SIGNS T_FIRST_BOARD Cl_Desk Cl_Keeper ms
 have C13:=Zeu (l:=l) (w:=w) (base:=base) fs X G B et M_MOST_LINES M_FIGURES M_LIGHT_SIGNS T_FIRST_BOARD Cl_Desk Cl_Keeper ms C0
 have C14:=Zev (l:=l) (w:=w) (base:=base) fs X G B et M_MOST_LINES M_FIGURES M_LIGHT_SIGNS T_FIRST_BOARD Cl_Desk Cl_Keeper ms C6
 have CDesk__do_at:=Zew (l:=l) (w:=w) (base:=base) fs X G B et M_MOST_LINES M_FIGURES M_LIGHT_SIGNS T_FIRST_BOARD Cl_Desk Cl_Keeper ms C6
 have C15:=Zex (l:=l) (w:=w) (base:=base) fs X G B et M_MOST_LINES M_FIGURES M_LIGHT_SIGNS T_FIRST_BOARD Cl_Desk Cl_Keeper ms C7 C8
 have C16:=Zey (l:=l) (w:=w) (base:=base) fs X G B et M_MOST_LINES M_FIGURES M_LIGHT_SIGNS T_FIRST_BOARD Cl_Desk Cl_Keeper ms C9
 have C17:=Zez (l:=l) (w:=w) (base:=base) fs X G B et M_MOST_LINES M_FIGURES M_LIGHT_SIGNS T_FIRST_BOARD Cl_Desk Cl_Keeper ms C9
 have C18:=ZeA (l:=l) (w:=w) (base:=base) fs X G B et M_MOST_LINES M_FIGURES M_LIGHT_SIGNS T_FIRST_BOARD Cl_Desk Cl_Keeper ms C12
 have C19:=ZeB (l:=l) (w:=w) (base:=base) fs X G B et M_MOST_LINES M_FIGURES M_LIGHT_SIGNS T_FIRST_BOARD Cl_Desk Cl_Keeper ms C9
 have C20:=ZeC (l:=l) (w:=w) (base:=base) fs X G B et M_MOST_LINES M_FIGURES M_LIGHT_SIGNS T_FIRST_BOARD Cl_Desk Cl_Keeper ms C13
 have C21:=ZeD (l:=l) (w:=w) (base:=base) fs X G B et M_MOST_LINES M_FIGURES M_LIGHT_SIGNS T_FIRST_BOARD Cl_Desk Cl_Keeper ms C9 C16
 have C22:=ZeE (l:=l) (w:=w) (base:=base) fs X G B et M_MOST_LINES M_FIGURES M_LIGHT_SIGNS T_FIRST_BOARD Cl_Desk Cl_Keeper ms C9 C17
 have C23:=ZeF (l:=l) (w:=w) (base:=base) fs X G B et M_MOST_LINES M_FIGURES M_LIGHT_SIGNS T_FIRST_BOARD Cl_Desk Cl_Keeper ms C1 C20
 have C24:=ZeG (l:=l) (w:=w) (base:=base) fs X G B et M_MOST_LINES M_FIGURES M_LIGHT_SIGNS T_FIRST_BOARD Cl_Desk Cl_Keeper ms C1 C23
 have C25:=ZeH (l:=l) (w:=w) (base:=base) fs X G B et M_MOST_LINES M_FIGURES M_LIGHT_SIGNS T_FIRST_BOARD Cl_Desk Cl_Keeper ms C24
 have C26:=ZeI (l:=l) (w:=w) (base:=base) fs X G B et M_MOST_LINES M_FIGURES M_LIGHT_SIGNS T_FIRST_BOARD Cl_Desk Cl_Keeper ms C4 C3 C24
 have CKeeper____init__:=ZeJ (l:=l) (w:=w) (base:=base) fs X G B et M_MOST_LINES M_FIGURES M_LIGHT_SIGNS T_FIRST_BOARD Cl_Desk Cl_Keeper ms C25
 have C27:=ZeK (l:=l) (w:=w) (base:=base) fs X G B et M_MOST_LINES M_FIGURES M_LIGHT_SIGNS T_FIRST_BOARD Cl_Desk Cl_Keeper ms C25
 have C28:=ZeL (l:=l) (w:=w) (base:=base) fs X G B et M_MOST_LINES M_FIGURES M_LIGHT_SIGNS T_FIRST_BOARD Cl_Desk Cl_Keeper ms C27
 have CDesk____init__:=ZeM (l:=l) (w:=w) (base:=base) fs X G B et M_MOST_LINES M_FIGURES M_LIGHT_SIGNS T_FIRST_BOARD Cl_Desk Cl_Keeper ms CKeeper____init__
 have CDesk__say_word:=ZeN (l:=l) (w:=w) (base:=base) fs X G B et M_MOST_LINES M_FIGURES M_LIGHT_SIGNS T_FIRST_BOARD Cl_Desk Cl_Keeper ms CKeeper__board C28 CKeeper__undo C5 C6 CKeeper__change_to
 have CDesk__say:=ZeO (l:=l) (w:=w) (base:=base) fs X G B et M_MOST_LINES M_FIGURES M_LIGHT_SIGNS T_FIRST_BOARD Cl_Desk Cl_Keeper ms C6 CDesk__say_word C26 CKeeper__board C2 CKeeper__change_to C14 CDesk__do_at
 have sc:Dq ["_law_script","_law_k","_law_box_here","_law_board_here","_law_text_here","_law_digits","_law_desk","_law_row","_law_turn","_law_bent_here","_law_due_here","_law_none","_law_bad","_law_word"] ["_law_script"] (defScope s_law):=⟨rfl,rfl,rfl,by decide +kernel,rfl,by decide +kernel,by decide +kernel⟩
 have nd:=sc.nd
 exact Zal l_law c_law sc (fun ds h e=>if_neg e) (fun ds h e=>if_pos e) fun A outer s H E hr=>by
  have LX:LamX "law" (BO (AO l.prog w K) l.prog w K mg base ["_law_script","_law_k","_law_box_here","_law_board_here","_law_text_here","_law_digits","_law_desk","_law_row","_law_turn","_law_bent_here","_law_due_here","_law_none","_law_bad","_law_word"] "law" (defScope s_law) fa (.ref (Tp.tbAt K "law").1) A outer s H E) (Tp.tbAt K "law").1 (Tp.tbAt K "law").2:=⟨rfl,tb,hd,rfl,hbm⟩
  ac_rfl
end
end LK
open PySem PySem.W PyProof.Rows
set_option maxRecDepth 100000 in
set_option maxHeartbeats 0 in
theorem PySem.Challenge.cw_lineswitch_k99_desk_rows_that_are_none_holds : PySem.Challenge.rw_lineswitch_k99_desk_rows_that_are_none.Holds := by
 w_on;o_law
 refine PySem.W.holds_open (q:=LK.top_q) (loose:=LK.top_loose) (d:=⟨"law",L2.defArgs LK.s_law,L2.defBody LK.s_law,L2.defScope LK.s_law,_⟩) (kwd:=[]) (Xt:=fun _=>true) (XP:=fun _ _=>True) (N:=1000000) LK.top_left Tp.saysZ_of Tp.SaysZ.keeps (fun _ _=>trivial) (fun _ _ _ _ _=>trivial) (by rfl) (by kernel_rfl) (by kernel_rfl) (fun s _=>recFacts_nil (by rfl)) (by rfl) (by assumption) (by kernel_rfl) ⟨rfl,rfl,rfl,rfl,rfl,by decide +kernel⟩ ?hw ?hc
 case hw=>w_witness2
 case hc=>exact LS.walk_hdZ (n:=63) (k:=13) (x:="_law_script") (F:=LK.F_law) rfl (by decide) rfl ⟨rfl,by decide,by decide,rfl⟩ (fun w K mg fa h HS X G hfa=>LK.all_mk HS X G hfa) LK.law_true
