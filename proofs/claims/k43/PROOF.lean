import PyProof.Rows.All
import Wide.All
import OpenK.AllK
import Wide.FinOn
import Lean
import PyProof.EqAt
import PyProof.EqKinds
import PyProof.TupleCall
import PyProof.ExcBaseAll.ValueError
import PyProof.ZipIter
import KE.KIsAll
import KE.KTryMore
import PyProof.ExcArgsOwn
import PyProof.ExcAttrAll.ValueError
import KE.KLam
import KE.KNestM
import PyProof.NsDelKeeps
import PyProof.Rows.CatchPack
import PyProof.ReprRoads
import PyProof.Rows.FStr
import PyProof.ListRange
import PyProof.CollectIter
import KE.KRevSl
import PyProof.ExcInit
import PyProof.ExcClass2
import PyProof.InstStore
import PyProof.InstStoreFacts
import PyProof.InstLoad
import OpenK.KMore
import PyProof.Rows.StrKeys3
import PyProof.MeetsStr
import PyProof.Rows.AttrNodeAny
import PyProof.DictItemsLoops
import PyProof.DictTable
import PyProof.MeetsDictList
import PyProof.DictStraight
import PyProof.DictUpdate
import PyProof.DictRoadsH
import PyProof.DictTruth
import PyProof.DictWalks
import PyProof.AttrMissHeap
import PyProof.ListNew
import KE.KDictOf
import PyProof.MinMaxWalk
import PyProof.StrLawsIn
import PyProof.StrBlock
import PyProof.StrCalls
import PyProof.StrWalks
import PyProof.SliceStr2
import PyProof.MeetsStr2
import PyProof.Rows.SetFrom
import PyProof.DictIter
import PyProof.SetRoads
import PyProof.TupleKey
import PyProof.DictFindH
import PyProof.NeKinds
import PySem.Challenge.RW_lineswitch_k43_floor_papers
set_option Elab.async false
set_option linter.all false
set_option maxRecDepth 100000
abbrev Aw:=@PySem.Heap.get?_push_of_some
abbrev qa1:=@List.getElem?_eq_some_iff
abbrev AR:=@List.getElem?_eq_getElem
abbrev Ay:=@List.prefix_refl
abbrev AN:=@List.mem_cons_of_mem
abbrev qa5:=@List.mem_cons
abbrev AK:=@List.mem_cons_self
abbrev AU:=@Nat.lt_of_lt_of_le
abbrev Ax:=@Nat.le_refl
abbrev AC:=@PySem.Heap.lt_size
abbrev AY:=@List.size_toArray
abbrev Be:=@List.getElem?_set_ne
abbrev Bc:=@PySem.Heap.get?_push_size
abbrev A0:=@List.length_map
abbrev Bj:=@Bool.false_ne_true
abbrev AZ:=@List.map_cons
abbrev BF:=@List.mem_append_right
abbrev Bq:=@Bool.false_eq_true
abbrev qaI:=@List.mem_map
abbrev qaJ:=@List.mem_singleton
abbrev BZ:=@List.getElem?_set_self
abbrev Bw:=@List.not_mem_nil
abbrev qaM:=@Option.map_eq_some_iff
abbrev Bf:=@Nat.ne_of_lt
abbrev BO:=@List.getElem?_map
abbrev qaP:=@List.mem_append
abbrev qaQ:=@List.all_eq_true
abbrev Br:=@Nat.le_trans
abbrev B3:=@Bool.and_eq_true
abbrev DM:=@List.getD_eq_getElem?_getD
abbrev B4:=@PySem.Heap.size_push
abbrev BS:=@Nat.ne_of_gt
abbrev Dw:=@List.mem_of_getElem?
abbrev Dg:=@List.length_append
abbrev EA:=@List.getElem?_append_left
abbrev qaZ:=@List.mem_range
abbrev qb0:=@Bool.eq_iff_iff
abbrev Dh:=@List.getElem_mem
abbrev Di:=@Nat.le_add_right
abbrev B8:=@Nat.zero_le
abbrev CB:=@Nat.lt_irrefl
abbrev DX:=@Int.toNat_of_nonneg
abbrev Dx:=@List.append_nil
abbrev EB:=@List.mem_of_mem_take
abbrev DN:=@List.length_cons
abbrev ED:=@List.filterMap_cons
abbrev DY:=@List.append_assoc
abbrev qbB:=@Option.isSome_iff_exists
abbrev Fg:=@PySem.Heap.get?_update_self
abbrev DO:=@List.find?_cons
abbrev DZ:=@List.cons_append
abbrev Fh:=@List.replicate_succ
abbrev qbG:=@List.nodup_cons
abbrev Dy:=@List.map_nil
abbrev FS:=@List.mem_of_mem_drop
abbrev EF:=@List.foldl_cons
abbrev EG:=@Option.map_some
abbrev Hs:=@List.getElem?_append_right
abbrev Fi:=@Option.bind_some
abbrev FT:=@List.prefix_append
abbrev Ht:=@List.drop_eq_getElem_cons
abbrev Jj:=@List.eraseIdx_eq_take_drop_succ
abbrev GC:=@List.mem_append_left
abbrev Fj:=@List.map_append
abbrev FU:=@List.flatten_cons
abbrev FV:=@List.length_range
abbrev GD:=@List.flatMap_append
abbrev FW:=@List.length_take
abbrev FX:=@List.lookup_cons
abbrev Hu:=@List.take_of_length_le
abbrev EH:=@Nat.le_of_lt
abbrev EI:=@List.map_map
abbrev FY:=@List.nil_append
abbrev Hv:=@List.take_append_drop
abbrev GE:=@Nat.lt_succ_of_lt
abbrev Hw:=@List.getElem?_of_mem
abbrev GF:=@List.getElem_inj
abbrev GG:=@Nat.lt_succ_self
abbrev GH:=@Nat.le_of_not_lt
abbrev Hx:=@List.getElem_of_mem
abbrev Hz:=@List.getElem?_range
abbrev FZ:=@Bool.not_true
abbrev qcA:=@List.filter_eq_nil_iff
abbrev qcB:=@List.nodup_append
abbrev HA:=@List.pairwise_map
abbrev HB:=@List.all_eq_false
abbrev Jk:=@List.length_filter_le
abbrev qcF:=@List.mem_filter
abbrev qcG:=@List.pairwise_iff_getElem
abbrev HC:=@List.range_succ
abbrev LC:=@List.getElem?_take_of_lt
abbrev Jl:=@List.set_cons_succ
abbrev Jm:=@List.set_cons_zero
abbrev LD:=@List.eq_of_mem_replicate
abbrev LG:=@List.getElem?_replicate
abbrev LH:=@List.filter_cons_of_neg
abbrev LI:=@List.filter_cons_of_pos
abbrev qcP:=@List.length_eq_zero_iff
abbrev Jn:=@Int.toNat_natCast
abbrev Jo:=@List.reverse_cons
abbrev Jp:=@List.flatMap_cons
abbrev Jq:=@List.foldl_append
abbrev LJ:=@PySem.Heap.get?_update_other
abbrev HE:=@List.all_cons
abbrev Jr:=@List.drop_length
abbrev Js:=@List.take_length
abbrev Jt:=@List.ext_getElem
abbrev qcZ:=@List.perm_middle
abbrev Ju:=@Bool.not_eq_true
abbrev qd1:=@List.mem_flatMap
abbrev HF:=@Nat.le_of_eq
abbrev Jv:=@List.of_mem_zip
abbrev HG:=@Nat.succ_mul
abbrev Jw:=@List.length_nil
abbrev Jx:=@Nat.le_antisymm
abbrev LL:=@Nat.mul_le_mul_right
abbrev Jy:=@Bool.false_and
abbrev Jz:=@List.drop_zero
abbrev Ad:=@PySem.wpAny_bind
abbrev Ak:=@PySem.wpAny_pure
abbrev A1:=@PySem.wpAny_mono
abbrev Ci:=@PySem.wpAny_holding
abbrev CC:=@PySem.wpAny_newObj_type
abbrev D0:=@PySem.wpAny_truthy_bool
namespace L2
open PySem PySem.Spec PyProof.Rows
abbrev UJ:=Sum Int Str
inductive V where
 |non |bl (b:Bool) |int (i:Int) |str (x:Str) |byt (b:Array UInt8) |flt (b:UInt64) |ref (a:Addr) |ty (n:String)
 deriving DecidableEq
def RelV:V→Value→Prop
 |.non,u=>u=Value.none
 |.bl b,u=>u=Value.bool b
 |.int i,u=>∃t,u=Value.int i t
 |.str x,u=>∃t,u=Value.str x t
 |.byt b,u=>∃t,u=Value.bytes b t
 |.flt b,u=>∃t,u=Value.float b t
 |.ref a,u=>u=Value.ref a
 |.ty n,u=>u=Value.type n
abbrev Vals:List V→List Value→Prop:=Paired RelV
theorem Vals.length {xs:List V} {us:List Value} (r:Vals xs us):xs.length=us.length:=Paired.length r
theorem Vals.get:∀{xs:List V} {us:List Value} {i:Nat} {x:V},Vals xs us→xs[i]?=some x→∃u,us[i]?=some u∧RelV x u
 |_,_,_,_,.nil,e=>by simp at e
 |_,_,0,_,.cons r _,e=>by simp at e;subst e;exact ⟨_,rfl,r⟩
 |_,_,i+1,x,.cons _ t,e=>by obtain ⟨u,h1,h2⟩:=Vals.get (i:=i) (x:=x) t (by simpa using e);exact ⟨u,by simpa using h1,h2⟩
theorem Vals.set (r:RelV x u):∀{xs:List V} {us:List Value} (i:Nat),Vals xs us→Vals (xs.set i x) (us.set i u)
 |_,_,_,.nil=>.nil
 |_,_,0,.cons _ t=>.cons r t
 |_,_,i+1,.cons q t=>.cons q (Vals.set r i t)
theorem Vals.append:∀{xs ys:List V} {us ws:List Value},Vals xs us→Vals ys ws→Vals (xs++ys) (us++ws)
 |_,_,_,_,.nil,s=>s
 |_,_,_,_,.cons r t,s=>.cons r (Vals.append t s)
theorem Vals.take:∀{xs:List V} {us:List Value} (n:Nat),Vals xs us→Vals (xs.take n) (us.take n)
 |_,_,0,_=>.nil
 |_,_,_+1,.nil=>.nil
 |_,_,n+1,.cons r t=>.cons r (Vals.take n t)
theorem Vals.drop:∀{xs:List V} {us:List Value} (n:Nat),Vals xs us→Vals (xs.drop n) (us.drop n)
 |_,_,0,r=>r
 |_,_,_+1,.nil=>.nil
 |_,_,n+1,.cons _ t=>Vals.drop n t
def Ou:Option V→Option Value→Prop
 |some v,some u=>RelV v u
 |none,none=>True
 |_,_=>False
def kV:UJ→V
 |.inl i=>.int i
 |.inr x=>.str x
inductive HO where
 |lst (xs:List V)
 |tup (xs:List V)
 |ins (C dx:Addr) (fs:List (Str×V))
 |own (x:Addr)
 |xd (fs:List (Str×V))
 |frz (o:Obj) (u:HO)
 |tbl (ps:Array Value)
 |ext (φ:Heap→Prop)
 |mex (φ:Heap→Prop)
 |dct (φ:Heap→Prop)
abbrev Hp:=Addr→Option HO
def Aq (H:Hp) (a:Addr) (o:HO):Hp:=fun b=>if b=a then some o else H b
theorem B0 {o:HO}:Aq H a o a=some o:=by unfold Aq;rw [if_pos rfl]
theorem AD {H:Hp} {o:HO} (h:b≠a):Aq H a o b=H b:=by unfold Aq;rw [if_neg h]
theorem Cp {H:Hp} {o:HO} (h:H a=some o) (h':H b=none):a≠b:=by intro e;subst e;rw [h] at h';cases h'
section
variable (P:Program) (w:World)
inductive Ov (h:Heap) (a:Addr) (xs:List V):Prop where
 |mk (f1:xs.length≤sizeLine) (its:List Value) (n:Nat) (f2:Vals xs its) (f3:h.get? a=some {cls:=.type "list",data:=.seq its.toArray n}):Ov h a xs
def NoDict (h:Heap) (a:Addr):Prop:=∀o,h.get? a=some o→o.dict=none
inductive LM (h:Heap) (a:Addr) (xs:List V):Prop where
 |mk (f1:xs.length≤sizeLine) (its:List Value) (f2:Vals xs its) (f3:IsTup h a its.toArray) (f4:NoDict h a):LM h a xs
theorem NoDict.new {h:Heap} {o:Obj} (hd:o.dict=none:=by rfl) (hf:o.isFreed=false:=by rfl):NoDict (h.push o) h.objs.size:=fun u e=>by rw [Bc _ hf] at e;cases e;exact hd
inductive Ow (H:Hp) (h:Heap) (a C dx:Addr) (fs:List (Str×V)):Prop where
 |mk (f1:H dx=some (.own a)) (f2:fs.length≤1000) (f3:dx≠a) (f4:h.get? a=some (PySem.W.instObj C dx)) (mA:Str→Option Value) (f5:h.Ns1 dx mA) (f6:(∀f,Ou (fs.lookup f) (mA f))∧PySem.Within mA (fs.map (·.1))):Ow H h a C dx fs
def ObjOk (P:Program) (w:World) (H:Hp) (h:Heap) (a:Addr):HO→Prop
 |.lst xs=>Ov h a xs
 |.tup xs=>LM h a xs
 |.ins C dx fs=>Ow H h a C dx fs
 |.own _=>∃o,h.get? a=some o
 |.xd fs=>∃mA,h.Ns1 a mA∧∀f,Ou (fs.lookup f) (mA f)
 |.frz o u=>h.get? a=some o∧ObjOk P w H h a u
 |.tbl ps=>h.get? a=some {cls:=.none,data:=.fields ps}
 |.ext φ=>φ h∧(∃o,h.get? a=some o)∧∀h1 h2:Heap,φ h1→(∀o,h1.get? a=some o→h2.get? a=some o)→φ h2
 |.mex φ=>φ h∧(∃o,h.get? a=some o)∧∀h1 h2:Heap,φ h1→(∀o,h1.get? a=some o→h2.get? a=some o)→φ h2
 |.dct φ=>φ h∧(∃o,h.get? a=some o)∧∀h1 h2:Heap,φ h1→(∀o,h1.get? a=some o→h2.get? a=some o)→φ h2
def HOk (H:Hp) (h:Heap):Prop:=∀a o,H a=some o→ObjOk P w H h a o
end
section
variable {P:Program} {w:World} {H H':Hp} {h h':Heap} {a:Addr} {o:HO}
theorem ObjOk.lt (x:ObjOk P w H h a o):a<h.objs.size:=by
 cases o with
 |lst xs=>obtain ⟨_,_,_,_,e⟩:=x;exact AC e
 |tup xs=>obtain ⟨_,_,_,p,_⟩:=x;exact p.lt
 |ins C dx fs=>obtain ⟨_,_,_,e,_⟩:=x;exact AC e
 |own y=>obtain ⟨_,e⟩:=x;exact AC e
 |xd fs=>obtain ⟨_,⟨_,_,_,e,_⟩,_⟩:=x;exact AC e
 |frz ob u=>obtain ⟨e,_⟩:=x;exact AC e
 |tbl ps=>exact AC (show h.get? a=some _ from x)
 |ext φ=>obtain ⟨_,⟨_,e⟩,_⟩:=x;exact AC e
 |mex φ=>obtain ⟨_,⟨_,e⟩,_⟩:=x;exact AC e
 |dct φ=>obtain ⟨_,⟨_,e⟩,_⟩:=x;exact AC e
theorem ObjOk.stay (x:ObjOk P w H h a o) (k:∀b u,(b=a∨H b=some (.own a))→h.get? b=some u→h'.get? b=some u)
 (ho:∀b,H b=some (.own a)→H' b=some (.own a)) (ht:∀b xs,H b=some (.tup xs)→H' b=some (.tup xs)):ObjOk P w H' h' a o:=by
 induction o with
 |lst xs=>obtain ⟨z,its,n,r,e⟩:=x;exact ⟨z,its,n,r,k _ _ (.inl rfl) e⟩
 |tup xs=>obtain ⟨z,its,r,⟨ob,e,c⟩,nd⟩:=x;exact ⟨z,its,r,⟨ob,k _ _ (.inl rfl) e,c⟩,fun o e2=>by rw [k _ _ (.inl rfl) e] at e2;cases e2;exact nd _ e⟩
 |ins C dx fs=>obtain ⟨d,z,ne,e,mA,⟨od,es,ep,e2,c⟩,r⟩:=x;exact ⟨ho _ d,z,ne,k _ _ (.inl rfl) e,mA,⟨od,es,ep,k _ _ (.inr d) e2,c⟩,r⟩
 |own y=>obtain ⟨ob,e⟩:=x;exact ⟨ob,k _ _ (.inl rfl) e⟩
 |xd fs=>obtain ⟨mA,⟨od,es,ep,e,c⟩,r⟩:=x;exact ⟨mA,⟨od,es,ep,k _ _ (.inl rfl) e,c⟩,r⟩
 |frz ob u ih=>obtain ⟨e,q⟩:=x;exact ⟨k _ _ (.inl rfl) e,ih q⟩
 |tbl ps=>
  have e:h.get? a=some {cls:=.none,data:=.fields ps}:=x
  show h'.get? a=some {cls:=.none,data:=.fields ps}
  exact k a _ (.inl rfl) e
 |ext φ=>obtain ⟨p,⟨o,e⟩,st⟩:=x;exact ⟨st _ _ p fun o q=>k _ _ (.inl rfl) q,⟨o,k _ _ (.inl rfl) e⟩,st⟩
 |mex φ=>obtain ⟨p,⟨o,e⟩,st⟩:=x;exact ⟨st _ _ p fun o q=>k _ _ (.inl rfl) q,⟨o,k _ _ (.inl rfl) e⟩,st⟩
 |dct φ=>obtain ⟨p,⟨o,e⟩,st⟩:=x;exact ⟨st _ _ p fun o q=>k _ _ (.inl rfl) q,⟨o,k _ _ (.inl rfl) e⟩,st⟩
theorem HOk.lt (x:HOk P w H h) (e:H a=some o):a<h.objs.size:=(x a o e).lt
theorem HOk.fresh (x:HOk P w H h) (e:h.objs.size≤a):H a=none:=by
 cases q:H a with
 |none=>rfl
 |some u=>exact absurd (AU (x.lt q) e) (CB _)
theorem HOk.kept (x:HOk P w H h) (k:∀b u,h.get? b=some u→h'.get? b=some u):HOk P w H h':=fun a o e=>(x a o e).stay (fun b u _ q=>k b u q) (fun _ q=>q) fun _ _ q=>q
theorem HOk.laid (x:HOk P w H h) (k:∀b u,h.get? b=some u→h'.get? b=some u) (hp:h.objs.size≤a) (new:ObjOk P w (Aq H a o) h' a o):HOk P w (Aq H a o) h':=fun b u e=>by
 have hn:=x.fresh hp
 by_cases hb:b=a
 ·subst hb;rw [B0] at e;cases e;exact new
 ·rw [AD hb] at e;exact (x b u e).stay (fun c v _ q=>k c v q) (fun c q=>by rw [AD (Cp q hn)];exact q) fun c xs q=>by rw [AD (Cp q hn)];exact q
end
def Rd (H:Hp) (a:Addr) (u:HO):Prop:=H a=some u∨∃o,H a=some (.frz o u)
theorem Rd.ok {u:HO} (r:Rd H a u) (x:HOk P w H h):ObjOk P w H h a u:=by
 rcases r with r |⟨o,r⟩
 ·exact x a u r
 ·obtain ⟨_,q⟩:=x a _ r;exact q
def JA:Option HO→Prop
 |some (.lst _)=>True
 |some (.ins _ _ _)=>True
 |some (.ext _)=>True
 |some (.mex _)=>True
 |some (.dct _)=>True
 |_=>False
section
variable {P:Program} {w:World} {H:Hp} {h h':Heap} {x e:Addr} {o':HO}
theorem HOk.write (ok:HOk P w H h) (mu:JA (H x)) (he:e=x∨H e=some (.own x)) (k:∀b u,b≠e→h.get? b=some u→h'.get? b=some u) (heo:∃u,h'.get? e=some u)
 (new:ObjOk P w (Aq H x o') h' x o'):HOk P w (Aq H x o') h':=fun b u q=>by
 have nown:∀c y,H c=some (.own y)→c≠x:=fun c y r z=>by subst z;rw [r] at mu;exact mu
 have ntup:∀c xs,H c=some (.tup xs)→c≠x:=fun c xs r z=>by subst z;rw [r] at mu;exact mu
 by_cases hb:b=x
 ·subst hb;rw [B0] at q;cases q;exact new
 ·rw [AD hb] at q
  by_cases hbe:b=e
  ·have q':H b=some (.own x):=by
    rcases he with z |z
    ·exact absurd (hbe.trans z) hb
    ·rw [hbe];exact z
   rw [q] at q';cases q';obtain ⟨v,hv⟩:=heo;exact ⟨v,by rw [hbe];exact hv⟩
  ·refine (ok b u q).stay (fun c v hc r=>k c v ?_ r) (fun c r=>by rw [AD (nown c b r)];exact r) fun c xs r=>by rw [AD (ntup c xs r)];exact r
   rcases hc with rfl |hc
   ·exact hbe
   ·rintro rfl;rcases he with z |z
    ·exact nown c b hc z
    ·rw [hc] at z;cases z;exact hb rfl
end
structure Un (fs ex:List Addr) (H H':Hp) (h h':Heap):Prop where
 keep:∀b o,h.get? b=some o→H b=none→b∉fs→b∉ex→h'.get? b=some o
 slot:∀b o,h.get? b=some o→H b=none→b∈fs→b∉ex→∃sl,h'.get? b=some {o with slots:=sl}
 free:∀b o,h.get? b=some o→H b=none→b∉ex→H' b=none
 there:∀b o,h.get? b=some o→b∉ex→∃o',h'.get? b=some o'
 tups:∀b xs,H b=some (.tup xs)→H' b=some (.tup xs)
 frzs:∀b o u,H b=some (.frz o u)→H' b=some (.frz o u)
 tbls:∀b ps,H b=some (.tbl ps)→∃more,H' b=some (.tbl (ps++more))
section
variable {fs fs' ex ex':List Addr} {H H1 H2:Hp} {h h1 h2 h':Heap} {a x e:Addr} {o:HO}
theorem Un.any (u:Un fs ex H H1 h h1) {b:Addr} {ob:Obj} (q:h.get? b=some ob) (n:H b=none) (hx:b∉ex):∃sl,h1.get? b=some {ob with slots:=sl}:=by
 by_cases hb:b∈fs
 ·exact u.slot b ob q n hb hx
 ·exact ⟨ob.slots,u.keep b ob q n hb hx⟩
theorem Un.kept (k:∀b u,h.get? b=some u→h'.get? b=some u):Un fs ex H H h h':=
 ⟨fun b ob q _ _ _=>k b ob q,fun b ob q _ _ _=>⟨ob.slots,k b ob q⟩,fun _ _ _ n _=>n,fun b ob q _=>⟨ob,k b ob q⟩,fun _ _ q=>q,fun _ _ _ q=>q,fun _ ps q=>⟨#[],by rw [q];simp⟩⟩
theorem Un.refl:Un fs ex H H h h:=Un.kept fun _ _ q=>q
theorem Un.laid (k:∀b u,h.get? b=some u→h'.get? b=some u) (hp:h.objs.size≤a) (hn:H a=none):Un fs ex H (Aq H a o) h h' where
 keep:=fun b u q _ _ _=>k b u q
 slot:=fun b u q _ _ _=>⟨u.slots,k b u q⟩
 free:=fun b u q n _=>by rw [AD (Bf (AU (AC q) hp))];exact n
 there:=fun b u q _=>⟨u,k b u q⟩
 tups:=fun b xs q=>by rw [AD (Cp q hn)];exact q
 frzs:=fun b u xs q=>by rw [AD (Cp q hn)];exact q
 tbls:=fun b ps q=>⟨#[],by rw [AD (Cp q hn),q];simp⟩
theorem Un.write (mu:JA (H x)) (he:e=x∨H e=some (.own x)) (k:∀b u,b≠e→h.get? b=some u→h'.get? b=some u) (heo:∃u,h'.get? e=some u):Un fs ex H (Aq H x o) h h':=by
 have hx:∀b,H b=none→b≠x:=fun b n z=>by subst z;rw [n] at mu;exact mu
 have hb:∀b,H b=none→b≠e:=fun b n z=>by
  subst z;rcases he with r |r
  ·exact hx b n r
  ·rw [n] at r;cases r
 have hm:∀b u,H b=some u→¬JA (some u)→b≠x:=fun b u q nm z=>by subst z;rw [q] at mu;exact nm mu
 refine ⟨fun b u q n _ _=>k b u (hb b n) q,fun b u q n _ _=>⟨u.slots,k b u (hb b n) q⟩,fun b u q n _=>by rw [AD (hx b n)];exact n,fun b u q _=>?_,
  fun b xs q=>by rw [AD (hm b _ q fun z=>z)];exact q,fun b u xs q=>by rw [AD (hm b _ q fun z=>z)];exact q,fun b ps q=>⟨#[],by rw [AD (hm b _ q fun z=>z),q];simp⟩⟩
 by_cases hbe:b=e
 ·subst hbe;exact heo
 ·exact ⟨u,k b u hbe q⟩
end
def JB (h:Heap) (H:Hp):List Addr:=(List.range h.objs.size).filter fun a=>(H a).isSome
def D3 (h:Heap) (H:Hp):Heap:=PySem.W.hideAll h (JB h H)
theorem UK (h:Heap) (H:Hp):(D3 h H).objs.size=h.objs.size:=PySem.W.hideAll_size _ _
theorem UL {h:Heap} {H:Hp} (e:h.get? b=some o) (n:H b=none):(D3 h H).get? b=some o:=
 PySem.W.hideAll_get _ e fun hm=>by have q:(H b).isSome=true:=(qcF.mp hm).2;rw [n] at q;simp at q
theorem UM {h:Heap} {H:Hp} (e:(D3 h H).get? b=some o):h.get? b=some o∧H b=none:=by
 have e':h.get? b=some o:=PySem.W.of_hideAll (JB h H) e;refine ⟨e',?_⟩;cases q:H b with
 |none=>rfl
 |some x=>have hm:b∈JB h H:=qcF.mpr ⟨qaZ.mpr (AC e'),by simp [q]⟩;have z:(D3 h H).get? b=none:=PySem.W.hideAll_none (JB h H) hm;rw [z] at e;cases e
def UN (g h:Heap) (L:Addr):List (Addr×Obj):=(List.range h.objs.size).filterMap fun a=>if a=L∨(g.get? a).isSome=true then none else (h.get? a).map fun o=>(a,o)
def rest (g h:Heap) (L d:Addr):List (Addr×Obj):=(UN g h L).filter fun p=>decide (p.1≠d)
structure Mod (K:PySem.W.Frag) (mg:Str→Option Value) (base:Heap):Prop where
 kin:K.In base
 glob:base.Ns mainGlobals mg
 blt:∃mb,base.Ns builtinsNs mb∧∀x:Str,x≠"__name__"→mb x=bootBuiltins x
 nolimit:base.NoLimit
structure Cx where
 prog:Program
 w:World
 K:PySem.W.Frag
 mg:Str→Option Value
 base:Heap
 A:Around
 N:List Str
 s₀:Shared
 H₀:Hp
 env:Env
 outer:List Env
 stack:List Env
 ex:List Addr
 fn:Str→Bool
 calm:Bool
 pn:List (Addr×Obj)
 xe:Value→Shared→Prop
def frs (l:List Env):List Addr:=l.filterMap (·.frame)
abbrev Cx.fs (X:Cx):List Addr:=frs X.outer
def JC (sc:Scope) (x:Str):Prop:=sc.names.lookup x=some .local∨sc.names.lookup x=some .cell∨sc.names.lookup x=some .free
def F0 (sc:Scope) (x:Str):Prop:=sc.names.lookup x=some .local∨sc.names.lookup x=some .cell
def Ox (env:Env) (h:Heap) (m:Str→Option Value) (x:Str) (u:Value):Prop:=
 (env.kindOf x=some .local∧m x=some u)∨((env.kindOf x=some .cell∨env.kindOf x=some .free)∧∃c,env.cells.lookup x=some c∧h.IsCell c (some u))
structure Cx.Ok (X:Cx):Prop where
 mod:Mod X.K X.mg X.base
 kind:X.env.scope.kind=.function
 glob:X.env.globals=mainGlobals
 blt:X.env.builtins=builtinsNs
 above:X.s₀.heap.objs.size≤X.env.locals
 inj:∀x y c,X.env.cells.lookup x=some c→X.env.cells.lookup y=some c→x=y
 has:∀x,(X.env.kindOf x=some .cell∨X.env.kindOf x=some .free)→∃c,X.env.cells.lookup x=some c
 cab:∀x c,X.fn x=true→X.env.cells.lookup x=some c→X.s₀.heap.objs.size≤c
 hd:X.calm=true→X.A.handled=none
 frames:X.A.frames=some X.stack
 stk:X.stack=X.outer∨(X.stack=X.env::X.outer∧X.env.frame=some X.env.locals)
 exf:∀b∈X.ex,b≠X.env.locals∧∀x c,X.env.cells.lookup x=some c→c≠b
 bs:∀b o,X.base.get? b=some o→X.s₀.heap.get? b=some o∧X.H₀ b=none
 bsz:X.base.objs.size≤X.s₀.heap.objs.size
 noex:∀b o,X.base.get? b=some o→b∉X.ex
 exfs:∀b∈X.ex,b∉X.fs
 funs:X.s₀.heap.FunFrames X.base X.outer
 frf:∀b∈X.fs,X.H₀ b=none
structure Inv (X:Cx) (pins:List (Addr×Obj)) (σ:List (Option V)) (H:Hp) (s:Shared):Prop where
 ok:X.Ok
 os:s.os=X.s₀.os
 bare:AllBare s.gens
 base:Un X.fs X.ex X.H₀ H X.s₀.heap s.heap
 loc:∃m,s.heap.Ns X.env.locals m∧∀(i:Nat) (x:Str) (v:V),X.N[i]?=some x→σ[i]?=some (some v)→JC X.env.scope x→∃u,RelV v u∧Ox X.env s.heap m x u
 cell:∀x c,X.env.cells.lookup x=some c→∃v,s.heap.IsCell c v
 free:H X.env.locals=none
 freeC:∀x c,X.env.cells.lookup x=some c→H c=none
 pin:∀p∈X.pn++pins,s.heap.get? p.1=some p.2∧H p.1=none∧p.1≠X.env.locals∧p.1∉X.fs∧∀v,p.2.data≠.cell v
 hok:HOk X.prog X.w H s.heap
 len:σ.length=X.N.length
section
variable {X:Cx} {pins:List (Addr×Obj)} {σ:List (Option V)} {H H':Hp} {s:Shared} {h':Heap}
theorem Cx.Ok.nofr (ok:X.Ok) {b:Addr} {o:Obj} (e:X.base.get? b=some o):b∉X.fs:=fun hb=>by have:=(ok.funs.mem hb).1;rw [e] at this;cases this
theorem Inv.bs (I:Inv X pins σ H s):∀b o,X.base.get? b=some o→s.heap.get? b=some o∧H b=none:=fun b o e=>⟨I.base.keep b o (I.ok.bs b o e).1 (I.ok.bs b o e).2 (I.ok.nofr e) (I.ok.noex b o e),I.base.free b o (I.ok.bs b o e).1 (I.ok.bs b o e).2 (I.ok.noex b o e)⟩
theorem Inv.bk (I:Inv X pins σ H s):∀b o,X.base.get? b=some o→s.heap.get? b=some o:=fun b o e=>(I.bs b o e).1
theorem Inv.mod (I:Inv X pins σ H s):Mod X.K X.mg X.base:=I.ok.mod
theorem Inv.kIn (I:Inv X pins σ H s):X.K.In s.heap:=I.ok.mod.kin.keeps I.bk
theorem Inv.nolimit (I:Inv X pins σ H s):s.heap.NoLimit:=I.ok.mod.nolimit.keeps I.bk
theorem Inv.lt (I:Inv X pins σ H s):X.env.locals<s.heap.objs.size:=let ⟨_,hn,_⟩:=I.loc;hn.lt
theorem Inv.sz (I:Inv X pins σ H s):X.s₀.heap.objs.size≤s.heap.objs.size:=Br I.ok.above (EH I.lt)
theorem Inv.nofs (I:Inv X pins σ H s) {a:Addr} (h:s.heap.objs.size≤a):a∉X.fs:=fun hb=>by obtain ⟨_,o,ho,_⟩:=I.ok.funs.mem hb;exact absurd (AU (AC ho) (Br I.sz h)) (CB _)
theorem Inv.cne (I:Inv X pins σ H s):∀x c,X.env.cells.lookup x=some c→c≠X.env.locals:=fun x c e z=>by obtain ⟨v,o,ho,hd⟩:=I.cell x c e;obtain ⟨m,⟨o',es,ep,ho',hd',_⟩,_⟩:=I.loc;rw [z,ho'] at ho;cases ho;rw [hd'] at hd;cases hd
theorem Inv.funs (I:Inv X pins σ H s):s.heap.FunFrames X.base X.outer:=by
 have all:∀(l:List Env),(∀b∈frs l,b∈X.fs)→X.s₀.heap.FunFrames X.base l→s.heap.FunFrames X.base l:=by
  intro l
  induction l with
  |nil=>intro _ _;trivial
  |cons env r ih=>intro hs hl;obtain ⟨hk,⟨L,o,hf,hn,ho,hd⟩,hr⟩:=hl;have hL:L∈X.fs:=hs L (by unfold frs;rw [ED,hf];exact AK);obtain ⟨sl,e⟩:=I.base.slot L o ho (I.ok.frf L hL) hL fun z=>I.ok.exfs L z hL;exact ⟨hk,⟨L,_,hf,hn,e,hd⟩,ih (fun b hb=>hs b (by unfold frs;rw [ED,hf];exact AN _ hb)) hr⟩
 exact all X.outer (fun _ hb=>hb) I.ok.funs
theorem Inv.stack (I:Inv X pins σ H s):s.heap.FunFrames X.base X.stack:=by
 rcases I.ok.stk with e |⟨e,hf⟩
 ·rw [e];exact I.funs
 ·rw [e];obtain ⟨m,hn,_⟩:=I.loc;refine .cons (by rw [I.ok.kind];decide) hf hn ?_ I.funs;exact Heap.get?_none_of_le (Br I.ok.bsz I.ok.above)
theorem Inv.stkSub (I:Inv X pins σ H s):∀b∈frs X.stack,b∈X.env.locals::X.fs:=fun b hb=>by
 rcases I.ok.stk with e |⟨e,hf⟩
 ·rw [e] at hb;exact AN _ hb
 ·rw [e] at hb;unfold frs at hb;rw [ED,hf] at hb;exact hb
theorem Inv.stkFree (I:Inv X pins σ H s):∀b∈frs X.stack,H b=none:=fun b hb=>by
 rcases qa5.mp (I.stkSub b hb) with e |hb
 ·rw [e];exact I.free
 ·obtain ⟨_,o,ho,_⟩:=I.ok.funs.mem hb;exact I.base.free b o ho (I.ok.frf b hb) fun z=>I.ok.exfs b z hb
theorem Inv.step {g':Array GenState} {t':Nat} {d':Drawn} {ch:List Addr} (I:Inv X pins σ H s)
 (hch:∀b∈ch,(b∈X.ex∨X.s₀.heap.objs.size≤b)∧b≠X.env.locals∧(∀x c,X.env.cells.lookup x=some c→c≠b)∧∀p∈X.pn++pins,p.1≠b)
 (keep:∀b o,b≠X.env.locals→b∉X.fs→b∉ch→s.heap.get? b=some o→H b=none→h'.get? b=some o)
 (slot:∀b o,b≠X.env.locals→b∈X.fs→b∉ch→s.heap.get? b=some o→H b=none→∃sl,h'.get? b=some {o with slots:=sl}) (free:∀b o,b∉ch→s.heap.get? b=some o→H b=none→H' b=none)
 (there:∀b o,b∉ch→s.heap.get? b=some o→∃o',h'.get? b=some o')
 (tups:∀b xs,H b=some (.tup xs)→H' b=some (.tup xs)) (frzs:∀b o u,H b=some (.frz o u)→H' b=some (.frz o u)) (tbls:∀b ps,H b=some (.tbl ps)→∃more,H' b=some (.tbl (ps++more)))
 (ns:∀m,s.heap.Ns X.env.locals m→h'.Ns X.env.locals m) (hok:HOk X.prog X.w H' h') (hg:AllBare g'):
 Inv X pins σ H' {s with heap:=h',gens:=g',drawn:=d',toks:=t'}:=by
 have neL:∀b o,X.s₀.heap.get? b=some o→b≠X.env.locals:=fun b o e=>Bf (AU (AC e) I.ok.above);have neC:∀b o,X.s₀.heap.get? b=some o→b∉X.ex→b∉ch:=fun b o e hx hb=>by
  rcases (hch b hb).1 with z |z
  ·exact hx z
  ·exact absurd (AU (AC e) z) (CB _)
 have cellK:∀x c,X.env.cells.lookup x=some c→∀v,s.heap.IsCell c v→h'.IsCell c v:=fun x c e v z1_=>by
  obtain ⟨o,ho,hd⟩:=z1_;have nch:c∉ch:=fun z=>(hch c z).2.2.1 x c e rfl
  by_cases hc:c∈X.fs
  ·obtain ⟨sl,q⟩:=slot c o (I.cne x c e) hc nch ho (I.freeC x c e);exact ⟨_,q,hd⟩
  ·exact ⟨o,keep c o (I.cne x c e) hc nch ho (I.freeC x c e),hd⟩
 refine ⟨I.ok,I.os,hg,⟨fun b o e n hb hx=>?_,fun b o e n hb hx=>?_,fun b o e n hx=>?_,fun b o e hx=>?_,fun b xs e=>tups b xs (I.base.tups b xs e),fun b o xs e=>frzs b o xs (I.base.frzs b o xs e),fun b ps e=>?_⟩,?_,fun x c e=>?_,?_,fun x c e=>?_,fun p hp=>?_,hok,I.len⟩
 ·exact keep b o (neL b o e) hb (neC b o e hx) (I.base.keep b o e n hb hx) (I.base.free b o e n hx)
 ·obtain ⟨sl,e1⟩:=I.base.slot b o e n hb hx;obtain ⟨sl',e2⟩:=slot b _ (neL b o e) hb (neC b o e hx) e1 (I.base.free b o e n hx);exact ⟨sl',e2⟩
 ·obtain ⟨o',e1⟩:=I.base.there b o e hx;exact free b o' (neC b o e hx) e1 (I.base.free b o e n hx)
 ·obtain ⟨o',e1⟩:=I.base.there b o e hx;exact there b o' (neC b o e hx) e1
 ·obtain ⟨m1,e1⟩:=I.base.tbls b ps e;obtain ⟨m2,e2⟩:=tbls b _ e1;exact ⟨m1++m2,by rw [e2,Array.append_assoc]⟩
 ·obtain ⟨m,hn,hl⟩:=I.loc;refine ⟨m,ns m hn,fun i x v e1 e2 e3=>?_⟩;obtain ⟨u,r,l⟩:=hl i x v e1 e2 e3;refine ⟨u,r,?_⟩;rcases l with l |⟨k,c,e,z⟩
  ·exact .inl l
  ·exact .inr ⟨k,c,e,cellK x c e _ z⟩
 ·obtain ⟨v,z⟩:=I.cell x c e;exact ⟨v,cellK x c e v z⟩
 ·obtain ⟨m,⟨o,_,_,ho,_⟩,_⟩:=I.loc;exact free _ o (fun z=>(hch _ z).2.1 rfl) ho I.free
 ·obtain ⟨v,o,ho,hd⟩:=I.cell x c e;exact free c o (fun z=>(hch c z).2.2.1 x c e rfl) ho (I.freeC x c e)
 ·obtain ⟨e,n,ne,nf,d⟩:=I.pin p hp;have nch:p.1∉ch:=fun z=>(hch p.1 z).2.2.2 p hp rfl;exact ⟨keep p.1 p.2 ne nf nch e n,free p.1 p.2 nch e n,ne,nf,d⟩
theorem Inv.un {t':Nat} (I:Inv X pins σ H s) (u:Un X.fs [] H H' s.heap h') (hok:HOk X.prog X.w H' h'):Inv X pins σ H' {s with heap:=h',toks:=t'}:=by
 obtain ⟨m,⟨o,es,ep,ho,r⟩,_⟩:=id I.loc;obtain ⟨sl,hL⟩:=u.any ho I.free (by simp);exact I.step (g':=s.gens) (d':=s.drawn) (ch:=[]) (fun _ z=>nomatch z) (fun b o _ hb _ e n=>u.keep b o e n hb (by simp)) (fun b o _ hb _ e n=>u.slot b o e n hb (by simp)) (fun b o _ e n=>u.free b o e n (by simp)) (fun b o _ e=>u.there b o e (by simp)) u.tups u.frzs u.tbls (fun m' hm=>by obtain ⟨o',es',ep',ho',r'⟩:=hm;rw [ho] at ho';cases ho';exact ⟨_,es',ep',hL,r'⟩) hok I.bare
theorem Inv.call {g':Array GenState} {t':Nat} {d':Drawn} {ch:List Addr} (I:Inv X pins σ H s) (u:Un (frs X.stack) ch H H' s.heap h') (hok:HOk X.prog X.w H' h') (hg:AllBare g')
 (hch:∀b∈ch,(b∈X.ex∨X.s₀.heap.objs.size≤b)∧b≠X.env.locals∧(∀x c,X.env.cells.lookup x=some c→c≠b)∧∀p∈X.pn++pins,p.1≠b):
 Inv X pins σ H' {s with heap:=h',gens:=g',drawn:=d',toks:=t'}:=by
 obtain ⟨m,⟨o,es,ep,ho,r⟩,_⟩:=id I.loc;obtain ⟨sl,hL⟩:=u.any ho I.free fun z=>(hch _ z).2.1 rfl;exact I.step (ch:=ch) hch (fun b o hL hb hc e n=>u.keep b o e n (fun z=>(qa5.mp (I.stkSub b z)).elim hL hb) hc) (fun b o _ _ hc e n=>u.any e n hc) (fun b o hc e n=>u.free b o e n hc) (fun b o hc e=>u.there b o e hc) u.tups u.frzs u.tbls (fun m' hm=>by obtain ⟨o',es',ep',ho',r'⟩:=hm;rw [ho] at ho';cases ho';exact ⟨_,es',ep',hL,r'⟩) hok hg
theorem Inv.turned {t':Nat} (I:Inv X pins σ H s) (k:∀b o,b≠it→s.heap.get? b=some o→h'.get? b=some o) (hn:H it=none) (hL:it≠X.env.locals)
 (h1:it∈X.ex∨X.s₀.heap.objs.size≤it) (h2:∀x c,X.env.cells.lookup x=some c→c≠it) (h3:∀p∈X.pn++pins,p.1≠it):Inv X pins σ H {s with heap:=h',toks:=t'}:=by
 have nit:∀b u,H b=some u→b≠it:=fun b u e z=>by rw [z,hn] at e;cases e
 refine I.step (g':=s.gens) (d':=s.drawn) (ch:=[it]) (fun b hb=>?_) (fun b o _ _ hc e _=>k b o (fun z=>hc (by simp [z])) e) (fun b o _ _ hc e _=>⟨o.slots,k b o (fun z=>hc (by simp [z])) e⟩) (fun _ _ _ _ n=>n)
  (fun b o hc e=>⟨o,k b o (fun z=>hc (by simp [z])) e⟩) (fun _ _ e=>e) (fun _ _ _ e=>e) (fun b ps e=>⟨#[],by rw [e];simp⟩) (fun m hm=>?_) (fun b u e=>?_) I.bare
 ·have e:b=it:=by simpa using hb
  subst e;exact ⟨h1,hL,h2,h3⟩
 ·obtain ⟨o,es,ep,ho,r⟩:=hm;exact ⟨o,es,ep,k _ o (Ne.symm hL) ho,r⟩
 ·refine (I.hok b u e).stay (fun c v hc q=>k c v ?_ q) (fun _ q=>q) fun _ _ q=>q;rcases hc with z |z
  ·rw [z];exact nit b u e
  ·exact nit c _ z
theorem Inv.tok (I:Inv X pins σ H s) (t:Nat):Inv X pins σ H {s with toks:=t}:=I.un (h':=s.heap) (t':=t) Un.refl I.hok
theorem Inv.kept {t':Nat} (I:Inv X pins σ H s) (k:∀b u,s.heap.get? b=some u→h'.get? b=some u):Inv X pins σ H {s with heap:=h',toks:=t'}:=I.un (Un.kept k) (I.hok.kept k)
theorem Inv.laid {o:HO} {t':Nat} (I:Inv X pins σ H s) (k:∀b u,s.heap.get? b=some u→h'.get? b=some u) (hp:s.heap.objs.size≤a) (new:ObjOk X.prog X.w (Aq H a o) h' a o):
 Inv X pins σ (Aq H a o) {s with heap:=h',toks:=t'}:=I.un (Un.laid k hp (I.hok.fresh hp)) (I.hok.laid k hp new)
theorem Inv.write {o:HO} {t':Nat} (I:Inv X pins σ H s) (mu:JA (H x)) (he:e=x∨H e=some (.own x)) (k:∀b u,b≠e→s.heap.get? b=some u→h'.get? b=some u) (heo:∃u,h'.get? e=some u)
 (new:ObjOk X.prog X.w (Aq H x o) h' x o):Inv X pins σ (Aq H x o) {s with heap:=h',toks:=t'}:=I.un (Un.write mu he k heo) (I.hok.write mu he k heo new)
theorem Inv.weak {σ':List (Option V)} (I:Inv X pins σ H s) (hl:σ'.length=σ.length) (w:∀(i:Nat) v,σ'[i]?=some (some v)→σ[i]?=some (some v)):Inv X pins σ' H s:=
 ⟨I.ok,I.os,I.bare,I.base,let ⟨m,hn,hl'⟩:=I.loc;⟨m,hn,fun i x v e1 e2 e3=>hl' i x v e1 (w i v e2) e3⟩,I.cell,I.free,I.freeC,I.pin,I.hok,hl.trans I.len⟩
theorem Inv.pins_of {pins':List (Addr×Obj)} (I:Inv X pins σ H s) (h:∀p∈pins',s.heap.get? p.1=some p.2∧H p.1=none∧p.1≠X.env.locals∧p.1∉X.fs∧∀v,p.2.data≠.cell v):Inv X pins' σ H s:=
 ⟨I.ok,I.os,I.bare,I.base,I.loc,I.cell,I.free,I.freeC,fun p hp=>(qaP.mp hp).elim (fun z=>I.pin p (GC _ z)) (h p),I.hok,I.len⟩
theorem LN {N:List Str} (hN:N.Nodup) {i j:Nat} {x:Str} (a:N[i]?=some x) (b:N[j]?=some x):i=j:=by obtain ⟨h1,e1⟩:=qa1.mp a;obtain ⟨h2,e2⟩:=qa1.mp b;exact (GF hN).mp (e1.trans e2.symm)
theorem JD {i:Nat} {x:Str} {Q:Unit→Shared→Prop} (I:Inv X pins σ H s) (hN:X.N.Nodup) (hi:X.N[i]?=some x) (hx:F0 X.env.scope x) (r:RelV v u)
 (h:∀s',Inv X pins (σ.set i (some v)) H s'→(∃a,Heap.SameBut a s.heap s'.heap∧(a=X.env.locals∨X.env.cells.lookup x=some a))→Q () s') (hf:X.fn x=true∨X.env.scope.names.lookup x=some .local:=by first |exact .inl rfl |exact .inr rfl |assumption):wpAny M A (storeName X.env x u) Q E s:=by
 obtain ⟨m,hn,hl⟩:=id I.loc;have hcls:(X.env.scope.kind==.class||(X.env.scope.kind==.module&&X.env.locals != X.env.globals))=false:=by rw [I.ok.kind];rfl
 have hiσ:i < σ.length:=by rw [I.len];exact (qa1.mp hi).1
 have cne:=I.cne;have tracked:∀{a:Addr} {h':Heap},(∃o,s.heap.get? a=some o∧H a=none)→Heap.SameBut a s.heap h'→HOk X.prog X.w H h':=fun {a h'} ha hs b ob e=>by
  obtain ⟨_,_,hfree⟩:=ha;refine (I.hok b ob e).stay (fun c w' hc q=>(hs.2 c ?_).trans q) (fun _ q=>q) fun _ _ q=>q;rintro rfl;rcases hc with rfl |hc
  ·rw [hfree] at e;cases e
  ·rw [hfree] at hc;cases hc
 rcases hx with hk |hk
 ·refine wpAny_storeName_local hk hn (fun h' hn' hs=>?_) hcls;obtain ⟨oL,_,_,hoL,_⟩:=id hn;refine h _ ⟨I.ok,I.os,I.bare,⟨fun b o e n hb hx=>?_,fun b o e n hb hx=>?_,I.base.free,fun b o e hx=>?_,I.base.tups,I.base.frzs,I.base.tbls⟩,⟨_,hn',fun j y v' e1 e2 e3=>?_⟩,fun y c e=>?_,I.free,I.freeC,fun p hp=>?_,tracked ⟨oL,hoL,I.free⟩ hs,by simpa using I.len⟩ ⟨_,hs,.inl rfl⟩
  ·exact (hs.2 b (Bf (AU (AC e) I.ok.above))).trans (I.base.keep b o e n hb hx)
  ·obtain ⟨sl,e1⟩:=I.base.slot b o e n hb hx;exact ⟨sl,(hs.2 b (Bf (AU (AC e) I.ok.above))).trans e1⟩
  ·obtain ⟨o',e1⟩:=I.base.there b o e hx;exact ⟨o',(hs.2 b (Bf (AU (AC e) I.ok.above))).trans e1⟩
  ·by_cases hj:j=i
   ·subst hj;rw [hi] at e1;cases e1;rw [BZ hiσ] at e2;cases e2;exact ⟨u,r,.inl ⟨hk,by simp⟩⟩
   ·rw [Be (Ne.symm hj)] at e2;obtain ⟨u',r',q⟩:=hl j y v' e1 e2 e3;refine ⟨u',r',?_⟩;rcases q with ⟨k,e⟩ |⟨k,c,e,z⟩
    ·refine .inl ⟨k,?_⟩;have:y≠x:=fun e=>hj (LN hN e1 (e ▸ hi));simp [this,e]
    ·exact .inr ⟨k,c,e,z.sameBut hs (cne y c e)⟩
  ·obtain ⟨w',z⟩:=I.cell y c e;exact ⟨w',z.sameBut hs (cne y c e)⟩
  ·obtain ⟨e,n,ne,nf,d⟩:=I.pin p hp;exact ⟨(hs.2 p.1 ne).trans e,n,ne,nf,d⟩
 ·have hfn:X.fn x=true:=by
   rcases hf with z |z
   ·exact z
   ·rw [z] at hk;cases hk
  obtain ⟨c,hc⟩:=I.ok.has x (.inl hk);obtain ⟨w',z⟩:=I.cell x c hc;refine wpAny_storeName_cell I.ok.kind hk hc z (fun h' hc' hs=>?_);obtain ⟨oc,hoc,hocd⟩:=id z;refine h {s with heap:=h'} ⟨I.ok,I.os,I.bare,⟨fun b o e n hb hx=>?_,fun b o e n hb hx=>?_,I.base.free,fun b o e hx=>?_,I.base.tups,I.base.frzs,I.base.tbls⟩,⟨m,hn.sameBut hs (Ne.symm (cne x c hc)),fun j y v' e1 e2 e3=>?_⟩,fun y c' e=>?_,I.free,I.freeC,fun p hp=>?_,tracked ⟨oc,hoc,I.freeC x c hc⟩ hs,by simpa using I.len⟩ ⟨c,hs,.inr hc⟩
  ·exact (hs.2 b (Bf (AU (AC e) (I.ok.cab x c hfn hc)))).trans (I.base.keep b o e n hb hx)
  ·obtain ⟨sl,e1⟩:=I.base.slot b o e n hb hx;exact ⟨sl,(hs.2 b (Bf (AU (AC e) (I.ok.cab x c hfn hc)))).trans e1⟩
  ·obtain ⟨o',e1⟩:=I.base.there b o e hx;exact ⟨o',(hs.2 b (Bf (AU (AC e) (I.ok.cab x c hfn hc)))).trans e1⟩
  ·by_cases hj:j=i
   ·subst hj;rw [hi] at e1;cases e1;rw [BZ hiσ] at e2;cases e2;exact ⟨u,r,.inr ⟨.inl hk,c,hc,hc'⟩⟩
   ·rw [Be (Ne.symm hj)] at e2;obtain ⟨u',r',q⟩:=hl j y v' e1 e2 e3;refine ⟨u',r',?_⟩;rcases q with q |⟨k,c',e,z'⟩
    ·exact .inl q
    ·refine .inr ⟨k,c',e,z'.sameBut hs ?_⟩;rintro rfl;exact hj (LN hN e1 (I.ok.inj _ _ _ e hc ▸ hi))
  ·by_cases hcc:c'=c
   ·subst hcc;exact ⟨_,hc'⟩
   ·obtain ⟨w2,z2⟩:=I.cell y c' e;exact ⟨w2,z2.sameBut hs hcc⟩
  ·obtain ⟨e,n,ne,nf,d⟩:=I.pin p hp;refine ⟨(hs.2 p.1 ?_).trans e,n,ne,nf,d⟩;intro q;rw [q,hoc] at e;have q':oc=p.2:=Option.some.inj e;exact d w' (by rw [←q'];exact hocd)
theorem JE {i:Nat} {x:Str} {Q:Unit→Shared→Prop} (I:Inv X pins σ H s) (hN:X.N.Nodup) (hi:X.N[i]?=some x) (hx:F0 X.env.scope x) (r:RelV v u)
 (h:∀s',Inv X pins (σ.set i (some v)) H s'→Q () s') (hf:X.fn x=true∨X.env.scope.names.lookup x=some .local:=by first |exact .inl rfl |exact .inr rfl |assumption):wpAny M A (storeName X.env x u) Q E s:=
 JD I hN hi hx r (fun s' I' _=>h s' I') hf
theorem Inv.call' {s':Shared} {ch:List Addr} (I:Inv X pins σ H s) (ho:s'.os=s.os) (u:Un (frs X.stack) ch H H' s.heap s'.heap) (hok:HOk X.prog X.w H' s'.heap) (hg:AllBare s'.gens)
 (hch:∀b∈ch,(b∈X.ex∨X.s₀.heap.objs.size≤b)∧b≠X.env.locals∧(∀x c,X.env.cells.lookup x=some c→c≠b)∧∀p∈X.pn++pins,p.1≠b):Inv X pins σ H' s':=by
 obtain ⟨h',g',d',t',o'⟩:=s';have e:o'=s.os:=ho;subst e;exact I.call (g':=g') (t':=t') (d':=d') u hok hg hch
end
abbrev XK:=Value→Option Addr→Hp→Prop
abbrev St:=List (Option V)
abbrev VK:=V→Hp→Prop
abbrev TE:=St→Hp→VK→Prop
abbrev TT:=St→Hp→(Bool→Hp→Prop)→Prop
abbrev TA:=St→Hp→(List V→Hp→Prop)→Prop
structure Dz where
 nx:St→Hp→Prop
 rt:VK
 bk:St→Hp→Prop:=fun _ _=>False
 ct:St→Hp→Prop:=fun _ _=>False
abbrev TS:=Dz→St→Hp→Prop
inductive EP (X:Cx) (pins:List (Addr×Obj)) (σ:St) (Q:VK) (u:Value) (s':Shared):Prop where
 |mk (v:V) (H':Hp) (i:Inv X pins σ H' s') (r:RelV v u) (q:Q v H'):EP X pins σ Q u s'
inductive TP (X:Cx) (pins:List (Addr×Obj)) (σ:St) (Q:Bool→Hp→Prop) (b:Bool) (s':Shared):Prop where
 |mk (H':Hp) (i:Inv X pins σ H' s') (q:Q b H'):TP X pins σ Q b s'
inductive AP (X:Cx) (pins:List (Addr×Obj)) (σ:St) (Q:List V→Hp→Prop) (us:List Value) (s':Shared):Prop where
 |mk (vs:List V) (H':Hp) (i:Inv X pins σ H' s') (r:Vals vs us) (q:Q vs H'):AP X pins σ Q us s'
inductive SN (X:Cx) (pins:List (Addr×Obj)) (q:St→Hp→Prop) (s':Shared):Prop where
 |mk (σ':St) (H':Hp) (i:Inv X pins σ' H' s') (p:q σ' H'):SN X pins q s'
inductive SR (X:Cx) (pins:List (Addr×Obj)) (q:V→Hp→Prop) (u:Value) (s':Shared):Prop where
 |mk (v:V) (σ':St) (H':Hp) (i:Inv X pins σ' H' s') (r:RelV v u) (p:q v H'):SR X pins q u s'
def SP (X:Cx) (pins:List (Addr×Obj)) (D:Dz) (f:Flow) (s':Shared):Prop:=
 match f with
 |.next=>SN X pins D.nx s'
 |.brk=>SN X pins D.bk s'
 |.cont=>SN X pins D.ct s'
 |.ret u=>SR X pins D.rt u s'
def PE (X:Cx) (e:Expr) (t:TE):Prop:=
 ∀(pins:List (Addr×Obj)) (s:Shared) (σ:St) (H:Hp) (Q:VK),Inv X pins σ H s→t σ H Q→wpAny (model X.prog X.w) X.A (eval e X.env) (EP X pins σ Q) X.xe s
def PT (X:Cx) (e:Expr) (t:TT):Prop:=
 ∀(pins:List (Addr×Obj)) (s:Shared) (σ:St) (H:Hp) (Q:Bool→Hp→Prop),Inv X pins σ H s→t σ H Q→wpAny (model X.prog X.w) X.A (isTrue e X.env (eval e X.env)) (TP X pins σ Q) X.xe s
def PW (X:Cx) (e:Expr) (t:TT):Prop:=
 ∀(Ep:Sem Value) (pins:List (Addr×Obj)) (s:Shared) (σ:St) (H:Hp) (Q:Bool→Hp→Prop),Inv X pins σ H s→t σ H Q→wpAny (model X.prog X.w) X.A (isTrue e X.env Ep) (TP X pins σ Q) X.xe s
theorem PW.pt {t:TT} (h:PW X e t):PT X e t:=h _
def PA (X:Cx) (es:List Expr) (t:TA):Prop:=
 ∀(pos:Pos) (pins:List (Addr×Obj)) (s:Shared) (σ:St) (H:Hp) (Q:List V→Hp→Prop),Inv X pins σ H s→t σ H Q→wpAny (model X.prog X.w) X.A (spliced (backTo pos (starEach es X.env))) (AP X pins σ Q) X.xe s
def PS (X:Cx) (st:Stmt) (t:TS):Prop:=
 ∀(pins:List (Addr×Obj)) (s:Shared) (σ:St) (H:Hp) (D:Dz),Inv X pins σ H s→t D σ H→wpAny (model X.prog X.w) X.A (exec st X.env) (SP X pins D) X.xe s
def CQ (X:Cx) (st:List Stmt) (t:TS):Prop:=
 ∀(pins:List (Addr×Obj)) (s:Shared) (σ:St) (H:Hp) (D:Dz),Inv X pins σ H s→t D σ H→wpAny (model X.prog X.w) X.A (execs st X.env) (SP X pins D) X.xe s
theorem Au {α:Type} {t:Sem α} {Q Q':α→Shared→Prop} {s:Shared} (h:wpAny M A t Q E s) (hQ:∀a s,Q a s→Q' a s):wpAny M A t Q' E s:=A1 h hQ fun _ _ x=>x
section
variable {X:Cx}
def Oy (i:Nat):TE:=fun σ H Q=>∃v,σ[i]?=some (some v)∧Q v H
def tC (v:V):TE:=fun _ H Q=>Q v H
theorem LO {i:Nat} (hN:X.N[i]?=some x) (hv:JC X.env.scope x) (hd:(x==("__debug__":Str))=false:=by decide) (hcd:(x==("__classdict__":Str))=false:=by decide):PE X (.Name x pos) (Oy i):=by
 intro pins s σ H Q I h;obtain ⟨v,e,h⟩:=h;obtain ⟨m,hn,hl⟩:=I.loc;obtain ⟨u,r,l⟩:=hl i x v hN e hv;have AJ:EP X pins σ Q u s:=⟨v,H,I,r,h⟩
 rcases l with ⟨hk,hm⟩ |⟨hk,c,hc,hcell⟩
 ·exact wpAny_Name (wpAny_loadName_local I.ok.kind hk hn hm AJ) hd
 ·rcases hk with hk |hk
  ·exact wpAny_Name (wpAny_loadName_cell I.ok.kind hk hc hcell AJ) hd
  ·exact wpAny_Name (wpAny_loadName_free I.ok.kind hk hc hcell AJ hcd) hd
theorem LP {i j pos}:PE X (.Constant (.int i) j pos) (tC (.int i)):=fun _ _ _ H _ I h=>wpAny_Constant_int ⟨.int i,H,I.tok _,⟨_,rfl⟩,h⟩
theorem UO {b j pos}:PE X (.Constant (.bool b) j pos) (tC (.bl b)):=fun _ _ _ H _ I h=>Constant_bool ⟨.bl b,H,I,rfl,h⟩
theorem UP {j pos}:PE X (.Constant .none j pos) (tC .non):=fun _ _ _ H _ I h=>Constant_none ⟨.non,H,I,rfl,h⟩
theorem UQ {x j pos}:PE X (.Constant (.str x) j pos) (tC (.str x)):=fun _ _ _ H _ I h=>Calls.Constant_str ⟨.str x,H,I.tok _,⟨_,rfl⟩,h⟩
def Gl (X:Cx) (x:Str):Prop:=X.env.kindOf x=some .globalImplicit
theorem GI {σ:St} {Q:Value→Shared→Prop} (I:Inv X pins σ H s) (hg:Gl X x) (hm:X.mg x=some u) (h:Q u s)
 (hd:(x==("__debug__":Str))=false:=by decide):wpAny (model X.prog X.w) X.A (eval (.Name x pos) X.env) Q E s:=
 Calls.Name_function_global I.ok.kind hg (Calls.loadGlobal_global (by rw [I.ok.glob];exact I.mod.glob.keeps I.bk) hm h) hd
theorem GJ {σ:St} {x:Str} {Q:Value→Shared→Prop} (I:Inv X pins σ H s) (hg:Gl X x) (hm:X.mg x=none) (hv:bootBuiltins x=some u) (h:Q u s)
 (hn:x≠"__name__":=by decide) (hd:(x==("__debug__":Str))=false:=by decide):wpAny (model X.prog X.w) X.A (eval (.Name x pos) X.env) Q E s:=by
 obtain ⟨mb,h1,h2⟩:=I.mod.blt;exact Calls.Name_function_global I.ok.kind hg (Calls.loadGlobal_builtin (by rw [I.ok.glob];exact I.mod.glob.keeps I.bk) hm (by rw [I.ok.blt];exact h1.keeps I.bk) ((h2 x hn).trans hv) h) hd
theorem UR (hg:Gl X x) (hm:X.mg x=some u) (r:RelV v u) (hd:(x==("__debug__":Str))=false:=by decide):PE X (.Name x pos) (tC v):=
 fun _ _ _ H _ I h=>GI I hg hm ⟨v,H,I,r,h⟩ hd
theorem US {x:Str} (hg:Gl X x) (hm:X.mg x=none) (hv:bootBuiltins x=some u) (r:RelV v u) (hn:x≠"__name__":=by decide) (hd:(x==("__debug__":Str))=false:=by decide):PE X (.Name x pos) (tC v):=
 fun _ _ _ H _ I h=>GJ I hg hm hv ⟨v,H,I,r,h⟩ hn hd
variable {a b:Expr} {ta tb:TE} {pos:Pos}
variable {tA tB':TT} {rest:List Expr}
def UT (t u:TT):TT:=fun σ H Q=>t σ H fun c H1=>if c=true then u σ H1 Q else Q false H1
def UU (t u:TT):TT:=fun σ H Q=>t σ H fun c H1=>if c=true then Q true H1 else u σ H1 Q
def UV (t:TT):TT:=fun σ H Q=>t σ H fun c H1=>Q (!c) H1
theorem UW (ha:PT X a tA):PW X (.BoolOp .And [a] pos) tA:=by
 intro wh pins s σ H Q I h;refine isTrue_and (Au (ha pins s σ H Q I h) fun c s1 e=>?_);cases c with
 |true=>exact isTrue_and_nil e
 |false=>exact e
theorem UX (ha:PT X a tA):PW X (.BoolOp .Or [a] pos) tA:=by
 intro wh pins s σ H Q I h;refine isTrue_or (Au (ha pins s σ H Q I h) fun c s1 e=>?_);cases c with
 |false=>exact isTrue_or_nil e
 |true=>exact e
theorem UY (ha:PT X a tA) (hb:PW X (.BoolOp .And (b::rest) pos) tB'):PW X (.BoolOp .And (a::b::rest) pos) (UT tA tB'):=by
 intro wh pins s σ H Q I h;refine isTrue_and (Au (ha pins s σ H _ I h) fun c s1 z8_=>?_);obtain ⟨H1,I1,q1⟩:=z8_;cases c with
 |true=>exact hb wh pins s1 σ H1 Q I1 q1
 |false=>exact ⟨H1,I1,q1⟩
theorem UZ (ha:PT X a tA) (hb:PW X (.BoolOp .Or (b::rest) pos) tB'):PW X (.BoolOp .Or (a::b::rest) pos) (UU tA tB'):=by
 intro wh pins s σ H Q I h;refine isTrue_or (Au (ha pins s σ H _ I h) fun c s1 z9_=>?_);obtain ⟨H1,I1,q1⟩:=z9_;cases c with
 |true=>exact ⟨H1,I1,q1⟩
 |false=>exact hb wh pins s1 σ H1 Q I1 q1
theorem U0 (ha:PT X a tA):PT X (.UnaryOp .Not a pos) (UV tA):=by intro pins s σ H Q I h;exact isTrue_not (Au (ha pins s σ H (fun c H1=>Q (!c) H1) I h) fun c s1 z=>by cases z with |mk H1 I1 q=>exact ⟨H1,I1,q⟩)
def U1 (ta tb:TE):TE:=fun σ H Q=>ta σ H fun x H1=>∃c,x=.bl c∧if c=true then tb σ H1 Q else Q (.bl false) H1
def U2 (ta tb:TE):TE:=fun σ H Q=>ta σ H fun x H1=>∃c,x=.bl c∧if c=true then Q (.bl true) H1 else tb σ H1 Q
def U3 (ta:TE):TE:=fun σ H Q=>ta σ H fun x H1=>∃c,x=.bl c∧Q (.bl (!c)) H1
theorem U4 {op} (h:PE X a t):PE X (.BoolOp op [a] pos) t:=fun pins s σ H Q I hw=>BoolOp_one (h pins s σ H Q I hw)
theorem U5 (ha:PE X a ta) (hb:PE X (.BoolOp .And (b::rest) pos) tb):PE X (.BoolOp .And (a::b::rest) pos) (U1 ta tb):=by
 intro pins s σ H Q I h;refine BoolOp_and (Au (ha pins s σ H _ I h) fun v s1 z10_=>?_);obtain ⟨x,H1,I1,r1,q1⟩:=z10_;obtain ⟨c,rfl,q1⟩:=q1;cases r1;refine D0 ?_;cases c with
 |true=>exact hb pins s1 σ H1 Q I1 q1
 |false=>exact ⟨.bl false,H1,I1,rfl,q1⟩
theorem U6 (ha:PE X a ta) (hb:PE X (.BoolOp .Or (b::rest) pos) tb):PE X (.BoolOp .Or (a::b::rest) pos) (U2 ta tb):=by
 intro pins s σ H Q I h;refine BoolOp_or (Au (ha pins s σ H _ I h) fun v s1 z11_=>?_);obtain ⟨x,H1,I1,r1,q1⟩:=z11_;obtain ⟨c,rfl,q1⟩:=q1;cases r1;refine D0 ?_;cases c with
 |false=>exact hb pins s1 σ H1 Q I1 q1
 |true=>exact ⟨.bl true,H1,I1,rfl,q1⟩
theorem U7 (ha:PE X a ta):PE X (.UnaryOp .Not a pos) (U3 ta):=by intro pins s σ H Q I h;refine UnaryOp_ (Au (ha pins s σ H _ I h) fun v s1 z12_=>?_);obtain ⟨x,H1,I1,r1,q1⟩:=z12_;obtain ⟨c,rfl,q1⟩:=q1;cases r1;exact not_of (D0 ⟨.bl (!c),H1,I1,rfl,q1⟩)
def U8 (t:TT) (ta tb:TE):TE:=fun σ H Q=>t σ H fun c H1=>if c=true then ta σ H1 Q else tb σ H1 Q
theorem U9 (hc:PT X c tA) (ha:PE X a ta) (hb:PE X b tb):PE X (.IfExp c a b pos) (U8 tA ta tb):=by
 intro pins s σ H Q I h;refine wpAny_IfExp (Au (hc pins s σ H _ I h) fun d s1 z13_=>?_);obtain ⟨H1,I1,q1⟩:=z13_;cases d with
 |true=>exact ha pins s1 σ H1 Q I1 q1
 |false=>exact hb pins s1 σ H1 Q I1 q1
end
def SqL (K:PySem.W.Frag) (H:Hp) (a:Addr) (xs:List V):Prop:=
 Rd H a (.lst xs)∨
  ∃(o:Obj) (its:Array Value) (n:Nat),K.lookup a=some o∧o.cls=.type "list"∧o.dict=none∧o.data=.seq its n∧its.size≤sizeLine∧Vals xs its.toList
def SqT (K:PySem.W.Frag) (H:Hp) (a:Addr) (xs:List V):Prop:=
 Rd H a (.tup xs)∨
  ∃(o:Obj) (its:Array Value) (n:Nat),K.lookup a=some o∧o.cls=.type "tuple"∧o.data=.seq its n∧its.size≤sizeLine∧Vals xs its.toList
def Va:Value→Option V
 |.none=>some .non
 |.bool b=>some (.bl b)
 |.int i _=>some (.int i)
 |.str x _=>some (.str x)
 |.bytes b _=>some (.byt b)
 |.float b _=>some (.flt b)
 |.ref a=>some (.ref a)
 |.type n=>some (.ty n)
 |_=>none
theorem RelV.abs (r:RelV x u):Va u=some x:=by
 cases x with
 |non=>cases r;rfl
 |bl _=>cases r;rfl
 |int _=>obtain ⟨t,rfl⟩:=r;rfl
 |str _=>obtain ⟨t,rfl⟩:=r;rfl
 |byt _=>obtain ⟨t,rfl⟩:=r;rfl
 |flt _=>obtain ⟨t,rfl⟩:=r;rfl
 |ref _=>cases r;rfl
 |ty _=>cases r;rfl
theorem RelV.inj (r:RelV x u) (q:RelV y u):x=y:=Option.some.inj (r.abs.symm.trans q.abs)
theorem Vals.inj (h:Vals xs us) (g:Vals ys us):xs=ys:=by
 induction h generalizing ys with
 |nil=>cases g;rfl
 |cons r t ih=>cases g with |cons r' t'=>rw [r.inj r',ih t']
section
variable {X:Cx} {pins:List (Addr×Obj)} {σ:St} {H:Hp} {s:Shared} {a:Addr} {xs ys:List V}
theorem SqL.of {K:PySem.W.Frag} (h:H a=some (.lst xs)):SqL K H a xs:=.inl (.inl h)
theorem SqT.of {K:PySem.W.Frag} (h:H a=some (.tup xs)):SqT K H a xs:=.inl (.inl h)
theorem Inv.list (I:Inv X pins σ H s) (h:SqL X.K H a xs):∃its:List Value,Vals xs its∧PlainL s.heap a its.toArray∧xs.length≤sizeLine:=by
 rcases h with h |⟨o,its,n,hk,hc,hd,hs,hz,r⟩
 ·obtain ⟨z,its,n,r,e⟩:=h.ok I.hok;exact ⟨its,r,⟨_,n,e,rfl,rfl,rfl⟩,z⟩
 ·refine ⟨its.toList,r,⟨o,n,I.kIn a o hk,hc,hd,by simpa using hs⟩,?_⟩;have e:=r.length;simp only [Array.length_toList] at e;omega
theorem Inv.tuple (I:Inv X pins σ H s) (h:SqT X.K H a xs):∃its:List Value,Vals xs its∧IsTup s.heap a its.toArray∧xs.length≤sizeLine:=by
 rcases h with h |⟨o,its,n,hk,hc,hs,hz,r⟩
 ·obtain ⟨z,its,r,p,_⟩:=h.ok I.hok;exact ⟨its,r,p,z⟩
 ·refine ⟨its.toList,r,⟨o,I.kIn a o hk,hc,n,by simpa using hs⟩,?_⟩;have e:=r.length;simp only [Array.length_toList] at e;omega
theorem Inv.list_inj (I:Inv X pins σ H s) (h:SqL X.K H a xs) (h':SqL X.K H a ys):xs=ys:=by
 obtain ⟨its,r,⟨o,n,e,_,_,d⟩,_⟩:=I.list h;obtain ⟨its',r',⟨o',n',e',_,_,d'⟩,_⟩:=I.list h';rw [e] at e';cases e';rw [d] at d';injection d' with d1 _
 have:its=its':=by simpa using congrArg Array.toList d1
 subst this;exact r.inj r'
theorem Inv.tuple_inj (I:Inv X pins σ H s) (h:SqT X.K H a xs) (h':SqT X.K H a ys):xs=ys:=by
 obtain ⟨its,r,⟨o,e,_,n,d⟩,_⟩:=I.tuple h;obtain ⟨its',r',⟨o',e',_,n',d'⟩,_⟩:=I.tuple h';rw [e] at e';cases e';rw [d] at d';injection d' with d1 _
 have:its=its':=by simpa using congrArg Array.toList d1
 subst this;exact r.inj r'
end
section
variable {X:Cx} {pins:List (Addr×Obj)} {σ:St} {H:Hp} {s:Shared} {E:Value→Shared→Prop}
end
section
variable {X:Cx} {st:Stmt} {rest:List Stmt} {t u:TS} {e:Expr} {te:TE} {pos:Pos}
def Vb:TS:=fun D σ H=>D.nx σ H
def Vc (t u:TS):TS:=fun D σ H=>t {D with nx:=u D} σ H
theorem Vd:CQ X [] Vb:=fun _ _ σ H _ I h=>wpAny_execs_nil ⟨σ,H,I,h⟩
theorem Ve (h1:PS X st t) (h2:CQ X rest u):CQ X (st::rest) (Vc t u):=by
 intro pins s σ H D I h;refine wpAny_execs_cons (Au (h1 pins s σ H {D with nx:=u D} I h) fun f s1 q=>?_);cases f with
 |next=>obtain ⟨σ',H',I',q⟩:=q;exact h2 pins s1 σ' H' D I' q
 |ret v=>exact q
 |brk=>exact q
 |cont=>exact q
theorem Vf (h1:PS X st t):CQ X [st] t:=by
 intro pins s σ H D I h;refine wpAny_execs_cons (Au (h1 pins s σ H D I h) fun f s1 q=>?_);cases f with
 |next=>exact wpAny_execs_nil q
 |ret v=>exact q
 |brk=>exact q
 |cont=>exact q
theorem Inv.quiet {σ:St} (I:Inv X pins σ H s):interactive X.env=false:=by simp [interactive,I.ok.kind]
def Vg (te:TE):TS:=fun D σ H=>te σ H fun _ H1=>D.nx σ H1
theorem Vh (he:PE X e te) (hs:swapsWith e none pos.line X.env=pure false:=by rfl):PS X (.Expr e pos) (Vg te):=by intro pins s σ H D I h;exact wpAny_Expr_any (Au (he pins s σ H _ I h) fun v s1 z16_=>by obtain ⟨x,H1,I1,r1,q1⟩:=z16_;exact (⟨σ,H1,I1,q1⟩)) I.quiet hs
def Vi (te:TE):TS:=fun D σ H=>te σ H D.rt
theorem Vj (he:PE X e te):PS X (.Return (some e) pos) (Vi te):=by intro pins s σ H D I h;exact wpAny_Return_some (Au (he pins s σ H _ I h) fun v s1 z17_=>by obtain ⟨x,H1,I1,r1,q1⟩:=z17_;exact (⟨x,σ,H1,I1,r1,q1⟩))
def Vk (c:TT) (t u:TS):TS:=fun D σ H=>c σ H fun b H1=>if b=true then t D σ H1 else u D σ H1
theorem Vl {a b:List Stmt} {tc:TT} (hc:PT X c tc) (ha:CQ X a t) (hb:CQ X b u):PS X (.If c a b pos) (Vk tc t u):=by
 intro pins s σ H D I h;refine wpAny_If (Au (hc pins s σ H _ I h) fun d s1 z18_=>?_);obtain ⟨H1,I1,q1⟩:=z18_;cases d with
 |true=>exact ha pins s1 σ H1 D I1 q1
 |false=>exact hb pins s1 σ H1 D I1 q1
def Vm:TS:=fun _ _ _=>False
theorem Vn {sts:List Stmt}:CQ X sts Vm:=fun _ _ _ _ _ _ h=>h.elim
end
abbrev TG:=V→St→Hp→(St→Hp→Prop)→Prop
abbrev Fm:=List V→St→Hp→(St→Hp→Prop)→Prop
def PG (X:Cx) (target:Expr) (t:TG):Prop:=
 ∀(pins:List (Addr×Obj)) (s:Shared) (σ:St) (H:Hp) (v:V) (u:Value) (Q:St→Hp→Prop),Inv X pins σ H s→RelV v u→t v σ H Q→
  wpAny (model X.prog X.w) X.A (assign target X.env u) (fun _ s'=>SN X pins Q s') X.xe s
def JF (X:Cx) (ts:List Expr) (t:Fm):Prop:=
 ∀(pins:List (Addr×Obj)) (s:Shared) (σ:St) (H:Hp) (vs:List V) (us:List Value) (Q:St→Hp→Prop),Inv X pins σ H s→Vals vs us→t vs σ H Q→
  wpAny (model X.prog X.w) X.A (assignInOrder ((assignEach ts X.env).map (·.2)) us) (fun _ s'=>SN X pins Q s') X.xe s
abbrev LQ:=V→V→V→Hp→(Hp→Prop)→Prop
def Oz (X:Cx) (t:LQ):Prop:=
 ∀(pins:List (Addr×Obj)) (s:Shared) (σ:St) (H:Hp) (o i v:V) (ov iv u:Value) (Q:Hp→Prop),Inv X pins σ H s→RelV o ov→RelV i iv→RelV v u→t o i v H Q→
  wpAny (model X.prog X.w) X.A (setItem ov iv u) (fun _ s'=>∃H',Inv X pins σ H' s'∧Q H') X.xe s
section
variable {X:Cx} {pos:Pos}
def CS (i:Nat):TG:=fun v σ H Q=>Q (σ.set i (some v)) H
theorem Cq {i:Nat} {x:Str} (hN:X.N.Nodup) (hi:X.N[i]?=some x) (hx:F0 X.env.scope x) (hf:X.fn x=true∨X.env.scope.names.lookup x=some .local:=by first |exact .inl rfl |exact .inr rfl |assumption):PG X (.Name x pos) (CS i):=by intro pins s σ H v u Q I r h;exact wpAny_assign_Name (JE I hN hi hx r (fun s' I'=>⟨_,H,I',h⟩) hf)
def HH:Fm:=fun vs σ H Q=>vs=[]∧Q σ H
def Fo (t:TG) (u:Fm):Fm:=fun vs σ H Q=>∃v r,vs=v::r∧t v σ H fun σ' H'=>u r σ' H' Q
theorem LR:JF X [] HH:=by intro pins s σ H vs us Q I r h;obtain ⟨e,h⟩:=h;subst e;cases r;exact assignInOrder_nil ⟨σ,H,I,h⟩
theorem Fp {e:Expr} {t:TG} {u:Fm} (h1:PG X e t) (h2:JF X es u)
 (hs:(assignEach (e::es) X.env).map (·.2)=assign e X.env::(assignEach es X.env).map (·.2):=by rfl):JF X (e::es) (Fo t u):=by
 intro pins s σ H vs us Q I r h;obtain ⟨v,vr,e1,h⟩:=h;subst e1;cases r with
 |cons r rr=>rw [hs];refine assignInOrder_cons (Au (h1 pins s σ H _ _ _ I r h) fun _ s1 z19_=>?_);obtain ⟨σ1,H1,I1,q1⟩:=z19_;exact h2 pins s1 σ1 H1 _ _ Q I1 rr q1
def HI (K:PySem.W.Frag) (n:Nat) (t:Fm):TG:=fun v σ H Q=>∃a xs,v=.ref a∧SqT K H a xs∧xs.length=n∧t xs σ H Q
theorem LU {k:Nat} {t:Fm} {n:Nat} (hc:X.calm=true) (h:JF X es t)
 (hn:(assignEach es X.env).length=n:=by rfl) (hst:(assignEach es X.env).findIdx? (·.1)=none:=by rfl):PG X (.Tuple es k pos) (HI X.K n t):=by
 intro pins s σ H v u Q I r hw;obtain ⟨a,xs,e1,hq,hl,hw⟩:=hw;subst e1;cases r;obtain ⟨its,rv,ht,hz⟩:=I.tuple hq;refine assign_Tuple_tuple (I.ok.hd hc) ht (by simp [hn,←hl,rv.length]) hst fun h' hx=>?_;have I1:Inv X pins σ H {s with heap:=h'}:=I.kept (t':=s.toks) fun b o e=>hx b o (Bf (AC e)) e;exact h pins _ σ H xs _ Q I1 (by simpa using rv) hw
def Vo (to ti:TE) (t:LQ):TG:=fun v σ H Q=>to σ H fun o H1=>ti σ H1 fun i H2=>t o i v H2 fun H3=>Q σ H3
theorem Vp {t:LQ} (ho:PE X o to) (hi:PE X i ti) (hs:Oz X t)
 (ha:∀v,assign (.Subscript o i pos) X.env v=(do
  let ov ←holding [v] (eval o X.env)
  let iv ←holding [v,ov] (eval i X.env)
  standAt pos
  holding [v,ov,iv] (setItem ov iv v)
  release [v,ov,iv] []):=by intro _;rfl):PG X (.Subscript o i pos) (Vo to ti t):=by
 intro pins s σ H v u Q I r h;rw [ha];refine Ad (Ci (Au (ho pins s σ H _ I h) fun ov s1 z20_=>?_));obtain ⟨x,H1,I1,r1,q1⟩:=z20_;refine Ad (Ci (Au (hi pins s1 σ H1 _ I1 q1) fun iv s2 z21_=>?_));obtain ⟨y,H2,I2,r2,q2⟩:=z21_;refine Ad (wpAny_standAt (Ad (Ci (Au (hs pins s2 σ H2 x y v ov iv u _ I2 r1 r2 r q2) fun _ s3 z22_=>?_))));obtain ⟨H3,I3,q3⟩:=z22_;exact wpAny_release ⟨σ,H3,I3,q3⟩
def OA (te:TE) (g:TG):TS:=fun D σ H=>te σ H fun x H1=>g x σ H1 D.nx
theorem OB {tg e:Expr} {g:TG} (he:PE X e te) (hg:PG X tg g) (hs:swapsWithSole [tg] e pos.line X.env=pure false:=by rfl) (hw:swappedStores [tg] e X.env=pure none:=by rfl)
 (h1:(assignEach [tg] X.env).map (·.2)=[assign tg X.env]:=by rfl):PS X (.Assign [tg] e pos) (OA te g):=by
 intro pins s σ H D I h;refine wpAny_Assign_stores (Au (he pins s σ H _ I h) fun v s1 z23_=>?_) hs hw;obtain ⟨x,H1,I1,r1,q1⟩:=z23_;rw [h1];exact Au (hg pins s1 σ H1 x v _ I1 r1 q1) fun _ s2 q=>q
theorem Vq {i:Nat} {x:Str} (hN:X.N.Nodup) (hi:X.N[i]?=some x) (hx:F0 X.env.scope x) (he:PE X e te) (hs:swapsWith e (some (.Name x pos')) pos.line X.env=pure false:=by rfl) (hf:X.fn x=true∨X.env.scope.names.lookup x=some .local:=by first |exact .inl rfl |exact .inr rfl |assumption):
 PS X (.Assign [.Name x pos'] e pos) (OA te (CS i)):=by
 intro pins s σ H D I h;refine wpAny_Assign_Name (Au (he pins s σ H _ I h) fun v s1 z24_=>?_) hs;obtain ⟨y,H1,I1,r1,q1⟩:=z24_;exact JE I1 hN hi hx r1 (fun s2 I2=>⟨_,H1,I2,q1⟩) hf
def Vr (i j:Nat) (ta:TA):TS:=fun D σ H=>ta σ H fun vs H1=>∃v w,vs=[v,w]∧D.nx ((σ.set i (some v)).set j (some w)) H1
theorem Vs {i j:Nat} {x y:Str} {a b:Expr} {px py pt:Pos} {kt k2 pt2} (hc:X.calm=true) (hN:X.N.Nodup) (hi:X.N[i]?=some x) (hj:X.N[j]?=some y) (hij:i≠j)
 (hx:X.env.scope.names.lookup x=some .local) (hy:X.env.scope.names.lookup y=some .local) (ha:PA X [a,b] ta)
 (hw:swappedStores [.Tuple [.Name x px,.Name y py] kt pt] (.Tuple [a,b] k2 pt2) X.env=pure (some [x,y]))
 (hs:swapsWithSole [.Tuple [.Name x px,.Name y py] kt pt] (.Tuple [a,b] k2 pt2) pos.line X.env=pure false:=by rfl):
 PS X (.Assign [.Tuple [.Name x px,.Name y py] kt pt] (.Tuple [a,b] k2 pt2) pos) (Vr i j ta):=by
 intro pins s σ H D I h;rw [exec_Assign_arm];refine Ad (wpAny_standAt ?_);rw [hs];refine Ad (Ak ?_);rw [if_neg (by decide)];refine Ad (Tuple_ (Au (ha _ pins s σ H _ I h) fun us s1 z25_=>?_));obtain ⟨vs,H1,I1,r1,q1⟩:=z25_;obtain ⟨v,w,e1,q1⟩:=q1;subst e1;obtain ⟨u1,u2,rfl,rv,rw'⟩:∃u1 u2,us=[u1,u2]∧RelV v u1∧RelV w u2:=by
  cases r1 with
  |cons p q=>
   cases q with
   |cons p' q'=>cases q';exact ⟨_,_,rfl,p,p'⟩
 refine CC ?_ (by show 2≤sizeLine;decide);have I2:Inv X pins σ H1 {s1 with heap:=s1.heap.push {cls:=.type "tuple",data:=.seq [u1,u2].toArray}}:=I1.kept (t':=s1.toks) fun b o e=>Aw _ e;rw [hw];refine Ad (Ak ?_)
 show wpAny (model X.prog X.w) X.A (do rule "assign.swapped-stores";let items ←unpackItems (.ref s1.heap.objs.size) 2 none;assignInOrder [fun v=>bindName X.env y v,fun v=>bindName X.env x v] items.reverse;pure Flow.next) _ _ _
 refine Ad (wpAny_rule (Ad (unpackItems_tuple (items:=#[u1,u2]) (I.ok.hd hc) (IsTup.new s1.heap _) fun h' hx'=>?_)));have I3:=I2.kept (h':=h') (t':=s1.toks) fun b o e=>hx' b o (Bf (AC e)) e
 show wpAny _ _ (assignInOrder [fun v=>bindName X.env y v,fun v=>bindName X.env x v] [u2,u1] >>=fun _=>pure Flow.next) _ _ _
 refine Ad (assignInOrder_cons (wpAny_bindName (JE I3 hN hj (.inl hy) rw' (fun s2 I4=>?_) (.inr hy))));refine assignInOrder_cons (wpAny_bindName (JE I4 hN hi (.inl hx) rv (fun s3 I5=>assignInOrder_nil (Ak ?_)) (.inr hx)));rw [List.set_comm _ _ (Ne.symm hij)] at I5;exact ⟨_,H1,I5,q1⟩
end
section
variable {X:Cx} {pos:Pos}
def Vt (c:TT) (tb:TS):TS:=fun D σ H=>∃W:Nat→St→Hp→Prop,(∃m,W m σ H)∧∀m σ H,W m σ H→
 c σ H fun b H1=>if b=true then ∃N:St→Hp→Prop,(∀σ' H',N σ' H'→∃m',m' < m∧W m' σ' H')∧tb {D with nx:=N,ct:=N,bk:=D.nx} σ H1 else D.nx σ H1
theorem Vu {body:List Stmt} {tc:TT} {tb:TS} (hp:PassesOwn (model X.prog X.w) X.A X.env X.xe) (hc:PT X c tc) (hb:CQ X body tb):PS X (.While c body [] pos) (Vt tc tb):=by
 intro pins s σ H D I h;obtain ⟨W,⟨m0,w0⟩,turn⟩:=h;refine wpAny_While (codeAny_whileLoop (fun n s'=>SN X pins (W n) s') ?_ m0 ⟨σ,H,I,w0⟩);rintro n s1 ⟨σ1,H1,I1,w1⟩;refine wpAny_passesOwn hp (Au (hc pins s1 σ1 H1 _ I1 (turn n σ1 H1 w1)) fun b s2 z34_=>?_);obtain ⟨H2,I2,q2⟩:=z34_;cases b with
 |true=>
  obtain ⟨N,hN,q2⟩:=q2;rw [if_pos rfl];refine wpAny_passesOwn hp (Au (hb pins s2 σ1 H2 _ I2 q2) fun f s3 q3=>?_);cases f with
  |next=>obtain ⟨σ3,H3,I3,n3⟩:=q3;obtain ⟨m',hm,w3⟩:=hN σ3 H3 n3;exact ⟨m',hm,σ3,H3,I3,w3⟩
  |cont=>obtain ⟨σ3,H3,I3,n3⟩:=q3;obtain ⟨m',hm,w3⟩:=hN σ3 H3 n3;exact ⟨m',hm,σ3,H3,I3,w3⟩
  |brk=>exact q3
  |ret v=>exact q3
 |false=>rw [if_neg Bj];exact wpAny_execs_nil ⟨σ1,H2,I2,q2⟩
end
structure It where
 go:Nat→Hp→Prop
 yld:Nat→Hp→V→Hp→Prop
 stop:Nat→Hp→Prop
def CD (X:Cx) (pins:List (Addr×Obj)) (H:Hp) (b:Addr):Prop:=
 H b=none∧b≠X.env.locals∧b∉X.fs∧(b∈X.ex∨X.s₀.heap.objs.size≤b)∧(∀x c,X.env.cells.lookup x=some c→c≠b)∧∀p∈X.pn++pins,p.1≠b
theorem Inv.fpOk {σ:St} {H H':Hp} {s:Shared} (I:Inv X pins σ H s) (hb:s.heap.objs.size≤b) (hn:H' b=none):CD X pins H' b:=by
 refine ⟨hn,BS (AU I.lt hb),I.nofs hb,.inr (Br I.sz hb),fun x c e z=>?_,fun p hp z=>?_⟩
 ·obtain ⟨v,q⟩:=I.cell x c e;exact absurd (AU q.lt (by rw [z];exact hb)) (CB _)
 ·exact absurd (AU (AC (I.pin p hp).1) (by rw [z];exact hb)) (CB _)
structure GK (P:Program) (w:World) (K:PySem.W.Frag) (tg:Expr) (J:It) (fp:List Addr) (it:Addr) (tn:Nat→Heap→Prop):Prop where
 mem:it∈fp
 obj:∀i h,tn i h→∀b∈fp,∃o,h.get? b=some o∧∀v,o.data≠.cell v
 keep:∀i h h',tn i h→(∀b∈fp,∀o,h.get? b=some o→h'.get? b=some o)→tn i h'
 item:∀(X:Cx),X.prog=P→X.w=w→X.K=K→X.calm=true→∀(i:Nat) (pins:List (Addr×Obj)) (s:Shared) (σ:St) (H:Hp) (E:Value→Shared→Prop),Inv X pins σ H s→(∀b∈fp,CD X pins H b)→tn i s.heap→J.go i H→
  wpAny (model P w) X.A (pyNext (.ref it)) (fun r s1=>∃u,r=some u∧
   wpAny (model P w) X.A (letOwnedTupleGo tg (.ref it) u) (fun _ s2=>∃x H',Inv X pins σ H' s2∧RelV x u∧J.yld i H x H'∧tn (i+1) s2.heap∧∀b∈fp,H' b=none) E s1) E s
 done:∀(X:Cx),X.prog=P→X.w=w→X.K=K→X.calm=true→∀(i:Nat) (pins:List (Addr×Obj)) (s:Shared) (σ:St) (H:Hp) (E:Value→Shared→Prop),Inv X pins σ H s→(∀b∈fp,CD X pins H b)→tn i s.heap→J.stop i H→
  wpAny (model P w) X.A (pyNext (.ref it)) (fun r s1=>r=none∧Inv X pins σ H s1) E s
 self:∀(A:Around) (i:Nat) (s:Shared) (Q:Value→Shared→Prop) (E:Value→Shared→Prop),tn i s.heap→Q (.ref it) s→wpAny (model P w) A (pyIter (.ref it)) Q E s
abbrev TI:=St→Hp→(It→Hp→Prop)→Prop
inductive LV (X:Cx) (pins:List (Addr×Obj)) (σ:St) (tg:Expr) (R:It→Hp→Prop) (itv:Value) (s2:Shared):Prop where
 |mk (it:Addr) (fp:List Addr) (tn:Nat→Heap→Prop) (J:It) (H':Hp) (e:itv=.ref it) (i:Inv X pins σ H' s2) (t:GK X.prog X.w X.K tg J fp it tn) (st:tn 0 s2.heap) (f:∀b∈fp,CD X pins H' b) (r:R J H'):LV X pins σ tg R itv s2
def PI (X:Cx) (tg iter:Expr) (wi:TI):Prop:=
 ∀(pins:List (Addr×Obj)) (s:Shared) (σ:St) (H:Hp) (R:It→Hp→Prop),Inv X pins σ H s→wi σ H R→
  wpAny (model X.prog X.w) X.A (eval iter X.env) (fun v s1=>wpAny (model X.prog X.w) X.A (pyIter v) (LV X pins σ tg R) X.xe s1) X.xe s
theorem LW {s:Shared} {o:Obj} {n:String} {vs:Array Value} {Q:Unit→Shared→Prop} (ho:s.heap.get? it=some o) (hc:o.cls=.type n) (hd:o.data=.fields vs)
 (hn:["enumerate","zip","dict_itemiterator","dict_reverseitemiterator","odict_iterator","itertools.zip_longest","itertools.pairwise"].contains n=false) (hQ:Q () s):wpAny M A (letOwnedTupleGo tg (.ref it) u) Q E s:=by
 unfold letOwnedTupleGo;cases tg<;>first
  |exact Ak hQ
  |(cases u<;>first
   |exact Ak hQ
   |(refine Ad (wpAny_load ho ?_)
     rw [hc,hd]
     show wpAny M A (if (["enumerate","zip","dict_itemiterator","dict_reverseitemiterator","odict_iterator","itertools.zip_longest","itertools.pairwise"].contains n&&vs[0]?==some (rawInt _))=true then _ else _) Q E s
     rw [if_neg (by intro h;rw [hn,Jy] at h;cases h)];exact Ak hQ))
def HJ (K:PySem.W.Frag) (a:Addr):It:=
 ⟨fun i H=>∃xs x,SqL K H a xs∧xs[i]?=some x,fun i H x H'=>H'=H∧∀xs,SqL K H a xs→xs[i]?=some x,fun i H=>∃xs,SqL K H a xs∧xs.length≤i⟩
def HK (K:PySem.W.Frag) (a:Addr):It:=
 ⟨fun i H=>∃xs x,SqT K H a xs∧xs[i]?=some x,fun i H x H'=>H'=H∧∀xs,SqT K H a xs→xs[i]?=some x,fun i H=>∃xs,SqT K H a xs∧xs.length≤i⟩
def HL (lo:Int) (n:Nat):It:=⟨fun i _=>i<n,fun i H x H'=>H'=H∧x=.int (lo+i),fun i _=>n≤i⟩
theorem Vv {K:PySem.W.Frag} (a it:Addr):GK P w K tg (HJ K a) [it] it (fun i h=>h.IsListIter it a i) where
 mem:=by simp
 obj:=fun i h st b hb=>by
  have e:b=it:=by simpa using hb
  subst e;obtain ⟨o,e,c,d⟩:=st;exact ⟨o,e,fun v z=>by rw [d] at z;cases z⟩
 keep:=fun i h h' st k=>st.at fun o e=>k it (by simp) o e
 item:=by intro X hP hw hK hc i pins s σ H E I hf st hg;subst hP hw hK;obtain ⟨xs,x,hq,hx⟩:=hg;obtain ⟨its,rv,p,hz⟩:=I.list hq;obtain ⟨u,hu,ru⟩:=rv.get hx;obtain ⟨f0,f1,f2,f3,f4,f5⟩:=hf it (by simp);refine wpAny_pyNext_list_item st p.isList (x:=u) (by simpa using hu) fun h' st' sb=>?_;have I1:Inv X pins σ H {s with heap:=h'}:=I.turned (t':=s.toks) (fun b o hb e=>(sb.2 b hb).trans e) f0 f1 f3 f4 f5;obtain ⟨o,e,c,d⟩:=id st';exact ⟨u,rfl,LW (s:={s with heap:=h'}) e c d (by decide) ⟨x,H,I1,ru,⟨rfl,fun ys hy=>by rw [I.list_inj hy hq];exact hx⟩,st',fun b hb=>(hf b hb).1⟩⟩
 done:=by intro X hP hw hK hc i pins s σ H E I hf st hg;subst hP hw hK;obtain ⟨xs,hq,hx⟩:=hg;obtain ⟨its,rv,p,hz⟩:=I.list hq;obtain ⟨f0,f1,f2,f3,f4,f5⟩:=hf it (by simp);have hl:=rv.length;exact wpAny_pyNext_list_end (I.ok.hd hc) st p.isList (by simp;omega) fun h' eb=>⟨rfl,I.turned (t':=s.toks) (fun b o hb e=>eb b o hb e) f0 f1 f3 f4 f5⟩
 self:=fun _ _ _ _ _ st h=>wpAny_pyIter_listiter st h
theorem Vw {K:PySem.W.Frag} (a it:Addr):GK P w K tg (HK K a) [it] it (fun i h=>h.IsTupleIter it a i) where
 mem:=by simp
 obj:=fun i h st b hb=>by
  have e:b=it:=by simpa using hb
  subst e;obtain ⟨o,e,c,d⟩:=st;exact ⟨o,e,fun v z=>by rw [d] at z;cases z⟩
 keep:=fun i h h' st k=>st.at fun o e=>k it (by simp) o e
 item:=by intro X hP hw hK hc i pins s σ H E I hf st hg;subst hP hw hK;obtain ⟨xs,x,hq,hx⟩:=hg;obtain ⟨its,rv,p,hz⟩:=I.tuple hq;obtain ⟨u,hu,ru⟩:=rv.get hx;obtain ⟨f0,f1,f2,f3,f4,f5⟩:=hf it (by simp);refine wpAny_pyNext_tuple_item st (show s.heap.IsTuple a its.toArray from p) (x:=u) (by simpa using hu) fun h' st' sb=>?_;have I1:Inv X pins σ H {s with heap:=h'}:=I.turned (t':=s.toks) (fun b o hb e=>(sb.2 b hb).trans e) f0 f1 f3 f4 f5;obtain ⟨o,e,c,d⟩:=id st';exact ⟨u,rfl,LW (s:={s with heap:=h'}) e c d (by decide) ⟨x,H,I1,ru,⟨rfl,fun ys hy=>by rw [I.tuple_inj hy hq];exact hx⟩,st',fun b hb=>(hf b hb).1⟩⟩
 done:=by intro X hP hw hK hc i pins s σ H E I hf st hg;subst hP hw hK;obtain ⟨xs,hq,hx⟩:=hg;obtain ⟨its,rv,p,hz⟩:=I.tuple hq;obtain ⟨f0,f1,f2,f3,f4,f5⟩:=hf it (by simp);have hl:=rv.length;exact wpAny_pyNext_tuple_end (I.ok.hd hc) st (show s.heap.IsTuple a its.toArray from p) (by simp;omega) fun h' eb=>⟨rfl,I.turned (t':=s.toks) (fun b o hb e=>eb b o hb e) f0 f1 f3 f4 f5⟩
 self:=fun _ _ _ _ _ st h=>wpAny_pyIter_tupleiter st h
theorem Vx {K:PySem.W.Frag} (it:Addr) (lo:Int) (n:Nat):GK P w K tg (HL lo n) [it] it (fun i h=>IsRangeIter h it (lo+(i:Nat)*1) ((n:Int) - (i:Nat)) 1) where
 mem:=by simp
 obj:=fun i h st b hb=>by
  have e:b=it:=by simpa using hb
  subst e;exact ⟨_,st,fun v z=>by have z':Data.fields _=Data.cell v:=z;cases z'⟩
 keep:=fun i h h' st k=>k it (by simp) _ st
 item:=by intro X hP hw hK hc i pins s σ H E I hf st hg;subst hP hw hK;obtain ⟨f0,f1,f2,f3,f4,f5⟩:=hf it (by simp);have W:=Walks.range (prog:=X.prog) (w:=X.w) (I.ok.hd hc) it lo 1 n;refine W.item i s _ _ hg st fun v h' tk hv st' kk=>?_;obtain ⟨t,rfl⟩:=hv;have I1:Inv X pins σ H {s with heap:=h',toks:=tk}:=I.turned (fun b o hb e=>kk b o (by simpa using hb) e) f0 f1 f3 f4 f5;refine ⟨_,rfl,LW (s:={s with heap:=h',toks:=tk}) (n:="range_iterator") st' rfl rfl (by decide) ⟨.int (lo+i),H,I1,⟨t,?_⟩,⟨rfl,rfl⟩,st',fun b hb=>(hf b hb).1⟩⟩;rw [Int.mul_one]
 done:=by intro X hP hw hK hc i pins s σ H E I hf st hg;subst hP hw hK;obtain ⟨f0,f1,f2,f3,f4,f5⟩:=hf it (by simp);exact wpAny_pyNext_range_end (I.ok.hd hc) st (by have:n≤i:=hg;omega) fun h' eb=>⟨rfl,I.turned (t':=s.toks) (fun b o hb e=>eb b o hb e) f0 f1 f3 f4 f5⟩
 self:=fun _ _ _ _ _ st h=>wpAny_pyIter_rangeiter st h
section
variable {X:Cx} {tg:Expr}
theorem OC {σ:St} {s:Shared} {R:It→Hp→Prop} {lo hi:Int} {t u v:Tok} {tk:Nat} (I:Inv X pins σ H s) (h1:-(2^62)≤lo) (h2:lo<2^62) (h3:-(2^62)≤hi) (h4:hi<2^62)
 (q:R (HL lo (hi - lo).toNat) H):wpAny (model X.prog X.w) X.A (pyIter (.ref s.heap.objs.size)) (LV X pins σ tg R) E {s with heap:=s.heap.push {cls:=.type "range",data:=.fields #[.int lo t,.int hi u,.int 1 v]},toks:=tk}:=by
 refine wpAny_pyIter_range (IsRange.new ..) (small_one h1 h2 h3 h4) ?_;have I1:Inv X pins σ H {s with heap:=s.heap.push {cls:=.type "range",data:=.fields #[.int lo t,.int hi u,.int 1 v]},toks:=tk}:=I.kept fun b o e=>Aw _ e;refine ⟨(s.heap.push {cls:=.type "range",data:=.fields #[.int lo t,.int hi u,.int 1 v]}).objs.size,[(s.heap.push {cls:=.type "range",data:=.fields #[.int lo t,.int hi u,.int 1 v]}).objs.size],_,_,H,rfl,
  I1.kept (t':=tk) fun b o e=>Aw _ e,Vx _ lo (hi - lo).toNat,?_,fun b hb=>?_,q⟩
 ·have e1:lo+((0:Nat):Int)*1=lo:=by simp
  have e2:(((hi - lo).toNat:Nat):Int) - ((0:Nat):Int)=Builtin.Range.rangeSize lo hi 1:=by rw [rangeSize_one];split<;>omega
  show IsRangeIter _ _ (lo+((0:Nat):Int)*1) ((((hi - lo).toNat:Nat):Int) - ((0:Nat):Int)) 1
  rw [e1,e2];exact Bc _ rfl
 ·have e:b=(s.heap.push {cls:=.type "range",data:=.fields #[.int lo t,.int hi u,.int 1 v]}).objs.size:=by simpa using hb
  subst e;exact I1.fpOk (Ax _) (I1.hok.fresh (Ax _))
def Vy (ta:TA):TI:=fun σ H R=>ta σ H fun vs H1=>∃j:Int,vs=[.int j]∧-(2^62)≤j∧j<2^62∧R (HL 0 j.toNat) H1
def Vz (ta:TA):TI:=fun σ H R=>ta σ H fun vs H1=>∃i j:Int,vs=[.int i,.int j]∧(-(2^62)≤i∧i<2^62∧-(2^62)≤j∧j<2^62)∧R (HL i (j - i).toNat) H1
theorem VA (hg:Gl X "range") (hm:X.mg "range"=none) (ha:PA X [a] ta) (hs:starEach [a] X.env=[(false,eval a X.env)]:=by rfl):PI X tg (.Call (.Name "range" p) [a] [] pos) (Vy ta):=by
 intro pins s σ H R I h;refine Call_ (GJ I hg hm boot_range (PyProof.Rows.callWith_type1 (Au (ha pos pins s σ H _ I h) fun us s1 z37_=>?_) hs rfl));obtain ⟨vs,H1,I1,r1,q1⟩:=z37_;obtain ⟨j,e,q1,q2,q⟩:=q1;subst e;cases r1 with
 |cons r rr=>cases rr;obtain ⟨t,rfl⟩:=r;exact call_range_1 (OC I1 (by omega) (by omega) q1 q2 (by simpa using q))
theorem VB {a b:Expr} (hg:Gl X "range") (hm:X.mg "range"=none) (ha:PA X [a,b] ta) (hs:starEach [a,b] X.env=[(false,eval a X.env),(false,eval b X.env)]:=by rfl) (hs2:starEach [b] X.env=[(false,eval b X.env)]:=by rfl):
 PI X tg (.Call (.Name "range" p) [a,b] [] pos) (Vz ta):=by
 intro pins s σ H R I h;refine Call_ (GJ I hg hm boot_range (PyProof.Rows.callWith_type1 (Au (ha pos pins s σ H _ I h) fun us s1 ⟨vs,H1,I1,r1,q1⟩=>?_) (by rw [hs,hs2]) (by rw [hs2];rfl)));obtain ⟨i,j,e,⟨q1,q2,q3,q4⟩,q⟩:=q1;subst e;cases r1 with
 |cons r rr=>
  cases rr with
  |cons r' rr=>cases rr;obtain ⟨t,rfl⟩:=r;obtain ⟨t',rfl⟩:=r';exact call_range_2 (OC I1 q1 q2 q3 q4 q)
def VC (wi:TI) (g:TG) (tb:TS):TS:=fun D σ H=>wi σ H fun J H1=>∃W:Nat→Nat→St→Hp→Prop,(∃m,W 0 m σ H1)∧∀i m σ H,W i m σ H→
 (J.stop i H∧D.nx σ H)∨(J.go i H∧∃N:St→Hp→Prop,(∀σ' H',N σ' H'→∃m',m' < m∧W (i+1) m' σ' H')∧∀x H',J.yld i H x H'→g x σ H' fun σ2 H2=>tb {D with nx:=N,ct:=N,bk:=D.nx} σ2 H2)
def Fq (fp:List Addr) (h:Heap):List (Addr×Obj):=fp.filterMap fun b=>(h.get? b).map fun o=>(b,o)
theorem HM {h:Heap} {b:Addr} (hb:b∈fp) (e:h.get? b=some o):(b,o)∈Fq fp h:=List.mem_filterMap.mpr ⟨b,hb,by rw [e];rfl⟩
theorem OD {h:Heap} {p:Addr×Obj} (hp:p∈Fq fp h):p.1∈fp∧h.get? p.1=some p.2:=by
 obtain ⟨b,hb,e⟩:=List.mem_filterMap.mp hp;cases q:h.get? b with
 |none=>rw [q] at e;cases e
 |some o=>rw [q] at e;have e':(b,o)=p:=Option.some.inj e;subst e';exact ⟨hb,q⟩
theorem Inv.pinned {σ:St} {s:Shared} {fp:List Addr} (I:Inv X pins σ H s) (hf:∀b∈fp,CD X pins H b) (ho:∀b∈fp,∃o,s.heap.get? b=some o∧∀v,o.data≠.cell v):Inv X (pins++Fq fp s.heap) σ H s:=
 I.pins_of fun p hp=>(qaP.mp hp).elim (fun z=>I.pin p (BF _ z)) fun z=>by obtain ⟨hb,e⟩:=OD z;obtain ⟨f0,f1,f2,_⟩:=hf p.1 hb;obtain ⟨o,e',d⟩:=ho p.1 hb;rw [e] at e';cases e';exact ⟨e,f0,f1,f2,d⟩
theorem Inv.unpinned {σ:St} (I:Inv X (pins++pl) σ H s):Inv X pins σ H s:=I.pins_of fun p hp=>I.pin p (BF _ (GC _ hp))
inductive LY (X:Cx) (pins:List (Addr×Obj)) (tn:Nat→Heap→Prop) (fp:List Addr) (W:Nat→Nat→St→Hp→Prop) (n:Nat) (s':Shared):Prop where
 |mk (i:Nat) (σ':St) (H':Hp) (ii:Inv X pins σ' H' s') (st:tn i s'.heap) (fr:∀b∈fp,H' b=none) (w:W i n σ' H'):LY X pins tn fp W n s'
theorem VD {body:List Stmt} {wi:TI} {g:TG} {tb:TS} (hp:PassesOwn (model X.prog X.w) X.A X.env X.xe) (hc:X.calm=true) (hi:PI X tg iter wi) (hg:PG X tg g) (hb:CQ X body tb)
 (hs:∀x,foldedSetIterable iter X.env x=pure x:=by intro _;rfl):PS X (.For tg iter body [] pos) (VC wi g tb):=by
 intro pins s σ H D I h;refine wpAny_For (Au (hi pins s σ H _ I h) fun v s1 h1=>Au h1 fun itv s2 h2=>?_) hs;obtain ⟨it,fp,tn,J,H2,e,I2,T,CP,f2,W,⟨m0,w0⟩,turn⟩:=h2;subst e;have stat:∀{H':Hp},(∀b∈fp,H' b=none)→∀b∈fp,CD X pins H' b:=fun hn b hb=>⟨hn b hb,(f2 b hb).2⟩
 refine codeAny_forLoop_any (LY X pins tn fp W) ?_ m0 ⟨0,σ,H2,I2,CP,fun b hb=>(f2 b hb).1,w0⟩;rintro n s3 ⟨i,σ3,H3,I3,Lz,fr3,w3⟩;rcases turn i n σ3 H3 w3 with ⟨stop,qn⟩ |⟨go,N,hN,step⟩
 ·refine wpAny_passesOwn hp (Au (T.done X rfl rfl rfl hc i pins s3 σ3 H3 X.xe I3 (stat fr3) Lz stop) fun r s4 z39_=>?_);obtain ⟨hr,I4⟩:=z39_;subst hr;exact wpAny_execs_nil ⟨σ3,H3,I4,qn⟩
 ·refine wpAny_passesOwn hp (Au (T.item X rfl rfl rfl hc i pins s3 σ3 H3 X.xe I3 (stat fr3) Lz go) fun r s4 z40_=>?_);obtain ⟨u,hr,h4⟩:=z40_;subst hr;refine wpAny_passesOwn hp (Au h4 fun _ s5 z41_=>?_);obtain ⟨x,H5,I5,r5,y5,DW,fr5⟩:=z41_;have I5':=I5.pinned (stat fr5) (T.obj _ _ DW);refine wpAny_passesOwn hp (Au (hg _ s5 σ3 H5 x u _ I5' r5 (step x H5 y5)) fun _ s6 z42_=>?_);obtain ⟨σ6,H6,I6,q6⟩:=z42_;refine wpAny_passesOwn hp (Au (hb _ s6 σ6 H6 _ I6 q6) fun f s7 q7=>?_);have again:∀{σ7:St} {H7:Hp},Inv X (pins++Fq fp s5.heap) σ7 H7 s7→N σ7 H7→∃m,m<n∧LY X pins tn fp W m s7:=fun {σ7 H7} I7 n7=>by obtain ⟨m',hm,w7⟩:=hN σ7 H7 n7;refine ⟨m',hm,i+1,σ7,H7,I7.unpinned,T.keep _ _ _ DW fun b hb o e=>(I7.pin (b,o) (BF _ (BF _ (HM hb e)))).1,fun b hb=>?_,w7⟩;obtain ⟨o,e,d⟩:=T.obj _ _ DW b hb;exact (I7.pin (b,o) (BF _ (BF _ (HM hb e)))).2.1
  cases f with
  |next=>obtain ⟨σ7,H7,I7,n7⟩:=q7;exact again I7 n7
  |cont=>obtain ⟨σ7,H7,I7,n7⟩:=q7;exact again I7 n7
  |brk=>obtain ⟨σ7,H7,I7,q7⟩:=q7;exact ⟨σ7,H7,I7.unpinned,q7⟩
  |ret v=>obtain ⟨x7,σ7,H7,I7,r7,q7⟩:=q7;exact ⟨x7,σ7,H7,I7.unpinned,r7,q7⟩
end
abbrev R2:=V→V→Hp→VK→Prop
def OpR (X:Cx) (f:Value→Value→Sem Value) (r:R2):Prop:=
 ∀(pins:List (Addr×Obj)) (s:Shared) (σ:St) (H:Hp) (x y:V) (v u:Value) (Q:VK),Inv X pins σ H s→RelV x v→RelV y u→r x y H Q→
  wpAny (model X.prog X.w) X.A (f v u) (EP X pins σ Q) X.xe s
def LZ (X:Cx) (f:Value→Sem Value) (r:V→Hp→VK→Prop):Prop:=
 ∀(pins:List (Addr×Obj)) (s:Shared) (σ:St) (H:Hp) (x:V) (v:Value) (Q:VK),Inv X pins σ H s→RelV x v→r x H Q→
  wpAny (model X.prog X.w) X.A (f v) (EP X pins σ Q) X.xe s
def CF (X:Cx) (f:Value) (r:List V→Hp→VK→Prop):Prop:=
 ∀(pins:List (Addr×Obj)) (s:Shared) (σ:St) (H:Hp) (xs:List V) (us:List Value) (Q:VK),Inv X pins σ H s→Vals xs us→r xs H Q→
  wpAny (model X.prog X.w) X.A (call f us) (EP X pins σ Q) X.xe s
def VE (X:Cx) (r:V→Hp→(Bool→Hp→Prop)→Prop):Prop:=
 ∀(pins:List (Addr×Obj)) (s:Shared) (σ:St) (H:Hp) (x:V) (v:Value) (Q:Bool→Hp→Prop),Inv X pins σ H s→RelV x v→r x H Q→
  wpAny (model X.prog X.w) X.A (truthy v) (TP X pins σ Q) X.xe s
def JG (r:R2) (ta tb:TE):TE:=fun σ H Q=>ta σ H fun x H1=>tb σ H1 fun y H2=>r x y H2 Q
def L4 (r:V→Hp→VK→Prop) (ta:TE):TE:=fun σ H Q=>ta σ H fun x H1=>r x H1 Q
def rI (C:Int→Int→Prop) (g:Int→Int→V):R2:=fun x y H Q=>∃i j,x=.int i∧y=.int j∧C i j∧Q (g i j) H
def Fs (g:Int→Int→V):R2:=fun x y H Q=>∃i j,x=.int i∧y=.int j∧Q (g i j) H
def rU (g:Int→V):V→Hp→VK→Prop:=fun x H Q=>∃i,x=.int i∧Q (g i) H
section
variable {X:Cx} {a b c:Expr} {ta tb tc:TE} {pos:Pos}
theorem L5 (ha:PE X a ta) (hb:PE X b tb) {pins:List (Addr×Obj)} {s:Shared} {σ:St} {H:Hp} {R:V→V→Hp→Prop} (I:Inv X pins σ H s)
 (h:ta σ H fun x H1=>tb σ H1 fun y H2=>R x y H2) {Q:Value→Shared→Prop} {f:Value→Value→Sem Value}
 (hf:∀v u s2 x y H2,Inv X pins σ H2 s2→RelV x v→RelV y u→R x y H2→wpAny (model X.prog X.w) X.A (f v u) Q X.xe s2):
 wpAny (model X.prog X.w) X.A (eval a X.env) (fun v s₁=>wpAny (model X.prog X.w) X.A (eval b X.env) (fun u s₂=>wpAny (model X.prog X.w) X.A (f v u) Q X.xe s₂) X.xe s₁) X.xe s:=by
 refine Au (ha pins s σ H _ I h) fun v s1 z44_=>?_;obtain ⟨x,H1,I1,r1,q1⟩:=z44_;refine Au (hb pins s1 σ H1 _ I1 q1) fun u s2 z45_=>?_;obtain ⟨y,H2,I2,r2,q2⟩:=z45_;exact hf v u s2 x y H2 I2 r1 r2 q2
theorem VF {op:Operator} {r:R2} (ho:OpR X (binaryOp op) r) (ha:PE X a ta) (hb:PE X b tb):PE X (.BinOp a op b pos) (JG r ta tb):=by intro pins s σ H Q I h;exact wpAny_BinOp (L5 ha hb I h fun v u s2 x y H2 I2 rx ry q=>ho pins s2 σ H2 x y v u Q I2 rx ry q)
theorem L6 {op:UnaryOp} {r:V→Hp→VK→Prop} (ho:LZ X (unaryOp op) r) (ha:PE X a ta):PE X (.UnaryOp op a pos) (L4 r ta):=by intro pins s σ H Q I h;exact UnaryOp_ (Au (ha pins s σ H _ I h) fun v s1 z46_=>by obtain ⟨x,H1,I1,r1,q1⟩:=z46_;exact (ho pins s1 σ H1 x v Q I1 r1 q1))
theorem JH {f:Value→Value→Sem Value} {C:Int→Int→Prop} {g:Int→Int→Int} 
 (rule:∀(i j:Int) (t u:Tok) (s:Shared) (Q:Value→Shared→Prop) (E:Value→Shared→Prop),C i j→Q (.int (g i j) s.toks) {s with toks:=s.toks+1}→wpAny (model X.prog X.w) X.A (f (.int i t) (.int j u)) Q E s):
 OpR X f (rI C fun i j=>.int (g i j)):=by
 intro pins s σ H x y v u Q I rx ry h;obtain ⟨i,j,rfl,rfl,hc,q⟩:=h;obtain ⟨t,rfl⟩:=rx;obtain ⟨t',rfl⟩:=ry;exact rule i j t t' s _ _ hc ⟨.int (g i j),H,I.tok _,⟨_,rfl⟩,q⟩
theorem VG {f:Value→Value→Sem Value} {g:Int→Int→Int} 
 (rule:∀(i j:Int) (t u:Tok) (s:Shared) (Q:Value→Shared→Prop) (E:Value→Shared→Prop),Q (.int (g i j) s.toks) {s with toks:=s.toks+1}→wpAny (model X.prog X.w) X.A (f (.int i t) (.int j u)) Q E s):
 OpR X f (Fs fun i j=>.int (g i j)):=by
 intro pins s σ H x y v u Q I rx ry h;obtain ⟨i,j,rfl,rfl,q⟩:=h;obtain ⟨t,rfl⟩:=rx;obtain ⟨t',rfl⟩:=ry;exact rule i j t t' s _ _ ⟨.int (g i j),H,I.tok _,⟨_,rfl⟩,q⟩
theorem JI {f:Value→Value→Sem Value} {g:Int→Int→Bool} 
 (rule:∀(i j:Int) (t u:Tok) (s:Shared) (Q:Value→Shared→Prop) (E:Value→Shared→Prop),Q (.bool (g i j)) s→wpAny (model X.prog X.w) X.A (f (.int i t) (.int j u)) Q E s):
 OpR X f (Fs fun i j=>.bl (g i j)):=by
 intro pins s σ H x y v u Q I rx ry h;obtain ⟨i,j,rfl,rfl,q⟩:=h;obtain ⟨t,rfl⟩:=rx;obtain ⟨t',rfl⟩:=ry;exact rule i j t t' s _ _ ⟨.bl (g i j),H,I,rfl,q⟩
def OE (i j:Int):Prop:=0<j∧j<1073741824
def JJ (i j:Int):Prop:=0≤j∧j≤1000000∧i.natAbs<2^64
def CMul (i j:Int):Prop:=(-(2^64)<i∧i<2^64)∨(-(2^64)<j∧j<2^64)
theorem CMul.ok {i j:Int} (h:CMul i j):IntMulOk i j:=by
 rcases h with ⟨h1,h2⟩ |⟨h1,h2⟩
 ·exact .of_left (intBits_le_64 h1 h2)
 ·exact .of_right (intBits_le_64 h1 h2)
theorem op_add:OpR X (binaryOp .Add) (Fs fun i j=>.int (i+j)):=VG fun _ _ _ _ _ _ _ q=>add_int q
theorem VH:OpR X (binaryOp .Mod) (rI (fun _ j=>0<j) fun i j=>.int (i % j)):=JH fun i j _ _ _ _ _ hc q=>by have h1:(0:Int)<j:=hc;exact mod_int' (by omega) (by rw [Int.fmod_eq_emod_of_nonneg i (by omega)];exact q)
theorem VI:OpR X (binaryOp .Pow) (rI JJ fun i j=>.int (i^j.toNat)):=JH fun _ _ _ _ _ _ _ hc q=>pow_int_small hc.1 hc.2.1 hc.2.2 q
theorem VJ {f:Value→Sem Value} {g:Int→Int} 
 (rule:∀(i:Int) (t:Tok) (s:Shared) (Q:Value→Shared→Prop) (E:Value→Shared→Prop),Q (.int (g i) s.toks) {s with toks:=s.toks+1}→wpAny (model X.prog X.w) X.A (f (.int i t)) Q E s):
 LZ X f (rU fun i=>.int (g i)):=by
 intro pins s σ H x v Q I rx h;obtain ⟨i,rfl,q⟩:=h;obtain ⟨t,rfl⟩:=rx;exact rule i t s _ _ ⟨.int (g i),H,I.tok _,⟨_,rfl⟩,q⟩
theorem L7:LZ X (unaryOp .USub) (rU fun i=>.int (-i)):=VJ fun _ _ _ _ _ q=>neg_int q
end
def OF:V→V→Bool
 |.non,.non=>true |.non,.int _=>true |.int _,.non=>true |.non,.bl _=>true |.bl _,.non=>true |.non,.str _=>true |.str _,.non=>true
 |.int _,.int _=>true |.bl _,.bl _=>true |.str _,.str _=>true |.byt _,.byt _=>true
 |.int _,.str _=>true |.str _,.int _=>true |.bl _,.str _=>true |.str _,.bl _=>true
 |_,_=>false
def VL:R2:=fun x y H Q=>OF x y=true∧Q (.bl (decide (x=y))) H
def VM:R2:=fun x y H Q=>OF x y=true∧Q (.bl (!decide (x=y))) H
theorem OG {i j:Int}:decide (V.int i=V.int j)=(i==j):=by rw [qb0];simp
theorem OH {i j:Bool}:decide (V.bl i=V.bl j)=(i==j):=by rw [qb0];simp
theorem JK:decide (V.str i=V.str j)=(i==j):=by rw [qb0];simp
theorem OI {i j:Array UInt8}:decide (V.byt i=V.byt j)=(i.toList==j.toList):=by rw [qb0];cases i;cases j;simp
section
variable {X:Cx} {a b c:Expr} {ta tb tc:TE} {pos:Pos}
theorem Bm {σ:St} {Q:VK} {k k':Bool} (I:Inv X pins σ H s) (q:Q (.bl k) H) (e:k=k'):EP X pins σ Q (.bool k') s:=by subst e;exact ⟨.bl k,H,I,rfl,q⟩
theorem op_eq:OpR X (compareOp .Eq) VL:=by
 intro pins s σ H x y v u Q I rx ry h;obtain ⟨hs,q⟩:=h;cases x with
 |non=>
  cases rx;cases y with
  |non=>cases ry;exact PySem.EqNone.eq_none_none (Bm I q (by simp))
  |bl j=>cases ry;exact PySem.EqNone.eq_none_bool (Bm I q (by simp))
  |int j=>obtain ⟨t',rfl⟩:=ry;exact PySem.EqNone.eq_none_int (Bm I q (by simp))
  |str j=>obtain ⟨t',rfl⟩:=ry;exact PySem.EqNone.eq_none_str (Bm I q (by simp))
  |_=>exact absurd (show false=true from hs) Bj
 |bl i=>
  cases rx;cases y with
  |non=>cases ry;exact PySem.EqNone.eq_bool_none (Bm I q (by simp))
  |bl j=>cases ry;exact eq_bool (Bm I q OH)
  |str j=>obtain ⟨t',rfl⟩:=ry;exact PySem.EqMixed.eq_bool_str (Bm I q (by simp))
  |_=>exact absurd (show false=true from hs) Bj
 |int i=>
  obtain ⟨t,rfl⟩:=rx;cases y with
  |non=>cases ry;exact PySem.EqNone.eq_int_none (Bm I q (by simp))
  |int j=>obtain ⟨t',rfl⟩:=ry;exact eq_int (Bm I q OG)
  |str j=>obtain ⟨t',rfl⟩:=ry;exact PySem.EqMixed.eq_int_str (Bm I q (by simp))
  |_=>exact absurd (show false=true from hs) Bj
 |str i=>
  obtain ⟨t,rfl⟩:=rx;cases y with
  |non=>cases ry;exact PySem.EqNone.eq_str_none (Bm I q (by simp))
  |bl j=>cases ry;exact PySem.EqMixed.eq_str_bool (Bm I q (by simp))
  |int j=>obtain ⟨t',rfl⟩:=ry;exact PySem.EqMixed.eq_str_int (Bm I q (by simp))
  |str j=>obtain ⟨t',rfl⟩:=ry;exact eq_str (Bm I q JK)
  |_=>exact absurd (show false=true from hs) Bj
 |byt i=>
  obtain ⟨t,rfl⟩:=rx;cases y with
  |byt j=>obtain ⟨t',rfl⟩:=ry;exact PySem.W.eq_bytes (Bm I q OI)
  |_=>exact absurd (show false=true from hs) Bj
 |_=>cases y<;>exact absurd (show false=true from hs) Bj
theorem op_ne:OpR X (compareOp .NotEq) VM:=by
 intro pins s σ H x y v u Q I rx ry h;obtain ⟨hs,q⟩:=h;cases x with
 |non=>
  cases rx;cases y with
  |non=>cases ry;exact PySem.EqNone.ne_none_none (Bm I q (by simp))
  |bl j=>cases ry;exact PySem.EqNone.ne_none_bool (Bm I q (by simp))
  |int j=>obtain ⟨t',rfl⟩:=ry;exact PySem.EqNone.ne_none_int (Bm I q (by simp))
  |str j=>obtain ⟨t',rfl⟩:=ry;exact PySem.EqNone.ne_none_str (Bm I q (by simp))
  |_=>exact absurd (show false=true from hs) Bj
 |bl i=>
  cases rx;cases y with
  |non=>cases ry;exact PySem.EqNone.ne_bool_none (Bm I q (by simp))
  |bl j=>cases ry;exact ne_bool (Bm I q (congrArg not OH))
  |str j=>obtain ⟨t',rfl⟩:=ry;exact PySem.EqMixed.ne_bool_str (Bm I q (by simp))
  |_=>exact absurd (show false=true from hs) Bj
 |int i=>
  obtain ⟨t,rfl⟩:=rx;cases y with
  |non=>cases ry;exact PySem.EqNone.ne_int_none (Bm I q (by simp))
  |int j=>obtain ⟨t',rfl⟩:=ry;exact ne_int (Bm I q (congrArg not OG))
  |str j=>obtain ⟨t',rfl⟩:=ry;exact PySem.EqMixed.ne_int_str (Bm I q (by simp))
  |_=>exact absurd (show false=true from hs) Bj
 |str i=>
  obtain ⟨t,rfl⟩:=rx;cases y with
  |non=>cases ry;exact PySem.EqNone.ne_str_none (Bm I q (by simp))
  |bl j=>cases ry;exact PySem.EqMixed.ne_str_bool (Bm I q (by simp))
  |int j=>obtain ⟨t',rfl⟩:=ry;exact PySem.EqMixed.ne_str_int (Bm I q (by simp))
  |str j=>obtain ⟨t',rfl⟩:=ry;exact ne_str (Bm I q (congrArg not JK))
  |_=>exact absurd (show false=true from hs) Bj
 |byt i=>
  obtain ⟨t,rfl⟩:=rx;cases y with
  |byt j=>obtain ⟨t',rfl⟩:=ry;exact PySem.W.ne_bytes (Bm I q (congrArg not OI))
  |_=>exact absurd (show false=true from hs) Bj
 |_=>cases y<;>exact absurd (show false=true from hs) Bj
theorem VN:OpR X (compareOp .Lt) (Fs fun i j=>.bl (decide (i<j))):=JI fun _ _ _ _ _ _ _ q=>lt_int q
theorem VO:OpR X (compareOp .LtE) (Fs fun i j=>.bl (decide (i≤j))):=JI fun _ _ _ _ _ _ _ q=>le_int q
theorem VP:OpR X (compareOp .Gt) (Fs fun i j=>.bl (decide (j<i))):=JI fun _ _ _ _ _ _ _ q=>gt_int q
theorem VQ:OpR X (compareOp .GtE) (Fs fun i j=>.bl (decide (j≤i))):=JI fun _ _ _ _ _ _ _ q=>ge_int q
theorem OpR.or {f:Value→Value→Sem Value} {r r':R2} (h:OpR X f r) (h':OpR X f r'):OpR X f (fun x y H Q=>r x y H Q∨r' x y H Q):=by
 intro pins s σ H x y v u Q I rx ry q;rcases q with q |q
 ·exact h pins s σ H x y v u Q I rx ry q
 ·exact h' pins s σ H x y v u Q I rx ry q
theorem EJ (b:Expr) {op:CmpOp} (h:op≠.In:=by decide) (h2:op≠.NotIn:=by decide):behindInMarks op b=false:=by
 have e1:(op==CmpOp.In)=false:=by cases op<;>first |rfl |exact absurd rfl h
 have e2:(op==CmpOp.NotIn)=false:=by cases op<;>first |rfl |exact absurd rfl h2
 cases b with
 |Set elts k p=>
  show (k==0&&(op==.In||op==.NotIn)&&elts.all (constantsAlone 8))=false
  rw [e1,e2,Bool.or_self,Bool.and_false,Jy]
 |_=>rfl
theorem VR {op:CmpOp} {r:R2} (ho:OpR X (compareOp op) r) (ha:PE X a ta) (hb:PE X b tb) (hm:behindInMarks op b=false):PE X (.Compare a [op] [b] pos) (JG r ta tb):=by intro pins s σ H Q I h;exact wpAny_Compare1 (L5 ha hb I h fun v u s2 x y H2 I2 rx ry q=>ho pins s2 σ H2 x y v u Q I2 rx ry q) hm
def OJ (t:TE):TT:=fun σ H Q=>t σ H fun x H'=>∃k,x=.bl k∧Q k H'
theorem VS {op:CmpOp} {r:R2} (ho:OpR X (compareOp op) r) (ha:PE X a ta) (hb:PE X b tb) (hm:behindInMarks op b=false):PT X (.Compare a [op] [b] pos) (OJ (JG r ta tb)):=by intro pins s σ H Q I h;refine wpAny_isTrue_Compare1 (Au (ha pins s σ H _ I h) fun v s1 ⟨x,H1,I1,r1,q1⟩=>Au (hb pins s1 σ H1 _ I1 q1) ?_) hm;rintro u s2 ⟨y,H2,I2,r2,q2⟩;refine Au (ho pins s2 σ H2 x y v u _ I2 r1 r2 q2) fun c s3 z49_=>?_;obtain ⟨z,H3,I3,r3,k,e,q3⟩:=z49_;subst e;cases r3;exact D0 ⟨H3,I3,q3⟩
def L8 (r r':R2) (ta tb tc:TE):TE:=fun σ H Q=>ta σ H fun x H1=>tb σ H1 fun y H2=>r x y H2 fun z H3=>∃k,z=.bl k∧
 (if k=true then tc σ H3 fun w' H4=>r' y w' H4 Q else Q (.bl false) H3)
theorem VT {op op':CmpOp} {r r':R2} (ho:OpR X (compareOp op) r) (ho':OpR X (compareOp op') r') (ha:PE X a ta) (hb:PE X b tb) (hc:PE X c tc)
 (hm:lastMarks [op,op'] [b,c]=false:=by with_unfolding_all rfl):PE X (.Compare a [op,op'] [b,c] pos) (L8 r r' ta tb tc):=by
 intro pins s σ H Q I h;refine Compare_chain (Au (ha pins s σ H _ I h) fun v s1 ⟨x,H1,I1,r1,q1⟩=>chain_link (Au (hb pins s1 σ H1 _ I1 q1) ?_)) hm;rintro u s2 ⟨y,H2,I2,r2,q2⟩;refine Au (ho pins s2 σ H2 x y v u _ I2 r1 r2 q2) fun d s3 z52_=>?_;obtain ⟨z,H3,I3,r3,k,e,q3⟩:=z52_;subst e;cases r3;refine D0 ?_;cases k with
 |false=>exact ite_ff ⟨.bl false,H3,I3,rfl,q3⟩
 |true=>exact ite_tt (chain_last (Au (hc pins s3 σ H3 _ I3 q3) fun w' s4 z53_=>by obtain ⟨z',H4,I4,r4,q4⟩:=z53_;exact (ho' pins s4 σ H4 y z' u w' Q I4 r2 r4 q4)))
theorem VU {op op':CmpOp} {r r':R2} (ho:OpR X (compareOp op) r) (ho':OpR X (compareOp op') r') (ha:PE X a ta) (hb:PE X b tb) (hc:PE X c tc)
 (hm:lastMarks [op,op'] [b,c]=false:=by with_unfolding_all rfl):PT X (.Compare a [op,op'] [b,c] pos) (OJ (L8 r r' ta tb tc)):=by
 intro pins s σ H Q I h;refine isTrue_chain (Au (ha pins s σ H _ I h) fun v s1 ⟨x,H1,I1,r1,q1⟩=>test_link (Au (hb pins s1 σ H1 _ I1 q1) ?_)) hm;rintro u s2 ⟨y,H2,I2,r2,q2⟩;refine Au (ho pins s2 σ H2 x y v u _ I2 r1 r2 q2) fun d s3 z56_=>?_;obtain ⟨z,H3,I3,r3,k,e,q3⟩:=z56_;subst e;cases r3;refine D0 ?_;cases k with
 |false=>obtain ⟨k',e',q'⟩:=q3;cases e';exact ite_ff ⟨H3,I3,q'⟩
 |true=>refine ite_tt (test_last (Au (hc pins s3 σ H3 _ I3 q3) ?_));rintro w' s4 ⟨z',H4,I4,r4,q4⟩;refine Au (ho' pins s4 σ H4 y z' u w' _ I4 r2 r4 q4) fun d' s5 z58_=>?_;obtain ⟨z2,H5,I5,r5,k2,e2,q5⟩:=z58_;subst e2;cases r5;exact D0 ⟨H5,I5,q5⟩
def L9 (K:PySem.W.Frag) (x:V) (H:Hp) (k:Bool):Prop:=
 match x with
 |.non=>k=false
 |.bl b=>k=b
 |.int i=>k=(i != 0)
 |.str y=>y.length≤sizeLine∧k=((y.length:Int) != 0)
 |.byt y=>y.size≤sizeLine∧k=((y.size:Int) != 0)
 |.ref p=>(∃xs,SqL K H p xs∧k=!xs.isEmpty)∨(∃xs,SqT K H p xs∧k=!xs.isEmpty)
 |_=>False
theorem OK {xs:List V} {its:List Value} (r:Vals xs its):(!its.toArray.isEmpty)=!xs.isEmpty:=by cases r<;>simp
theorem GL:(sizeLine:Nat)<2^63:=by rw [sizeLine_eq];decide
theorem VV:VE X (fun x H Q=>∃k,L9 X.K x H k∧Q k H):=by
 intro pins s σ H x v Q I rx h;obtain ⟨k,e,q⟩:=h;have hl:=GL;have hs:sizeLine=16777216:=sizeLine_eq;cases x with
 |non=>cases rx;have e':k=false:=e;subst e';exact truthy_none ⟨H,I,q⟩
 |bl b=>cases rx;have e':k=b:=e;subst e';exact D0 ⟨H,I,q⟩
 |int i=>obtain ⟨t,rfl⟩:=rx;have e':k=(i != 0):=e;subst e';exact PySem.P.truthy_int ⟨H,I,q⟩
 |str y=>obtain ⟨t,rfl⟩:=rx;obtain ⟨hy,e'⟩:y.length≤sizeLine∧k=((y.length:Int) != 0):=e;subst e';exact PySem.P.truthy_str (by omega) ⟨H,I.tok _,q⟩
 |byt y=>obtain ⟨t,rfl⟩:=rx;obtain ⟨hy,e'⟩:y.size≤sizeLine∧k=((y.size:Int) != 0):=e;subst e';exact PySem.W.truthy_bytes (by omega) ⟨H,I.tok _,q⟩
 |ref p=>
  cases rx;have e':(∃xs,SqL X.K H p xs∧k=!xs.isEmpty)∨(∃xs,SqT X.K H p xs∧k=!xs.isEmpty):=e;rcases e' with ⟨xs,hx,e'⟩ |⟨xs,hx,e'⟩
  ·subst e';obtain ⟨its,r,pl,hz⟩:=I.list hx;have hlen:=r.length;exact wpAny_truthy_list pl.isList (by simp only [AY];omega) ⟨H,I.tok _,by rw [OK r];exact q⟩
  ·subst e';obtain ⟨its,r,pl,hz⟩:=I.tuple hx;have hlen:=r.length;exact truthy_tuple pl (by simp only [AY];omega) ⟨H,I.tok _,by rw [OK r];exact q⟩
 |_=>exact (show False from e).elim
theorem VW (ha:PE X a ta) (he:∀Ep,isTrue a X.env Ep=(do let v ←Ep;standAt a.pos;holding [v] (truthy v))):
 PT X a (fun σ H Q=>ta σ H fun x H'=>∃k,L9 X.K x H' k∧Q k H'):=by
 intro pins s σ H Q I h;exact isTrue_plain (Au (ha pins s σ H _ I h) fun v s1 z59_=>by obtain ⟨x,H1,I1,r1,q1⟩:=z59_;exact (VV pins s1 σ H1 x v Q I1 r1 q1)) (he _)
theorem VX:OpR X (binaryOp .Add) (fun x y H Q=>∃i j,x=.str i∧y=.str j∧i.length+j.length≤sizeLine∧Q (.str (i++j)) H):=by intro pins s σ H x y v u Q I rx ry h;obtain ⟨i,j,rfl,rfl,hz,q⟩:=h;obtain ⟨t,rfl⟩:=rx;obtain ⟨t',rfl⟩:=ry;exact add_str (fun t' tk=>⟨.str (i++j),H,I.tok _,⟨_,rfl⟩,q⟩) hz
theorem Dj (r:Vals [x] us):∃u,us=[u]∧RelV x u:=by
 cases r with
 |cons r1 r2=>cases r2;exact ⟨_,rfl,r1⟩
theorem HN {x y:V} (r:Vals [x,y] us):∃u w',us=[u,w']∧RelV x u∧RelV y w':=by
 cases r with
 |cons r1 r2=>
  cases r2 with
  |cons r3 r4=>cases r4;exact ⟨_,_,rfl,r1,r3⟩
theorem VY (hc:X.calm=true):CF X (.builtin "max") (fun xs H Q=>∃i j,xs=[.int i,.int j]∧Q (.int (if j>i then j else i)) H):=by
 intro pins s σ H xs us Q I r h;obtain ⟨i,j,rfl,q⟩:=h;obtain ⟨u,w',rfl,⟨t,rfl⟩,⟨t',rfl⟩⟩:=HN r;refine max_two_ints (I.ok.hd hc) fun h' tk k=>⟨_,H,I.kept k,?_,q⟩
 by_cases hj:j>i
 ·rw [if_pos hj,if_pos hj];exact ⟨_,rfl⟩
 ·rw [if_neg hj,if_neg hj];exact ⟨_,rfl⟩
theorem VZ (hc:X.calm=true):CF X (.builtin "min") (fun xs H Q=>∃i j,xs=[.int i,.int j]∧Q (.int (if j<i then j else i)) H):=by
 intro pins s σ H xs us Q I r h;obtain ⟨i,j,rfl,q⟩:=h;obtain ⟨u,w',rfl,⟨t,rfl⟩,⟨t',rfl⟩⟩:=HN r;refine min_two_ints (I.ok.hd hc) fun h' tk k=>⟨_,H,I.kept k,?_,q⟩
 by_cases hj:j<i
 ·rw [if_pos hj,if_pos hj];exact ⟨_,rfl⟩
 ·rw [if_neg hj,if_neg hj];exact ⟨_,rfl⟩
theorem V0:CF X (.type "int") (fun xs H Q=>(∃i,xs=[.int i]∧Q (.int i) H)∨∃k,xs=[.bl k]∧Q (.int (if k then 1 else 0)) H):=by
 intro pins s σ H xs us Q I r h;rcases h with ⟨i,rfl,q⟩ |⟨k,rfl,q⟩
 ·obtain ⟨u,rfl,t,rfl⟩:=Dj r;exact call_int_int ⟨.int i,H,I,⟨_,rfl⟩,q⟩
 ·obtain ⟨u,rfl,r1⟩:=Dj r;cases r1;exact call_int_bool ⟨.int (if k then 1 else 0),H,I.tok _,⟨_,rfl⟩,q⟩
end
structure ObjM (h:Heap) (x dx C:Addr) (mA:Str→Option Value):Prop where
 obj:h.get? x=some (PySem.W.instObj C dx)
 ns:h.Ns1 dx mA
 ne:dx≠x
theorem V1 {h:Heap} {mA:Str→Option Value} (n:h.Ns1 dx mA):∃od,h.get? dx=some od∧∀name,PySem.W.lookIn name od=some (mA name):=by
 obtain ⟨o,es,ep,ho,hd,hk,_,hm⟩:=n;refine ⟨o,ho,fun name=>?_⟩;have e:=hm name;unfold nsFind findBy at e;rw [←Array.find?_toList] at e;unfold PySem.W.lookIn;rw [hd];dsimp only;split
 ·rename_i y q;rw [q] at e;exact congrArg some e
 ·rename_i q;rw [q] at e;have a:es.toList.any (·.refKey)=false:=by rw [List.any_eq_false];intro y hy;obtain ⟨z,t,hkey⟩:=hk y (Array.mem_toList_iff.mp hy);simp [DictEntry.refKey,hkey]
  have a':¬es.toList.any (·.refKey)=true:=by rw [a];exact Bj
  rw [if_neg a'];exact congrArg some e
theorem ObjM.look {mA:Str→Option Value} (I:ObjM h x dx C mA):∃od,PySem.W.InstAt h x (PySem.W.instObj C dx) C (some od)∧∀name,PySem.W.lookIn name od=some (mA name):=
 let ⟨od,ho,hl⟩:=V1 I.ns
 ⟨od,⟨I.obj,rfl,rfl,ho⟩,hl⟩
section
variable {prog:Program} {w:World} {A:Around} {E:Value→Shared→Prop} {s:Shared} {K:PySem.W.Frag} {x dx C f:Addr} {mA:Str→Option Value} {name:Str} {v:Value}
end
section
variable {P:Program} {w:World} {H H':Hp} {h h':Heap} {a C dx:Addr} {fs fs':List (Str×V)}
end
structure Cls (K:PySem.W.Frag) (C:Addr):Prop where
 pg:PySem.W.plainGet K C Str.empty=true
 hd:PySem.W.hasDictIn K C=true
 po:PySem.W.plainOver K C=true
 sa:PySem.W.findIn K (.ref C) "__setattr__"=some (some (.builtin "object.__setattr__"))
theorem Cls.get {K:PySem.W.Frag} (c:Cls K C) (f:Str):PySem.W.plainGet K C f=true:=c.pg
section
variable {X:Cx} {pins:List (Addr×Obj)} {σ:St} {H:Hp} {s:Shared} {a C dx:Addr} {fs:List (Str×V)} {f:Str} {v:V} {A:Around} {E:Value→Shared→Prop}
theorem Inv.made (I:Inv X pins σ H s):Inv X pins σ (Aq (Aq H s.heap.objs.size (.own (s.heap.objs.size+1))) (s.heap.objs.size+1) (.ins C s.heap.objs.size []))
 {s with heap:=(s.heap.push PySem.W.emptyDict).push (PySem.W.instObj C s.heap.objs.size)}:=by
 have e1:(s.heap.push PySem.W.emptyDict).get? s.heap.objs.size=some PySem.W.emptyDict:=Bc s.heap rfl;have e2:((s.heap.push PySem.W.emptyDict).push (PySem.W.instObj C s.heap.objs.size)).get? (s.heap.objs.size+1)=some (PySem.W.instObj C s.heap.objs.size):=by
  have:=Bc (s.heap.push PySem.W.emptyDict) (o:=PySem.W.instObj C s.heap.objs.size) rfl
  rwa [B4] at this
 have e3:(s.heap.push PySem.W.emptyDict).Ns s.heap.objs.size (fun _=>none):=⟨PySem.W.emptyDict,#[],_,e1,rfl,(fun e he=>absurd he (by simp)),fun _=>rfl⟩
 have I1:=I.laid (a:=s.heap.objs.size) (o:=.own (s.heap.objs.size+1)) (h':=s.heap.push PySem.W.emptyDict) (t':=s.toks) (fun b u q=>Aw _ q) (Ax _) ⟨_,e1⟩;refine I1.laid (a:=s.heap.objs.size+1) (o:=.ins C s.heap.objs.size []) (t':=s.toks) (fun b u q=>Aw _ q) (HF (B4 _ _)) ?_;have ne:s.heap.objs.size≠s.heap.objs.size+1:=Bf (GG _);refine ⟨by rw [AD ne,B0],B8 _,ne,e2,fun _=>none,(Heap.Ns1.of_empty e3).at fun o q=>Aw _ q,fun _=>True.intro,fun y hy=>absurd rfl hy⟩
end
section
variable {X:Cx} {o e value:Expr} {f:Str} {pos pos' tpos:Pos} {ta tv:TE}
end
section
variable {X:Cx} {pins:List (Addr×Obj)} {σ:St} {H:Hp} {s:Shared} {A:Around} {E:Value→Shared→Prop} {Q:Value→Shared→Prop} {c:Value} {b:Bool}
inductive D7 (K:PySem.W.Frag) (H:Hp):V→Value→Prop where
 |non:D7 K H .non (.type "NoneType")
 |bl (x:Bool):D7 K H (.bl x) (.type "bool")
 |int (i:Int):D7 K H (.int i) (.type "int")
 |str (x:Str):D7 K H (.str x) (.type "str")
 |flt (x:UInt64):D7 K H (.flt x) (.type "float")
 |lst {a:Addr} {xs:List V} (e:H a=some (.lst xs)):D7 K H (.ref a) (.type "list")
 |frz {a:Addr} {o:Obj} {xs:List V} (e:H a=some (.frz o (.lst xs))):D7 K H (.ref a) (.type "list")
 |tup {a:Addr} {xs:List V} (e:SqT K H a xs):D7 K H (.ref a) (.type "tuple")
theorem V2 (I:Inv X pins σ H s) (rx:RelV x u) (ty:D7 X.K H x t) (e:PySem.W.kitOne X.K t c=some b) (h:∀tk,Q (.bool b) {s with toks:=tk}):
 wpAny (model X.prog X.w) A (call (.builtin "isinstance") [u,c]) Q E s:=by
 cases ty with
 |non=>cases (show u=Value.none from rx);exact PySem.W.kia_one PySem.W.kitx_none I.kIn True.intro e (fun z=>nomatch z) h
 |bl y=>cases (show u=Value.bool y from rx);exact PySem.W.kia_one PySem.W.kitx_bool I.kIn True.intro e (fun z=>nomatch z) h
 |int i=>obtain ⟨t,q⟩:=(show ∃t,u=Value.int i t from rx);cases q;exact PySem.W.kia_one PySem.W.kitx_int I.kIn True.intro e (fun z=>nomatch z) h
 |str y=>obtain ⟨t,q⟩:=(show ∃t,u=Value.str y t from rx);cases q;exact PySem.W.kia_one PySem.W.kitx_str I.kIn True.intro e (fun z=>nomatch z) h
 |flt y=>obtain ⟨t,q⟩:=(show ∃t,u=Value.float y t from rx);cases q;exact PySem.W.kia_one PySem.W.kitx_float I.kIn True.intro e (fun z=>nomatch z) h
 |@lst a xs ea=>
  cases (show u=Value.ref a from rx);obtain ⟨_,_,n,_,h1⟩:=(show ObjOk X.prog X.w H s.heap a (.lst xs) from I.hok a _ ea)
  exact PySem.W.kia_one PySem.W.kitx_list I.kIn ⟨_,h1,rfl⟩ e (fun z=>nomatch z) h
 |@frz a ob xs ea=>
  cases (show u=Value.ref a from rx);obtain ⟨_,_,_,n,_,h1⟩:=(show ObjOk X.prog X.w H s.heap a (.frz ob (.lst xs)) from I.hok a _ ea)
  exact PySem.W.kia_one PySem.W.kitx_list I.kIn ⟨_,h1,rfl⟩ e (fun z=>nomatch z) h
 |@tup a xs ea=>cases (show u=Value.ref a from rx);obtain ⟨_,_,p,_⟩:=I.tuple ea;obtain ⟨o,h1,h2,_⟩:=p;exact PySem.W.kia_one PySem.W.kitx_tuple I.kIn ⟨o,h1,h2⟩ e (fun z=>nomatch z) h
end
structure Room (k:Nat) (A:Around):Prop where
 hd:A.handled=none
 dp:A.depth+3*k+5<recursionLimit
 un:A.units+16*k+200<cLine
 gd:A.guards=some []
theorem Room.mono {j k:Nat} (r:Room k A) (h:j≤k):Room j A:=⟨r.hd,by have:=r.dp;omega,by have:=r.un;omega,r.gd⟩
theorem Room.deeper {k:Nat} {A:Around} (r:Room (k+1) A) (env:Env):Room k (A.deeper env):=
 ⟨r.hd,by have:=r.dp;show A.depth+1+3*k+5<_;omega,by have:=r.un;show A.units+3+16*k+200<_;omega,r.gd⟩
theorem Room.depth {k:Nat} {A:Around} (r:Room k A):A.depth<recursionLimit:=by have:=r.dp;omega
theorem Room.units {k:Nat} {A:Around} (r:Room k A):A.units+64<cLine:=by have:=r.un;omega
def V3:TA:=fun _ H Q=>Q [] H
def V4 (ta:TE) (tr:TA):TA:=fun σ H Q=>ta σ H fun x H1=>tr σ H1 fun xs H2=>Q (x::xs) H2
section
variable {X:Cx} {e:Expr} {es:List Expr} {te:TE} {t:TA} {pos:Pos}
theorem Ma:PA X [] V3:=fun _ _ _ _ H Q I h=>Calls.spliced_nil ⟨[],H,I,.nil,h⟩
theorem Mb (ha:PE X e te) (hr:PA X es t) (hs:starEach (e::es) X.env=(false,eval e X.env)::starEach es X.env:=by rfl):PA X (e::es) (V4 te t):=by
 intro pos pins s σ H Q I h;rw [hs]
 show wpAny _ _ (spliced ((false,eval e X.env)::backTo pos (starEach es X.env))) _ _ s
 refine Calls.spliced_cons (Au (ha pins s σ H _ I h) fun u s1 z68_=>?_);obtain ⟨x,H1,I1,r1,q1⟩:=z68_;exact Au (hr pos pins s1 σ H1 _ I1 q1) fun us s2 z69_=>by obtain ⟨xs,H2,I2,r2,q2⟩:=z69_;exact (⟨x::xs,H2,I2,.cons r1 r2,q2⟩)
def V5 (t:TA):TE:=fun σ H Q=>t σ H fun xs H1=>xs.length≤sizeLine∧∀p,H1 p=none→Q (.ref p) (Aq H1 p (.tup xs))
def V6 (t:TA):TE:=fun σ H Q=>t σ H fun xs H1=>xs.length≤sizeLine∧∀p,H1 p=none→Q (.ref p) (Aq H1 p (.lst xs))
theorem V7 {x1} (h:PA X es t):PE X (.Tuple es x1 pos) (V5 t):=by intro pins s σ H Q I hq;refine wpAny_Tuple_spliced (Au (h pos pins s σ H _ I hq) fun us s1 ⟨xs,H1,I1,r,z,q⟩=>⟨by rw [←r.length];exact z,?_⟩);have hf:H1 s1.heap.objs.size=none:=I1.hok.fresh (Ax _);refine ⟨.ref s1.heap.objs.size,Aq H1 s1.heap.objs.size (.tup xs),I1.laid (t':=s1.toks) (fun b u e=>Aw _ e) (Ax _) ?_,rfl,q _ hf⟩;exact ⟨z,us,r,⟨_,Bc _ rfl,rfl,_,rfl⟩,NoDict.new⟩
theorem V8 (h:PA X es t):PE X (.List es pos) (V6 t):=by intro pins s σ H Q I hq;refine wpAny_List_spliced (Au (h pos pins s σ H _ I hq) fun us s1 ⟨xs,H1,I1,r,z,q⟩=>⟨by rw [←r.length];exact z,?_⟩);have hf:H1 s1.heap.objs.size=none:=I1.hok.fresh (Ax _);refine ⟨.ref s1.heap.objs.size,Aq H1 s1.heap.objs.size (.lst xs),I1.laid (t':=s1.toks) (fun b u e=>Aw _ e) (Ax _) ?_,rfl,q _ hf⟩;exact ⟨z,us,0,r,Bc _ rfl⟩
end
abbrev Sp:=List V→Hp→VK→XK→Prop
abbrev DP:=List Env→Hp→Shared→XK→Value→Shared→Prop
structure Ft (P:Program) (w:World) (K:PySem.W.Frag) (mg:Str→Option Value) (base:Heap) (A:Around) (outer:List Env) (s:Shared) (H:Hp):Prop where
 frames:A.frames=some outer
 mod:Mod K mg base
 bs:∀b o,base.get? b=some o→s.heap.get? b=some o∧H b=none
 bsz:base.objs.size≤s.heap.objs.size
 funs:s.heap.FunFrames base outer
 frf:∀b∈frs outer,H b=none
 hok:HOk P w H s.heap
 bare:AllBare s.gens
inductive CE (outer:List Env) (P:Program) (w:World) (H:Hp) (s:Shared) (Q:VK) (u:Value) (s':Shared):Prop where
 |mk (v:V) (H':Hp) (os:s'.os=s.os) (bare:AllBare s'.gens) (un:Un (frs outer) [] H H' s.heap s'.heap) (hok:HOk P w H' s'.heap) (r:RelV v u) (q:Q v H'):CE outer P w H s Q u s'
def CR (CX:DP) (outer:List Env) (P:Program) (w:World) (H:Hp) (s:Shared) (Q:VK) (E:XK) (r:Result) (s':Shared):Prop:=
 match r with
 |.ok (.ret u)=>CE outer P w H s Q u s'
 |.ok _=>False
 |.error e=>CX outer H s E e s'
structure FnOk (P:Program) (w:World) (K:PySem.W.Frag) (mg:Str→Option Value) (base:Heap) (CX:DP) (k:Nat) (f:Addr) (fd:FuncData) (ps:List Str) (sp:Sp):Prop where
 len:∀vs H Q E,sp vs H Q E→vs.length=ps.length
 run:∀(A:Around) (outer:List Env) (s:Shared) (H:Hp) (args:Args) (us:List Value) (vs:List V) (Q:VK) (E:XK),Room k A→Ft P w K mg base A outer s H→BindsTo s fd args (ps.zip us)→Vals vs us→sp vs H Q E→
  codeAny (model P w) A (.call (.ref f) args) (CR CX outer P w H s Q E) s
theorem FnOk.mono {K:PySem.W.Frag} {CX:DP} {j k:Nat} {ps:List Str} {sp:Sp} (F:FnOk P w K mg base CX j f fd ps sp) (h:j≤k):
 FnOk P w K mg base CX k f fd ps sp:=⟨F.len,fun A outer s H args us vs Q E hr=>F.run A outer s H args us vs Q E (hr.mono h)⟩
theorem FnOk.imp {K:PySem.W.Frag} {CX:DP} {k:Nat} {ps:List Str} {sp sp':Sp} (F:FnOk P w K mg base CX k f fd ps sp)
 (h:∀vs H Q E,sp' vs H Q E→sp vs H Q E):FnOk P w K mg base CX k f fd ps sp':=
 ⟨fun vs H Q E q=>F.len vs H Q E (h _ _ _ _ q),fun A outer s H args us vs Q E hr he hb hv hs=>F.run A outer s H args us vs Q E hr he hb hv (h _ _ _ _ hs)⟩
section
variable {X:Cx} {pins:List (Addr×Obj)} {σ:St} {H:Hp} {s s':Shared}
theorem Inv.env0 (I:Inv X pins σ H s):Ft X.prog X.w X.K X.mg X.base X.A X.stack s H:=
 ⟨I.ok.frames,I.ok.mod,I.bs,Br I.ok.bsz I.sz,I.stack,I.stkFree,I.hok,I.bare⟩
theorem Inv.after (I:Inv X pins σ H s) (h:CE X.stack X.prog X.w H s Q u s'):EP X pins σ Q u s':=by obtain ⟨v,H',os,bare,un,hok,r,q⟩:=h;obtain ⟨hh,g,d,t,os'⟩:=s';obtain rfl:os'=s.os:=os;exact ⟨v,H',I.call (h':=hh) (g':=g) (d':=d) (t':=t) (ch:=[]) un hok bare (fun b z=>absurd z (by simp)),r,q⟩
end
def V9 (sp:Sp) (dvs:List V) (E:XK) (t:TA):TE:=fun σ H Q=>t σ H fun vs H1=>sp (vs++dvs) H1 Q E
def Binds (K:PySem.W.Frag) (fd:FuncData) (ps:List Str) (ds:List Value):Prop:=
 ∀(s:Shared) (us:List Value),K.In s.heap→(us++ds).length=ps.length→BindsTo s fd ⟨us,[]⟩ (ps.zip (us++ds))
theorem Binds.all {K:PySem.W.Frag} {ps:List Str} (h:∀us:List Value,us.length=ps.length→bindArgs fd ⟨us,[]⟩=pure (ps.zip us)):Binds K fd ps []:=fun s us _ hl=>by rw [Dx] at hl ⊢;exact .of_eq (h us hl)
def F4 (CX:DP) (X:Cx) (E:XK):Prop:=∀(pins:List (Addr×Obj)) (σ:St) (H:Hp) (s:Shared) (e:Value) (s':Shared),Inv X pins σ H s→CX X.stack H s E e s'→X.xe e s'
section
variable {X:Cx} {CX:DP} {k:Nat} {f C:Addr} {fd:FuncData} {ps:List Str} {sp:Sp} {dvs:List V} {ds:List Value} {E:XK} {x m:Str} {p pos apos:Pos} {e o:Expr} {es:List Expr} {ta:TE} {t:TA}
theorem Wa {σ:St} (F:FnOk X.prog X.w X.K X.mg X.base CX k f fd ps sp) (hr:Room k X.A) (hb:Binds X.K fd ps ds) (hd:Vals dvs ds) (hx:F4 CX X E)
 (I:Inv X pins σ H s) (r:Vals vs us) (h:sp (vs++dvs) H Q E):wpAny (model X.prog X.w) X.A (call (.ref f) us) (EP X pins σ Q) X.xe s:=by
 have r2:Vals (vs++dvs) (us++ds):=r.append hd;have hl:(us++ds).length=ps.length:=by rw [←r2.length];exact F.len _ _ _ _ h
 refine wpAny_call (codeAny_mono (F.run X.A X.stack s H ⟨us,[]⟩ (us++ds) (vs++dvs) Q E hr I.env0 (hb s us I.kIn hl) r2 h) fun r s' hq=>?_);cases r with
 |error e=>exact hx pins σ H s e s' I hq
 |ok fl=>
  cases fl with
  |ret u=>exact I.after hq
  |next=>exact False.elim hq
  |brk=>exact False.elim hq
  |cont=>exact False.elim hq
theorem Wb (F:FnOk X.prog X.w X.K X.mg X.base CX k f fd ps sp) (hr:Room k X.A) (hg:Gl X x) (hm:X.mg x=some (.ref f)) (hk:PySem.W.keepIn X.K (.ref f)=true) (hb:Binds X.K fd ps ds) (hd:Vals dvs ds) (hx:F4 CX X E)
 (ha:PA X (e::es) t) (hdb:(x==("__debug__":Str))=false:=by decide) (he:starEach (e::es) X.env=(false,eval e X.env)::starEach es X.env:=by rfl) (hpl:(backTo pos (starEach es X.env)).any (·.1)=false:=by rfl):
 PE X (.Call (.Name x p) (e::es) [] pos) (V9 sp dvs E t):=by
 intro pins s σ H Q I h;refine wpAny_Call_Name_kw (GI I hg hm ?_ hdb);refine PySem.W.callWith_K (h₀:=X.base) I.ok.mod.kin hk (Au (ha pos pins s σ H _ I h) ?_) he hpl;rintro us s1 ⟨vs,H1,I1,r,q⟩;refine ⟨I1.kIn,?_⟩;exact Wa F hr hb hd hx I1 r q
end
section
variable {X:Cx} {CX:DP} {k:Nat} {f C:Addr} {fd:FuncData} {ps ks:List Str} {sp:Sp} {E:XK} {x m:Str} {p pos apos kpos:Pos} {e o:Expr} {es:List Expr} {kws:List Keyword} {te ta:TE} {t tk:TA} {nm:Option Str}
variable {g:List Value→List Value→List Value} {gV:List V→List V→List V}
end
structure DQ (N P:List Str) (sc:Scope):Prop where
 kind:sc.kind=.function
 co:sc.isCoroutine=false
 gen:sc.isGenerator=false
 nd:N.Nodup
 pre:N.take P.length=P
 par:∀x∈P,sc.names.lookup x=some .local∨sc.names.lookup x=some .cell
 nofree:∀y∈sc.names,y.2≠.free
theorem OL {kindOf:Str→Option NameKind} {x:Str}:∀{binds:List (Str×Value)} {m:Str→Option Value},(∀v,(x,v)∉binds)→bindL kindOf binds m x=m x
 |[],_,_=>rfl
 |(n,v)::r,m,h=>by
  unfold bindL;rw [OL fun w hw=>h w (AN _ hw)];split
  ·have:x≠n:=by rintro rfl;exact h v AK
   simp [this]
  ·rfl
theorem OM {kindOf:Str→Option NameKind} {x:Str}:∀{binds:List (Str×Value)} {m:Str→Option Value},(∀v,(x,v)∉binds)→bindC kindOf binds m x=m x
 |[],_,_=>rfl
 |(n,v)::r,m,h=>by
  unfold bindC;rw [OM fun w hw=>h w (AN _ hw)];split
  ·rfl
  ·have:x≠n:=by rintro rfl;exact h v AK
   simp [this]
theorem Mc {kindOf:Str→Option NameKind}:∀{P:List Str} {vs:List Value} {i:Nat} {m:Str→Option Value},P.Nodup→P[i]?=some x→vs[i]?=some v→kindOf x=some .local→
 bindL kindOf (P.zip vs) m x=some v
 |[],_,_,_,_,h,_,_=>by simp at h
 |_::_,[],_,_,_,_,h,_=>by simp at h
 |p::P,w::vs,0,m,nd,h1,h2,hk=>by
  simp at h1 h2;subst h1;subst h2
  show bindL kindOf ((p,w)::P.zip vs) m p=_
  unfold bindL;rw [OL fun v hv=>(qbG.mp nd).1 (Jv hv).1,if_pos hk];simp
 |p::P,w::vs,i+1,m,nd,h1,h2,hk=>by
  show bindL kindOf ((p,w)::P.zip vs) m x=_
  unfold bindL;exact Mc (i:=i) (qbG.mp nd).2 (by simpa using h1) (by simpa using h2) hk
theorem Md {kindOf:Str→Option NameKind}:∀{P:List Str} {vs:List Value} {i:Nat} {m:Str→Option Value},P.Nodup→P[i]?=some x→vs[i]?=some v→kindOf x≠some .local→
 bindC kindOf (P.zip vs) m x=some v
 |[],_,_,_,_,h,_,_=>by simp at h
 |_::_,[],_,_,_,_,h,_=>by simp at h
 |p::P,w::vs,0,m,nd,h1,h2,hk=>by
  simp at h1 h2;subst h1;subst h2
  show bindC kindOf ((p,w)::P.zip vs) m p=_
  unfold bindC;rw [OM fun v hv=>(qbG.mp nd).1 (Jv hv).1,if_neg hk];simp
 |p::P,w::vs,i+1,m,nd,h1,h2,hk=>by
  show bindC kindOf ((p,w)::P.zip vs) m x=_
  unfold bindC;exact Md (i:=i) (qbG.mp nd).2 (by simpa using h1) (by simpa using h2) hk
def start (N:List Str) (vs:List V):St:=vs.map some++List.replicate (N.length - vs.length) none
def BP (CX:DP) (P:Program) (w:World) (K:PySem.W.Frag) (mg:Str→Option Value) (base:Heap) (N:List Str) (qual:Str) (scope:Scope) (f:Addr) (cd:Value) (A:Around) (outer:List Env) (s:Shared) (H:Hp) (E:XK):Cx where
 prog:=P
 w:=w
 K:=K
 mg:=mg
 base:=base
 A:=A.deeper (envOfC qual scope s.heap.objs.size f cd)
 N:=N
 s₀:=s
 H₀:=H
 env:=envOfC qual scope s.heap.objs.size f cd
 outer:=outer
 stack:=envOfC qual scope s.heap.objs.size f cd::outer
 ex:=[]
 calm:=true
 fn:=fun _=>true
 pn:=[]
 xe:=fun e s'=>wpAny (model P w) (A.deeper (envOfC qual scope s.heap.objs.size f cd)) (leaving (envOfC qual scope s.heap.objs.size f cd) e) (fun _ s''=>CX outer H s E e s'') (fun e' s''=>CX outer H s E e' s'') s'
theorem JL {sc:Scope} {n:Nat} (h:sc.names.lookup x=some .cell):∃c,(cellsFrom n sc.names []).lookup x=some c:=by have q:=PySem.W.cellsFrom_some sc.names n [] (.inl h);exact qbB.mp q
theorem ON {CX:DP} {K:PySem.W.Frag} {N ps:List Str} {scope:Scope} {A:Around} {s s1:Shared} {vs:List V} 
 (S:DQ N ps scope) (hd:A.handled=none) (e0:Ft P w K mg base A outer s H) (hl:vs.length=ps.length) (r:Vals vs us)
 (x:InCallC s s.heap.objs.size (bindL (envOfC qual scope s.heap.objs.size f cd).kindOf (ps.zip us) fun _=>none) (cellsFrom (s.heap.objs.size+1) scope.names []) (bindC (envOfC qual scope s.heap.objs.size f cd).kindOf (ps.zip us) fun _=>none) s1):
 Inv (BP CX P w K mg base N qual scope f cd A outer s H E) [] (start N vs) H s1:=by
 have hpl:ps.length≤N.length:=by have:=congrArg List.length S.pre;rw [FW] at this;omega
 obtain ⟨h1,tk,rfl,hk⟩:=x.done;have noA:∀b:Addr,b∉(BP CX P w K mg base N qual scope f cd A outer s H E).ex:=fun b z=>absurd (show b∈([]:List Addr) from z) (by simp);refine ⟨⟨e0.mod,S.kind,rfl,rfl,Ax _,fun y z c h1 h2=>?_,fun y hy=>?_,fun y c _ h=>?_,fun _=>hd,Around.frames_deeper e0.frames,.inr ⟨rfl,rfl⟩,fun b z=>absurd z (noA b),e0.bs,e0.bsz,fun b _ _=>noA b,fun b z=>absurd z (noA b),e0.funs,e0.frf⟩,
  rfl,e0.bare,Un.kept hk,⟨_,x.toInCall.ns,fun i y v h1 h2 h3=>?_⟩,fun y c h=>⟨_,x.cell y c h⟩,e0.hok.fresh (Ax _),fun y c h=>?_,fun p hp=>absurd (show p∈([]:List (Addr×Obj)) from hp) (by simp),e0.hok.kept hk,?_⟩
 ·exact name_of_addr x.apart (PySem.mem_of_lookup h1) (PySem.mem_of_lookup h2)
 ·have hy:scope.names.lookup y=some .cell∨scope.names.lookup y=some .free:=hy;rcases hy with hy |hy
  ·exact JL hy
  ·exact absurd rfl (S.nofree _ (PySem.mem_of_lookup hy))
 ·exact EH (x.above y c (PySem.mem_of_lookup h))
 ·have hi:i<vs.length:=by
   unfold start at h2
   by_cases hi:i<vs.length
   ·exact hi
   ·rw [Hs (by simpa using hi)] at h2;rw [LG] at h2;split at h2<;>cases h2
  have ha:vs[i]?=some v:=by
   unfold start at h2;rw [EA (by simpa using hi),BO] at h2;cases e:vs[i]? with
   |none=>rw [e] at h2;cases h2
   |some a=>rw [e] at h2;cases h2;rfl
  obtain ⟨u,hu,rv⟩:=r.get ha;have hp:ps[i]?=some y:=by rw [←S.pre,LC (by omega)];exact h1
  have ndP:ps.Nodup:=by rw [←S.pre];exact S.nd.sublist (List.take_sublist _ _)
  refine ⟨u,rv,?_⟩;rcases S.par y (Dw hp) with k |k
  ·exact .inl ⟨k,Mc ndP hp hu k⟩
  ·obtain ⟨c,e⟩:=JL (n:=s.heap.objs.size+1) k;refine .inr ⟨.inl k,c,e,?_⟩;have q:=x.cell y c e;rw [Md ndP hp hu (by show scope.names.lookup y≠_;rw [k];decide)] at q;exact q
 ·exact e0.hok.fresh (EH (x.above y c (PySem.mem_of_lookup h)))
 ·unfold start
  show _=N.length
  rw [Dg,A0,List.length_replicate];omega
theorem OO {CX:DP} {K:PySem.W.Frag} {k:Nat} {f:Addr} {params:Arguments} {body:List Stmt} {dV kV doc pm cdv ct oc:Value} {an od:Option Addr} 
 {osl:Array (Option Value)} {N ps:List Str} {sp:Sp} (lk:K.lookup f=some ⟨oc,od,.func (PySem.W.fnOf name qual params body scope dV kV doc pm an cdv ct),osl⟩) (hcd:PySem.W.codeIn K cdv qual=true) (S:DQ N ps scope)
 (len:∀vs H Q E,sp vs H Q E→vs.length=ps.length)
 (hbody:∀(A:Around) (outer:List Env) (s:Shared) (H:Hp) (vs:List V) (Q:VK) (E:XK),Room k (A.deeper (envOfC qual scope s.heap.objs.size f cdv))→sp vs H Q E→
  ∃t,CQ (BP CX P w K mg base N qual scope f cdv A outer s H E) body t∧t {nx:=fun _ H'=>Q .non H',rt:=Q} (start N vs) H):
 FnOk P w K mg base CX (k+1) f (PySem.W.fnOf name qual params body scope dV kV doc pm an cdv ct) ps sp:=by
 refine ⟨len,fun A outer s H args us vs Q E hr e0 hb r hsp=>?_⟩;have hl:=len _ _ _ _ hsp;have KX:K.In s.heap:=e0.mod.kin.keeps fun b o e=>(e0.bs b o e).1;have lim:s.heap.NoLimit:=e0.mod.nolimit.keeps fun b o e=>(e0.bs b o e).1;have hkind:∀y∈ps.zip us,scope.names.lookup y.1=some .local∨(scope.names.lookup y.1=some .cell∧((cellsFrom (s.heap.objs.size+1) scope.names []).lookup y.1).isSome=true):=fun z81_ hy=>by
  obtain ⟨n,v⟩:=z81_;rcases S.par n (Jv hy).1 with q |q
  ·exact .inl q
  ·exact .inr ⟨q,PySem.W.cellsFrom_some _ _ _ (.inl q)⟩
 refine codeAny_call_function hr.depth (KX _ _ lk) rfl S.co S.gen rfl (PySem.W.codeRec_of KX hcd) (hb _ _ _ _ ?_);refine wpAny_newFunctionEnv_cells S.kind hkind fun env he s1 x=>?_;subst he;refine ⟨lim.keeps x.toInCall.keep,codeAny_func ?_⟩;obtain ⟨t,ht,hq⟩:=hbody A outer s H vs Q E (hr.deeper _) hsp;have I:Inv (BP CX P w K mg base N qual scope f cdv A outer s H E) [] (start N vs) H s1:=ON S hr.hd e0 hl r x;refine A1 (ht [] s1 (start N vs) H _ I hq) (fun fl s' hs=>?_) fun e s' hs=>hs;have AJ:∀{σ':St} {H':Hp} {v:V} {u:Value},Inv (BP CX P w K mg base N qual scope f cdv A outer s H E) [] σ' H' s'→RelV v u→Q v H'→CE outer P w H s Q u s':=
  fun {σ' H' v u} J rv q=>⟨v,H',J.os,J.bare,J.base,J.hok,rv,q⟩
 cases fl with
 |ret u=>obtain ⟨v,σ',H',J,rv,q⟩:=hs;exact AJ J rv q
 |next=>obtain ⟨σ',H',J,q⟩:=hs;exact AJ (v:=V.non) (u:=Value.none) J rfl q
 |brk=>obtain ⟨_,_,_,q⟩:=hs;exact False.elim q
 |cont=>obtain ⟨_,_,_,q⟩:=hs;exact False.elim q
section
variable {X:Cx} {x:Str} {p pos:Pos} {e:Expr} {es:List Expr} {t:TA} {id T:String} {r:List V→Hp→VK→Prop}
def OP (r:List V→Hp→VK→Prop) (t:TA):TE:=fun σ H Q=>t σ H fun vs H1=>r vs H1 Q
theorem OQ (hc:CF X (.builtin id) r) (hg:Gl X x) (hm:X.mg x=none) (hv:bootBuiltins x=some (.builtin id)) (ha:PA X (e::es) t) (hn:x≠"__name__":=by decide) (hdb:(x==("__debug__":Str))=false:=by decide)
 (he:starEach (e::es) X.env=(false,eval e X.env)::starEach es X.env:=by rfl) (hpl:(backTo pos (starEach es X.env)).any (·.1)=false:=by rfl):PE X (.Call (.Name x p) (e::es) [] pos) (OP r t):=by
 intro pins s σ H Q I h;refine wpAny_Call_Name_kw (GJ I hg hm hv ?_ hn hdb);exact PyProof.Rows.callWith_builtin1 (Au (ha pos pins s σ H _ I h) fun us s1 z82_=>by obtain ⟨vs,H1,I1,r1,q1⟩:=z82_;exact (hc pins s1 σ H1 vs us Q I1 r1 q1)) he hpl
theorem OR (hc:CF X (.type T) r) (hg:Gl X x) (hm:X.mg x=none) (hv:bootBuiltins x=some (.type T)) (ha:PA X (e::es) t) (hn:x≠"__name__":=by decide) (hdb:(x==("__debug__":Str))=false:=by decide)
 (he:starEach (e::es) X.env=(false,eval e X.env)::starEach es X.env:=by rfl) (hpl:(backTo pos (starEach es X.env)).any (·.1)=false:=by rfl):PE X (.Call (.Name x p) (e::es) [] pos) (OP r t):=by
 intro pins s σ H Q I h;refine wpAny_Call_Name_kw (GJ I hg hm hv ?_ hn hdb);exact PyProof.Rows.callWith_type1 (Au (ha pos pins s σ H _ I h) fun us s1 z83_=>by obtain ⟨vs,H1,I1,r1,q1⟩:=z83_;exact (hc pins s1 σ H1 vs us Q I1 r1 q1)) he hpl
end
end L2
namespace HT
open PySem PyProof.Rows
section
open PySem.SeqAt
open PySem.AutoSeq1 (wpAny_loadPart')
open PySem.MeetsSeq PySem.MeetsSeq2 PySem.MeetsSeq3
end
section
variable {prog:Program} {w:World} {A:Around} {E:Value→Shared→Prop} {s:Shared}
theorem cat_tup {vs ws:List Value} {Q:Value→Shared→Prop} (ht:IsTup s.heap t vs.toArray) (hb:IsTup s.heap b ws.toArray) (hv:vs≠[])
 (h1:ws=[]→Q (.ref t) s) (h2:ws≠[]→Q (.ref s.heap.objs.size) {s with heap:=s.heap.push {cls:=.type "tuple",data:=.seq (vs++ws).toArray}})
 (hsz:vs.length+ws.length≤sizeLine):wpAny (model prog w) A (binaryOp .Add (.ref t) (.ref b)) Q E s:=by
 obtain ⟨⟨cls,dd,data,sl⟩,ho,hc,n,hd⟩:=id ht;obtain ⟨⟨cls2,dd2,data2,sl2⟩,ho2,hc2,n2,hd2⟩:=id hb;simp only at hc hd hc2 hd2;subst hc hd hc2 hd2;have e:vs.toArray++ws.toArray=(vs++ws).toArray:=by simp
 by_cases hw:ws=[]
 ·exact concat_meets ⟨_,ho,rfl⟩ ⟨_,ho2,rfl⟩ noFill_tuple_add seq_tuple_add PySem.F.slot_tuple_add PySem.F.entry_tuple_add (PySem.F.args_tuple_add_2 _ _)
   (tuple_addW1 t b vs.toArray ws.toArray n n2 dd dd2 sl sl2 (by simpa using hv) (by simp [hw])) ⟨ho,ho2,h1 hw⟩
 ·refine concat_meets ⟨_,ho,rfl⟩ ⟨_,ho2,rfl⟩ noFill_tuple_add seq_tuple_add PySem.F.slot_tuple_add PySem.F.entry_tuple_add (PySem.F.args_tuple_add_2 _ _)
   (tuple_addW2 t b vs.toArray ws.toArray n n2 dd dd2 sl sl2 (by simpa using hv) (by simpa using hw) (by rw [AY,AY];exact hsz)) ⟨ho,ho2,?_⟩
  rw [e];exact h2 hw
def sIx (n d:Nat):Option Int→Nat
 |none=>d
 |some v=>if v<0 then (v+(n:Int)).toNat else min v.toNat n
theorem sIx_none (n d:Nat):sIx n d none=d:=rfl
theorem sIx_nat (n d k:Nat):sIx n d (some (k:Int))=min k n:=by
 show (if (k:Int)<0 then ((k:Int)+(n:Int)).toNat else min (k:Int).toNat n)=min k n
 rw [if_neg (by omega),Jn]
theorem Wc (n d:Nat) (hd:d≤n) (o:Option Int):sIx n d o≤n:=by
 cases o with
 |none=>exact hd
 |some v=>
  show (if v<0 then (v+(n:Int)).toNat else min v.toNat n)≤n
  by_cases hv:v<0
  ·rw [if_pos hv];omega
  ·rw [if_neg hv];exact Nat.min_le_right _ _
theorem OT (v:Int) (n d:Nat):(if v<0 then max (v+(n:Int)) 0 else min v (n:Int))=((sIx n d (some v):Nat):Int):=by
 show (if v<0 then max (v+(n:Int)) 0 else min v (n:Int))=(((if v<0 then (v+(n:Int)).toNat else min v.toNat n):Nat):Int)
 by_cases hv:v<0
 ·simp only [if_pos hv];omega
 ·simp only [if_neg hv];omega
theorem Wd (lo hi:Option Int) (n:Nat):Builtin.Slice.sliceAdjust lo hi 1 (n:Int)=(((sIx n 0 lo:Nat):Int),((sIx n n hi:Nat):Int)):=by
 have h1:¬((1:Int)<0):=by omega
 unfold Builtin.Slice.sliceAdjust;simp only [h1,if_false];refine Prod.ext ?_ ?_
 ·cases lo with
  |none=>rfl
  |some v=>exact OT v n 0
 ·cases hi with
  |none=>rfl
  |some v=>exact OT v n n
theorem Wf (i j:Nat):Builtin.Slice.slicePlaces (i:Int) (j:Int) 1=j - i:=by
 unfold Builtin.Slice.slicePlaces;have h1:(1:Int)>0:=by omega
 simp only [h1,if_true,Int.ediv_one]
 split<;>omega
theorem OU {o:Option Int} {Q:Option Int→Shared→Prop} (p:IsPart v o) (h:Q o s):wpAny (model prog w) A (Builtin.Slice.slicePartIndex v) Q E s:=by
 cases p with
 |none=>exact slicePart_none h
 |int i t=>exact slicePart_int h
theorem sliceApplied_gen {lo hi:Option Int} {n:Nat} {Q:Int×Int×Nat→Shared→Prop} (hs:s.heap.IsSliceOf sl vl vu .none) (pl:IsPart vl lo) (pu:IsPart vu hi)
 (h:Q (((sIx n 0 lo:Nat):Int),1,sIx n n hi - sIx n 0 lo) s):wpAny (model prog w) A (Builtin.Slice.sliceApplied (.ref sl) (pure (n:Int))) Q E s:=by
 obtain ⟨os,hos,hcs,hds⟩:=id hs;unfold Builtin.Slice.sliceApplied Builtin.Slice.sliceFields;refine Ad (Ad (wpAny_field hos hds (x:=vl) rfl (Ad (wpAny_field hos hds (x:=vu) rfl (Ad (wpAny_field hos hds (x:=.none) rfl (Ak ?_)))))));refine Ad (slicePart_none ?_)
 show wpAny _ _ (if ((1:Int)==0)=true then _ else _) _ _ s
 rw [if_neg (by decide)];refine Ad (OU pl (Ad (OU pu (Ad (Ak ?_)))))
 show wpAny _ _ (match Builtin.Slice.sliceAdjust lo hi 1 (n:Int) with |(lo,hi)=>pure (lo,(1:Int),Builtin.Slice.slicePlaces lo hi 1)) _ _ s
 rw [Wd lo hi n]
 show wpAny _ _ (pure (((sIx n 0 lo:Nat):Int),(1:Int),Builtin.Slice.slicePlaces ((sIx n 0 lo:Nat):Int) ((sIx n n hi:Nat):Int) 1)) _ _ s
 rw [Wf];exact Ak h
theorem Wg (xs:Array Value) (i k:Nat):((List.range k).filterMap fun (m:Nat)=>xs[((i:Int)+(m:Int)*1).toNat]?).toArray=((xs.toList.drop i).take k).toArray:=by
 have e:(fun (m:Nat)=>xs[((i:Int)+(m:Int)*1).toNat]?)=fun m=>xs[i+m]?:=by
  funext m;have:((i:Int)+(m:Int)*1).toNat=i+m:=by omega
  rw [this]
 rw [e];have:=pick_run xs i k;rw [List.filterMap_map] at this;have e2:((fun x=>xs[x]?)∘fun x=>i+x)=fun m=>xs[i+m]?:=rfl;rw [e2] at this;rw [this]
theorem getItem_tuple_cut {items:Array Value} {lo hi:Option Int} {Q:Value→Shared→Prop} (ht:IsTup s.heap t items) (hs:s.heap.IsSliceOf sl vl vu .none) (pl:IsPart vl lo) (pu:IsPart vu hi)
 (hw:¬(sIx items.size 0 lo=0∧sIx items.size items.size hi=items.size))
 (h:Q (.ref s.heap.objs.size) {s with heap:=s.heap.push {cls:=.type "tuple",data:=.seq ((items.toList.drop (sIx items.size 0 lo)).take (sIx items.size items.size hi - sIx items.size 0 lo)).toArray}})
 (hsz:items.size≤sizeLine):wpAny (model prog w) A (getItem (.ref t) (.ref sl)) Q E s:=by
 have htake:sizeOk (.seq ((items.toList.drop (sIx items.size 0 lo)).take (sIx items.size items.size hi - sIx items.size 0 lo)).toArray):=by
  show ((items.toList.drop (sIx items.size 0 lo)).take (sIx items.size items.size hi - sIx items.size 0 lo)).toArray.size≤sizeLine
  rw [AY,FW,List.length_drop,Array.length_toList];omega
 have hj:sIx items.size items.size hi≤items.size:=Wc _ _ (Ax _) hi;obtain ⟨os,hos,hcs,hds⟩:=id hs;have hTs:s.TypeIs (.ref sl) "slice":=⟨os,hos,hcs⟩
 unfold getItem
 try with_reducible refine Ci ?_
 first |refine Ad (Ak ?_) |skip
 refine Ad (wpAny_sequenceKey ht.typeIs (by decide) ?_);refine Ad (wpAny_callSpecial?_slot (name:=Str.ofString "__getitem__") ht.typeIs PyProof.Rows.slot_tuple_getitem
  (wpAny_call_entry PyProof.Rows.slot_tuple_getitem ht.typeIs entry_tuple_getitem ?_ (args_tuple_getitem _ _)))
 show wpAny _ _ (Builtin.Tuple.tupleItemsOf (.ref t) >>=_) _ _ s
 refine Ad (tupleItemsOf_ ht ?_);refine Ad (wpAny_typeOf hTs ?_);rw [if_pos (by decide)];refine Ad (sliceApplied_gen hs pl pu ?_);have hno:¬((((sIx items.size 0 lo:Nat):Int)==0&&(1:Int)==1&&(sIx items.size items.size hi - sIx items.size 0 lo)==items.size)=true):=by intro q;rw [B3,B3] at q;have q1:((sIx items.size 0 lo:Nat):Int)=0:=eq_of_beq q.1.1;have q2:sIx items.size items.size hi - sIx items.size 0 lo=items.size:=eq_of_beq q.2;exact hw ⟨by omega,by omega⟩
 show wpAny _ _ (if (((sIx items.size 0 lo:Nat):Int)==0&&(1:Int)==1&&(sIx items.size items.size hi - sIx items.size 0 lo)==items.size)=true then _ else _) _ _ s
 rw [if_neg hno,Wg]
 first
  |exact Ad (m:=Builtin.Tuple.tupleExact _) (CC (Ak ⟨_,rfl,Ak h⟩) htake)
  |exact Ad (m:=Builtin.Tuple.tupleExact _) (CC (Ad (Ak (Ak ⟨_,rfl,Ak h⟩))) htake)
  |exact Ad (Ad (m:=Builtin.Tuple.tupleExact _) (CC (Ak (Ak ⟨_,rfl,Ak h⟩)) htake))
  |exact Ad (Ad (m:=Builtin.Tuple.tupleExact _) (CC (Ak ⟨_,rfl,Ak h⟩) htake))
end
end HT
namespace L2
open PySem PySem.Spec PyProof.Rows
abbrev TO:=St→Hp→(Option Int→Hp→Prop)→Prop
def PO (X:Cx) (e:Option Expr) (t:TO):Prop:=
 ∀(pins:List (Addr×Obj)) (s:Shared) (σ:St) (H:Hp) (Q:Option Int→Hp→Prop),Inv X pins σ H s→t σ H Q→
  wpAny (model X.prog X.w) X.A (evalPart e X.env) (fun u s'=>∃o H',Inv X pins σ H' s'∧IsPart u o∧Q o H') X.xe s
def Wh:TO:=fun _ H Q=>Q none H
def Wi (t:TE):TO:=fun σ H Q=>t σ H fun x H1=>∃i,x=.int i∧Q (some i) H1
section
variable {X:Cx} {e:Expr} {te:TE} {lo hi:Option Expr} {tl th:TO} {pos p2:Pos}
theorem Wj:PO X none Wh:=by intro pins s σ H Q I h;rw [evalPart_none];exact Ak ⟨none,H,I,.none,h⟩
theorem Wk (h:PE X e te):PO X (some e) (Wi te):=by intro pins s σ H Q I hw;rw [evalPart_some];refine Au (h pins s σ H _ I hw) fun u s1 z84_=>?_;obtain ⟨x,H1,I1,r1,q1⟩:=z84_;obtain ⟨i,rfl,q⟩:=q1;obtain ⟨t,rfl⟩:=r1;exact ⟨some i,H1,I1,.int i t,q⟩
def SlR (X:Cx) (r:V→Option Int→Option Int→Hp→VK→Prop):Prop:=
 ∀(pins:List (Addr×Obj)) (s:Shared) (σ:St) (H:Hp) (x:V) (v vl vu:Value) (lo hi:Option Int) (sl:Addr) (Q:VK),Inv X pins σ H s→RelV x v→s.heap.IsSliceOf sl vl vu .none→IsPart vl lo→IsPart vu hi→r x lo hi H Q→
  ∃T id,typeLookup (.type T) "__getitem__"=pure (some (.builtin id))∧s.TypeIs v T∧wpAny (model X.prog X.w) X.A (getItem v (.ref sl)) (EP X pins σ Q) X.xe s
theorem SlR.or {r r':V→Option Int→Option Int→Hp→VK→Prop} (h:SlR X r) (h':SlR X r'):SlR X (fun x lo hi H Q=>r x lo hi H Q∨r' x lo hi H Q):=by
 intro pins s σ H x v vl vu lo hi sl Q I rx hs pl pu q;rcases q with q |q
 ·exact h pins s σ H x v vl vu lo hi sl Q I rx hs pl pu q
 ·exact h' pins s σ H x v vl vu lo hi sl Q I rx hs pl pu q
def Wl (r:V→Option Int→Option Int→Hp→VK→Prop) (te:TE) (tl th:TO):TE:=fun σ H Q=>te σ H fun x H1=>tl σ H1 fun l H2=>th σ H2 fun u H3=>r x l u H3 Q
theorem OV {r:V→Option Int→Option Int→Hp→VK→Prop} (hr:SlR X r) (he:PE X e te) (hl:PO X lo tl) (hu:PO X hi th):PE X (.Subscript e (.Slice lo hi none p2) pos) (Wl r te tl th):=by
 intro pins s σ H Q I h;refine Subscript_ (Au (he pins s σ H _ I h) fun v s1 z85_=>?_);obtain ⟨x,H1,I1,r1,q1⟩:=z85_;refine wpAny_Slice (Au (hl pins s1 σ H1 _ I1 q1) ?_);rintro vl s2 ⟨l,H2,I2,pl,q2⟩;refine Au (hu pins s2 σ H2 _ I2 q2) fun vu s3 z87_=>?_;obtain ⟨u,H3,I3,pu,q3⟩:=z87_;rw [evalPart_none];refine Ak ?_;have I4:Inv X pins σ H3 {s3 with heap:=s3.heap.push {cls:=.type "slice",data:=.fields #[vl,vu,.none]}}:=I3.kept (t':=s3.toks) fun b ob q=>Aw _ q;obtain ⟨T,id,hT,ht,hg⟩:=hr pins {s3 with heap:=s3.heap.push {cls:=.type "slice",data:=.fields #[vl,vu,.none]}} σ H3 x v vl vu l u s3.heap.objs.size Q I4 r1 (Heap.IsSliceOf.new ..) pl pu q3
 show wpAny (model X.prog X.w) X.A (subscriptTail e (.Slice lo hi none p2) v (.ref s3.heap.objs.size)) (EP X pins σ Q) X.xe {s3 with heap:=s3.heap.push {cls:=.type "slice",data:=.fields #[vl,vu,.none]}}
 exact tail_any (ops:=[.ref s3.heap.objs.size,v]) ht hT hg (by with_unfolding_all rfl)
def Fu (xs:List V) (lo hi:Option Int):List V:=(xs.drop (HT.sIx xs.length 0 lo)).take (HT.sIx xs.length xs.length hi - HT.sIx xs.length 0 lo)
theorem OW (xs:List V) (lo hi:Option Int):(Fu xs lo hi).length≤xs.length:=by unfold Fu;rw [FW,List.length_drop];omega
def Wm (K:PySem.W.Frag):V→Option Int→Option Int→Hp→VK→Prop:=fun x lo hi H Q=>∃a xs,x=.ref a∧SqT K H a xs∧
 ¬(HT.sIx xs.length 0 lo=0∧HT.sIx xs.length xs.length hi=xs.length)∧∀p,H p=none→Q (.ref p) (Aq H p (.tup (Fu xs lo hi)))
theorem Wn:SlR X (Wm X.K):=by
 intro pins s σ H x v vl vu lo hi sl Q I rx hs pl pu h;obtain ⟨a,xs,rfl,hx,hw,q⟩:=h;cases rx;obtain ⟨its,r,ht,hz⟩:=I.tuple hx;have hlen:its.toArray.size=xs.length:=by rw [AY];exact r.length.symm
 refine ⟨"tuple",_,PyProof.Rows.slot_tuple_getitem.lookup,ht.typeIs,?_⟩;refine HT.getItem_tuple_cut ht hs pl pu (by rw [hlen];exact hw) ?_ (by rw [hlen];exact hz);rw [hlen];refine ⟨.ref s.heap.objs.size,_,I.laid (t':=s.toks) (o:=.tup (Fu xs lo hi)) (fun b ob q=>Aw _ q) (Ax _) ?_,rfl,q _ (I.hok.fresh (Ax _))⟩;exact ⟨Br (OW xs lo hi) hz,_,(r.drop (HT.sIx xs.length 0 lo)).take (HT.sIx xs.length xs.length hi - HT.sIx xs.length 0 lo),IsTup.new _ _,NoDict.new⟩
def Wo (K:PySem.W.Frag):R2:=fun x y H Q=>∃a b xs ys,x=.ref a∧y=.ref b∧SqT K H a xs∧SqT K H b ys∧xs≠[]∧xs.length+ys.length≤sizeLine∧
 (ys=[]→Q (.ref a) H)∧(ys≠[]→∀p,H p=none→Q (.ref p) (Aq H p (.tup (xs++ys))))
theorem Vals.nil_iff (r:Vals xs us):us=[]↔xs=[]:=by
 cases r with
 |nil=>simp
 |cons _ _=>simp
theorem op_catT:OpR X (binaryOp .Add) (Wo X.K):=by intro pins s σ H x y v u Q I rx ry h;obtain ⟨a,b,xs,ys,rfl,rfl,ha,hb,hx,hz,q1,q2⟩:=h;cases rx;cases ry;obtain ⟨its,r1,p1,_⟩:=I.tuple ha;obtain ⟨its2,r2,p2,_⟩:=I.tuple hb;refine HT.cat_tup p1 p2 (fun z=>hx (r1.nil_iff.mp z)) (fun z=>⟨.ref a,H,I,rfl,q1 (r2.nil_iff.mp z)⟩) (fun z=>?_) (by rw [←r1.length,←r2.length];exact hz);refine ⟨.ref s.heap.objs.size,_,I.laid (t':=s.toks) (o:=.tup (xs++ys)) (fun b ob q=>Aw _ q) (Ax _) ?_,rfl,q2 (fun w=>z (r2.nil_iff.mpr w)) _ (I.hok.fresh (Ax _))⟩;exact ⟨by rw [Dg];exact hz,_,r1.append r2,IsTup.new _ _,NoDict.new⟩
end
def DA (n:Nat) (i:Int):Option Nat:=if 0≤i then (if i<n then some i.toNat else none) else if -(n:Int)≤i then some (i+n).toNat else none
def CT {α:Type} (xs:List α) (i:Int):Option α:=(DA xs.length i).bind fun j=>xs[j]?
theorem OX {n:Nat} {i:Int} {j:Nat} (h:DA n i=some j):seqIndex? i n=some j∧j<n∧-(n:Int)≤i∧i<n:=by
 unfold DA at h
 by_cases h0:0≤i
 ·rw [if_pos h0] at h
  by_cases h1:i<n
  ·rw [if_pos h1] at h;have e:i.toNat=j:=Option.some.inj h;exact ⟨by rw [seqIndex_of h0 h1,e],by omega,by omega,h1⟩
  ·rw [if_neg h1] at h;cases h
 ·rw [if_neg h0] at h
  by_cases h1:-(n:Int)≤i
  ·rw [if_pos h1] at h;have e:(i+n).toNat=j:=Option.some.inj h;exact ⟨by rw [seqIndex_neg (by omega) h1,e],by omega,h1,by omega⟩
  ·rw [if_neg h1] at h;cases h
theorem OY {α:Type} {xs:List α} {i:Int} {v:α} (h:CT xs i=some v):∃j,seqIndex? i xs.length=some j∧xs[j]?=some v∧j<xs.length∧-(xs.length:Int)≤i∧i<xs.length:=by
 unfold CT at h;cases e:DA xs.length i with
 |none=>rw [e] at h;cases h
 |some j=>rw [e] at h;obtain ⟨h1,h2,h3,h4⟩:=OX e;exact ⟨j,h1,h,h2,h3,h4⟩
def OZ (b:Expr):Prop:=∀o i,subscripted b false o i=operate [o,i] (getItem o i)
def IxR (X:Cx) (r:R2):Prop:=
 ∀(value slice:Expr) (pins:List (Addr×Obj)) (s:Shared) (σ:St) (H:Hp) (x y:V) (v u:Value) (Q:VK),Inv X pins σ H s→RelV x v→RelV y u→r x y H Q→
  subscripted slice false v u=operate [v,u] (getItem v u)→wpAny (model X.prog X.w) X.A (subscriptTail value slice v u) (EP X pins σ Q) X.xe s
def Me (X:Cx) (id:String) (r:V→List V→Hp→VK→Prop):Prop:=
 ∀(pins:List (Addr×Obj)) (s:Shared) (σ:St) (H:Hp) (x:V) (xs:List V) (v:Value) (us:List Value) (Q:VK),Inv X pins σ H s→RelV x v→Vals xs us→r x xs H Q→
  wpAny (model X.prog X.w) X.A (call (.builtin id) (v::us)) (EP X pins σ Q) X.xe s
section
variable {X:Cx} {a b:Expr} {ta tb:TE} {pos:Pos}
theorem IxR.or {r r':R2} (h:IxR X r) (h':IxR X r'):IxR X (fun x y H Q=>r x y H Q∨r' x y H Q):=by
 intro value slice pins s σ H x y v u Q I rx ry q hs;rcases q with q |q
 ·exact h value slice pins s σ H x y v u Q I rx ry q hs
 ·exact h' value slice pins s σ H x y v u Q I rx ry q hs
theorem Wq {r:R2} (hr:IxR X r) (ha:PE X a ta) (hb:PE X b tb) (hs:OZ b):PE X (.Subscript a b pos) (JG r ta tb):=by intro pins s σ H Q I h;exact Subscript_ (L5 ha hb I h fun v u s2 x y H2 I2 rx ry q=>hr a b pins s2 σ H2 x y v u Q I2 rx ry q (hs _ _))
def Wr (K:PySem.W.Frag):R2:=fun x y H Q=>∃p xs i v,x=.ref p∧y=.int i∧SqL K H p xs∧CT xs i=some v∧Q v H
def Ws (K:PySem.W.Frag):R2:=fun x y H Q=>∃p xs i v,x=.ref p∧y=.int i∧SqT K H p xs∧CT xs i=some v∧Q v H
theorem ix_list:IxR X (Wr X.K):=by
 intro value slice pins s σ H x y v u Q I rx ry h hs;obtain ⟨p,xs,i,z,rfl,rfl,hq,he,q⟩:=h;cases rx;obtain ⟨t,rfl⟩:=ry;obtain ⟨its,r,pl,hz⟩:=I.list hq;obtain ⟨j,h1,h2,h3,h4,h5⟩:=OY he;obtain ⟨w,ew,rw'⟩:=r.get h2;have hl:=r.length;have hn:=GL;have AJ:EP X pins σ Q w s:=⟨z,H,I,rw',q⟩
 by_cases h0:0≤i
 ·have hj:i.toNat=j:=by rw [seqIndex_of h0 h5] at h1;exact Option.some.inj h1
  exact item_listR pl.isList h0 (by omega) (by rw [hj];simpa using ew) AJ hs
 ·have hj:(i+(its.toArray.size:Int)).toNat=j:=by rw [seqIndex_neg (by omega) h4] at h1;rw [AY,←hl];exact Option.some.inj h1
  exact subscriptTail_builtinR (x:=w) pl.isList.typeIs slot_list_getitem.lookup
   (wpAny_getItem_list_neg (Q:=fun r s'=>r=w∧EP X pins σ Q r s') pl.isList (by omega) (by rw [AY]<;>omega) (by omega) (by rw [hj];simpa using ew) ⟨rfl,AJ⟩) hs
theorem ix_tup:IxR X (Ws X.K):=by
 intro value slice pins s σ H x y v u Q I rx ry h hs;obtain ⟨p,xs,i,z,rfl,rfl,hq,he,q⟩:=h;cases rx;obtain ⟨t,rfl⟩:=ry;obtain ⟨its,r,pl,hz⟩:=I.tuple hq;obtain ⟨j,h1,h2,h3,h4,h5⟩:=OY he;obtain ⟨w,ew,rw'⟩:=r.get h2;have hl:=r.length;have hn:=GL;have AJ:EP X pins σ Q w s:=⟨z,H,I,rw',q⟩
 exact subscriptTail_builtinR (x:=w) pl.typeIs slot_tuple_getitem.lookup
  (getItem_tuple (j:=j) (Q:=fun r s'=>r=w∧EP X pins σ Q r s') pl (by omega) (by omega) (by rw [AY,←hl];exact h1) (by simpa using ew) ⟨rfl,AJ⟩) hs
theorem Wt (its:List Value) (n j:Nat) (u:Value):Obj.mapSeq (·.setIfInBounds j u) {cls:=.type "list",data:=.seq its.toArray n}={cls:=.type "list",data:=.seq (its.set j u).toArray n}:=by simp [Obj.mapSeq]
theorem Inv.lst {pins:List (Addr×Obj)} {σ:St} {H:Hp} {s:Shared} {p:Addr} {xs:List V} (I:Inv X pins σ H s) (h:H p=some (.lst xs)):
 ∃(its:List Value) (n:Nat),Vals xs its∧s.heap.get? p=some {cls:=.type "list",data:=.seq its.toArray n}∧xs.length≤sizeLine:=by
 obtain ⟨z,its,n,r,e⟩:=I.hok p _ h;exact ⟨its,n,r,e,z⟩
theorem Inv.lstUpd {σ:St} {H:Hp} {s:Shared} {p:Addr} {xs ys:List V} {its its':List Value} {n n':Nat} {f:Obj→Obj} (I:Inv X pins σ H s) (h:H p=some (.lst xs))
 (ho:s.heap.get? p=some {cls:=.type "list",data:=.seq its.toArray n}) (hf:f {cls:=.type "list",data:=.seq its.toArray n}={cls:=.type "list",data:=.seq its'.toArray n'}) (r:Vals ys its') (hz:ys.length≤sizeLine) (t:Nat):
 Inv X pins σ (Aq H p (.lst ys)) {s with heap:=s.heap.update p f,toks:=t}:=by
 have e:(s.heap.update p f).get? p=some {cls:=.type "list",data:=.seq its'.toArray n'}:=by rw [Fg f ho (by rw [hf]<;>rfl),hf]
 refine I.write (x:=p) (e:=p) (by rw [h];trivial) (.inl rfl) (fun b u hb q=>(LJ _ _ (Ne.symm hb)).trans q) ⟨_,e⟩ ?_;exact ⟨hz,its',n',r,e⟩
def Wu:V→V→V→Hp→(Hp→Prop)→Prop:=fun o i v H Q=>∃p xs k j,o=.ref p∧i=.int k∧H p=some (.lst xs)∧DA xs.length k=some j∧Q (Aq H p (.lst (xs.set j v)))
theorem Wv:Oz X Wu:=by
 intro pins s σ H o i v ov iv u Q I ro ri rv h;obtain ⟨p,xs,k,j,rfl,rfl,hp,hj,q⟩:=h;cases ro;obtain ⟨t,rfl⟩:=ri;obtain ⟨its,n,r,ho,hz⟩:=I.lst hp;obtain ⟨h1,h2,h3,h4⟩:=OX hj;have hl:=r.length;have hn:=GL;have I':Inv X pins σ (Aq H p (.lst (xs.set j v))) {s with heap:=s.heap.update p (Obj.mapSeq (·.setIfInBounds j u))}:=
  I.lstUpd hp ho (Wt its n j u) (r.set rv j) (by rw [List.length_set];exact hz) s.toks
 by_cases h0:0≤k
 ·have hk:k.toNat=j:=by rw [seqIndex_of h0 h4] at h1;exact Option.some.inj h1
  exact PySem.W.ki_setAt ho h0 (by omega) (by rw [AY,←hl];exact h4) (by rw [hk];exact ⟨_,I',q⟩)
 ·have hk:(k+(its.toArray.size:Int)).toNat=j:=by rw [seqIndex_neg (by omega) h3] at h1;rw [AY,←hl];exact Option.some.inj h1
  exact PySem.W.ki_setBack ho (by omega) (by rw [AY,←hl];exact h3) (by omega) (by rw [hk];exact ⟨_,I',q⟩)
theorem Ww (lo hi:Option Int) (n:Nat):(sliceBounds lo hi none n).1=((HT.sIx n 0 lo:Nat):Int)∧(sliceBounds lo hi none n).2.1=((HT.sIx n n hi:Nat):Int)∧(sliceBounds lo hi none n).2.2=1:=by
 refine ⟨?_,?_,rfl⟩
 ·cases lo with
  |none=>simp [sliceBounds,HT.sIx]
  |some i=>
   simp only [sliceBounds,HT.sIx,Option.getD_none,show (1:Int)>0 by decide,if_true]
   by_cases h:i<0
   ·simp only [h,if_true]<;>omega
   ·simp only [h,if_false]<;>omega
 ·cases hi with
  |none=>simp [sliceBounds,HT.sIx]
  |some i=>
   simp only [sliceBounds,HT.sIx,Option.getD_none,show (1:Int)>0 by decide,if_true]
   by_cases h:i<0
   ·simp only [h,if_true]<;>omega
   ·simp only [h,if_false]<;>omega
theorem Wx (its:List Value) (lo hi:Option Int):slicePick its.toArray lo hi none=((its.drop (HT.sIx its.length 0 lo)).take (HT.sIx its.length its.length hi - HT.sIx its.length 0 lo)).toArray:=by obtain ⟨h1,h2,h3⟩:=Ww lo hi its.toArray.size;unfold slicePick;rw [h1,h2,h3];simp only [sliceRange_one,pick_run,AY]<;>rfl
def Wy (K:PySem.W.Frag):V→Option Int→Option Int→Hp→VK→Prop:=fun x lo hi H Q=>∃a xs,x=.ref a∧SqL K H a xs∧∀p,H p=none→Q (.ref p) (Aq H p (.lst (Fu xs lo hi)))
theorem Wz:SlR X (Wy X.K):=by intro pins s σ H x v vl vu lo hi sl Q I rx hs pl pu h;obtain ⟨a,xs,rfl,hx,q⟩:=h;cases rx;obtain ⟨its,r,ht,hz⟩:=I.list hx;have hlen:=r.length;refine ⟨"list",_,slot_list_getitem.lookup,ht.isList.typeIs,?_⟩;refine wpAny_getItem_list_slice ht.isList hs pl pu .none (by simp) ?_ (by rw [AY]<;>omega);rw [Wx,←hlen];refine ⟨.ref s.heap.objs.size,_,I.laid (t':=s.toks) (o:=.lst (Fu xs lo hi)) (fun b ob q=>Aw _ q) (Ax _) ?_,rfl,q _ (I.hok.fresh (Ax _))⟩;exact ⟨Br (OW xs lo hi) hz,_,0,(r.drop (HT.sIx xs.length 0 lo)).take (HT.sIx xs.length xs.length hi - HT.sIx xs.length 0 lo),Bc _ rfl⟩
def DB:V→Bool
 |.non=>true
 |.bl _=>true
 |.int _=>true
 |.str _=>true
 |_=>false
def DR:V→V→Bool
 |.non,.non=>true
 |.bl a,.bl b=>a==b
 |.bl a,.int b=>(if a then 1 else 0)==b
 |.int a,.bl b=>a==(if b then 1 else 0)
 |.int a,.int b=>a==b
 |.str a,.str b=>a==b
 |_,_=>false
theorem WA (ry:RelV y u) (rx:RelV x v) (fy:DB y=true) (fx:DB x=true):SeqAt.EqAt A s u v (DR y x):=by
 cases y with
 |non=>
  cases ry;cases x with
  |non=>cases rx;exact SeqAt.EqAt.same _
  |bl b=>cases rx;exact SeqAt.EqAt.none_bool b
  |int b=>obtain ⟨t,rfl⟩:=rx;exact SeqAt.EqAt.none_int b t
  |str b=>obtain ⟨t,rfl⟩:=rx;exact SeqAt.EqAt.none_str b t
  |_=>exact absurd (show false=true from fx) Bj
 |bl a=>
  cases ry;cases x with
  |non=>cases rx;exact SeqAt.EqAt.bool_none a
  |bl b=>cases rx;exact SeqAt.EqAt.bool_bool a b
  |int b=>obtain ⟨t,rfl⟩:=rx;exact SeqAt.EqAt.bool_int a b t
  |str b=>obtain ⟨t,rfl⟩:=rx;exact SeqAt.EqAt.bool_str a b t
  |_=>exact absurd (show false=true from fx) Bj
 |int a=>
  obtain ⟨t',rfl⟩:=ry;cases x with
  |non=>cases rx;exact SeqAt.EqAt.int_none a t'
  |bl b=>cases rx;exact SeqAt.EqAt.int_bool a t' b
  |int b=>obtain ⟨t,rfl⟩:=rx;exact SeqAt.EqAt.int_int a t' b t
  |str b=>obtain ⟨t,rfl⟩:=rx;exact SeqAt.EqAt.int_str a t' b t
  |_=>exact absurd (show false=true from fx) Bj
 |str a=>
  obtain ⟨t',rfl⟩:=ry;cases x with
  |non=>cases rx;exact SeqAt.EqAt.str_none a t'
  |bl b=>cases rx;exact SeqAt.EqAt.str_bool a t' b
  |int b=>obtain ⟨t,rfl⟩:=rx;exact SeqAt.EqAt.str_int a t' b t
  |str b=>obtain ⟨t,rfl⟩:=rx;exact SeqAt.EqAt.str_str a t' b t
  |_=>exact absurd (show false=true from fx) Bj
 |_=>exact absurd (show false=true from fy) Bj
def CU (x:V) (u:Value):Bool:=match u with
 |.none=>DR .non x
 |.bool b=>DR (.bl b) x
 |.int i _=>DR (.int i) x
 |.str z _=>DR (.str z) x
 |_=>false
theorem JM (r:RelV y u) (f:DB y=true):CU x u=DR y x:=by
 cases y with
 |non=>cases r;rfl
 |bl b=>cases r;rfl
 |int i=>obtain ⟨t,rfl⟩:=r;rfl
 |str z=>obtain ⟨t,rfl⟩:=r;rfl
 |_=>exact absurd (show false=true from f) Bj
theorem Mf:∀{xs:List V} {us:List Value},Vals xs us→xs.all DB=true→us.any (CU x)=xs.any fun y=>DR y x
 |_,_,.nil,_=>rfl
 |y::xs,u::us,.cons r t,f=>by rw [HE,B3] at f;rw [List.any_cons,List.any_cons,JM r f.1,Mf t f.2]
theorem HP (rx:RelV x v) (fx:DB x=true):∀{xs:List V} {us:List Value},Vals xs us→xs.all DB=true→∀u∈us,SeqAt.EqAt A s u v (CU x u)
 |_,_,.nil,_=>fun u hu=>by cases hu
 |y::xs,u::us,.cons r t,f=>fun u' hu=>by
  rw [HE,B3] at f;rcases qa5.mp hu with rfl |hu
  ·rw [JM r f.1];exact WA r rx f.1 fx
  ·exact HP rx fx t f.2 u' hu
def GM (x:V) (xs:List V):Bool:=xs.any fun y=>DR y x
def O0 (K:PySem.W.Frag) (neg:Bool):R2:=fun x y H Q=>∃p xs,y=.ref p∧(SqL K H p xs∨SqT K H p xs)∧DB x=true∧xs.all DB=true∧Q (.bl (if neg then !GM x xs else GM x xs)) H
theorem WB:OpR X (compareOp .In) (O0 X.K false):=by
 intro pins s σ H x y v u Q I rx ry h;obtain ⟨p,xs,rfl,hq,fx,fs,q⟩:=h;cases ry;rcases hq with hq |hq
 ·obtain ⟨its,r,pl,hz⟩:=I.list hq;refine SeqAt.in_listAt (CU x) pl.isList (fun w hw=>HP rx fx r fs w (by simpa using hw)) ⟨.bl _,H,I,rfl,?_⟩;rw [show its.toArray.any (CU x)=its.any (CU x) by simp,Mf r fs];exact q
 ·obtain ⟨its,r,pl,hz⟩:=I.tuple hq;refine SeqAt.in_tupleAt (CU x) pl (fun w hw=>HP rx fx r fs w (by simpa using hw)) ⟨.bl _,H,I,rfl,?_⟩;rw [show its.toArray.any (CU x)=its.any (CU x) by simp,Mf r fs];exact q
theorem WC:CF X (.builtin "len") (fun xs H Q=>∃p ys,xs=[.ref p]∧(SqL X.K H p ys∨SqT X.K H p ys)∧Q (.int ys.length) H):=by
 intro pins s σ H xs us Q I r h;obtain ⟨p,ys,rfl,hq,q⟩:=h;obtain ⟨u,rfl,rx⟩:=Dj r;cases rx;have hn:=GL;rcases hq with hq |hq
 ·obtain ⟨its,r',pl,hz⟩:=I.list hq;have hlen:=r'.length;exact Calls.call_len_list pl.isList (by simp only [AY]<;>omega) ⟨.int ys.length,H,I.tok _,⟨s.toks+1,by rw [AY,hlen]⟩,q⟩
 ·obtain ⟨its,r',pl,hz⟩:=I.tuple hq;have hlen:=r'.length;exact len_tuple pl (by simp only [AY]<;>omega) ⟨.int ys.length,H,I.tok _,⟨s.toks+1,by rw [AY,hlen]⟩,q⟩
theorem WD:CF X (.type "list") (fun xs H Q=>∃p ys,xs=[.ref p]∧(SqL X.K H p ys∨SqT X.K H p ys)∧∀l,H l=none→Q (.ref l) (Aq H l (.lst ys))):=by
 intro pins s σ H xs us Q I r h;obtain ⟨p,ys,rfl,hq,q⟩:=h;obtain ⟨u,rfl,rx⟩:=Dj r;cases rx;have AJ:∀(its:List Value),Vals ys its→ys.length≤sizeLine→∀(h':Heap) (c':Nat),(∀b o',s.heap.get? b=some o'→h'.get? b=some o')→
  h'.get? s.heap.objs.size=some {cls:=.type "list",dict:=none,data:=.seq its.toArray c',slots:=#[]}→EP X pins σ Q (.ref s.heap.objs.size) {s with heap:=h'}:=fun its r' hz h' c' kp e=>
  ⟨.ref s.heap.objs.size,_,I.laid (t':=s.toks) kp (Ax _) (show ObjOk X.prog X.w _ h' _ (.lst ys) from ⟨hz,its,c',r',e⟩),rfl,q _ (I.hok.fresh (Ax _))⟩
 rcases hq with hq |hq
 ·obtain ⟨its,r',pl,hz⟩:=I.list hq;have hlen:=r'.length;obtain ⟨o,ho,hc,n,hd⟩:=pl.isList;exact call_list_seq p (.inl rfl) ho hc hd (fun h' c' kp e=>AJ its r' hz h' c' kp e) (by simp only [AY]<;>omega)
 ·obtain ⟨its,r',pl,hz⟩:=I.tuple hq;have hlen:=r'.length;obtain ⟨o,ho,hc,n,hd⟩:=pl;exact call_list_seq p (.inr rfl) ho hc hd (fun h' c' kp e=>AJ its r' hz h' c' kp e) (by simp only [AY]<;>omega)
theorem WE:CF X (.type "tuple") (fun xs H Q=>∃p ys,xs=[.ref p]∧((SqL X.K H p ys∧∀l,H l=none→Q (.ref l) (Aq H l (.tup ys)))∨(SqT X.K H p ys∧Q (.ref p) H))):=by
 intro pins s σ H xs us Q I r h;obtain ⟨p,ys,rfl,h⟩:=h;obtain ⟨u,rfl,rx⟩:=Dj r;cases rx;rcases h with ⟨hq,q⟩ |⟨hq,q⟩
 ·obtain ⟨its,r',pl,hz⟩:=I.list hq;have hlen:=r'.length;refine call_tuple_list pl.isList (fun h' kp=>?_) (by simp only [AY]<;>omega);have I1:Inv X pins σ H {s with heap:=h'}:=I.kept (t':=s.toks) kp;have I2:Inv X pins σ (Aq H h'.objs.size (.tup ys)) {s with heap:=h'.push {cls:=.type "tuple",data:=.seq its.toArray}}:=
   I1.laid (t':=s.toks) (fun b o e=>Aw _ e) (Ax _) (show ObjOk X.prog X.w _ _ _ (.tup ys) from ⟨hz,its,r',IsTup.new _ _,NoDict.new⟩)
  exact ⟨.ref h'.objs.size,_,I2,rfl,q _ (I1.hok.fresh (Ax _))⟩
 ·obtain ⟨its,r',pl,hz⟩:=I.tuple hq;exact call_tuple_same pl ⟨.ref p,H,I,rfl,q⟩
def O2 (K:PySem.W.Frag) (T:String) (x:V) (H:Hp):Prop:=match x with
 |.str _=>T="str"
 |.int _=>T="int"
 |.ref p=>(T="list"∧∃xs,SqL K H p xs)∨(T="tuple"∧∃o,K.lookup p=some o∧o.cls=.type "tuple"∧o.dict=none)
 |_=>False
theorem O3 {σ:St} {s:Shared} {T:String} (I:Inv X pins σ H s) (r:RelV x v) (ty:O2 X.K T x H):
 s.TypeIs v T∧∀a,v=.ref a→∃ob,s.heap.get? a=some ob∧ob.dict=none:=by
 cases x with
 |str z=>obtain ⟨t,rfl⟩:=r;cases (show T="str" from ty);exact ⟨typeIs_str s z t,fun _ e=>nomatch e⟩
 |int i=>obtain ⟨t,rfl⟩:=r;cases (show T="int" from ty);exact ⟨typeIs_int s i t,fun _ e=>nomatch e⟩
 |ref p=>
  cases r;rcases ty with ⟨rfl,xs,hq⟩ |⟨rfl,o,hk,hc,hd⟩
  ·obtain ⟨its,_,pl,_⟩:=I.list hq;refine ⟨pl.isList.typeIs,fun a e=>?_⟩;cases e;obtain ⟨o,n,e,c,hd,_⟩:=pl;exact ⟨o,e,hd⟩
  ·refine ⟨⟨o,I.kIn p o hk,hc⟩,fun a e=>?_⟩;cases e;exact ⟨o,I.kIn _ o hk,hd⟩
 |_=>exact False.elim ty
def WG (K:PySem.W.Frag) (T:String) (r:V→List V→Hp→VK→Prop) (to:TE) (t:TA):TE:=fun σ H Q=>to σ H fun x H1=>O2 K T x H1∧t σ H1 fun xs H2=>r x xs H2 Q
variable {o e:Expr} {es:List Expr} {to:TE} {t:TA} {name:Str} {apos cpos:Pos} {T id:String} {r:V→List V→Hp→VK→Prop}
theorem WH (pa:PlainAttrs T) (slot:Slot T name id) (hty:typeOf (.builtin id)=pure (.type "method_descriptor")) (hm:Me X id r) (ho:PE X o to) (ha:PA X (e::es) t)
 (hbase:attributeBase o name X.env (eval o X.env)=eval o X.env:=by rfl)
 (hfew:((backTo cpos (starEach (e::es) X.env)).all (fun x=>!x.1)&&(backToKw cpos (keywordEach [] X.env)).all (fun x=>x.1.isSome)
  &&decide ((e::es).length+([]:List Keyword).length+(if ([]:List Keyword).isEmpty then 0 else 1)<30))=true:=by rfl)
 (hline:(apos.endLine==cpos.line)=true:=by rfl) (hs:starEach (e::es) X.env=(false,eval e X.env)::starEach es X.env:=by rfl) (hplain:(backTo cpos (starEach es X.env)).any (·.1)=false:=by rfl):
 PE X (.Call (.Attribute o name apos) (e::es) [] cpos) (WG X.K T r to t):=by
 intro pins s σ H Q I h;refine wpAny_Call_method_late hbase hfew hline rfl (Au (ho pins s σ H _ I h) fun v s1 z89_=>?_);obtain ⟨x,H1,I1,r1,ty,q1⟩:=z89_;obtain ⟨h1,h2⟩:=O3 I1 r1 ty;refine ⟨T,id,pa,slot,hty,h1,h2,?_⟩;have hA:=ha cpos pins s1 σ H1 _ I1 q1;rw [hs] at hA ⊢;refine Calls.callWith_builtin (by show (false||(backTo cpos (starEach es X.env)).any (·.1))=false;rw [hplain]<;>rfl) (Calls.evalArgs_plain ?_);exact Au hA fun us s2 z90_=>by obtain ⟨vs,H2,I2,r2,q2⟩:=z90_;exact (hm pins s2 σ H2 x vs v us Q I2 r1 r2 q2)
end
def O4 (X:Cx) (id:String) (r:V→List V→Hp→VK→Prop):Prop:=
 ∀(pins:List (Addr×Obj)) (s:Shared) (σ:St) (H:Hp) (x:V) (xs:List V) (v:Value) (us:List Value) (Q:VK),Inv X pins σ H s→RelV x v→Vals xs us→r x xs H Q→
  wpAny (model X.prog X.w) X.A (call (.builtin id) (v::us)) (EP X pins σ Q) X.xe s
theorem Vals.one (h:Vals [x] us):∃u,us=[u]∧RelV x u:=by
 cases h with
 |cons r t=>cases t;exact ⟨_,rfl,r⟩
theorem Vals.eraseIdx:∀{xs:List V} {us:List Value} (i:Nat),Vals xs us→Vals (xs.eraseIdx i) (us.eraseIdx i)
 |_,_,_,.nil=>.nil
 |_,_,0,.cons _ t=>t
 |_,_,i+1,.cons r t=>.cons r (Vals.eraseIdx i t)
theorem Vals.reverse {xs:List V} {us:List Value} (h:Vals xs us):Vals xs.reverse us.reverse:=by
 induction h with
 |nil=>exact .nil
 |cons r t ih=>rw [Jo,Jo];exact Vals.append ih (.cons r .nil)
theorem Vals.rep (h:Vals xs us):∀k:Nat,Vals (List.replicate k xs).flatten (List.replicate k us).flatten
 |0=>.nil
 |k+1=>by rw [Fh,Fh,FU,FU];exact Vals.append h (Vals.rep h k)
theorem O5 {α:Type}:∀(l:List α) (i:Nat),(l.eraseIdx i).length≤l.length
 |[],_=>Ax _
 |_::_,0=>Nat.le_succ _
 |_::r,i+1=>Nat.succ_le_succ (O5 r i)
theorem JN (its:List Value):∀(k:Nat) (acc:List Value),
 List.foldl (fun x1 x2=>x1++x2) acc.toArray (List.replicate k its.toArray)=(acc++(List.replicate k its).flatten).toArray
 |0,acc=>by simp
 |k+1,acc=>by
  have e:acc.toArray++its.toArray=(acc++its).toArray:=by simp
  have e2:(acc++its)++(List.replicate k its).flatten=acc++(List.replicate (k+1) its).flatten:=by rw [Fh,FU,DY]
  rw [←e2,←JN its k (acc++its),←e,Fh,EF]
section
variable {X:Cx} {pins:List (Addr×Obj)} {σ:St} {H:Hp} {s:Shared} {l b:Addr} {xs ys zs:List V}
theorem Inv.lset {its its':List Value} {n:Nat} {f:Array Value→Array Value} {t':Nat} (I:Inv X pins σ H s) (hH:H l=some (.lst xs))
 (e:s.heap.get? l=some {cls:=.type "list",data:=.seq its.toArray n}) (hf:f its.toArray=its'.toArray) (hv:Vals ys its') (hz:ys.length≤sizeLine):
 Inv X pins σ (Aq H l (.lst ys)) {s with heap:=s.heap.update l (Obj.mapSeq f),toks:=t'}:=by
 have q:=PySem.IsL.update e f;rw [hf] at q;refine I.write (x:=l) (e:=l) (by rw [hH];exact trivial) (.inl rfl) (fun b' u hb hu=>(LJ s.heap (Obj.mapSeq f) (Ne.symm hb)).trans hu) ⟨_,q⟩ ?_;exact ⟨hz,its',_,hv,q⟩
theorem Inv.lnew {its:List Value} {t':Nat} (I:Inv X pins σ H s) (hv:Vals ys its) (hz:ys.length≤sizeLine):
 Inv X pins σ (Aq H s.heap.objs.size (.lst ys)) {s with heap:=s.heap.push {cls:=.type "list",data:=.seq its.toArray},toks:=t'}:=
 I.laid (fun _ _ q=>Aw _ q) (Ax _) ⟨hz,its,0,hv,Bc _ rfl⟩
theorem Inv.fresh (I:Inv X pins σ H s):H s.heap.objs.size=none:=I.hok.fresh (Ax _)
theorem Inv.lstM (I:Inv X pins σ H s) (hH:H l=some (.lst xs)):xs.length≤sizeLine∧∃(its:List Value) (n:Nat),Vals xs its∧xs.length=its.length∧s.heap.get? l=some {cls:=.type "list",data:=.seq its.toArray n}:=by obtain ⟨z,its,n,r,e⟩:=I.hok l _ hH;exact ⟨z,its,n,r,r.length,e⟩
theorem WI {n:Nat} (h:n≤sizeLine):Builtin.List.listTooLong n=false:=by unfold Builtin.List.listTooLong;exact decide_eq_false (by omega)
end
section
variable {X:Cx}
def WJ:V→List V→Hp→VK→Prop:=fun x vs H Q=>∃l xs y,x=.ref l∧vs=[y]∧H l=some (.lst xs)∧xs.length<sizeLine∧Q .non (Aq H l (.lst (xs++[y])))
theorem WK:O4 X "list.append" WJ:=by intro pins s σ H x vs v us Q I rx rv h;obtain ⟨l,xs,y,rfl,rfl,hH,hz,q⟩:=h;cases rx;obtain ⟨u,rfl,ru⟩:=rv.one;obtain ⟨z,its,n,r,hl,e⟩:=I.lstM hH;refine call_meets F.slot_list_append ⟨_,e,rfl⟩ F.entry_list_append (F.args_list_append_2 _ _) (PySem.list_append l its.toArray n u (by rw [AY];omega)) ⟨e,?_⟩;refine ⟨.non,_,I.lset (its':=its++[u]) hH e (by simp) (r.append (.cons ru .nil)) ?_,rfl,q⟩;rw [Dg,List.length_singleton];omega
def WL:V→List V→Hp→VK→Prop:=fun x vs H Q=>∃l xs i k y,x=.ref l∧vs=[.int i]∧H l=some (.lst xs)∧-(2^63)≤i∧i<2^63∧seqIndex? i xs.length=some k∧xs[k]?=some y∧Q y (Aq H l (.lst (xs.eraseIdx k)))
theorem WM:O4 X "list.pop" WL:=by
 intro pins s σ H x vs v us Q I rx rv h;obtain ⟨l,xs,i,k,y,rfl,rfl,hH,h1,h2,hk,hy,q⟩:=h;cases rx;obtain ⟨u,rfl,ru⟩:=rv.one;obtain ⟨t,rfl⟩:=ru;obtain ⟨z,its,n,r,hl,e⟩:=I.lstM hH;obtain ⟨w,hw,rw'⟩:=r.get hy;refine call_meets F.slot_list_pop ⟨_,e,rfl⟩ F.entry_list_pop (F.args_list_pop_2 _ _)
  (MeetsSeq.list_pop_at l its.toArray n i t k w (fitsIndex_both h1 h2) (by rw [AY,←hl];exact hk) (by rw [←Array.getElem?_toList];exact hw) (by rw [AY];omega)) ⟨e,?_⟩
 refine ⟨y,_,I.lset (its':=its.eraseIdx k) hH e ?_ (r.eraseIdx k) ?_,rw',q⟩
 ·show its.toArray.eraseIdxIfInBounds k=(its.eraseIdx k).toArray
  rw [List.eraseIdxIfInBounds_toArray]
 ·have:=O5 xs k;omega
def WN:R2:=fun x y H Q=>∃l b xs zs,x=.ref l∧y=.ref b∧H l=some (.lst xs)∧H b=some (.lst zs)∧xs.length+zs.length≤sizeLine∧∀p,H p=none→Q (.ref p) (Aq H p (.lst (xs++zs)))
theorem op_cat:OpR X (binaryOp .Add) WN:=by
 intro pins s σ H x y v u Q I rx ry h;obtain ⟨l,b,xs,zs,rfl,rfl,hH,hB,hz,q⟩:=h;cases rx;cases ry;obtain ⟨z,its,n,r,hl,e⟩:=I.lstM hH;obtain ⟨z2,its2,n2,r2,hl2,e2⟩:=I.lstM hB;refine PySem.P.add_list e e2 ?_ (by rw [AY,AY];omega);have ea:its.toArray++its2.toArray=(its++its2).toArray:=by simp
 rw [ea];exact ⟨.ref _,_,I.lnew (t':=s.toks) (r.append r2) (by rw [Dg];omega),rfl,q _ I.fresh⟩
def WO:R2:=fun x y H Q=>∃l k xs,x=.ref l∧y=.int k∧H l=some (.lst xs)∧-(2^63)≤k∧k<2^63∧xs.length*k.toNat≤sizeLine∧
 ∀p,H p=none→Q (.ref p) (Aq H p (.lst (List.replicate k.toNat xs).flatten))
theorem JO {α:Type} (xs:List α) (k:Nat):(List.replicate k xs).flatten.length=k*xs.length:=by
 induction k with
 |zero=>simp
 |succ k ih=>rw [Fh,FU,Dg,ih,HG,Nat.add_comm]
theorem WQ:OpR X (binaryOp .Mult) WO:=by
 intro pins s σ H x y v u Q I rx ry h;obtain ⟨l,k,xs,rfl,rfl,hH,h1,h2,hz,q⟩:=h;cases rx;obtain ⟨t,rfl⟩:=ry;obtain ⟨z,its,n,r,hl,e⟩:=I.lstM hH;have hlen:its.toArray.size*k.toNat≤sizeLine:=by rw [AY,←hl];exact hz
 have hcap:¬its.toArray.size*k.toNat>(2^63 - 1) / 8:=by
  have:(sizeLine:Nat)≤(2^63 - 1) / 8:=by decide
  omega
 have hfit:¬(!Builtin.List.listFitsIndex k)=true:=by rw [fitsIndex_both h1 h2];exact Bj
 have hlong:¬Builtin.List.listTooLong (its.toArray.size*k.toNat)=true:=by rw [WI hlen];exact Bj
 have hnew:List.foldl (fun x1 x2=>x1++x2) #[] (List.replicate (if its.toArray.isEmpty=true then 0 else k.toNat) its.toArray)=(List.replicate k.toNat its).flatten.toArray:=by
  have f0:∀m:Nat,List.foldl (fun x1 x2=>x1++x2) #[] (List.replicate m its.toArray)=(List.replicate m its).flatten.toArray:=fun m=>by have:=JN its m [];rw [FY] at this;exact this
  rw [f0];cases its with
  |nil=>simp
  |cons a r'=>rw [if_neg (by simp)]
 refine wpAny_binaryOp_repeat_ref (T:="list") (U:="int") (by decide) ⟨_,e,rfl⟩ (fun s'=>typeIs_int s' k t) noFill_list_mul F.fills_int_mul F.slot_int_rmul repeat_list F.slot_int_index.lookup
  (call_meets F.slot_int_rmul (typeIs_int s k t) F.entry_int_rmul (F.args_int_rmul_2 _ _) (int___rmul___int_list k t l its.toArray n)
   ⟨e,rfl,⟨_,e,rfl⟩,call_meets F.slot_list_mul ⟨_,e,rfl⟩ F.entry_list_mul (F.args_list_mul_2 _ _) (AutoListH.list___mul___list_int_3 l its.toArray n k t hfit hcap hlong) ⟨e,?_⟩⟩)
 rw [hnew];exact ⟨.ref _,_,I.lnew (t':=s.toks) (r.rep k.toNat) (by rw [JO,Nat.mul_comm];exact hz),rfl,q _ I.fresh⟩
end
section
variable {prog:Program} {w:World} {A:Around} {E:Value→Shared→Prop} {s:Shared}
end
section
variable {X:Cx}
end
end L2
namespace Att
open PySem PySem.W PySem.Calls PyProof.Rows
theorem WR {P:Params}:∀(ns:List Int) (vs:List Value),WellAll P h vs (ns.map WData.int)→IntsAre vs ns:=by
 intro ns
 induction ns with
 |nil=>intro vs w;rw [Dy] at w;cases w;exact .nil
 |cons n ns ih=>
  intro vs w;rw [AZ] at w;cases w with
  |cons a b=>cases a;exact .cons _ _ (ih _ b)
theorem WS {l:OpenLaw} {n:Nat} (hn:l.most=some n) {P:Params} {h:Heap} {args:List WData} {vals:List Value}
 (hpre:l.row.toRowW.claim.pre args=true) (hwl:WellAll P h vals args):
 ∃a vs ns,vals=[Value.ref a]∧args=[WData.list (ns.map WData.int)]∧h.get? a=some {cls:=.type "list",data:=.seq vs.toArray}∧IntsAre vs ns∧ns.length≤n:=by
 have hsh:WShape.hasAll [] args [.list .int]=true:=(pre_splitW hpre).1;have hc:l.pre.holds [] {args:=args}=true:=(pre_splitW hpre).2;obtain ⟨d,r,rfl,h1,h2⟩:=hasAllW_cons hsh;obtain rfl:=hasAllW_nil h2;obtain ⟨xs,rfl,h3⟩:=hasW_list h1;obtain ⟨ns,rfl⟩:=items_int h3;have hlen:ns.length≤n:=by
  unfold OpenLaw.pre at hc;have h4:(WTm.not (.lt (.lit (.int (n:Int))) (.len (.arg 0)))).holds [] {args:=[.list (ns.map .int)]}=true:=by have h4:=(holds_andW hc).1;rw [hn] at h4;exact h4
  have h5:=condW_of h4 (w_not (w_lt w_lit (w_len_list (w_arg rfl))));rw [A0] at h5;refine GH fun q=>?_;have q':(n:Int)<((ns.length:Nat):Int):=by omega
  first
   |(rw [decide_eq_true q'] at h5;exact absurd h5 (by decide))
   |(simp at h5;omega)
 cases hwl with
 |cons w1 w2=>
  cases w2;cases w1 with
  |list ho hall=>exact ⟨_,_,ns,rfl,rfl,ho,WR ns _ hall,hlen⟩
theorem WT (l:OpenLaw) (args:List WData):l.row.toRowW.claim.post args (.bool true) args=true:=
 postW_of (r:=l.row.toRowW) (X:=(true==true))
  (show WShape.has [] (.bool true) .bool=true by first |rfl |decide |simp [WShape.has,WShape.arms,WShape.armsAll])
  (show (WTm.eq .res (.lit (.bool true))).value [] {args:=args,res:=some (.bool true),after:=args}=some (.bool (true==true)) from w_eq_bool (w_res rfl) w_lit) rfl
section
variable {prog:Program} {w:World} {A:Around} {E:Value→Shared→Prop} {s:Shared} {K:Frag}
end
end Att
namespace L2
open PySem PySem.Spec PyProof.Rows
theorem vals_ints:∀{vs:List Value} {ns:List Int},IntsAre vs ns→Vals (ns.map V.int) vs
 |_,_,.nil=>.nil
 |_,_,.cons n t h=>.cons ⟨t,rfl⟩ (vals_ints h)
def defArgs (s:Stmt):Arguments:=match s with
 |.FunctionDef _ a _ _ _ _ _ _ _ _=>a
 |_=>{posonlyargs:=[],args:=[],vararg:=none,kwonlyargs:=[],kw_defaults:=[],kwarg:=none,defaults:=[]}
def defBody (s:Stmt):List Stmt:=match s with
 |.FunctionDef _ _ b _ _ _ _ _ _ _=>b
 |_=>[]
def defScope (s:Stmt):Scope:=match s with
 |.FunctionDef _ _ _ _ _ _ sc _ _ _=>sc
 |_=>{kind:=.function,names:=[],isGenerator:=false,isCoroutine:=false}
abbrev O6:DP:=fun _ _ _ _ _ _=>False
abbrev E0:XK:=fun _ _ _=>False
inductive O7 (K:PySem.W.Frag) (x qual:Str) (st:Stmt) (f:Addr) (fd:FuncData):Prop where
 |mk (oc:Value) (od:Option Addr) (kV doc pm:Value) (an:Option Addr) (cdv ct:Value) (osl:Array (Option Value)) (f1:fd=PySem.W.fnOf x qual (defArgs st) (defBody st) (defScope st) .none kV doc pm an cdv ct) (f2:K.lookup f=some ⟨oc,od,.func fd,osl⟩) (f3:PySem.W.codeIn K cdv qual=true):O7 K x qual st f fd
structure Fun (K:PySem.W.Frag) (x qual:Str) (st:Stmt) (f:Addr) (fd:FuncData):Prop where
 ex:O7 K x qual st f fd
 kp:PySem.W.keepIn K (.ref f)=true
section
variable {P:Program} {w:World} {K:PySem.W.Frag} {mg:Str→Option Value} {base:Heap}
theorem Fun.binds {st:Stmt} {ps:List Str} (F:Fun K x qual st f fd)
 (h:∀(kV doc pm:Value) (an:Option Addr) (cdv ct:Value) (us:List Value),us.length=ps.length→bindArgs (PySem.W.fnOf x qual (defArgs st) (defBody st) (defScope st) .none kV doc pm an cdv ct) ⟨us,[]⟩=pure (ps.zip us)):Binds K fd ps []:=by
 obtain ⟨oc,od,kV,doc,pm,an,cdv,ct,osl,rfl,lk,hcd⟩:=F.ex;exact .all (h kV doc pm an cdv ct)
theorem O8 {st:Stmt} {f:Addr} {oc:Value} {od an:Option Addr} {osl:Array (Option Value)} {kV doc pm cdv ct:Value} (l:K.lookup f=some ⟨oc,od,.func (PySem.W.fnOf x qual (defArgs st) (defBody st) (defScope st) .none kV doc pm an cdv ct),osl⟩)
 (c:PySem.W.codeIn K cdv qual=true) (k:PySem.W.keepIn K (.ref f)=true):Fun K x qual st f (PySem.W.fnOf x qual (defArgs st) (defBody st) (defScope st) .none kV doc pm an cdv ct):=⟨⟨oc,od,kV,doc,pm,an,cdv,ct,osl,rfl,l,c⟩,k⟩
end
section
variable {X:Cx}
end
end L2
namespace LS
open PySem PySem.Spec PyProof.Rows L2
inductive D where
 |non |bl (b:Bool) |int (i:Int) |str (x:Str) |tup (ds:List D) |loc (l:Nat) |scr (ns:List Int) |adr (a:Addr) |ty (n:String) |exc (n:Str) (fs:List (Str×Int)) |edic |glo (n:Str) |clo (a:Addr) (vs:List V) (ds:List D)
inductive Kyd where
 |i (n:Int) |t (ns:List Int) |b (rs:List (List Int))
 deriving DecidableEq
def kD:Kyd→D
 |.i n=>.int n
 |.t ns=>.tup (ns.map D.int)
 |.b rs=>.tup (rs.map fun r=>.tup (r.map D.int))
inductive Cell where
 |lst (ds:List D) |tabn (g:Str) |dic (fz:Bool) (kvs:List (Kyd×D)) |ins (n:Str) (fs:List (Str×D))
abbrev Cell.tab:Cell:=.tabn "law"
def O9 (g:Str):Str:=g++(".<locals>.":Str)
def Bk (g:Str):Str:=O9 g++("<lambda>":Str)
abbrev HD:=List Cell
abbrev Ag:=List (Option D)
inductive Out (α:Type) where
 |ok (a:α) (h:HD) |err (C:Value) (fs:List (Str×D)) (h:HD) |stuck
def Out.bind {α β:Type} (o:Out α) (k:α→HD→Out β):Out β:=match o with
 |.ok a h=>k a h
 |.err C fs h=>.err C fs h
 |.stuck=>.stuck
@[simp] theorem Out.bind_ok {α β:Type} (a:α) (h:HD) (k:α→HD→Out β):(Out.ok a h).bind k=k a h:=rfl
@[simp] theorem Out.bind_err {α β:Type} (C:Value) (fs:List (Str×D)) (h:HD) (k:α→HD→Out β):(Out.err C fs h:Out α).bind k=.err C fs h:=rfl
@[simp] theorem Out.bind_stuck {α β:Type} (k:α→HD→Out β):(Out.stuck:Out α).bind k=.stuck:=rfl
def Mg:HO→Bool
 |.tup _=>true
 |.frz _ _=>true
 |.ext _=>true
 |.xd _=>true
 |_=>false
def Kp (H H':Hp):Prop:=∀b o,H b=some o→Mg o=true→H' b=some o
theorem Kp.refl (H:Hp):Kp H H:=fun _ _ e _=>e
theorem Kp.trans (a:Kp H H1) (b:Kp H1 H2):Kp H H2:=fun c o e i=>b c o (a c o e i) i
theorem Kp.new {H:Hp} {o:HO} (h:H p=none):Kp H (Aq H p o):=fun b u e _=>by rw [AD (Cp e h)];exact e
theorem Kp.set {H:Hp} {o u:HO} (h:H p=some o) (i:Mg o=false):Kp H (Aq H p u):=fun b w e iw=>by
 rw [AD]
 ·exact e
 ·intro z;rw [z,h] at e;cases e;rw [i] at iw;cases iw
def FzL (K:PySem.W.Frag) (H:Hp) (a:Addr) (xs:List V):Prop:=(∃o,H a=some (.frz o (.lst xs)))∨SqL K (fun _=>none) a xs
theorem Kp.fzL {K:PySem.W.Frag} (k:Kp H H') (h:FzL K H a xs):FzL K H' a xs:=by
 rcases h with ⟨o,h⟩ |h
 ·exact .inl ⟨o,k _ _ h rfl⟩
 ·exact .inr h
theorem FzL.sq {K:PySem.W.Frag} (h:FzL K H a xs):SqL K H a xs:=by
 rcases h with ⟨o,h⟩ |(h |⟨o,h⟩) |h
 ·exact .inl (.inr ⟨o,h⟩)
 ·cases h
 ·cases h
 ·exact .inr h
def Fv (C:Addr) (da:Option Addr) (a:Addr) (h:Heap):Prop:=∃o vs,h.get? a=some o∧o.cls=.ref C∧(∀d,da=some d→o.dict=some d)∧o.data=.fields vs
def JP (a:Addr) (h:Heap):Prop:=a≠sysModules∧∃o ep,h.get? a=some o∧o.ExactDict∧o.data=.dict #[] ep
inductive Pa (K:PySem.W.Frag) (a:Addr) (vs:List V):Prop where
 |mk (o:Obj) (its:Array Value) (n:Nat) (f1:K.lookup a=some o) (f2:o.cls=.type "tuple") (f3:o.dict=none) (f4:o.data=.seq its n) (f5:its.size≤sizeLine) (f6:Vals vs its.toList):Pa K a vs
def TupAt (K:PySem.W.Frag) (H:Hp) (a:Addr) (vs:List V):Prop:=H a=some (.tup vs)∨Pa K a vs
theorem tq {K:PySem.W.Frag} (t:TupAt K H a vs):SqT K H a vs:=by
 rcases t with t |⟨o,its,n,f1,f2,f3,f4,f5,f6⟩
 ·exact SqT.of t
 ·exact .inr ⟨o,its,n,f1,f2,f4,f5,f6⟩
theorem tok {K:PySem.W.Frag} (ok:HOk P w H h∧K.In h) (t:TupAt K H a vs):LM h a vs:=by
 rcases t with t |⟨o,its,n,f1,f2,f3,f4,f5,f6⟩
 ·exact ok.1 a _ t
 ·have e:=ok.2 a o f1;have l:vs.length=its.toList.length:=L2.Vals.length f6;have l2:its.toList.length=its.size:=Array.length_toList;exact ⟨Br (HF (l.trans l2)) f5,its.toList,f6,⟨o,e,f2,n,by simpa using f4⟩,fun u z=>by rw [e] at z;cases z;exact f3⟩
theorem TupAt.keep {K:PySem.W.Frag} (t:TupAt K H a vs) (k:Kp H H'):TupAt K H' a vs:=t.imp (fun t=>k _ _ t rfl) id
mutual
def DV (K:PySem.W.Frag) (m:List Addr) (H:Hp):D→V→Prop
 |.non,v=>v=.non
 |.bl b,v=>v=.bl b
 |.int i,v=>v=.int i
 |.str x,v=>v=.str x
 |.tup ds,v=>∃a vs,v=.ref a∧TupAt K H a vs∧DVs K m H ds vs
 |.loc l,v=>∃a,v=.ref a∧m[l]?=some a
 |.scr ns,v=>∃a,v=.ref a∧FzL K H a (ns.map V.int)
 |.adr a,v=>v=.ref a
 |.ty n,v=>v=.ty n
 |.exc n fs,v=>∃a C da,v=.ref a∧PySem.W.nsIn K mainGlobals n=some (some (.ref C))∧H a=some (.ext (Fv C da a))∧∀f i,fs.lookup f=some i→∃d fv,da=some d∧H d=some (.xd fv)∧fv.lookup f=some (.int i)
 |.edic,v=>∃a,v=.ref a∧H a=some (.ext (JP a))
 |.glo n,v=>∃a,v=.ref a∧PySem.W.nsIn K mainGlobals n=some (some (.ref a))
 |.clo a vs ds,v=>v=.ref a∧DVs K m H ds vs
def DVs (K:PySem.W.Frag) (m:List Addr) (H:Hp):List D→List V→Prop
 |[],vs=>vs=[]
 |d::ds,vs=>∃v r,vs=v::r∧DV K m H d v∧DVs K m H ds r
end
section
variable {K:PySem.W.Frag} {m m':List Addr} {H H':Hp}
theorem JQ {l:Nat} (p:m <+:m') (h:m[l]?=some a):m'[l]?=some a:=by obtain ⟨t,rfl⟩:=p;have hl:l<m.length:=(qa1.mp h).1;rw [EA hl];exact h
mutual
theorem DV.keep (p:m <+:m') (k:Kp H H'):∀{d:D} {v:V},DV K m H d v→DV K m' H' d v
 |.non,_,h=>by simpa [DV] using h
 |.bl _,_,h=>by simpa [DV] using h
 |.int _,_,h=>by simpa [DV] using h
 |.str _,_,h=>by simpa [DV] using h
 |.tup ds,_,h=>by simp only [DV] at h ⊢;obtain ⟨a,vs,e,q,r⟩:=h;exact ⟨a,vs,e,q.keep k,DVs.keep p k r⟩
 |.loc l,_,h=>by simp only [DV] at h ⊢;obtain ⟨a,e,q⟩:=h;exact ⟨a,e,JQ p q⟩
 |.scr ns,_,h=>by simp only [DV] at h ⊢;obtain ⟨a,e,q⟩:=h;exact ⟨a,e,k.fzL q⟩
 |.adr _,_,h=>by simpa [DV] using h
 |.ty _,_,h=>by simpa [DV] using h
 |.exc _ _,_,h=>by simp only [DV] at h ⊢;obtain ⟨a,C,da,e,q,r,t⟩:=h;exact ⟨a,C,da,e,q,k _ _ r rfl,fun f i z=>let ⟨d,fv,z1,z2,z3⟩:=t f i z;⟨d,fv,z1,k _ _ z2 rfl,z3⟩⟩
 |.edic,_,h=>by simp only [DV] at h ⊢;obtain ⟨a,e,r⟩:=h;exact ⟨a,e,k _ _ r rfl⟩
 |.glo _,_,h=>by simpa [DV] using h
 |.clo _ _ ds,_,h=>by simp only [DV] at h ⊢;exact ⟨h.1,DVs.keep p k h.2⟩
theorem DVs.keep (p:m <+:m') (k:Kp H H'):∀{ds:List D} {vs:List V},DVs K m H ds vs→DVs K m' H' ds vs
 |[],_,h=>by simpa [DVs] using h
 |d::ds,_,h=>by simp only [DVs] at h ⊢;obtain ⟨v,r,e,q,t⟩:=h;exact ⟨v,r,e,DV.keep p k q,DVs.keep p k t⟩
end
theorem DVs.nil:DVs K m H [] []:=by simp [DVs]
theorem DVs.cons {d:D} {v:V} (h:DV K m H d v) (t:DVs K m H ds vs):DVs K m H (d::ds) (v::vs):=by simp only [DVs];exact ⟨v,vs,rfl,h,t⟩
theorem DVs.len:∀{ds:List D} {vs:List V},DVs K m H ds vs→ds.length=vs.length
 |[],_,h=>by simp only [DVs] at h;subst h;rfl
 |d::ds,_,h=>by simp only [DVs] at h;obtain ⟨v,r,e,_,t⟩:=h;subst e;simp [DVs.len t]
theorem DVs.get:∀{ds:List D} {vs:List V} {i:Nat} {d:D},DVs K m H ds vs→ds[i]?=some d→∃v,vs[i]?=some v∧DV K m H d v
 |[],_,_,_,_,e=>by simp at e
 |d::ds,_,i,x,h,e=>by
  simp only [DVs] at h;obtain ⟨v,r,rfl,q,t⟩:=h;cases i with
  |zero=>simp at e;subst e;exact ⟨v,rfl,q⟩
  |succ i=>obtain ⟨w,h1,h2⟩:=DVs.get (i:=i) t (by simpa using e);exact ⟨w,by simpa using h1,h2⟩
theorem DVs.app:∀{ds es:List D} {vs ws:List V},DVs K m H ds vs→DVs K m H es ws→DVs K m H (ds++es) (vs++ws)
 |[],_,_,_,h,t=>by simp only [DVs] at h;subst h;exact t
 |d::ds,_,_,_,h,t=>by simp only [DVs] at h;obtain ⟨v,r,rfl,q,u⟩:=h;exact .cons q (DVs.app u t)
theorem DVs.set:∀{ds:List D} {vs:List V} {d:D} {v:V} (i:Nat),DVs K m H ds vs→DV K m H d v→DVs K m H (ds.set i d) (vs.set i v)
 |[],_,_,_,_,h,_=>by simp only [DVs] at h;subst h;exact .nil
 |d::ds,_,_,_,i,h,q'=>by
  simp only [DVs] at h;obtain ⟨v,r,rfl,q,u⟩:=h;cases i with
  |zero=>exact .cons q' u
  |succ i=>exact .cons q (DVs.set i u q')
theorem DVs.take:∀{ds:List D} {vs:List V} (n:Nat),DVs K m H ds vs→DVs K m H (ds.take n) (vs.take n)
 |_,_,0,_=>by simpa using (DVs.nil:DVs K m H [] [])
 |[],_,n+1,h=>by simp only [DVs] at h;subst h;exact .nil
 |d::ds,_,n+1,h=>by simp only [DVs] at h;obtain ⟨v,r,rfl,q,u⟩:=h;exact .cons q (DVs.take n u)
theorem DVs.drop:∀{ds:List D} {vs:List V} (n:Nat),DVs K m H ds vs→DVs K m H (ds.drop n) (vs.drop n)
 |_,_,0,h=>by simpa using h
 |[],_,n+1,h=>by simp only [DVs] at h;subst h;exact .nil
 |d::ds,_,n+1,h=>by simp only [DVs] at h;obtain ⟨v,r,rfl,q,u⟩:=h;simpa using DVs.drop n u
theorem DVs.rep (h:DVs K m H ds vs):∀n,DVs K m H (List.replicate n ds).flatten (List.replicate n vs).flatten
 |0=>by simpa using (DVs.nil:DVs K m H [] [])
 |n+1=>by rw [Fh,FU,Fh,FU];exact h.app (DVs.rep h n)
def GN (q:Str) (c:Addr) (h:Heap):Prop:=h.CodeRec (.ref c) q
def tabP (K:PySem.W.Frag) (g:Str):Option (Addr×Addr):=match PySem.W.nsIn K mainGlobals g with
 |some (some (.ref f))=>(match K.lookup f with
  |some ⟨_,_,.func fd,_⟩=>(match fd.code with
   |.ref c=>(match K.lookup c with
    |some ⟨_,_,.fields vs,_⟩=>(match (vs[11]?:Option Value) with
     |some (.ref P)=>some (c,P)
     |_=>none)
    |_=>none)
   |_=>none)
  |_=>none)
 |_=>none
def TabIs (K:PySem.W.Frag) (g:Str) (H:Hp) (a:Addr):Prop:=(∃c,tabP K g=some (c,a))∧∃ps,H a=some (.tbl ps)∧TriplesOk ps.toList∧∀pos cv,codeAmong pos ps.toList=some cv→∃c,cv=.ref c∧H c=some (.ext (GN (Bk g) c))
theorem TabIs.keep {K:PySem.W.Frag} {H H':Hp} (t:TabIs K g H a) (k:Kp H H') (e:H' a=H a):TabIs K g H' a:=by obtain ⟨z,ps,h1,h2,h3⟩:=t;exact ⟨z,ps,e.trans h1,h2,fun pos cv q=>let ⟨c,q1,q2⟩:=h3 pos cv q;⟨c,q1,k _ _ q2 rfl⟩⟩
def hashT (hs:List Int):Int:=reduceHash (Builtin.Tuple.tupleHashOf hs)
def WU:Kyd→Int
 |.i n=>hashInt n
 |.t ns=>hashT (ns.map hashInt)
 |.b rs=>hashT (rs.map fun r=>hashT (r.map hashInt))
def JR (p:Kyd×V×V) (e:DictEntry):Prop:=e.hash=WU p.1∧RelV p.2.1 e.key∧RelV p.2.2 e.val
def B9 (a:Addr) (es:List (Kyd×V×V)) (h:Heap):Prop:=(a==sysModules)=false∧es.length≤sizeLine∧(es.map (·.1)).Nodup∧∃o us ep,h.get? a=some o∧o.ExactDict∧o.data=.dict us ep∧Paired JR es us.toList
def EntD (K:PySem.W.Frag) (m:List Addr) (H:Hp):List (Kyd×D)→List (Kyd×V×V)→Prop
 |[],es=>es=[]
 |p::r,es=>∃kv vv r',es=(p.1,kv,vv)::r'∧DV K m H (kD p.1) kv∧DV K m H p.2 vv∧EntD K m H r r'
theorem EntD.keep {K:PySem.W.Frag} {m m':List Addr} (p:m <+:m') (k:Kp H H'):∀{kvs:List (Kyd×D)} {es:List (Kyd×V×V)},EntD K m H kvs es→EntD K m' H' kvs es
 |[],_,h=>h
 |_::_,_,h=>by obtain ⟨kv,vv,r',e,d1,d2,t⟩:=h;exact ⟨kv,vv,r',e,d1.keep p k,d2.keep p k,t.keep p k⟩
def DicH (fz:Bool) (H:Hp) (a:Addr) (es:List (Kyd×V×V)):Prop:=match fz with
 |true=>∃o,H a=some (.frz o (.dct (B9 a es)))
 |false=>H a=some (.dct (B9 a es))
theorem DicH.some {fz:Bool} {H:Hp} {es:List (Kyd×V×V)} (d:DicH fz H a es):∃o,H a=some o:=by
 cases fz with
 |true=>obtain ⟨o,e⟩:=d;exact ⟨_,e⟩
 |false=>exact ⟨_,d⟩
theorem DicH.same {fz:Bool} {H H':Hp} {es:List (Kyd×V×V)} (d:DicH fz H a es) (e:H' a=H a):DicH fz H' a es:=by
 cases fz with
 |true=>obtain ⟨o,z⟩:=d;exact ⟨o,e.trans z⟩
 |false=>exact e.trans d
theorem DicH.rd {fz:Bool} {es:List (Kyd×V×V)} (d:DicH fz H a es):Rd H a (.dct (B9 a es)):=by
 cases fz with
 |true=>obtain ⟨o,z⟩:=d;exact .inr ⟨o,z⟩
 |false=>exact .inl d
def FDs (K:PySem.W.Frag) (m:List Addr) (H:Hp):List (Str×D)→List (Str×V)→Prop
 |[],vs=>vs=[]
 |p::r,vs=>∃v r',vs=(p.1,v)::r'∧DV K m H p.2 v∧FDs K m H r r'
theorem FDs.keep {K:PySem.W.Frag} {m m':List Addr} (p:m <+:m') (k:Kp H H'):∀{fs:List (Str×D)} {vs:List (Str×V)},FDs K m H fs vs→FDs K m' H' fs vs
 |[],_,h=>h
 |_::_,_,h=>by obtain ⟨v,r',e,d,t⟩:=h;exact ⟨v,r',e,d.keep p k,t.keep p k⟩
inductive InsR (K:PySem.W.Frag) (m:List Addr) (H:Hp) (n:Str) (fs:List (Str×D)) (a:Addr):Prop where
 |mk (C dx:Addr) (fv:List (Str×V)) (f1:PySem.W.nsIn K mainGlobals n=some (some (.ref C))) (f2:H a=some (.ins C dx fv)) (f3:FDs K m H fs fv):InsR K m H n fs a
theorem InsR.keep {K:PySem.W.Frag} {m m':List Addr} {H H':Hp} {fs:List (Str×D)} (x:InsR K m H n fs a) (p:m <+:m') (k:Kp H H') (e:H' a=H a):InsR K m' H' n fs a:=by obtain ⟨C,dx,fv,h1,h2,h3⟩:=x;exact ⟨C,dx,fv,h1,e.trans h2,h3.keep p k⟩
def JS (K:PySem.W.Frag) (m:List Addr) (H:Hp):Cell→Addr→Prop
 |.lst ds,a=>∃vs,H a=some (.lst vs)∧DVs K m H ds vs
 |.tabn g,a=>TabIs K g H a
 |.ins n fs,a=>InsR K m H n fs a
 |.dic fz kvs,a=>∃es,DicH fz H a es∧EntD K m H kvs es
structure HR (K:PySem.W.Frag) (m:List Addr) (h:HD) (H:Hp):Prop where
 len:m.length=h.length
 nd:m.Nodup
 cells:∀(l:Nat) (c:Cell) (a:Addr),h[l]?=some c→m[l]?=some a→JS K m H c a
theorem HR.at {l:Nat} {c:Cell} (r:HR K m h H) (e:h[l]?=some c):∃a,m[l]?=some a∧JS K m H c a:=by
 have hl:l<h.length:=(qa1.mp e).1;have:l<m.length:=by rw [r.len];exact hl
 exact ⟨m[l],AR this,r.cells l c _ e (AR this)⟩
theorem HR.mem (r:HR K m h H) (ha:a∈m):H a≠none:=by
 obtain ⟨l,hl,rfl⟩:=Hx ha;have hl':l<h.length:=by rw [←r.len];exact hl
 have:=r.cells l h[l] m[l] (AR hl') (AR hl);cases hc:h[l] with
 |lst ds=>rw [hc] at this;obtain ⟨vs,e,_⟩:=this;rw [e];simp
 |ins n fs=>rw [hc] at this;obtain ⟨_,_,_,_,e,_⟩:=this;rw [e];simp
 |tabn g=>rw [hc] at this;obtain ⟨_,ps,e,_⟩:=this;rw [e];simp
 |dic fz kvs=>rw [hc] at this;obtain ⟨es,e,_⟩:=this;obtain ⟨o,e⟩:=e.some;rw [e];simp
theorem HR.same (r:HR K m h H) (k:Kp H H') (s:∀a∈m,H' a=H a):HR K m h H':=by
 refine ⟨r.len,r.nd,fun l c a e q=>?_⟩;have hm:a∈m:=Dw q;have:=r.cells l c a e q;cases c with
 |lst ds=>obtain ⟨vs,e1,e2⟩:=this;exact ⟨vs,by rw [s a hm];exact e1,e2.keep (Ay _) k⟩
 |tabn g=>exact TabIs.keep this k (s a hm)
 |ins n fs=>exact InsR.keep this (Ay _) k (s a hm)
 |dic fz kvs=>obtain ⟨es,e1,e2⟩:=this;exact ⟨es,e1.same (s a hm),e2.keep (Ay _) k⟩
theorem HR.new {o:HO} (r:HR K m h H) (hp:H p=none):HR K m h (Aq H p o):=
 r.same (.new hp) fun a ha=>AD fun z=>r.mem ha (z ▸ hp)
theorem HR.newCell {o:HO} {c:Cell} (r:HR K m h H) (hp:H p=none) (hc:JS K (m++[p]) (Aq H p o) c p):HR K (m++[p]) (h++[c]) (Aq H p o):=by
 have hpm:p∉m:=fun z=>r.mem z hp;refine ⟨by simp [r.len],?_,fun l c' a e q=>?_⟩
 ·rw [qcB];refine ⟨r.nd,by simp,fun a ha b hb=>?_⟩;rw [qaJ] at hb;subst hb;intro z;subst z;exact hpm ha
 ·by_cases hl:l<m.length
  ·rw [EA hl] at q;rw [EA (by rw [←r.len];exact hl)] at e;have:=r.cells l c' a e q;have hne:a≠p:=fun z=>hpm (z ▸ Dw q);cases c' with
   |lst ds=>obtain ⟨vs,e1,e2⟩:=this;exact ⟨vs,by rw [AD hne];exact e1,e2.keep (FT _ _) (.new hp)⟩
   |tabn g=>exact TabIs.keep this (.new hp) (AD hne)
   |ins n fs=>exact InsR.keep this (FT _ _) (.new hp) (AD hne)
   |dic fz kvs=>obtain ⟨es,e1,e2⟩:=this;exact ⟨es,e1.same (AD hne),e2.keep (FT _ _) (.new hp)⟩
  ·have h1:m.length≤l:=GH hl;rw [Hs h1] at q;rw [Hs (by rw [←r.len];exact h1)] at e;have e0:l - m.length=0:=by
    cases hz:l - m.length with
    |zero=>rfl
    |succ n=>rw [hz] at q;simp at q
   rw [←r.len] at e;rw [e0] at q e;simp at q e;subst q e;exact hc
theorem HR.setCell {h:HD} {l:Nat} {o u:HO} {c:Cell} (r:HR K m h H) (hl:m[l]?=some p) (ho:H p=some o) (i:Mg o=false) (hc:JS K m (Aq H p u) c p):HR K m (h.set l c) (Aq H p u):=by
 refine ⟨by simp [r.len],r.nd,fun j c' a e q=>?_⟩
 by_cases hj:j=l
 ·subst hj;rw [hl] at q;cases q;have hlt:j<h.length:=by rw [←r.len];exact (qa1.mp hl).1
  rw [BZ hlt] at e;cases e;exact hc
 ·rw [Be (Ne.symm hj)] at e;have:=r.cells j c' a e q;have hne:a≠p:=by intro z;subst z;obtain ⟨h1,e1⟩:=qa1.mp q;obtain ⟨h2,e2⟩:=qa1.mp hl;exact hj ((GF r.nd).mp (e1.trans e2.symm))
  cases c' with
  |lst ds=>obtain ⟨vs,e1,e2⟩:=this;exact ⟨vs,by rw [AD hne];exact e1,e2.keep (Ay _) (.set ho i)⟩
  |tabn g=>exact TabIs.keep this (.set ho i) (AD hne)
  |ins n fs=>exact InsR.keep this (Ay _) (.set ho i) (AD hne)
  |dic fz kvs=>obtain ⟨es,e1,e2⟩:=this;exact ⟨es,e1.same (AD hne),e2.keep (Ay _) (.set ho i)⟩
def ER (K:PySem.W.Frag) (m:List Addr) (H:Hp) (ρ:Ag) (σ:L2.St):Prop:=ρ.length=σ.length∧∀(i:Nat) (d:D),ρ[i]?=some (some d)→∃v,σ[i]?=some (some v)∧DV K m H d v
theorem ER.keep (p:m <+:m') (k:Kp H H') (e:ER K m H ρ σ):ER K m' H' ρ σ:=⟨e.1,fun i d h=>let ⟨v,a,b⟩:=e.2 i d h;⟨v,a,b.keep p k⟩⟩
theorem ER.set {ρ:Ag} {σ:L2.St} {i:Nat} (e:ER K m H ρ σ) (r:DV K m H d v):ER K m H (ρ.set i (some d)) (σ.set i (some v)):=by
 refine ⟨by simp [e.1],fun j d' h=>?_⟩
 by_cases hj:i=j
 ·subst hj
  by_cases hl:i < ρ.length
  ·rw [BZ hl] at h;cases h;exact ⟨v,by rw [BZ (by rw [←e.1];exact hl)],r⟩
  ·rw [List.getElem?_eq_none (by simp;omega)] at h;cases h
 ·rw [Be hj] at h;obtain ⟨w,a,b⟩:=e.2 j d' h;exact ⟨w,by rw [Be hj];exact a,b⟩
theorem ER.start {N:List Str} {ds:List D} (h:DVs K m H ds vs):ER K m H (ds.map some++List.replicate (N.length - ds.length) none) (L2.start N vs):=by
 refine ⟨by simp [L2.start,h.len],fun i d e=>?_⟩
 by_cases hl:i<ds.length
 ·rw [EA (by simpa using hl),BO] at e;obtain ⟨d',e1⟩:∃d',ds[i]?=some d':=⟨ds[i],AR hl⟩
  rw [e1] at e;simp at e;subst e;obtain ⟨v,q,r⟩:=h.get e1;refine ⟨v,?_,r⟩;unfold L2.start;rw [EA (by simpa [←h.len] using hl),BO,q];rfl
 ·rw [Hs (by simpa using GH hl)] at e;rw [LG] at e;split at e<;>cases e
def XD (K:PySem.W.Frag) (m:List Addr) (H:Hp) (fs:List (Str×D)) (da:Option Addr):Prop:=
 ∀f d,fs.lookup f=some d→∃a fv v,da=some a∧H a=some (.xd fv)∧fv.lookup f=some v∧DV K m H d v
def Post {α β:Type} (K:PySem.W.Frag) (R:List Addr→Hp→α→β→Prop) (m:List Addr) (H:Hp) (E:XK) (Q:β→Hp→Prop):Out α→Prop
 |.ok a h'=>∀v m' H',m <+:m'→Kp H H'→HR K m' h' H'→R m' H' a v→Q v H'
 |.err C fs h'=>∀da m' H',m <+:m'→Kp H H'→HR K m' h' H'→XD K m' H' fs da→E C da H'
 |.stuck=>False
theorem Post.ahead {α β:Type} {R:List Addr→Hp→α→β→Prop} {Q:β→Hp→Prop} {o:Out α} (p:m <+:m') (k:Kp H H') (h:Post K R m H E Q o):Post K R m' H' E Q o:=by
 cases o with
 |ok a h'=>exact fun v m2 H2 p2 k2=>h v m2 H2 (p.trans p2) (k.trans k2)
 |err C fs h'=>exact fun da m2 H2 p2 k2=>h da m2 H2 (p.trans p2) (k.trans k2)
 |stuck=>exact h
theorem Post.bind {α β γ δ:Type} {R:List Addr→Hp→α→β→Prop} {R':List Addr→Hp→γ→δ→Prop} {Q:δ→Hp→Prop} {Q':β→Hp→Prop} {o:Out α} {k:α→HD→Out γ} 
 (h:Post K R' m H E Q (o.bind k)) (f:∀a h1 v m1 H1,o=.ok a h1→m <+:m1→Kp H H1→HR K m1 h1 H1→R m1 H1 a v→Post K R' m1 H1 E Q (k a h1)→Q' v H1):Post K R m H E Q' o:=by
 cases o with
 |ok a h1=>exact fun v m1 H1 p kk hr r=>f a h1 v m1 H1 rfl p kk hr r (h.ahead p kk)
 |err C fs h1=>exact h
 |stuck=>exact h
theorem Post.mono {α β:Type} {R:List Addr→Hp→α→β→Prop} {Q Q':β→Hp→Prop} {o:Out α} (h:Post K R m H E Q o) (f:∀v H',Q v H'→Q' v H'):Post K R m H E Q' o:=by
 cases o with
 |ok a h1=>exact fun v m1 H1 p k hr r=>f _ _ (h v m1 H1 p k hr r)
 |err C fs h1=>exact h
 |stuck=>exact h
end
abbrev ME:=Ag→HD→Out D
abbrev MT:=Ag→HD→Out Bool
abbrev MA:=Ag→HD→Out (List D)
inductive Fl where
 |nx |bk |ct |rt (d:D)
abbrev MS:=Ag→HD→Out (Fl×Ag)
def rD (K:PySem.W.Frag):List Addr→Hp→D→V→Prop:=fun m H d v=>DV K m H d v
def rB:List Addr→Hp→Bool→Bool→Prop:=fun _ _ a b=>a=b
def Fw (K:PySem.W.Frag):List Addr→Hp→List D→List V→Prop:=fun m H d v=>DVs K m H d v
inductive tM {α β:Type} (K:PySem.W.Frag) (R:List Addr→Hp→α→β→Prop) (E:XK) (f:Ag→HD→Out α) (σ:L2.St) (H:Hp) (Q:β→Hp→Prop):Prop where
 |mk (m:List Addr) (ρ:Ag) (h:HD) (hr:HR K m h H) (er:ER K m H ρ σ) (p:Post K R m H E Q (f ρ h)):tM K R E f σ H Q
abbrev tD (K:PySem.W.Frag) (E:XK) (f:ME):TE:=tM K (rD K) E f
abbrev D8 (K:PySem.W.Frag) (E:XK) (f:MT):TT:=tM K rB E f
abbrev Pb (K:PySem.W.Frag) (E:XK) (f:MA):TA:=tM K (Fw K) E f
def Pc (K:PySem.W.Frag) (m:List Addr) (H:Hp) (D:Dz):Fl×Ag→Prop
 |(.nx,ρ)=>∀σ,ER K m H ρ σ→D.nx σ H
 |(.bk,ρ)=>∀σ,ER K m H ρ σ→D.bk σ H
 |(.ct,ρ)=>∀σ,ER K m H ρ σ→D.ct σ H
 |(.rt d,_)=>∀v,DV K m H d v→D.rt v H
def PostS (K:PySem.W.Frag) (m:List Addr) (H:Hp) (E:XK) (D:Dz):Out (Fl×Ag)→Prop
 |.ok a h'=>∀m' H',m <+:m'→Kp H H'→HR K m' h' H'→Pc K m' H' D a
 |.err C fs h'=>∀da m' H',m <+:m'→Kp H H'→HR K m' h' H'→XD K m' H' fs da→E C da H'
 |.stuck=>False
inductive GO (K:PySem.W.Frag) (E:XK) (g:MS) (D:Dz) (σ:L2.St) (H:Hp):Prop where
 |mk (m:List Addr) (ρ:Ag) (h:HD) (hr:HR K m h H) (er:ER K m H ρ σ) (p:PostS K m H E D (g ρ h)):GO K E g D σ H
theorem PostS.ahead {K:PySem.W.Frag} {m m':List Addr} {D:Dz} {o:Out (Fl×Ag)} (p:m <+:m') (k:Kp H H') (h:PostS K m H E D o):PostS K m' H' E D o:=by
 cases o with
 |ok a h'=>exact fun m2 H2 p2 k2=>h m2 H2 (p.trans p2) (k.trans k2)
 |err C fs h'=>exact fun da m2 H2 p2 k2=>h da m2 H2 (p.trans p2) (k.trans k2)
 |stuck=>exact h
abbrev Ev (X:Cx) (E:XK) (e:Expr) (f:ME):Prop:=PE X e (tD X.K E f)
abbrev CV (X:Cx) (E:XK) (e:Expr) (f:MT):Prop:=PT X e (D8 X.K E f)
abbrev CG (X:Cx) (E:XK) (es:List Expr) (f:MA):Prop:=PA X es (Pb X.K E f)
abbrev Ex (X:Cx) (E:XK) (st:Stmt) (g:MS):Prop:=PS X st (GO X.K E g)
abbrev CH (X:Cx) (E:XK) (sts:List Stmt) (g:MS):Prop:=CQ X sts (GO X.K E g)
section
variable {X:Cx}
theorem BI {t t':TE} (h:PE X e t) (i:∀σ H Q,t' σ H Q→t σ H Q):PE X e t':=fun pins s σ H Q I q=>h pins s σ H Q I (i σ H Q q)
theorem JT {t t':TT} (h:PT X e t) (i:∀σ H Q,t' σ H Q→t σ H Q):PT X e t':=fun pins s σ H Q I q=>h pins s σ H Q I (i σ H Q q)
theorem Pd {t t':TA} (h:PA X e t) (i:∀σ H Q,t' σ H Q→t σ H Q):PA X e t':=fun pos pins s σ H Q I q=>h pos pins s σ H Q I (i σ H Q q)
theorem EK {e:Stmt} {t t':TS} (h:PS X e t) (i:∀D σ H,t' D σ H→t D σ H):PS X e t':=fun pins s σ H D I q=>h pins s σ H D I (i D σ H q)
theorem Mh {e:List Stmt} {t t':TS} (h:CQ X e t) (i:∀D σ H,t' D σ H→t D σ H):CQ X e t':=fun pins s σ H D I q=>h pins s σ H D I (i D σ H q)
end
end LS
namespace LS
open PySem PySem.Spec PyProof.Rows L2
section
variable {X:Cx} {E:XK} {a b c:Expr} {pos:Pos} {f g k:ME}
def Ab (i:Nat):ME:=fun ρ h=>match ρ[i]? with
 |some (some d)=>.ok d h
 |_=>.stuck
theorem Mi {i:Nat} (h:PE X a (Oy i)):Ev X E a (Ab i):=BI h fun σ H Q z1_=>by
 obtain ⟨m,ρ,hd,hr,er,p⟩:=z1_;unfold Ab at p;split at p
 ·rename_i d e;obtain ⟨v,e1,r⟩:=er.2 i d e;exact ⟨v,e1,p v m H (Ay _) (.refl _) hr r⟩
 ·exact p.elim
def mC (d:D):ME:=fun _ h=>.ok d h
theorem GP (h:PE X a (tC v)) (r:∀m H,DV X.K m H d v):Ev X E a (mC d):=BI h fun σ H Q z2_=>by obtain ⟨m,ρ,hd,hr,er,p⟩:=z2_;exact (p v m H (Ay _) (.refl _) hr (r m H))
theorem WV {i:Int} {j:Nat}:Ev X E (.Constant (.int i) j pos) (mC (.int i)):=GP LP fun _ _=>by simp [DV]
theorem WW {i:Bool} {j:Nat}:Ev X E (.Constant (.bool i) j pos) (mC (.bl i)):=GP UO fun _ _=>by simp [DV]
theorem WX {j:Nat}:Ev X E (.Constant .none j pos) (mC .non):=GP UP fun _ _=>by simp [DV]
theorem Pe {j:Nat}:Ev X E (.Constant (.str x) j pos) (mC (.str x)):=GP UQ fun _ _=>by simp [DV]
theorem WY {i:Int} {t:Tok} (hg:Gl X x) (hm:X.mg x=some (.int i t)) (hd:(x==("__debug__":Str))=false:=by decide):Ev X E (.Name x pos) (mC (.int i)):=
 GP (UR (v:=.int i) hg hm ⟨t,rfl⟩ hd) fun _ _=>by simp [DV]
def Ae (op:D→D→HD→Out D) (f g:ME):ME:=fun ρ h=>(f ρ h).bind fun x h1=>(g ρ h1).bind fun y h2=>op x y h2
theorem JU {op:D→D→HD→Out D} {R:V→V→Hp→Prop} (h:tD X.K E (Ae op f g) σ H Q)
 (i:∀m H2 h2 x y v u,HR X.K m h2 H2→DV X.K m H2 x v→DV X.K m H2 y u→Post X.K (rD X.K) m H2 E Q (op x y h2)→R v u H2):tD X.K E f σ H fun v H1=>tD X.K E g σ H1 fun u H2=>R v u H2:=by
 obtain ⟨m,ρ,hd,hr,er,p⟩:=h;refine ⟨m,ρ,hd,hr,er,Post.bind p fun x h1 v m1 H1 _ p1 k1 hr1 r1 q1=>?_⟩;refine ⟨m1,ρ,h1,hr1,er.keep p1 k1,Post.bind q1 fun y h2 u m2 H2 _ p2 k2 hr2 r2 q2=>?_⟩;exact i m2 H2 h2 x y v u hr2 (DV.keep p2 k2 r1) r2 q2
def Bn (X:Cx) (f:Value→Value→Sem Value) (op:D→D→HD→Out D):Prop:=
 ∃r:R2,OpR X f r∧∀m H h E x y v u Q,HR X.K m h H→DV X.K m H x v→DV X.K m H y u→Post X.K (rD X.K) m H E Q (op x y h)→r v u H Q
theorem HQ {o:Operator} {op:D→D→HD→Out D} (ho:Bn X (binaryOp o) op) (ha:Ev X E a f) (hb:Ev X E b g):Ev X E (.BinOp a o b pos) (Ae op f g):=by obtain ⟨r,ho,i⟩:=ho;exact BI (VF ho ha hb) fun σ H Q h=>JU h fun m H2 h2 x y v u hr rx ry q=>i m H2 h2 E x y v u Q hr rx ry q
theorem Mj {o:CmpOp} {op:D→D→HD→Out D} (ho:Bn X (compareOp o) op) (ha:Ev X E a f) (hb:Ev X E b g) (hm:behindInMarks o b=false):Ev X E (.Compare a [o] [b] pos) (Ae op f g):=by obtain ⟨r,ho,i⟩:=ho;exact BI (VR ho ha hb hm) fun σ H Q h=>JU h fun m H2 h2 x y v u hr rx ry q=>i m H2 h2 E x y v u Q hr rx ry q
def JV:D→HD→Out Bool
 |.bl b,h=>.ok b h
 |_,_=>.stuck
def A2 (f:ME):MT:=fun ρ h=>(f ρ h).bind JV
theorem Pf {Q:Bool→Hp→Prop} (hr:HR X.K m h H) (r:DV X.K m H x v) (q:Post X.K rB m H E Q (JV x h)):∃k,v=.bl k∧Q k H:=by
 cases x with
 |bl b=>simp only [DV] at r;exact ⟨b,r,q b m H (Ay _) (.refl _) hr rfl⟩
 |_=>exact q.elim
theorem Fx {o:CmpOp} {op:D→D→HD→Out D} (ho:Bn X (compareOp o) op) (ha:Ev X E a f) (hb:Ev X E b g) (hm:behindInMarks o b=false):CV X E (.Compare a [o] [b] pos) (A2 (Ae op f g)):=by
 obtain ⟨r,ho,i⟩:=ho;refine JT (VS ho ha hb hm) fun σ H Q h=>?_;obtain ⟨m,ρ,hd,hr,er,p⟩:=h;have h':tD X.K E (Ae op f g) σ H fun x H'=>∃k,x=.bl k∧Q k H':=
  ⟨m,ρ,hd,hr,er,Post.bind p fun x h1 v m1 H1 _ p1 k1 hr1 r1 q1=>Pf hr1 r1 q1⟩
 exact JU h' fun m H2 h2 x y v u hr rx ry q=>i m H2 h2 E x y v u _ hr rx ry q
def D9:D→HD→Out Bool
 |.non,h=>.ok false h
 |.bl b,h=>.ok b h
 |.int i,h=>.ok (i != 0) h
 |.tup ds,h=>.ok (!ds.isEmpty) h
 |.loc l,h=>match h[l]? with
  |some (.lst ds)=>.ok (!ds.isEmpty) h
  |_=>.stuck
 |_,_=>.stuck
def Bz (f:ME):MT:=fun ρ h=>(f ρ h).bind D9
theorem Pg {α β:Type} {xs:List α} {ys:List β} (h:xs.length=ys.length):xs.isEmpty=ys.isEmpty:=by cases xs<;>cases ys<;>simp_all
theorem WZ {Q:Bool→Hp→Prop} (hr:HR X.K m h H) (r:DV X.K m H x v) (q:Post X.K rB m H E Q (D9 x h)):∃k,L9 X.K v H k∧Q k H:=by
 have go:∀k,D9 x h=.ok k h→Q k H:=fun k e=>by rw [e] at q;exact q k m H (Ay _) (.refl _) hr rfl
 cases x with
 |non=>simp only [DV] at r;subst r;exact ⟨false,rfl,go _ rfl⟩
 |bl b=>simp only [DV] at r;subst r;exact ⟨b,rfl,go _ rfl⟩
 |int i=>simp only [DV] at r;subst r;exact ⟨_,rfl,go _ rfl⟩
 |str x=>exact q.elim
 |tup ds=>simp only [DV] at r;obtain ⟨p,vs,rfl,hp,dv⟩:=r;exact ⟨_,.inr ⟨vs,tq hp,rfl⟩,by rw [←Pg dv.len];exact go _ rfl⟩
 |loc l=>
  simp only [DV] at r;obtain ⟨p,rfl,hp⟩:=r;simp only [D9] at q;split at q
  ·rename_i ds e;obtain ⟨vs,e1,dv⟩:=hr.cells l _ p e hp;exact ⟨_,.inl ⟨vs,SqL.of e1,rfl⟩,by rw [←Pg dv.len];exact q _ m H (Ay _) (.refl _) hr rfl⟩
  ·exact q.elim
 |scr ns=>exact q.elim
 |adr a=>exact q.elim
 |ty a=>exact q.elim
 |exc n fs=>exact q.elim
 |edic=>exact q.elim
 |glo n=>exact q.elim
 |clo a vs ds=>exact q.elim
theorem W0 (ha:Ev X E a f) (he:∀Ep,isTrue a X.env Ep=(do let v ←Ep;standAt a.pos;holding [v] (truthy v)):=by intro _;rfl):CV X E a (Bz f):=
 JT (VW ha he) fun σ H Q z3_=>by obtain ⟨m,ρ,hd,hr,er,p⟩:=z3_;exact (⟨m,ρ,hd,hr,er,Post.bind p fun x h1 v m1 H1 _ p1 k1 hr1 r1 q1=>WZ hr1 r1 q1⟩)
variable {tf tg:MT} {rest:List Expr}
def HU (f g:MT):MT:=fun ρ h=>(f ρ h).bind fun b h1=>if b=true then g ρ h1 else .ok false h1
def Ca (f g:MT):MT:=fun ρ h=>(f ρ h).bind fun b h1=>if b=true then .ok true h1 else g ρ h1
def BG (f:MT):MT:=fun ρ h=>(f ρ h).bind fun b h1=>.ok (!b) h1
abbrev F5 (X:Cx) (E:XK) (e:Expr) (f:MT):Prop:=PW X e (D8 X.K E f)
theorem Ph {t t':TT} (h:PW X e t) (i:∀σ H Q,t' σ H Q→t σ H Q):PW X e t':=fun wh pins s σ H Q I q=>h wh pins s σ H Q I (i σ H Q q)
theorem W1 (ha:CV X E a tf):F5 X E (.BoolOp .And [a] pos) tf:=UW ha
theorem W2 (ha:CV X E a tf):F5 X E (.BoolOp .Or [a] pos) tf:=UX ha
theorem Pi (ha:CV X E a tf) (hb:F5 X E (.BoolOp .And (b::rest) pos) tg):F5 X E (.BoolOp .And (a::b::rest) pos) (HU tf tg):=
 Ph (UY ha hb) fun σ H Q z4_=>by obtain ⟨m,ρ,hd,hr,er,p⟩:=z4_;exact (⟨m,ρ,hd,hr,er,Post.bind p fun x h1 v m1 H1 _ p1 k1 hr1 r1 q1=>by
  cases r1;cases x with
  |true=>exact ⟨m1,ρ,h1,hr1,er.keep p1 k1,q1⟩
  |false=>exact q1 false m1 H1 (Ay _) (.refl _) hr1 rfl⟩)
theorem Pj (ha:CV X E a tf) (hb:F5 X E (.BoolOp .Or (b::rest) pos) tg):F5 X E (.BoolOp .Or (a::b::rest) pos) (Ca tf tg):=
 Ph (UZ ha hb) fun σ H Q z5_=>by obtain ⟨m,ρ,hd,hr,er,p⟩:=z5_;exact (⟨m,ρ,hd,hr,er,Post.bind p fun x h1 v m1 H1 _ p1 k1 hr1 r1 q1=>by
  cases r1;cases x with
  |false=>exact ⟨m1,ρ,h1,hr1,er.keep p1 k1,q1⟩
  |true=>exact q1 true m1 H1 (Ay _) (.refl _) hr1 rfl⟩)
theorem Pk (h:F5 X E a tf):CV X E a tf:=PW.pt h
theorem W3 (ha:CV X E a tf):CV X E (.UnaryOp .Not a pos) (BG tf):=
 JT (U0 ha) fun σ H Q z6_=>by obtain ⟨m,ρ,hd,hr,er,p⟩:=z6_;exact (⟨m,ρ,hd,hr,er,Post.bind p fun x h1 v m1 H1 _ p1 k1 hr1 r1 q1=>by cases r1;exact q1 _ m1 H1 (Ay _) (.refl _) hr1 rfl⟩)
def EL (f g:ME):ME:=fun ρ h=>(f ρ h).bind fun x h1=>match x with
 |.bl true=>g ρ h1
 |.bl false=>.ok (.bl false) h1
 |_=>.stuck
def HV (f g:ME):ME:=fun ρ h=>(f ρ h).bind fun x h1=>match x with
 |.bl true=>.ok (.bl true) h1
 |.bl false=>g ρ h1
 |_=>.stuck
def HW (f:ME):ME:=fun ρ h=>(f ρ h).bind fun x h1=>match x with
 |.bl b=>.ok (.bl (!b)) h1
 |_=>.stuck
theorem W4 {o:BoolOp} (h:Ev X E a f):Ev X E (.BoolOp o [a] pos) f:=U4 h
theorem W5 (ha:Ev X E a f) (hb:Ev X E (.BoolOp .And (b::rest) pos) g):Ev X E (.BoolOp .And (a::b::rest) pos) (EL f g):=
 BI (U5 ha hb) fun σ H Q ⟨m,ρ,hd,hr,er,p⟩=>⟨m,ρ,hd,hr,er,Post.bind p fun x h1 v m1 H1 _ p1 k1 hr1 r1 q1=>by
  cases x with
  |bl b=>
   refine ⟨b,by simpa [rD,DV] using r1,?_⟩;cases b with
   |true=>exact ⟨m1,ρ,h1,hr1,er.keep p1 k1,q1⟩
   |false=>exact q1 _ m1 H1 (Ay _) (.refl _) hr1 (by simp [rD,DV])
  |_=>exact q1.elim⟩
theorem W6 (ha:Ev X E a f) (hb:Ev X E (.BoolOp .Or (b::rest) pos) g):Ev X E (.BoolOp .Or (a::b::rest) pos) (HV f g):=
 BI (U6 ha hb) fun σ H Q ⟨m,ρ,hd,hr,er,p⟩=>⟨m,ρ,hd,hr,er,Post.bind p fun x h1 v m1 H1 _ p1 k1 hr1 r1 q1=>by
  cases x with
  |bl b=>
   refine ⟨b,by simpa [rD,DV] using r1,?_⟩;cases b with
   |false=>exact ⟨m1,ρ,h1,hr1,er.keep p1 k1,q1⟩
   |true=>exact q1 _ m1 H1 (Ay _) (.refl _) hr1 (by simp [rD,DV])
  |_=>exact q1.elim⟩
theorem W7 (ha:Ev X E a f):Ev X E (.UnaryOp .Not a pos) (HW f):=
 BI (U7 ha) fun σ H Q z9_=>by obtain ⟨m,ρ,hd,hr,er,p⟩:=z9_;exact (⟨m,ρ,hd,hr,er,Post.bind p fun x h1 v m1 H1 _ p1 k1 hr1 r1 q1=>by
  cases x with
  |bl b=>exact ⟨b,by simpa [rD,DV] using r1,q1 _ m1 H1 (Ay _) (.refl _) hr1 (by simp [rD,DV])⟩
  |_=>exact q1.elim⟩)
def JW (t:MT) (f g:ME):ME:=fun ρ h=>(t ρ h).bind fun b h1=>if b=true then f ρ h1 else g ρ h1
theorem W8 (hc:CV X E c tf) (ha:Ev X E a f) (hb:Ev X E b g):Ev X E (.IfExp c a b pos) (JW tf f g):=
 BI (U9 hc ha hb) fun σ H Q z10_=>by obtain ⟨m,ρ,hd,hr,er,p⟩:=z10_;exact (⟨m,ρ,hd,hr,er,Post.bind p fun x h1 v m1 H1 _ p1 k1 hr1 r1 q1=>by
  cases r1;cases x with
  |true=>exact ⟨m1,ρ,h1,hr1,er.keep p1 k1,q1⟩
  |false=>exact ⟨m1,ρ,h1,hr1,er.keep p1 k1,q1⟩⟩)
def Ea (op op':D→D→HD→Out D) (f g k:ME):ME:=fun ρ h=>(f ρ h).bind fun x h1=>(g ρ h1).bind fun y h2=>(op x y h2).bind fun z h3=>match z with
 |.bl true=>(k ρ h3).bind fun w h4=>op' y w h4
 |.bl false=>.ok (.bl false) h3
 |_=>.stuck
theorem Pl {r r':R2} {op op':D→D→HD→Out D} {o o':Value→Value→Sem Value} (i:∀m H h E x y v u Q,HR X.K m h H→DV X.K m H x v→DV X.K m H y u→Post X.K (rD X.K) m H E Q (op x y h)→r v u H Q)
 (i':∀m H h E x y v u Q,HR X.K m h H→DV X.K m H x v→DV X.K m H y u→Post X.K (rD X.K) m H E Q (op' x y h)→r' v u H Q) {σ:L2.St} {H:Hp} {Q:VK} (h:tD X.K E (Ea op op' f g k) σ H Q):
 L8 r r' (tD X.K E f) (tD X.K E g) (tD X.K E k) σ H Q:=by
 obtain ⟨m,ρ,hd,hr,er,p⟩:=h;refine ⟨m,ρ,hd,hr,er,Post.bind p fun x h1 v m1 H1 _ p1 k1 hr1 r1 q1=>?_⟩;refine ⟨m1,ρ,h1,hr1,er.keep p1 k1,Post.bind q1 fun y h2 u m2 H2 _ p2 k2 hr2 r2 q2=>?_⟩;refine i m2 H2 h2 E x y v u _ hr2 (DV.keep p2 k2 r1) r2 (Post.bind q2 fun z h3 w m3 H3 _ p3 k3 hr3 r3 q3=>?_);cases z with
 |bl b=>
  refine ⟨b,by simpa [rD,DV] using r3,?_⟩;cases b with
  |false=>exact q3 _ m3 H3 (Ay _) (.refl _) hr3 (by simp [rD,DV])
  |true=>refine ⟨m3,ρ,h3,hr3,((er.keep p1 k1).keep p2 k2).keep p3 k3,Post.bind q3 fun z h4 w' m4 H4 _ p4 k4 hr4 r4 q4=>?_⟩;exact i' m4 H4 h4 E y z u w' Q hr4 (DV.keep p4 k4 (DV.keep p3 k3 r2)) r4 q4
 |_=>exact q3.elim
theorem W9 {o o':CmpOp} {op op':D→D→HD→Out D} (ho:Bn X (compareOp o) op) (ho':Bn X (compareOp o') op') (ha:Ev X E a f) (hb:Ev X E b g) (hc:Ev X E c k)
 (hm:lastMarks [o,o'] [b,c]=false:=by with_unfolding_all rfl):Ev X E (.Compare a [o,o'] [b,c] pos) (Ea op op' f g k):=by
 obtain ⟨r,ho,i⟩:=ho;obtain ⟨r',ho',i'⟩:=ho';exact BI (VT ho ho' ha hb hc hm) fun σ H Q h=>Pl (o:=compareOp o) (o':=compareOp o') i i' h
theorem Pm {o o':CmpOp} {op op':D→D→HD→Out D} (ho:Bn X (compareOp o) op) (ho':Bn X (compareOp o') op') (ha:Ev X E a f) (hb:Ev X E b g) (hc:Ev X E c k)
 (hm:lastMarks [o,o'] [b,c]=false:=by with_unfolding_all rfl):CV X E (.Compare a [o,o'] [b,c] pos) (A2 (Ea op op' f g k)):=by
 obtain ⟨r,ho,i⟩:=ho;obtain ⟨r',ho',i'⟩:=ho';refine JT (VU ho ho' ha hb hc hm) fun σ H Q h=>?_;obtain ⟨m,ρ,hd,hr,er,p⟩:=h;exact Pl (o:=compareOp o) (o':=compareOp o') i i' ⟨m,ρ,hd,hr,er,Post.bind p fun x h1 v m1 H1 _ p1 k1 hr1 r1 q1=>Pf hr1 r1 q1⟩
variable {es:List Expr} {fa:MA}
def Ac:MA:=fun _ h=>.ok [] h
def Aa (f:ME) (r:MA):MA:=fun ρ h=>(f ρ h).bind fun x h1=>(r ρ h1).bind fun xs h2=>.ok (x::xs) h2
theorem JX:CG X E [] Ac:=Pd Ma fun σ H Q z11_=>by obtain ⟨m,ρ,hd,hr,er,p⟩:=z11_;exact (p [] m H (Ay _) (.refl _) hr .nil)
theorem JY (ha:Ev X E a f) (hr:CG X E es fa) (hs:starEach (a::es) X.env=(false,eval a X.env)::starEach es X.env:=by rfl):CG X E (a::es) (Aa f fa):=
 Pd (Mb ha hr hs) fun σ H Q z12_=>by obtain ⟨m,ρ,hd,hr,er,p⟩:=z12_;exact (⟨m,ρ,hd,hr,er,Post.bind p fun x h1 v m1 H1 _ p1 k1 hr1 r1 q1=>⟨m1,ρ,h1,hr1,er.keep p1 k1,Post.bind q1 fun xs h2 vs m2 H2 _ p2 k2 hr2 r2 q2=>q2 _ m2 H2 (Ay _) (.refl _) hr2 (DVs.cons (DV.keep p2 k2 r1) r2)⟩⟩)
def AW (fa:MA):ME:=fun ρ h=>(fa ρ h).bind fun xs h1=>if xs.length≤sizeLine then .ok (.tup xs) h1 else .stuck
def BJ (xs:List D) (h:HD):Out D:=if xs.length≤sizeLine then .ok (.loc h.length) (h++[.lst xs]) else .stuck
def AB (fa:MA):ME:=fun ρ h=>(fa ρ h).bind BJ
theorem F6 {H:Hp} {Q:VK} (hr:HR X.K m h H) (r:DVs X.K m H xs vs) (q:Post X.K (rD X.K) m H E Q (.ok (.tup xs) h)):∀p,H p=none→Q (.ref p) (Aq H p (.tup vs)):=fun p hp=>q (.ref p) m _ (Ay _) (.new hp) (hr.new hp) (by simp only [rD,DV];exact ⟨p,vs,rfl,.inl B0,r.keep (Ay _) (.new hp)⟩)
theorem Fy {H:Hp} {vs:List V} {Q:VK} (hr:HR X.K m h H) (r:DVs X.K m H xs vs) (q:Post X.K (rD X.K) m H E Q (BJ xs h)):vs.length≤sizeLine∧∀p,H p=none→Q (.ref p) (Aq H p (.lst vs)):=by
 unfold BJ at q
 by_cases hz:xs.length≤sizeLine
 ·rw [if_pos hz] at q;refine ⟨by rw [←r.len];exact hz,fun p hp=>?_⟩;refine q (.ref p) (m++[p]) _ (FT _ _) (.new hp) (hr.newCell hp ⟨vs,B0,r.keep (FT _ _) (.new hp)⟩) ?_;simp only [rD,DV];exact ⟨p,rfl,by rw [←hr.len];simp⟩
 ·rw [if_neg hz] at q;exact q.elim
theorem Xa {x1:Nat} (h:CG X E es fa):Ev X E (.Tuple es x1 pos) (AW fa):=
 BI (V7 h) fun σ H Q z13_=>by obtain ⟨m,ρ,hd,hr,er,p⟩:=z13_;exact (⟨m,ρ,hd,hr,er,Post.bind p fun xs h1 vs m1 H1 _ p1 k1 hr1 r1 q1=>by
  by_cases hz:xs.length≤sizeLine
  ·rw [if_pos hz] at q1;exact ⟨by rw [←DVs.len r1];exact hz,F6 hr1 r1 q1⟩
  ·rw [if_neg hz] at q1;exact q1.elim⟩)
theorem Xb (h:CG X E es fa):Ev X E (.List es pos) (AB fa):=
 BI (V8 h) fun σ H Q z14_=>by obtain ⟨m,ρ,hd,hr,er,p⟩:=z14_;exact (⟨m,ρ,hd,hr,er,Post.bind p fun xs h1 vs m1 H1 _ p1 k1 hr1 r1 q1=>Fy hr1 r1 q1⟩)
inductive JZ (K:PySem.W.Frag) (F:List D→HD→Out D) (vs:List V) (H:Hp) (Q:VK) (E:XK):Prop where
 |mk (m:List Addr) (ds:List D) (h:HD) (hr:HR K m h H) (r:DVs K m H ds vs) (p:Post K (rD K) m H E0 Q (F ds h)):JZ K F vs H Q E
def Ar (n:Nat) (F:List D→HD→Out D):Prop:=∀ds h,ds.length≠n→F ds h=.stuck
theorem Ar.len {K:PySem.W.Frag} {n:Nat} (ar:Ar n F) {vs:List V} {H:Hp} {Q:VK} {E':XK} (h:JZ K F vs H Q E'):vs.length=n:=by
 obtain ⟨m,ds,hd,hr,r,p⟩:=h;rw [←r.len]
 by_cases e:ds.length=n
 ·exact e
 ·rw [ar ds hd e] at p;exact p.elim
def An (F:D→HD→Out D):List D→HD→Out D:=fun ds h=>match ds with
 |[a]=>F a h
 |_=>.stuck
def A4 (F:D→D→HD→Out D):List D→HD→Out D:=fun ds h=>match ds with
 |[a,b]=>F a b h
 |_=>.stuck
def Xd (F:D→D→D→HD→Out D):List D→HD→Out D:=fun ds h=>match ds with
 |[a,b,c]=>F a b c h
 |_=>.stuck
def Af (F:List D→HD→Out D) (fa:MA):ME:=fun ρ h=>(fa ρ h).bind F
def Cr (X:Cx) (f:Value) (F:List D→HD→Out D):Prop:=
 ∃r:List V→Hp→VK→Prop,CF X f r∧∀m H h E ds vs Q,HR X.K m h H→DVs X.K m H ds vs→Post X.K (rD X.K) m H E Q (F ds h)→r vs H Q
theorem Xe {id:String} {x:Str} {e:Expr} (hc:Cr X (.builtin id) F) (hg:Gl X x) (hm:X.mg x=none) (hv:bootBuiltins x=some (.builtin id)) (ha:CG X E (e::es) fa) (hn:x≠"__name__":=by decide) (hdb:(x==("__debug__":Str))=false:=by decide)
 (hs:starEach (e::es) X.env=(false,eval e X.env)::starEach es X.env:=by rfl) (hpl:(backTo pos (starEach es X.env)).any (·.1)=false:=by rfl):Ev X E (.Call (.Name x p) (e::es) [] pos) (Af F fa):=by
 obtain ⟨r,hc,i⟩:=hc;exact BI (OQ hc hg hm hv ha hn hdb hs hpl) fun σ H Q z17_=>by obtain ⟨m,ρ,hd,hr,er,p⟩:=z17_;exact (⟨m,ρ,hd,hr,er,Post.bind p fun xs h1 vs m1 H1 e1 p1 k1 hr1 r1 q1=>i m1 H1 h1 E xs vs Q hr1 r1 q1⟩)
theorem Xf {id:String} {x:Str} {e:Expr} (hc:Cr X (.type id) F) (hg:Gl X x) (hm:X.mg x=none) (hv:bootBuiltins x=some (.type id)) (ha:CG X E (e::es) fa) (hn:x≠"__name__":=by decide) (hdb:(x==("__debug__":Str))=false:=by decide)
 (hs:starEach (e::es) X.env=(false,eval e X.env)::starEach es X.env:=by rfl) (hpl:(backTo pos (starEach es X.env)).any (·.1)=false:=by rfl):Ev X E (.Call (.Name x p) (e::es) [] pos) (Af F fa):=by
 obtain ⟨r,hc,i⟩:=hc;exact BI (OR hc hg hm hv ha hn hdb hs hpl) fun σ H Q z18_=>by obtain ⟨m,ρ,hd,hr,er,p⟩:=z18_;exact (⟨m,ρ,hd,hr,er,Post.bind p fun xs h1 vs m1 H1 e1 p1 k1 hr1 r1 q1=>i m1 H1 h1 E xs vs Q hr1 r1 q1⟩)
end
section
variable {X:Cx} {E:XK}
theorem A8 {K:PySem.W.Frag} {Q:VK} (hr:HR K m h H) (q:Post K (rD K) m H E Q (.ok d h)) (r:DV K m H d v):Q v H:=q v m H (Ay _) (.refl _) hr r
theorem op_catT0:OpR X (binaryOp .Add) (fun x y H Q=>∃a b ys,x=.ref a∧y=.ref b∧SqT X.K H a []∧SqT X.K H b ys∧Q (.ref b) H):=by
 intro pins s σ H x y v u Q I rx ry h;obtain ⟨a,b,ys,rfl,rfl,ha,hb,q⟩:=h;cases rx;cases ry;obtain ⟨its,r1,p1,_⟩:=I.tuple ha;obtain ⟨its2,r2,p2,_⟩:=I.tuple hb;cases r1;obtain ⟨⟨cls,dd,data,sl⟩,ho,hc,n,hd⟩:=id p1;obtain ⟨⟨cls2,dd2,data2,sl2⟩,ho2,hc2,n2,hd2⟩:=id p2;simp only at hc hd hc2 hd2;subst hc hd hc2 hd2;exact concat_meets ⟨_,ho,rfl⟩ ⟨_,ho2,rfl⟩ noFill_tuple_add seq_tuple_add PySem.F.slot_tuple_add PySem.F.entry_tuple_add (PySem.F.args_tuple_add_2 _ _)
  (tuple_addW0 a b _ its2.toArray n n2 dd dd2 sl sl2 (by simp)) ⟨ho,ho2,⟨.ref b,H,I,rfl,q⟩⟩
def Am:D→D→HD→Out D
 |.int i,.int j,h=>.ok (.int (i+j)) h
 |.str x,.str y,h=>if x.length+y.length≤sizeLine then .ok (.str (x++y)) h else .stuck
 |.tup xs,.tup ys,h=>if xs.length+ys.length≤sizeLine then .ok (.tup (xs++ys)) h else .stuck
 |.loc l,.loc k,h=>match h[l]?,h[k]? with
  |some (.lst xs),some (.lst ys)=>BJ (xs++ys) h
  |_,_=>.stuck
 |_,_,_=>.stuck
theorem Xg:Bn X (binaryOp .Add) Am:=by
 refine ⟨_,op_add.or (op_catT0.or (op_catT.or (op_cat.or VX))),fun m H h E x y v u Q hr rx ry q=>?_⟩;unfold Am at q;split at q
 ·simp only [DV] at rx ry;subst rx ry;exact .inl ⟨_,_,rfl,rfl,A8 hr q (by simp [DV])⟩
 ·simp only [DV] at rx ry;subst rx ry;split at q
  ·rename_i hz;exact .inr (.inr (.inr (.inr ⟨_,_,rfl,rfl,hz,A8 hr q (by simp [DV])⟩)))
  ·exact q.elim
 ·rename_i xs ys;simp only [DV] at rx ry;obtain ⟨a,vs,rfl,ha,dx⟩:=rx;obtain ⟨b,ws,rfl,hb,dy⟩:=ry;split at q
  ·rename_i hz;cases xs with
   |nil=>simp only [DVs] at dx;subst dx;exact .inr (.inl ⟨a,b,ws,rfl,rfl,tq ha,tq hb,A8 hr q (by simp only [DV];exact ⟨b,ws,rfl,hb,dy⟩)⟩)
   |cons x xs=>
    refine .inr (.inr (.inl ⟨a,b,vs,ws,rfl,rfl,tq ha,tq hb,?_,by rw [←dx.len,←dy.len];exact hz,fun e=>?_,fun e=>?_⟩))
    ·intro e;have:=dx.len;rw [e] at this;simp at this
    ·subst e;have:ys=[]:=by have:=dy.len;simpa using this
     subst this;exact A8 hr q (by simp only [DV];exact ⟨a,vs,rfl,ha,by simpa using dx⟩)
    ·exact F6 hr (dx.app dy) q
  ·exact q.elim
 ·simp only [DV] at rx ry;obtain ⟨a,rfl,ha⟩:=rx;obtain ⟨b,rfl,hb⟩:=ry;split at q
  ·rename_i xs ys e1 e2;obtain ⟨vs,h1,d1⟩:=hr.cells _ _ a e1 ha;obtain ⟨ws,h2,d2⟩:=hr.cells _ _ b e2 hb;obtain ⟨z,q'⟩:=Fy hr (d1.app d2) q;exact .inr (.inr (.inr (.inl ⟨a,b,vs,ws,rfl,rfl,h1,h2,by simpa using z,q'⟩)))
  ·exact q.elim
 ·exact q.elim
def intD (f:Int→Int→D) (c:Int→Int→Prop) [∀i j,Decidable (c i j)]:D→D→HD→Out D
 |.int i,.int j,h=>if c i j then .ok (f i j) h else .stuck
 |_,_,_=>.stuck
theorem Mk {o:Value→Value→Sem Value} {f:Int→Int→V} {g:Int→Int→D} {c c':Int→Int→Prop} [∀i j,Decidable (c' i j)] (h:OpR X o (rI c f)) (hc:∀i j,c' i j→c i j) (hg:∀m H i j,DV X.K m H (g i j) (f i j)):Bn X o (intD g c'):=by
 refine ⟨_,h,fun m H h E x y v u Q hr rx ry q=>?_⟩;unfold intD at q;split at q
 ·simp only [DV] at rx ry;subst rx ry;split at q
  ·rename_i hc';exact ⟨_,_,rfl,rfl,hc _ _ hc',A8 hr q (hg _ _ _ _)⟩
  ·exact q.elim
 ·exact q.elim
def F7 (f:Int→Int→D):D→D→HD→Out D
 |.int i,.int j,h=>.ok (f i j) h
 |_,_,_=>.stuck
theorem J0 {o:Value→Value→Sem Value} {f:Int→Int→V} {g:Int→Int→D} (h:OpR X o (Fs f)) (hg:∀m H i j,DV X.K m H (g i j) (f i j)):Bn X o (F7 g):=by
 refine ⟨_,h,fun m H h E x y v u Q hr rx ry q=>?_⟩;unfold F7 at q;split at q
 ·simp only [DV] at rx ry;subst rx ry;exact ⟨_,_,rfl,rfl,A8 hr q (hg _ _ _ _)⟩
 ·exact q.elim
abbrev EN:=F7 fun i j=>.bl (decide (i<j))
abbrev F8:=F7 fun i j=>.bl (decide (i≤j))
abbrev Pn:=F7 fun i j=>.bl (decide (j<i))
abbrev Ml:=F7 fun i j=>.bl (decide (j≤i))
theorem HX:Bn X (compareOp .Lt) EN:=J0 VN fun _ _ _ _=>by simp [DV]
theorem Mm:Bn X (compareOp .LtE) F8:=J0 VO fun _ _ _ _=>by simp [DV]
theorem Xh:Bn X (compareOp .Gt) Pn:=J0 VP fun _ _ _ _=>by simp [DV]
theorem Xi:Bn X (compareOp .GtE) Ml:=J0 VQ fun _ _ _ _=>by simp [DV]
instance (i j:Int):Decidable (CMul i j):=by unfold CMul;infer_instance
instance (i j:Int):Decidable (OE i j):=by unfold OE;infer_instance
instance (i j:Int):Decidable (JJ i j):=by unfold JJ;infer_instance
abbrev DS:=intD (fun i j=>.int (i % j)) fun _ j=>0<j
theorem Xj:Bn X (binaryOp .Mod) DS:=Mk VH (fun _ _ h=>h) fun _ _ _ _=>by simp [DV]
abbrev HY:=intD (fun i j=>.int (i^j.toNat)) JJ
theorem Xk:Bn X (binaryOp .Pow) HY:=Mk VI (fun _ _ h=>h) fun _ _ _ _=>by simp [DV]
def Po:D→Bool
 |.non=>true
 |_=>false
def Xl:D→D→HD→Out D
 |.bl b,.bl c,h=>.ok (.bl (b==c)) h
 |x,.non,h=>.ok (.bl (Po x)) h
 |_,_,_=>.stuck
def Xm:D→D→HD→Out D
 |.bl b,.bl c,h=>.ok (.bl (!(b==c))) h
 |x,.non,h=>.ok (.bl (!Po x)) h
 |_,_,_=>.stuck
end
def Az {α:Type}:List (Option α)→Option (List α)
 |[]=>some []
 |none::_=>none
 |some a::r=>(Az r).map (a::·)
def Bs (h:HD):Nat→D→Option PyData
 |_,.non=>some .none
 |_,.bl b=>some (.bool b)
 |_,.int i=>some (.int i)
 |_,.str x=>some (.str x)
 |n+1,.tup ds=>(Az (ds.map (Bs h n))).map .tuple
 |n+1,.loc l=>match h[l]? with
  |some (.lst ds)=>(Az (ds.map (Bs h n))).map .list
  |_=>none
 |_,_=>none
section
variable {X:Cx} {E:XK} {pins:List (Addr×Obj)} {σ:L2.St} {H:Hp} {s:Shared} {m:List Addr} {h:HD}
theorem Mo {n:Nat} (ih:∀(d:D) (v:V) (u:Value) (p:PyData),DV X.K m H d v→RelV v u→Bs h n d=some p→∃as,Reads s.heap u p as):
 ∀(ds:List D) (vs:List V) (us:List Value) (ps:List PyData),DVs X.K m H ds vs→Vals vs us→Az (ds.map (Bs h n))=some ps→∃as,ReadsAll s.heap us ps as
 |[],vs,us,ps,r,q,e=>by simp only [DVs] at r;subst r;cases q;simp [Az] at e;subst e;exact ⟨[],.nil⟩
 |d::ds,vs,us,ps,r,q,e=>by
  simp only [DVs] at r;obtain ⟨v,w,rfl,rv,rw'⟩:=r;cases q with
  |cons q1 q2=>
   rw [AZ] at e;cases ed:Bs h n d with
   |none=>rw [ed] at e;simp [Az] at e
   |some p=>rw [ed] at e;simp only [Az,qaM] at e;obtain ⟨ps',e1,rfl⟩:=e;obtain ⟨as,h1⟩:=ih d v _ p rv q1 ed;obtain ⟨bs,h2⟩:=Mo ih ds w _ ps' rw' q2 e1;exact ⟨as++bs,.cons h1 h2⟩
theorem Pp (hok:HOk X.prog X.w H s.heap∧X.K.In s.heap) (hr:HR X.K m h H):∀(n:Nat) (d:D) (v:V) (u:Value) (p:PyData),DV X.K m H d v→RelV v u→Bs h n d=some p→∃as,Reads s.heap u p as:=by
 intro n
 induction n with
 |zero=>
  intro d v u p r q e;cases d<;>simp only [Bs,DV,Option.some.injEq] at e r<;>try (cases e;done)
  ·subst e r;cases q;exact ⟨[],.none⟩
  ·subst e r;cases q;exact ⟨[],.bool _⟩
  ·subst e r;obtain ⟨t,rfl⟩:=q;exact ⟨[],.int _ _⟩
  ·subst e r;obtain ⟨t,rfl⟩:=q;exact ⟨[],.str _ _⟩
 |succ n ih=>
  intro d v u p r q e;cases d with
  |non=>simp only [Bs,DV,Option.some.injEq] at e r;subst e r;cases q;exact ⟨[],.none⟩
  |bl b=>simp only [Bs,DV,Option.some.injEq] at e r;subst e r;cases q;exact ⟨[],.bool _⟩
  |int i=>simp only [Bs,DV,Option.some.injEq] at e r;subst e r;obtain ⟨t,rfl⟩:=q;exact ⟨[],.int _ _⟩
  |str x=>simp only [Bs,DV,Option.some.injEq] at e r;subst e r;obtain ⟨t,rfl⟩:=q;exact ⟨[],.str _ _⟩
  |tup ds=>simp only [Bs,DV,qaM] at e r;obtain ⟨a,vs,rfl,ha,dv⟩:=r;obtain ⟨ps,e1,rfl⟩:=e;cases q;obtain ⟨_,its,rv,⟨o,ho,hc,k,hd⟩,_⟩:=tok hok ha;obtain ⟨as,h1⟩:=Mo ih ds vs its ps dv rv e1;exact ⟨as,.tuple ho hc hd (by simpa using h1)⟩
  |loc l=>
   simp only [DV] at r;obtain ⟨a,rfl,ha⟩:=r;cases q;simp only [Bs] at e;split at e
   ·rename_i ds el;simp only [qaM] at e;obtain ⟨ps,e1,rfl⟩:=e;obtain ⟨vs,hv,dv⟩:=hr.cells l _ a el ha;obtain ⟨_,its,k,rv,ho⟩:=hok.1 a _ hv;obtain ⟨as,h1⟩:=Mo ih ds vs its ps dv rv e1;exact ⟨_,.list ho rfl rfl (by simpa using h1)⟩
   ·cases e
  |scr ns=>simp [Bs] at e
  |adr a=>simp [Bs] at e
  |ty a=>simp [Bs] at e
  |exc n fs=>simp [Bs] at e
  |edic=>simp [Bs] at e
  |glo n=>simp [Bs] at e
  |clo a vs ds=>simp [Bs] at e
def F9 (f:PyData→PyData→Bool):D→D→HD→Out D:=fun x y h=>match Bs h 8 x,Bs h 8 y with
 |some p,some q=>if SeqAt.shaped p=true∧SeqAt.shaped q=true then .ok (.bl (f p q)) h else .stuck
 |_,_=>.stuck
abbrev Ga:=F9 PyData.eqv
abbrev Fz:=F9 fun p q=>!PyData.eqv p q
theorem Pq {o:CmpOp} {f:PyData→PyData→Bool} 
 (rule:∀{s:Shared} {a b:Value} {p q:PyData} {as bs:List Addr} {Q:Value→Shared→Prop},Reads s.heap a p as→Reads s.heap b q bs→SeqAt.shaped p=true→SeqAt.shaped q=true→Q (.bool (f p q)) s→wpAny (model X.prog X.w) X.A (compareOp o a b) Q X.xe s):
 Bn X (compareOp o) (F9 f):=by
 refine ⟨fun v u H Q=>∃m h x y,HR X.K m h H∧DV X.K m H x v∧DV X.K m H y u∧Post X.K (rD X.K) m H E0 Q (F9 f x y h),?_,fun m H h E x y v u Q hr rx ry q=>⟨m,h,x,y,hr,rx,ry,?_⟩⟩
 ·intro pins s σ H x y v u Q I rx ry hq;obtain ⟨m,h,dx,dy,hr,r1,r2,q⟩:=hq;unfold F9 at q;split at q
  ·rename_i p p' e1 e2;split at q
   ·rename_i hs;obtain ⟨as,h1⟩:=Pp ⟨I.hok,I.kIn⟩ hr 8 dx x v p r1 rx e1;obtain ⟨bs,h2⟩:=Pp ⟨I.hok,I.kIn⟩ hr 8 dy y u p' r2 ry e2;exact rule h1 h2 hs.1 hs.2 ⟨.bl _,H,I,rfl,A8 hr q (by simp [DV])⟩
   ·exact q.elim
  ·exact q.elim
 ·unfold F9 at q ⊢;split
  ·split
   ·rename_i e1 e2 hs;rw [e1,e2] at q;simp only [hs] at q;exact q
   ·rename_i e1 e2 hs;rw [e1,e2] at q;simp only [hs] at q;exact q.elim
  ·rename_i hn;split at q
   ·rename_i e1 e2;exact (hn _ _ e1 e2).elim
   ·exact q.elim
theorem Xn (hu:X.A.units+64<cLine):Bn X (compareOp .Eq) Ga:=Pq fun ra rb ha hb h=>eq_dataH ra rb ha hb hu h
theorem Xo (hu:X.A.units+64<cLine):Bn X (compareOp .NotEq) Fz:=Pq fun ra rb ha hb h=>ne_dataH ra rb ha hb hu h
def Cj:D→Option V
 |.non=>some .non
 |.bl b=>some (.bl b)
 |.int i=>some (.int i)
 |.str x=>some (.str x)
 |_=>none
theorem J1 (r:DV X.K m H d v) (e:Cj d=some w):v=w∧DB v=true:=by cases d<;>simp only [Cj,Option.some.injEq,DV] at e r<;>first |(subst e r;exact ⟨rfl,rfl⟩) |cases e
theorem J2:∀{ds:List D} {vs ws:List V},DVs X.K m H ds vs→Az (ds.map Cj)=some ws→vs=ws∧vs.all DB=true
 |[],vs,ws,r,e=>by simp only [DVs] at r;simp [Az] at e;subst r e;exact ⟨rfl,rfl⟩
 |d::ds,vs,ws,r,e=>by
  simp only [DVs] at r;obtain ⟨v,w,rfl,rv,rw'⟩:=r;rw [AZ] at e;cases ed:Cj d with
  |none=>rw [ed] at e;simp [Az] at e
  |some p=>rw [ed] at e;simp only [Az,qaM] at e;obtain ⟨ps',e1,rfl⟩:=e;obtain ⟨h1,h2⟩:=J1 rv ed;obtain ⟨h3,h4⟩:=J2 rw' e1;subst h1 h3;exact ⟨rfl,by simp [h2,h4]⟩
def Bx:D→HD→Option (List D)
 |.tup ds,_=>some ds
 |.loc l,h=>match h[l]? with
  |some (.lst ds)=>some ds
  |_=>none
 |.scr ns,_=>some (ns.map .int)
 |_,_=>none
theorem Pr {ns:List Int}:DVs X.K m H (ns.map .int) (ns.map V.int):=by
 induction ns with
 |nil=>exact .nil
 |cons n ns ih=>exact .cons (by simp [DV]) ih
theorem HZ (hr:HR X.K m h H) (r:DV X.K m H d v) (e:Bx d h=some ds):∃p vs,v=.ref p∧(SqL X.K H p vs∨SqT X.K H p vs)∧DVs X.K m H ds vs:=by
 cases d with
 |tup xs=>simp only [DV,Bx,Option.some.injEq] at r e;subst e;obtain ⟨a,vs,rfl,ha,dv⟩:=r;exact ⟨a,vs,rfl,.inr (tq ha),dv⟩
 |loc l=>
  simp only [DV] at r;obtain ⟨a,rfl,ha⟩:=r;simp only [Bx] at e;split at e
  ·rename_i xs el;cases e;obtain ⟨vs,hv,dv⟩:=hr.cells l _ a el ha;exact ⟨a,vs,rfl,.inl (SqL.of hv),dv⟩
  ·cases e
 |scr ns=>simp only [DV,Bx,Option.some.injEq] at r e;subst e;obtain ⟨a,rfl,ha⟩:=r;exact ⟨a,_,rfl,.inl ha.sq,Pr⟩
 |_=>simp [Bx] at e
def Eb (neg:Bool):D→D→HD→Out D:=fun x y h=>match Bx y h with
 |none=>.stuck
 |some ds=>match Cj x,Az (ds.map Cj) with
  |some v,some vs=>.ok (.bl (if neg then !GM v vs else GM v vs)) h
  |_,_=>.stuck
theorem Xp {neg:Bool}:∀m H h E x y v u Q,HR X.K m h H→DV X.K m H x v→DV X.K m H y u→Post X.K (rD X.K) m H E Q (Eb neg x y h)→O0 X.K neg v u H Q:=fun m H h E x y v u Q hr rx ry q=>by
 unfold Eb at q;split at q
 ·exact q.elim
 ·rename_i ds e;split at q
  ·rename_i w ws e1 e2;obtain ⟨p,vs,rfl,hs,dv⟩:=HZ hr ry e;obtain ⟨h1,h2⟩:=J1 rx e1;obtain ⟨h3,h4⟩:=J2 dv e2;subst h1 h3;exact ⟨p,vs,rfl,hs,h2,h4,A8 hr q (by simp [DV])⟩
  ·exact q.elim
theorem Xq:Bn X (compareOp .In) (Eb false):=⟨_,WB,Xp⟩
def Ao:D→D→HD→Out D:=fun x y h=>match Bx x h,y with
 |some ds,.int i=>match CT ds i with
  |some d=>.ok d h
  |none=>.stuck
 |_,_=>.stuck
theorem Xr {i:Int} (r:DVs X.K m H ds vs) (e:CT ds i=some d):∃v,CT vs i=some v∧DV X.K m H d v:=by
 unfold CT at e ⊢;rw [r.len] at e;cases k:DA vs.length i with
 |none=>rw [k] at e;cases e
 |some j=>rw [k] at e;exact r.get e
theorem Xs (ha:Ev X E a f) (hb:Ev X E b g) (hs:OZ b):Ev X E (.Subscript a b pos) (Ae Ao f g):=
 BI (Wq (ix_list.or ix_tup) ha hb hs) fun σ H Q hq=>JU hq fun m H2 h2 x y v u hr rx ry q=>by
  unfold Ao at q;split at q
  ·rename_i ds i e;split at q
   ·rename_i d ed;simp only [DV] at ry;subst ry;obtain ⟨p,vs,rfl,hsq,dv⟩:=HZ hr rx e;obtain ⟨w,e1,r1⟩:=Xr dv ed;rcases hsq with hsq |hsq
    ·exact .inl ⟨p,vs,i,w,rfl,rfl,hsq,e1,A8 hr q r1⟩
    ·exact .inr ⟨p,vs,i,w,rfl,rfl,hsq,e1,A8 hr q r1⟩
   ·exact q.elim
  ·exact q.elim
def AO:D→HD→Out D:=fun x h=>match Bx x h with
 |some ds=>.ok (.int ds.length) h
 |none=>.stuck
theorem EO {F:D→HD→Out D} {C:Prop} (r:DVs X.K m H ds vs) (q:Post X.K (rD X.K) m H E Q (An F ds h)) (k:∀d v,vs=[v]→DV X.K m H d v→Post X.K (rD X.K) m H E Q (F d h)→C):C:=by
 unfold An at q;split at q
 ·simp only [DVs] at r;obtain ⟨v,w,rfl,rv,rfl⟩:=r;exact k _ v rfl rv q
 ·exact q.elim
theorem J3 {F:D→D→HD→Out D} {C:Prop} (r:DVs X.K m H ds vs) (q:Post X.K (rD X.K) m H E Q (A4 F ds h)) (k:∀d d' v v',vs=[v,v']→DV X.K m H d v→DV X.K m H d' v'→Post X.K (rD X.K) m H E Q (F d d' h)→C):C:=by
 unfold A4 at q;split at q
 ·simp only [DVs] at r;obtain ⟨v,w,rfl,rv,v',w',rfl,rv',rfl⟩:=r;exact k _ _ v v' rfl rv rv' q
 ·exact q.elim
theorem Xu:Cr X (.builtin "len") (An AO):=by
 refine ⟨_,WC,fun m H h E ds vs Q hr r q=>EO r q fun d v ev rv q=>?_⟩;unfold AO at q;split at q
 ·rename_i xs e;obtain ⟨p,ws,rfl,hs,dv⟩:=HZ hr rv e;exact ⟨p,ws,ev,hs,by rw [←dv.len];exact A8 hr q (by simp [DV])⟩
 ·exact q.elim
def CDv (i j:Int):Prop:=0<j∧j<18446744073709551616
instance (i j:Int):Decidable (CDv i j):=by unfold CDv;infer_instance
theorem CDv.no {i j:Int} (h:CDv i j):Builtin.divisionGoesByPylong i j=false:=by
 refine PyProof.noPylong_of_log2 ?_;have h0:j.natAbs≠0:=by have:=h.1;omega
 have h1:j.natAbs<2^64:=by have:=h.2;have:=h.1;omega
 exact Nat.lt_trans ((Nat.log2_lt h0).mpr h1) (by decide)
theorem Xv:CF X (.builtin "divmod") (fun xs H Q=>∃i j,xs=[.int i,.int j]∧CDv i j∧∀p,H p=none→Q (.ref p) (Aq H p (.tup [.int (i / j),.int (i % j)]))):=by intro pins s σ H xs us Q I r h;obtain ⟨i,j,rfl,hc,q⟩:=h;obtain ⟨u,w',rfl,⟨t,rfl⟩,⟨t',rfl⟩⟩:=HN r;have h1:=hc.1;refine divmod_int (by omega) ?_ (.inl hc.no);rw [Int.fdiv_eq_ediv_of_nonneg i (by omega),Int.fmod_eq_emod_of_nonneg i (by omega)];have hn:H s.heap.objs.size=none:=I.hok.fresh (Ax _);refine ⟨.ref s.heap.objs.size,_,?_,rfl,q _ hn⟩;refine I.laid (fun b o e=>Aw _ e) (Ax _) ⟨by simp only [DN,Jw];rw [sizeLine_eq];decide,[.int (i / j) s.toks,.int (i % j) (s.toks+1)],.cons ⟨_,rfl⟩ (.cons ⟨_,rfl⟩ .nil),?_,NoDict.new⟩;exact ⟨_,Bc s.heap rfl,rfl,0,rfl⟩
def H0:D→D→HD→Out D
 |.int i,.int j,h=>if CDv i j then .ok (.tup [.int (i / j),.int (i % j)]) h else .stuck
 |_,_,_=>.stuck
theorem Xw:Cr X (.builtin "divmod") (A4 H0):=by
 refine ⟨_,Xv,fun m H h E ds vs Q hr r q=>J3 r q fun d d' v v' ev rv rv' q=>?_⟩;unfold H0 at q;split at q
 ·split at q
  ·rename_i i j hc;simp only [DV] at rv rv';subst rv rv';exact ⟨i,j,ev,hc,F6 hr (.cons (by simp [DV]) (.cons (by simp [DV]) .nil)) q⟩
  ·exact q.elim
 ·exact q.elim
theorem Xx:OpR X (binaryOp .FloorDiv) (rI CDv fun i j=>.int (i / j)):=JH fun i j _ _ _ _ _ hc q=>by have h1:=hc.1;exact floordiv_int (by omega) (by rw [Int.fdiv_eq_ediv_of_nonneg i (by omega)];exact q) (.inl hc.no)
abbrev J4:=intD (fun i j=>.int (i / j)) CDv
theorem Xy:Bn X (binaryOp .FloorDiv) J4:=Mk Xx (fun _ _ h=>h) fun _ _ _ _=>by simp [DV]
def Ia:D→D→HD→Out D
 |.int i,.int j,h=>.ok (.int (if j>i then j else i)) h
 |_,_,_=>.stuck
def Ib:D→D→HD→Out D
 |.int i,.int j,h=>.ok (.int (if j<i then j else i)) h
 |_,_,_=>.stuck
theorem Xz (hc:X.calm=true):Cr X (.builtin "max") (A4 Ia):=by
 refine ⟨_,VY hc,fun m H h E ds vs Q hr r q=>J3 r q fun d d' v v' ev rv rv' q=>?_⟩;unfold Ia at q;split at q
 ·simp only [DV] at rv rv';subst rv rv';exact ⟨_,_,ev,A8 hr q (by simp [DV])⟩
 ·exact q.elim
theorem XA (hc:X.calm=true):Cr X (.builtin "min") (A4 Ib):=by
 refine ⟨_,VZ hc,fun m H h E ds vs Q hr r q=>J3 r q fun d d' v v' ev rv rv' q=>?_⟩;unfold Ib at q;split at q
 ·simp only [DV] at rv rv';subst rv rv';exact ⟨_,_,ev,A8 hr q (by simp [DV])⟩
 ·exact q.elim
def Ic:D→HD→Out D
 |.int i,h=>.ok (.int i) h
 |.bl b,h=>.ok (.int (if b then 1 else 0)) h
 |_,_=>.stuck
theorem XB:Cr X (.type "int") (An Ic):=by
 refine ⟨_,V0,fun m H h E ds vs Q hr r q=>EO r q fun d v ev rv q=>?_⟩;unfold Ic at q;split at q
 ·simp only [DV] at rv;subst rv;exact .inl ⟨_,ev,A8 hr q (by simp [DV])⟩
 ·simp only [DV] at rv;subst rv;exact .inr ⟨_,ev,A8 hr q (by simp [DV])⟩
 ·exact q.elim
def CW:D→HD→Out D:=fun x h=>match x with
 |.tup ds=>.ok (.tup ds) h
 |.loc l=>match h[l]? with
  |some (.lst ds)=>.ok (.tup ds) h
  |_=>.stuck
 |_=>.stuck
theorem XC:Cr X (.type "tuple") (An CW):=by
 refine ⟨_,WE,fun m H h E ds vs Q hr r q=>EO r q fun d v ev rv q=>?_⟩;unfold CW at q;split at q
 ·simp only [DV] at rv;obtain ⟨a,ws,rfl,ha,dv⟩:=rv;exact ⟨a,ws,ev,.inr ⟨tq ha,A8 hr q (by simp only [DV];exact ⟨a,ws,rfl,ha,dv⟩)⟩⟩
 ·split at q
  ·rename_i ds' el;simp only [DV] at rv;obtain ⟨a,rfl,ha⟩:=rv;obtain ⟨ws,hv,dv⟩:=hr.cells _ _ a el ha;exact ⟨a,ws,ev,.inl ⟨SqL.of hv,F6 hr dv q⟩⟩
  ·exact q.elim
 ·exact q.elim
end
theorem PostS.bind {α β:Type} {K:PySem.W.Frag} {R:List Addr→Hp→α→β→Prop} {Q':β→Hp→Prop} {Dn:Dz} {o:Out α} {k:α→HD→Out (Fl×Ag)} 
 (h:PostS K m H E Dn (o.bind k)) (f:∀a h1 v m1 H1,o=.ok a h1→m <+:m1→Kp H H1→HR K m1 h1 H1→R m1 H1 a v→PostS K m1 H1 E Dn (k a h1)→Q' v H1):Post K R m H E Q' o:=by
 cases o with
 |ok a h1=>exact fun v m1 H1 p kk hr r=>f a h1 v m1 H1 rfl p kk hr r (h.ahead p kk)
 |err C fs h1=>exact h
 |stuck=>exact h
theorem PostS.here {K:PySem.W.Frag} {Dn:Dz} {a:Fl×Ag} (hr:HR K m h H) (p:PostS K m H E Dn (.ok a h)):Pc K m H Dn a:=p m H (Ay _) (.refl _) hr
section
variable {X:Cx} {E:XK} {st:Stmt} {sts b1 b2:List Stmt} {g g1 g2:MS} {e:Expr} {f:ME} {pos:Pos} {t:MT}
def Bd:MS:=fun ρ h=>.ok (.nx,ρ) h
def Ai (g1 g2:MS):MS:=fun ρ h=>(g1 ρ h).bind fun x h1=>match x with
 |(.nx,ρ1)=>g2 ρ1 h1
 |y=>.ok y h1
theorem XE:CH X E [] Bd:=Mh Vd fun Dn σ H z1_=>by obtain ⟨m,ρ,h,hr,er,p⟩:=z1_;exact ((p.here hr) σ er)
theorem J5 (h:Ex X E st g):CH X E [st] g:=Vf h
theorem J6 (h1:Ex X E st g1) (h2:CH X E sts g2):CH X E (st::sts) (Ai g1 g2):=
 Mh (Ve h1 h2) fun Dn σ H z2_=>by
  obtain ⟨m,ρ,h,hr,er,p⟩:=z2_;refine ⟨m,ρ,h,hr,er,?_⟩;unfold Ai at p;cases o:g1 ρ h with
  |stuck=>rw [o] at p;exact p
  |err C fs h1=>rw [o] at p;exact p
  |ok x h1=>
   rw [o] at p;obtain ⟨fl,ρ1⟩:=x;intro m1 H1 p1 k1 hr1;cases fl with
   |nx=>exact fun σ1 er1=>⟨m1,ρ1,h1,hr1,er1,PostS.ahead p1 k1 p⟩
   |bk=>exact p m1 H1 p1 k1 hr1
   |ct=>exact p m1 H1 p1 k1 hr1
   |rt d=>exact p m1 H1 p1 k1 hr1
def Cs (f:ME):MS:=fun ρ h=>(f ρ h).bind fun _ h1=>.ok (.nx,ρ) h1
theorem XF (he:Ev X E e f) (hs:swapsWith e none pos.line X.env=pure false:=by rfl):Ex X E (.Expr e pos) (Cs f):=
 EK (Vh he hs) fun Dn σ H z3_=>by obtain ⟨m,ρ,h,hr,er,p⟩:=z3_;exact (⟨m,ρ,h,hr,er,PostS.bind p fun x h1 v m1 H1 _ p1 k1 hr1 r1 q1=>(q1.here hr1) σ (er.keep p1 k1)⟩)
def AE (f:ME):MS:=fun ρ h=>(f ρ h).bind fun d h1=>.ok (.rt d,ρ) h1
theorem Pt (he:Ev X E e f):Ex X E (.Return (some e) pos) (AE f):=
 EK (Vj he) fun Dn σ H z4_=>by obtain ⟨m,ρ,h,hr,er,p⟩:=z4_;exact (⟨m,ρ,h,hr,er,PostS.bind p fun x h1 v m1 H1 _ p1 k1 hr1 r1 q1=>(q1.here hr1) v r1⟩)
def A5 (t:MT) (g1 g2:MS):MS:=fun ρ h=>(t ρ h).bind fun b h1=>if b=true then g1 ρ h1 else g2 ρ h1
theorem XG (hc:CV X E c t) (ha:CH X E b1 g1) (hb:CH X E b2 g2):Ex X E (.If c b1 b2 pos) (A5 t g1 g2):=
 EK (Vl hc ha hb) fun Dn σ H z5_=>by obtain ⟨m,ρ,h,hr,er,p⟩:=z5_;exact (⟨m,ρ,h,hr,er,PostS.bind p fun x h1 v m1 H1 _ p1 k1 hr1 r1 q1=>by
  cases r1;cases x with
  |true=>exact ⟨m1,ρ,h1,hr1,er.keep p1 k1,q1⟩
  |false=>exact ⟨m1,ρ,h1,hr1,er.keep p1 k1,q1⟩⟩)
def Pv:MS:=fun _ _=>.stuck
theorem XH:CH X E sts Pv:=Mh Vn fun Dn σ H z7_=>by obtain ⟨m,ρ,h,hr,er,p⟩:=z7_;exact (p)
def As (i:Nat) (f:ME):MS:=fun ρ h=>(f ρ h).bind fun d h1=>.ok (.nx,ρ.set i (some d)) h1
theorem Mp {i:Nat} {x:Str} (hN:X.N.Nodup) (hi:X.N[i]?=some x) (hx:F0 X.env.scope x) (he:Ev X E e f) (hs:swapsWith e (some (.Name x pos')) pos.line X.env=pure false:=by rfl) (hf:X.fn x=true∨X.env.scope.names.lookup x=some .local:=by first |exact .inl rfl |exact .inr rfl |assumption):
 Ex X E (.Assign [.Name x pos'] e pos) (As i f):=
 EK (Vq hN hi hx he hs hf) fun Dn σ H z9_=>by obtain ⟨m,ρ,h,hr,er,p⟩:=z9_;exact (⟨m,ρ,h,hr,er,PostS.bind p fun x h1 v m1 H1 _ p1 k1 hr1 r1 q1=>(q1.here hr1) _ ((er.keep p1 k1).set r1)⟩)
def Gb (i j:Nat) (fa:MA):MS:=fun ρ h=>(fa ρ h).bind fun ds h1=>match ds with
 |[x,y]=>.ok (.nx,(ρ.set i (some x)).set j (some y)) h1
 |_=>.stuck
theorem XI {i j:Nat} {x y:Str} {a b:Expr} {px py pt:Pos} {kt k2:Nat} (hc:X.calm=true) (hN:X.N.Nodup) (hi:X.N[i]?=some x) (hj:X.N[j]?=some y) (hij:i≠j)
 (hx:X.env.scope.names.lookup x=some .local) (hy:X.env.scope.names.lookup y=some .local) (ha:CG X E [a,b] fa)
 (hw:swappedStores [.Tuple [.Name x px,.Name y py] kt pt] (.Tuple [a,b] k2 pt2) X.env=pure (some [x,y]))
 (hs:swapsWithSole [.Tuple [.Name x px,.Name y py] kt pt] (.Tuple [a,b] k2 pt2) pos.line X.env=pure false:=by rfl):
 Ex X E (.Assign [.Tuple [.Name x px,.Name y py] kt pt] (.Tuple [a,b] k2 pt2) pos) (Gb i j fa):=
 EK (Vs hc hN hi hj hij hx hy ha hw hs) fun Dn σ H z10_=>by obtain ⟨m,ρ,h,hr,er,p⟩:=z10_;exact (⟨m,ρ,h,hr,er,PostS.bind p fun x h1 v m1 H1 _ p1 k1 hr1 r1 q1=>by
  split at q1
  ·simp only [Fw,DVs] at r1;obtain ⟨v,w,rfl,rv,v',w',rfl,rv',rfl⟩:=r1;exact ⟨v,v',rfl,(q1.here hr1) _ (((er.keep p1 k1).set rv).set rv')⟩
  ·exact q1.elim⟩)
abbrev MG:=D→Ag→Option Ag
def FA (X:Cx) (tg:Expr) (sg:MG):Prop:=
 ∃gg:TG,PG X tg gg∧∀m H d v ρ σ ρ' Q,DV X.K m H d v→ER X.K m H ρ σ→sg d ρ=some ρ'→(∀σ',ER X.K m H ρ' σ'→Q σ' H)→gg v σ H Q
def AQ (i:Nat):MG:=fun d ρ=>some (ρ.set i (some d))
def ES (i j:Nat):MG:=fun d ρ=>match d with
 |.tup [x,y]=>some ((ρ.set i (some x)).set j (some y))
 |_=>none
theorem XJ {i:Nat} (h:PG X (.Name x pos) (CS i)):FA X (.Name x pos) (AQ i):=⟨_,h,fun m H d v ρ σ ρ' Q r er e q=>by simp only [AQ,Option.some.injEq] at e;subst e;exact q _ (er.set r)⟩
theorem XM {i j:Nat} {x y:Str} {px py:Pos} {kt:Nat} (h:PG X (.Tuple [.Name x px,.Name y py] kt pos) (HI X.K 2 (Fo (CS i) (Fo (CS j) HH)))):FA X (.Tuple [.Name x px,.Name y py] kt pos) (ES i j):=⟨_,h,fun m H d v ρ σ ρ' Q r er e q=>by
 unfold ES at e;split at e
 ·rename_i a b;cases e;simp only [DV,DVs] at r;obtain ⟨p,vs,rfl,hp,v1,w1,rfl,r1,v2,w2,rfl,r2,rfl⟩:=r;exact ⟨p,_,rfl,tq hp,rfl,v1,_,rfl,v2,_,rfl,rfl,q _ ((er.set r1).set r2)⟩
 ·cases e⟩
def EU (sg:MG) (f:ME):MS:=fun ρ h=>(f ρ h).bind fun d h1=>match sg d ρ with
 |some ρ1=>.ok (.nx,ρ1) h1
 |none=>.stuck
theorem XN {tg:Expr} {sg:MG} (he:Ev X E e f) (hg:FA X tg sg) (hs:swapsWithSole [tg] e pos.line X.env=pure false:=by rfl) (hw:swappedStores [tg] e X.env=pure none:=by rfl)
 (h1:(assignEach [tg] X.env).map (·.2)=[assign tg X.env]:=by rfl):Ex X E (.Assign [tg] e pos) (EU sg f):=by
 obtain ⟨gg,hg,i⟩:=hg;exact EK (OB he hg hs hw h1) fun Dn σ H z11_=>by obtain ⟨m,ρ,h,hr,er,p⟩:=z11_;exact (⟨m,ρ,h,hr,er,PostS.bind p fun x h1 v m1 H1 _ p1 k1 hr1 r1 q1=>by
  split at q1
  ·rename_i ρ1 es;exact i m1 H1 x v ρ σ ρ1 _ r1 (er.keep p1 k1) es fun σ' er'=>(q1.here hr1) σ' er'
  ·exact q1.elim⟩)
abbrev A3:=List (Nat×List D)
def BC (src:A3) (items:List D) (h:HD):Prop:=∀p∈src,h[p.1]?=some (.lst p.2)
theorem Dk:BC [] items h:=fun p z=>nomatch z
theorem Dl {l:Nat} (e:h[l]?=some (.lst ds)):BC [(l,ds)] items h:=fun p z=>by rw [qaJ] at z;subst z;exact e
def Gc (K:PySem.W.Frag):List Addr→Hp→(List D×A3)→It→Prop:=fun m1 H1 x J=>
 ∀i m2 h2 H2,m1 <+:m2→Kp H1 H2→HR K m2 h2 H2→BC x.2 x.1 h2→
  (i<x.1.length→J.go i H2∧∀y H3,J.yld i H2 y H3→Kp H2 H3∧HR K m2 h2 H3∧∃d,x.1[i]?=some d∧DV K m2 H3 d y)∧(i=x.1.length→J.stop i H2)
abbrev MI:=Ag→HD→Out (List D×A3)
abbrev DT (X:Cx) (E:XK) (tg iter:Expr) (it:MI):Prop:=PI X tg iter (tM X.K (Gc X.K) E it)
theorem J7 {w w':TI} (h:PI X tg iter w) (i:∀σ H R,w' σ H R→w σ H R):PI X tg iter w':=fun pins s σ H R I q=>h pins s σ H R I (i σ H R q)
theorem XO {tl:TE} (hl:PE X l tl):PI X tg l (fun σ H R=>tl σ H fun x H1=>∃a,x=.ref a∧(((∃xs,SqL X.K H1 a xs)∧R (HJ X.K a) H1)∨((∃xs,SqT X.K H1 a xs)∧R (HK X.K a) H1))):=by
 intro pins s σ H R I h;refine Au (hl pins s σ H _ I h) fun v s1 z12_=>?_;obtain ⟨x,H1,I1,r1,q1⟩:=z12_;obtain ⟨a,e,q⟩:=q1;subst e;cases r1;rcases q with ⟨⟨xs,hq⟩,q⟩ |⟨⟨xs,hq⟩,q⟩
 ·obtain ⟨its,rv,p,hz⟩:=I1.list hq;refine wpAny_pyIter_list p.isList ?_;refine ⟨s1.heap.objs.size,[s1.heap.objs.size],_,_,H1,rfl,I1.kept (t':=s1.toks) fun b o e=>Aw _ e,Vv a _,⟨_,Bc _ rfl,rfl,rfl⟩,fun b hb=>?_,q⟩;have e:b=s1.heap.objs.size:=by simpa using hb
  subst e;exact I1.fpOk (Ax _) (I1.hok.fresh (Ax _))
 ·obtain ⟨its,rv,p,hz⟩:=I1.tuple hq;refine wpAny_pyIter_tuple (show s1.heap.IsTuple a its.toArray from p) ?_;refine ⟨s1.heap.objs.size,[s1.heap.objs.size],_,_,H1,rfl,I1.kept (t':=s1.toks) fun b o e=>Aw _ e,Vw a _,⟨_,Bc _ rfl,rfl,rfl⟩,fun b hb=>?_,q⟩;have e:b=s1.heap.objs.size:=by simpa using hb
  subst e;exact I1.fpOk (Ax _) (I1.hok.fresh (Ax _))
def Pw:D→List D→A3
 |.loc l,ds=>[(l,ds)]
 |_,_=>[]
def GQ (d:D) (h:HD):Out (List D×A3):=match Bx d h with
 |some ds=>.ok (ds,Pw d ds) h
 |none=>.stuck
def BK (f:ME):MI:=fun ρ h=>(f ρ h).bind GQ
theorem Kp.lget {K:PySem.W.Frag} (k:Kp H H') (h:FzL K H a xs):SqL K H' a xs:=(k.fzL h).sq
theorem Px {K:PySem.W.Frag} {i:Nat} {items:List D} (hr:HR K m h H) (hs:SqL K H a vs) (dv:DVs K m H items vs) (uniq:∀ys,SqL K H a ys→ys=vs∨True):
 (i<items.length→(HJ K a).go i H∧∀y H3,(HJ K a).yld i H y H3→Kp H H3∧HR K m h H3∧∃d,items[i]?=some d∧DV K m H3 d y)∧(i=items.length→(HJ K a).stop i H):=by
 refine ⟨fun hi=>?_,fun hi=>⟨vs,hs,by rw [←dv.len];exact HF hi.symm⟩⟩;have hd:items[i]?=some items[i]:=AR hi;obtain ⟨v,e1,r1⟩:=dv.get hd;refine ⟨⟨vs,v,hs,e1⟩,fun y H3 z13_=>?_⟩;obtain ⟨e3,hy⟩:=z13_;subst e3;have:=hy vs hs;rw [e1] at this;cases this;exact ⟨.refl _,hr,_,hd,r1⟩
theorem XQ {K:PySem.W.Frag} {i:Nat} {items:List D} (hr:HR K m h H) (hs:SqT K H a vs) (dv:DVs K m H items vs):
 (i<items.length→(HK K a).go i H∧∀y H3,(HK K a).yld i H y H3→Kp H H3∧HR K m h H3∧∃d,items[i]?=some d∧DV K m H3 d y)∧(i=items.length→(HK K a).stop i H):=by
 refine ⟨fun hi=>?_,fun hi=>⟨vs,hs,by rw [←dv.len];exact HF hi.symm⟩⟩;have hd:items[i]?=some items[i]:=AR hi;obtain ⟨v,e1,r1⟩:=dv.get hd;refine ⟨⟨vs,v,hs,e1⟩,fun y H3 z14_=>?_⟩;obtain ⟨e3,hy⟩:=z14_;subst e3;have:=hy vs hs;rw [e1] at this;cases this;exact ⟨.refl _,hr,_,hd,r1⟩
theorem XR (ha:Ev X E a f):DT X E tg a (BK f):=
 J7 (XO ha) fun σ H R ⟨m,ρ,h,hr,er,p⟩=>⟨m,ρ,h,hr,er,Post.bind p fun x h1 v m1 H1 _ p1 k1 hr1 r1 q1=>by
  unfold GQ at q1;split at q1
  ·rename_i ds eds;cases x with
   |tup xs=>simp only [Bx,Option.some.injEq] at eds;subst eds;simp only [rD,DV] at r1;obtain ⟨a,vs,rfl,ha,dv⟩:=r1;refine ⟨a,rfl,.inr ⟨⟨vs,tq ha⟩,q1 _ m1 H1 (Ay _) (.refl _) hr1 fun i m2 h2 H2 p2 k2 hr2 _=>?_⟩⟩;exact XQ hr2 (tq (ha.keep k2)) (dv.keep p2 k2)
   |loc l=>
    simp only [rD,DV] at r1;obtain ⟨a,rfl,ha⟩:=r1;simp only [Bx] at eds;split at eds
    ·rename_i xs el;cases eds;obtain ⟨vs,hv,dv⟩:=hr1.cells l _ a el ha;refine ⟨a,rfl,.inl ⟨⟨vs,SqL.of hv⟩,q1 _ m1 H1 (Ay _) (.refl _) hr1 fun i m2 h2 H2 p2 k2 hr2 hs=>?_⟩⟩;obtain ⟨ws,hw,dw⟩:=hr2.cells l _ a (hs _ AK) (JQ p2 ha);exact Px hr2 (SqL.of hw) dw fun _ _=>.inr trivial
    ·cases eds
   |scr ns=>simp only [Bx,Option.some.injEq] at eds;subst eds;simp only [rD,DV] at r1;obtain ⟨a,rfl,ha⟩:=r1;refine ⟨a,rfl,.inl ⟨⟨_,ha.sq⟩,q1 _ m1 H1 (Ay _) (.refl _) hr1 fun i m2 h2 H2 p2 k2 hr2 _=>?_⟩⟩;exact Px hr2 (k2.lget ha) Pr fun _ _=>.inr trivial
   |_=>simp [Bx] at eds
  ·exact q1.elim⟩
def FB (lo:Int) (n:Nat):List D:=(List.range n).map fun k=>.int (lo+(k:Nat))
theorem Pz {K:PySem.W.Frag} (lo:Int) (n:Nat):Gc K m1 H1 (FB lo n,[]) (HL lo n):=fun i m2 h2 H2 p2 k2 hr2 _=>by
 refine ⟨fun hi=>?_,fun hi=>?_⟩
 ·have hi':i<n:=by simpa [FB] using hi
  refine ⟨hi',fun y H3 z16_=>?_⟩;obtain ⟨e3,ey⟩:=z16_;subst e3 ey;refine ⟨.refl _,hr2,.int (lo+i),?_,by simp [DV]⟩;simp [FB,Hz,hi']
 ·show n≤i
  have hi':i=n:=by simpa [FB] using hi
  omega
@[irreducible] noncomputable def GR:List D→HD→Out (List D×A3):=fun ds h=>match ds with
  |[.int j]=>@ite _ (-(2^62)≤j∧j<2^62) (Classical.propDecidable _) (.ok (FB 0 j.toNat,[]) h) .stuck
  |_=>.stuck
@[irreducible] noncomputable def GS:List D→HD→Out (List D×A3):=fun ds h=>match ds with
  |[.int i,.int j]=>@ite _ ((-(2^62)≤i∧i<2^62)∧-(2^62)≤j∧j<2^62) (Classical.propDecidable _) (.ok (FB i (j - i).toNat,[]) h) .stuck
  |_=>.stuck
noncomputable def B5 (fa:MA):MI:=fun ρ h=>(fa ρ h).bind GR
noncomputable def Ec (fa:MA):MI:=fun ρ h=>(fa ρ h).bind GS
theorem XS (hg:Gl X "range") (hm:X.mg "range"=none) (ha:CG X E [a] fa) (hs:starEach [a] X.env=[(false,eval a X.env)]:=by rfl):DT X E tg (.Call (.Name "range" p) [a] [] pos) (B5 fa):=
 J7 (VA hg hm ha hs) fun σ H R z17_=>by obtain ⟨m,ρ,h,hr,er,p⟩:=z17_;exact (⟨m,ρ,h,hr,er,Post.bind p fun x h1 v m1 H1 _ p1 k1 hr1 r1 q1=>by
  unfold GR at q1;split at q1
  ·split at q1
   ·rename_i hj;simp only [Fw,DVs,DV] at r1;obtain ⟨v,w,rfl,rfl,rfl⟩:=r1;exact ⟨_,rfl,hj.1,hj.2,q1 _ m1 H1 (Ay _) (.refl _) hr1 (Pz 0 _)⟩
   ·exact q1.elim
  ·exact q1.elim⟩)
theorem XT {tg a b:Expr} (hg:Gl X "range") (hm:X.mg "range"=none) (ha:CG X E [a,b] fa) (hs:starEach [a,b] X.env=[(false,eval a X.env),(false,eval b X.env)]:=by rfl) (hs2:starEach [b] X.env=[(false,eval b X.env)]:=by rfl):DT X E tg (.Call (.Name "range" p) [a,b] [] pos) (Ec fa):=
 J7 (VB hg hm ha hs hs2) fun σ H R z18_=>by obtain ⟨m,ρ,h,hr,er,p⟩:=z18_;exact (⟨m,ρ,h,hr,er,Post.bind p fun x h1 v m1 H1 _ p1 k1 hr1 r1 q1=>by
  unfold GS at q1;split at q1
  ·split at q1
   ·rename_i hj;simp only [Fw,DVs,DV] at r1;obtain ⟨v,w,rfl,rfl,v',w',rfl,rfl,rfl⟩:=r1;exact ⟨_,_,rfl,⟨hj.1.1,hj.1.2,hj.2.1,hj.2.2⟩,q1 _ m1 H1 (Ay _) (.refl _) hr1 (Pz _ _)⟩
   ·exact q1.elim
  ·exact q1.elim⟩)
open Classical in
noncomputable def Ed (src:A3) (items:List D) (sg:MG) (body:MS):List D→MS
 |[]=>fun ρ h=>if BC src items h then .ok (.nx,ρ) h else .stuck
 |d::ds=>fun ρ h=>if BC src items h then match sg d ρ with
   |none=>.stuck
   |some ρ1=>(body ρ1 h).bind fun x h2=>match x with
    |(.nx,ρ2)=>Ed src items sg body ds ρ2 h2
    |(.ct,ρ2)=>Ed src items sg body ds ρ2 h2
    |(.bk,ρ2)=>.ok (.nx,ρ2) h2
    |(.rt d,ρ2)=>.ok (.rt d,ρ2) h2
  else .stuck
noncomputable def BQ (it:MI) (sg:MG) (body:MS):MS:=fun ρ h=>(it ρ h).bind fun x h1=>Ed x.2 x.1 sg body x.1 ρ h1
inductive PB (K:PySem.W.Frag) (E:XK) (Dn:Dz) (src:A3) (items:List D) (sg:MG) (g:MS) (m1:List Addr) (H1:Hp) (i n:Nat) (σ2:L2.St) (H2:Hp):Prop where
 |mk (e:n=items.length - i) (l:i≤items.length) (m2:List Addr) (ρ2:Ag) (h2:HD) (p:m1 <+:m2) (k:Kp H1 H2) (hr:HR K m2 h2 H2) (er:ER K m2 H2 ρ2 σ2) (q:PostS K m2 H2 E Dn (Ed src items sg g (items.drop i) ρ2 h2)):PB K E Dn src items sg g m1 H1 i n σ2 H2
inductive PC (K:PySem.W.Frag) (E:XK) (Dn:Dz) (src:A3) (items:List D) (sg:MG) (g:MS) (m1:List Addr) (H1:Hp) (i:Nat) (σ2:L2.St) (H2:Hp):Prop where
 |mk (m2:List Addr) (ρ2:Ag) (h2:HD) (p:m1 <+:m2) (k:Kp H1 H2) (hr:HR K m2 h2 H2) (er:ER K m2 H2 ρ2 σ2) (q:PostS K m2 H2 E Dn (Ed src items sg g (items.drop i) ρ2 h2)):PC K E Dn src items sg g m1 H1 i σ2 H2
theorem XU {body:List Stmt} {it:MI} {sg:MG} (hp:PassesOwn (model X.prog X.w) X.A X.env X.xe) (hc:X.calm=true) (hi:DT X E tg iter it) (hg:FA X tg sg) (hb:CH X E body g)
 (hs:∀x,foldedSetIterable iter X.env x=pure x:=by intro _;rfl):Ex X E (.For tg iter body [] pos) (BQ it sg g):=by
 obtain ⟨gg,hg,ig⟩:=hg;refine EK (VD hp hc hi hg hb hs) ?_;rintro Dn σ H ⟨m,ρ,h,hr,er,p⟩;refine ⟨m,ρ,h,hr,er,PostS.bind p fun x h1 J m1 H1 _ p1 k1 hr1 r1 q1=>?_⟩;obtain ⟨items,src⟩:=x;refine ⟨PB X.K E Dn src items sg g m1 H1,⟨items.length,rfl,B8 _,m1,ρ,h1,Ay _,.refl _,hr1,er.keep p1 k1,by simpa using q1⟩,?_⟩;rintro i n σ2 H2 ⟨rfl,hi,m2,ρ2,h2,p2,k2,hr2,er2,q2⟩
 by_cases hlt:i<items.length
 ·rw [Ht hlt] at q2;unfold Ed at q2;split at q2
  ·rename_i hs;obtain ⟨hgo,hy⟩:=(r1 i m2 h2 H2 p2 k2 hr2 hs).1 hlt;refine .inr ⟨hgo,PC X.K E Dn src items sg g m1 H1 (i+1),fun σ5 H5 z20_=>by obtain ⟨m5,ρ5,h5,a1,a2,a3,a4,a5⟩:=z20_;exact (⟨items.length - (i+1),by omega,rfl,hlt,m5,ρ5,h5,a1,a2,a3,a4,a5⟩),fun y H3 hyl=>?_⟩;obtain ⟨k3,hr3,d,ed,rd⟩:=hy y H3 hyl;have ed':d=items[i]:=by rw [AR hlt] at ed;exact (Option.some.inj ed).symm
   subst ed';split at q2
   ·exact q2.elim
   ·rename_i ρ3 es;refine ig m2 H3 _ y ρ2 σ2 ρ3 _ rd (er2.keep (Ay _) k3) es fun σ4 er4=>?_;refine ⟨m2,ρ3,h2,hr3,er4,?_⟩;have q3:=PostS.ahead (Ay _) k3 q2;cases o:g ρ3 h2 with
    |stuck=>rw [o] at q3;exact q3
    |err C fs h5=>rw [o] at q3;exact q3
    |ok z h5=>
     rw [o] at q3;obtain ⟨fl,ρ5⟩:=z;intro m5 H5 p5 k5 hr5;have pk:m1 <+:m5:=p2.trans p5;have kk:Kp H1 H5:=(k2.trans k3).trans k5;cases fl with
     |nx=>exact fun σ5 er5=>⟨m5,ρ5,h5,pk,kk,hr5,er5,PostS.ahead p5 k5 q3⟩
     |ct=>exact fun σ5 er5=>⟨m5,ρ5,h5,pk,kk,hr5,er5,PostS.ahead p5 k5 q3⟩
     |bk=>exact fun σ5 er5=>q3 m5 H5 p5 k5 hr5 σ5 er5
     |rt d=>exact fun v rv=>q3 m5 H5 p5 k5 hr5 v rv
  ·exact q2.elim
 ·have he:i=items.length:=Jx hi (GH hlt);subst he;rw [Jr] at q2;unfold Ed at q2;split at q2
  ·rename_i hs;exact .inl ⟨(r1 _ m2 h2 H2 p2 k2 hr2 hs).2 rfl,(q2.here hr2) σ2 er2⟩
  ·exact q2.elim
end
section
variable {M:Model} {A:Around} {E:Value→Shared→Prop} {s:Shared}
theorem Mq {env:Env}:∀(names:List (Str×NameKind)) (acc:List (Str×Addr)),(∀y∈names,y.2=.free→∃c,env.cells.lookup y.1=some c)→
 ∃cl:List (Str×Addr),(forIn names acc (fun (x:Str×NameKind) (cs:List (Str×Addr))=>match x with
  |(name,kind)=>if (kind==NameKind.free)=true then do let y ←cellOf env name;pure (ForInStep.yield ((name,y)::cs)) else pure (ForInStep.yield cs)):Sem (List (Str×Addr)))=pure cl∧
  (∀x c,(x,c)∈cl→(x,c)∈acc∨(env.cells.lookup x=some c∧(x,NameKind.free)∈names))∧(∀y∈names,y.2=.free→∃c,(y.1,c)∈cl)∧(∀p∈acc,p∈cl)
 |[],acc,_=>⟨acc,rfl,fun x c h=>.inl h,fun y hy=>absurd hy (by simp),fun p h=>h⟩
 |(name,kind)::r,acc,h=>by
  rw [List.forIn_cons]
  by_cases hk:kind=.free
  ·subst hk;obtain ⟨c,hc⟩:=h (name,.free) AK rfl;obtain ⟨cl,e,h1,h2,h3⟩:=Mq (env:=env) r ((name,c)::acc) (fun y hy=>h y (AN _ hy));refine ⟨cl,?_,fun x c' hm=>?_,fun y hy hf=>?_,fun p hp=>h3 p (AN _ hp)⟩
   ·rw [←e];have:cellOf env name=pure c:=by unfold cellOf;rw [hc]
    simp only [this,beq_self_eq_true,if_true,pure_bind]
   ·rcases h1 x c' hm with q |⟨q1,q2⟩
    ·rcases qa5.mp q with q |q
     ·cases q;exact .inr ⟨hc,AK⟩
     ·exact .inl q
    ·exact .inr ⟨q1,AN _ q2⟩
   ·rcases qa5.mp hy with q |q
    ·subst q;exact ⟨c,h3 _ AK⟩
    ·exact h2 y q hf
  ·obtain ⟨cl,e,h1,h2,h3⟩:=Mq (env:=env) r acc (fun y hy=>h y (AN _ hy));refine ⟨cl,?_,fun x c' hm=>?_,fun y hy hf=>?_,h3⟩
   ·rw [←e];have hk':(kind==NameKind.free)=false:=by simpa using hk
    simp only [hk',Bq,if_false,pure_bind]
   ·rcases h1 x c' hm with q |⟨q1,q2⟩
    ·exact .inl q
    ·exact .inr ⟨q1,AN _ q2⟩
   ·rcases qa5.mp hy with q |q
    ·subst q;exact absurd hf hk
    ·exact h2 y q hf
theorem Mr {scope:Scope} {env:Env} (h:∀y∈scope.names,y.2=.free→∃c,env.cells.lookup y.1=some c):
 ∃cl:List (Str×Addr),closureFor scope env=pure cl∧(∀x c,(x,c)∈cl→env.cells.lookup x=some c∧(x,NameKind.free)∈scope.names)∧(∀y∈scope.names,y.2=.free→∃c,(y.1,c)∈cl):=by
 obtain ⟨cl,e,h1,h2,h3⟩:=Mq (env:=env) scope.names [] h;refine ⟨cl,?_,fun x c hm=>?_,h2⟩
 ·unfold closureFor;simp only [bind_pure];exact e
 ·rcases h1 x c hm with q |q
  ·exact nomatch q
  ·exact q
theorem PD {scope:Scope} {cl:List (Str×Addr)} {Q:Env→Shared→Prop} 
 (h:Q (newEnv scope s.heap.objs.size globals (cellsFrom (s.heap.objs.size+1) scope.names cl) qual none .none (some around) builtinsNs) {s with heap:=pushCells (s.heap.push {cls:=.type "dict",data:=.dict #[]}) scope.names}):
 wpAny M A (newFunctionEnv scope globals cl [] qual none .none (some around)) Q E s:=by
 simp only [newFunctionEnv,Option.isSome_some,if_true];refine Ad (wpAny_alloc ?_);refine Ad (wpAny_layCells _ (fun name kind cells=>by cases hkc:kind==NameKind.cell<;>simp [hkc]) _ _ _ _ ?_);simp only [List.forIn_nil,pure_bind];refine Ak ?_;rw [show ({s with heap:=s.heap.push {cls:=.type "dict",data:=.dict #[]}}:Shared).heap.objs.size=s.heap.objs.size+1 from B4 ..];exact h
end
section
variable {prog:Program} {w:World} {A:Around} {R:Result→Shared→Prop} {s:Shared}
theorem XW {elt target iter:Expr} (I:Nat→Shared→Prop)
 (turn:∀n s,I n s→wpAny (model prog w) A (pyNext it) (fun r s₁=>match r with
  |none=>R (.ok .next) s₁
  |some v=>wpAny (model prog w) A (letOwnedTupleGo target it v) (fun _ s₁'=>wpAny (model prog w) A (assign target env v) (fun _ s₂=>
   wpAny (model prog w) A (forIn ifs true fun c r=>if r=true then do let ok ←isTrue c env (eval c env);pure (ForInStep.yield ok) else pure (ForInStep.yield r)) (fun ok s₃=>
    if ok=true then wpAny (model prog w) A (eval elt env) (fun x s₄=>wpAny (model prog w) A (call (.builtin "list.append") [acc,x]) (fun _ s₅=>∃m,m<n∧I m s₅) (notedBy (model prog w) A env fun e s'=>R (.error e) s') s₄) (notedBy (model prog w) A env fun e s'=>R (.error e) s') s₃
    else ∃m,m<n∧I m s₃) (notedBy (model prog w) A env fun e s'=>R (.error e) s') s₂) (notedBy (model prog w) A env fun e s'=>R (.error e) s') s₁') (notedBy (model prog w) A env fun e s'=>R (.error e) s') s₁) (notedBy (model prog w) A env fun e s'=>R (.error e) s') s)
 (n:Nat) (h:I n s):
 codeAny (model prog w) A (.compLoop (.ListComp elt [⟨target,iter,ifs,0⟩] scope pos) 0 it acc env) R s:=by
 refine codeAny_loop rfl I (fun n s hI=>?_) n h
 show wpAny _ A ((compTurn (.ListComp elt [⟨target,iter,ifs,0⟩] scope pos) 0 it acc env).onRaise (fun x=>do noteFrame x env;theTreesLotGoes x)) _ _ s
 refine wpAny_noted ?_;rw [compTurn_list];refine Ad (wpAny_standAt (Ad (A1 (turn n s hI) (fun r s₁ h₁=>?_) fun _ _ h'=>h')));cases r with
 |none=>exact Ak h₁
 |some v=>
  refine Ad (A1 h₁ (fun _ s₁' h₁'=>?_) fun _ _ h'=>h');refine Ad (A1 h₁' (fun _ s₂ h₂=>Ad (A1 h₂ (fun ok s₃ h₃=>?_) fun _ _ h'=>h')) fun _ _ h'=>h');cases ok with
  |false=>exact Ak ⟨rfl,h₃⟩
  |true=>exact Ad (Ad (A1 h₃ (fun x s₄ h₄=>Ad (A1 h₄ (fun _ s₅ h₅=>Ak (Ak ⟨rfl,h₅⟩)) fun _ _ h'=>h')) fun _ _ h'=>h'))
end
def EV (X:Cx) (ifs:List Expr) (t:TT):Prop:=∀(pins:List (Addr×Obj)) (s:Shared) (σ:L2.St) (H:Hp) (Q:Bool→Hp→Prop),Inv X pins σ H s→t σ H Q→
 wpAny (model X.prog X.w) X.A (forIn ifs true fun c r=>if r=true then do let ok ←isTrue c X.env (eval c X.env);pure (ForInStep.yield ok) else pure (ForInStep.yield r)) (TP X pins σ Q) X.xe s
theorem XX:EV X [] (fun _ H Q=>Q true H):=fun _ _ _ H _ I h=>wpAny_tests_nil ⟨H,I,h⟩
theorem XY {t:TT} (h:PT X c t):EV X [c] t:=fun pins s σ H Q I q=>wpAny_tests_one (h pins s σ H Q I q)
def PF (env:Env) (scope:Scope) (C:Addr) (cells:List (Str×Addr)):Env:=
 {scope:=relabel scope env,locals:=C,globals:=env.globals,cells:=cells,qual:=env.qual,func:=none,code:=env.code,frame:=env.frame,builtins:=env.builtins}
def AV (X:Cx) (Nc:List Str) (scope:Scope) (C D:Addr) (cells:List (Str×Addr)) (fp:List Addr) (s₀:Shared) (H₀:Hp) (pins:List (Addr×Obj)):Cx:=
 {X with N:=Nc,s₀:=s₀,H₀:=H₀,env:=PF X.env scope C cells,outer:=X.stack,stack:=X.stack,ex:=D::fp,fn:=fun x=>scope.names.lookup x==some .cell,pn:=X.pn++pins,xe:=fun _ _=>False}
def Bt (cs:List (Option Nat)) (σ:L2.St):L2.St:=cs.map fun o=>o.bind fun j=>(σ[j]?).join
def Sub (σ σ':L2.St):Prop:=σ.length=σ'.length∧∀(i:Nat) v,σ[i]?=some (some v)→σ'[i]?=some (some v)
def J8 (cs:List (Option Nat)) (wi:TI) (g:TG) (tc:TT) (te:TE):TE:=fun σ H Q=>wi σ H fun J H1=>∃W:Nat→Nat→List V→Hp→Prop,(∃n,W 0 n [] H1)∧∀i n acc H,W i n acc H→
 (J.stop i H∧acc.length≤sizeLine∧∀p,H p=none→Q (.ref p) (Aq H p (.lst acc)))∨
 (J.go i H∧acc.length<sizeLine∧∀x H',J.yld i H x H'→g x (Bt cs σ) H' fun σ2 H2=>Sub (Bt cs σ) σ2∧tc σ2 H2 fun b H3=>if b=true then te σ2 H3 fun y H4=>∃n',n' < n∧W (i+1) n' (acc++[y]) H4 else ∃n',n' < n∧W (i+1) n' acc H3)
theorem Ms:∀(names:List (Str×NameKind)) (h:Heap) (acc:List (Str×Addr)) (x:Str) (c:Addr),(x,c)∈cellsFrom h.objs.size names acc→(x,c)∈acc∨(h.objs.size≤c∧(x,NameKind.cell)∈names∧(pushCells h names).IsCell c none)
 |[],_,_,_,_,m=>.inl m
 |(name,kind)::r,h,acc,x,c,m=>by
  unfold cellsFrom at m;unfold pushCells;split at m
  ·rename_i hk;rw [if_pos hk];have hk':kind=.cell:=by simpa using hk
   have e:h.objs.size+1=(h.push {cls:=.type "cell",data:=.cell none}).objs.size:=(B4 ..).symm;rw [e] at m;rcases Ms r _ _ x c m with q |⟨q1,q2,q3⟩
   ·rcases qa5.mp q with q |q
    ·cases q;refine .inr ⟨Ax _,by rw [hk'];exact AK,?_⟩;exact (show (h.push {cls:=.type "cell",data:=.cell none}).IsCell h.objs.size none from ⟨_,Bc _ rfl,rfl⟩).keeps fun b o e=>pushCells_keeps _ _ b o e
    ·exact .inl q
   ·exact .inr ⟨by rw [←e] at q1;exact Nat.le_of_succ_le q1,AN _ q2,q3⟩
  ·rename_i hk;rw [if_neg hk];rcases Ms r h acc x c m with q |⟨q1,q2,q3⟩
   ·exact .inl q
   ·exact .inr ⟨q1,AN _ q2,q3⟩
theorem Mt:∀(names:List (Str×NameKind)) (h:Heap) (acc:List (Str×Addr)),(∀x c,(x,c)∈acc→c<h.objs.size)→(∀x y c,(x,c)∈acc→(y,c)∈acc→x=y)→
 ∀x y c,(x,c)∈cellsFrom h.objs.size names acc→(y,c)∈cellsFrom h.objs.size names acc→x=y
 |[],_,_,_,i=>i
 |(name,kind)::r,h,acc,lt,i=>by
  unfold cellsFrom;split
  ·have e:h.objs.size+1=(h.push {cls:=.type "cell",data:=.cell none}).objs.size:=(B4 ..).symm;rw [e];refine Mt r _ _ (fun x c m=>?_) (fun x y c m m'=>?_)
   ·rw [←e];rcases qa5.mp m with q |q
    ·cases q;exact GG _
    ·exact GE (lt x c q)
   ·rcases qa5.mp m with q |q<;>rcases qa5.mp m' with q' |q'
    ·cases q;cases q';rfl
    ·cases q;exact absurd (lt y _ q') (CB _)
    ·cases q';exact absurd (lt x _ q) (CB _)
    ·exact i x y c q q'
  ·exact Mt r h acc lt i
theorem lookup_mem {α:Type} {l:List (Str×α)} {x:Str} {k:α} (nd:(l.map (·.1)).Nodup) (h:(x,k)∈l):l.lookup x=some k:=by
 induction l with
 |nil=>cases h
 |cons p r ih=>
  obtain ⟨y,j⟩:=p;rw [AZ,qbG] at nd;rw [FX];rcases qa5.mp h with e |e
  ·cases e;simp
  ·have:x≠y:=by rintro rfl;exact nd.1 (qaI.mpr ⟨(x,k),e,rfl⟩)
   have hb:(x==y)=false:=by simpa using this
   rw [hb];exact ih nd.2 e
theorem XZ {env:Env} {x n:Str} {j:NameKind} {r:List (Str×NameKind)} {k:NameKind} (h:List.lookup x ((if (j==NameKind.free&&env.scope.kind==.function&&env.kindOf n==some .cell)=true then (n,NameKind.cell) else (n,j))::r)=some k):
 (x=n∧(k=j∨(j=.free∧k=.cell)))∨(x≠n∧List.lookup x r=some k):=by
 by_cases hx:x=n
 ·subst hx;refine .inl ⟨rfl,?_⟩;split at h
  ·rename_i hc;rw [FX] at h;simp only [beq_self_eq_true] at h;cases h;simp only [B3] at hc;exact .inr ⟨by simpa using hc.1.1,rfl⟩
  ·rw [FX] at h;simp only [beq_self_eq_true] at h;cases h;exact .inl rfl
 ·have hb:(x==n)=false:=by simpa using hx
  refine .inr ⟨hx,?_⟩;split at h<;>(rw [FX] at h;simp only [hb] at h;exact h)
theorem PH {scope:Scope} {k:NameKind}:(relabel scope env).names.lookup x=some k→∃k0,scope.names.lookup x=some k0∧(k=k0∨(k0=.free∧k=.cell)):=by
 show (scope.names.map _).lookup x=some k→_
 induction scope.names with
 |nil=>intro h;cases h
 |cons p r ih=>
  obtain ⟨n,j⟩:=p;intro h;rw [AZ] at h;rw [FX];rcases XZ h with ⟨hx,hk⟩ |⟨hx,hr⟩
  ·subst hx;simp only [beq_self_eq_true];exact ⟨j,rfl,hk⟩
  ·have hb:(x==n)=false:=by simpa using hx
   rw [hb];exact ih hr
structure EW (X:Cx) (scope:Scope) (Nc:List Str) (cs:List (Option Nat)):Prop where
 kind:scope.kind=.function
 loc:∀y∈scope.names,y.2=.local→scope.names.lookup y.1=some .local
 free:∀y∈scope.names,y.2=.free→X.env.kindOf y.1=some .cell∨X.env.kindOf y.1=some .free
 nd:(scope.names.map (·.1)).Nodup
 len:cs.length=Nc.length
 out:∀(i:Nat) (x:Str) (j:Nat),Nc[i]?=some x→cs[i]?=some (some j)→X.N[j]?=some x∧scope.names.lookup x=some .free
theorem X0 (h:a<b):@LT.lt Nat instLTNat a b:=h
theorem BR (h:@LT.lt Nat instLTNat a b):a≠b:=Bf h
theorem Gd (h:@LT.lt Nat instLTNat a b):b≠a:=Ne.symm (Bf h)
section
variable {X:Cx} {pins:List (Addr×Obj)} {σ:L2.St} {H:Hp} {s:Shared}
theorem PJ {scope:Scope} {Nc:List Str} {cs:List (Option Nat)} {fp:List Addr} {cl:List (Str×Addr)} (S:EW X scope Nc cs) (I:Inv X pins σ H s) (f:∀b∈fp,CD X pins H b) (ob:∀b∈fp,∃o,s.heap.get? b=some o)
 (hcl:∀x c,(x,c)∈cl→X.env.cells.lookup x=some c∧(x,NameKind.free)∈scope.names) (hcl2:∀y∈scope.names,y.2=.free→∃c,(y.1,c)∈cl) {s3:Shared} (e3:s3={s with heap:=s.heap.push {cls:=.type "list",data:=.seq ([]:List Value).toArray}}):
 Inv (AV X Nc scope s3.heap.objs.size s.heap.objs.size (cellsFrom (s3.heap.objs.size+1) scope.names cl) fp s3 H pins) [] (Bt cs σ) H
  {s3 with heap:=pushCells (s3.heap.push {cls:=.type "dict",data:=.dict #[]}) scope.names}:=by
 have k3:∀b o,s.heap.get? b=some o→s3.heap.get? b=some o:=fun b o e=>by subst e3;exact Aw _ e
 have Ij:s3.heap.objs.size=s.heap.objs.size+1:=by subst e3;exact B4 ..
 have szd:(s3.heap.push {cls:=.type "dict",data:=.dict #[]}).objs.size=s3.heap.objs.size+1:=B4 ..;have k34:∀b o,s3.heap.get? b=some o→(pushCells (s3.heap.push {cls:=.type "dict",data:=.dict #[]}) scope.names).get? b=some o:=fun b o e=>pushCells_keeps _ _ b o (Aw _ e);have k4:∀b o,s.heap.get? b=some o→(pushCells (s3.heap.push {cls:=.type "dict",data:=.dict #[]}) scope.names).get? b=some o:=fun b o e=>k34 b o (k3 b o e);have cllt:∀x c,(x,c)∈cl→c<s.heap.objs.size:=fun x c m=>by obtain ⟨v,q⟩:=I.cell x c (hcl x c m).1;exact q.lt
 have cm:∀x c,(cellsFrom (s3.heap.objs.size+1) scope.names cl).lookup x=some c→(x,c)∈cl∨(s3.heap.objs.size+1≤c∧(x,NameKind.cell)∈scope.names∧(pushCells (s3.heap.push {cls:=.type "dict",data:=.dict #[]}) scope.names).IsCell c none):=fun x c e=>by have m:=mem_of_lookup e;rw [←szd] at m;have:=Ms scope.names _ cl x c m;rw [szd] at this;exact this
 have frs_lt:∀b∈frs X.stack,b<s.heap.objs.size:=fun b hb=>by obtain ⟨_,o,ho,_⟩:=I.stack.mem hb;exact AC ho
 have nfs:∀b,b≠X.env.locals→b∉X.fs→b∉frs X.stack:=fun b h1 h2 hb=>by
  rcases qa5.mp (I.stkSub b hb) with q |q
  ·exact h1 q
  ·exact h2 q
 have ok:(AV X Nc scope s3.heap.objs.size s.heap.objs.size (cellsFrom (s3.heap.objs.size+1) scope.names cl) fp s3 H pins).Ok:=by
  refine ⟨I.ok.mod,S.kind,I.ok.glob,I.ok.blt,Ax _,fun x y c e1 e2=>?_,fun x hx=>?_,fun x c hf e=>?_,I.ok.hd,I.ok.frames,.inl rfl,fun b hb=>?_,fun b o e=>?_,?_,fun b o e hb=>?_,fun b hb=>?_,?_,I.stkFree⟩
  ·have m1:=mem_of_lookup e1;have m2:=mem_of_lookup e2;have m1':(x,c)∈cellsFrom (s3.heap.push {cls:=.type "dict",data:=.dict #[]}).objs.size scope.names cl:=by rw [szd];exact m1
   have m2':(y,c)∈cellsFrom (s3.heap.push {cls:=.type "dict",data:=.dict #[]}).objs.size scope.names cl:=by rw [szd];exact m2
   exact Mt scope.names (s3.heap.push {cls:=.type "dict",data:=.dict #[]}) cl (fun x c m=>by rw [szd,Ij];exact AU (cllt x c m) (by omega))
    (fun x y c a b=>I.ok.inj x y c (hcl x c a).1 (hcl y c b).1) x y c m1' m2'
  ·have:∃k,(relabel scope X.env).names.lookup x=some k∧(k=.cell∨k=.free):=by
    rcases hx with q |q
    ·exact ⟨_,q,.inl rfl⟩
    ·exact ⟨_,q,.inr rfl⟩
   obtain ⟨k,e1,hk⟩:=this;obtain ⟨k0,e0,hk0⟩:=PH e1;refine qbB.mp (PySem.W.cellsFrom_some _ _ _ ?_);have:k0=.cell∨k0=.free:=by
    rcases hk0 with q |⟨q,_⟩
    ·rw [←q];exact hk
    ·exact .inr q
   rcases this with q |q
   ·subst q;exact .inl e0
   ·subst q;obtain ⟨c,hc⟩:=hcl2 _ (mem_of_lookup e0) rfl;refine .inr ?_;cases hl:cl.lookup x with
    |some c'=>rfl
    |none=>
     exfalso;have:∀p∈cl,p.1≠x:=fun p hp e=>by have h2:=List.lookup_eq_none_iff.mp hl p hp;rw [e] at h2;simp at h2
     exact this _ hc rfl
  ·have hk:scope.names.lookup x=some .cell:=by have:(scope.names.lookup x==some NameKind.cell)=true:=hf;simpa using this
   rcases cm x c e with q |⟨q1,_,_⟩
   ·have:=lookup_mem S.nd (hcl x c q).2;rw [hk] at this;cases this
   ·exact Nat.le_of_succ_le q1
  ·rcases qa5.mp hb with q |q
   ·subst q;refine ⟨BR (show _<s3.heap.objs.size by omega),fun x c e=>?_⟩;rcases cm x c e with q |⟨q1,_,_⟩
    ·exact Bf (cllt x c q)
    ·exact Gd (AU (by omega) q1)
   ·obtain ⟨o,ho⟩:=ob b q;have hlt:=X0 (AC ho);refine ⟨BR (show _<s3.heap.objs.size by omega),fun x c e=>?_⟩;rcases cm x c e with q2 |⟨q1,_,_⟩
    ·exact (f b q).2.2.2.2.1 x c (hcl x c q2).1
    ·exact Gd (AU (by omega) q1)
  ·obtain ⟨h1,h2⟩:=I.bs b o e;exact ⟨k3 b o h1,h2⟩
  ·show X.base.objs.size≤s3.heap.objs.size
   have:=Br I.ok.bsz I.sz;omega
  ·obtain ⟨h1,h2⟩:=I.bs b o e;rcases qa5.mp hb with q |q
   ·exact absurd q (BR (AC h1))
   ·rcases (f b q).2.2.2.1 with z |z
    ·exact I.ok.noex b o e z
    ·exact absurd (AU (AC (I.ok.bs b o e).1) z) (CB _)
  ·rcases qa5.mp hb with q |q
   ·subst q;intro z;exact absurd (frs_lt _ z) (CB _)
   ·exact nfs b (f b q).2.1 (f b q).2.2.1
  ·exact I.stack.of_keeps fun b o e _=>⟨o,k3 b o e,rfl⟩
 refine ⟨ok,rfl,?_,?_,?_,fun x c e=>?_,?_,fun x c e=>?_,fun p hp=>?_,I.hok.kept k4,?_⟩
 ·show AllBare s3.gens
  subst e3;exact I.bare
 ·exact Un.kept k34
 ·refine ⟨fun _=>none,(Heap.Ns.new s3.heap (.type "dict")).keeps (pushCells_keeps _ _),fun i x v e1 e2 e3'=>?_⟩;unfold Bt at e2;rw [BO] at e2;cases ec:cs[i]? with
  |none=>rw [ec] at e2;cases e2
  |some o=>
   rw [ec] at e2;cases o with
   |none=>cases e2
   |some j=>
    simp only [EG,Fi,Option.some.injEq] at e2;have e2':σ[j]?=some (some v):=by
     cases ej:σ[j]? with
     |none=>rw [ej] at e2;cases e2
     |some w=>rw [ej] at e2;simp at e2;rw [e2]
    obtain ⟨hN,hfr⟩:=S.out i x j e1 ec;have hfm:=mem_of_lookup hfr;have hkind:=S.free _ hfm rfl;obtain ⟨m,hn,hl⟩:=I.loc;obtain ⟨u,r,look⟩:=hl j x v hN e2' (by
     rcases hkind with q |q
     ·exact .inr (.inl q)
     ·exact .inr (.inr q))
    refine ⟨u,r,.inr ?_⟩;rcases look with ⟨q,_⟩ |⟨_,c,ec',hc⟩
    ·rcases hkind with z |z<;>(rw [q] at z;cases z)
    ·obtain ⟨c',hc'⟩:=hcl2 _ hfm rfl;have hv:(AV X Nc scope s3.heap.objs.size s.heap.objs.size (cellsFrom (s3.heap.objs.size+1) scope.names cl) fp s3 H pins).env.kindOf x=some .cell∨(AV X Nc scope s3.heap.objs.size s.heap.objs.size (cellsFrom (s3.heap.objs.size+1) scope.names cl) fp s3 H pins).env.kindOf x=some .free:=by
      rcases e3' with z |z |z
      ·obtain ⟨k0,a1,a2⟩:=PH z;rw [hfr] at a1;cases a1;rcases a2 with a2 |⟨_,a2⟩<;>cases a2
      ·exact .inl z
      ·exact .inr z
     refine ⟨hv,c,?_,hc.keeps k4⟩;obtain ⟨c2,h2⟩:=ok.has x hv;rw [h2];rcases cm x c2 h2 with q |⟨_,q,_⟩
     ·rw [←ec',(hcl x c2 q).1]
     ·have:=lookup_mem S.nd q;rw [hfr] at this;cases this
 ·rcases cm x c e with q |⟨_,_,q⟩
  ·obtain ⟨v,z⟩:=I.cell x c (hcl x c q).1;exact ⟨v,z.keeps k4⟩
  ·exact ⟨none,q⟩
 ·exact I.hok.fresh (show s.heap.objs.size≤s3.heap.objs.size by omega)
 ·rcases cm x c e with q |⟨q,_,_⟩
  ·exact I.freeC x c (hcl x c q).1
  ·exact I.hok.fresh (by omega)
 ·have hp':p∈X.pn++pins:=by
   rcases qaP.mp hp with q |q
   ·exact q
   ·exact absurd q (by simp)
  obtain ⟨a1,a2,a3,a4,a5⟩:=I.pin p hp';refine ⟨k4 _ _ a1,a2,?_,nfs p.1 a3 a4,a5⟩
  show p.1≠s3.heap.objs.size
  exact BR (AU (AC a1) (by omega))
 ·show (Bt cs σ).length=Nc.length
  simp [Bt,S.len]
end
section
variable {X:Cx} {elt tg iter:Expr} {ifs:List Expr} {scope:Scope} {pos:Pos} {Nc:List Str} {cs:List (Option Nat)} {wi:TI} {g:TG} {tc:TT} {te:TE}
theorem PK {H H':Hp} {s s3 s':Shared} {fp:List Addr} {cells:List (Str×Addr)} {acc:List V} {its:List Value} {n:Nat} 
 (I:Inv X pins σ H s) (f:∀b∈fp,CD X pins H b) (e3:s3={s with heap:=s.heap.push {cls:=.type "list",data:=.seq ([]:List Value).toArray}}) (hC:C=s3.heap.objs.size)
 (I':Inv (AV X Nc scope C s.heap.objs.size cells fp s3 H pins) po σc H' s') (hD:H' s.heap.objs.size=none) (hl:acc.length≤sizeLine) (rv:Vals acc its) (ho:s'.heap.get? s.heap.objs.size=some {cls:=.type "list",data:=.seq its.toArray n})
 {h':Heap} (sb:Heap.SameBut C s'.heap h'):Inv X pins σ (Aq H' s.heap.objs.size (.lst acc)) {s' with heap:=h'}:=by
 have k3:∀b o,s.heap.get? b=some o→s3.heap.get? b=some o:=fun b o e=>by subst e3;exact Aw _ e
 have Ij:s3.heap.objs.size=s.heap.objs.size+1:=by subst e3;exact B4 ..
 have Fz:∀b o,s.heap.get? b=some o→b≠s.heap.objs.size:=fun b o e=>BR (AC e);have neC:∀b o,s.heap.get? b=some o→b≠C:=fun b o e=>by rw [hC];exact BR (AU (AC e) (by omega))
 have DC:s.heap.objs.size≠C:=by rw [hC];exact BR (by omega)
 have U:Un (frs X.stack) (s.heap.objs.size::fp) H H' s3.heap s'.heap:=I'.base;have exn:∀b o,s.heap.get? b=some o→b∉fp→b∉s.heap.objs.size::fp:=fun b o e hx hb=>by
  rcases qa5.mp hb with z |z
  ·exact Fz b o e z
  ·exact hx z
 have neT:∀b u,H' b=some u→b≠s.heap.objs.size:=fun b u e=>Cp e hD;have hCn:H' C=none:=I'.free;refine I.call' (s':={s' with heap:=h'}) (ch:=fp) ?_ ?_ ?_ I'.bare ?_
 ·show s'.os=s.os
  have:=I'.os;rw [this]
  show s3.os=s.os
  subst e3;rfl
 ·refine ⟨fun b o e nn hb hx=>?_,fun b o e nn hb hx=>?_,fun b o e nn hx=>?_,fun b o e hx=>?_,fun b xs e=>?_,fun b o u e=>?_,fun b ps e=>?_⟩
  ·exact (sb.2 b (neC b o e)).trans (U.keep b o (k3 b o e) nn hb (exn b o e hx))
  ·obtain ⟨sl,z⟩:=U.slot b o (k3 b o e) nn hb (exn b o e hx);exact ⟨sl,(sb.2 b (neC b o e)).trans z⟩
  ·rw [AD (Fz b o e)];exact U.free b o (k3 b o e) nn (exn b o e hx)
  ·obtain ⟨o',z⟩:=U.there b o (k3 b o e) (exn b o e hx);exact ⟨o',(sb.2 b (neC b o e)).trans z⟩
  ·have z:=U.tups b xs e;rw [AD (neT b _ z)];exact z
  ·have z:=U.frzs b o u e;rw [AD (neT b _ z)];exact z
  ·obtain ⟨more,z⟩:=U.tbls b ps e;exact ⟨more,by rw [AD (neT b _ z)];exact z⟩
 ·intro b u e
  by_cases hb:b=s.heap.objs.size
  ·subst hb;rw [B0] at e;cases e;exact ⟨hl,its,n,rv,(sb.2 _ DC).trans ho⟩
  ·rw [AD hb] at e;refine (I'.hok b u e).stay (fun c v hc z=>(sb.2 c ?_).trans z) (fun c z=>by rw [AD (neT c _ z)];exact z) fun c xs z=>by rw [AD (neT c _ z)];exact z
   rcases hc with rfl |hc
   ·exact Cp e hCn
   ·exact Cp hc hCn
 ·intro b hb;obtain ⟨_,f1,_,f3,f4,f5⟩:=f b hb;exact ⟨f3,f1,f4,f5⟩
inductive PL (W:Nat→Nat→List V→Hp→Prop) (Xc:Cx) (σc:L2.St) (tn:Nat→Heap→Prop) (fp:List Addr) (Da:Addr) (n:Nat) (s':Shared):Prop where
 |mk (i:Nat) (acc:List V) (H':Hp) (its:List Value) (k:Nat) (w:W i n acc H') (ii:Inv Xc [] σc H' s') (st:tn i s'.heap) (fr:∀b∈fp,H' b=none) (hD:H' Da=none) (rv:Vals acc its) (ho:s'.heap.get? Da=some {cls:=.type "list",data:=.seq its.toArray k}):PL W Xc σc tn fp Da n s'
theorem PM {use:Option (Value→Sem Unit)} {pins:List (Addr×Obj)} {Q:VK} (hcalm:X.calm=true) (S:EW X scope Nc cs) (hi:PI X tg iter wi)
 (hb:∀(C D:Addr) (cells:List (Str×Addr)) (fp:List Addr) (s₀:Shared) (H₀:Hp) (pins:List (Addr×Obj)),PG (AV X Nc scope C D cells fp s₀ H₀ pins) tg g∧EV (AV X Nc scope C D cells fp s₀ H₀ pins) ifs tc∧PE (AV X Nc scope C D cells fp s₀ H₀ pins) elt te)
 (hsf:∀x,foldedSetIterable iter X.env x=pure x) (I:Inv X pins σ H s) (h:J8 cs wi g tc te σ H Q)
 (AJ:∀(s6:Shared) (C D:Addr) (H7:Hp) (m6:Str→Option Value),s6.heap.Ns C m6→H7 C=none→X.s₀.heap.objs.size≤C→C≠X.env.locals→(∀x c,X.env.cells.lookup x=some c→c≠C)→(∀p∈X.pn++pins,p.1≠C)→
  (∀h',Heap.SameBut C s6.heap h'→Inv X pins σ H7 {s6 with heap:=h'})→Q (.ref D) H7→compPost (model X.prog X.w) X.A X.xe use QQ (.ref D) C (.ok .next) s6):
 wpAny (model X.prog X.w) X.A (comprehension (.ListComp elt [⟨tg,iter,ifs,0⟩] scope pos) scope X.env ppos (newList []) false (eval iter X.env) use) QQ X.xe s:=by
 obtain ⟨cl,hclos,hcl,hcl2⟩:=Mr (scope:=scope) (env:=X.env) fun y hy hf=>I.ok.has y.1 (S.free y hy hf);refine wpAny_comprehension_free (use:=use) rfl hsf hclos S.kind S.loc (Au (hi pins s σ H _ I h) fun xv s1 h1=>Au h1 fun itv s2 h2=>?_);obtain ⟨it,fp,tn,J,H2,e,I2,T,CP,f2,W,⟨n0,w0⟩,turn⟩:=h2;subst e;refine CC ?_;generalize e3:({s2 with heap:=s2.heap.push {cls:=.type "list",data:=.seq ([]:List Value).toArray}}:Shared)=s3;refine PD ?_;have ob2:∀b∈fp,∃o,s2.heap.get? b=some o:=fun b hb=>let ⟨o,e,_⟩:=T.obj _ _ CP b hb;⟨o,e⟩;have I4:=PJ (fp:=fp) (cl:=cl) S I2 f2 ob2 hcl hcl2 e3.symm;generalize e4:({s3 with heap:=pushCells (s3.heap.push {cls:=.type "dict",data:=.dict #[]}) scope.names}:Shared)=s4 at I4;generalize ecl:cellsFrom (s3.heap.objs.size+1) scope.names cl=cells at I4;obtain ⟨pg,pt,pe⟩:=hb s3.heap.objs.size s2.heap.objs.size cells fp s3 H2 pins;generalize eX:AV X Nc scope s3.heap.objs.size s2.heap.objs.size cells fp s3 H2 pins=Xc at I4 pg pt pe;have xP:Xc.prog=X.prog:=by subst eX;rfl
 have xw:Xc.w=X.w:=by subst eX;rfl
 have xK:Xc.K=X.K:=by subst eX;rfl
 have xA:Xc.A=X.A:=by subst eX;rfl
 have xE:Xc.env=PF X.env scope s3.heap.objs.size cells:=by subst eX;rfl
 have xL:Xc.env.locals=s3.heap.objs.size:=by subst eX;rfl
 have xe:Xc.xe=fun _ _=>False:=by subst eX;rfl
 have xc:Xc.calm=true:=by subst eX;exact hcalm
 have xex:Xc.ex=s2.heap.objs.size::fp:=by subst eX;rfl
 have okc:=I4.ok;have k3:∀b o,s2.heap.get? b=some o→s3.heap.get? b=some o:=fun b o e=>by subst e3;exact Aw _ e
 have Ij:s3.heap.objs.size=s2.heap.objs.size+1:=by subst e3;exact B4 ..
 have k34:∀b o,s3.heap.get? b=some o→s4.heap.get? b=some o:=fun b o e=>by subst e4;exact pushCells_keeps _ _ b o (Aw _ e)
 have hDC:s2.heap.objs.size≠Xc.env.locals:=by rw [xL];exact BR (by omega)
 have hDcell:∀x c,Xc.env.cells.lookup x=some c→c≠s2.heap.objs.size:=fun x c e=>(okc.exf _ (by rw [xex];exact AK)).2 x c e;have hDpin:∀p∈Xc.pn,p.1≠s2.heap.objs.size:=fun p hp=>by
  have hp':p∈X.pn++pins:=by subst eX;exact hp
  exact BR (AC (I2.pin p hp').1)
 have hDfp:s2.heap.objs.size∉fp:=fun hm=>by obtain ⟨o,e⟩:=ob2 _ hm;exact absurd (AC e) (CB _)
 have hDex:s2.heap.objs.size∈Xc.ex:=by rw [xex];exact AK
 have hDfs:s2.heap.objs.size∉Xc.fs:=okc.exfs _ hDex;have fpC:∀{po:List (Addr×Obj)} {H':Hp},(∀b∈fp,H' b=none)→(∀p∈po,p.1=s2.heap.objs.size)→∀b∈fp,CD Xc po H' b:=fun {po H'} hn hp b hb=>by
  have hbx:b∈Xc.ex:=by rw [xex];exact AN _ hb
  refine ⟨hn b hb,(okc.exf b hbx).1,okc.exfs b hbx,.inl hbx,(okc.exf b hbx).2,fun p hpp=>?_⟩;rcases qaP.mp hpp with z |z
  ·have hp':p∈X.pn++pins:=by subst eX;exact z
   exact (f2 b hb).2.2.2.2.2 p hp'
  ·rw [hp p z];intro e;exact hDfp (e ▸ hb)
 have loop:∀sx,sx=s4→codeAny (model X.prog X.w) X.A (.compLoop (.ListComp elt [⟨tg,iter,ifs,0⟩] scope pos) 0 (.ref it) (.ref s2.heap.objs.size) Xc.env)
  (compPost (model X.prog X.w) X.A X.xe use QQ (.ref s2.heap.objs.size) s3.heap.objs.size) sx:=by
  rintro sx rfl;refine XW (PL W Xc (Bt cs σ) tn fp s2.heap.objs.size) ?_ n0
   ⟨0,[],H2,[],0,w0,I4,?_,fun b hb=>(f2 b hb).1,I2.hok.fresh (Ax _),.nil,?_⟩
  ·rintro n s5 ⟨i,acc,H5,its,k,w5,I5,DW,fr5,hD5,rv5,ho5⟩;have pin1:Inv Xc [(s2.heap.objs.size,{cls:=.type "list",data:=.seq its.toArray k})] (Bt cs σ) H5 s5:=I5.pins_of fun p hp=>by rw [qaJ] at hp;subst hp;exact ⟨ho5,hD5,hDC,hDfs,fun v z=>by cases z⟩
   have pone:∀p∈[((s2.heap.objs.size:Addr),({cls:=.type "list",data:=.seq its.toArray k}:Obj))],p.1=s2.heap.objs.size:=fun p hp=>by rw [qaJ] at hp;subst hp;rfl
   rcases turn i n acc H5 w5 with ⟨stop,hlen,qn⟩ |⟨go,hlen,step⟩
   ·have z1:=T.done Xc xP xw xK xc i _ s5 (Bt cs σ) H5 (fun _ _=>False) pin1 (fpC fr5 pone) DW stop;rw [xA] at z1;refine A1 z1 (fun r s6 z1_=>?_) fun _ _ z=>False.elim z;obtain ⟨hr,I6⟩:=z1_;subst hr;obtain ⟨m6,hn6,_⟩:=I6.loc;obtain ⟨ho6,hD6,_⟩:=I6.pin _ (BF _ AK);rw [xL] at hn6;have lt2:∀b,b<s2.heap.objs.size→b≠s3.heap.objs.size:=fun b hb=>BR (AU hb (by omega));refine AJ s6 s3.heap.objs.size s2.heap.objs.size (Aq H5 s2.heap.objs.size (.lst acc)) m6 hn6 ?_ (Br I2.sz (by omega)) ?_ ?_ ?_ ?_ (qn _ hD6)
    ·rw [AD (Gd (by omega))];have:=I6.free;rw [xL] at this;exact this
    ·obtain ⟨m2,hn2,_⟩:=I2.loc;exact Ne.symm (lt2 _ hn2.lt)
    ·intro x c hx;obtain ⟨v,hv⟩:=I2.cell x c hx;obtain ⟨o,ho,_⟩:=hv;exact lt2 _ (AC ho)
    ·intro p hp;exact lt2 _ (AC (I2.pin p hp).1)
    ·intro h' sb;subst eX;exact PK I2 f2 e3.symm rfl I6 hD6 hlen rv5 ho6 sb
   ·have z1:=T.item Xc xP xw xK xc i _ s5 (Bt cs σ) H5 (fun _ _=>False) pin1 (fpC fr5 pone) DW go;rw [xA] at z1;refine A1 z1 (fun r s6 z2_=>?_) fun _ _ z=>False.elim z;obtain ⟨u,hr,h6⟩:=z2_;subst hr;refine A1 h6 (fun _ s7 z3_=>?_) fun _ _ z=>False.elim z;obtain ⟨x,H7,I7,r7,y7,Ff,fr7⟩:=z3_;have I7':=I7.pinned (fp:=fp) (fpC fr7 pone) (T.obj _ _ Ff);have z2:=pg _ s7 (Bt cs σ) H7 x u _ I7' r7 (step x H7 y7);rw [xP,xw,xA,xe] at z2;refine A1 z2 (fun _ s8 z4_=>?_) fun _ _ z=>False.elim z;obtain ⟨σ8,H8,I8,sub8,q8⟩:=z4_;have z3:=pt _ s8 σ8 H8 _ I8 q8;rw [xP,xw,xA,xe] at z3;refine A1 z3 (fun ok s9 z5_=>?_) fun _ _ z=>False.elim z;obtain ⟨H9,I9,q9⟩:=z5_;have back:∀{sy:Shared} {Hy:Hp},Inv Xc ([(s2.heap.objs.size,{cls:=.type "list",data:=.seq its.toArray k})]++Fq fp s7.heap) σ8 Hy sy→
     Inv Xc [] (Bt cs σ) Hy sy∧tn (i+1) sy.heap∧(∀b∈fp,Hy b=none)∧Hy s2.heap.objs.size=none∧sy.heap.get? s2.heap.objs.size=some {cls:=.type "list",data:=.seq its.toArray k}:=fun {sy Hy} Iy=>by
     obtain ⟨ho,hD,_⟩:=Iy.pin _ (BF _ (GC _ AK));refine ⟨(Iy.pins_of fun p hp=>absurd hp (by simp)).weak (sub8.1) (fun j v z=>sub8.2 j v z),T.keep _ _ _ Ff fun b hb o e=>(Iy.pin (b,o) (BF _ (BF _ (HM hb e)))).1,fun b hb=>?_,hD,ho⟩;obtain ⟨o,e,_⟩:=T.obj _ _ Ff b hb;exact (Iy.pin (b,o) (BF _ (BF _ (HM hb e)))).2.1
    cases ok with
    |false=>simp only [Bq,if_false] at q9 ⊢;obtain ⟨n',hn',w'⟩:=q9;obtain ⟨a1,a2,a3,a4,a5⟩:=back I9;exact ⟨n',hn',i+1,acc,H9,its,k,w',a1,a2,a3,a4,rv5,a5⟩
    |true=>
     simp only [if_true] at q9 ⊢;have z4:=pe _ s9 σ8 H9 _ I9 q9;rw [xP,xw,xA,xe] at z4;refine A1 z4 (fun y s10 z6_=>?_) fun _ _ z=>False.elim z;obtain ⟨yv,H10,I10,r10,n',hn',w'⟩:=z6_;obtain ⟨a1,a2,a3,a4,a5⟩:=back I10;have hlen':=rv5.length;refine wpAny_list_append_plain ⟨k,a5⟩ (fun h' ⟨k',hl'⟩ sb=>?_) (by rw [AY];omega);have tu:Inv Xc [] (Bt cs σ) H10 {s10 with heap:=h'}:=a1.turned (t':=s10.toks) (it:=s2.heap.objs.size) (fun b o hb e=>(sb.2 b hb).trans e) a4 hDC (.inl hDex) hDcell (fun p hp=>by
      rcases qaP.mp hp with z |z
      ·exact hDpin p z
      ·exact absurd z (by simp))
     refine ⟨n',hn',i+1,acc++[yv],H10,its++[y],k',w',tu,T.keep _ _ _ a2 (fun b hb o e=>(sb.2 b (fun z=>hDfp (z ▸ hb))).trans e),a3,a4,rv5.append (.cons r10 .nil),?_⟩;rw [hl'];simp
  ·exact T.keep _ _ _ CP fun b hb o e=>k34 b o (k3 b o e)
  ·refine k34 _ _ ?_;subst e3;exact Bc _ rfl
 have AJ:=loop s4 rfl;have hst4:tn 0 s4.heap:=T.keep _ _ _ CP fun b hb o e=>k34 b o (k3 b o e);rw [xE] at AJ;have:=codeAny_compStart_list AJ (T.self X.A 0 s4 _ _ hst4 AJ);exact this
theorem X1 (hcalm:X.calm=true) (S:EW X scope Nc cs) (hi:PI X tg iter wi)
 (hb:∀(C D:Addr) (cells:List (Str×Addr)) (fp:List Addr) (s₀:Shared) (H₀:Hp) (pins:List (Addr×Obj)),PG (AV X Nc scope C D cells fp s₀ H₀ pins) tg g∧EV (AV X Nc scope C D cells fp s₀ H₀ pins) ifs tc∧PE (AV X Nc scope C D cells fp s₀ H₀ pins) elt te)
 (hsf:∀x,foldedSetIterable iter X.env x=pure x:=by intro _;rfl):PE X (.ListComp elt [⟨tg,iter,ifs,0⟩] scope pos) (J8 cs wi g tc te):=by
 intro pins s σ H Q I h;rw [eval_ListComp];exact PM (use:=none) hcalm S hi hb hsf I h fun s6 C D H7 m6 hn _ _ _ _ _ inv q=>⟨m6,hn,fun h' sb=>⟨.ref D,H7,inv h' sb,rfl,q⟩⟩
end
def noErr {α:Type}:Out α→Out α
 |.ok a h=>.ok a h
 |_=>.stuck
@[simp] theorem Zd8 {α:Type} (a:α) (h:HD):noErr (.ok a h)=.ok a h:=rfl
theorem GT {α β γ δ:Type} {K:PySem.W.Frag} {R:List Addr→Hp→α→β→Prop} {R':List Addr→Hp→γ→δ→Prop} {Q:δ→Hp→Prop} {Q':β→Hp→Prop} {o:Out α} {k:α→HD→Out γ} 
 (h:Post K R' m H E Q ((noErr o).bind k)) (f:∀a h1 v m1 H1,o=.ok a h1→m <+:m1→Kp H H1→HR K m1 h1 H1→R m1 H1 a v→Post K R' m1 H1 E Q (k a h1)→Q' v H1):Post K R m H E0 Q' o:=by
 cases o with
 |ok a h1=>exact fun v m1 H1 p kk hr r=>f a h1 v m1 H1 rfl p kk hr r (Post.ahead p kk h)
 |err C fs h1=>exact False.elim h
 |stuck=>exact False.elim h
def Ct (cs:List (Option Nat)) (ρ:Ag):Ag:=cs.map fun o=>o.bind fun j=>(ρ[j]?).join
theorem join_some {α:Type} {l:List (Option α)} {j:Nat} {a:α}:(l[j]?).join=some a↔l[j]?=some (some a):=by
 cases h:l[j]? with
 |none=>simp
 |some o=>simp
theorem ER.comp {K:PySem.W.Frag} (cs:List (Option Nat)) (er:ER K m H ρ σ):ER K m H (Ct cs ρ) (Bt cs σ):=by
 refine ⟨by simp [Ct,Bt],fun i d e=>?_⟩;unfold Ct at e;rw [BO] at e;cases ec:cs[i]? with
 |none=>rw [ec] at e;cases e
 |some o=>
  rw [ec] at e;cases o with
  |none=>cases e
  |some j=>simp only [EG,Fi,Option.some.injEq] at e;obtain ⟨v,e1,r⟩:=er.2 j d (join_some.mp e);refine ⟨v,?_,r⟩;unfold Bt;rw [BO,ec];simp only [EG,Fi,Option.some.injEq];exact join_some.mpr e1
theorem Sub.set {cs:List (Option Nat)} {σ':L2.St} {i:Nat} (h:cs[i]?=some none) (s:Sub (Bt cs σ) σ'):Sub (Bt cs σ) (σ'.set i (some v)):=by
 refine ⟨by rw [s.1];simp,fun j w e=>?_⟩;have hj:i≠j:=by rintro rfl;unfold Bt at e;rw [BO,h] at e;cases e
 rw [Be hj];exact s.2 j w e
theorem Sub.refl (σ:L2.St):Sub σ σ:=⟨rfl,fun _ _ h=>h⟩
def Ge (K:PySem.W.Frag) (cs:List (Option Nat)) (gg:TG) (sg:MG):Prop:=
 ∀m H d v ρ σ0 ρ' Q,DV K m H d v→ER K m H ρ (Bt cs σ0)→sg d ρ=some ρ'→(∀σ',Sub (Bt cs σ0) σ'→ER K m H ρ' σ'→Q σ' H)→gg v (Bt cs σ0) H Q
theorem PN {K:PySem.W.Frag} {cs:List (Option Nat)} {i:Nat} (h:cs[i]?=some none):Ge K cs (CS i) (AQ i):=fun m H d v ρ σ0 ρ' Q r er e q=>by simp only [AQ,Option.some.injEq] at e;subst e;exact q _ ((Sub.refl _).set h) (er.set r)
theorem PP {K:PySem.W.Frag} {cs:List (Option Nat)} {i j:Nat} (h:cs[i]?=some none) (h':cs[j]?=some none):Ge K cs (HI K 2 (Fo (CS i) (Fo (CS j) HH))) (ES i j):=fun m H d v ρ σ0 ρ' Q r er e q=>by
 unfold ES at e;split at e
 ·rename_i a b;cases e;simp only [DV,DVs] at r;obtain ⟨p,vs,rfl,hp,v1,w1,rfl,r1,v2,w2,rfl,r2,rfl⟩:=r;exact ⟨p,_,rfl,tq hp,rfl,v1,_,rfl,v2,_,rfl,rfl,q _ (((Sub.refl _).set h).set h') ((er.set r1).set r2)⟩
 ·cases e
abbrev FC (X:Cx) (E:XK) (ifs:List Expr) (t:MT):Prop:=EV X ifs (D8 X.K E t)
def Bl:MT:=fun _ h=>.ok true h
theorem X2:FC X E [] Bl:=fun pins s σ H Q I z1_=>by obtain ⟨m,ρ,h,hr,er,p⟩:=z1_;exact (XX pins s σ H Q I (p true m H (Ay _) (.refl _) hr rfl))
theorem X3 {t:MT} (h:CV X E c t):FC X E [c] t:=XY h
open Classical in
noncomputable def Cu (src:A3) (items:List D) (sg:MG) (t:MT) (f:ME) (ρc:Ag):List D→HD→Out (List D)
 |[],h=>if BC src items h then .ok [] h else .stuck
 |d::ds,h=>if BC src items h then match sg d ρc with
   |none=>.stuck
   |some ρ1=>(noErr (t ρ1 h)).bind fun b h1=>if b=true then (noErr (f ρ1 h1)).bind fun y h2=>(Cu src items sg t f ρc ds h2).bind fun ys h3=>.ok (y::ys) h3 else Cu src items sg t f ρc ds h1
  else .stuck
noncomputable def A6 (cs:List (Option Nat)) (it:MI) (sg:MG) (t:MT) (f:ME):ME:=fun ρ h=>(it ρ h).bind fun x h1=>if x.1.length≤sizeLine then (Cu x.2 x.1 sg t f (Ct cs ρ) x.1 h1).bind BJ else .stuck
theorem Out.bind_assoc {α β γ:Type} (o:Out α) (k:α→HD→Out β) (l:β→HD→Out γ):(o.bind k).bind l=o.bind fun a h=>(k a h).bind l:=by cases o<;>rfl
section
variable {X:Cx} {E:XK} {elt tg iter:Expr} {ifs:List Expr} {scope:Scope} {pos:Pos} {Nc:List Str} {cs:List (Option Nat)} {it:MI} {gg:TG} {sg:MG} {t:MT} {f:ME}
inductive PQ (K:PySem.W.Frag) (E:XK) (Q:VK) (src:A3) (items:List D) (sg:MG) (t:MT) (f:ME) (ρc:Ag) (m1:List Addr) (H1:Hp) (i n:Nat) (acc:List V) (H2:Hp):Prop where
 |mk (e:n=items.length - i) (l:i≤items.length) (a:acc.length≤i) (m2:List Addr) (h2:HD) (dacc:List D) (p:m1 <+:m2) (k:Kp H1 H2) (hr:HR K m2 h2 H2) (da:DVs K m2 H2 dacc acc) (q:Post K (rD K) m2 H2 E Q ((Cu src items sg t f ρc (items.drop i) h2).bind fun ys h3=>BJ (dacc++ys) h3)):PQ K E Q src items sg t f ρc m1 H1 i n acc H2
theorem PR (hg:Ge X.K cs gg sg):∀σ H Q,tD X.K E (A6 cs it sg t f) σ H Q→J8 cs (tM X.K (Gc X.K) E it) gg (D8 X.K E0 t) (tD X.K E0 f) σ H Q:=by
 refine ?_;rintro σ H Q ⟨m,ρ,h,hr,er,p⟩;refine ⟨m,ρ,h,hr,er,Post.bind p fun x h1 J m1 H1 _ p1 k1 hr1 r1 q1=>?_⟩;obtain ⟨items,src⟩:=x;dsimp only at q1;split at q1
 ·rename_i hz;have er1:ER X.K m1 H1 (Ct cs ρ) (Bt cs σ):=(er.keep p1 k1).comp cs;refine ⟨PQ X.K E Q src items sg t f (Ct cs ρ) m1 H1,
   ⟨items.length,rfl,B8 _,Ax _,m1,h1,[],Ay _,.refl _,hr1,.nil,by simpa using q1⟩,?_⟩
  rintro i n acc H2 ⟨rfl,hi',ha,m2,h2,dacc,p2,k2,hr2,da,q2⟩
  by_cases hlt:i<items.length
  ·rw [Ht hlt] at q2;unfold Cu at q2;split at q2
   ·rename_i hs;obtain ⟨hgo,hy⟩:=(r1 i m2 h2 H2 p2 k2 hr2 hs).1 hlt;refine .inr ⟨hgo,by omega,fun y H3 hyl=>?_⟩;obtain ⟨k3,hr3,d,ed,rd⟩:=hy y H3 hyl;have ed':d=items[i]:=by rw [AR hlt] at ed;exact (Option.some.inj ed).symm
    subst ed';split at q2
    ·exact q2.elim
    ·rename_i ρ3 es;have er3:ER X.K m2 H3 (Ct cs ρ) (Bt cs σ):=er1.keep p2 (k2.trans k3);refine hg m2 H3 _ y (Ct cs ρ) σ ρ3 _ rd er3 es fun σ4 sub4 er4=>⟨sub4,m2,ρ3,h2,hr3,er4,?_⟩
     rw [Out.bind_assoc] at q2;refine GT (Post.ahead (Ay _) k3 q2) fun b h5 v m5 H5 _ p5 k5 hr5 r5 q5=>?_;cases r5;cases b with
     |false=>simp only [Bq,if_false] at q5 ⊢;exact ⟨items.length - (i+1),by omega,rfl,hlt,by omega,m5,h5,dacc,p2.trans p5,(k2.trans k3).trans k5,hr5,DVs.keep p5 (k3.trans k5) da,q5⟩
     |true=>simp only [if_true] at q5 ⊢;rw [Out.bind_assoc] at q5;refine ⟨m5,ρ3,h5,hr5,er4.keep p5 k5,GT q5 fun z h6 w m6 H6 _ p6 k6 hr6 r6 q6=>?_⟩;refine ⟨items.length - (i+1),by omega,rfl,hlt,by simp;omega,m6,h6,dacc++[z],(p2.trans p5).trans p6,((k2.trans k3).trans k5).trans k6,hr6,(DVs.keep (p5.trans p6) ((k3.trans k5).trans k6) da).app (.cons r6 .nil),?_⟩;rw [Out.bind_assoc] at q6;simp only [Out.bind_ok] at q6;simpa using q6
   ·exact q2.elim
  ·have he:i=items.length:=Jx hi' (GH hlt);subst he;rw [Jr] at q2;unfold Cu at q2;split at q2
   ·rename_i hs;simp only [Out.bind_ok,Dx] at q2;obtain ⟨z1,z2⟩:=Fy hr2 da q2;exact .inl ⟨(r1 _ m2 h2 H2 p2 k2 hr2 hs).2 rfl,z1,z2⟩
   ·exact q2.elim
 ·exact q1.elim
theorem X4 (hcalm:X.calm=true) (S:EW X scope Nc cs) (hi:DT X E tg iter it) (hg:Ge X.K cs gg sg)
 (hb:∀(C D:Addr) (cells:List (Str×Addr)) (fp:List Addr) (s₀:Shared) (H₀:Hp) (pins:List (Addr×Obj)),PG (AV X Nc scope C D cells fp s₀ H₀ pins) tg gg∧FC (AV X Nc scope C D cells fp s₀ H₀ pins) E0 ifs t∧Ev (AV X Nc scope C D cells fp s₀ H₀ pins) E0 elt f)
 (hsf:∀x,foldedSetIterable iter X.env x=pure x:=by intro _;rfl):Ev X E (.ListComp elt [⟨tg,iter,ifs,0⟩] scope pos) (A6 cs it sg t f):=by
 exact BI (X1 (g:=gg) (tc:=D8 X.K E0 t) (te:=tD X.K E0 f) hcalm S hi hb hsf) (PR hg)
theorem X5 {i:Nat} {x:Str} {pos' pos2:Pos} (hcalm:X.calm=true) (hN:X.N.Nodup) (hix:X.N[i]?=some x) (hx:F0 X.env.scope x) (S:EW X scope Nc cs) (hi:DT X E tg iter it) (hg:Ge X.K cs gg sg)
 (hb:∀(C D:Addr) (cells:List (Str×Addr)) (fp:List Addr) (s₀:Shared) (H₀:Hp) (pins:List (Addr×Obj)),PG (AV X Nc scope C D cells fp s₀ H₀ pins) tg gg∧FC (AV X Nc scope C D cells fp s₀ H₀ pins) E0 ifs t∧Ev (AV X Nc scope C D cells fp s₀ H₀ pins) E0 elt f)
 (hsf:∀x,foldedSetIterable iter X.env x=pure x:=by intro _;rfl) (hsw:swapsWith (.ListComp elt [⟨tg,iter,ifs,0⟩] scope pos) (some (.Name x pos')) pos2.line X.env=pure true:=by rfl)
 (hf:X.fn x=true∨X.env.scope.names.lookup x=some .local:=by first |exact .inl rfl |exact .inr rfl |assumption):Ex X E (.Assign [.Name x pos'] (.ListComp elt [⟨tg,iter,ifs,0⟩] scope pos) pos2) (As i (A6 cs it sg t f)):=by
 rintro pins s σ H D I ⟨m,ρ,h,hr,er,p⟩;have hq:J8 cs (tM X.K (Gc X.K) E it) gg (D8 X.K E0 t) (tD X.K E0 f) σ H (fun v H1=>D.nx (σ.set i (some v)) H1):=PR hg σ H _ ⟨m,ρ,h,hr,er,PostS.bind p fun y h1 v m1 H1 _ p1 k1 hr1 r1 q1=>(q1.here hr1) _ ((er.keep p1 k1).set r1)⟩;rw [exec_Assign_Name_used _ _ _ _ hsw];refine Ad (wpAny_standAt (Ad ?_))
 show wpAny _ X.A (do let _ ←comprehension (.ListComp elt [⟨tg,iter,ifs,0⟩] scope pos) scope X.env _ (newList []) false (eval iter X.env) (some (assign (.Name x pos') X.env))) _ _ s
 refine Ad (A1 (PM (QQ:=fun _ s'=>SP X pins D .next s') hcalm S hi hb hsf I hq fun s6 C Dd H7 m6 hn hC h0 hL hc hp inv q=>?_) (fun _ s' z=>Ak (Ak z)) fun _ _ z=>z);have I6:Inv X pins σ H7 s6:=inv s6.heap ⟨rfl,fun _ _=>rfl⟩;refine wpAny_assign_Name (JD I6 hN hix hx (v:=.ref Dd) rfl (fun s7 I7 z3_=>?_) hf);obtain ⟨a,sb7,ha⟩:=z3_;have nCa:C≠a:=by
  rcases ha with z |z
  ·rw [z];exact hL
  ·exact Ne.symm (hc x a z)
 obtain ⟨o,es,ep,e1,e2⟩:=hn;refine ⟨m6,⟨o,es,ep,(sb7.2 C nCa).trans e1,e2⟩,fun h' sb=>?_⟩;exact ⟨_,H7,I7.turned (t':=s7.toks) (it:=C) (fun b o hb e=>(sb.2 b hb).trans e) hC hL (.inr h0) hc hp,q⟩
end
section
variable {X:Cx} {E:XK}
def Dm:D→HD→Option String
 |.non,_=>some "NoneType"
 |.bl _,_=>some "bool"
 |.int _,_=>some "int"
 |.str _,_=>some "str"
 |.tup _,_=>some "tuple"
 |.loc l,h=>match h[l]? with
  |some (.lst _)=>some "list"
  |_=>none
 |_,_=>none
theorem X6 {t:String} (hr:HR X.K m h H) (r:DV X.K m H d v) (e:Dm d h=some t):D7 X.K H v (.type t):=by
 cases d with
 |non=>simp only [Dm,Option.some.injEq,DV] at e r;subst e r;exact .non
 |bl b=>simp only [Dm,Option.some.injEq,DV] at e r;subst e r;exact .bl _
 |int i=>simp only [Dm,Option.some.injEq,DV] at e r;subst e r;exact .int _
 |str x=>simp only [Dm,Option.some.injEq,DV] at e r;subst e r;exact .str _
 |tup ds=>simp only [Dm,Option.some.injEq,DV] at e r;subst e;obtain ⟨a,vs,rfl,ha,_⟩:=r;exact .tup (tq ha)
 |loc l=>
  simp only [DV] at r;obtain ⟨a,rfl,ha⟩:=r;simp only [Dm] at e;split at e
  ·rename_i ds el;cases e;obtain ⟨vs,hv,_⟩:=hr.cells l _ a el ha;exact .lst hv
  ·cases e
 |_=>simp [Dm] at e
def subL:List (String×String×Bool):=[("NoneType","int",false),("bool","int",true),("int","int",true),("str","int",false),("tuple","int",false),("list","int",false),("NoneType","bool",false),("bool","bool",true),("int","bool",false),("str","bool",false),("tuple","bool",false),("list","bool",false),("NoneType","tuple",false),("bool","tuple",false),("int","tuple",false),("str","tuple",false),("tuple","tuple",true),("list","tuple",false),("NoneType","str",false),("bool","str",false),("int","str",false),("str","str",true),("tuple","str",false),("list","str",false),("NoneType","list",false),("bool","list",false),("int","list",false),("str","list",false),("tuple","list",false),("list","list",true),("dict","int",false),("dict","bool",false),("dict","tuple",false),("dict","str",false),("dict","list",false)]
def J9 (t c:String):Option Bool:=(subL.find? fun p=>p.1==t&&p.2.1==c).map fun p=>p.2.2
theorem X7 {K:PySem.W.Frag}:∀p∈subL,PySem.W.kitOne K (.type p.1) (.type p.2.1)=some p.2.2:=by unfold subL;simp only [List.forall_mem_cons];exact ⟨rfl,rfl,rfl,rfl,rfl,rfl,rfl,rfl,rfl,rfl,rfl,rfl,rfl,rfl,rfl,rfl,rfl,rfl,rfl,rfl,rfl,rfl,rfl,rfl,rfl,rfl,rfl,rfl,rfl,rfl,rfl,rfl,rfl,rfl,rfl,fun _ h=>nomatch h⟩
theorem PU {K:PySem.W.Frag} {t c:String} {b:Bool} (h:J9 t c=some b):PySem.W.kitOne K (.type t) (.type c)=some b:=by unfold J9 at h;rw [qaM] at h;obtain ⟨p,hp,rfl⟩:=h;have e:=List.find?_some hp;rw [B3,beq_iff_eq,beq_iff_eq] at e;rw [←e.1,←e.2];exact X7 p (List.mem_of_find?_eq_some hp)
def Bo:D→D→HD→Out D:=fun x y h=>match y,Dm x h with
 |.ty T,some t=>match J9 t T with
  |some b=>.ok (.bl b) h
  |none=>.stuck
 |_,_=>.stuck
theorem X8 {x:Str} {T:String} (hg:Gl X x) (hm:X.mg x=none) (hv:bootBuiltins x=some (.type T)) (hn:x≠"__name__":=by decide) (hd:(x==("__debug__":Str))=false:=by decide):Ev X E (.Name x pos) (mC (.ty T)):=
 GP (US (v:=.ty T) hg hm hv rfl hn hd) fun _ _=>by simp [DV]
theorem Mu (ns:List Int):∀j,j≤ns.length→preSum (fun i=>ns.getD i 0) j=(ns.take j).sum
 |0,_=>by simp [preSum]
 |j+1,h=>by rw [preSum,Mu ns j (by omega),List.take_succ_eq_append_getElem (by omega),List.sum_append];simp [DM,AR (show j<ns.length by omega)]
theorem Ka {h h2 h':Heap} (k:∀b o,h.get? b=some o→h2.get? b=some o) (hit:h.objs.size≤it) (hk:∀b o,b∉[it]→h2.get? b=some o→h'.get? b=some o):∀b o,h.get? b=some o→h'.get? b=some o:=fun b o e=>hk b o (by rw [qaJ];exact BR (AU (AC e) hit)) (k b o e)
theorem PV {ns:List Int} {its:List Value} (r:Vals (ns.map V.int) its) {i:Nat} {v:Value} (e:its.toArray[i]?=some v):∃t,v=.int (ns.getD i 0) t:=by
 have e':its[i]?=some v:=by simpa using e
 have hi:i<its.length:=(qa1.mp e').1;have hl:ns.length=its.length:=by have:=r.length;simpa using this
 have hn:(ns.map V.int)[i]?=some (V.int (ns.getD i 0)):=by rw [BO,AR (by omega)];simp [DM,AR (show i<ns.length by omega)]
 obtain ⟨u,h1,t,h2⟩:=r.get hn;rw [e'] at h1;cases h1;exact ⟨t,h2⟩
theorem X9 (hc:X.calm=true):CF X (.builtin "sum") (fun xs H Q=>∃(p:Addr) (ns:List Int),xs=[.ref p]∧(SqL X.K H p (ns.map V.int)∨SqT X.K H p (ns.map V.int))∧Q (.int ns.sum) H):=by
 intro pins s σ H xs us Q I r h;obtain ⟨p,ns,rfl,hs,q⟩:=h;obtain ⟨u,rfl,rx⟩:=Dj r;cases rx;have hh:X.A.in1.handled=none:=I.ok.hd hc;rcases hs with hs |hs
 ·obtain ⟨its,rv,pl,hz⟩:=I.list hs;have hl:=rv.length;rw [A0] at hl;have hlt:p<s.heap.objs.size:=by obtain ⟨_,e,_⟩:=pl.isList;exact AC e
  refine call_sum_walkG (wpAny_pyIter_list pl.isList ?_);refine ⟨s.heap.objs.size,[s.heap.objs.size,p],[s.heap.objs.size],its.toArray.size,_,_,fun i=>ns.getD i 0,rfl,Walks.list (A:=X.A.in1) hh _ p (BR hlt) its.toArray,⟨⟨_,Bc _ rfl,rfl,rfl⟩,pl.isList.push _⟩,fun b hb=>?_,fun i v e=>PV rv e,fun h' tk t' hk=>?_⟩
  ·show b<(s.heap.push _).objs.size
   rw [B4];rcases qa5.mp hb with z |z
   ·rw [z];exact GG _
   ·rw [qaJ.mp z];exact GE hlt
  ·have e:preSum (fun i=>ns.getD i 0) its.toArray.size=ns.sum:=by rw [AY,←hl,Mu ns _ (Ax _),Js]
   rw [e];exact ⟨.int ns.sum,H,I.kept (Ka (fun b o e=>Aw _ e) (Ax _) hk),⟨t',rfl⟩,q⟩
 ·obtain ⟨its,rv,pl,hz⟩:=I.tuple hs;have hl:=rv.length;rw [A0] at hl;have hT:s.heap.IsTuple p its.toArray:=pl;have hlt:p<s.heap.objs.size:=pl.lt;refine call_sum_walkG (wpAny_pyIter_tuple hT ?_);refine ⟨s.heap.objs.size,[s.heap.objs.size,p],[s.heap.objs.size],its.toArray.size,_,_,fun i=>ns.getD i 0,rfl,Walks.tuple (A:=X.A.in1) hh _ p (BR hlt) its.toArray,⟨⟨_,Bc _ rfl,rfl,rfl⟩,hT.push _⟩,fun b hb=>?_,fun i v e=>PV rv e,fun h' tk t' hk=>?_⟩
  ·show b<(s.heap.push _).objs.size
   rw [B4];rcases qa5.mp hb with z |z
   ·rw [z];exact GG _
   ·rw [qaJ.mp z];exact GE hlt
  ·have e:preSum (fun i=>ns.getD i 0) its.toArray.size=ns.sum:=by rw [AY,←hl,Mu ns _ (Ax _),Js]
   rw [e];exact ⟨.int ns.sum,H,I.kept (Ka (fun b o e=>Aw _ e) (Ax _) hk),⟨t',rfl⟩,q⟩
def GU:D→Option Int
 |.int i=>some i
 |_=>none
def GV:D→HD→Out D:=fun x h=>match Bx x h with
 |some ds=>match Az (ds.map GU) with
  |some ns=>.ok (.int ns.sum) h
  |none=>.stuck
 |none=>.stuck
theorem PX:∀{ds:List D} {vs:List V} {ns:List Int},DVs X.K m H ds vs→Az (ds.map GU)=some ns→vs=ns.map V.int
 |[],vs,ns,r,e=>by simp only [DVs] at r;simp [Az] at e;subst r e;rfl
 |d::ds,vs,ns,r,e=>by
  simp only [DVs] at r;obtain ⟨v,w,rfl,rv,rw'⟩:=r;rw [AZ] at e;cases d with
  |int i=>simp only [GU,Az,qaM] at e;obtain ⟨ns',e1,rfl⟩:=e;simp only [DV] at rv;subst rv;rw [PX rw' e1];rfl
  |_=>simp [GU,Az] at e
theorem Yb (hc:X.calm=true):Cr X (.builtin "sum") (An GV):=by
 refine ⟨_,X9 hc,fun m H h E ds vs Q hr r q=>EO r q fun d v ev rv q=>?_⟩;unfold GV at q;split at q
 ·rename_i xs e;split at q
  ·rename_i ns en;obtain ⟨p,ws,rfl,hs,dv⟩:=HZ hr rv e;have:=PX dv en;subst this;exact ⟨p,ns,ev,hs,A8 hr q (by simp [DV])⟩
  ·exact q.elim
 ·exact q.elim
theorem Yc (hc:X.calm=true):CF X (.builtin "all") (fun xs H Q=>∃(p:Addr) (bs:List Bool),xs=[.ref p]∧SqL X.K H p (bs.map V.bl)∧Q (.bl (bs.all id)) H):=by
 intro pins s σ H xs us Q I r h;obtain ⟨p,bs,rfl,hs,q⟩:=h;obtain ⟨u,rfl,rx⟩:=Dj r;cases rx;have hh:X.A.in1.handled=none:=I.ok.hd hc;obtain ⟨its,rv,pl,hz⟩:=I.list hs;have hl:=rv.length;rw [A0] at hl;have hlt:p<s.heap.objs.size:=by obtain ⟨_,e,_⟩:=pl.isList;exact AC e
 have item:∀(i:Nat) (v:Value),its.toArray[i]?=some v→v=.bool (bs.getD i true):=fun i v e=>by
  have e':its[i]?=some v:=by simpa using e
  have hi:i<its.length:=(qa1.mp e').1;have hn:(bs.map V.bl)[i]?=some (V.bl (bs.getD i true)):=by rw [BO,AR (by omega)];simp [DM,AR (show i<bs.length by omega)]
  obtain ⟨u,h1,h2⟩:=rv.get hn;rw [e'] at h1;cases h1;exact h2
 refine call_all_walk (wpAny_pyIter_list pl.isList ?_);refine ⟨s.heap.objs.size,[s.heap.objs.size,p],[s.heap.objs.size],its.toArray.size,_,_,fun i=>bs.getD i true,rfl,Walks.list (A:=X.A.in1) hh _ p (BR hlt) its.toArray,⟨⟨_,Bc _ rfl,rfl,rfl⟩,pl.isList.push _⟩,fun i v s' Q' E' e hQ=>?_,fun h' tk hk=>?_⟩
 ·rw [item i v e];exact D0 hQ
 ·have e:(List.range its.toArray.size).all (fun i=>bs.getD i true)=bs.all id:=by
   rw [AY,←hl];apply qb0.mpr;simp only [qaQ,qaZ,id];constructor
   ·intro h b hb;obtain ⟨i,hi,rfl⟩:=Hx hb;have:=h i hi;simpa [DM,AR hi] using this
   ·intro h i hi;have:=h bs[i] (Dh hi);simpa [DM,AR hi] using this
  rw [e];exact ⟨.bl _,H,I.kept (Ka (fun b o e=>Aw _ e) (Ax _) hk),rfl,q⟩
def Gf:D→Option Bool
 |.bl b=>some b
 |_=>none
def DU:D→HD→Out D:=fun x h=>match x with
 |.loc l=>match h[l]? with
  |some (.lst ds)=>match Az (ds.map Gf) with
   |some bs=>.ok (.bl (bs.all id)) h
   |none=>.stuck
  |_=>.stuck
 |_=>.stuck
theorem Mv:∀{ds:List D} {vs:List V} {bs:List Bool},DVs X.K m H ds vs→Az (ds.map Gf)=some bs→vs=bs.map V.bl
 |[],vs,ns,r,e=>by simp only [DVs] at r;simp [Az] at e;subst r e;rfl
 |d::ds,vs,ns,r,e=>by
  simp only [DVs] at r;obtain ⟨v,w,rfl,rv,rw'⟩:=r;rw [AZ] at e;cases d with
  |bl i=>simp only [Gf,Az,qaM] at e;obtain ⟨ns',e1,rfl⟩:=e;simp only [DV] at rv;subst rv;rw [Mv rw' e1];rfl
  |_=>simp [Gf,Az] at e
theorem Yd (hc:X.calm=true):Cr X (.builtin "all") (An DU):=by
 refine ⟨_,Yc hc,fun m H h E ds vs Q hr r q=>EO r q fun d v ev rv q=>?_⟩;unfold DU at q;split at q
 ·rename_i l;split at q
  ·rename_i xs el;split at q
   ·rename_i bs eb;simp only [DV] at rv;obtain ⟨a,rfl,ha⟩:=rv;obtain ⟨ws,hv,dv⟩:=hr.cells _ _ a el ha;have:=Mv dv eb;subst this;exact ⟨a,bs,ev,SqL.of hv,A8 hr q (by simp [DV])⟩
   ·exact q.elim
  ·exact q.elim
 ·exact q.elim
def GW:D→D→HD→Out D:=fun x y h=>match x with
 |.loc l=>match h[l]? with
  |some (.lst ds)=>if ds.length<sizeLine then .ok .non (h.set l (.lst (ds++[y]))) else .stuck
  |_=>.stuck
 |_=>.stuck
def Cb:D→HD→Out D:=fun x h=>match x with
 |.loc l=>match h[l]? with
  |some (.lst _)=>.ok x h
  |_=>.stuck
 |_=>.stuck
def DD (f g:ME):ME:=fun ρ h=>((f ρ h).bind Cb).bind fun x h1=>(g ρ h1).bind fun y h2=>GW x y h2
theorem Ye {apos cpos:Pos} (ho:Ev X E o f) (he:Ev X E e g)
 (hbase:attributeBase o "append" X.env (eval o X.env)=eval o X.env:=by rfl)
 (hfew:((backTo cpos (starEach [e] X.env)).all (fun x=>!x.1)&&(backToKw cpos (keywordEach [] X.env)).all (fun x=>x.1.isSome)
  &&decide ([e].length+([]:List Keyword).length+(if ([]:List Keyword).isEmpty then 0 else 1)<30))=true:=by rfl)
 (hline:(apos.endLine==cpos.line)=true:=by rfl) (hs:starEach [e] X.env=(false,eval e X.env)::starEach [] X.env:=by rfl) (hplain:(backTo cpos (starEach [] X.env)).any (·.1)=false:=by rfl):
 Ev X E (.Call (.Attribute o "append" apos) [e] [] cpos) (DD f g):=
 BI (WH PySem.F.plainAttrs_list PySem.F.slot_list_append PySem.F.type_list_append WK ho (JY he JX hs) hbase hfew hline hs hplain) fun σ H Q z1_=>by
  obtain ⟨m,ρ,h,hr,er,p⟩:=z1_;refine ⟨m,ρ,h,hr,er,?_⟩;unfold DD at p;rw [Out.bind_assoc] at p;refine Post.bind p fun x h1 v m1 H1 eo p1 k1 hr1 r1 q1=>?_;clear eo;unfold Cb at q1;split at q1
  ·rename_i l;split at q1
   ·rename_i ds el;simp only [Out.bind_ok] at q1;have r1':=r1;simp only [rD,DV] at r1';obtain ⟨a,rfl,ha⟩:=r1';obtain ⟨ws,hv,dv⟩:=hr1.cells l _ a el ha;refine ⟨.inl ⟨rfl,ws,SqL.of hv⟩,m1,ρ,h1,hr1,er.keep p1 k1,?_⟩;have q2:Post X.K (rD X.K) m1 H1 E Q ((Aa g Ac ρ h1).bind fun ys h2=>match ys with
     |[y]=>GW (.loc l) y h2
     |_=>.stuck):=by
     unfold Aa Ac;rw [Out.bind_assoc];exact q1
    refine Post.bind q2 fun ys h2 vs m2 H2 eo p2 k2 hr2 r2 q3=>?_;clear eo;split at q3
    ·rename_i y;simp only [Fw,DVs] at r2;obtain ⟨yv,w,rfl,ry,rfl⟩:=r2;unfold GW at q3;simp only at q3;split at q3
     ·rename_i ds2 el2;split at q3
      ·rename_i hz;have ha2:=JQ p2 ha;obtain ⟨ws2,hv2,dv2⟩:=hr2.cells l _ a el2 ha2;refine ⟨a,ws2,yv,rfl,rfl,hv2,by rw [←dv2.len];exact hz,?_⟩;refine q3 .non m2 _ (Ay _) (.set hv2 rfl) (hr2.setCell ha2 hv2 rfl ⟨_,B0,?_⟩) (by simp [rD,DV]);exact (dv2.app (.cons ry .nil)).keep (Ay _) (.set hv2 rfl)
      ·exact q3.elim
     ·exact q3.elim
    ·exact q3.elim
   ·exact q1.elim
  ·exact q1.elim
def Ie:D→D→D→HD→Out (Fl×Ag)→Out (Fl×Ag):=fun o i v h k=>match o,i with
 |.loc l,.int n=>match h[l]? with
  |some (.lst ds)=>match DA ds.length n with
   |some j=>match k with
    |.ok a _=>.ok a (h.set l (.lst (ds.set j v)))
    |_=>.stuck
   |none=>.stuck
  |_=>.stuck
 |_,_=>.stuck
def Kb (fo fi fv:ME):MS:=fun ρ h=>(fv ρ h).bind fun v h1=>(fo ρ h1).bind fun o h2=>(fi ρ h2).bind fun i h3=>Ie o i v h3 (.ok (.nx,ρ) h3)
theorem Yg {o i e:Expr} {pos pos':Pos} (ho:Ev X E o fo) (hi:Ev X E i fi) (he:Ev X E e fv)
 (ha:∀v,assign (.Subscript o i pos') X.env v=(do
  let ov ←holding [v] (eval o X.env)
  let iv ←holding [v,ov] (eval i X.env)
  standAt pos'
  holding [v,ov,iv] (setItem ov iv v)
  release [v,ov,iv] []):=by intro _;rfl)
 (hs:swapsWithSole [.Subscript o i pos'] e pos.line X.env=pure false:=by rfl) (hw:swappedStores [.Subscript o i pos'] e X.env=pure none:=by rfl)
 (h1:(assignEach [.Subscript o i pos'] X.env).map (·.2)=[assign (.Subscript o i pos') X.env]:=by rfl):Ex X E (.Assign [.Subscript o i pos'] e pos) (Kb fo fi fv):=
 EK (OB he (Vp ho hi Wv ha) hs hw h1) fun Dn σ H ⟨m,ρ,h,hr,er,p⟩=>⟨m,ρ,h,hr,er,PostS.bind p fun v h1 vv m1 H1 eo1 p1 k1 hr1 r1 q1=>by
  refine ⟨m1,ρ,h1,hr1,er.keep p1 k1,PostS.bind q1 fun ov h2 vo m2 H2 eo2 p2 k2 hr2 r2 q2=>?_⟩;refine ⟨m2,ρ,h2,hr2,(er.keep p1 k1).keep p2 k2,PostS.bind q2 fun iv h3 vi m3 H3 eo3 p3 k3 hr3 r3 q3=>?_⟩;clear eo1 eo2 eo3;unfold Ie at q3;split at q3
  ·rename_i l n;split at q3
   ·rename_i ds el;split at q3
    ·rename_i j ej;have ro:=DV.keep p3 k3 r2;simp only [DV] at ro;obtain ⟨a,rfl,ha⟩:=ro;have ri:=r3;simp only [rD,DV] at ri;subst ri;obtain ⟨ws,hv,dv⟩:=hr3.cells l _ a el ha;refine ⟨a,ws,n,j,rfl,rfl,hv,by rw [←dv.len];exact ej,?_⟩;have rvv:=DV.keep p3 k3 (DV.keep p2 k2 r1);have hr4:HR X.K m3 (h3.set l (.lst (ds.set j v))) (Aq H3 a (.lst (ws.set j vv))):=hr3.setCell ha hv rfl ⟨_,B0,(dv.set j rvv).keep (Ay _) (.set hv rfl)⟩;exact q3 m3 _ (Ay _) (.set hv rfl) hr4 σ ((((er.keep p1 k1).keep p2 k2).keep p3 k3).keep (Ay _) (.set hv rfl))
    ·exact q3.elim
   ·exact q3.elim
  ·exact q3.elim⟩
end
def AL (n:Nat) (g:MS):List D→HD→Out D:=fun ds h=>(g (ds.map some++List.replicate (n - ds.length) none) h).bind fun x h1=>match x with
 |(.nx,_)=>.ok .non h1
 |(.rt d,_)=>.ok d h1
 |_=>.stuck
open AutoSeq1 (wpAny_loadPart')
section
variable {prog:Program} {w:World} {A:Around} {E:Value→Shared→Prop} {s:Shared}
theorem Yh {i:Nat} {items:Array Value} {Q:Value→Shared→Prop} (hit:s.heap.IsTupleIter it l i)
 (hl:s.heap.IsTuple l items) (hx:items[i]?=some x)
 (hQ:∀h',h'.IsTupleIter it l (i+1)→Heap.SameBut it s.heap h'→Q x {s with heap:=h'}):
 wpAny (model prog w) A (Builtin.SmallTypes.nextOf (.ref it)) Q E s:=by
 obtain ⟨o,ho,hc,hd⟩:=id hit;obtain ⟨ol,hol,_,nl,hdl⟩:=hl;unfold Builtin.SmallTypes.nextOf;refine Ad (wpAny_callSpecial?_slot (name:=Str.ofString "__next__") hit.typeIs F.slot_tuple_iterator_next
  (wpAny_call_entry F.slot_tuple_iterator_next hit.typeIs F.entry_tuple_iterator_next ?_ (F.args_tuple_iterator_next_1 _)))
 show wpAny _ _ (field (.ref it) 0 >>=_) _ _ s
 refine Ad (wpAny_field ho hd (x:=.ref l) rfl ?_)
 show wpAny _ _ (if (Value.ref l==Value.none)=true then _ else _) _ _ s
 rw [if_neg (show ¬((Value.ref l==Value.none)=true) from Bj)]
 show wpAny _ _ (field (.ref it) 1 >>=_) _ _ s
 refine Ad (wpAny_field ho hd (x:=.int i 0) rfl ?_)
 show wpAny _ _ (seqItems? (.ref l) >>=_) _ _ s
 refine Ad (wpAny_seqItems hol hdl ?_);simp only [Jn,hx];refine Ad (wpAny_setField ho hd (by simp) (Ak ⟨x,rfl,Ak (hQ _ ?_ (Heap.SameBut.update ..))⟩));exact ⟨_,Fg _ ho (Obj.isFreed_of_fields (Obj.data_mapFields hd _)),(Obj.cls_mapFields ..).trans hc,by
  rw [Obj.data_mapFields hd];simp [rawInt]⟩
theorem Yi {i:Nat} {items:Array Value} (hh:A.handled=none)
 (hit:s.heap.IsTupleIter it l i) (hl:s.heap.IsTuple l items) (hx:items[i]?=none)
 (hE:∀h' e,Heap.ExtBut it s.heap h'→(∃o,h'.get? e=some o∧o.cls=.type "StopIteration")→E (.ref e) {s with heap:=h'}):
 wpAny (model prog w) A (Builtin.SmallTypes.nextOf (.ref it)) Q E s:=by
 obtain ⟨o,ho,hc,hd⟩:=id hit;obtain ⟨ol,hol,_,nl,hdl⟩:=hl;unfold Builtin.SmallTypes.nextOf;refine Ad (wpAny_callSpecial?_slot (name:=Str.ofString "__next__") hit.typeIs F.slot_tuple_iterator_next
  (wpAny_call_entry F.slot_tuple_iterator_next hit.typeIs F.entry_tuple_iterator_next ?_ (F.args_tuple_iterator_next_1 _)))
 show wpAny _ _ (field (.ref it) 0 >>=_) _ _ s
 refine Ad (wpAny_field ho hd (x:=.ref l) rfl ?_)
 show wpAny _ _ (if (Value.ref l==Value.none)=true then _ else _) _ _ s
 rw [if_neg (show ¬((Value.ref l==Value.none)=true) from Bj)]
 show wpAny _ _ (field (.ref it) 1 >>=_) _ _ s
 refine Ad (wpAny_field ho hd (x:=.int i 0) rfl ?_)
 show wpAny _ _ (seqItems? (.ref l) >>=_) _ _ s
 refine Ad (wpAny_seqItems hol hdl ?_);simp only [Jn,hx];refine Ad (wpAny_rule (Ad (wpAny_setField ho hd (by simp) ?_)))
 show wpAny _ _ (newExc (.type "StopIteration") [] >>=_) _ _ _
 refine Ad ?_;simp only [newExc,newTuple];refine Ad (CC ?_ (by size_fits));refine Ad (m:=firstArgMember _ _) (wpAny_of_eq (a:=Value.none) (by first |rfl |(simp only [firstArgMember];rfl)) ?_);refine CC ?_ (by size_fits);simp only [raiseNew];refine Ad (wpAny_handled ?_)
 first |rw [show A.in1.handled=none from hh] |rw [hh]
 refine Ad (Ak (wpAny_throw ?_));exact hE _ _ (((Heap.SameBut.update ..).extBut.push _).push _) ⟨_,Bc _ rfl,rfl⟩
end
theorem Yj {A:Around} (hh:A.handled=none) (it l:Addr) (hne:l≠it) (items:Array Value):
 Draws prog w A it [it,l] items.size (fun i v=>items[i]?=some v) (fun i h=>h.IsTupleIter it l i∧h.IsTuple l items) where
 live:=fun _ _ st=>let ⟨o,ho,_⟩:=st.1;⟨o,ho⟩
 frame:=fun _ _ _ st hk=>⟨st.1.at fun o e=>hk it (by simp) o e,st.2.at fun o e=>hk l (by simp) o e⟩
 item:=fun i s Q E hi st hQ=>by refine Yh st.1 st.2 (x:=items[i]) (by simp [hi]) fun h' hit' hs'=>?_;exact hQ _ h' s.toks (by simp [hi]) ⟨hit',st.2.extBut hs'.extBut hne⟩ hs'
 done:=fun s Q E st hE=>Yi hh st.1 st.2 (by simp) hE
section
variable {prog:Program} {w:World} {A:Around} {E:Value→Shared→Prop} {s:Shared}
end
section
variable {X:Cx} {E:XK}
end
end LS
namespace LS
open PySem PySem.Spec PyProof.Rows L2
section
variable {prog:Program} {w:World} {A:Around} {E:Value→Shared→Prop} {s:Shared}
end
section
variable {X:Cx} {E:XK} {e:Expr} {f:ME}
def Yk:D→HD→Out D:=fun x h=>match x with
 |.tup [a,b]=>.ok (.tup [b,a]) h
 |_=>.stuck
end
structure CSc (X:Cx) (scope:Scope) (Nc:List Str) (cs:List (Option Nat)):Prop where
 kind:scope.kind=.function
 loc:(scope.names.all fun y=>y.2 != .local||scope.names.lookup y.1==some .local)=true
 free:(scope.names.all fun y=>y.2 != .free||(X.env.kindOf y.1==some .cell||X.env.kindOf y.1==some .free))=true
 nd:(scope.names.map (·.1)).Nodup
 len:cs.length=Nc.length
 out:((Nc.zip cs).all fun p=>match p.2 with
  |none=>true
  |some j=>X.N[j]?==some p.1&&scope.names.lookup p.1==some .free)=true
theorem CSc.ok {Nc:List Str} {cs:List (Option Nat)} (S:CSc X scope Nc cs):EW X scope Nc cs:=by
 refine ⟨S.kind,fun y hy e=>?_,fun y hy e=>?_,S.nd,S.len,fun i x j h1 h2=>?_⟩
 ·have:=qaQ.mp S.loc y hy;rw [e] at this;simpa using this
 ·have:=qaQ.mp S.free y hy;rw [e] at this;simpa using this
 ·have hz:(Nc.zip cs)[i]?=some (x,some j):=by rw [List.getElem?_zip_eq_some];exact ⟨h1,h2⟩
  have:=qaQ.mp S.out (x,some j) (Dw hz);simpa using this
structure Dn (K:PySem.W.Frag) (mg:Str→Option Value) (x:Str) (ps:List Str) (st:Stmt) (f:Addr) (fd:FuncData):Prop where
 fn:Fun K x x st f fd
 bd:Binds K fd ps []
 mg:mg x=some (.ref f)
section
variable {X:Cx} {E:XK}
theorem Yl {f:ME} (ha:Ev X E a f):Ev X E (.UnaryOp .USub a pos) (fun ρ h=>(f ρ h).bind fun x h1=>match x with
 |.int i=>.ok (.int (-i)) h1
 |_=>.stuck):=
 BI (L6 L7 ha) fun σ H Q z1_=>by obtain ⟨m,ρ,h,hr,er,p⟩:=z1_;exact (⟨m,ρ,h,hr,er,Post.bind p fun x h1 v m1 H1 eo p1 k1 hr1 r1 q1=>by
  clear eo;split at q1
  ·simp only [rD,DV] at r1;subst r1;exact ⟨_,rfl,A8 hr1 q1 (by simp [DV])⟩
  ·exact q1.elim⟩)
def GX (f:ME):ME:=fun ρ h=>(f ρ h).bind fun x h1=>match x with
    |.int i=>.ok (.int (-i)) h1
    |_=>.stuck
theorem PY {i j:Nat} {x y:Str} {px py tp:Pos} {kt:Nat} (hc:X.calm=true) (h1:PG X (.Name x px) (CS i)) (h2:PG X (.Name y py) (CS j)):PG X (.Tuple [.Name x px,.Name y py] kt tp) (HI X.K 2 (Fo (CS i) (Fo (CS j) HH))):=
 LU hc (Fp h1 (Fp h2 LR))
end
def CMl (i j:Int):Prop:=CMul i j∨(Builtin.Int.intBits i≤16777216∧Builtin.Int.intBits j≤16777216)
instance (i j:Int):Decidable (CMl i j):=by unfold CMl;infer_instance
theorem CMl.ok {i j:Int} (h:CMl i j):IntMulOk i j:=by
 rcases h with h |⟨h1,h2⟩
 ·exact h.ok
 ·unfold IntMulOk;intro z;simp only [B3,decide_eq_true_eq] at z;have:=z.2;unfold Builtin.Int.intTooBig at this;simp only [decide_eq_true_eq] at this;have hb:(bitsLine:Int)=134217728:=by first |rfl |decide
  omega
variable {X:Cx}
theorem op_mul':OpR X (binaryOp .Mult) (rI CMl fun i j=>.int (i*j)):=JH fun _ _ _ _ _ _ _ hc q=>mul_int q hc.ok
def Do:D→D→HD→Out D
 |.int i,.int j,h=>if CMl i j then .ok (.int (i*j)) h else .stuck
 |.loc l,.int k,h=>match h[l]? with
  |some (.lst xs)=>if -(2^63)≤k∧k<2^63 then BJ (List.replicate k.toNat xs).flatten h else .stuck
  |_=>.stuck
 |_,_,_=>.stuck
theorem Ym:Bn X (binaryOp .Mult) Do:=by
 refine ⟨_,op_mul'.or WQ,fun m H h E x y v u Q hr rx ry q=>?_⟩;unfold Do at q;split at q
 ·simp only [DV] at rx ry;subst rx ry;split at q
  ·rename_i hc;exact .inl ⟨_,_,rfl,rfl,hc,A8 hr q (by simp [DV])⟩
  ·exact q.elim
 ·simp only [DV] at rx ry;obtain ⟨a,rfl,ha⟩:=rx;subst ry;split at q
  ·rename_i k _ xs e;split at q
   ·rename_i hk;obtain ⟨vs,h1,d1⟩:=hr.cells _ _ a e ha;obtain ⟨z,q'⟩:=Fy hr (d1.rep k.toNat) q;refine .inr ⟨a,k,vs,rfl,rfl,h1,hk.1,hk.2,?_,q'⟩;rw [JO] at z;rw [Nat.mul_comm];exact z
   ·exact q.elim
  ·exact q.elim
 ·exact q.elim
end LS
namespace Att
open PySem PySem.W PySem.Calls PyProof.Rows
theorem Yn {ns:List Int} (h:WData.layable (.list (ns.map WData.int))=true):∀n∈ns,Builtin.Int.intBits n≤2^20:=by
 have hw:WData.weight (.list (ns.map WData.int))≤2^20:=(layableW_iff.mp h).2.2;have key:∀(ns:List Int) (b:Nat),WData.weightAll (ns.map WData.int)≤b→∀n∈ns,Builtin.Int.intBits n≤b:=by
  intro ns
  induction ns with
  |nil=>intro b _ n hn;cases hn
  |cons m r ih=>
   intro b hb n hn;have e:WData.weightAll ((m::r).map WData.int)=Builtin.Int.intBits m+1+WData.weightAll (r.map WData.int):=by simp only [AZ,WData.weightAll,WData.weight];rfl
   rw [e] at hb;rcases qa5.mp hn with z |z
   ·subst z;omega
   ·exact ih b (by omega) n z
 exact key ns _ (by simpa only [WData.weight] using hw)
theorem attach_bits {l:OpenLaw} {n:Nat} {loose:List Str} {XP:(Str→Option Value)→Heap→Prop} {YP:World→Heap→Prop} {d:DefRec} 
 (hn:l.most=some n) (hdf:d.params.defaults=[])
 (call:∀(w:World) (s₀ s₁:Shared) (mg mb:Str→Option Value) (fa:Addr) (o:Obj) (pm cd doc:Value) (a:Addr) (vs:List Value) (ns:List Int),(∀n∈ns,Builtin.Int.intBits n≤2^20)→
  Ground q loose [] XP w s₀ mg mb s₁.heap→YP w s₁.heap→
  s₁.heap.get? fa=some o→o.data=.func (docDef d.name d.params d.body d.scope pm cd doc)→s₁.heap.CodeRec cd d.name→mg d.name=some (.ref fa)→
  s₁.heap.get? a=some {cls:=.type "list",data:=.seq vs.toArray}→IntsAre vs ns→ns.length≤n→s₁.gens=#[]→
  codeAny (model l.prog w) callerA (.call (.ref fa) ⟨[.ref a],[]⟩) (fun r s'=>r=.ok (.ret (.bool true))∧OldK s₁.heap s'.heap∧s'.os=s₁.os∧AllBare s'.gens) s₁):
 WalkO q loose XP YP l.row.toRowW d [] (fun f vs=>PySem.call f vs):=by
 intro w s₀ s₁ mg mb G Y fa o pm cd doc dV kV ho hd hcd hD hmg hg args vals as hpre hlay hrd hwl hlo;obtain rfl:dV=.none:=Dflts.none hD hdf;obtain rfl:kV=.none:=Dflts.noKw hD;obtain ⟨a,vs,ns,rfl,rfl,hobj,hints,hlen⟩:=WS hn hpre hwl;have hb:=Yn (layableW_arg hlay _ AK);refine enter_call (codeAny_mono (call w s₀ s₁ mg mb fa o pm cd doc a vs ns hb G Y ho (fd_plain hd) hcd hmg hobj hints hlen hg) fun r s' hq=>?_);obtain ⟨rfl,h2,h3,h4⟩:=hq;exact ⟨.inl ⟨.bool true,.bool true,[],rfl,fun _=>rfl,.bool true,WT l _,fun _=>⟨List.Pairwise.nil,fun _ hm=>(nomatch hm)⟩⟩,h2,h3,h4⟩
end Att
namespace LS
open PySem PySem.Spec PyProof.Rows L2
def Wp {α:Type} (o:Out α) (Q:α→HD→Prop):Prop:=match o with
 |.ok a h=>Q a h
 |_=>False
section
variable {α β:Type} {o:Out α} {Q Q':α→HD→Prop}
@[simp] theorem AI (a:α) (h:HD):Wp (.ok a h) Q=Q a h:=rfl
@[simp] theorem Zd9:Wp .stuck Q=False:=rfl
theorem Al {o':Out α} (e:o=o') (h:Wp o' Q):Wp o Q:=e ▸ h
theorem AA {k:α→HD→Out β} {Q:β→HD→Prop}:Wp (o.bind k) Q=Wp o fun a h=>Wp (k a h) Q:=by cases o<;>rfl
theorem Wp.mono (h:Wp o Q) (f:∀a h,Q a h→Q' a h):Wp o Q':=by
 cases o with
 |ok a h'=>exact f _ _ h
 |_=>exact h.elim
theorem Wp.ex (h:Wp o Q):∃a h',o=.ok a h'∧Q a h':=by
 cases o with
 |ok a h'=>exact ⟨a,h',rfl,h⟩
 |_=>exact h.elim
end
def Sm (h h':HD):Prop:=∀(l:Nat) (c:Cell),h[l]?=some c→h'[l]?=some c
theorem Sm.refl (h:HD):Sm h h:=fun _ _ e=>e
theorem Sm.trans (a:Sm h h1) (b:Sm h1 h2):Sm h h2:=fun l c e=>b l c (a l c e)
theorem Sm.app (h t:HD):Sm h (h++t):=fun l c e=>by rw [EA (qa1.mp e).1];exact e
def Pu {α:Type} (o:Out α) (h:HD) (a:α):Prop:=Wp o fun x h'=>x=a∧Sm h h'
section
variable {α β:Type} {o:Out α} {h:HD} {a:α}
theorem Pu.wp {Q:α→HD→Prop} (p:Pu o h a) (k:∀h',Sm h h'→Q a h'):Wp o Q:=Wp.mono p fun x h' z1_=>by obtain ⟨e,s⟩:=z1_;subst e;exact k h' s
theorem Pu.ok:Pu (.ok a h) h a:=⟨rfl,.refl _⟩
theorem Pu.bind {k:α→HD→Out β} {b:β} (p:Pu o h a) (q:∀h',Sm h h'→Pu (k a h') h' b):Pu (o.bind k) h b:=by unfold Pu;rw [AA];exact p.wp fun h' s=>Wp.mono (q h' s) fun x h2 z2_=>by obtain ⟨e,s2⟩:=z2_;exact (⟨e,s.trans s2⟩)
theorem Pu.noErr (p:Pu o h a):Pu (noErr o) h a:=by obtain ⟨x,h',e,q⟩:=Wp.ex p;rw [e];exact q
end
def PZ (i j:Nat) (ρ:Ag) (ds:List D) (h:HD):Out (Fl×Ag):=match ds with
 |[x,y]=>.ok (.nx,(ρ.set i (some x)).set j (some y)) h
 |_=>.stuck
def P0 (o:Option Ag) (h:HD):Out (Fl×Ag):=match o with
 |some ρ1=>.ok (.nx,ρ1) h
 |none=>.stuck
def Kc (g:HD→Out D) (x:D) (h:HD):Out D:=match x with
 |.bl true=>g h
 |.bl false=>.ok (.bl false) h
 |_=>.stuck
def Mw (g:HD→Out D) (x:D) (h:HD):Out D:=match x with
 |.bl true=>.ok (.bl true) h
 |.bl false=>g h
 |_=>.stuck
def P3 (x:D) (h:HD):Out D:=match x with
 |.bl b=>.ok (.bl (!b)) h
 |_=>.stuck
def P4 (x:D) (h:HD):Out D:=match x with
 |.int i=>.ok (.int (-i)) h
 |_=>.stuck
@[simp] theorem Zea {i j:Nat} {ρ:Ag} {x y:D} {h:HD} {Q:Fl×Ag→HD→Prop}:Wp (PZ i j ρ [x,y] h) Q=Q (.nx,(ρ.set i (some x)).set j (some y)) h:=rfl
@[simp] theorem Zeb {ρ:Ag} {h:HD} {Q:Fl×Ag→HD→Prop}:Wp (P0 (some ρ) h) Q=Q (.nx,ρ) h:=rfl
@[simp] theorem Zec {g:HD→Out D} {h:HD}:Kc g (.bl true) h=g h:=rfl
@[simp] theorem Zed {g:HD→Out D} {h:HD}:Kc g (.bl false) h=.ok (.bl false) h:=rfl
@[simp] theorem Zee {g:HD→Out D} {h:HD}:Mw g (.bl true) h=.ok (.bl true) h:=rfl
@[simp] theorem Zef {g:HD→Out D} {h:HD}:Mw g (.bl false) h=g h:=rfl
@[simp] theorem Zeg {b:Bool} {h:HD}:P3 (.bl b) h=.ok (.bl (!b)) h:=rfl
@[simp] theorem Zeh {i:Int} {h:HD}:P4 (.int i) h=.ok (.int (-i)) h:=rfl
def Mx (g:MS) (Q:Fl×Ag→HD→Prop):Fl×Ag→HD→Prop
 |(.nx,ρ),h=>Wp (g ρ h) Q
 |y,h=>Q y h
def GY (Q:D→HD→Prop):Fl×Ag→HD→Prop
 |(.nx,_),h=>Q .non h
 |(.rt d,_),h=>Q d h
 |_,_=>False
section
variable {ρ:Ag} {h:HD} {Q:Fl×Ag→HD→Prop} {QB:D→HD→Prop} {g g1 g2:MS} {f:ME} {t:MT}
@[simp] theorem Ah:Mx g Q (.nx,ρ) h=Wp (g ρ h) Q:=rfl
@[simp] theorem Zei {d:D}:Mx g Q (.rt d,ρ) h=Q (.rt d,ρ) h:=rfl
@[simp] theorem Zej:GY QB (.nx,ρ) h=QB .non h:=rfl
@[simp] theorem Zek {d:D}:GY QB (.rt d,ρ) h=QB d h:=rfl
@[simp] theorem BA:Wp (Ai g1 g2 ρ h) Q=Wp (g1 ρ h) (Mx g2 Q):=by
  unfold Ai;rw [AA]
  congr 1
  funext x h';obtain ⟨fl,ρ1⟩:=x;cases fl<;>rfl
theorem A9 {n:Nat} {ds:List D}:Wp (AL n g ds h) QB=Wp (g (ds.map some++List.replicate (n - ds.length) none) h) (GY QB):=by
 unfold AL;rw [AA]
 congr 1
 funext x h';obtain ⟨fl,ρ1⟩:=x;cases fl<;>rfl
@[simp] theorem Zel:Wp (Bd ρ h) Q=Q (.nx,ρ) h:=rfl
@[simp] theorem Zem:Wp (Cs f ρ h) Q=Wp (f ρ h) fun _ h1=>Q (.nx,ρ) h1:=by unfold Cs;rw [AA];rfl
@[simp] theorem Zen:Wp (AE f ρ h) Q=Wp (f ρ h) fun d h1=>Q (.rt d,ρ) h1:=by unfold AE;rw [AA];rfl
@[simp] theorem GZ {i:Nat}:Wp (As i f ρ h) Q=Wp (f ρ h) fun d h1=>Q (.nx,ρ.set i (some d)) h1:=by unfold As;rw [AA];rfl
@[simp] theorem Yo:Wp (A5 t g1 g2 ρ h) Q=Wp (t ρ h) fun b h1=>Wp (if b=true then g1 ρ h1 else g2 ρ h1) Q:=by unfold A5;rw [AA]
@[simp] theorem Zeo {i j:Nat} {fa:MA}:Wp (Gb i j fa ρ h) Q=Wp (fa ρ h) fun ds h1=>Wp (PZ i j ρ ds h1) Q:=by unfold Gb;rw [AA];rfl
@[simp] theorem Zep {sg:MG}:Wp (EU sg f ρ h) Q=Wp (f ρ h) fun d h1=>Wp (P0 (sg d ρ) h1) Q:=by unfold EU;rw [AA];rfl
@[simp] theorem Zeq {fo fi fv:ME}:Wp (Kb fo fi fv ρ h) Q=Wp (fv ρ h) fun v h1=>Wp (fo ρ h1) fun o h2=>Wp (fi ρ h2) fun i h3=>Wp (Ie o i v h3 (.ok (.nx,ρ) h3)) Q:=by unfold Kb;simp only [AA]
end
section
variable {ρ:Ag} {h:HD} {Q:D→HD→Prop} {QB:Bool→HD→Prop} {QA:List D→HD→Prop} {f g k:ME} {t u:MT} {fa:MA} {op op':D→D→HD→Out D} {F:List D→HD→Out D}
@[simp] theorem Ig {d:D} {r:Ag}:Wp (Ab 0 (some d::r) h) Q=Q d h:=rfl
@[simp] theorem Ih {i:Nat} {x:Option D} {r:Ag}:Wp (Ab (i+1) (x::r) h) Q=Wp (Ab i r h) Q:=rfl
@[simp] theorem Zer {d:D}:Wp (mC d ρ h) Q=Q d h:=rfl
@[simp] theorem Ii:Wp (Ae op f g ρ h) Q=Wp (f ρ h) fun x h1=>Wp (g ρ h1) fun y h2=>Wp (op x y h2) Q:=by unfold Ae;simp only [AA]
@[simp] theorem Kd:Wp (Af F fa ρ h) Q=Wp (fa ρ h) fun ds h1=>Wp (F ds h1) Q:=by unfold Af;rw [AA]
@[simp] theorem G0:Wp (Ac ρ h) QA=QA [] h:=rfl
@[simp] theorem EX:Wp (Aa f fa ρ h) QA=Wp (f ρ h) fun x h1=>Wp (fa ρ h1) fun xs h2=>QA (x::xs) h2:=by unfold Aa;simp only [AA];rfl
@[simp] theorem Zes:Wp (AW fa ρ h) Q=Wp (fa ρ h) fun xs h1=>Wp (if xs.length≤sizeLine then .ok (.tup xs) h1 else .stuck) Q:=by unfold AW;simp only [AA]
@[simp] theorem My:Wp (AB fa ρ h) Q=Wp (fa ρ h) fun xs h1=>Wp (BJ xs h1) Q:=by unfold AB;simp only [AA]
@[simp] theorem Yp:Wp (A2 f ρ h) QB=Wp (f ρ h) fun x h1=>Wp (JV x h1) QB:=by unfold A2;rw [AA]
@[simp] theorem Zet:Wp (Bz f ρ h) QB=Wp (f ρ h) fun x h1=>Wp (D9 x h1) QB:=by unfold Bz;rw [AA]
@[simp] theorem Zeu:Wp (BG t ρ h) QB=Wp (t ρ h) fun b h1=>QB (!b) h1:=by unfold BG;rw [AA];rfl
@[simp] theorem Zev:Wp (HU t u ρ h) QB=Wp (t ρ h) fun b h1=>Wp (if b=true then u ρ h1 else .ok false h1) QB:=by unfold HU;rw [AA]
@[simp] theorem Zew:Wp (Ca t u ρ h) QB=Wp (t ρ h) fun b h1=>Wp (if b=true then .ok true h1 else u ρ h1) QB:=by unfold Ca;rw [AA]
@[simp] theorem Zex:Wp (EL f g ρ h) Q=Wp (f ρ h) fun x h1=>Wp (Kc (g ρ) x h1) Q:=by unfold EL;rw [AA];rfl
@[simp] theorem Zey:Wp (HV f g ρ h) Q=Wp (f ρ h) fun x h1=>Wp (Mw (g ρ) x h1) Q:=by unfold HV;rw [AA];rfl
@[simp] theorem Zez:Wp (HW f ρ h) Q=Wp (f ρ h) fun x h1=>Wp (P3 x h1) Q:=by unfold HW;rw [AA];rfl
@[simp] theorem ZeA:Wp (GX f ρ h) Q=Wp (f ρ h) fun x h1=>Wp (P4 x h1) Q:=by unfold GX;rw [AA];rfl
@[simp] theorem ZeB:Wp (JW t f g ρ h) Q=Wp (t ρ h) fun b h1=>Wp (if b=true then f ρ h1 else g ρ h1) Q:=by unfold JW;rw [AA]
@[simp] theorem ZeC:Wp (Ea op op' f g k ρ h) Q=Wp (f ρ h) fun x h1=>Wp (g ρ h1) fun y h2=>Wp (op x y h2) fun z h3=>Wp (Kc (fun h=>(k ρ h).bind fun w h4=>op' y w h4) z h3) Q:=by unfold Ea;simp only [AA];rfl
@[simp] theorem ZeD:Wp (DD f g ρ h) Q=Wp (f ρ h) fun x h1=>Wp (Cb x h1) fun x h1=>Wp (g ρ h1) fun y h2=>Wp (GW x y h2) Q:=by unfold DD;simp only [AA]
@[simp] theorem ZeE:Wp (Bl ρ h) QB=QB true h:=rfl
theorem Av {xs:List D} (hn:xs.length≤sizeLine) (q:∀l h',Sm h h'→h'[l]?=some (.lst xs)→l=h.length→h'=h++[.lst xs]→Q (.loc l) h'):Wp (BJ xs h) Q:=by unfold BJ;rw [if_pos hn];exact q h.length _ (.app _ _) (by simp) rfl rfl
end
section
variable {ρ:Ag} {h:HD} {QI:(List D×A3)→HD→Prop} {f:ME} {fa:MA}
@[simp] theorem ZeF:Wp (BK f ρ h) QI=Wp (f ρ h) fun d h1=>Wp (GQ d h1) QI:=by unfold BK;rw [AA]
@[simp] theorem ZeG:Wp (B5 fa ρ h) QI=Wp (fa ρ h) fun d h1=>Wp (GR d h1) QI:=by unfold B5;rw [AA]
@[simp] theorem ZeH:Wp (Ec fa ρ h) QI=Wp (fa ρ h) fun d h1=>Wp (GS d h1) QI:=by unfold Ec;rw [AA]
theorem Ee {n:Nat} (hn:n≤1000):GR [.int (n:Int)] h=.ok ((List.range n).map fun k=>D.int ((k:Nat):Int),[]) h:=by
 have:(-(2^62):Int)≤(n:Int)∧(n:Int)<2^62:=by omega
 unfold GR;simp only;rw [if_pos this];simp [FB]
end
theorem P5 {α:Type} {src:A3} {sg:MG} {t:MT} {f:ME} (φ:α→D) (g:α→Bool) (e:α→D) (ρ1:α→Ag):
 ∀(xs:List α) (h:HD),(∀h',Sm h h'→BC src items h')→(∀x∈xs,sg (φ x) ρc=some (ρ1 x))→(∀x∈xs,∀h',Sm h h'→Pu (t (ρ1 x) h') h' (g x))→(∀x∈xs,g x=true→∀h',Sm h h'→Pu (f (ρ1 x) h') h' (e x))→
  Pu (Cu src items sg t f ρc (xs.map φ) h) h ((xs.filter g).map e)
 |[],h,hs,_,_,_=>by simp only [Dy,List.filter_nil,Cu];rw [if_pos (hs h (.refl _))];exact .ok
 |x::xs,h,hs,hg,ht,hf=>by
  simp only [AZ,Cu];rw [if_pos (hs h (.refl _)),hg x AK];simp only;refine Pu.bind (ht x AK h (.refl _)).noErr fun h1 s1=>?_;have ih:∀h2,Sm h h2→Pu (Cu src items sg t f ρc (xs.map φ) h2) h2 ((xs.filter g).map e):=fun h2 s2=>P5 φ g e ρ1 xs h2 (fun h' s'=>hs h' (s2.trans s'))
   (fun y hy=>hg y (AN _ hy)) (fun y hy h' s'=>ht y (AN _ hy) h' (s2.trans s')) (fun y hy gy h' s'=>hf y (AN _ hy) gy h' (s2.trans s'))
  cases hgx:g x with
  |false=>rw [if_neg Bj,LH (by simp [hgx])];exact ih h1 s1
  |true=>rw [if_pos rfl,LI hgx];refine Pu.bind (hf x AK hgx h1 s1).noErr fun h2 s2=>?_;exact Pu.bind (ih h2 (s1.trans s2)) fun h3 _=>.ok
theorem CY {α:Type} {xs:List α}:xs.filter (fun _=>true)=xs:=List.filter_eq_self.mpr fun _ _=>rfl
section
variable {α:Type} {cs:List (Option Nat)} {it:MI} {sg:MG} {t:MT} {f:ME} {ρ:Ag} {h:HD} {src:A3} {xs:List α} {φ:α→D}
theorem Ef {Q:D→HD→Prop} (g:α→Bool) (e:α→D) (ρ1:α→Ag) (hi:Wp (it ρ h) fun x h'=>x=(xs.map φ,src)∧Sm h h'∧∀h2,Sm h' h2→BC src (xs.map φ) h2) (hn:xs.length≤sizeLine)
 (hg:∀x∈xs,sg (φ x) (Ct cs ρ)=some (ρ1 x)) (ht:∀x∈xs,∀h',Sm h h'→Pu (t (ρ1 x) h') h' (g x)) (hf:∀x∈xs,g x=true→∀h',Sm h h'→Pu (f (ρ1 x) h') h' (e x))
 (q:∀l h',Sm h h'→h'[l]?=some (.lst ((xs.filter g).map e))→Q (.loc l) h'):Wp (A6 cs it sg t f ρ h) Q:=by
 unfold A6;rw [AA];refine Wp.mono hi fun x h1 z4_=>?_;obtain ⟨ex,s1,hs⟩:=z4_;subst ex;rw [if_pos (by simpa using hn),AA];refine (P5 φ g e ρ1 xs h1 hs hg (fun x hx h' s'=>ht x hx h' (s1.trans s')) (fun x hx gx h' s'=>hf x hx gx h' (s1.trans s'))).wp fun h2 s2=>?_;refine Av ?_ fun l h3 s3 e3 _ _=>q l h3 ((s1.trans s2).trans s3) e3;rw [A0];exact Br (Jk _ _) hn
theorem allSome_map {β γ:Type} {f:β→Option γ} {g:β→γ}:∀{xs:List β},(∀x∈xs,f x=some (g x))→Az (xs.map f)=some (xs.map g)
 |[],_=>rfl
 |x::xs,hf=>by simp only [AZ,hf x AK,Az,allSome_map (fun y hy=>hf y (AN _ hy)),EG]
theorem Yq (b:α→Bool) (ρ1:α→Ag) (hi:Wp (it ρ h) fun x h'=>x=(xs.map φ,src)∧Sm h h'∧∀h2,Sm h' h2→BC src (xs.map φ) h2) (hn:xs.length≤sizeLine)
 (hg:∀x∈xs,sg (φ x) (Ct cs ρ)=some (ρ1 x)) (hf:∀x∈xs,∀h',Sm h h'→Pu (f (ρ1 x) h') h' (.bl (b x))):
 Pu (Af (An DU) (Aa (A6 cs it sg Bl f) Ac) ρ h) h (.bl (xs.all b)):=by
 unfold Pu;rw [Kd,EX];refine Ef (fun _=>true) (fun x=>.bl (b x)) ρ1 hi hn hg (fun x hx h' s'=>(.ok:Pu (.ok true h') h' true)) (fun x hx _ h' s'=>hf x hx h' s') fun l h' s' e'=>?_;rw [G0];rw [CY] at e';simp only [An,DU,e',EI];rw [allSome_map (f:=Gf∘fun x=>D.bl (b x)) (g:=b) (fun x _=>rfl)];refine ⟨?_,s'⟩;simp [List.all_map]
end
def BD (I:Ag→HD→Prop) (Q:Fl×Ag→HD→Prop):Fl×Ag→HD→Prop
 |(.nx,ρ),h=>I ρ h
 |(.ct,ρ),h=>I ρ h
 |(.bk,ρ),h=>Q (.nx,ρ) h
 |(.rt d,ρ),h=>Q (.rt d,ρ) h
theorem Mz {α:Type} {src:A3} {sg:MG} {body:MS} {Q:Fl×Ag→HD→Prop} (φ:α→D) (I:List α→Ag→HD→Prop) (ho:∀xs ρ h,I xs ρ h→BC src items h)
 (step:∀x xs ρ h,I (x::xs) ρ h→∃ρ1,sg (φ x) ρ=some ρ1∧Wp (body ρ1 h) (BD (I xs) Q)) (done:∀ρ h,I [] ρ h→Q (.nx,ρ) h):∀(xs:List α) (ρ:Ag) (h:HD),I xs ρ h→Wp (Ed src items sg body (xs.map φ) ρ h) Q
 |[],ρ,h,i=>by simp only [Dy,Ed];rw [if_pos (ho _ _ _ i)];exact done ρ h i
 |x::xs,ρ,h,i=>by
  simp only [AZ,Ed];rw [if_pos (ho _ _ _ i)];obtain ⟨ρ1,e,w⟩:=step x xs ρ h i;rw [e];simp only;rw [AA];refine Wp.mono w fun y h' k=>?_;obtain ⟨fl,ρ2⟩:=y;cases fl with
  |nx=>exact Mz φ I ho step done xs ρ2 h' k
  |ct=>exact Mz φ I ho step done xs ρ2 h' k
  |bk=>exact k
  |rt d=>exact k
theorem CI {α:Type} {src:A3} {it:MI} {sg:MG} {body:MS} {Q:Fl×Ag→HD→Prop} {ρ:Ag} {h:HD} {xs:List α} (φ:α→D) (I:List α→Ag→HD→Prop) (hi:Wp (it ρ h) fun x h'=>x=(xs.map φ,src)∧I xs ρ h') (ho:∀ys ρ h,I ys ρ h→BC src (xs.map φ) h)
 (step:∀x xs ρ h,I (x::xs) ρ h→∃ρ1,sg (φ x) ρ=some ρ1∧Wp (body ρ1 h) (BD (I xs) Q)) (done:∀ρ h,I [] ρ h→Q (.nx,ρ) h):Wp (BQ it sg body ρ h) Q:=by
 unfold BQ;rw [AA];refine Wp.mono hi fun x h1 z5_=>?_;obtain ⟨e,i⟩:=z5_;subst e;exact Mz φ I ho step done xs ρ h1 i
def Py (d:D) (p:PyData):Prop:=Bs [] 8 d=some p∧SeqAt.shaped p=true
@[simp] theorem sz1:(1≤sizeLine)=True:=eq_true (by unfold sizeLine;omega)
@[simp] theorem sz2:(2≤sizeLine)=True:=eq_true (by unfold sizeLine;omega)
@[simp] theorem Ij:(3≤sizeLine)=True:=eq_true (by unfold sizeLine;omega)
@[simp] theorem sz4:(4≤sizeLine)=True:=eq_true (by unfold sizeLine;omega)
@[simp] theorem sz5:(5≤sizeLine)=True:=eq_true (by unfold sizeLine;omega)
section
variable {h:HD} {a b c:D} {ds es:List D} {i j:Int} {F1:D→HD→Out D} {F2:D→D→HD→Out D} {F3:D→D→D→HD→Out D}
@[simp] theorem Yr:An F1 [a] h=F1 a h:=rfl
@[simp] theorem ZeI:A4 F2 [a,b] h=F2 a b h:=rfl
@[simp] theorem ZeJ:Xd F3 [a,b,c] h=F3 a b c h:=rfl
@[simp] theorem ZeK {b:Bool}:JV (.bl b) h=.ok b h:=rfl
@[simp] theorem ZeL {b:Bool}:D9 (.bl b) h=.ok b h:=rfl
@[simp] theorem ZeM:D9 .non h=.ok false h:=rfl
@[simp] theorem ZeN:D9 (.int i) h=.ok (i != 0) h:=rfl
@[simp] theorem ZeO:D9 (.tup ds) h=.ok (!ds.isEmpty) h:=rfl
@[simp] theorem ZeP:Bo (.int i) (.ty "int") h=.ok (.bl true) h:=rfl
@[simp] theorem ZeQ:Bo (.int i) (.ty "bool") h=.ok (.bl false) h:=rfl
@[simp] theorem ZeR:Bo (.int i) (.ty "tuple") h=.ok (.bl false) h:=rfl
@[simp] theorem ZeS:Bo (.tup ds) (.ty "tuple") h=.ok (.bl true) h:=rfl
@[simp] theorem ZeT:Bo (.tup ds) (.ty "int") h=.ok (.bl false) h:=rfl
@[simp] theorem ZeU:Am (.int i) (.int j) h=.ok (.int (i+j)) h:=rfl
@[simp] theorem Ys {f:Int→Int→D}:F7 f (.int i) (.int j) h=.ok (f i j) h:=rfl
@[simp] theorem ZeV {b c:Bool}:Xl (.bl b) (.bl c) h=.ok (.bl (b==c)) h:=rfl
@[simp] theorem ZeW {b c:Bool}:Xm (.bl b) (.bl c) h=.ok (.bl (!(b==c))) h:=rfl
@[simp] theorem ZeX:AO (.tup ds) h=.ok (.int ds.length) h:=rfl
@[simp] theorem ZeY {ns:List Int}:AO (.scr ns) h=.ok (.int ns.length) h:=by simp [AO,Bx]
@[simp] theorem ZeZ:GQ (.tup ds) h=.ok (ds,[]) h:=rfl
@[simp] theorem Ze0:CW (.tup ds) h=.ok (.tup ds) h:=rfl
@[simp] theorem Ze1:Yk (.tup [a,b]) h=.ok (.tup [b,a]) h:=rfl
@[simp] theorem Ze2:Ia (.int i) (.int j) h=.ok (.int (if j>i then j else i)) h:=rfl
@[simp] theorem Ze3:Ib (.int i) (.int j) h=.ok (.int (if j<i then j else i)) h:=rfl
@[simp] theorem Yt {b:Bool}:Ic (.bl b) h=.ok (.int (if b then 1 else 0)) h:=rfl
@[simp] theorem Ze4:Ic (.int i) h=.ok (.int i) h:=rfl
@[simp] theorem Ze5 {ρ:Ag} {k:Nat}:AQ k a ρ=some (ρ.set k (some a)):=rfl
@[simp] theorem Ze6 {ρ:Ag} {k l:Nat}:ES k l (.tup [a,b]) ρ=some ((ρ.set k (some a)).set l (some b)):=rfl
@[simp] theorem Ze7 {b c:Bool}:Ga (.bl b) (.bl c) h=.ok (.bl (b==c)) h:=rfl
@[simp] theorem Ze8 {b c:Bool}:Fz (.bl b) (.bl c) h=.ok (.bl (!(b==c))) h:=rfl
@[simp] theorem Ze9:Ga (.int i) (.int j) h=.ok (.bl (i==j)) h:=rfl
@[simp] theorem Zfa:Fz (.int i) (.int j) h=.ok (.bl (!(i==j))) h:=rfl
theorem MB {l:Nat} (e:h[l]?=some (.lst ds)):CW (.loc l) h=.ok (.tup ds) h:=by simp only [CW,e]
theorem EY {l:Nat} (e:h[l]?=some (.lst ds)):Cb (.loc l) h=.ok (.loc l) h:=by simp only [Cb,e]
theorem G5 {l:Nat} (e:h[l]?=some (.lst ds)) (hn:ds.length<sizeLine):GW (.loc l) a h=.ok .non (h.set l (.lst (ds++[a]))):=by simp only [GW,e];rw [if_pos hn]
theorem ix_tup {k:Nat} (e:ds[k]?=some a):Ao (.tup ds) (.int (k:Nat)) h=.ok a h:=by
 have hk:k<ds.length:=(qa1.mp e).1;have e1:CT ds ((k:Nat):Int)=some a:=by unfold CT DA;rw [if_pos (by omega),if_pos (by omega)];simpa using e
 simp only [Ao,Bx,e1]
theorem MC {n k:Nat} {e:Nat→D} (hk:k<n):Ao (.tup ((List.range n).map e)) (.int (k:Nat)) h=.ok (e k) h:=ix_tup (by simp [Hz,hk])
theorem Yu {n:Nat} {e:Nat→D} (hk:0<n):Ao (.tup ((List.range n).map e)) (.int 0) h=.ok (e 0) h:=MC (k:=0) hk
@[simp] theorem Zfb:Ao (.tup [a,b]) (.int 0) h=.ok a h:=rfl
@[simp] theorem Zfc:Ao (.tup [a,b]) (.int 1) h=.ok b h:=rfl
theorem Yv {ns:List Int} {k:Nat} (e:ns[k]?=some i):Ao (.scr ns) (.int (k:Nat)) h=.ok (.int i) h:=by
 have hk:k<ns.length:=(qa1.mp e).1;have e1:CT (ns.map D.int) ((k:Nat):Int)=some (.int i):=by unfold CT DA;rw [if_pos (by omega),if_pos (by simpa using hk)];simp [e]
 simp only [Ao,Bx,e1]
theorem EZ {l k:Nat} (el:h[l]?=some (.lst ds)) (e:ds[k]?=some a):Ao (.loc l) (.int (k:Nat)) h=.ok a h:=by
 have hk:k<ds.length:=(qa1.mp e).1;have e1:CT ds ((k:Nat):Int)=some a:=by unfold CT DA;rw [if_pos (by omega),if_pos (by omega)];simpa using e
 simp only [Ao,Bx,el,e1]
theorem Yw {l k:Nat} (el:h[l]?=some (.lst ds)) (hk:k<ds.length):Ie (.loc l) (.int (k:Nat)) a h (.ok (.nx,ρ) h)=.ok (.nx,ρ) (h.set l (.lst (ds.set k a))):=by
 have:DA ds.length ((k:Nat):Int)=some k:=by unfold DA;rw [if_pos (by omega),if_pos (by omega)];simp
 simp only [Ie,el,this]
theorem Yx {neg:Bool} {k:Nat} {ks:List Nat}:Eb neg (.int (k:Nat)) (.tup (ks.map fun i=>.int ((i:Nat):Int))) h=.ok (.bl (if neg then !ks.contains k else ks.contains k)) h:=by
 have e:Az ((ks.map fun i=>D.int ((i:Nat):Int)).map Cj)=some (ks.map fun i=>V.int ((i:Nat):Int)):=by rw [EI];exact allSome_map (f:=Cj∘fun i=>D.int ((i:Nat):Int)) (fun x _=>rfl)
 have e2:GM (V.int ((k:Nat):Int)) (ks.map fun i=>V.int ((i:Nat):Int))=ks.contains k:=by
  unfold GM;rw [List.any_map,List.contains_eq_any_beq]
  congr 1
  funext i;change (((i:Nat):Int)==((k:Nat):Int))=_;rw [qb0];simp;omega
 simp only [Eb,Bx,e,Cj,e2]
end
noncomputable def MD (cs:List (Option Nat)) (it:MI) (sg:MG) (t:MT) (f:ME):ME:=Af (An CW) (Aa (A6 cs it sg t f) Ac)
noncomputable def P6 (cs:List (Option Nat)) (it:MI) (sg:MG) (t:MT) (f:ME):ME:=Af (An DU) (Aa (A6 cs it sg t f) Ac)
section
variable {α:Type} {cs:List (Option Nat)} {it:MI} {sg:MG} {t:MT} {f:ME} {ρ:Ag} {h:HD} {src:A3} {xs:List α} {φ:α→D}
@[simp] theorem Zfd:Af (An CW) (Aa (A6 cs it sg t f) Ac) ρ h=MD cs it sg t f ρ h:=rfl
@[simp] theorem Zfe:Af (An DU) (Aa (A6 cs it sg t f) Ac) ρ h=P6 cs it sg t f ρ h:=rfl
def CJ (o:Out (List D×A3)) (h:HD) (ds:List D) (src:A3):Prop:=Wp o fun x h'=>x=(ds,src)∧Sm h h'∧∀h2,Sm h' h2→BC src ds h2
theorem MF (b:α→Bool) (ρ1:α→Ag) (hi:CJ (it ρ h) h (xs.map φ) src) (hg:∀x∈xs,sg (φ x) (Ct cs ρ)=some (ρ1 x)) (hf:∀x∈xs,∀h',Sm h h'→Pu (f (ρ1 x) h') h' (.bl (b x))) (hn:xs.length≤sizeLine):
 Pu (P6 cs it sg Bl f ρ h) h (.bl (xs.all b)):=Yq b ρ1 hi hn hg hf
theorem MH:CJ (BK (Ab 0) (some (.tup ds)::ρ) h) h ds []:=by simp [CJ,Sm.refl,BC]
end
section
variable {h:HD} {i j:Int}
theorem Ke (h1:-18446744073709551616<j) (h2:j<18446744073709551616):Do (.int i) (.int j) h=.ok (.int (i*j)) h:=by have:CMl i j:=.inl (.inr ⟨by omega,by omega⟩);simp only [Do];rw [if_pos this]
theorem MK (h1:-18446744073709551616<i) (h2:i<18446744073709551616):Do (.int i) (.int j) h=.ok (.int (i*j)) h:=by have:CMl i j:=.inl (.inl ⟨by omega,by omega⟩);simp only [Do];rw [if_pos this]
theorem Yy (h1:Builtin.Int.intBits i≤16777216) (h2:Builtin.Int.intBits j≤16777216):Do (.int i) (.int j) h=.ok (.int (i*j)) h:=by have:CMl i j:=.inr ⟨h1,h2⟩;simp only [Do];rw [if_pos this]
theorem Gg (h1:0<j):DS (.int i) (.int j) h=.ok (.int (i % j)) h:=by simp only [DS,intD];rw [if_pos h1]
theorem Yz (h1:0<j) (h2:j<18446744073709551616):J4 (.int i) (.int j) h=.ok (.int (i / j)) h:=by
 have:CDv i j:=⟨h1,h2⟩
 simp only [J4,intD];rw [if_pos this]
theorem YA (h1:0<j) (h2:j<18446744073709551616):H0 (.int i) (.int j) h=.ok (.tup [.int (i / j),.int (i % j)]) h:=by
 have:CDv i j:=⟨h1,h2⟩
 simp only [H0];rw [if_pos this]
end
theorem Kf {α:Type} {o:Out α} {Q:α→HD→Prop}:Wp (noErr o) Q=Wp o Q:=by cases o<;>rfl
theorem P7 {src:A3} {sg:MG} {t:MT} {f:ME} (φ:Nat→D) (I:HD→Prop) (T:Nat→Bool→Prop) (R:Nat→D→Prop) (ρ1:Nat→Ag) (hs:∀h,I h→BC src items h):
 ∀(xs:List Nat) (h:HD),xs.Nodup→I h→(∀x∈xs,sg (φ x) ρc=some (ρ1 x))→(∀x∈xs,∀h,I h→Wp (t (ρ1 x) h) fun b h1=>T x b∧if b=true then Wp (f (ρ1 x) h1) (fun y h2=>I h2∧R x y) else I h1)→
  Wp (Cu src items sg t f ρc (xs.map φ) h) fun ys h'=>I h'∧∃(g:Nat→Bool) (e:Nat→D),ys=(xs.filter g).map e∧(∀x∈xs,g x=true→R x (e x))∧∀x∈xs,T x (g x)
 |[],h,_,i,_,_=>by simp only [Dy,Cu];rw [if_pos (hs h i)];exact ⟨i,fun _=>true,fun _=>.non,rfl,by simp,by simp⟩
 |x::xs,h,hd,i,hg,ht=>by
  simp only [AZ,Cu];rw [if_pos (hs h i),hg x AK];simp only;rw [AA,Kf];rw [qbG] at hd;refine Wp.mono (ht x AK h i) fun b h1 z1_=>?_;obtain ⟨tb,w⟩:=z1_;have ih:∀h2,I h2→_:=fun h2 i2=>P7 φ I T R ρ1 hs xs h2 hd.2 i2 (fun y hy=>hg y (AN _ hy)) (fun y hy=>ht y (AN _ hy));cases b with
  |false=>
   rw [if_neg Bj] at w ⊢;refine Wp.mono (ih h1 w) ?_;rintro ys h' ⟨i',g,e,ey,hr,tr⟩;refine ⟨i',fun y=>if y=x then false else g y,e,?_,?_,?_⟩
   ·rw [LH (by simp),ey]
    congr 1
    refine List.filter_congr fun y hy=>?_;rw [if_neg];intro z;subst z;exact hd.1 hy
   ·intro y hy gy;rcases qa5.mp hy with z |z
    ·subst z;simp at gy
    ·refine hr y z ?_
     by_cases hz:y=x
     ·subst hz;exact absurd z hd.1
     ·simpa [hz] using gy
   ·intro y hy
    by_cases hz:y=x
    ·subst hz;simpa using tb
    ·simp only [if_neg hz];exact tr y (by rcases qa5.mp hy with z |z;exact absurd z hz;exact z)
  |true=>
   rw [if_pos rfl] at w ⊢;rw [AA,Kf];refine Wp.mono w fun y h2 z3_=>?_;obtain ⟨i2,ry⟩:=z3_;rw [AA];refine Wp.mono (ih h2 i2) ?_;rintro ys h' ⟨i',g,e,ey,hr,tr⟩;refine ⟨i',fun z=>if z=x then true else g z,fun z=>if z=x then y else e z,?_,?_,?_⟩
   ·rw [LI (by simp),AZ,if_pos rfl,ey]
    congr 1
    rw [show xs.filter (fun z=>if z=x then true else g z)=xs.filter g from List.filter_congr fun z hz=>by rw [if_neg];intro q;subst q;exact hd.1 hz]
    refine List.map_congr_left fun z hz=>?_;rw [if_neg];intro q;subst q;exact hd.1 (qcF.mp hz).1
   ·intro z hz gz
    by_cases q:z=x
    ·subst q;simpa using ry
    ·rcases qa5.mp hz with w |w
     ·exact absurd w q
     ·simp only [if_neg q] at gz ⊢;exact hr z w gz
   ·intro z hz
    by_cases q:z=x
    ·subst q;simpa using tb
    ·simp only [if_neg q];exact tr z (by rcases qa5.mp hz with w |w;exact absurd w q;exact w)
theorem YB {cs:List (Option Nat)} {it:MI} {sg:MG} {t:MT} {f:ME} {h:HD} {src:A3} {xs:List Nat} {Q:D→HD→Prop} (φ:Nat→D) (I:HD→Prop) (T:Nat→Bool→Prop) (R:Nat→D→Prop) (ρ1:Nat→Ag) (hi:Wp (it ρ h) fun x h'=>x=(xs.map φ,src)∧I h') (hs:∀h,I h→BC src (xs.map φ) h)
 (hnew:∀h c,I h→I (h++[c])) (hd:xs.Nodup) (hn:xs.length≤sizeLine) (hg:∀x∈xs,sg (φ x) (Ct cs ρ)=some (ρ1 x)) (ht:∀x∈xs,∀h,I h→Wp (t (ρ1 x) h) fun b h1=>T x b∧if b=true then Wp (f (ρ1 x) h1) (fun y h2=>I h2∧R x y) else I h1)
 (q:∀h' (g:Nat→Bool) (e:Nat→D),I h'→(∀x∈xs,g x=true→R x (e x))→(∀x∈xs,T x (g x))→Q (.tup ((xs.filter g).map e)) h'):Wp (MD cs it sg t f ρ h) Q:=by
 unfold MD;rw [Kd,EX];unfold A6;rw [AA];refine Wp.mono hi fun x h1 z5_=>?_;obtain ⟨ex,i1⟩:=z5_;subst ex;rw [if_pos (by simpa using hn),AA];refine Wp.mono (P7 φ I T R ρ1 hs xs h1 hd i1 hg ht) fun ys h2 z6_=>?_;obtain ⟨i2,g,e,ey,hr,tr⟩:=z6_;subst ey;refine Av ?_ fun l h3 s3 e3 _ eh=>?_
 ·rw [A0];exact Br (Jk _ _) hn
 ·rw [G0];simp only [An,CW,e3];refine q h3 g e ?_ hr tr;rw [eh];exact hnew _ _ i2
structure PyN (n:Nat) (d:D) (p:PyData):Prop where
 rd:∀k,n≤k→Bs [] k d=some p
 ly:p.canLay0=true
 dp:p.depth≤n
theorem PyN.py {n:Nat} {p:PyData} (h:PyN n d p) (hn:n≤8):Py d p:=⟨h.rd 8 hn,by
 unfold SeqAt.shaped;rw [h.ly];have:=h.dp;simp
 omega⟩
def KD {α:Type}:Sem α→Prop
 |.pure _=>True
 |.raise _=>True
 |.unsupported _=>True
 |.finish _=>True
 |.rule _ k=>KD (k ())
 |.at _ k=>KD (k ())
 |.load _ _ k=>∀o,KD (k o)
 |.update _ _ f k=>(∀o,(f o).dict=o.dict∧(o.isFreed=false→(f o).isFreed=false))∧KD (k ())
 |.loadIfAlive _ k=>∀o,KD (k o)
 |.point _ k=>KD (k ())
 |.register _ _=>True
 |.alloc _ k=>∀a,KD (k a)
 |.fresh k=>∀a,KD (k a)
 |.ask k=>∀a,KD (k a)
 |.choose _ _ k=>∀a,KD (k a)
 |.os _ _ k=>∀a,KD (k a)
 |.call ..=>False
 |.handled _ k=>∀a,KD (k a)
 |.genState _ k=>∀a,KD (k a)
 |.newGen _ k=>∀a,KD (k a)
 |.resume ..=>False
 |.yield ..=>True
 |.stack k=>∀a,KD (k a)
 |.fork ..=>True
 |.thread k=>∀a,KD (k a)
 |.await ..=>True
def Dicts (h h':Heap):Prop:=∀b o,h.get? b=some o→∃o',h'.get? b=some o'∧o'.dict=o.dict
theorem Dicts.refl (h:Heap):Dicts h h:=fun _ o e=>⟨o,e,rfl⟩
theorem Dicts.trans (a:Dicts h h1) (b:Dicts h1 h2):Dicts h h2:=fun c o e=>by obtain ⟨o1,e1,d1⟩:=a c o e;obtain ⟨o2,e2,d2⟩:=b c o1 e1;exact ⟨o2,e2,d2.trans d1⟩
theorem YC {α:Type} {Γ:PySem.Ctx} {Q:α→Pos→Shared→Prop} {E:Value→Pos→Shared→Prop}:∀(t:Sem α) (p:Pos) (s:Shared),KD t→Sem.wp M Γ t Q E p s→Sem.wp M Γ t (fun a p s'=>Q a p s'∧Dicts s.heap s'.heap) (fun a p s'=>E a p s'∧Dicts s.heap s'.heap) p s:=by
 have lift:∀(t:Sem α) (p:Pos) (h0:Heap) (s:Shared),Dicts h0 s.heap→Sem.wp M Γ t (fun a p s'=>Q a p s'∧Dicts s.heap s'.heap) (fun a p s'=>E a p s'∧Dicts s.heap s'.heap) p s→Sem.wp M Γ t (fun a p s'=>Q a p s'∧Dicts h0 s'.heap) (fun a p s'=>E a p s'∧Dicts h0 s'.heap) p s:=
  fun t p h0 s d w=>Sem.wp_mono M Γ t (fun a p s' z=>⟨z.1,d.trans z.2⟩) (fun a p s' z=>⟨z.1,d.trans z.2⟩) p s w
 intro t
 induction t with
 |pure a=>exact fun p s _ w=>⟨w,.refl _⟩
 |raise e=>exact fun p s _ w=>⟨w,.refl _⟩
 |unsupported w=>exact fun p s _ w=>w.elim
 |finish w=>exact fun p s _ w=>w.elim
 |rule t k ih=>exact fun p s kd w=>ih () p s kd w
 |«at» t k ih=>exact fun p s kd w=>ih () t s kd w
 |load a x k ih=>exact fun p s kd ⟨o,e,w⟩=>⟨o,e,ih o p s (kd o) w⟩
 |update a x f k ih=>
  refine fun p s kd ⟨e,w⟩=>⟨e,lift _ p s.heap {s with heap:=s.heap.update a f} (fun b o eb=>?_) (ih () p _ kd.2 w)⟩
  by_cases hb:b=a
  ·subst hb;obtain ⟨d1,d2⟩:=kd.1 o;exact ⟨f o,Fg f eb (d2 (Heap.get?_some_iff.mp eb).2),d1⟩
  ·exact ⟨o,(LJ s.heap f (Ne.symm hb)).trans eb,rfl⟩
 |alloc o k ih=>exact fun p s kd w=>lift _ p s.heap {s with heap:=s.heap.push o} (fun b ob eb=>⟨ob,Aw _ eb,rfl⟩) (ih _ p {s with heap:=s.heap.push o} (kd _) w)
 |loadIfAlive a k ih=>exact fun p s kd w=>ih _ p s (kd _) w
 |point l k ih=>exact fun p s kd w=>ih () p s kd w
 |register a k ih=>exact fun p s kd w=>w.elim
 |fresh k ih=>exact fun p s kd w=>ih _ p {s with toks:=s.toks+1} (kd _) w
 |ask k ih=>exact fun p s kd w=>ih _ p s (kd _) w
 |choose src n k ih=>exact fun p s kd ⟨z,w⟩=>⟨z,ih _ p {s with drawn:=s.drawn.bump src} (kd _) w⟩
 |os q l k ih=>exact fun p s kd w=>ih _ p {s with os:=(Os.step s.os q).1} (kd _) w
 |call c h g l k ih=>exact fun p s kd w=>kd.elim
 |handled o k ih=>exact fun p s kd w=>ih _ p s (kd _) w
 |newGen c k ih=>exact fun p s kd w=>ih _ p {s with gens:=s.gens.push (.fresh c)} (kd _) w
 |genState g k ih=>exact fun p s kd ⟨st,e,w⟩=>⟨st,e,ih _ p s (kd _) w⟩
 |resume g r l k ih=>exact fun p s kd w=>kd.elim
 |yield v g l k ih=>exact fun p s kd w=>w.elim
 |stack k ih=>exact fun p s kd w=>ih _ p s (kd _) w
 |fork c k ih=>exact fun p s kd w=>w.elim
 |thread k ih=>exact fun p s kd w=>ih _ p s (kd _) w
 |await a t b l k ih=>exact fun p s kd w=>w.elim
theorem Ik {α:Type} {t:Sem α} {Q:α→Shared→Prop} {E:Value→Shared→Prop} {s:Shared} (kd:KD t) (h:wpAny M A t Q E s):wpAny M A t (fun a s'=>Q a s'∧Dicts s.heap s'.heap) (fun a s'=>E a s'∧Dicts s.heap s'.heap) s:=
 fun Γ p hΓ=>YC t p s kd (h Γ p hΓ)
theorem KD.bind {α β:Type} {f:α→Sem β}:∀{t:Sem α},KD t→(∀a,KD (f a))→KD (t >>=f):=by
 intro t
 induction t with
 |pure a=>exact fun _ h=>h a
 |raise e=>exact fun _ _=>True.intro
 |unsupported w=>exact fun _ _=>True.intro
 |finish w=>exact fun _ _=>True.intro
 |rule t k ih=>exact fun kd h=>ih () kd h
 |«at» t k ih=>exact fun kd h=>ih () kd h
 |load a x k ih=>exact fun kd h o=>ih o (kd o) h
 |update a x g k ih=>exact fun kd h=>⟨kd.1,ih () kd.2 h⟩
 |alloc o k ih=>exact fun kd h a=>ih a (kd a) h
 |loadIfAlive a k ih=>exact fun kd h a=>ih a (kd a) h
 |point l k ih=>exact fun kd h=>ih () kd h
 |register a k ih=>exact fun kd h=>True.intro
 |fresh k ih=>exact fun kd h a=>ih a (kd a) h
 |ask k ih=>exact fun kd h a=>ih a (kd a) h
 |choose src n k ih=>exact fun kd h a=>ih a (kd a) h
 |os q l k ih=>exact fun kd h a=>ih a (kd a) h
 |call c h g l k ih=>exact fun kd h=>kd.elim
 |handled o k ih=>exact fun kd h a=>ih a (kd a) h
 |newGen c k ih=>exact fun kd h a=>ih a (kd a) h
 |genState g k ih=>exact fun kd h a=>ih a (kd a) h
 |resume g r l k ih=>exact fun kd h=>kd.elim
 |yield v g l k ih=>exact fun kd h=>True.intro
 |stack k ih=>exact fun kd h a=>ih a (kd a) h
 |fork c k ih=>exact fun kd h=>True.intro
 |thread k ih=>exact fun kd h a=>ih a (kd a) h
 |await a t b l k ih=>exact fun kd h=>True.intro
theorem FD {α:Type} {c:Prop} [Decidable c] {a b:Sem α} (ha:KD a) (hb:KD b):KD (if c then a else b):=by split<;>assumption
theorem ML:KD (load a):=fun _=>True.intro
theorem YD {f:Array Value→Array Value} (o:Obj):(Obj.mapFields f o).dict=o.dict∧(o.isFreed=false→(Obj.mapFields f o).isFreed=false):=by obtain ⟨c,d,dt,sl⟩:=o;cases dt<;>exact ⟨rfl,fun h=>h⟩
theorem YE:KD (fieldsOf v):=by
 unfold fieldsOf;split
 ·exact KD.bind ML fun o=>by split<;>exact True.intro
 ·exact True.intro
theorem Kg {i:Nat}:KD (field v i):=by unfold field;exact KD.bind YE fun o=>by split<;>exact True.intro
theorem MM {i:Nat}:KD (setField v i x):=by
 unfold setField;split
 ·unfold updateField;refine KD.bind ML fun o=>?_;split
  ·exact FD ⟨YD,True.intro⟩ True.intro
  ·exact True.intro
 ·exact True.intro
theorem MN {o:Option Addr}:KD (setFlight v o):=by unfold setFlight;exact KD.bind Kg fun o=>FD MM True.intro
theorem YF {n:String}:KD (newFields n vs):=by
 unfold newFields newObj;unfold newObjAsIs;dsimp only;split
 ·exact True.intro
 ·exact fun a=>True.intro
theorem P8:∀{l:List Env},KD (readyFrames l)
 |[]=>True.intro
 |env::outer=>by
  unfold readyFrames;split
  ·refine KD.bind ML fun o=>FD True.intro (KD.bind ?_ fun b=>KD.bind ?_ fun v=>KD.bind ⟨fun o=>⟨rfl,fun h=>?_⟩,True.intro⟩ fun _=>P8)
   ·unfold behindIsImport;exact FD True.intro (FD True.intro (KD.bind Kg fun _=>True.intro))
   ·unfold keptBack;split
    ·exact FD True.intro fun _=>True.intro
    ·exact True.intro
   ·obtain ⟨c,d,dt,sl⟩:=o;cases dt<;>exact h
  ·exact True.intro
theorem YG:KD (PySem.frameOf env):=by
 unfold PySem.frameOf;refine KD.bind (fun _=>True.intro) fun l=>KD.bind ?_ fun o=>?_
 ·unfold frameObject;split
  ·exact True.intro
  ·exact KD.bind P8 fun _=>True.intro
 ·split<;>exact True.intro
theorem YH {b:Bool}:KD (entryPlaceOf f b):=by
 unfold entryPlaceOf;intro l
 show KD (match l.find? _ with |some (_,pos)=>_ |none=>_)
 split<;>exact True.intro
theorem P9:KD (noteFrame e env):=by
 unfold noteFrame;split
 ·refine KD.bind Kg fun hd=>?_;have AJ:∀f:Addr,KD (do setField e 1 (←EntryCells.newEntry hd (←PySem.frameOf env) .none (rawInt f) .none (←entryPlaceOf f (hd != .none)))):=fun f=>KD.bind YG fun _=>KD.bind YH fun _=>KD.bind YF fun _=>MM
  refine FD (KD.bind Kg fun x=>FD True.intro (KD.bind MM fun _=>?_)) ?_
  ·exact AJ _
  ·exact AJ _
 ·exact True.intro
theorem Qa:KD (leaving env e):=by unfold leaving;exact KD.bind P9 fun _=>MN
open Classical in
noncomputable def blank (p:Addr→Prop) (h:Heap):Heap:=⟨h.objs.mapIdx fun i o=>if p i then {o with data:=.freed} else o,h.life⟩
theorem Gh {p:Addr→Prop} (hp:p b):(blank p h).get? b=none:=by
 unfold blank Heap.get?;simp only [Array.getElem?_mapIdx];cases e:h.objs[b]? with
 |none=>rfl
 |some o=>simp [hp]
theorem Gi {p:Addr→Prop} {h:Heap} (hp:¬p b):(blank p h).get? b=h.get? b:=by
 unfold blank Heap.get?;simp only [Array.getElem?_mapIdx];cases e:h.objs[b]? with
 |none=>rfl
 |some o=>simp [hp]
theorem MP {p:Addr→Prop}:(blank p h).StaysIn h:=fun b o e=>by
 by_cases hp:p b
 ·rw [Gh hp] at e;cases e
 ·rw [Gi hp] at e;exact e
inductive Kh (h0 h:Heap) (H:Hp) (a:Addr) (C:Value) (da:Option Addr):Prop where
 |mk (new:h0.get? a=none) (no:H a=none) (oe:Obj) (vs:Array Value) (a0:Value) (T:Addr) (oT:Obj) (ts:Array Value) (e1:h.get? a=some oe) (e2:oe.cls=C∧vs[0]?=some a0) (e3:oe.data=.fields vs) (e4:vs[1]?=some (.ref T)) (e5:h0.get? T=none) (e6:H T=none) (e7:T≠a) (e8:h.get? T=some oT) (e9:oT.data=.fields ts) (e10:ts[3]?=some .none) (e11:oe.dict=da):Kh h0 h H a C da
abbrev E1 (n:Str):Value:=.str n 0
inductive Ba (P:Program) (w:World) (K:PySem.W.Frag) (outer:List Env) (H:Hp) (s:Shared) (E:XK) (e:Value) (s':Shared):Prop where
 |mk (a C:Addr) (n:Str) (da:Option Addr) (H':Hp) (ee:e=.ref a) (os:s'.os=s.os) (bare:AllBare s'.gens) (un:Un (frs outer) [] H H' s.heap s'.heap) (hok:HOk P w H' s'.heap) (fly:Kh s.heap s'.heap H' a (.ref C) da) (nm:PySem.W.nsIn K mainGlobals n=some (some (.ref C))) (q:E (E1 n) da H'):Ba P w K outer H s E e s'
theorem Ki {h base:Heap} {p:Addr→Prop}:∀{l:List Env},h.FunFrames base l→(∀b∈frs l,p b)→h.FunFrames (blank p h) l
 |[],_,_=>trivial
 |env::rest,⟨k,⟨L,o,hf,_,ho,hd⟩,r⟩,hp=>⟨k,⟨L,o,hf,Gh (hp L (by unfold frs;rw [ED,hf];exact AK)),ho,hd⟩,
  Ki r fun b hb=>hp b (by unfold frs at hb ⊢;rw [ED,hf];exact AN _ hb)⟩
theorem MQ {h:Heap} {o:HO} (x:ObjOk P w H h a o):∃ob,h.get? a=some ob:=by
 cases o with
 |lst xs=>obtain ⟨_,_,_,_,e⟩:=x;exact ⟨_,e⟩
 |tup xs=>obtain ⟨_,_,_,⟨_,e,_⟩,_⟩:=x;exact ⟨_,e⟩
 |own y=>exact x
 |ins C dx fs=>obtain ⟨_,_,_,e,_⟩:=x;exact ⟨_,e⟩
 |xd fs=>obtain ⟨_,⟨_,_,_,e,_⟩,_⟩:=x;exact ⟨_,e⟩
 |frz ob u=>obtain ⟨e,_⟩:=x;exact ⟨_,e⟩
 |tbl ps=>exact ⟨_,x⟩
 |ext φ=>exact x.2.1
 |mex φ=>exact x.2.1
 |dct φ=>exact x.2.1
structure Lv (X:Cx) (E:XK):Prop where
 xe:∀e s',wpAny (model X.prog X.w) X.A (leaving X.env e) (fun _ s''=>Ba X.prog X.w X.K X.outer X.H₀ X.s₀ E e s'') (fun e' s''=>Ba X.prog X.w X.K X.outer X.H₀ X.s₀ E e' s'') s'→X.xe e s'
 stk:X.stack=X.env::X.outer
 fr:X.env.frame=some X.env.locals
 ex:X.ex=[]
theorem Kj {K:PySem.W.Frag} {N:List Str}:Lv (BP (Ba P w K) P w K mg base N qual scope f cd A outer s H E) E:=
 ⟨fun _ _ h=>h,rfl,rfl,rfl⟩
section
variable {X:Cx} {E:XK}
theorem Lv.frs (lv:Lv X E):L2.frs X.stack=X.env.locals::X.fs:=by rw [lv.stk];unfold L2.frs;rw [ED,lv.fr];rfl
theorem Qb {H':Hp} {s':Shared} (lv:Lv X E)
 (I:Inv X pins σ H' s')
 (na:X.s₀.heap.get? a=none) (nT:X.s₀.heap.get? T=none) (ha:H' a=none) (hT:H' T=none) {a0:Value}
 (L:Heap.LeftW (blank (fun b=>b=a∨b=T∨b∈frs X.stack) s'.heap) X.stack a C a0 s'.heap h') {da:Option Addr} {oa:Obj} (ea:s'.heap.get? a=some oa) (ed:oa.dict=da) (dd:Dicts s'.heap h'):
 Un X.fs [] X.H₀ H' X.s₀.heap h'∧HOk X.prog X.w H' h'∧Kh X.s₀.heap h' H' a C da:=by
 obtain ⟨stay,ff,⟨oe,vs,T2,oT,ts,e1,e2,e3,e4,e5,e6,e7,e8,e9⟩,ups⟩:=L;have e11:oe.dict=da:=by obtain ⟨o',q1,q2⟩:=dd a oa ea;rw [e1] at q1;cases q1;exact q2.trans ed
 have B:Un X.fs [] X.H₀ H' X.s₀.heap s'.heap:=by have:=I.base;rw [lv.ex] at this;exact this
 have stk:=I.stack;have frNone:∀b∈frs X.stack,H' b=none:=fun b hb=>I.stkFree b hb;have keepOf:∀b o,¬(b=a∨b=T∨b∈frs X.stack)→s'.heap.get? b=some o→h'.get? b=some o:=fun b o hb e=>stay b o (by rw [Gi hb];exact e);have notL:∀b o,X.s₀.heap.get? b=some o→b∉X.fs→b∉frs X.stack:=fun b o e hb z=>by
  rw [lv.frs] at z;rcases qa5.mp z with z |z
  ·have:=AC e;rw [z] at this;exact absurd (AU this I.ok.above) (CB _)
  ·exact hb z
 have old:∀b o,X.s₀.heap.get? b=some o→b≠a∧b≠T:=fun b o e=>⟨fun z=>(by rw [z,na] at e;cases e),fun z=>(by rw [z,nT] at e;cases e)⟩
 have noFields:∀b,b∈frs X.stack→∃o,s'.heap.get? b=some o∧∀vs,o.data≠.fields vs:=fun b hb=>(stk.mem hb).2;have any:∀b o,X.s₀.heap.get? b=some o→s'.heap.get? b≠none→∃o',h'.get? b=some o':=fun b o e hn=>by
  cases e':s'.heap.get? b with
  |none=>exact absurd e' hn
  |some o'=>
   by_cases hb:b∈frs X.stack
   ·obtain ⟨o2,h2,d2⟩:=noFields b hb;obtain ⟨sl,h3⟩:=ups b o2 h2 d2;exact ⟨_,h3⟩
   ·exact ⟨o',keepOf b o' (fun z=>by rcases z with z |z |z;exact (old b o e).1 z;exact (old b o e).2 z;exact hb z) e'⟩
 refine ⟨⟨fun b o e n hb hx=>?_,fun b o e n hb hx=>?_,B.free,fun b o e hx=>?_,B.tups,B.frzs,B.tbls⟩,fun b o e=>?_,na,ha,oe,vs,a0,T2,oT,ts,e1,e2,e3,e4,?_,?_,e6,e7,e8,e9,e11⟩
 ·exact keepOf b o (fun z=>by rcases z with z |z |z;exact (old b o e).1 z;exact (old b o e).2 z;exact notL b o e hb z) (B.keep b o e n hb hx)
 ·obtain ⟨sl,h1⟩:=B.slot b o e n hb hx;have hb':b∈frs X.stack:=by rw [lv.frs];exact AN _ hb
  obtain ⟨o2,h2,d2⟩:=noFields b hb';rw [h1] at h2;cases h2;obtain ⟨sl2,h3⟩:=ups b _ h1 d2;exact ⟨sl2,h3⟩
 ·obtain ⟨o',h1⟩:=B.there b o e hx;exact any b o e (by rw [h1];simp)
 ·refine (I.hok b o e).stay (fun c u hc q=>keepOf c u (fun z=>?_) q) (fun _ q=>q) fun _ _ q=>q;have hc':H' c≠none:=by
   rcases hc with rfl |hc
   ·rw [e];simp
   ·rw [hc];simp
  rcases z with z |z |z
  ·exact hc' (z ▸ ha)
  ·exact hc' (z ▸ hT)
  ·exact hc' (frNone c z)
 ·cases q:X.s₀.heap.get? T2 with
  |none=>rfl
  |some o=>
   exfalso;obtain ⟨o',h1⟩:=B.there T2 o q (by simp)
   by_cases hb:T2∈frs X.stack
   ·obtain ⟨o2,h2,d2⟩:=noFields T2 hb;obtain ⟨sl,h3⟩:=ups T2 o2 h2 d2;rw [h3] at e7;cases e7;exact d2 _ e8
   ·rw [Gi (fun z=>by rcases z with z |z |z;exact (old T2 o q).1 z;exact (old T2 o q).2 z;exact hb z),h1] at e5;cases e5
 ·cases q:H' T2 with
  |none=>rfl
  |some o=>
   exfalso
   by_cases hb:T2=a∨T2=T∨T2∈frs X.stack
   ·rcases hb with z |z |z
    ·rw [z,ha] at q;cases q
    ·rw [z,hT] at q;cases q
    ·rw [frNone T2 z] at q;cases q
   ·rw [Gi hb] at e5;obtain ⟨ob,eb⟩:=MQ (I.hok T2 o q);rw [eb] at e5;cases e5
theorem Lv.older (lv:Lv X E) {pins:List (Addr×Obj)} {σ:L2.St} {H1:Hp} {s1:Shared} (I:Inv X pins σ H1 s1):∀b,s1.heap.get? b=none→X.s₀.heap.get? b=none:=fun b hb=>by
 cases q:X.s₀.heap.get? b with
 |none=>rfl
 |some o=>obtain ⟨o',h1⟩:=I.base.there b o q (by rw [lv.ex];simp);rw [hb] at h1;cases h1
theorem MR (lv:Lv X E):F4 (Ba X.prog X.w X.K) X E:=by
 rintro pins σ H1 s1 e s' I ⟨a,C,n,da,H',ee,os,bare,un,hok,fly,nm,q⟩;subst ee;have I':Inv X pins σ H' s':=I.call' os un hok bare (fun b hb=>absurd hb (by simp));obtain ⟨fnew,fno,oe,vs,a0,T,oT,ts,e1,e2,e3,e4,e5,e6,e7,e8,e9,e10,e11⟩:=fly;have fro:X.A.frames=some (X.env::X.outer):=by rw [←lv.stk];exact I'.ok.frames
 have stk:s'.heap.FunFrames X.base (X.env::X.outer):=by have:=I'.stack;rw [lv.stk] at this;exact this
 have run:=Ik Qa (wpAny_leaving_nextW (M:=model X.prog X.w) (E:=fun _ _=>False) (Q:=fun _ s''=>∃h',s''={s' with heap:=h'}∧Heap.LeftW (blank (fun b=>b=a∨b=T∨b∈frs X.stack) s'.heap) (X.env::X.outer) a (.ref C) a0 s'.heap h') (base:=blank (fun b=>b=a∨b=T∨b∈frs X.stack) s'.heap) (cls:=.ref C) (a0:=a0) fro (Ki stk fun b hb=>.inr (.inr (by rw [lv.stk];exact hb))) lv.fr
  ⟨oe,vs,T,oT,ts,e1,e2,e3,e4,Gh (.inr (.inl rfl)),e7,e8,e9,e10⟩ MP (Gh (.inl rfl)) fun h' L=>⟨h',rfl,L⟩)
 refine lv.xe _ _ (A1 run (fun _ s'' z=>?_) fun _ _ z=>z.1.elim);obtain ⟨⟨h',rfl,L⟩,D⟩:=z;obtain ⟨u1,u2,u3⟩:=Qb lv I' (lv.older I a fnew) (lv.older I T e5) fno e6 (by rw [lv.stk] at *;exact L) e1 e11 D;exact ⟨a,C,n,da,H',rfl,I'.os,bare,u1,u2,u3,nm,q⟩
theorem YI (lv:Lv X E) {pins:List (Addr×Obj)} {σ:L2.St} {H1:Hp} {s1:Shared} {a C:Addr} {n:Str} {da:Option Addr} {oe:Obj} {vs:Array Value} {a0:Value} (I':Inv X pins σ H1 s1)
 (e1:s1.heap.get? a=some oe) (ec:oe.cls=.ref C) (e3:oe.data=.fields vs) (v0:vs[0]?=some a0) (v1:vs[1]?=some .none) (ed:oe.dict=da) (new:X.s₀.heap.get? a=none) (fresh:H1 a=none) (nm:PySem.W.nsIn X.K mainGlobals n=some (some (.ref C))) (q:E (E1 n) da H1):X.xe (.ref a) s1:=by
 have fro:X.A.frames=some (X.env::X.outer):=by rw [←lv.stk];exact I'.ok.frames
 have stk:s1.heap.FunFrames X.base (X.env::X.outer):=by have:=I'.stack;rw [lv.stk] at this;exact this
 have run:=Ik Qa (wpAny_leaving_firstW (M:=model X.prog X.w) (E:=fun _ _=>False) (Q:=fun _ s''=>∃h',s''={s1 with heap:=h'}∧Heap.LeftW (blank (fun b=>b=a∨b=a∨b∈frs X.stack) s1.heap) (X.env::X.outer) a oe.cls a0 s1.heap h') (base:=blank (fun b=>b=a∨b=a∨b∈frs X.stack) s1.heap) (a0:=a0) fro (Ki stk fun b hb=>.inr (.inr (by rw [lv.stk];exact hb))) lv.fr
  e1 MP (Gh (.inl rfl)) e3 v1 v0 fun h2 L=>⟨h2,rfl,L⟩)
 refine lv.xe _ _ (A1 run (fun _ s'' z=>?_) fun _ _ z=>z.1.elim);obtain ⟨⟨h',rfl,L⟩,D⟩:=z;obtain ⟨u1,u2,u3⟩:=Qb lv I' new new fresh fresh (by rw [lv.stk] at *;exact L) e1 ed D;rw [ec] at u3;exact ⟨a,C,n,da,H1,rfl,I'.os,I'.bare,u1,u2,u3,nm,q⟩
theorem YJ (lv:Lv X E) {pins:List (Addr×Obj)} {σ:L2.St} {H1:Hp} {s1:Shared} {h':Heap} {a C:Addr} {n:Str} {vs:List Value} (I:Inv X pins σ H1 s1)
 (m:Heap.MadeExcOf s1.heap h' a (.ref C) vs) (nm:PySem.W.nsIn X.K mainGlobals n=some (some (.ref C))) (q:E (E1 n) none H1):X.xe (.ref a) {s1 with heap:=h'}:=by
 have I':Inv X pins σ H1 {s1 with heap:=h'}:=I.kept m.keeps;obtain ⟨t,e1,e2,e3⟩:=m.there;have fresh:H1 a=none:=by
  cases q:H1 a with
  |none=>rfl
  |some o=>obtain ⟨ob,eb⟩:=MQ (I.hok a o q);rw [m.new] at eb;cases eb
 exact YI lv I' e1 rfl rfl rfl rfl rfl (lv.older I a m.new) fresh nm q
end
section
variable {P:Program} {w:World} {K:PySem.W.Frag} {mg:Str→Option Value} {base:Heap} {N:List Str} {qual:Str} {scope:Scope} {f:Addr} {cd:Value} {A:Around} {outer:List Env} {s:Shared} {H:Hp} {E:XK}
theorem YK:F4 (Ba P w K) (BP (Ba P w K) P w K mg base N qual scope f cd A outer s H E) E:=MR Kj
theorem YL {s1:Shared} (I:Inv (BP (Ba P w K) P w K mg base N qual scope f cd A outer s H E) pins σ H1 s1)
 (m:Heap.MadeExcOf s1.heap h' a (.ref C) vs) (nm:PySem.W.nsIn K mainGlobals n=some (some (.ref C))) (q:E (E1 n) none H1):(BP (Ba P w K) P w K mg base N qual scope f cd A outer s H E).xe (.ref a) {s1 with heap:=h'}:=YJ Kj I m nm q
end
inductive Qc (h:Heap) (C:Addr) (bmB:List Value) (newId:String):Prop where
 |mk (bm:List Value) (N:Addr) (nm q:Str) (bs:List Value) (hdct:Bool) (sn:List Str) (sub:List Value) (ab:Bool) (col:Option Bool) (dd:Option Addr) (k0 k1 k2 k3 k5:Option Value) (mN:Str→Option Value)
  (hC:h.get? C=some (excClassObj nm q C N bs bm hdct sn sub ab col dd k0 k1 k2 k3 k5 newId)) (hN:h.Ns N mN) (hni:mN "__init__"=none) (T:OwnTail h bmB bm):Qc h C bmB newId
def MU (K:PySem.W.Frag) (C:Addr) (bmB:List Value) (newId:String):Prop:=∀h:Heap,K.In h→Qc h C bmB newId
def G6:Data→Option ClassData
 |.cls c=>some c
 |_=>none
theorem YM {d:Data} {c:ClassData} (h:G6 d=some c):d=.cls c:=by cases d<;>first |(cases h;rfl) |cases h
inductive Qd {α:Type} (l:List α):Prop where
 |mk (a b c d e f:α) (q:l=[a,b,c,d,e,f]):Qd l
theorem YN {α:Type} {l:List α} (h:l.length=6):Qd l:=by
 cases l with
 |nil=>cases h
 |cons a l=>cases l with
  |nil=>cases h
  |cons b l=>cases l with
   |nil=>cases h
   |cons c l=>cases l with
    |nil=>cases h
    |cons d l=>cases l with
     |nil=>cases h
     |cons e l=>cases l with
      |nil=>cases h
      |cons f l=>cases l with
       |nil=>exact ⟨a,b,c,d,e,f,rfl⟩
       |cons g l=>cases h
def Kk (K:PySem.W.Frag) (C:Addr) (bmB:List Value) (newId:String) (o:Obj) (cd:ClassData):Bool:=
 decide (o.cls=.type "type")&&(decide (cd.mro=.ref C::cd.mro.tail)&&(!cd.hasDel&&(PySem.W.tailIn K bmB cd.mro.tail&&(PySem.W.nsOkIn K cd.ns&&(PySem.W.nsIn K cd.ns "__init__"==some none&&(decide (o.slots.toList.length=6)&&decide (o.slots.toList[4]?=some (some (.builtin newId)))))))))
def MV (K:PySem.W.Frag) (C:Addr) (bmB:List Value) (newId:String):Bool:=match K.lookup C with
 |some o=>(match G6 o.data with
  |some cd=>Kk K C bmB newId o cd
  |none=>false)
 |none=>false
theorem YO {K:PySem.W.Frag} {newId:String} (q:MV K C bmB newId=true):MU K C bmB newId:=by
 intro h X;unfold MV at q;cases lk:K.lookup C with
 |none=>rw [lk] at q;cases q
 |some o=>
  rw [lk] at q;replace q:(match G6 o.data with |some cd=>Kk K C bmB newId o cd |none=>false)=true:=q;cases ec:G6 o.data with
  |none=>rw [ec] at q;cases q
  |some cd=>
   rw [ec] at q;replace q:Kk K C bmB newId o cd=true:=q;unfold Kk at q;simp only [B3,decide_eq_true_eq,Bool.not_eq_true',beq_iff_eq] at q;obtain ⟨e1,e2,e3,e4,e5,e6,e7,e8⟩:=q;obtain ⟨cls,od,dt,⟨sl⟩⟩:=o;obtain ⟨nm,bs,mro,ns,qn,hd,sn,sub,ab,col,del⟩:=cd;replace ec:=YM ec;simp only at ec e1 e2 e3 e4 e5 e6 e7 e8;obtain ⟨k0,k1,k2,k3,k4,k5,rfl⟩:=YN e7;cases mro with
   |nil=>cases e2
   |cons c bm=>cases e2;cases Option.some.inj e8;subst ec e1 e3;exact ⟨_,_,_,_,_,_,_,_,_,_,_,_,_,_,_,_,h.nsMap ns,X _ _ lk,.of_isNs (PySem.W.isNs_of_in X e5),PySem.W.nsMap_none_of_in X e5 e6,PySem.W.tail_of_in X e4⟩
abbrev Kl:List Value:=[.type "ValueError",.type "Exception",.type "BaseException",.type "object"]
def MW (X:Cx) (E:XK):Prop:=∀(pins:List (Addr×Obj)) (σ:L2.St) (H1:Hp) (s1:Shared) (h':Heap) (a C:Addr) (n:Str) (vs:List Value),Inv X pins σ H1 s1→Heap.MadeExcOf s1.heap h' a (.ref C) vs→PySem.W.nsIn X.K mainGlobals n=some (some (.ref C))→E (E1 n) none H1→X.xe (.ref a) {s1 with heap:=h'}
theorem YQ {K:PySem.W.Frag} {N:List Str}:
 MW (BP (Ba P w K) P w K mg base N qual scope f cd A outer s H E) E:=fun pins σ H1 s1 h' a C n vs I m nm q=>YL I m nm q
section
variable {X:Cx} {E:XK}
def Il (n:Str) (fa:MA):MS:=fun ρ h=>(fa ρ h).bind fun xs h1=>if xs.length≤sizeLine then .err (E1 n) [] h1 else .stuck
theorem YR {e:Expr} (O:MU X.K C Kl "ValueError.__new__") (nmC:PySem.W.nsIn X.K mainGlobals x=some (some (.ref C))) (hg:Gl X x) (hc:X.calm=true) (th:MW X E) (ha:CG X E (e::es) fa)
 (hdb:(x==("__debug__":Str))=false:=by decide) (he:starEach (e::es) X.env=(false,eval e X.env)::starEach es X.env:=by rfl) (hpl:(backTo cpos (starEach (e::es) X.env)).any (·.1)=false:=by rfl):
 Ex X E (.Raise (some (.Call (.Name x np) (e::es) [] cpos)) none pos) (Il x fa):=by
 rintro pins s σ H D I ⟨m,ρ,h,hr,er,p⟩;have hm:X.mg x=some (.ref C):=PySem.W.mg_of I.mod.kin I.mod.glob nmC;obtain ⟨bm,NN,nm,q,bs,hdct,sn,sub,ab,col,dd,k0,k1,k2,k3,k5,mN,hC,hN,hni,T⟩:=O X.base I.mod.kin;refine wpAny_Raise_call_subT (C:=C) (nm:=nm) (q:=q) (N:=NN) (bs:=bs) (bm:=bm) (hdct:=hdct) (sn:=sn) (sub:=sub) (ab:=ab) (col:=col) (dd:=dd) (k0:=k0) (k1:=k1) (k2:=k2) (k3:=k3) (k5:=k5)
  PySem.F.excBase_ValueError (mN:=mN) (T.hasType PySem.F.excBase_ValueError.hasBase) (I.ok.hd hc) hpl hni (GI I hg hm ⟨rfl,?_⟩ hdb)
 have hh:=ha cpos pins s σ H (fun vs H1=>vs.length≤sizeLine∧E (E1 x) none H1) I ⟨m,ρ,h,hr,er,PostS.bind p fun xs h1 vs m1 H1 _ p1 k1 hr1 r1 q1=>by
  split at q1
  ·rename_i hz;exact ⟨by rw [←DVs.len r1];exact hz,q1 none m1 H1 (Ay _) (.refl _) hr1 (fun f d z=>by cases z)⟩
  ·exact q1.elim⟩
 rw [he] at hh ⊢;exact Calls.evalArgs_plain (Au hh fun us s1 z1_=>by obtain ⟨vs,H1,I1,r,hl,q1⟩:=z1_;exact (⟨rfl,by rw [←r.length];exact hl,I1.bk _ _ hC,hN.keeps I1.bk,T.keeps I1.bk,fun h' a z=>th pins σ H1 s1 h' a C x us I1 z nmC q1⟩))
inductive E2 (K:PySem.W.Frag) (F:List D→HD→Out D) (vs:List V) (H:Hp) (Q:VK) (E:XK):Prop where
 |mk (m:List Addr) (ds:List D) (h:HD) (hr:HR K m h H) (r:DVs K m H ds vs) (p:Post K (rD K) m H E Q (F ds h)):E2 K F vs H Q E
theorem YS {K:PySem.W.Frag}:F4 (Ba P w K) X E0:=fun _ _ _ _ _ _ _ z2_=>by obtain ⟨_,_,_,_,_,_,_,_,_,_,_,_,q⟩:=z2_;exact (q.elim)
theorem Km {K:PySem.W.Frag} {n:Nat} (ar:Ar n F) {vs:List V} {H:Hp} {Q:VK} {E':XK} (h:E2 K F vs H Q E'):vs.length=n:=by
 obtain ⟨m,ds,hd,hr,r,p⟩:=h;rw [←r.len]
 by_cases e:ds.length=n
 ·exact e
 ·rw [ar ds hd e] at p;exact p.elim
structure CaE (P:Program) (w:World) (K:PySem.W.Frag) (mg:Str→Option Value) (base:Heap) (x:Str) (k:Nat) (F:List D→HD→Out D):Prop where
 ex:∃(f:Addr) (fd:FuncData) (ps:List Str),FnOk P w K mg base (Ba P w K) k f fd ps (E2 K F)∧Binds K fd ps []∧mg x=some (.ref f)∧PySem.W.keepIn K (.ref f)=true
theorem YT {k k':Nat} {x:Str} {e:Expr} (C:CaE X.prog X.w X.K X.mg X.base x k F) (hr:Room k' X.A) (hx:F4 (Ba X.prog X.w X.K) X E) (ha:CG X E (e::es) fa) (hk:k≤k':=by decide) (hg:Gl X x:=by rfl)
 (hdb:(x==("__debug__":Str))=false:=by decide) (he:starEach (e::es) X.env=(false,eval e X.env)::starEach es X.env:=by rfl) (hpl:(backTo pos (starEach es X.env)).any (·.1)=false:=by rfl):
 Ev X E (.Call (.Name x p) (e::es) [] pos) (Af F fa):=by
 obtain ⟨f,fd,ps,G,hb,hm,hkp⟩:=C.ex;exact BI (Wb (E:=E) G (hr.mono hk) hg hm hkp hb .nil hx ha hdb he hpl) fun σ H Q z3_=>by obtain ⟨m,ρ,hd,hr,er,p⟩:=z3_;exact (⟨m,ρ,hd,hr,er,Post.bind p fun xs h1 vs m1 H1 e1 p1 k1 hr1 r1 q1=>by rw [Dx];exact ⟨m1,xs,h1,hr1,r1,q1⟩⟩)
theorem YU {K:PySem.W.Frag} {st:Stmt} {N ps:List Str} {k:Nat} {F:List D→HD→Out D} (Fn:Fun K x qual st f fd) (S:DQ N ps (defScope st)) (ar:Ar ps.length F)
 (hg:∀ds h,ds.length=ps.length→F ds h=AL N.length g ds h)
 (hbody:∀(cdv:Value) (A:Around) (outer:List Env) (s:Shared) (H:Hp) (E:XK),Room k (A.deeper (envOfC qual (defScope st) s.heap.objs.size f cdv))→CH (BP (Ba P w K) P w K mg base N qual (defScope st) f cdv A outer s H E) E (defBody st) g):FnOk P w K mg base (Ba P w K) (k+1) f fd ps (E2 K F):=by
 obtain ⟨oc,od,kV,doc,pm,an,cdv,ct,osl,rfl,lk,hcd⟩:=Fn.ex;refine OO lk hcd S (fun vs H Q E h=>Km ar h) fun A outer s H vs Q E hr h=>?_;refine ⟨_,hbody cdv A outer s H E hr,?_⟩;have hl:=Km ar h;obtain ⟨m,ds,hd,hr1,r,p⟩:=h;have hld:ds.length=ps.length:=by rw [r.len];exact hl
 refine ⟨m,ds.map some++List.replicate (N.length - ds.length) none,hd,hr1,ER.start r,?_⟩;rw [hg ds hd hld] at p;unfold AL at p;cases o:g (ds.map some++List.replicate (N.length - ds.length) none) hd with
 |stuck=>rw [o] at p;exact p
 |err C fs h1=>rw [o] at p;exact p
 |ok a h1=>
  rw [o] at p;obtain ⟨fl,ρ1⟩:=a;intro m1 H1 p1 k1 hr1;cases fl with
  |nx=>exact fun σ er=>p .non m1 H1 p1 k1 hr1 (by simp [rD,DV])
  |bk=>exact False.elim p
  |ct=>exact False.elim p
  |rt d=>exact fun v rv=>p v m1 H1 p1 k1 hr1 rv
end
theorem Qe {K:PySem.W.Frag} {N:List Str}:
 PassesOwn (model P w) (BP (Ba P w K) P w K mg base N qual scope f cd A outer s H E).A (BP (Ba P w K) P w K mg base N qual scope f cd A outer s H E).env (BP (Ba P w K) P w K mg base N qual scope f cd A outer s H E).xe:=by
 passes_own
section
variable {X:Cx} {E:XK}
abbrev MO:=Ag→HD→Out (Option Int)
abbrev G7 (X:Cx) (E:XK) (e:Option Expr) (f:MO):Prop:=PO X e (tM X.K (fun _ _ a b=>a=b) E f)
def AX:MO:=fun _ h=>.ok none h
def AM (f:ME):MO:=fun ρ h=>(f ρ h).bind fun x h1=>match x with
 |.int i=>.ok (some i) h1
 |_=>.stuck
theorem Qf {e:Option Expr} {t t':TO} (h:PO X e t) (i:∀σ H Q,t' σ H Q→t σ H Q):PO X e t':=fun pins s σ H Q I q=>h pins s σ H Q I (i σ H Q q)
theorem YV:G7 X E none AX:=Qf Wj fun σ H Q z1_=>by obtain ⟨m,ρ,h,hr,er,p⟩:=z1_;exact (p none m H (Ay _) (.refl _) hr rfl)
theorem YW (he:Ev X E e f):G7 X E (some e) (AM f):=Qf (Wk he) fun σ H Q z2_=>by obtain ⟨m,ρ,h,hr,er,p⟩:=z2_;exact (⟨m,ρ,h,hr,er,Post.bind p fun x h1 v m1 H1 eo p1 k1 hr1 r1 q1=>by
 clear eo;split at q1
 ·rename_i i;simp only [rD,DV] at r1;exact ⟨i,r1,q1 (some i) m1 H1 (Ay _) (.refl _) hr1 rfl⟩
 ·exact q1.elim⟩)
def cutD (xs:List D) (lo hi:Option Int):List D:=(xs.drop (HT.sIx xs.length 0 lo)).take (HT.sIx xs.length xs.length hi - HT.sIx xs.length 0 lo)
theorem DVs.cut {K:PySem.W.Frag} (r:DVs K m H ds vs) (lo hi:Option Int):DVs K m H (cutD ds lo hi) (Fu vs lo hi):=by unfold cutD Fu;rw [r.len];exact (r.drop _).take _
end
theorem vals_ints:∀{ns:List Int} {its:List Value},Vals (ns.map V.int) its→∃ys:List (Int×Tok),its=ys.map (fun p=>Value.int p.1 p.2)∧ys.map (·.1)=ns
 |[],its,r=>by cases r;exact ⟨[],rfl,rfl⟩
 |n::ns,its,r=>by
  cases r with
  |cons r1 r2=>obtain ⟨t,rfl⟩:=r1;obtain ⟨ys,rfl,e⟩:=vals_ints r2;exact ⟨(n,t)::ys,rfl,by simp [e]⟩
section
variable {X:Cx}
def Qg (f:List Int→Int):D→HD→Out D:=fun x h=>match x with
 |.loc l=>match h[l]? with
  |some (.lst ds)=>match Az (ds.map GU) with
   |some ns=>if ns=[] then .stuck else .ok (.int (f ns)) h
   |none=>.stuck
  |_=>.stuck
 |_=>.stuck
end
section
variable {X:Cx} {E:XK}
end
structure G8 (z TI TO p q:Addr) (f g:List Addr):Prop where
 a1:TI≠z
 a2:TO≠z
 a3:p≠z
 a4:q≠z
 a5:TI≠TO
 a6:TI≠p
 a7:TI≠q
 a8:TO≠p
 a9:TO≠q
 b1:p≠q
 b2:z∉f
 b3:z∉g
 b4:TO∉f
 b5:TO∉g
 b6:p∉g
 b7:q∉f
section
variable {prog:Program} {w:World} {A:Around} {E:Value→Shared→Prop} {s:Shared} {z TI TO p q:Addr} {f g:List Addr} {n1 n2 k:Nat} {P1 P2:Nat→Value→Prop} {S1 S2:Nat→Heap→Prop} {a b:Value}
theorem YX {Q:Value→Shared→Prop} (D1:Draws prog w A p f n1 P1 S1) (D2:Draws prog w A q g n2 P2 S2) (ap:G8 z TI TO p q f g)
 (zz:IsZip s.heap z TI TO .none) (zi:IsPair s.heap TI (.ref p) (.ref q)) (zo:IsPair s.heap TO a b) (s1:S1 k s.heap) (s2:S2 k s.heap) (l1:k<n1) (l2:k<n2)
 (hQ:∀h' tk x y,P1 k x→P2 k y→IsZip h' z TI TO (rawInt s.heap.objs.size)→IsPair h' TO x y→S1 (k+1) h'→S2 (k+1) h'→IsPair h' s.heap.objs.size x y→
  (∀c o,c≠z→c≠TO→c≠p→c≠q→s.heap.get? c=some o→h'.get? c=some o)→Q (.ref s.heap.objs.size) {s with heap:=h',toks:=tk}):
 wpAny (model prog w) A (Builtin.«zip.__next__» ⟨[.ref z],[]⟩) (fun AJ s'=>∃v,AJ=.done (.ret v)∧Q v s') E s:=by
 show wpAny _ _ (field (.ref z) 2 >>=_) _ _ _
 refine Ad (wpAny_field zz rfl (x:=.bool false) rfl ?_)
 show wpAny _ _ (field (.ref z) 3 >>=_) _ _ _
 refine Ad (wpAny_field zz rfl (x:=.ref TI) rfl ?_);refine Ad (wpAny_seqItems zi rfl ?_)
 show wpAny _ _ (Builtin.SmallTypes.ownedTupleIsFree (.ref z) >>=_) _ _ _
 refine Ad ?_;unfold Builtin.SmallTypes.ownedTupleIsFree;refine Ad (wpAny_field zz rfl (x:=.none) rfl (Ak ?_));simp only [if_true];refine Ad (wpAny_rule ?_);refine Ad (wpAny_field zz rfl (x:=.ref TO) rfl ?_);refine Ad (wpAny_setField_rec zz (by simp) fun m1 zz1 t1=>?_);replace zz1:IsZip m1 z TI TO .ellipsis:=zz1;refine Ad ?_;simp only [List.zipIdx_cons,List.zipIdx_nil,List.forIn_cons,List.forIn_nil];refine Ad (Ad (wpAny_onRaise ?_))
 show wpAny _ _ (Builtin.SmallTypes.nextOf (.ref p) >>=_) _ _ _
 refine Ad (D1.item k _ _ _ l1 (D1.frame k _ _ s1 fun c hc o e=>t1.extBut _ _ (fun y=>ap.b2 (y ▸ hc)) e) fun x m2 tk2 px s12 t2=>Ak ?_);have zo2:IsPair m2 TO a b:=t2.extBut _ _ ap.a8 (t1.extBut _ _ ap.a2 zo);refine Ad (wpAny_seqItems zo2 rfl ?_);refine Ad (wpAny_updateSeq_pair zo2 fun m3 zo3 t3=>?_);replace zo3:IsPair m3 TO x b:=zo3;refine Ad (wpAny_letGo (Ak ?_));refine Ad (Ad (wpAny_onRaise ?_))
 show wpAny _ _ (Builtin.SmallTypes.nextOf (.ref q) >>=_) _ _ _
 have s23:S2 k m3:=D2.frame k _ _ s2 fun c hc o e=>t3.extBut _ _ (fun y=>ap.b5 (y ▸ hc)) (t2.extBut _ _ (fun y=>ap.b6 (y ▸ hc)) (t1.extBut _ _ (fun y=>ap.b3 (y ▸ hc)) e));refine Ad (D2.item k _ _ _ l2 s23 fun y m4 tk4 py s24 t4=>Ak ?_);have zo4:IsPair m4 TO x b:=t4.extBut _ _ ap.a9 zo3;refine Ad (wpAny_seqItems zo4 rfl ?_);refine Ad (wpAny_updateSeq_pair zo4 fun m5 zo5 t5=>?_);replace zo5:IsPair m5 TO x y:=zo5;refine Ad (wpAny_letGo (Ak (Ak ?_)));refine Ad (wpAny_seqItems zo5 rfl ?_);refine Ad (wpAny_newTuple ?_);have sz:m5.objs.size=s.heap.objs.size:=by rw [t5.1,t4.1,t3.1,t2.1,t1.1]
 have zz5:IsZip m5 z TI TO .ellipsis:=t5.extBut _ _ ap.a2.symm (t4.extBut _ _ ap.a4.symm (t3.extBut _ _ ap.a2.symm (t2.extBut _ _ ap.a3.symm zz1)));have kp:∀c o,c≠z→c≠TO→c≠p→c≠q→s.heap.get? c=some o→m5.get? c=some o:=fun c o c1 c2 c3 c4 e=>t5.extBut _ _ c2 (t4.extBut _ _ c4 (t3.extBut _ _ c2 (t2.extBut _ _ c3 (t1.extBut _ _ c1 e))));have zlt:z<m5.objs.size:=AC zz5
 show wpAny _ _ (Builtin.SmallTypes.ownedTupleHandOut (.ref z) (.ref m5.objs.size) >>=_) _ _ _
 refine Ad ?_;unfold Builtin.SmallTypes.ownedTupleHandOut;have zz6:IsZip (m5.push {cls:=.type "tuple",data:=.seq #[x,y]}) z TI TO .ellipsis:=Aw _ zz5;refine Ad (wpAny_setField_rec zz6 (by simp) fun m7 zz7 t7=>?_);replace zz7:IsZip m7 z TI TO (rawInt m5.objs.size):=zz7;refine wpAny_setField_rec zz7 (by simp) fun m8 zz8 t8=>?_;replace zz8:IsZip m8 z TI TO (rawInt m5.objs.size):=zz8;have up:∀c o,c≠z→m5.get? c=some o→m8.get? c=some o:=fun c o c1 e=>t8.extBut _ _ c1 (t7.extBut _ _ c1 (Aw _ e));have nw:IsPair m8 m5.objs.size x y:=t8.extBut _ _ (BS zlt) (t7.extBut _ _ (BS zlt) (Bc _ rfl));rw [sz] at zz8 nw;refine Ak ⟨_,rfl,?_⟩
 show Q (.ref m5.objs.size) _
 rw [sz];refine hQ m8 tk4 x y px py zz8 (up _ _ ap.a2 zo5) (D1.frame _ m2 m8 s12 fun c hc o e=>?_) (D2.frame _ m4 m8 s24 fun c hc o e=>?_) nw fun c o c1 c2 c3 c4 e=>up c o c1 (kp c o c1 c2 c3 c4 e)
 ·have n1:c≠TO:=fun y=>ap.b4 (y ▸ hc);exact up c o (fun y=>ap.b2 (y ▸ hc)) (t5.extBut _ _ n1 (t4.extBut _ _ (fun y=>ap.b7 (y ▸ hc)) (t3.extBut _ _ n1 e)))
 ·exact up c o (fun y=>ap.b3 (y ▸ hc)) (t5.extBut _ _ (fun y=>ap.b5 (y ▸ hc)) e)
theorem YY {Q:Fin→Shared→Prop} (D1:Draws prog w A p f n1 P1 S1) (D2:Draws prog w A q g n2 P2 S2) (ap:G8 z TI TO p q f g)
 (zz:IsZip s.heap z TI TO .none) (zi:IsPair s.heap TI (.ref p) (.ref q)) (zo:IsPair s.heap TO a b) (s1:S1 k s.heap) (s2:S2 k s.heap) (hk:k=n1∨(k<n1∧k=n2))
 (hE:∀h' tk e,(∀c o,c≠z→c≠TO→c≠p→c≠q→s.heap.get? c=some o→h'.get? c=some o)→(∃o,h'.get? e=some o∧o.cls=.type "StopIteration")→E (.ref e) {s with heap:=h',toks:=tk}):
 wpAny (model prog w) A (Builtin.«zip.__next__» ⟨[.ref z],[]⟩) Q E s:=by
 show wpAny _ _ (field (.ref z) 2 >>=_) _ _ _
 refine Ad (wpAny_field zz rfl (x:=.bool false) rfl ?_)
 show wpAny _ _ (field (.ref z) 3 >>=_) _ _ _
 refine Ad (wpAny_field zz rfl (x:=.ref TI) rfl ?_);refine Ad (wpAny_seqItems zi rfl ?_)
 show wpAny _ _ (Builtin.SmallTypes.ownedTupleIsFree (.ref z) >>=_) _ _ _
 refine Ad ?_;unfold Builtin.SmallTypes.ownedTupleIsFree;refine Ad (wpAny_field zz rfl (x:=.none) rfl (Ak ?_));simp only [if_true];refine Ad (wpAny_rule ?_);refine Ad (wpAny_field zz rfl (x:=.ref TO) rfl ?_);refine Ad (wpAny_setField_rec zz (by simp) fun m1 zz1 t1=>?_);replace zz1:IsZip m1 z TI TO .ellipsis:=zz1;refine Ad ?_;simp only [List.zipIdx_cons,List.zipIdx_nil,List.forIn_cons,List.forIn_nil];refine Ad (Ad (wpAny_onRaise ?_))
 show wpAny _ _ (Builtin.SmallTypes.nextOf (.ref p) >>=_) _ _ _
 have s11:=D1.frame k _ m1 s1 fun c hc o e=>t1.extBut _ _ (fun y=>ap.b2 (y ▸ hc)) e;rcases hk with hk |⟨hk,hk2⟩
 ·subst hk;refine Ad (D1.done _ _ _ s11 fun m2 e t2 he=>?_);obtain ⟨oe,e1,e2⟩:=he;have zz2:IsZip m2 z TI TO .ellipsis:=t2 _ _ ap.a3.symm zz1;have ne:e≠z:=fun y=>by subst y;rw [zz2] at e1;cases e1;simp at e2
  exact wpAny_setField_rec zz2 (by simp) fun m3 _ t3=>hE m3 _ e (fun c o c1 _ c3 _ y=>t3.extBut _ _ c1 (t2 _ _ c3 (t1.extBut _ _ c1 y))) ⟨oe,t3.extBut _ _ ne e1,e2⟩
 ·subst hk2;refine Ad (D1.item k _ _ _ hk s11 fun x m2 tk2 px s12 t2=>Ak ?_);have zo2:IsPair m2 TO a b:=t2.extBut _ _ ap.a8 (t1.extBut _ _ ap.a2 zo);refine Ad (wpAny_seqItems zo2 rfl ?_);refine Ad (wpAny_updateSeq_pair zo2 fun m3 zo3 t3=>?_);refine Ad (wpAny_letGo (Ak ?_));refine Ad (Ad (wpAny_onRaise ?_))
  show wpAny _ _ (Builtin.SmallTypes.nextOf (.ref q) >>=_) _ _ _
  have s23:S2 k m3:=D2.frame k _ _ s2 fun c hc o e=>t3.extBut _ _ (fun y=>ap.b5 (y ▸ hc)) (t2.extBut _ _ (fun y=>ap.b6 (y ▸ hc)) (t1.extBut _ _ (fun y=>ap.b3 (y ▸ hc)) e));refine Ad (D2.done _ _ _ s23 fun m4 e t4 he=>?_);obtain ⟨oe,e1,e2⟩:=he;have zz4:IsZip m4 z TI TO .ellipsis:=t4 _ _ ap.a4.symm (t3.extBut _ _ ap.a2.symm (t2.extBut _ _ ap.a3.symm zz1));have ne:e≠z:=fun y=>by subst y;rw [zz4] at e1;cases e1;simp at e2
  exact wpAny_setField_rec zz4 (by simp) fun m5 _ t5=>hE m5 _ e (fun c o c1 c2 c3 c4 y=>t5.extBut _ _ c1 (t4 _ _ c4 (t3.extBut _ _ c2 (t2.extBut _ _ c3 (t1.extBut _ _ c1 y))))) ⟨oe,t5.extBut _ _ ne e1,e2⟩
theorem YZ {Q:Option Value→Shared→Prop} (D1:Draws prog w A.in1 p f n1 P1 S1) (D2:Draws prog w A.in1 q g n2 P2 S2) (ap:G8 z TI TO p q f g)
 (zz:IsZip s.heap z TI TO .none) (zi:IsPair s.heap TI (.ref p) (.ref q)) (zo:IsPair s.heap TO a b) (s1:S1 k s.heap) (s2:S2 k s.heap) (l1:k<n1) (l2:k<n2)
 (hQ:∀h' tk x y,P1 k x→P2 k y→IsZip h' z TI TO (rawInt s.heap.objs.size)→IsPair h' TO x y→S1 (k+1) h'→S2 (k+1) h'→IsPair h' s.heap.objs.size x y→
  (∀c o,c≠z→c≠TO→c≠p→c≠q→s.heap.get? c=some o→h'.get? c=some o)→Q (some (.ref s.heap.objs.size)) {s with heap:=h',toks:=tk}):
 wpAny (model prog w) A (pyNext (.ref z)) Q E s:=by
 have hT:s.TypeIs (.ref z) "zip":=⟨_,zz,rfl⟩
 unfold pyNext;exact Ad (wpAny_attempt (wpAny_callSpecial?_slot (name:=Str.ofString "__next__") hT F.slot_zip_next (wpAny_call_entry F.slot_zip_next hT F.entry_zip_next
  (YX D1 D2 ap zz zi zo s1 s2 l1 l2 fun h' tk x y c1 c2 c3 c4 c5 c6 c7 c8=>Ak (hQ h' tk x y c1 c2 c3 c4 c5 c6 c7 c8)) (F.args_zip_next_1 _))))
theorem Y0 {Q:Option Value→Shared→Prop} (D1:Draws prog w A.in1 p f n1 P1 S1) (D2:Draws prog w A.in1 q g n2 P2 S2) (ap:G8 z TI TO p q f g)
 (zz:IsZip s.heap z TI TO .none) (zi:IsPair s.heap TI (.ref p) (.ref q)) (zo:IsPair s.heap TO a b) (s1:S1 k s.heap) (s2:S2 k s.heap) (hk:k=n1∨(k<n1∧k=n2))
 (hQ:∀h' tk,(∀c o,c≠z→c≠TO→c≠p→c≠q→s.heap.get? c=some o→h'.get? c=some o)→Q none {s with heap:=h',toks:=tk}):wpAny (model prog w) A (pyNext (.ref z)) Q E s:=by
 have hT:s.TypeIs (.ref z) "zip":=⟨_,zz,rfl⟩
 unfold pyNext;refine Ad (wpAny_attempt (wpAny_callSpecial?_slot (name:=Str.ofString "__next__") hT F.slot_zip_next (wpAny_call_entry F.slot_zip_next hT F.entry_zip_next
  (YY D1 D2 ap zz zi zo s1 s2 hk fun h' tk e kp he=>?_) (F.args_zip_next_1 _))))
 obtain ⟨o,ho,hc⟩:=he;refine Ad (wpAny_isInstance (T:="StopIteration") (b:=true) ⟨o,ho,hc⟩ isSubtype_stop ?_);exact Ak (hQ _ _ kp)
end
open AutoSeq1 (wpAny_loadPart')
def ItAt:Bool→Heap→Addr→Addr→Nat→Prop
 |true,h,it,l,i=>h.IsTupleIter it l i
 |false,h,it,l,i=>h.IsListIter it l i
def SqA:Bool→Heap→Addr→Array Value→Prop
 |true,h,l,xs=>h.IsTuple l xs
 |false,h,l,xs=>h.IsList l xs
def DE:Bool→PySem.W.Frag→Hp→Addr→List V→Prop
 |true,K,H,a,xs=>SqT K H a xs
 |false,K,H,a,xs=>SqL K H a xs
def Gj (k:Bool) (l:Addr):Obj:={cls:=.type (if k then "tuple_iterator" else "list_iterator"),data:=.fields #[.ref l,.int 0 0]}
theorem Kn {A:Around} (k:Bool) (hh:A.handled=none) (it l:Addr) (hne:l≠it) (items:Array Value):
 Draws prog w A it [it,l] items.size (fun i v=>items[i]?=some v) (fun i h=>ItAt k h it l i∧SqA k h l items):=by
 cases k
 ·exact Draws.list hh it l hne items
 ·exact Yj hh it l hne items
theorem ItAt.obj {k:Bool} {h:Heap} {i:Nat} (x:ItAt k h it l i):∃o,h.get? it=some o∧∀v,o.data≠.cell v:=by
 cases k
 ·obtain ⟨o,e,c,d⟩:=x;exact ⟨o,e,fun v z=>by rw [d] at z;cases z⟩
 ·obtain ⟨o,e,c,d⟩:=x;exact ⟨o,e,fun v z=>by rw [d] at z;cases z⟩
theorem ItAt.at {k:Bool} {h h':Heap} {i:Nat} (x:ItAt k h it l i) (f:∀o,h.get? it=some o→h'.get? it=some o):ItAt k h' it l i:=by
 cases k
 ·exact Heap.IsListIter.at x f
 ·exact Heap.IsTupleIter.at x f
section
variable {X:Cx} {pins:List (Addr×Obj)} {σ:L2.St} {H:Hp} {s:Shared}
theorem G9 {k:Bool} (I:Inv X pins σ H s) (h:DE k X.K H a xs):∃its:List Value,Vals xs its∧SqA k s.heap a its.toArray∧a<s.heap.objs.size:=by
 cases k
 ·obtain ⟨its,r,p,_⟩:=I.list h;have q:=p.isList;exact ⟨its,r,q,by obtain ⟨_,e,_⟩:=q;exact AC e⟩
 ·obtain ⟨its,r,p,_⟩:=I.tuple h;exact ⟨its,r,p,p.lt⟩
theorem Qh {k:Bool} (I:Inv X pins σ H s) (h:DE k X.K H a xs) (h':DE k X.K H a ys):xs=ys:=by
 cases k
 ·exact I.list_inj h h'
 ·exact I.tuple_inj h h'
end
def Qi (K:PySem.W.Frag) (k1 k2:Bool) (t u:Addr):It:=⟨fun i H=>∃xs ys,DE k1 K H t xs∧DE k2 K H u ys∧i<xs.length∧i<ys.length,
 fun i H x H'=>∃p v v',H p=none∧x=.ref p∧(∀xs:List V,DE k1 K H t xs→xs[i]?=some v)∧(∀ys:List V,DE k2 K H u ys→ys[i]?=some v')∧H'=Aq H p (.tup [v,v']),
 fun i H=>∃xs ys,DE k1 K H t xs∧DE k2 K H u ys∧(i=xs.length∨(i<xs.length∧i=ys.length))⟩
inductive Qj (k1 k2:Bool) (z TI TO p q t u:Addr) (i:Nat) (h:Heap):Prop where
 |mk (zz:IsZip h z TI TO .none) (zi:IsPair h TI (.ref p) (.ref q)) (zo:∃a b,IsPair h TO a b) (x1:ItAt k1 h p t i) (x2:ItAt k2 h q u i):Qj k1 k2 z TI TO p q t u i h
theorem Y1 {K:PySem.W.Frag} {kt:Nat} (k1 k2:Bool) (z TI TO p q t u:Addr) (ap:G8 z TI TO p q [p,t] [q,u]) (n1:t≠p) (n2:u≠q):
 GK P w K (.Tuple elts kt tpos) (Qi K k1 k2 t u) [z,TI,TO,p,q] z (Qj k1 k2 z TI TO p q t u) where
 mem:=by simp
 obj:=fun i h st c hc=>by
  obtain ⟨zz,zi,⟨a,b,zo⟩,x1,x2⟩:=st;simp only [qa5,Bw,or_false] at hc;rcases hc with rfl |rfl |rfl |rfl |rfl
  ·exact ⟨_,zz,fun v y=>by cases y⟩
  ·exact ⟨_,zi,fun v y=>by cases y⟩
  ·exact ⟨_,zo,fun v y=>by cases y⟩
  ·exact x1.obj
  ·exact x2.obj
 keep:=fun i h h' st kp=>by obtain ⟨zz,zi,⟨a,b,zo⟩,x1,x2⟩:=st;exact ⟨kp z (by simp) _ zz,kp TI (by simp) _ zi,⟨a,b,kp TO (by simp) _ zo⟩,x1.at fun o e=>kp p (by simp) o e,x2.at fun o e=>kp q (by simp) o e⟩
 item:=by
  intro X hP hw hK hc i pins s σ H E I hf st hg;subst hP hw hK;obtain ⟨zz,zi,⟨a,b,zo⟩,x1,x2⟩:=st;obtain ⟨xs,ys,hq1,hq2,l1,l2⟩:=hg;obtain ⟨it1,rv1,sq1,lt1⟩:=G9 I hq1;obtain ⟨it2,rv2,sq2,lt2⟩:=G9 I hq2;have e1:=rv1.length;have e2:=rv2.length;have hh:X.A.in1.handled=none:=I.ok.hd hc;refine YZ (Kn k1 hh p t n1 it1.toArray) (Kn k2 hh q u n2 it2.toArray) ap zz zi zo ⟨x1,sq1⟩ ⟨x2,sq2⟩ (by rw [AY];omega) (by rw [AY];omega) fun h1 tk x y px py zz1 zo1 Oq CP nw kp=>?_;refine ⟨.ref s.heap.objs.size,rfl,wpAny_letOwnedTupleGo_zip zz1 fun h2 zz2 sb=>?_⟩;have hx:xs[i]?=some xs[i]:=AR l1;have hy:ys[i]?=some ys[i]:=AR l2;obtain ⟨u1,hu1,ru1⟩:=rv1.get hx;obtain ⟨u2,hu2,ru2⟩:=rv2.get hy;have hux:u1=x:=by
   have:it1[i]?=some x:=by simpa using px
   rw [hu1] at this;exact Option.some.inj this
  have huy:u2=y:=by
   have:it2[i]?=some y:=by simpa using py
   rw [hu2] at this;exact Option.some.inj this
  subst hux huy;have hfr:H s.heap.objs.size=none:=I.hok.fresh (Ax _);have kk:∀c o,c∉[z,TI,TO,p,q]→s.heap.get? c=some o→h2.get? c=some o:=fun c o hc e=>by simp only [qa5,Bw,or_false,not_or] at hc;exact (sb.2 c hc.1).trans (kp c o hc.1 hc.2.2.1 hc.2.2.2.1 hc.2.2.2.2 e)
  have nal:∀c o,s.heap.get? c=some o→c≠s.heap.objs.size:=fun c o e=>BR (AC e);have na:s.heap.objs.size≠z:=Ne.symm (nal z _ zz);have hnew:h2.get? s.heap.objs.size=some {cls:=.type "tuple",data:=.seq #[u1,u2]}:=(sb.2 _ na).trans nw;have ntr:∀c o,H c=some o→c∉[z,TI,TO,p,q]:=fun c o e hc=>by rw [(hf c hc).1] at e;cases e
  refine ⟨.ref s.heap.objs.size,Aq H s.heap.objs.size (.tup [xs[i],ys[i]]),?_,rfl,⟨s.heap.objs.size,xs[i],ys[i],hfr,rfl,fun zs hz=>by rw [Qh I hz hq1];exact hx,fun zs hz=>by rw [Qh I hz hq2];exact hy,rfl⟩,
   ⟨zz2,(sb.2 TI ap.a1).trans (kp TI _ ap.a1 ap.a5 ap.a6 ap.a7 zi),⟨u1,u2,(sb.2 TO ap.a2).trans zo1⟩,Oq.1.at fun o e=>(sb.2 p ap.a3).trans e,CP.1.at fun o e=>(sb.2 q ap.a4).trans e⟩,fun c hc=>?_⟩
  ·show Inv X pins σ _ {s with heap:=h2,gens:=s.gens,drawn:=s.drawn,toks:=tk}
   refine I.step (g':=s.gens) (d':=s.drawn) (t':=tk) (h':=h2) (ch:=[z,TI,TO,p,q]) (fun c hc=>?_) (fun c o _ _ hc e _=>kk c o hc e) (fun c o _ _ hc e _=>⟨o.slots,kk c o hc e⟩) (fun c o _ e n=>by rw [AD (nal c o e)];exact n)
    (fun c o hc e=>⟨o,kk c o hc e⟩) (fun c zs e=>by rw [AD (Cp e hfr)];exact e) (fun c o v e=>by rw [AD (Cp e hfr)];exact e) (fun c ps e=>⟨#[],by rw [AD (Cp e hfr),e];simp⟩) (fun m hm=>?_) (fun c o e=>?_) I.bare
   ·obtain ⟨_,c1,_,c3,c4,c5⟩:=hf c hc;exact ⟨c3,c1,c4,c5⟩
   ·obtain ⟨o,es,ep,e,r⟩:=hm;exact ⟨o,es,ep,kk _ o (fun hc=>(hf _ hc).2.1 rfl) e,r⟩
   ·by_cases hb:c=s.heap.objs.size
    ·subst hb;rw [B0] at e;cases e;exact ⟨by simp only [DN,Jw];rw [sizeLine_eq];decide,[u1,u2],.cons ru1 (.cons ru2 .nil),⟨_,hnew,rfl,0,rfl⟩,fun o e=>by rw [hnew] at e;cases e;rfl⟩
    ·rw [AD hb] at e;refine (I.hok c o e).stay (fun d v hd e'=>kk d v ?_ e') (fun d e'=>by rw [AD (Cp e' hfr)];exact e') fun d zs e'=>by rw [AD (Cp e' hfr)];exact e'
     rcases hd with rfl |hd
     ·exact ntr d _ e
     ·exact ntr d _ hd
  ·have nc:c≠s.heap.objs.size:=by
    simp only [qa5,Bw,or_false] at hc;rcases hc with rfl |rfl |rfl |rfl |rfl
    ·exact nal _ _ zz
    ·exact nal _ _ zi
    ·exact nal _ _ zo
    ·obtain ⟨o,e,_⟩:=x1.obj;exact nal _ _ e
    ·obtain ⟨o,e,_⟩:=x2.obj;exact nal _ _ e
   rw [AD nc];exact (hf c hc).1
 done:=by
  intro X hP hw hK hc i pins s σ H E I hf st hg;subst hP hw hK;obtain ⟨zz,zi,⟨a,b,zo⟩,x1,x2⟩:=st;obtain ⟨xs,ys,hq1,hq2,hl⟩:=hg;obtain ⟨it1,rv1,sq1,lt1⟩:=G9 I hq1;obtain ⟨it2,rv2,sq2,lt2⟩:=G9 I hq2;have e1:=rv1.length;have e2:=rv2.length;have hh:X.A.in1.handled=none:=I.ok.hd hc;refine Y0 (Kn k1 hh p t n1 it1.toArray) (Kn k2 hh q u n2 it2.toArray) ap zz zi zo ⟨x1,sq1⟩ ⟨x2,sq2⟩ (by simp only [AY];omega) fun h' tk kp=>⟨rfl,?_⟩
  have kk:∀c o,c∉[z,TI,TO,p,q]→s.heap.get? c=some o→h'.get? c=some o:=fun c o hc e=>by simp only [qa5,Bw,or_false,not_or] at hc;exact kp c o hc.1 hc.2.2.1 hc.2.2.2.1 hc.2.2.2.2 e
  have ntr:∀c o,H c=some o→c∉[z,TI,TO,p,q]:=fun c o e hc=>by rw [(hf c hc).1] at e;cases e
  show Inv X pins σ _ {s with heap:=h',gens:=s.gens,drawn:=s.drawn,toks:=tk}
  refine I.step (g':=s.gens) (d':=s.drawn) (t':=tk) (h':=h') (ch:=[z,TI,TO,p,q]) (fun c hc=>?_) (fun c o _ _ hc e _=>kk c o hc e) (fun c o _ _ hc e _=>⟨o.slots,kk c o hc e⟩) (fun c o _ e n=>n)
   (fun c o hc e=>⟨o,kk c o hc e⟩) (fun c zs e=>e) (fun c o v e=>e) (fun c ps e=>⟨#[],by rw [e];simp⟩) (fun m hm=>?_) (fun c o e=>?_) I.bare
  ·obtain ⟨_,c1,_,c3,c4,c5⟩:=hf c hc;exact ⟨c3,c1,c4,c5⟩
  ·obtain ⟨o,es,ep,e,r⟩:=hm;exact ⟨o,es,ep,kk _ o (fun hc=>(hf _ hc).2.1 rfl) e,r⟩
  ·refine (I.hok c o e).stay (fun d v hd e'=>kk d v ?_ e') (fun d e'=>e') fun d zs e'=>e';rcases hd with rfl |hd
   ·exact ntr d _ e
   ·exact ntr d _ hd
 self:=fun A i s Q E st h=>by cases st with |mk zz zi zo x1 x2=>exact wpAny_pyIter_zip zz h
abbrev zA (h:Heap) (k1:Bool) (t:Addr):Heap:=h.push (Gj k1 t)
abbrev zB (h:Heap) (k1 k2:Bool) (t u:Addr):Heap:=(zA h k1 t).push (Gj k2 u)
abbrev zC (h:Heap) (k1 k2:Bool) (t u:Addr):Heap:=(zB h k1 k2 t u).push {cls:=.type "tuple",data:=.seq #[.ref h.objs.size,.ref (zA h k1 t).objs.size]}
abbrev zD (h:Heap) (k1 k2:Bool) (t u:Addr):Heap:=(zC h k1 k2 t u).push {cls:=.type "tuple",data:=.seq #[.none,.none]}
abbrev zE (h:Heap) (k1 k2:Bool) (t u:Addr):Heap:=(zD h k1 k2 t u).push {cls:=.type "zip",data:=.fields #[.none,.bool false,.bool false,.ref (zB h k1 k2 t u).objs.size,.ref (zC h k1 k2 t u).objs.size]}
theorem SqA.push {k:Bool} {h:Heap} {xs:Array Value} (x:SqA k h l xs) (o:Obj):SqA k (h.push o) l xs:=by
 cases k
 ·exact Heap.IsList.push x o
 ·exact Heap.IsTuple.push x o
theorem Qk {s:Shared} {k:Bool} {xs:Array Value} {Q:Value→Shared→Prop} (x:SqA k s.heap l xs) (hQ:Q (.ref s.heap.objs.size) {s with heap:=s.heap.push (Gj k l)}):
 wpAny (model prog w) A (pyIter (.ref l)) Q E s:=by
 cases k
 ·exact wpAny_pyIter_list x hQ
 ·exact wpAny_pyIter_tuple x hQ
theorem Y2 (k1 k2:Bool) (t u:Addr) (xs ys:Array Value):
 Meets (Builtin.«zip.__new__» ⟨[.type "zip",.ref t,.ref u],[]⟩) (fun _ R s=>SqA k1 s.heap t xs∧SqA k2 s.heap u ys∧
  R (.ok (.ret (.ref (zD s.heap k1 k2 t u).objs.size))) {s with heap:=zE s.heap k1 k2 t u}):=
 .of_wp fun prog w A R s h=>by
  obtain ⟨hp,g,d,tk,os⟩:=s;obtain ⟨hl1,hl2,h⟩:=h;have hsub:=sub_zip;have hL1:SqA k1 (Shared.heap ⟨hp,g,d,tk,os⟩) t xs:=hl1;have hL2:SqA k2 (Shared.heap ⟨hp.push (Gj k1 t),g,d,tk,os⟩) u ys:=SqA.push hl2 _
  wp_walk using Qk hL1,Qk hL2
  exact ⟨_,rfl,h⟩
theorem ItAt.new {k:Bool} {h:Heap} (e:h.get? it=some (Gj k l)):ItAt k h it l 0:=by
 cases k
 ·exact ⟨_,e,rfl,rfl⟩
 ·exact ⟨_,e,rfl,rfl⟩
theorem Y3 {s:Shared} {k1 k2:Bool} {xs ys:Array Value} {Q:Value→Shared→Prop} (h1:SqA k1 s.heap t xs) (h2:SqA k2 s.heap u ys)
 (h:∀h',IsZip h' (s.heap.objs.size+4) (s.heap.objs.size+2) (s.heap.objs.size+3) .none→IsPair h' (s.heap.objs.size+2) (.ref s.heap.objs.size) (.ref (s.heap.objs.size+1))→
  IsPair h' (s.heap.objs.size+3) .none .none→ItAt k1 h' s.heap.objs.size t 0→ItAt k2 h' (s.heap.objs.size+1) u 0→(∀c o,s.heap.get? c=some o→h'.get? c=some o)→Q (.ref (s.heap.objs.size+4)) {s with heap:=h'}):
 wpAny (model prog w) A (call (.type "zip") [.ref t,.ref u]) Q E s:=by
 refine callType_new F.called_zip (by decide) (F.typeCall_zip_2 _ _) (F.newCall_zip_2 _ _) (fun obj=>F.args_object_init_3 obj _ _) F.entry_zip_new
  (Y2 k1 k2 t u xs ys) ⟨h1,h2,?_⟩
 have y1:(zA s.heap k1 t).objs.size=s.heap.objs.size+1:=B4 ..;have y2:(zB s.heap k1 k2 t u).objs.size=s.heap.objs.size+2:=by rw [B4,y1]
 have y3:(zC s.heap k1 k2 t u).objs.size=s.heap.objs.size+3:=by rw [B4,y2]
 have y4:(zD s.heap k1 k2 t u).objs.size=s.heap.objs.size+4:=by rw [B4,y3]
 have g5:(zE s.heap k1 k2 t u).get? (zD s.heap k1 k2 t u).objs.size=some _:=Bc _ rfl;have g4:(zE s.heap k1 k2 t u).get? (zC s.heap k1 k2 t u).objs.size=some _:=Aw _ (Bc _ rfl);have g3:(zE s.heap k1 k2 t u).get? (zB s.heap k1 k2 t u).objs.size=some _:=Aw _ (Aw _ (Bc _ rfl));have g2:(zE s.heap k1 k2 t u).get? (zA s.heap k1 t).objs.size=some (Gj k2 u):=Aw _ (Aw _ (Aw _ (Bc _ rfl)));have g1:(zE s.heap k1 k2 t u).get? s.heap.objs.size=some (Gj k1 t):=Aw _ (Aw _ (Aw _ (Aw _ (Bc _ rfl))))
 show _∧_
 rw [y2,y3,y4] at g5;rw [y1,y2] at g3;rw [y3] at g4;rw [y1] at g2;rw [y4];exact ⟨⟨_,g5,rfl⟩,h _ g5 g3 g4 (.new g1) (.new g2) fun c o x=>Aw _ (Aw _ (Aw _ (Aw _ (Aw _ x))))⟩
section
variable {X:Cx} {E:XK}
theorem Y4 {kt:Nat} {a b:Expr} {ta:TA} (hg:Gl X "zip") (hm:X.mg "zip"=none) (ha:PA X [a,b] ta) (hs:starEach [a,b] X.env=[(false,eval a X.env),(false,eval b X.env)]:=by rfl) (hs2:starEach [b] X.env=[(false,eval b X.env)]:=by rfl):
 PI X (.Tuple elts kt tpos) (.Call (.Name "zip" p) [a,b] [] pos) (fun σ H R=>ta σ H fun vs H1=>∃k1 k2 t u xs ys,vs=[.ref t,.ref u]∧DE k1 X.K H1 t xs∧DE k2 X.K H1 u ys∧R (Qi X.K k1 k2 t u) H1):=by
 intro pins s σ H R I h;refine Call_ (GJ I hg hm PyProof.Rows.boot_zip (PyProof.Rows.callWith_type1 (Au (ha pos pins s σ H _ I h) fun us s1 ⟨vs,H1,I1,r1,q1⟩=>?_) (by rw [hs,hs2]) (by rw [hs2];rfl)));obtain ⟨k1,k2,t,u,xs,ys,e,hq1,hq2,q⟩:=q1;subst e;cases r1 with
 |cons r rr=>
  cases rr with
  |cons r' rr=>
   cases rr;cases r;cases r';obtain ⟨it1,rv1,sq1,lt1⟩:=G9 I1 hq1;obtain ⟨it2,rv2,sq2,lt2⟩:=G9 I1 hq2;refine Y3 sq1 sq2 fun h' zz zi zo x1 x2 kp=>wpAny_pyIter_zip (s:={s1 with heap:=h'}) zz ?_;have I2:Inv X pins σ H1 {s1 with heap:=h'}:=I1.kept (t':=s1.toks) kp;have fr:∀c,s1.heap.objs.size≤c→CD X pins H1 c:=fun c hc=>I1.fpOk hc (I1.hok.fresh hc);have m0:s1.heap.objs.size≠s1.heap.objs.size+4:=Bf (by omega);have ap:G8 (s1.heap.objs.size+4) (s1.heap.objs.size+2) (s1.heap.objs.size+3) s1.heap.objs.size (s1.heap.objs.size+1) [s1.heap.objs.size,t] [s1.heap.objs.size+1,u]:=by
    generalize s1.heap.objs.size=n at lt1 lt2;exact ⟨Bf (by omega),Bf (by omega),Bf (by omega),Bf (by omega),Bf (by omega),BS (by omega),BS (by omega),BS (by omega),BS (by omega),Bf (by omega),
     fun z=>by simp only [qa5,Bw,or_false] at z;rcases z with z |z;exact absurd z (BS (by omega));exact absurd z (BS (AU lt1 (Di _ _))),
     fun z=>by simp only [qa5,Bw,or_false] at z;rcases z with z |z;exact absurd z (BS (by omega));exact absurd z (BS (AU lt2 (Di _ _))),
     fun z=>by simp only [qa5,Bw,or_false] at z;rcases z with z |z;exact absurd z (BS (by omega));exact absurd z (BS (AU lt1 (Di _ _))),
     fun z=>by simp only [qa5,Bw,or_false] at z;rcases z with z |z;exact absurd z (BS (by omega));exact absurd z (BS (AU lt2 (Di _ _))),
     fun z=>by simp only [qa5,Bw,or_false] at z;rcases z with z |z;exact absurd z (Bf (by omega));exact absurd z (BS lt2),
     fun z=>by simp only [qa5,Bw,or_false] at z;rcases z with z |z;exact absurd z (BS (by omega));exact absurd z (BS (AU lt1 (Di _ _)))⟩
   refine ⟨s1.heap.objs.size+4,[s1.heap.objs.size+4,s1.heap.objs.size+2,s1.heap.objs.size+3,s1.heap.objs.size,s1.heap.objs.size+1],_,_,H1,rfl,I2,Y1 k1 k2 _ _ _ _ _ t u ap (BR lt1) (BR (GE lt2)),⟨zz,zi,⟨_,_,zo⟩,x1,x2⟩,fun c hc=>?_,q⟩;simp only [qa5,Bw,or_false] at hc;rcases hc with rfl |rfl |rfl |rfl |rfl
   ·exact fr _ (Di _ _)
   ·exact fr _ (Di _ _)
   ·exact fr _ (Di _ _)
   ·exact fr _ (Ax _)
   ·exact fr _ (Di _ _)
def Ha (xs ys:List D):List D:=List.zipWith (fun a b=>.tup [a,b]) xs ys
def Cd:D→HD→Option (List D×A3)
 |.tup xs,_=>some (xs,[])
 |.loc l,h=>match h[l]? with
  |some (.lst xs)=>some (xs,[(l,xs)])
  |_=>none
 |_,_=>none
def Im:List D→HD→Out (List D×A3):=fun ds h=>match ds with
 |[x,y]=>match Cd x h,Cd y h with
  |some (xs,s1),some (ys,s2)=>.ok (Ha xs ys,s1++s2) h
  |_,_=>.stuck
 |_=>.stuck
def Io (fa:MA):MI:=fun ρ h=>(fa ρ h).bind Im
theorem Ql {xs:List D} {sr:A3} (hr:HR X.K m h H) (r:DV X.K m H d v) (e:Cd d h=some (xs,sr)):
 ∃k t,v=.ref t∧∀m2 h2 H2,m <+:m2→Kp H H2→HR X.K m2 h2 H2→(∀p∈sr,h2[p.1]?=some (.lst p.2))→∃vs,DE k X.K H2 t vs∧DVs X.K m2 H2 xs vs:=by
 cases d with
 |tup zs=>simp only [Cd,Option.some.injEq,Prod.mk.injEq] at e;obtain ⟨rfl,rfl⟩:=e;simp only [DV] at r;obtain ⟨a,vs,rfl,ha,dv⟩:=r;exact ⟨true,a,rfl,fun m2 h2 H2 p2 k2 hr2 _=>⟨vs,tq (ha.keep k2),dv.keep p2 k2⟩⟩
 |loc l=>
  simp only [Cd] at e;split at e
  ·rename_i zs el;simp only [Option.some.injEq,Prod.mk.injEq] at e;obtain ⟨rfl,rfl⟩:=e;simp only [DV] at r;obtain ⟨a,rfl,ha⟩:=r;refine ⟨false,a,rfl,fun m2 h2 H2 p2 k2 hr2 hs=>?_⟩;obtain ⟨ws,hw,dw⟩:=hr2.cells l _ a (hs _ AK) (JQ p2 ha);exact ⟨ws,SqL.of hw,dw⟩
  ·cases e
 |_=>simp [Cd] at e
theorem Qm {xs:List D} {sr:A3} (e:Cd d h=some (xs,sr)):∀p∈sr,h[p.1]?=some (.lst p.2):=by
 cases d with
 |tup zs=>simp only [Cd,Option.some.injEq,Prod.mk.injEq] at e;obtain ⟨rfl,rfl⟩:=e;exact fun p hp=>nomatch hp
 |loc l=>
  simp only [Cd] at e;split at e
  ·rename_i zs el;simp only [Option.some.injEq,Prod.mk.injEq] at e;obtain ⟨rfl,rfl⟩:=e;intro p hp;rw [qaJ] at hp;subst hp;exact el
  ·cases e
 |_=>simp [Cd] at e
theorem Y5 {kt:Nat} {a b:Expr} (hg:Gl X "zip") (hm:X.mg "zip"=none) (ha:CG X E [a,b] fa) (hs:starEach [a,b] X.env=[(false,eval a X.env),(false,eval b X.env)]:=by rfl) (hs2:starEach [b] X.env=[(false,eval b X.env)]:=by rfl):
 DT X E (.Tuple elts kt tpos) (.Call (.Name "zip" p) [a,b] [] pos) (Io fa):=
 J7 (Y4 hg hm ha hs hs2) fun σ H R ⟨m,ρ,h,hr,er,p⟩=>⟨m,ρ,h,hr,er,Post.bind p fun x h1 v m1 H1 eo p1 k1 hr1 r1 q1=>by
  clear eo;unfold Im at q1;split at q1
  ·rename_i d1 d2;split at q1
   ·rename_i xs s1 ys s2 e1 e2;simp only [Fw,DVs] at r1;obtain ⟨v1,w1,rfl,rv1,v2,w2,rfl,rv2,rfl⟩:=r1;obtain ⟨kd1,t,rfl,f1⟩:=Ql hr1 rv1 e1;obtain ⟨kd2,u,rfl,f2⟩:=Ql hr1 rv2 e2;obtain ⟨vs1,sq1,_⟩:=f1 m1 h1 H1 (Ay _) (.refl _) hr1 (Qm e1);obtain ⟨vs2,sq2,_⟩:=f2 m1 h1 H1 (Ay _) (.refl _) hr1 (Qm e2);refine ⟨kd1,kd2,t,u,vs1,vs2,rfl,sq1,sq2,q1 _ m1 H1 (Ay _) (.refl _) hr1 fun i m2 h2 H2 p2 k2 hr2 hsr=>?_⟩;obtain ⟨ws1,sw1,dw1⟩:=f1 m2 h2 H2 p2 k2 hr2 fun p hp=>hsr p (GC _ hp);obtain ⟨ws2,sw2,dw2⟩:=f2 m2 h2 H2 p2 k2 hr2 fun p hp=>hsr p (BF _ hp);have n1:=dw1.len;have n2:=dw2.len;have nl:(Ha xs ys).length=min xs.length ys.length:=by simp [Ha]
    refine ⟨fun hi=>?_,fun hi=>⟨ws1,ws2,sw1,sw2,by dsimp only at hi;omega⟩⟩;dsimp only at hi;have i1:i<xs.length:=by omega
    have i2:i<ys.length:=by omega
    refine ⟨⟨ws1,ws2,sw1,sw2,by omega,by omega⟩,fun y H3 z3_=>?_⟩;obtain ⟨pp,vv,vv',hp,ey,ev,ev',eH⟩:=z3_;subst ey eH;have g1:xs[i]?=some xs[i]:=AR i1;have g2:ys[i]?=some ys[i]:=AR i2;obtain ⟨c1,z1,r1'⟩:=dw1.get g1;obtain ⟨c2,z2,r2'⟩:=dw2.get g2;rw [ev ws1 sw1] at z1;rw [ev' ws2 sw2] at z2;cases z1;cases z2;refine ⟨.new hp,hr2.new hp,.tup [xs[i],ys[i]],?_,?_⟩
    ·simp [Ha,List.getElem?_zipWith,g1,g2]
    ·simp only [DV];exact ⟨pp,_,rfl,.inl B0,.cons (DV.keep (Ay _) (.new hp) r1') (.cons (DV.keep (Ay _) (.new hp) r2') .nil)⟩
   ·exact q1.elim
  ·exact q1.elim⟩
end
end LS
namespace LS
open PySem PySem.Spec PyProof.Rows L2
section
variable {ρ:Ag} {h:HD} {QI:(List D×A3)→HD→Prop} {Q:D→HD→Prop} {QO:Option Int→HD→Prop} {QS:Fl×Ag→HD→Prop} {f fo fi fv:ME} {lo hi:MO} {fa:MA}
@[simp] theorem Zff:Wp (Io fa ρ h) QI=Wp (fa ρ h) fun d h1=>Wp (Im d h1) QI:=by unfold Io;rw [AA]
@[simp] theorem Zfg:Wp (AX ρ h) QO=QO none h:=id rfl
@[simp] theorem Zfh:Wp (AM f ρ h) QO=Wp (f ρ h) fun x h1=>Wp (match x with
  |.int i=>(.ok (some i) h1:Out (Option Int))
  |_=>.stuck) QO:=by unfold AM;rw [AA]<;>rfl
theorem Y6 {n:Nat} {e e':Nat→D}:Ha ((List.range n).map e) ((List.range n).map e')=(List.range n).map fun k=>D.tup [e k,e' k]:=by
 unfold Ha;apply Jt
 ·simp
 ·intro i h1 h2;simp
theorem Qn {n:Nat} {e e':Nat→D} {s1 s2:A3} (hx:Cd x h=some ((List.range n).map e,s1)) (hy:Cd y h=some ((List.range n).map e',s2)):
 Im [x,y] h=.ok ((List.range n).map fun k=>D.tup [e k,e' k],s1++s2) h:=by
 simp only [Im,hx,hy,Y6]
theorem MX {ds:List D}:Cd (.tup ds) h=some (ds,[]):=rfl
theorem Y7 {l:Nat} {ds:List D} (e:h[l]?=some (.lst ds)):Cd (.loc l) h=some (ds,[(l,ds)]):=by simp only [Cd,e]
theorem DF {l:Nat} {ds:List D} (e:h[l]?=some (.lst ds)):GQ (.loc l) h=.ok (ds,[(l,ds)]) h:=by simp only [GQ,Bx,e,Pw]
theorem E3 {l:Nat} {ds:List D} (e:h[l]?=some (.lst ds)):AO (.loc l) h=.ok (.int ds.length) h:=by simp only [AO,Bx,e]
theorem Qo:∀n:Nat,(List.replicate n [a]).flatten=List.replicate n a
 |0=>rfl
 |n+1=>by rw [Fh,FU,Qo n];rfl
theorem Y8 {l n:Nat} (e:h[l]?=some (.lst [a])) (hn:n≤1000):Do (.loc l) (.int (n:Nat)) h=BJ (List.replicate n a) h:=by
 have:(-(2^63):Int)≤(n:Int)∧(n:Int)<2^63:=by omega
 simp only [Do,e];rw [if_pos this];simp [Qo]
end
noncomputable def MY (cs:List (Option Nat)) (it:MI) (sg:MG) (t:MT) (f:ME):ME:=Af (An GV) (Aa (A6 cs it sg t f) Ac)
noncomputable def Y9 (F:List Int→Int) (cs:List (Option Nat)) (it:MI) (sg:MG) (t:MT) (f:ME):ME:=Af (An (Qg F)) (Aa (A6 cs it sg t f) Ac)
section
variable {α:Type} {cs:List (Option Nat)} {it:MI} {sg:MG} {t:MT} {f:ME} {ρ:Ag} {h:HD} {src:A3} {xs:List α} {φ:α→D} {F:List Int→Int}
@[simp] theorem Zfi:Af (An GV) (Aa (A6 cs it sg t f) Ac) ρ h=MY cs it sg t f ρ h:=rfl
@[simp] theorem Zfj:Af (An (Qg F)) (Aa (A6 cs it sg t f) Ac) ρ h=Y9 F cs it sg t f ρ h:=rfl
theorem Za (n:α→Int) (ρ1:α→Ag) (hi:CJ (it ρ h) h (xs.map φ) src) (hg:∀x∈xs,sg (φ x) (Ct cs ρ)=some (ρ1 x)) (hf:∀x∈xs,∀h',Sm h h'→Pu (f (ρ1 x) h') h' (.int (n x))) (hn:xs.length≤sizeLine):
 Pu (MY cs it sg Bl f ρ h) h (.int (xs.map n).sum):=by
 unfold Pu MY;rw [Kd,EX];refine Ef (fun _=>true) (fun x=>.int (n x)) ρ1 hi hn hg (fun x hx h' s'=>(.ok:Pu (.ok true h') h' true)) (fun x hx _ h' s'=>hf x hx h' s') fun l h' s' e'=>?_;rw [CY] at e';rw [G0];simp only [An,GV,Bx,e',EI];rw [allSome_map (f:=GU∘fun x=>D.int (n x)) (g:=n) (fun x _=>rfl)];exact ⟨rfl,s'⟩
end
def FE (t:MT) (g:MS):Nat→MS
 |0=>fun _ _=>.stuck
 |n+1=>fun ρ h=>(t ρ h).bind fun b h1=>if b=true then (g ρ h1).bind (fun x h2=>match x with
   |(.nx,ρ2)=>FE t g n ρ2 h2
   |(.ct,ρ2)=>FE t g n ρ2 h2
   |(.bk,ρ2)=>.ok (.nx,ρ2) h2
   |(.rt d,ρ2)=>.ok (.rt d,ρ2) h2) else .ok (.nx,ρ) h1
def Ip (t:MT) (g:MS):MS:=FE t g 100000
section
variable {X:Cx} {E:XK}
theorem Zb {body:List Stmt} {t:MT} (hp:PassesOwn (model X.prog X.w) X.A X.env X.xe) (hc:CV X E c t) (hb:CH X E body g):Ex X E (.While c body [] pos) (Ip t g):=by
 refine EK (Vu hp hc hb) fun Dn σ H z1_=>?_;obtain ⟨m,ρ,h,hr,er,p⟩:=z1_;unfold Ip at p;generalize (100000:Nat)=N at p;refine ⟨fun n σ H=>∃m ρ h,HR X.K m h H∧ER X.K m H ρ σ∧PostS X.K m H E Dn (FE t g n ρ h),⟨N,m,ρ,h,hr,er,p⟩,?_⟩;rintro n σ H ⟨m,ρ,h,hr,er,p⟩;cases n with
 |zero=>exact p.elim
 |succ n=>
  unfold FE at p;refine ⟨m,ρ,h,hr,er,PostS.bind p fun b h1 v m1 H1 eo p1 k1 hr1 r1 q1=>?_⟩;clear eo;cases r1;cases b with
  |false=>rw [if_neg Bj] at q1 ⊢;exact (q1.here hr1) σ (er.keep p1 k1)
  |true=>
   rw [if_pos rfl] at q1 ⊢;refine ⟨fun σ' H'=>∃m ρ h,HR X.K m h H'∧ER X.K m H' ρ σ'∧PostS X.K m H' E Dn (FE t g n ρ h),fun σ' H' z=>⟨n,GG _,z⟩,m1,ρ,h1,hr1,er.keep p1 k1,?_⟩;cases o:g ρ h1 with
   |stuck=>rw [o] at q1;exact q1
   |err C fs h5=>rw [o] at q1;exact q1
   |ok z h5=>
    rw [o] at q1;obtain ⟨fl,ρ5⟩:=z;intro m5 H5 p5 k5 hr5;cases fl with
    |nx=>exact fun σ5 er5=>⟨m5,ρ5,h5,hr5,er5,PostS.ahead p5 k5 q1⟩
    |ct=>exact fun σ5 er5=>⟨m5,ρ5,h5,hr5,er5,PostS.ahead p5 k5 q1⟩
    |bk=>exact fun σ5 er5=>q1 m5 H5 p5 k5 hr5 σ5 er5
    |rt d=>exact fun v rv=>q1 m5 H5 p5 k5 hr5 v rv
end
theorem MZ {t:MT} {g:MS} {Q:Fl×Ag→HD→Prop} (I:Nat→Ag→HD→Prop)
 (step:∀m ρ h,I m ρ h→Wp (t ρ h) fun b h1=>if b=true then Wp (g ρ h1) (BD (fun ρ2 h2=>∃m',m' < m∧I m' ρ2 h2) Q) else Q (.nx,ρ) h1):∀(n m:Nat) (ρ:Ag) (h:HD),m<n→I m ρ h→Wp (FE t g n ρ h) Q
 |0,m,ρ,h,hm,_=>by omega
 |n+1,m,ρ,h,hm,i=>by
  unfold FE;rw [AA];refine Wp.mono (step m ρ h i) fun b h1 w=>?_;cases b with
  |false=>rw [if_neg Bj] at w ⊢;exact w
  |true=>
   rw [if_pos rfl] at w ⊢;rw [AA];refine Wp.mono w fun x h2 k=>?_;obtain ⟨fl,ρ2⟩:=x;cases fl with
   |nx=>obtain ⟨m',h1,h2⟩:=k;exact MZ I step n m' _ _ (by omega) h2
   |ct=>obtain ⟨m',h1,h2⟩:=k;exact MZ I step n m' _ _ (by omega) h2
   |bk=>exact k
   |rt d=>exact k
theorem Zc {t:MT} {g:MS} {ρ:Ag} {h:HD} {Q:Fl×Ag→HD→Prop} (I:Nat→Ag→HD→Prop) (m:Nat) (hm:m<100000) (i:I m ρ h)
 (step:∀m ρ h,I m ρ h→Wp (t ρ h) fun b h1=>if b=true then Wp (g ρ h1) (BD (fun ρ2 h2=>∃m',m' < m∧I m' ρ2 h2) Q) else Q (.nx,ρ) h1):Wp (Ip t g ρ h) Q:=
 MZ I step _ m ρ h hm i
section
variable {X:Cx}
theorem Zd (hc:X.calm=true):CF X (.builtin "any") (fun xs H Q=>∃(p:Addr) (bs:List Bool),xs=[.ref p]∧SqL X.K H p (bs.map V.bl)∧Q (.bl (bs.any id)) H):=by
 intro pins s σ H xs us Q I r h;obtain ⟨p,bs,rfl,hs,q⟩:=h;obtain ⟨u,rfl,rx⟩:=Dj r;cases rx;have hh:X.A.in1.handled=none:=I.ok.hd hc;obtain ⟨its,rv,pl,hz⟩:=I.list hs;have hl:=rv.length;rw [A0] at hl;have hlt:p<s.heap.objs.size:=by obtain ⟨_,e,_⟩:=pl.isList;exact AC e
 have item:∀(i:Nat) (v:Value),its.toArray[i]?=some v→v=.bool (bs.getD i false):=fun i v e=>by
  have e':its[i]?=some v:=by simpa using e
  have hi:i<its.length:=(qa1.mp e').1;have hn:(bs.map V.bl)[i]?=some (V.bl (bs.getD i false)):=by rw [BO,AR (by omega)];simp [DM,AR (show i<bs.length by omega)]
  obtain ⟨u,h1,h2⟩:=rv.get hn;rw [e'] at h1;cases h1;exact h2
 refine call_any_walk (wpAny_pyIter_list pl.isList ?_);refine ⟨s.heap.objs.size,[s.heap.objs.size,p],[s.heap.objs.size],its.toArray.size,_,_,fun i=>bs.getD i false,rfl,Walks.list (A:=X.A.in1) hh _ p (BR hlt) its.toArray,⟨⟨_,Bc _ rfl,rfl,rfl⟩,pl.isList.push _⟩,fun i v s' Q' E' e hQ=>?_,fun h' tk hk=>?_⟩
 ·rw [item i v e];exact D0 hQ
 ·have e:(List.range its.toArray.size).any (fun i=>bs.getD i false)=bs.any id:=by
   rw [AY,←hl];apply qb0.mpr;simp only [List.any_eq_true,qaZ,id];constructor
   ·rintro ⟨i,hi,h⟩;refine ⟨bs[i],Dh hi,?_⟩;simpa [DM,AR hi] using h
   ·rintro ⟨b,hb,h⟩;obtain ⟨i,hi,rfl⟩:=Hx hb;refine ⟨i,hi,?_⟩;simpa [DM,AR hi] using h
  rw [e];exact ⟨.bl _,H,I.kept (Ka (fun b o e=>Aw _ e) (Ax _) hk),rfl,q⟩
def Hb:D→HD→Out D:=fun x h=>match x with
 |.loc l=>match h[l]? with
  |some (.lst ds)=>match Az (ds.map Gf) with
   |some bs=>.ok (.bl (bs.any id)) h
   |none=>.stuck
  |_=>.stuck
 |_=>.stuck
theorem Ze (hc:X.calm=true):Cr X (.builtin "any") (An Hb):=by
 refine ⟨_,Zd hc,fun m H h E ds vs Q hr r q=>EO r q fun d v ev rv q=>?_⟩;unfold Hb at q;split at q
 ·rename_i l;split at q
  ·rename_i xs el;split at q
   ·rename_i bs eb;simp only [DV] at rv;obtain ⟨a,rfl,ha⟩:=rv;obtain ⟨ws,hv,dv⟩:=hr.cells _ _ a el ha;have:=Mv dv eb;subst this;exact ⟨a,bs,ev,SqL.of hv,A8 hr q (by simp [DV])⟩
   ·exact q.elim
  ·exact q.elim
 ·exact q.elim
end
noncomputable def M0 (cs:List (Option Nat)) (it:MI) (sg:MG) (t:MT) (f:ME):ME:=Af (An Hb) (Aa (A6 cs it sg t f) Ac)
section
variable {α:Type} {cs:List (Option Nat)} {it:MI} {sg:MG} {t:MT} {f:ME} {ρ:Ag} {h:HD} {src:A3} {xs:List α} {φ:α→D}
@[simp] theorem Zfk:Af (An Hb) (Aa (A6 cs it sg t f) Ac) ρ h=M0 cs it sg t f ρ h:=rfl
theorem Zf (b:α→Bool) (ρ1:α→Ag) (hi:CJ (it ρ h) h (xs.map φ) src) (hg:∀x∈xs,sg (φ x) (Ct cs ρ)=some (ρ1 x)) (hf:∀x∈xs,∀h',Sm h h'→Pu (f (ρ1 x) h') h' (.bl (b x))) (hn:xs.length≤sizeLine):
 Pu (M0 cs it sg Bl f ρ h) h (.bl (xs.any b)):=by
 unfold Pu M0;rw [Kd,EX];refine Ef (fun _=>true) (fun x=>.bl (b x)) ρ1 hi hn hg (fun x hx h' s'=>(.ok:Pu (.ok true h') h' true)) (fun x hx _ h' s'=>hf x hx h' s') fun l h' s' e'=>?_;rw [G0];rw [CY] at e';simp only [An,Hb,e',EI];rw [allSome_map (f:=Gf∘fun x=>D.bl (b x)) (g:=b) (fun x _=>rfl)];refine ⟨?_,s'⟩;simp [List.any_map]
end
end LS
namespace LS
open PySem PySem.Spec PyProof.Rows L2 PySem.W
structure EC (K:Frag) (C:Addr):Prop where
 ga:findIn K (.ref C) "__getattribute__"=some (some (.builtin "BaseException.__getattribute__"))
 gt:findIn K (.ref C) "__getattr__"=some none
 cl:(clsIn K C).isSome=true
 ac:findIn K (.ref C) "__class__"=some (some (.builtin "object.__class__"))
 sg:specialIn K (.builtin "object.__class__") "__get__"=some (some (.builtin "getset_descriptor.__get__"))
 tk:takesIn K (.builtin "object.__class__")=some true
 mo:mroIn K C (.type "object")=some true
 mb:mroIn K C (.type "BaseException")=some true
section
variable {prog:Program} {w:World} {A:Around} {E:Value→Shared→Prop} {s:Shared} {K:Frag} {x C:Addr} {ox:Obj} {od:Option Obj}
def TyAt (x C:Addr) (h:Heap):Prop:=∃o,h.get? x=some o∧o.cls=.ref C
theorem TyAt.type (t:TyAt x C h):Looks M h (typeOf (.ref x)) (.ref C):=by obtain ⟨o,h1,h2⟩:=t;exact h2 ▸ (Looks.ld h1).andThen .now
theorem Zg (c:EC K C) (X:K.In h):Looks M h (Builtin.ObjectAttr.find (.ref x) (.ref C) "__class__") (.bind (.builtin "getset_descriptor.__get__") (.builtin "object.__class__")):=by have L1:=looks_findIn (M:=M) X c.ac;have L2:Looks M h (Builtin.ObjectAttr.getOf (some (.builtin "object.__class__"))) (some (.builtin "getset_descriptor.__get__")):=looks_specialIn X c.sg;have L3:=looks_takesIn (M:=M) X c.tk;refine L1.andThen (L2.andThen ?_);exact (show Looks M h (Builtin.ObjectAttr.dataDescriptor? (some (.builtin "object.__class__")) (some (.builtin "getset_descriptor.__get__"))) (some (.builtin "getset_descriptor.__get__",.builtin "object.__class__")) from L3.andThen .now).andThen (Looks.tag .now)
theorem Zh {R:Result→Shared→Prop} (X:K.In s.heap) (I:TyAt x C s.heap) (hm:mroIn K C (.type "object")=some true)
 (h:R (.ok (.ret (.ref C))) s):codeAny (model prog w) A (.call (.builtin "getset_descriptor.__get__") ⟨[.builtin "object.__class__",.ref x,tp],[]⟩) R s:=by
 obtain ⟨hh,g,dr,t,os⟩:=s;have L0:=I.type (M:=model prog w);have L1:=looks_mroIn (M:=model prog w) X hm;refine codeAny_call_builtin KF.slot_gs.plain KF.entry_gs (KF.slot_gs.check _ _ _ _ _ _ _ _ KF.type_class (KF.args_gs _ _ _) ?_);unfold Builtin.«getset_descriptor.__get__» Builtin.Getset_descriptor.descrGet;rw [dga_obj];refine Ad (Ak ?_);unfold Builtin.Getset_descriptor.descrGetter Builtin.Getset_descriptor.descrCheckInstance Builtin.Getset_descriptor.descrNameAndClass isInstance;simp only [KF.owner_class]
 repeat lk
 refine ⟨Code.quiet_builtin _ (by decide +kernel),codeAny_builtin KF.entry_class ?_⟩;unfold Builtin.«object.__class__» shownTypeOf
 repeat lk
 exact h
theorem Zi {Q:Option Value→Shared→Prop} (c:EC K C) (X:K.In s.heap) (I:TyAt x C s.heap) (h:Q (some (.ref C)) {s with toks:=s.toks+1}):wpAny (model prog w) A (getAttr? (.ref x) "__class__") Q E s:=by
 obtain ⟨hh,g,d,t,os⟩:=s;have L0:=I.type (M:=model prog w);have L1:=looks_findIn (M:=model prog w) X c.ga;have L2:=looks_findIn (M:=model prog w) X c.gt;have LF:=Zg (M:=model prog w) (x:=x) c X;have LB:=looks_mroIn (M:=model prog w) X c.mb;have ha:=F.args_bexc_ga (.ref x) (.str "__class__" t);have hk:builtinKind "BaseException.__getattribute__"=some .slot:=by decide +kernel
 have hsplit:splitId "BaseException.__getattribute__"=some ("BaseException","__getattribute__"):=by decide +kernel
 have hx2:(Value.builtin "BaseException.__getattribute__"==Value.builtin "object.__getattribute__")=false:=by decide +kernel
 have hx1:(onTheHeap (Value.ref C)&&Value.builtin "BaseException.__getattribute__"==Value.builtin "object.__getattribute__")=false:=by rw [hx2];rfl
 unfold getAttr? getAttrBy? getAttrBy;refine Ad (wpAny_mkText (Ad (wpAny_attempt (Ci (Ad (L0.at (Ad (L1.at ?_))))))));dsimp only;rw [hx1];simp only [Bq,if_false];unfold getAttrByItsOwn hookBefore;refine Ad ?_
 show wpAny _ _ (typeLookup (.ref C) "__getattr__") _ _ _
 refine L2.at ?_;refine Ad (wpAny_attempt (Ci ?_));unfold callGetattribute boundAndCalled;simp only [Jy,Bq,if_false];rw [PySem.F.attr_ValueError.ga.bind (.ref x)];refine Ad (Ak (wpAny_call (codeAny_call_builtin PySem.F.attr_ValueError.ga.plain F.entry_bexc_ga ?_)));simp only [checkBuiltinCall,hk,hsplit];refine Ad ?_;unfold isInstance;refine Ad (L0.at (LB.at ?_))
 wp_step
 unfold Builtin.«object.__getattribute__»
 repeat lk
 refine wpAny_run (Zh (s:=⟨hh,g,d,t+1,os⟩) X I c.mo ?_) (by intro z;cases z);refine Ak (Ak ?_);exact handed_on rfl (Ak h)
theorem Zj (c:EC K C):KitX K (.ref x) (.ref C) (TyAt x C) where
 ty:=fun _ _ _ I=>I.type
 it:=fun _ _ X _=>by
  obtain ⟨cdD,hcD⟩:=qbB.mp c.cl;unfold clsIn at hcD;split at hcD
  ·rename_i c' d' cd' sl' ho;intro A' Q' E' s' k q;unfold isType loadHead;exact Ad (wpAny_loadPart (k _ _ (X _ _ ho)) (Ak q))
  ·cases hcD
 ne:=fun h tp dd its n sl X htp=>by
  obtain ⟨cdD,hcD⟩:=qbB.mp c.cl;refine Bool.eq_false_iff.mpr fun q=>?_;have e:C=tp:=Value.ref.inj (beq_iff_eq.mp q);subst e;unfold clsIn at hcD;split at hcD
  ·rename_i c' d' cd' sl' ho;have z:=(X _ _ ho).symm.trans htp;cases z
  ·cases hcD
 ca:=fun X I k=>Zi c X I k
end
def excNames:List Str:=["NoBoard","NoLine","NoSwitching","NoNumber","Unlike","NoNet","NoPlace","NoText","NoRow","TooMany","SwitchError"]
def BE (n n':Str):Bool:=n==n'||n'=="SwitchError"
def M1 (K:Frag) (C:Addr):Bool:=
 findIn K (.ref C) "__getattribute__"==some (some (.builtin "BaseException.__getattribute__"))&&findIn K (.ref C) "__getattr__"==some none&&(clsIn K C).isSome&&
 findIn K (.ref C) "__class__"==some (some (.builtin "object.__class__"))&&specialIn K (.builtin "object.__class__") "__get__"==some (some (.builtin "getset_descriptor.__get__"))&&
 takesIn K (.builtin "object.__class__")==some true&&mroIn K C (.type "object")==some true&&mroIn K C (.type "BaseException")==some true
theorem Zk {K:Frag} (h:M1 K C=true):EC K C:=by unfold M1 at h;simp only [B3,beq_iff_eq] at h;obtain ⟨⟨⟨⟨⟨⟨⟨h1,h2⟩,h3⟩,h4⟩,h5⟩,h6⟩,h7⟩,h8⟩:=h;exact ⟨h1,h2,h3,h4,h5,h6,h7,h8⟩
def Eg (K:Frag) (n:Str):Option Addr:=match nsIn K mainGlobals n with
 |some (some (.ref C))=>some C
 |_=>none
theorem Qp {K:Frag} (h:Eg K n=some C):nsIn K mainGlobals n=some (some (.ref C)):=by
 unfold Eg at h;split at h
 ·rename_i e;cases h;exact e
 ·cases h
def M3 (K:Frag) (n:Str) (C S:Addr):Bool:=
 M1 K C&&kitOne K (.ref C) (.type "ValueError")==some true&&(n=="TooMany"||MV K C Kl "ValueError.__new__")&&exmOne K (.ref C) (.ref S)==some true&&
  excNames.all fun n'=>match Eg K n' with
   |some C'=>kitOne K (.ref C) (.ref C')==some (BE n n')
   |none=>false
def etOk (K:Frag):Bool:=match Eg K "SwitchError" with
 |some S=>excNames.all fun n=>match Eg K n with
  |some C=>M3 K n C S
  |none=>false
 |none=>false
structure ET (K:Frag) (n:Str) (C:Addr):Prop where
 ec:EC K C
 ve:kitOne K (.ref C) (.type "ValueError")=some true
 at_:n≠"TooMany"→MU K C Kl "ValueError.__new__"
 sw:∀S,nsIn K mainGlobals "SwitchError"=some (some (.ref S))→exmOne K (.ref C) (.ref S)=some true
 sub:∀n' C',n'∈excNames→nsIn K mainGlobals n'=some (some (.ref C'))→kitOne K (.ref C) (.ref C')=some (BE n n')
theorem Ko {K:Frag} (h:etOk K=true) {n:Str} {C:Addr} (hn:n∈excNames) (hC:nsIn K mainGlobals n=some (some (.ref C))):ET K n C:=by
 unfold etOk at h;split at h
 ·rename_i S hS;have h1:=qaQ.mp h n hn;have e:Eg K n=some C:=by unfold Eg;rw [hC]
  rw [e] at h1;have h1:M3 K n C S=true:=h1;unfold M3 at h1;simp only [B3,beq_iff_eq,Bool.or_eq_true] at h1;obtain ⟨⟨⟨⟨a1,a2⟩,a3⟩,a4⟩,a5⟩:=h1;refine ⟨Zk a1,a2,fun z=>YO (a3.resolve_left z),fun S' hS'=>?_,fun n' C' hn' hC'=>?_⟩
  ·have:=Qp hS;rw [this] at hS';cases hS';exact a4
  ·have z:=qaQ.mp a5 n' hn';have e':Eg K n'=some C':=by unfold Eg;rw [hC']
   rw [e'] at z;exact beq_iff_eq.mp z
 ·cases h
section
variable {X:Cx} {E:XK}
theorem Zl (hg:Gl X x) (hn:nsIn X.K mainGlobals x=some (some (.ref a))) (hd:(x==("__debug__":Str))=false:=by decide):Ev X E (.Name x pos) (mC (.glo x)):=
 fun pins s σ H Q I z1_=>by obtain ⟨m,ρ,h,hr,er,p⟩:=z1_;exact (GI I hg (mg_of I.mod.kin I.mod.glob hn) ⟨.ref a,H,I,rfl,p (.ref a) m H (Ay _) (.refl _) hr (by simp only [rD,DV];exact ⟨a,rfl,hn⟩)⟩ hd)
def Eh {α:Type}:Out α→Prop
 |.err _ _ _=>False
 |_=>True
theorem Post.noE {α β:Type} {K:Frag} {R:List Addr→Hp→α→β→Prop} {Q:β→Hp→Prop} {o:Out α} (n:Eh o) (h:Post K R m H E Q o):Post K R m H E' Q o:=by
 cases o with
 |ok a h1=>exact h
 |err C fs h1=>exact False.elim n
 |stuck=>exact h
theorem M4 {F:List D→HD→Out D} (hF:∀ds h,Eh (F ds h))
 (hc:∀(pins:List (Addr×Obj)) (s:Shared) (σ:L2.St) (H:Hp) (m:List Addr) (h:HD) (ds:List D) (vs:List V) (us:List Value) (Q:VK),Inv X pins σ H s→HR X.K m h H→DVs X.K m H ds vs→Vals vs us→Post X.K (rD X.K) m H E0 Q (F ds h)→
  wpAny (model X.prog X.w) X.A (call f us) (EP X pins σ Q) X.xe s):Cr X f F:=
 ⟨fun vs H Q=>∃m h ds,HR X.K m h H∧DVs X.K m H ds vs∧Post X.K (rD X.K) m H E0 Q (F ds h),fun pins s σ H vs us Q I r z2_=>by obtain ⟨m,h,ds,hr,rd,q⟩:=z2_;exact (hc pins s σ H m h ds vs us Q I hr rd r q),fun m H h E ds vs Q hr rd q=>⟨m,h,ds,hr,rd,Post.noE (hF ds h) q⟩⟩
def AG:D→D→HD→Out D:=fun x y h=>match x with
 |.exc n _=>(match y with
  |.glo n'=>if n∈excNames∧n'∈excNames then .ok (.bl (BE n n')) h else .stuck
  |.ty T=>if n∈excNames∧T="ValueError" then .ok (.bl true) h else .stuck
  |_=>.stuck)
 |.edic=>(match y with
  |.ty T=>(match J9 "dict" T with
   |some b=>.ok (.bl b) h
   |none=>.stuck)
  |_=>.stuck)
 |_=>Bo x y h
theorem Zm (pins:List (Addr×Obj)) (s:Shared) (σ:L2.St) (H:Hp) (m:List Addr) (h:HD) (x y:D) (v v':V) (u u':Value) (Q:VK) (I:Inv X pins σ H s) (hr:HR X.K m h H) (rx:DV X.K m H x v) (ry:DV X.K m H y v') (r:RelV v u) (r':RelV v' u')
 (q:Post X.K (rD X.K) m H E0 Q (Bo x y h)):wpAny (model X.prog X.w) X.A (call (.builtin "isinstance") [u,u']) (EP X pins σ Q) X.xe s:=by
 unfold Bo at q;split at q
 ·rename_i T t et;split at q
  ·rename_i b eb;simp only [DV] at ry;subst ry;cases (show u'=Value.type T from r');exact V2 I r (X6 hr rx et) (PU eb) fun tk=>⟨.bl b,H,I.tok _,rfl,A8 hr q (by simp [DV])⟩
  ·exact q.elim
 ·exact q.elim
theorem Zn (et:etOk X.K=true):Cr X (.builtin "isinstance") (A4 AG):=by
 refine M4 (fun ds h=>?_) fun pins s σ H m h ds vs us Q I hr rd r q=>J3 rd q fun x y v v' ev rx ry q=>?_
 ·unfold A4 AG Bo
  repeat' split
  all_goals trivial
 ·subst ev;obtain ⟨u,u',rfl,r1,r2⟩:=HN r;unfold AG at q;split at q
  ·rename_i n fs;simp only [DV] at rx;obtain ⟨a,C,da,rfl,hC,ha,_⟩:=rx;cases (show u=Value.ref a from r1);obtain ⟨⟨o,ws,ho,hcl,hdi,hdat⟩,_⟩:=(show ObjOk X.prog X.w H s.heap a (.ext (Fv C da a)) from I.hok a _ ha)
   have key:∀(c:Value) (b:Bool),EC X.K C→kitOne X.K (.ref C) c=some b→Q (.bl b) H→wpAny (model X.prog X.w) X.A (call (.builtin "isinstance") [.ref a,c]) (EP X pins σ Q) X.xe s:=by intro c b ec e q;exact kia_one (Zj ec) I.kIn ⟨o,ho,hcl⟩ e (fun z=>nomatch z) fun tk=>⟨.bl b,H,I.tok _,rfl,q⟩
   split at q
   ·rename_i n';split at q
    ·rename_i hn;simp only [DV] at ry;obtain ⟨C',rfl,hC'⟩:=ry;cases (show u'=Value.ref C' from r2);have t:=Ko et hn.1 hC;exact key _ _ t.ec (t.sub n' C' hn.2 hC') (A8 hr q (by simp [DV]))
    ·exact q.elim
   ·rename_i T;split at q
    ·rename_i hn;simp only [DV] at ry;subst ry;cases (show u'=Value.type T from r2);obtain ⟨hn,rfl⟩:=hn;have t:=Ko et hn hC;exact key _ _ t.ec t.ve (A8 hr q (by simp [DV]))
    ·exact q.elim
   ·exact q.elim
  ·split at q
   ·rename_i T;split at q
    ·rename_i b eb;simp only [DV] at rx ry;obtain ⟨a,rfl,ha⟩:=rx;subst ry;cases (show u=Value.ref a from r1);cases (show u'=Value.type T from r2);obtain ⟨⟨_,o,ep,ho,hx,hd⟩,_⟩:=(show ObjOk X.prog X.w H s.heap a (.ext (JP a)) from I.hok a _ ha)
     exact kia_one kitx_dict I.kIn ⟨o,ho,hx.1⟩ (PU eb) (fun z=>nomatch z) fun tk=>⟨.bl b,H,I.tok _,rfl,A8 hr q (by simp [DV])⟩
    ·exact q.elim
   ·exact q.elim
  ·exact Zm pins s σ H m h x y v v' u u' Q I hr rx ry r1 r2 q
end
section
variable {X:Cx} {E:XK}
def Ei (chk:D→HD→Out D) (op:D→D→HD→Out D) (f g:ME):ME:=fun ρ h=>((f ρ h).bind chk).bind fun x h1=>(g ρ h1).bind fun y h2=>op x y h2
def Qq (X:Cx) (T:String) (x:V) (H:Hp):Prop:=∀(pins:List (Addr×Obj)) (σ:L2.St) (s:Shared) (u:Value),Inv X pins σ H s→RelV x u→s.TypeIs u T∧∀a,u=.ref a→∃ob,s.heap.get? a=some ob∧ob.dict=none
def Zo (X:Cx) (T:String) (r:V→List V→Hp→VK→Prop) (to:TE) (t:TA):TE:=fun σ H Q=>to σ H fun x H1=>Qq X T x H1∧t σ H1 fun xs H2=>r x xs H2 Q
theorem Zp {o e:Expr} {apos cpos:Pos} {T id:String} {r:V→List V→Hp→VK→Prop} (pa:PlainAttrs T) (slot:Slot T name id) (hty:typeOf (.builtin id)=pure (.type "method_descriptor")) (hm:Me X id r) (ho:PE X o to) (ha:PA X (e::es) t)
 (hbase:attributeBase o name X.env (eval o X.env)=eval o X.env:=by rfl)
 (hfew:((backTo cpos (starEach (e::es) X.env)).all (fun x=>!x.1)&&(backToKw cpos (keywordEach [] X.env)).all (fun x=>x.1.isSome)
  &&decide ((e::es).length+([]:List Keyword).length+(if ([]:List Keyword).isEmpty then 0 else 1)<30))=true:=by rfl)
 (hline:(apos.endLine==cpos.line)=true:=by rfl) (hs:starEach (e::es) X.env=(false,eval e X.env)::starEach es X.env:=by rfl) (hplain:(backTo cpos (starEach es X.env)).any (·.1)=false:=by rfl):
 PE X (.Call (.Attribute o name apos) (e::es) [] cpos) (Zo X T r to t):=by
 intro pins s σ H Q I h;refine wpAny_Call_method_late hbase hfew hline rfl (Au (ho pins s σ H _ I h) fun v s1 z1_=>?_);obtain ⟨x,H1,I1,r1,ty,q1⟩:=z1_;obtain ⟨h1,h2⟩:=ty pins σ s1 v I1 r1;refine ⟨T,id,pa,slot,hty,h1,h2,?_⟩;have hA:=ha cpos pins s1 σ H1 _ I1 q1;rw [hs] at hA ⊢;refine Calls.callWith_builtin (by show (false||(backTo cpos (starEach es X.env)).any (·.1))=false;rw [hplain]<;>rfl) (Calls.evalArgs_plain ?_);exact Au hA fun us s2 z2_=>by obtain ⟨vs,H2,I2,r2,q2⟩:=z2_;exact (hm pins s2 σ H2 x vs v us Q I2 r1 r2 q2)
structure M5 (X:Cx) (T:String) (chk:D→HD→Out D):Prop where
 two:∀x h,chk x h=.ok x h∨chk x h=.stuck
 ty:∀m H h x v,HR X.K m h H→DV X.K m H x v→chk x h=.ok x h→Qq X T v H
def Iq (X:Cx) (id:String) (op:D→D→HD→Out D):Prop:=
 ∀(pins:List (Addr×Obj)) (s:Shared) (σ:L2.St) (H:Hp) (m:List Addr) (h:HD) (x y:D) (v yv:V) (u uy:Value) (Q:VK),Inv X pins σ H s→HR X.K m h H→DV X.K m H x v→DV X.K m H y yv→RelV v u→RelV yv uy→Post X.K (rD X.K) m H E0 Q (op x y h)→
  wpAny (model X.prog X.w) X.A (call (.builtin id) [u,uy]) (EP X pins σ Q) X.xe s
theorem Kq {T id:String} {chk:D→HD→Out D} {op:D→D→HD→Out D} {apos cpos:Pos} (pa:PlainAttrs T) (slot:Slot T name id) (hty:typeOf (.builtin id)=pure (.type "method_descriptor"))
 (hc:M5 X T chk) (hn:∀x y h,Eh (op x y h)) (hm:Iq X id op) (ho:Ev X E o f) (he:Ev X E e g)
 (hbase:attributeBase o name X.env (eval o X.env)=eval o X.env:=by rfl)
 (hfew:((backTo cpos (starEach [e] X.env)).all (fun x=>!x.1)&&(backToKw cpos (keywordEach [] X.env)).all (fun x=>x.1.isSome)
  &&decide ([e].length+([]:List Keyword).length+(if ([]:List Keyword).isEmpty then 0 else 1)<30))=true:=by rfl)
 (hline:(apos.endLine==cpos.line)=true:=by rfl) (hs:starEach [e] X.env=(false,eval e X.env)::starEach [] X.env:=by rfl) (hplain:(backTo cpos (starEach [] X.env)).any (·.1)=false:=by rfl):
 Ev X E (.Call (.Attribute o name apos) [e] [] cpos) (Ei chk op f g):=by
 have hr:Me X id (fun v vs H Q=>∃m h x y yv,vs=[yv]∧HR X.K m h H∧DV X.K m H x v∧DV X.K m H y yv∧Post X.K (rD X.K) m H E0 Q (op x y h)):=by rintro pins s σ H v vs u us Q I r rs ⟨m,h,x,y,yv,ev,hr,rx,ry,q⟩;subst ev;obtain ⟨uy,rfl,r2⟩:=Dj rs;exact hm pins s σ H m h x y v yv u uy Q I hr rx ry r r2 q
 refine BI (Zp pa slot hty hr ho (JY he JX hs) hbase hfew hline hs hplain) fun σ H Q z3_=>?_;obtain ⟨m,ρ,h,hr,er,p⟩:=z3_;refine ⟨m,ρ,h,hr,er,?_⟩;unfold Ei at p;rw [Out.bind_assoc] at p;refine Post.bind p fun x h1 v m1 H1 eo p1 k1 hr1 r1 q1=>?_;clear eo;rcases hc.two x h1 with ec |ec
 ·rw [ec] at q1;simp only [Out.bind_ok] at q1;refine ⟨hc.ty m1 H1 h1 x v hr1 r1 ec,m1,ρ,h1,hr1,er.keep p1 k1,?_⟩;have q2:Post X.K (rD X.K) m1 H1 E Q ((Aa g Ac ρ h1).bind fun ys h2=>match ys with
   |[y]=>op x y h2
   |_=>.stuck):=by
   unfold Aa Ac;rw [Out.bind_assoc];exact q1
  refine Post.bind q2 fun ys h2 vs m2 H2 eo p2 k2 hr2 r2 q3=>?_;clear eo;split at q3
  ·rename_i y;simp only [Fw,DVs] at r2;obtain ⟨yv,w,rfl,ry,rfl⟩:=r2;exact ⟨m2,h2,x,y,yv,rfl,hr2,DV.keep p2 k2 r1,ry,Post.noE (hn x y h2) q3⟩
  ·exact q3.elim
 ·rw [ec] at q1;exact q1.elim
theorem Kr:M5 X "list" Cb where
 two:=fun x h=>by
  unfold Cb;split
  ·split
   ·exact .inl rfl
   ·exact .inr rfl
  ·exact .inr rfl
 ty:=fun m H h x v hr r e=>by
  unfold Cb at e;split at e
  ·rename_i l;split at e
   ·rename_i ds el;simp only [DV] at r;obtain ⟨a,rfl,ha⟩:=r;obtain ⟨ws,hv,dv⟩:=hr.cells l _ a el ha;exact fun pins σ s u I ru=>O3 I ru (.inl ⟨rfl,ws,SqL.of hv⟩)
   ·cases e
  ·cases e
def Hc (x:V) (xs:List V):Nat:=xs.countP fun y=>DR y x
theorem Qr:∀{xs:List V} {us:List Value},Vals xs us→xs.all DB=true→us.countP (CU x)=Hc x xs
 |_,_,.nil,_=>rfl
 |y::xs,u::us,.cons r t,f=>by rw [HE,B3] at f;unfold Hc;rw [List.countP_cons,List.countP_cons,JM r f.1,Qr t f.2];rfl
def Ir:D→D→HD→Out D:=fun x y h=>match Bx x h with
 |none=>.stuck
 |some ds=>match Cj y,Az (ds.map Cj) with
  |some v,some vs=>.ok (.int (Hc v vs)) h
  |_,_=>.stuck
theorem Zq (x y:D) (h:HD):Eh (Ir x y h):=by
 unfold Ir
 repeat' split
 all_goals trivial
def Gk:D→D→HD→Out D:=fun x y h=>(Cb x h).bind fun _ _=>Ir x y h
theorem Zr:Iq X "list.count" Gk:=by
 intro pins s σ H m h x y v yv u uy Q I hr rx ry r r2 q;unfold Gk at q;rcases (Kr (X:=X)).two x h with ec |ec
 ·rw [ec] at q;simp only [Out.bind_ok] at q;unfold Cb at ec;split at ec
  ·rename_i l;split at ec
   ·rename_i ds el;unfold Ir Bx at q;simp only [el] at q;split at q
    ·rename_i w ws e1 e2;simp only [DV] at rx;obtain ⟨a,rfl,ha⟩:=rx;cases (show u=Value.ref a from r);obtain ⟨vs,hv,dv⟩:=hr.cells l _ a el ha;obtain ⟨h1,h2⟩:=J1 ry e1;obtain ⟨h3,h4⟩:=J2 dv e2;subst h1 h3;obtain ⟨z,its,n,rr,hl,e⟩:=I.lstM hv;refine call_meets F.slot_list_count ⟨_,e,rfl⟩ F.entry_list_count (F.args_list_count_2 _ _) (PySem.SeqAt.list_countAt a its.toArray n none #[] uy (CU yv)) ⟨e,fun w hw=>HP r2 h2 rr h4 w (by simpa using hw),?_⟩;refine ⟨.int _,H,I.tok _,⟨_,rfl⟩,?_⟩;rw [show (its.toArray.toList.countP (CU yv))=Hc yv vs by rw [←Qr rr h4]];exact A8 hr q (by simp [DV])
    ·exact q.elim
   ·cases ec
  ·cases ec
 ·rw [ec] at q;exact q.elim
def Ks (x:V) (xs:List V):Option Nat:=xs.findIdx? fun y=>DR y x
def Gm:D→D→HD→Out D:=fun x y h=>match x with
 |.loc l=>(match h[l]? with
  |some (.lst ds)=>(match Cj y,Az (ds.map Cj) with
   |some v,some vs=>(match Ks v vs with
    |some j=>.ok (.int j) h
    |none=>.stuck)
   |_,_=>.stuck)
  |_=>.stuck)
 |_=>.stuck
theorem Zs (x y:D) (h:HD):Eh (Gm x y h):=by
 unfold Gm
 repeat' split
 all_goals trivial
theorem Zt (x y:D) (h:HD):Eh (Gk x y h):=by
 unfold Gk;rcases (show Cb x h=.ok x h∨Cb x h=.stuck by
  unfold Cb;split
  ·split
   ·exact .inl rfl
   ·exact .inr rfl
  ·exact .inr rfl) with e |e
 ·rw [e];exact Zq x y h
 ·rw [e];trivial
theorem Qs {xs:List V} {us:List Value} (r:Vals xs us) {x:V} (f:xs.all DB=true) {j:Nat} (hj:j<us.length):CU x us[j]=DR (xs[j]'(by rw [r.length];exact hj)) x:=by
 have hx:j<xs.length:=by rw [r.length];exact hj
 obtain ⟨u,e,ru⟩:=r.get (AR hx);rw [AR hj] at e;cases e;exact JM ru (qaQ.mp f _ (Dh hx))
theorem Zu:Iq X "list.index" Gm:=by
 intro pins s σ H m h x y v yv u uy Q I hr rx ry r r2 q;unfold Gm at q;split at q
 ·rename_i l;split at q
  ·rename_i ds el;split at q
   ·rename_i w ws e1 e2;split at q
    ·rename_i j ej;simp only [DV] at rx;obtain ⟨a,rfl,ha⟩:=rx;cases (show u=Value.ref a from r);obtain ⟨vs,hv,dv⟩:=hr.cells l _ a el ha;obtain ⟨h1,h2⟩:=J1 ry e1;obtain ⟨h3,h4⟩:=J2 dv e2;subst h1 h3;obtain ⟨z,its,n,rr,hl,e⟩:=I.lstM hv;unfold Ks at ej;rw [List.findIdx?_eq_some_iff_getElem] at ej;obtain ⟨hj,hit,hno⟩:=ej;have hji:j<its.length:=by rw [←hl];exact hj
     have hsl:(j:Int)<2^63 - 1:=by have:=GL;omega
     refine call_meets F.slot_list_index ⟨_,e,rfl⟩ F.entry_list_index (F.args_list_index_2 _ _) (PySem.SeqAt.list_indexAt a its.toArray n none #[] uy (CU yv) j (by simpa using hji) hsl ?_ ?_) ⟨e,fun w hw=>HP r2 h2 rr h4 w (by simpa using hw),?_⟩
     ·have:=Qs rr h4 (x:=yv) hji;simp only [List.getElem_toArray];rw [this];exact hit
     ·intro k hk hkj;have hk':k<its.length:=by simpa using hk
      have:=Qs rr h4 (x:=yv) hk';simp only [List.getElem_toArray];rw [this];simpa using hno k hkj
     ·exact ⟨.int _,H,I.tok _,⟨_,rfl⟩,A8 hr q (by simp [DV])⟩
    ·exact q.elim
   ·exact q.elim
  ·exact q.elim
 ·exact q.elim
end
variable {g:Str}
theorem Zv (_:TriplesOk l) (e:codeAmong pos l=some cv):codeAmong pos (l++r)=some cv:=by
 rename_i ht;clear ht
 fun_induction codeAmong pos l with
 |case1 line t col u c rest h=>rw [DZ,DZ,DZ,codeAmong,if_pos h];exact e
 |case2 line t col u c rest h ih=>rw [DZ,DZ,DZ,codeAmong,if_neg h];exact ih e
 |case3=>cases e
theorem Qt {pos p2:Pos}:∀{l:List Value},TriplesOk l→codeAmong p2 (l++[rawInt pos.line,rawInt pos.col,c])=some cv→codeAmong p2 l=some cv∨cv=c
 |[],_,e=>by
  simp only [FY,rawInt,codeAmong] at e;split at e
  ·exact .inr (Option.some.inj e).symm
  ·cases e
 |.int i t::.int j u::c'::l,h,e=>by
  simp only [codeAmong,DZ] at e ⊢;split at e
  ·rename_i z;rw [if_pos z];exact .inl e
  ·rename_i z;rw [if_neg z];exact Qt (by simpa [TriplesOk] using h) e
theorem HR.tab {K:Frag} {H H':Hp} {l0:Nat} (r:HR K m h H) (k:Kp H H') (s:∀b,b≠P→H b≠none→H' b=H b) (t:TabIs K g H' P) (tt:TabIs K g H P) (hl0:h[l0]?=some (.tabn g)) (hm0:m[l0]?=some P):HR K m h H':=by
 refine ⟨r.len,r.nd,fun l c a e q=>?_⟩;have hm:a∈m:=Dw q;have hn:H a≠none:=r.mem hm;have:=r.cells l c a e q;cases c with
 |lst ds=>
  obtain ⟨vs,e1,e2⟩:=this;have ha:a≠P:=by rintro rfl;obtain ⟨_,ps,z,_⟩:=tt;rw [z] at e1;cases e1
  exact ⟨vs,by rw [s a ha hn];exact e1,e2.keep (Ay _) k⟩
 |ins n fs=>
  obtain ⟨C,dx,fv,e0,e1,e2⟩:=this;have ha:a≠P:=by rintro rfl;obtain ⟨_,ps,z,_⟩:=tt;rw [z] at e1;cases e1
  exact ⟨C,dx,fv,e0,by rw [s a ha hn];exact e1,e2.keep (Ay _) k⟩
 |tabn g'=>
  by_cases ha:a=P
  ·subst ha;have hl:l=l0:=by obtain ⟨h1,e1⟩:=qa1.mp q;obtain ⟨h2,e2⟩:=qa1.mp hm0;exact (GF r.nd).mp (e1.trans e2.symm)
   subst hl;rw [hl0] at e;cases e;exact t
  ·exact TabIs.keep this k (s a ha hn)
 |dic fz kvs=>
  obtain ⟨es,e1,e2⟩:=this;have ha:a≠P:=by
   rintro rfl;obtain ⟨_,ps,z,_⟩:=tt;cases fz with
   |true=>obtain ⟨o,q⟩:=e1;rw [z] at q;cases q
   |false=>exact absurd (z.symm.trans e1) (by intro w;cases w)
  exact ⟨es,e1.same (s a ha hn),e2.keep (Ay _) k⟩
structure LamX (g:Str) (X:Cx) (c P:Addr):Prop where
 code:X.env.code=.ref c
 tp:tabP X.K g=some (c,P)
 hd:codeHdIn X.K c P=true
 qual:X.env.qual=O9 g
 bm:∃bm o,X.mg "__builtins__"=some (.ref bm)∧bm≠builtinsNs∧X.base.get? bm=some o∧o.cls=.type "module"∧o.dict=some builtinsNs∧o.data=.plain
section
variable {X:Cx} {E:Value→Shared→Prop} {c P:Addr} {pins:List (Addr×Obj)} {σ:L2.St} {H:Hp} {s:Shared}
theorem LamX.builtins (L:LamX g X c P) (I:Inv X pins σ H s) (t:TabIs X.K g H P):s.heap.BuiltinsAt X.mg P:=by
 obtain ⟨bm,o,h1,h2,h3,h4,h5,h6⟩:=L.bm;obtain ⟨e,n⟩:=I.bs bm o h3;refine ⟨bm,o,h1,h2,fun z=>?_,fun z=>?_,e,h4,h5,h6⟩
 ·obtain ⟨og,es,ep,e1,e2,_⟩:=I.mod.glob;rw [z,e1] at h3;cases h3;rw [e2] at h6;cases h6
 ·obtain ⟨_,ps,q,_⟩:=t;rw [z,q] at n;cases n
theorem Zw {params:Arguments} {clos:List (Str×Addr)} {Q:Value→Shared→Prop} (L:LamX g X c P) (I:Inv X pins σ H s) (t:TabIs X.K g H P) (hdef:defaultsOf params X.env=([],[])) (hcl:closureFor scope X.env=pure clos)
 (k:∀(f' c':Addr) (ctv pm:Value) (h':Heap) (tk:Nat) (H':Hp),Inv X pins σ H' {s with heap:=h',toks:=tk}→Kp H H'→TabIs X.K g H' P→(∀b,b≠P→H b≠none→H' b=H b)→(∀b o,b≠P→s.heap.get? b=some o→h'.get? b=some o)→s.heap.objs.size≤f'→
  H' f'=none→h'.get? f'=some (kla_obj "<lambda>" (Bk g) params body scope clos pm c' ctv)→(∃ps,H' P=some (.tbl ps)∧codeAmong pos ps.toList=some (.ref c'))→Q (.ref f') {s with heap:=h',toks:=tk}):
 wpAny (model X.prog X.w) A (eval (.Lambda params body scope pos) X.env) Q E s:=by
 have hB:=L.builtins I t;have hg:s.heap.Ns mainGlobals X.mg:=I.mod.glob.keeps I.bk;have hCd:CodeHd s.heap c P:=codeHd_of_K I.kIn L.hd;obtain ⟨ht1,ps,hps,htr,hcs⟩:=id t;have hP:s.heap.get? P=some (tabObj ps):=I.hok P _ hps;have hgP:mainGlobals≠P:=fun z=>by obtain ⟨og,es,ep,e1,e2,_⟩:=I.mod.glob;have:=(I.bs _ _ e1).2;rw [z,hps] at this;cases this
 have hq:X.env.qual++"<lambda>"=(Bk g):=by rw [L.qual];rfl
 refine kla_eval hdef ?_;rw [hq];cases hc:codeAmong pos ps.toList with
 |some cv=>obtain ⟨c',rfl,hx⟩:=hcs pos cv hc;refine kla_makeFunctionHit (mg:=X.mg) hcl I.ok.glob hg L.code hCd hP htr hc hB fun ctv h' tk hk hsz=>?_;have hk2:∀b o,s.heap.get? b=some o→(h'.push (kla_obj "<lambda>" (Bk g) params body scope clos ((X.mg "__name__").getD .none) c' ctv)).get? b=some o:=fun b o e=>Aw _ (hk b o e);exact k _ c' ctv _ _ tk H (I.kept hk2) (.refl _) t (fun _ _ _=>rfl) (fun b o _ e=>hk2 b o e) hsz (I.hok.fresh hsz) (Bc _ rfl) ⟨ps,hps,hc⟩
 |none=>
  refine kla_makeFunction (mg:=X.mg) hcl I.ok.glob hg L.code hCd hP htr hc hgP hB fun c' ctv h' tk hx hge hlt hrec htb=>?_;generalize ho:kla_obj "<lambda>" (Bk g) params body scope clos ((X.mg "__name__").getD .none) c' ctv=fo;have hk2:∀b o,b≠P→s.heap.get? b=some o→(h'.push fo).get? b=some o:=fun b o hb e=>Aw _ (hx b o hb e);have hPs:P<s.heap.objs.size:=AC hP;have hc'P:c'≠P:=Gd (AU hPs hge);have hc'n:H c'=none:=I.hok.fresh hge;generalize hps':ps++#[rawInt pos.line,rawInt pos.col,.ref c']=ps' at htb;have tl:ps'.toList=ps.toList++[rawInt pos.line,rawInt pos.col,.ref c']:=by rw [←hps'];simp
  have hH:∀b,b≠P→H b≠none→Aq (Aq H P (.tbl ps')) c' (.ext (GN (Bk g) c')) b=H b:=fun b hb hn=>by have:b≠c':=fun z=>hn (z ▸ hc'n);rw [AD this,AD hb]
  have hHP:Aq (Aq H P (.tbl ps')) c' (.ext (GN (Bk g) c')) P=some (.tbl ps'):=by rw [AD (Ne.symm hc'P),B0]
  have kp:Kp H (Aq (Aq H P (.tbl ps')) c' (.ext (GN (Bk g) c'))):=fun b o e i=>by
   have:b≠P:=fun z=>by rw [z,hps] at e;cases e;cases i
   rw [hH b this (by rw [e];simp)];exact e
  have lt':∀b o,s.heap.get? b=some o→b≠c':=fun b o e=>BR (AU (AC e) hge);have un:Un X.fs [] H (Aq (Aq H P (.tbl ps')) c' (.ext (GN (Bk g) c'))) s.heap (h'.push fo):=by
   have neP:∀{b},H b=none→b≠P:=fun {b} n z=>by rw [z,hps] at n;cases n
   refine ⟨fun b o e n _ _=>hk2 b o (neP n) e,fun b o e n _ _=>⟨o.slots,hk2 b o (neP n) e⟩,fun b o e n _=>?_,fun b o e _=>?_,fun b xs e=>?_,fun b o u e=>?_,fun b qs e=>?_⟩
   ·rw [AD (lt' b o e),AD (neP n)];exact n
   ·by_cases hb:b=P
    ·subst hb;exact ⟨_,Aw _ htb⟩
    ·exact ⟨o,hk2 b o hb e⟩
   ·rw [hH b (fun z=>by rw [z,hps] at e;cases e) (by rw [e];simp)];exact e
   ·rw [hH b (fun z=>by rw [z,hps] at e;cases e) (by rw [e];simp)];exact e
   ·by_cases hb:b=P
    ·subst hb;rw [hps] at e;cases e;exact ⟨_,by rw [hHP,←hps']⟩
    ·exact ⟨#[],by rw [hH b hb (by rw [e];simp),e];simp⟩
  have hok:HOk X.prog X.w (Aq (Aq H P (.tbl ps')) c' (.ext (GN (Bk g) c'))) (h'.push fo):=by
   intro b o e
   by_cases hb:b=c'
   ·subst hb;rw [B0] at e;cases e;have r1:(h'.push fo).CodeRec (.ref b) (Bk g):=hrec.keeps fun b o e=>Aw _ e;refine ⟨r1,?_,fun h1 h2 z1 z2=>?_⟩
    ·obtain ⟨c2,oc,vs,t2,e1,e2,_⟩:=r1;cases e1;exact ⟨oc,e2⟩
    ·obtain ⟨c2,oc,vs,t2,e1,e2,e3⟩:=z1;cases e1;exact ⟨_,oc,vs,t2,rfl,z2 _ e2,e3⟩
   ·by_cases hbP:b=P
    ·subst hbP;rw [hHP] at e;cases e;exact Aw _ htb
    ·rw [AD hb,AD hbP] at e;refine (I.hok b o e).stay (fun d u hd q=>hk2 d u ?_ q) (fun d q=>?_) fun d xs q=>?_
     ·rcases hd with rfl |hd
      ·exact hbP
      ·exact fun z=>by rw [z,hps] at hd;cases hd
     ·rw [hH d (fun z=>by rw [z,hps] at q;cases q) (by rw [q];simp)];exact q
     ·rw [hH d (fun z=>by rw [z,hps] at q;cases q) (by rw [q];simp)];exact q
  have hsz:s.heap.objs.size≤h'.objs.size:=EH (Nat.lt_of_le_of_lt hge hlt);refine k _ c' ctv ((X.mg "__name__").getD .none) _ tk _ (I.un un hok) kp ⟨ht1,ps',hHP,?_,fun p2 cv e=>?_⟩ hH hk2 hsz ?_ (by rw [←ho];exact Bc _ rfl) ⟨ps',hHP,?_⟩
  ·rw [tl];exact TriplesOk_snoc _ _ _ _ htr
  ·rw [tl] at e;rcases Qt htr e with z |z
   ·obtain ⟨c2,z1,z2⟩:=hcs p2 cv z;exact ⟨c2,z1,kp _ _ z2 rfl⟩
   ·exact ⟨c',z,B0⟩
  ·have n1:h'.objs.size≠c':=Gd hlt;have n2:h'.objs.size≠P:=Gd (AU hPs hsz);rw [AD n1,AD n2];exact I.hok.fresh hsz
  ·rw [tl];exact codeAmong_snoc _ htr hc
end
end LS
namespace LS
open PySem PySem.Spec PyProof.Rows L2 PySem.W
variable {g:Str}
def Ej (g:Str) (P:Program) (w:World) (K:Frag) (mg:Str→Option Value) (base:Heap) (N:List Str) (scope:Scope) (a:Addr) (cd:Value) (cl:List (Str×Addr)) (A:Around) (outer:List Env) (s:Shared) (H:Hp) (E:XK):Cx where
 prog:=P
 w:=w
 K:=K
 mg:=mg
 base:=base
 A:=A.deeper (envX (Bk g) scope s.heap.objs.size a cd cl)
 N:=N
 s₀:=s
 H₀:=H
 env:=envX (Bk g) scope s.heap.objs.size a cd cl
 outer:=outer
 stack:=envX (Bk g) scope s.heap.objs.size a cd cl::outer
 ex:=[]
 calm:=true
 fn:=fun _=>false
 pn:=[]
 xe:=fun e s'=>wpAny (model P w) (A.deeper (envX (Bk g) scope s.heap.objs.size a cd cl)) (leaving (envX (Bk g) scope s.heap.objs.size a cd cl) e) (fun _ s''=>Ba P w K outer H s E e s'') (fun e' s''=>Ba P w K outer H s E e' s'') s'
theorem Zx {K:Frag} {N:List Str} {cl:List (Str×Addr)}:
 Lv (Ej g P w K mg base N scope a cd cl A outer s H E) E:=⟨fun _ _ h=>h,rfl,rfl,rfl⟩
theorem Zy {K:Frag} {N:List Str} {cl:List (Str×Addr)}:
 F4 (Ba P w K) (Ej g P w K mg base N scope a cd cl A outer s H E) E:=MR Zx
structure Iu (h:Heap) (H:Hp) (outer:List Env) (N:List Str) (scope:Scope) (cl:List (Str×Addr)) (vs:List V):Prop where
 len:vs.length=N.length
 inj:∀x y c,cl.lookup x=some c→cl.lookup y=some c→x=y
 has:∀x,scope.names.lookup x=some .free→∃c,cl.lookup x=some c
 cell:∀x c,cl.lookup x=some c→(∃v,h.IsCell c v)∧H c=none∧c∉frs outer
 val:∀(i:Nat) (x:Str) (v:V),N[i]?=some x→vs[i]?=some v→scope.names.lookup x=some .free∧∃c u,cl.lookup x=some c∧h.IsCell c (some u)∧RelV v u
structure LamSc (scope:Scope):Prop where
 kind:scope.kind=.function
 co:scope.isCoroutine=false
 gen:scope.isGenerator=false
 only:(scope.names.all fun y=>y.2 != .cell)=true
theorem LamSc.nocell {scope:Scope} (S:LamSc scope):∀x∈scope.names,x.2≠.cell:=fun x hx e=>by have:=qaQ.mp S.only x hx;rw [e] at this;simp at this
section
variable {P:Program} {w:World} {K:Frag} {mg:Str→Option Value} {base:Heap} {N:List Str} {scope:Scope} {a c':Addr} {pm ctv:Value} {params:Arguments} {body:Expr} {cl:List (Str×Addr)} {A:Around} {outer:List Env} {s:Shared} {H:Hp} {E:XK} {vs:List V}
theorem Zz {h1:Heap} {t1:Nat} (S:LamSc scope) (hd:A.handled=none) (e0:Ft P w K mg base A outer s H) (C:Iu s.heap H outer N scope cl vs) (ns:h1.Ns s.heap.objs.size (fun _=>none)) (hk:∀b o,s.heap.get? b=some o→h1.get? b=some o):
 Inv (Ej g P w K mg base N scope a cd cl A outer s H E) [] (vs.map some) H {s with heap:=h1,toks:=t1}:=by
 have noA:∀b:Addr,b∉(Ej g P w K mg base N scope a cd cl A outer s H E).ex:=fun b z=>absurd (show b∈([]:List Addr) from z) (by simp);refine ⟨⟨e0.mod,S.kind,rfl,rfl,Ax _,C.inj,fun x hx=>?_,fun x c hf=>(by cases hf),fun _=>hd,Around.frames_deeper e0.frames,.inr ⟨rfl,rfl⟩,fun b z=>absurd z (noA b),e0.bs,e0.bsz,fun b _ _=>noA b,fun b z=>absurd z (noA b),e0.funs,e0.frf⟩,
  rfl,e0.bare,Un.kept hk,⟨_,ns,fun i x v e1 e2 _=>?_⟩,fun x c e=>?_,e0.hok.fresh (Ax _),fun x c e=>(C.cell x c e).2.1,fun p hp=>absurd (show p∈([]:List (Addr×Obj)) from hp) (by simp),e0.hok.kept hk,?_⟩
 ·have hx':scope.names.lookup x=some .cell∨scope.names.lookup x=some .free:=hx;rcases hx' with z |z
  ·exact absurd rfl (S.nocell _ (mem_of_lookup z))
  ·exact C.has x z
 ·rw [BO] at e2;cases ev:vs[i]? with
  |none=>rw [ev] at e2;cases e2
  |some v'=>rw [ev] at e2;cases e2;obtain ⟨hf,c,u,e3,e4,r⟩:=C.val i x v e1 ev;exact ⟨u,r,.inr ⟨.inr hf,c,e3,e4.keeps hk⟩⟩
 ·obtain ⟨⟨v,q⟩,_⟩:=C.cell x c e;exact ⟨v,q.keeps hk⟩
 ·show (vs.map some).length=N.length
  rw [A0];exact C.len
theorem ZA {k:Nat} {f:ME} (S:LamSc scope) (hr:Room (k+1) A) (e0:Ft P w K mg base A outer s H) (C:Iu s.heap H outer N scope cl vs) (ho:s.heap.get? a=some (kla_obj "<lambda>" (Bk g) params body scope cl pm c' ctv)) (hcd:s.heap.CodeRec (.ref c') (Bk g))
 (hbind:bindArgs (kla_fn "<lambda>" (Bk g) params body scope cl pm (.ref c') ctv) ⟨[],[]⟩=pure [])
 (hb:Room k (A.deeper (envX (Bk g) scope s.heap.objs.size a (.ref c') cl))→Ev (Ej g P w K mg base N scope a (.ref c') cl A outer s H E) E body f)
 (q:∃m ds h,HR K m h H∧DVs K m H ds vs∧Post K (rD K) m H E Q (f (ds.map some) h)):codeAny (model P w) A (.call (.ref a) ⟨[],[]⟩) (CR (Ba P w K) outer P w H s Q E) s:=by
 refine kla_callFunE hr.depth ho rfl S.co S.gen rfl hcd ?_;rw [hbind];have lim:s.heap.NoLimit:=e0.mod.nolimit.keeps fun b o e=>(e0.bs b o e).1;refine Ak (wpAny_newFunctionEnv S.nocell (fun y hy=>by cases hy) (fun h₁ hns hsb=>⟨lim.fresh _ hsb,?_⟩) S.kind);have hk₁:∀b o,s.heap.get? b=some o→h₁.get? b=some o:=fun b o e=>hsb.extBut b o (Bf (AC e)) (Aw _ e);have I:Inv (Ej g P w K mg base N scope a (.ref c') cl A outer s H E) [] (vs.map some) H {s with heap:=h₁,toks:=s.toks+0}:=Zz S hr.hd e0 C hns hk₁;obtain ⟨m,ds,h,hr1,r,p⟩:=q;have er:ER K m H (ds.map some) (vs.map some):=by
  refine ⟨by simp [r.len],fun i d e=>?_⟩;rw [BO] at e;cases ed:ds[i]? with
  |none=>rw [ed] at e;cases e
  |some d'=>rw [ed] at e;cases e;obtain ⟨v,e1,r1⟩:=r.get ed;exact ⟨v,by rw [BO,e1];rfl,r1⟩
 refine kla_codeExpr (A1 (hb (hr.deeper _) [] _ _ H Q I ⟨m,ds.map some,h,hr1,er,p⟩) (fun u s' hs=>?_) fun e s' hs=>hs);obtain ⟨v,H',J,rv,qv⟩:=hs;exact ⟨v,H',J.os,J.bare,J.base,J.hok,rv,qv⟩
end
end LS
namespace LS
open PySem PySem.Spec PyProof.Rows L2 PySem.W
variable {g:Str}
structure RoomM (k:Nat) (A:Around):Prop where
 dp:A.depth+3*k+5<recursionLimit
 un:A.units+16*k+200<cLine
 gd:A.guards=some []
theorem RoomM.deeper {k:Nat} {A:Around} (r:RoomM (k+1) A) (env:Env):RoomM k (A.deeper env):=
 ⟨by have:=r.dp;show A.depth+1+3*k+5<_;omega,by have:=r.un;show A.units+3+16*k+200<_;omega,r.gd⟩
theorem RoomM.units {k:Nat} {A:Around} (r:RoomM k A):A.units+64<cLine:=by have:=r.un;omega
theorem RoomM.mono {j k:Nat} (r:RoomM k A) (h:j≤k):RoomM j A:=⟨by have:=r.dp;omega,by have:=r.un;omega,r.gd⟩
theorem RoomM.of {k:Nat} {A:Around} (r:Room k A) (e:Option Value):RoomM k (A.mark e):=⟨r.dp,r.un,r.gd⟩
def Hd (P:Program) (w:World) (K:Frag) (mg:Str→Option Value) (base:Heap) (N:List Str) (qual:Str) (scope:Scope) (f:Addr) (cd:Value) (A:Around) (outer:List Env) (s:Shared) (H:Hp):Cx:=
 {BP O6 P w K mg base N qual scope f cd A outer s H E0 with calm:=false,xe:=fun _ _=>False}
theorem ZC {K:Frag} {N ps:List Str} {scope:Scope} {s s1:Shared} {vs:List V} 
 (S:DQ N ps scope) (e0:Ft P w K mg base A outer s H) (hl:vs.length=ps.length) (r:Vals vs us)
 (x:InCallC s s.heap.objs.size (bindL (envOfC qual scope s.heap.objs.size f cd).kindOf (ps.zip us) fun _=>none) (cellsFrom (s.heap.objs.size+1) scope.names []) (bindC (envOfC qual scope s.heap.objs.size f cd).kindOf (ps.zip us) fun _=>none) s1):
 Inv (Hd P w K mg base N qual scope f cd A outer s H) [] (start N vs) H s1:=by
 have hpl:ps.length≤N.length:=by have:=congrArg List.length S.pre;rw [FW] at this;omega
 obtain ⟨h1,tk,rfl,hk⟩:=x.done;have noA:∀b:Addr,b∉(Hd P w K mg base N qual scope f cd A outer s H).ex:=fun b z=>absurd (show b∈([]:List Addr) from z) (by simp);refine ⟨⟨e0.mod,S.kind,rfl,rfl,Ax _,fun y z c h1 h2=>?_,fun y hy=>?_,fun y c _ h=>?_,fun z=>(nomatch z),Around.frames_deeper e0.frames,.inr ⟨rfl,rfl⟩,fun b z=>absurd z (noA b),e0.bs,e0.bsz,fun b _ _=>noA b,fun b z=>absurd z (noA b),e0.funs,e0.frf⟩,
  rfl,e0.bare,Un.kept hk,⟨_,x.toInCall.ns,fun i y v h1 h2 h3=>?_⟩,fun y c h=>⟨_,x.cell y c h⟩,e0.hok.fresh (Ax _),fun y c h=>?_,fun p hp=>absurd (show p∈([]:List (Addr×Obj)) from hp) (by simp),e0.hok.kept hk,?_⟩
 ·exact name_of_addr x.apart (PySem.mem_of_lookup h1) (PySem.mem_of_lookup h2)
 ·have hy:scope.names.lookup y=some .cell∨scope.names.lookup y=some .free:=hy;rcases hy with hy |hy
  ·exact JL hy
  ·exact absurd rfl (S.nofree _ (PySem.mem_of_lookup hy))
 ·exact EH (x.above y c (PySem.mem_of_lookup h))
 ·have hi:i<vs.length:=by
   unfold L2.start at h2
   by_cases hi:i<vs.length
   ·exact hi
   ·rw [Hs (by simpa using hi)] at h2;rw [LG] at h2;split at h2<;>cases h2
  have ha:vs[i]?=some v:=by
   unfold L2.start at h2;rw [EA (by simpa using hi),BO] at h2;cases e:vs[i]? with
   |none=>rw [e] at h2;cases h2
   |some a=>rw [e] at h2;cases h2;rfl
  obtain ⟨u,hu,rv⟩:=r.get ha;have hp:ps[i]?=some y:=by rw [←S.pre,LC (by omega)];exact h1
  have ndP:ps.Nodup:=by rw [←S.pre];exact S.nd.sublist (List.take_sublist _ _)
  refine ⟨u,rv,?_⟩;rcases S.par y (Dw hp) with k |k
  ·exact .inl ⟨k,Mc ndP hp hu k⟩
  ·obtain ⟨c,e⟩:=JL (n:=s.heap.objs.size+1) k;refine .inr ⟨.inl k,c,e,?_⟩;have q:=x.cell y c e;rw [Md ndP hp hu (by show scope.names.lookup y≠_;rw [k];decide)] at q;exact q
 ·exact e0.hok.fresh (EH (x.above y c (PySem.mem_of_lookup h)))
 ·unfold L2.start
  show _=N.length
  rw [Dg,A0,List.length_replicate];omega
structure Qu (P:Program) (w:World) (K:Frag) (mg:Str→Option Value) (base:Heap) (k:Nat) (f:Addr) (fd:FuncData) (ps:List Str) (F:List D→HD→Out D):Prop where
 run:∀(A:Around) (outer:List Env) (s:Shared) (H:Hp) (args:Args) (us:List Value) (vs:List V) (Q:VK),RoomM k A→Ft P w K mg base A outer s H→BindsTo s fd args (ps.zip us)→Vals vs us→JZ K F vs H Q E0→
  codeAny (model P w) A (.call (.ref f) args) (CR O6 outer P w H s Q E0) s
theorem ZD {K:Frag} {st:Stmt} {N ps:List Str} {k:Nat} {F:List D→HD→Out D} {g:MS} (Fn:Fun K x qual st f fd) (S:DQ N ps (defScope st)) (ar:Ar ps.length F)
 (hg:∀ds h,ds.length=ps.length→F ds h=AL N.length g ds h)
 (hbody:∀(cdv:Value) (A:Around) (outer:List Env) (s:Shared) (H:Hp),RoomM k (A.deeper (envOfC qual (defScope st) s.heap.objs.size f cdv))→CH (Hd P w K mg base N qual (defScope st) f cdv A outer s H) E0 (defBody st) g):Qu P w K mg base (k+1) f fd ps F:=by
 obtain ⟨oc,od,kV,doc,pm,an,cdv,ct,osl,rfl,lk,hcd⟩:=Fn.ex;refine ⟨fun A outer s H args us vs Q hr e0 hb r hsp=>?_⟩;have hl:vs.length=ps.length:=ar.len hsp;have KX:K.In s.heap:=e0.mod.kin.keeps fun b o e=>(e0.bs b o e).1;have lim:s.heap.NoLimit:=e0.mod.nolimit.keeps fun b o e=>(e0.bs b o e).1;have hkind:∀y∈ps.zip us,(defScope st).names.lookup y.1=some .local∨((defScope st).names.lookup y.1=some .cell∧((cellsFrom (s.heap.objs.size+1) (defScope st).names []).lookup y.1).isSome=true):=fun z1_ hy=>by
  obtain ⟨n,v⟩:=z1_;rcases S.par n (Jv hy).1 with q |q
  ·exact .inl q
  ·exact .inr ⟨q,PySem.W.cellsFrom_some _ _ _ (.inl q)⟩
 refine codeAny_call_function (by have:=hr.dp;omega) (KX _ _ lk) rfl S.co S.gen rfl (PySem.W.codeRec_of KX hcd) (hb _ _ _ _ ?_);refine wpAny_newFunctionEnv_cells S.kind hkind fun env he s1 x=>?_;subst he;refine ⟨lim.keeps x.toInCall.keep,codeAny_func ?_⟩;have I:Inv (Hd P w K mg base N qual (defScope st) f cdv A outer s H) [] (start N vs) H s1:=ZC S e0 hl r x;have AJ:∀{σ':L2.St} {H':Hp} {v:V} {u:Value} {s':Shared},Inv (Hd P w K mg base N qual (defScope st) f cdv A outer s H) [] σ' H' s'→RelV v u→Q v H'→CE outer P w H s Q u s':=
  fun {σ' H' v u s'} J rv q=>⟨v,H',J.os,J.bare,J.base,J.hok,rv,q⟩
 have post:GO K E0 g {nx:=fun _ H'=>Q .non H',rt:=Q} (start N vs) H:=by
  obtain ⟨m,ds,hd,hr1,r,p⟩:=hsp;have hld:ds.length=ps.length:=by rw [r.len];exact hl
  refine ⟨m,ds.map some++List.replicate (N.length - ds.length) none,hd,hr1,ER.start r,?_⟩;rw [hg ds hd hld] at p;unfold AL at p;cases o:g (ds.map some++List.replicate (N.length - ds.length) none) hd with
  |stuck=>rw [o] at p;exact p
  |err C fs h1=>rw [o] at p;exact p
  |ok a h1=>
   rw [o] at p;obtain ⟨fl,ρ1⟩:=a;intro m1 H1 p1 k1 hr1;cases fl with
   |nx=>exact fun σ er=>p .non m1 H1 p1 k1 hr1 (by simp [rD,DV])
   |bk=>exact False.elim p
   |ct=>exact False.elim p
   |rt d=>exact fun v rv=>p v m1 H1 p1 k1 hr1 rv
 refine A1 (hbody cdv A outer s H (hr.deeper _) [] s1 (start N vs) H _ I post) (fun fl s' hs=>?_) fun e s' hs=>hs.elim;cases fl with
 |ret u=>obtain ⟨v,σ',H',J,rv,q⟩:=hs;exact AJ J rv q
 |next=>obtain ⟨σ',H',J,q⟩:=hs;exact AJ (v:=V.non) (u:=Value.none) J rfl q
 |brk=>obtain ⟨_,_,_,q⟩:=hs;exact False.elim q
 |cont=>obtain ⟨_,_,_,q⟩:=hs;exact False.elim q
structure CaM (P:Program) (w:World) (K:Frag) (mg:Str→Option Value) (base:Heap) (x:Str) (k:Nat) (F:List D→HD→Out D):Prop where
 ex:∃(f:Addr) (fd:FuncData) (ps:List Str),Qu P w K mg base k f fd ps F∧Binds K fd ps []∧mg x=some (.ref f)∧PySem.W.keepIn K (.ref f)=true∧Ar ps.length F
section
variable {X:Cx} {E:XK}
theorem ZE {k k':Nat} {x:Str} {e:Expr} (C:CaM X.prog X.w X.K X.mg X.base x k F) (hr:RoomM k' X.A) (ha:CG X E0 (e::es) fa) (hk:k≤k':=by decide) (hg:Gl X x:=by rfl)
 (hdb:(x==("__debug__":Str))=false:=by decide) (he:starEach (e::es) X.env=(false,eval e X.env)::starEach es X.env:=by rfl) (hpl:(backTo pos (starEach es X.env)).any (·.1)=false:=by rfl):
 Ev X E0 (.Call (.Name x p) (e::es) [] pos) (Af F fa):=by
 obtain ⟨f,fd,ps,G,hb,hm,hkp,ar⟩:=C.ex;rintro pins s σ H Q I ⟨m,ρ,hd,hr1,er,pp⟩;refine wpAny_Call_Name_kw (GI I hg hm ?_ hdb);have post:Pb X.K E0 fa σ H (fun vs H1=>JZ X.K F vs H1 Q E0):=⟨m,ρ,hd,hr1,er,Post.bind pp fun xs h1 vs m1 H1 e1 p1 k1 hr1 r1 q1=>⟨m1,xs,h1,hr1,r1,q1⟩⟩
 refine PySem.W.callWith_K (h₀:=X.base) I.ok.mod.kin hkp (Au (ha pos pins s σ H _ I post) ?_) he hpl;rintro us s1 ⟨vs,H1,I1,r,q⟩;refine ⟨I1.kIn,?_⟩;have hl:us.length=ps.length:=by rw [←r.length];exact ar.len q
 have hb':=hb s1 us I1.kIn (by rw [Dx];exact hl);rw [Dx] at hb';refine wpAny_call (codeAny_mono (G.run X.A X.stack s1 H1 ⟨us,[]⟩ us vs Q (hr.mono hk) I1.env0 hb' r q) fun r s' hq=>?_);cases r with
 |error e=>exact False.elim hq
 |ok fl=>
  cases fl with
  |ret u=>exact I1.after hq
  |next=>exact False.elim hq
  |brk=>exact False.elim hq
  |cont=>exact False.elim hq
end
end LS
namespace LS
open PySem PySem.Spec PyProof.Rows L2 PySem.W
variable {g:Str}
theorem Qv {fs:List Addr} {H H':Hp} {h0 h h':Heap} (B:Un fs [] H H' h0 h) (hok:HOk P w H' h) (na:h0.get? a=none) (nT:h0.get? T=none) (ha:H' a=none) (hT:H' T=none)
 (frNone:∀b∈fs,H' b=none) (noFields:∀b∈fs,∃o,h.get? b=some o∧∀vs,o.data≠.fields vs) (stay:(blank (fun b=>b=a∨b=T∨b∈fs) h).StaysIn h') (ups:∀b o,h.get? b=some o→(∀vs,o.data≠.fields vs)→∃sl,h'.get? b=some {o with slots:=sl})
 (tr:h'.TracedW (blank (fun b=>b=a∨b=T∨b∈fs) h) a C a0) {da:Option Addr} {oa:Obj} (ea:h.get? a=some oa) (ed:oa.dict=da) (dd:Dicts h h'):Un fs [] H H' h0 h'∧HOk P w H' h'∧Kh h0 h' H' a C da:=by
 obtain ⟨oe,vs,T2,oT,ts,e1,e2,e3,e4,e5,e6,e7,e8,e9⟩:=tr;have e11:oe.dict=da:=by obtain ⟨o',q1,q2⟩:=dd a oa ea;rw [e1] at q1;cases q1;exact q2.trans ed
 have keepOf:∀b o,¬(b=a∨b=T∨b∈fs)→h.get? b=some o→h'.get? b=some o:=fun b o hb e=>stay b o (by rw [Gi hb];exact e);have old:∀b o,h0.get? b=some o→b≠a∧b≠T:=fun b o e=>⟨fun z=>(by rw [z,na] at e;cases e),fun z=>(by rw [z,nT] at e;cases e)⟩
 have any:∀b o,h0.get? b=some o→h.get? b≠none→∃o',h'.get? b=some o':=fun b o e hn=>by
  cases e':h.get? b with
  |none=>exact absurd e' hn
  |some o'=>
   by_cases hb:b∈fs
   ·obtain ⟨o2,h2,d2⟩:=noFields b hb;obtain ⟨sl,h3⟩:=ups b o2 h2 d2;exact ⟨_,h3⟩
   ·exact ⟨o',keepOf b o' (fun z=>by rcases z with z |z |z;exact (old b o e).1 z;exact (old b o e).2 z;exact hb z) e'⟩
 refine ⟨⟨fun b o e n hb hx=>?_,fun b o e n hb hx=>?_,B.free,fun b o e hx=>?_,B.tups,B.frzs,B.tbls⟩,fun b o e=>?_,na,ha,oe,vs,a0,T2,oT,ts,e1,e2,e3,e4,?_,?_,e6,e7,e8,e9,e11⟩
 ·exact keepOf b o (fun z=>by rcases z with z |z |z;exact (old b o e).1 z;exact (old b o e).2 z;exact hb z) (B.keep b o e n hb hx)
 ·obtain ⟨sl,h1⟩:=B.slot b o e n hb hx;obtain ⟨o2,h2,d2⟩:=noFields b hb;rw [h1] at h2;cases h2;obtain ⟨sl2,h3⟩:=ups b _ h1 d2;exact ⟨sl2,h3⟩
 ·obtain ⟨o',h1⟩:=B.there b o e hx;exact any b o e (by rw [h1];simp)
 ·refine (hok b o e).stay (fun c u hc q=>keepOf c u (fun z=>?_) q) (fun _ q=>q) fun _ _ q=>q;have hc':H' c≠none:=by
   rcases hc with rfl |hc
   ·rw [e];simp
   ·rw [hc];simp
  rcases z with z |z |z
  ·exact hc' (z ▸ ha)
  ·exact hc' (z ▸ hT)
  ·exact hc' (frNone c z)
 ·cases q:h0.get? T2 with
  |none=>rfl
  |some o=>
   exfalso;obtain ⟨o',h1⟩:=B.there T2 o q (by simp)
   by_cases hb:T2∈fs
   ·obtain ⟨o2,h2,d2⟩:=noFields T2 hb;obtain ⟨sl,h3⟩:=ups T2 o2 h2 d2;rw [h3] at e7;cases e7;exact d2 _ e8
   ·rw [Gi (fun z=>by rcases z with z |z |z;exact (old T2 o q).1 z;exact (old T2 o q).2 z;exact hb z),h1] at e5;cases e5
 ·cases q:H' T2 with
  |none=>rfl
  |some o=>
   exfalso
   by_cases hb:T2=a∨T2=T∨T2∈fs
   ·rcases hb with z |z |z
    ·rw [z,ha] at q;cases q
    ·rw [z,hT] at q;cases q
    ·rw [frNone T2 z] at q;cases q
   ·rw [Gi hb] at e5;obtain ⟨ob,eb⟩:=MQ (hok T2 o q);rw [eb] at e5;cases e5
theorem ZF {A:Around} {s:Shared} {env:Env} {Q:Unit→Shared→Prop} (fr:A.frames=some (env::outer)) (lo:env.frame=some L) (fl:Heap.FlyingW base (env::outer) e C a0 s.heap)
 (q:∀h',Heap.HeldW base (env::outer) e C a0 L h'→s.heap.UpToSlots h'→Dicts s.heap h'→Q () {s with heap:=h'}):wpAny M A (noteFrame (.ref e) env) Q E s:=by
 refine A1 (Ik P9 (wpAny_looks_onW (M:=M) (A:=A) (E:=fun _ _=>False) (Q:=fun _ s'=>∃h',s'={s with heap:=h'}∧Heap.HeldW base (env::outer) e C a0 L h'∧s.heap.UpToSlots h') fr lo fl fun h' z1 z2=>⟨h',rfl,z1,z2⟩)) (fun _ s' z=>?_) fun _ _ z=>z.1.elim;obtain ⟨⟨h',rfl,z1,z2⟩,D⟩:=z;exact q h' z1 z2 D
theorem ZG {s:Shared} {Q:Unit→Shared→Prop} (held:Heap.HeldW base l e C a0 L s.heap)
 (q:∀h',Heap.FlyingW base l e C a0 h'→s.heap.UpToSlots h'→Dicts s.heap h'→Q () {s with heap:=h'}):wpAny M A (setFlight (.ref e) none) Q E s:=by
 refine A1 (Ik MN (wpAny_landsW (M:=M) (A:=A) (E:=fun _ _=>False) (Q:=fun _ s'=>∃h',s'={s with heap:=h'}∧Heap.FlyingW base l e C a0 h'∧s.heap.UpToSlots h') held fun h' z1 z2=>⟨h',rfl,z1,z2⟩)) (fun _ s' z=>?_) fun _ _ z=>z.1.elim;obtain ⟨⟨h',rfl,z1,z2⟩,D⟩:=z;exact q h' z1 z2 D
theorem ZH {s:Shared} {Q:Unit→Shared→Prop} (held:Heap.FlyingW base l e C a0 s.heap)
 (q:∀h',Heap.FlyingW base l e C a0 h'→s.heap.UpToSlots h'→Dicts s.heap h'→Q () {s with heap:=h'}):wpAny M A (setFlight (.ref e) none) Q E s:=by
 refine A1 (Ik MN (lands_againW (M:=M) (A:=A) (E:=fun _ _=>False) (Q:=fun _ s'=>∃h',s'={s with heap:=h'}∧Heap.FlyingW base l e C a0 h'∧s.heap.UpToSlots h') held fun h' z1 z2=>⟨h',rfl,z1,z2⟩)) (fun _ s' z=>?_) fun _ _ z=>z.1.elim;obtain ⟨⟨h',rfl,z1,z2⟩,D⟩:=z;exact q h' z1 z2 D
section
variable {X:Cx} {pins:List (Addr×Obj)} {σ:L2.St} {H:Hp} {s:Shared}
theorem Inv.track {o:HO} (I:Inv X pins σ H s) (new:X.s₀.heap.get? a=none) (no:H a=none) (hL:a≠X.env.locals) (hc:∀x c,X.env.cells.lookup x=some c→c≠a) (hp:∀p∈X.pn++pins,p.1≠a) (ok:ObjOk X.prog X.w (Aq H a o) s.heap a o):
 Inv X pins σ (Aq H a o) s:=by
 have ne:∀b u,H b=some u→b≠a:=fun b u e=>Cp e no;refine ⟨I.ok,I.os,I.bare,⟨I.base.keep,I.base.slot,fun b ob e n hx=>?_,I.base.there,fun b xs e=>?_,fun b ob u e=>?_,fun b ps e=>?_⟩,I.loc,I.cell,?_,fun x c e=>?_,fun p hp'=>?_,fun b u e=>?_,I.len⟩
 ·rw [AD (fun z=>by rw [z,new] at e;cases e)];exact I.base.free b ob e n hx
 ·have:=I.base.tups b xs e;rw [AD (ne _ _ this)];exact this
 ·have:=I.base.frzs b ob u e;rw [AD (ne _ _ this)];exact this
 ·obtain ⟨more,this⟩:=I.base.tbls b ps e;exact ⟨more,by rw [AD (ne _ _ this)];exact this⟩
 ·rw [AD (Ne.symm hL)];exact I.free
 ·rw [AD (hc x c e)];exact I.freeC x c e
 ·obtain ⟨a1,a2,a3⟩:=I.pin p hp';exact ⟨a1,by rw [AD (hp p hp')];exact a2,a3⟩
 ·by_cases hb:b=a
  ·subst hb;rw [B0] at e;cases e;exact ok
  ·rw [AD hb] at e;exact (I.hok b u e).stay (fun _ _ _ q=>q) (fun c q=>by rw [AD (ne _ _ q)];exact q) fun c xs q=>by rw [AD (ne _ _ q)];exact q
theorem Inv.locals {σ':L2.St} {h':Heap} {t':Nat} (I:Inv X pins σ H s) (hn':h'.Ns X.env.locals m') (hs:Heap.SameBut X.env.locals s.heap h')
 (hl:∀(i:Nat) (x:Str) (v:V),X.N[i]?=some x→σ'[i]?=some (some v)→JC X.env.scope x→∃u,RelV v u∧Ox X.env h' m' x u) (len:σ'.length=σ.length):Inv X pins σ' H {s with heap:=h',toks:=t'}:=by
 obtain ⟨m,hn,_⟩:=id I.loc;obtain ⟨oL,_,_,hoL,_⟩:=id hn;have neL:∀b o,X.s₀.heap.get? b=some o→b≠X.env.locals:=fun b o e=>Bf (AU (AC e) I.ok.above);refine ⟨I.ok,I.os,I.bare,⟨fun b o e n hb hx=>?_,fun b o e n hb hx=>?_,I.base.free,fun b o e hx=>?_,I.base.tups,I.base.frzs,I.base.tbls⟩,⟨_,hn',hl⟩,fun y c e=>?_,I.free,I.freeC,fun p hp=>?_,fun b ob e=>?_,len.trans I.len⟩
 ·exact (hs.2 b (neL b o e)).trans (I.base.keep b o e n hb hx)
 ·obtain ⟨sl,e1⟩:=I.base.slot b o e n hb hx;exact ⟨sl,(hs.2 b (neL b o e)).trans e1⟩
 ·obtain ⟨o',e1⟩:=I.base.there b o e hx;exact ⟨o',(hs.2 b (neL b o e)).trans e1⟩
 ·obtain ⟨v,z⟩:=I.cell y c e;exact ⟨v,z.sameBut hs (I.cne y c e)⟩
 ·obtain ⟨a1,a2,a3,a4⟩:=I.pin p hp;exact ⟨(hs.2 _ a3).trans a1,a2,a3,a4⟩
 ·refine (I.hok b ob e).stay (fun c w' hc q=>(hs.2 c ?_).trans q) (fun _ q=>q) fun _ _ q=>q;rintro rfl;have hfree:=I.free;rcases hc with rfl |hc
  ·rw [hfree] at e;cases e
  ·rw [hfree] at hc;cases hc
theorem ZJ {i:Nat} {Q:Unit→Shared→Prop} (I:Inv X pins σ H s) (hN:X.N.Nodup) (hi:X.N[i]?=some n) (hl:X.env.kindOf n=some .local)
 (h:∀s',Inv X pins (σ.set i none) H s'→Q () s'):wpAny M A (do bindName X.env n .none;unbindBehindTheSuite X.env n pos) Q E s:=by
 have hp:(X.env.scope.kind==.class||(X.env.scope.kind==.module&&X.env.locals != X.env.globals))=false:=by rw [I.ok.kind];rfl
 refine Ad (wpAny_bindName (JD (v:=.non) I hN hi (.inl hl) rfl (fun s1 I1 _=>?_) (.inr hl)));unfold unbindBehindTheSuite;refine wpAny_onRaise ?_;unfold unbindName;refine Ad (wpAny_point (Ad ?_));unfold deleteName;simp only [hl,hp];rw [if_neg (by decide)];obtain ⟨m1,hn1,hl1⟩:=I1.loc;have hin:(m1 n).isSome=true:=by
  have hiσ:i < σ.length:=by rw [I.len];exact (qa1.mp hi).1
  obtain ⟨u,_,lk⟩:=hl1 i n .non hi (by rw [BZ hiσ]) (.inl hl);rcases lk with ⟨_,z⟩ |⟨z,_⟩
  ·rw [z];rfl
  ·rcases z with z |z<;>(rw [hl] at z;cases z)
 refine Ad (wpAny_nsDel_keeps hn1 fun h2 v hn2 hs2=>?_);simp only [hin,if_true,FZ,Bq,if_false];refine Ak (wpAny_point (h _ (Inv.locals (t':=s1.toks) (I1.weak (σ':=σ.set i none) (by simp) fun j v' e=>?_) hn2 hs2 (fun j x v' e1 e2 e3=>?_) rfl)))
 ·by_cases hj:i=j
  ·subst hj;have hiσ:i < σ.length:=by rw [I.len];exact (qa1.mp hi).1
   rw [BZ hiσ] at e;cases e
  ·rw [Be hj] at e ⊢;exact e
 ·have hj:i≠j:=by
   rintro rfl;have hiσ:i < σ.length:=by rw [I.len];exact (qa1.mp hi).1
   rw [BZ hiσ] at e2;cases e2
  rw [Be hj] at e2;obtain ⟨u,r,lk⟩:=hl1 j x v' e1 (by rw [Be hj];exact e2) e3;have hx:x≠n:=fun z=>hj (LN hN hi (z ▸ e1));refine ⟨u,r,?_⟩;rcases lk with ⟨k1,k2⟩ |⟨k1,c,k2,k3⟩
  ·exact .inl ⟨k1,(if_neg hx).trans k2⟩
  ·exact .inr ⟨k1,c,k2,k3.sameBut hs2 (I1.cne x c k2)⟩
end
end LS
namespace LS
open PySem PySem.Spec PyProof.Rows L2 PySem.W
variable {g:Str}
def Ek:List (Str×D)→Option (List (Str×Int))
 |[]=>some []
 |(f,.int i)::r=>(Ek r).map fun l=>(f,i)::l
 |_=>none
theorem Qw:∀{fs:List (Str×D)} {is:List (Str×Int)} {f:Str} {i:Int},Ek fs=some is→is.lookup f=some i→fs.lookup f=some (.int i)
 |[],is,f,i,e,l=>by cases e;cases l
 |(g,d)::r,is,f,i,e,l=>by
  cases d with
  |int j=>
   simp only [Ek] at e;cases er:Ek r with
   |none=>rw [er] at e;cases e
   |some l2=>
    rw [er] at e;cases e;rw [FX] at l ⊢;cases hb:f==g with
    |true=>rw [hb] at l;cases l;rfl
    |false=>rw [hb] at l;exact Qw er l
  |_=>cases e
open Classical in
noncomputable def Kt (j:Nat) (g:Str) (a:Addr) (vs:List V) (Fk:List D→HD→Out D) (f:ME):MS:=fun ρ h=>match (ρ[0]?:Option (Option D)),(h[j]?:Option Cell) with
 |some (some (.clo a' vs' ds)),some (.tabn g')=>if g'=g∧a'=a∧vs'=vs then (match f (ds.map some) h with
  |.ok _ h1=>.ok (.nx,ρ) h1
  |.err (.str n _) fs h1=>if n∈excNames then (match Ek fs with
   |some is=>(match Fk [.exc n is] h1 with
    |.ok d h2=>.ok (.nx,(ρ.set 1 (some d)).set 2 none) h2
    |_=>.stuck)
   |none=>.stuck) else .stuck
  |_=>.stuck) else .stuck
 |_,_=>.stuck
structure SaidX (g:Str) (X:Cx) (P a c':Addr) (lpos:Pos) (Nc:List Str) (params:Arguments) (body:Expr) (scope:Scope) (cl:List (Str×Addr)) (pm ctv:Value) (vs:List V):Prop where
 N:X.N=(["_law_call","_law_word","_law_e"]:List Str)
 k0:X.env.kindOf "_law_call"=some .local
 k1:X.env.kindOf "_law_word"=some .local
 k2:X.env.kindOf "_law_e"=some .local
 tp:∃c,tabP X.K g=some (c,P)
 tb:∃ps,X.H₀ P=some (.tbl ps)∧TriplesOk ps.toList∧codeAmong lpos ps.toList=some (.ref c')
 ob:X.s₀.heap.get? a=some (kla_obj "<lambda>" (Bk g) params body scope cl pm c' ctv)
 no:X.H₀ a=none
 nf:a∉X.fs
 clo:Iu X.s₀.heap X.H₀ X.outer Nc scope cl vs
section
variable {X:Cx} {E:XK} {P a c':Addr} {lpos:Pos} {Nc:List Str} {params:Arguments} {body:Expr} {scope:Scope} {cl:List (Str×Addr)} {pm ctv:Value} {vs:List V}
theorem ZK {E:Value→Shared→Prop} {s:Shared} {o:Obj} (h0:s.heap.get? a=some o) (hd:o.data=.func fd) (h:wpAny M A (call (.ref a) []) Q E s):
 wpAny M A (callWith pos (.ref a) [] (backTo pos (starEach [] env)) []) Q E s:=
 callWith_of (P:=fun h=>h.get? a=some o) rfl (fun h e=>⟨.frame,.inl rfl,(Looks.ld (part:=none) e).andThen (by rw [hd];exact .now)⟩) (evalArgs_nil3 ⟨h0,h⟩)
theorem SaidX.cloNow (S:SaidX g X P a c' lpos Nc params body scope cl pm ctv vs) (lv:Lv X E) {pins:List (Addr×Obj)} {σ:L2.St} {H:Hp} {s:Shared} (I:Inv X pins σ H s):Iu s.heap H X.stack Nc scope cl vs∧s.heap.get? a=some (kla_obj "<lambda>" (Bk g) params body scope cl pm c' ctv):=by
 have B:Un X.fs [] X.H₀ H X.s₀.heap s.heap:=by have:=I.base;rw [lv.ex] at this;exact this
 have keep:∀c v,X.s₀.heap.IsCell c v→X.H₀ c=none→c∉X.fs→s.heap.IsCell c v:=fun c v z1_ n f=>by obtain ⟨o,e,d⟩:=z1_;exact (⟨o,B.keep c o e n f (by simp),d⟩)
 refine ⟨⟨S.clo.len,S.clo.inj,S.clo.has,fun x c e=>?_,fun i x v e1 e2=>?_⟩,B.keep a _ S.ob S.no S.nf (by simp)⟩
 ·obtain ⟨⟨v,q⟩,n,f⟩:=S.clo.cell x c e;obtain ⟨o,e1,d⟩:=id q;refine ⟨⟨v,keep c v q n f⟩,B.free c o e1 n (by simp),fun z=>?_⟩;rw [lv.frs] at z;rcases qa5.mp z with z |z
  ·exact absurd (AU (AC e1) I.ok.above) (by rw [z];exact CB _)
  ·exact f z
 ·obtain ⟨hf,c,u,e3,e4,r⟩:=S.clo.val i x v e1 e2;obtain ⟨_,n,f⟩:=S.clo.cell x c e3;exact ⟨hf,c,u,e3,keep c _ e4 n f,r⟩
def FG (X:Cx) (e:Addr):Cx:={X with A:=X.A.mark (some (.ref e)),calm:=false,xe:=fun _ _=>False}
theorem Inv.marked (I:Inv X pins σ H s):Inv (FG X e) pins σ H s:=
 ⟨⟨I.ok.mod,I.ok.kind,I.ok.glob,I.ok.blt,I.ok.above,I.ok.inj,I.ok.has,I.ok.cab,fun z=>(nomatch z),I.ok.frames,I.ok.stk,I.ok.exf,I.ok.bs,I.ok.bsz,I.ok.noex,I.ok.exfs,I.ok.funs,I.ok.frf⟩,I.os,I.bare,I.base,I.loc,I.cell,I.free,I.freeC,I.pin,I.hok,I.len⟩
theorem Inv.unmarked (ok:X.Ok) (I:Inv (FG X e) pins σ H s):Inv X pins σ H s:=
 ⟨ok,I.os,I.bare,I.base,I.loc,I.cell,I.free,I.freeC,I.pin,I.hok,I.len⟩
theorem ZL {j:Nat} {k:Nat} (lv:Lv X E) (S:SaidX g X P a c' lpos Nc params body scope cl pm ctv vs) (hr:Room (k+1) X.A) (et:etOk X.K=true) (hsw:∃Sw,nsIn X.K mainGlobals "SwitchError"=some (some (.ref Sw)))
 (hgS:X.env.kindOf "SwitchError"=some .globalImplicit) (hgK:X.env.kindOf "_law_kind"=some .globalImplicit)
 (hkind:CaM X.prog X.w X.K X.mg X.base "_law_kind" k Fk) (hL:LamSc scope) (hbind:bindArgs (kla_fn "<lambda>" (Bk g) params body scope cl pm (.ref c') ctv) ⟨[],[]⟩=pure [])
 (hb:∀(s:Shared) (H:Hp) (E':XK),Room k (X.A.deeper (envX (Bk g) scope s.heap.objs.size a (.ref c') cl))→Ev (Ej g X.prog X.w X.K X.mg X.base Nc scope a (.ref c') cl X.A X.stack s H E') E' body f):
 Ex X E (.Try [.Expr (.Call (.Name "_law_call" p4) [] [] p5) p6] [.ExceptHandler (some (.Name "SwitchError" p7)) (some "_law_e") [.Assign [.Name "_law_word" p8] (.Call (.Name "_law_kind" p9) [.Name "_law_e" p10] [] p11) p12] p13] [] [] p14) (Kt j g a vs Fk f):=by
 rintro pins s σ H Dn I ⟨m,ρ,h,hr1,er,p⟩;refine Classical.byContradiction fun nG=>?_;have hN0:X.N[0]?=some ("_law_call":Str):=by rw [S.N];rfl
 have hN1:X.N[1]?=some ("_law_word":Str):=by rw [S.N];rfl
 have hN2:X.N[2]?=some ("_law_e":Str):=by rw [S.N];rfl
 have nd:X.N.Nodup:=by rw [S.N];decide +kernel
 obtain ⟨Sw,hSw⟩:=hsw;unfold Kt at p;split at p
 ·rename_i a' vs' ds g' e0 et0;split at p
  ·rename_i hav;obtain ⟨hgg,rfl,rfl⟩:=hav;have hgg:=hgg.symm;subst hgg;obtain ⟨C,ob⟩:=S.cloNow lv I;obtain ⟨v0,hv0,rv0⟩:=er.2 0 _ e0;simp only [DV] at rv0;obtain ⟨rfl,rds⟩:=rv0;obtain ⟨aP,haP,tab⟩:=hr1.at et0;obtain ⟨⟨cc,htp⟩,ps2,hps2,htr2,hcs2⟩:=tab;obtain ⟨cc',htp'⟩:=S.tp;rw [htp'] at htp;cases htp;obtain ⟨ps,hps,htr,hca⟩:=S.tb;obtain ⟨more,hmore⟩:=I.base.tbls P ps hps;have hca2:codeAmong lpos ps2.toList=some (.ref c'):=by have e:=hmore.symm.trans hps2;cases e;rw [Array.toList_append];exact Zv htr hca
   obtain ⟨c2,e2,hx2⟩:=hcs2 lpos _ hca2;cases e2;have hcd:s.heap.CodeRec (.ref c') (Bk g):=(I.hok c' _ hx2).1;have run:∀(Q:VK) (E':XK),Post X.K (rD X.K) m H E' Q (f (ds.map some) h)→codeAny (model X.prog X.w) X.A (.call (.ref a') ⟨[],[]⟩) (CR (Ba X.prog X.w X.K) X.stack X.prog X.w H s Q E') s:=fun Q E' q=>ZA hL hr I.env0 C ob hcd hbind (hb s H E') ⟨m,ds,h,hr1,rds,q⟩
   have start:∀{Q:Flow→Shared→Prop} {EE:Value→Shared→Prop},codeAny (model X.prog X.w) X.A (.call (.ref a') ⟨[],[]⟩) (fun r s'=>match r with |.ok (.ret u)=>Q .next s' |.error e=>EE e s' |_=>False) s→
    wpAny (model X.prog X.w) X.A (execs [.Expr (.Call (.Name "_law_call" p4) [] [] p5) p6] X.env) Q EE s:=fun {Q EE} hc=>by
    refine wpAny_execs_cons (wpAny_Expr_any (wpAny_Call_Name_kw ?_) I.quiet rfl);obtain ⟨m0,hn0,hl0⟩:=I.loc;obtain ⟨u,ru,lk⟩:=hl0 0 "_law_call" (.ref a') hN0 hv0 (.inl S.k0);cases (show u=Value.ref a' from ru);rcases lk with ⟨hk,hm⟩ |⟨z,_⟩
    ·refine wpAny_Name (wpAny_loadName_local I.ok.kind hk hn0 hm (ZK ob rfl (wpAny_call (codeAny_mono hc fun r s' hq=>?_)))) (by decide);cases r with
     |error e=>exact hq
     |ok fl=>
      cases fl with
      |ret u=>exact wpAny_execs_nil hq
      |next=>exact hq.elim
      |brk=>exact hq.elim
      |cont=>exact hq.elim
    ·rcases z with z |z<;>(rw [S.k0] at z;cases z)
   refine nG (wpAny_Try_except (start ?_));clear nG;refine Classical.byContradiction fun nG=>?_;cases ho:f (ds.map some) h with
   |stuck=>rw [ho] at p;exact p.elim
   |ok d h1=>
    rw [ho] at p;refine nG (codeAny_mono (run (fun v H'=>∃m',m <+:m'∧Kp H H'∧HR X.K m' h1 H') E0 (by rw [ho];exact fun v m' H' p1 k1 hr' _=>⟨m',p1,k1,hr'⟩)) fun r s' hq=>?_);cases r with
    |error e=>obtain ⟨_,_,_,_,_,_,_,_,_,_,_,_,q⟩:=hq;exact q.elim
    |ok fl=>
     cases fl with
     |ret u=>obtain ⟨v,H',os,bare,un,hok,_,m',p1,k1,hr'⟩:=hq;exact wpAny_execs_nil ⟨σ,H',I.call' os un hok bare (fun b hb=>absurd hb (by simp)),p m' H' p1 k1 hr' σ (er.keep p1 k1)⟩
     |next=>exact hq.elim
     |brk=>exact hq.elim
     |cont=>exact hq.elim
   |err Cv fs h1=>
    rw [ho] at p;cases Cv with
    |str n t=>
     simp only at p;split at p
     ·rename_i hn;refine nG (codeAny_mono (run (fun _ _=>False) (fun C' da H'=>C'=.str n t∧∃m',m <+:m'∧Kp H H'∧HR X.K m' h1 H'∧XD X.K m' H' fs da) (by rw [ho];exact fun da m' H' p1 k1 hr' xd=>⟨rfl,m',p1,k1,hr',xd⟩)) fun r s1 hq=>?_);clear nG;cases r with
      |ok fl=>
       cases fl with
       |ret u=>obtain ⟨_,_,_,_,_,_,_,z⟩:=hq;exact z.elim
       |next=>exact hq.elim
       |brk=>exact hq.elim
       |cont=>exact hq.elim
      |error e=>
       obtain ⟨ae,Cc,n',da,H',rfl,os,bare,un,hok,fly,nm,hE,m',p1,k1,hr',xd⟩:=hq;refine Classical.byContradiction fun nG=>?_;have hnn:n'=n:=by cases hE;rfl
       subst hnn;have I1:Inv X pins σ H' s1:=I.call' os un hok bare (fun b hb=>absurd hb (by simp));obtain ⟨fnew,fno,oe,ws,a0,T,oT,ts,e1,e2,e3,e4,e5,e6,e7,e8,e9,e10,e11⟩:=fly;have fro:X.A.frames=some (X.env::X.outer):=by rw [←lv.stk];exact I1.ok.frames
       have stk:s1.heap.FunFrames X.base (X.env::X.outer):=by have:=I1.stack;rw [lv.stk] at this;exact this
       have frN:∀b∈frs X.stack,H' b=none:=fun b hb=>I1.stkFree b hb;have frO:∀b∈frs X.stack,∃o,s1.heap.get? b=some o∧∀vs,o.data≠.fields vs:=fun b hb=>(I1.stack.mem hb).2;have fly0:Heap.FlyingW (blank (fun b=>b=ae∨b=T∨b∈frs X.stack) s1.heap) (X.env::X.outer) ae (.ref Cc) a0 s1.heap:=
        ⟨MP,Gh (.inl rfl),Ki stk fun b hb=>.inr (.inr (by rw [lv.stk];exact hb)),oe,ws,T,oT,ts,e1,e2,e3,e4,Gh (.inr (.inl rfl)),e7,e8,e9,e10⟩
       refine nG (ZF fro lv.fr fly0 fun h4 held4 sm4 D4=>?_);clear nG;refine ZG held4 fun h5 held5 sm5 D5=>?_;refine Classical.byContradiction fun nG=>?_;obtain ⟨un5,hok5,fly5⟩:=Qv un hok fnew e5 fno e6 frN frO held5.1 (sm4.trans sm5) held5.2.2.2 e1 e11 (D4.trans D5);have I5:Inv X pins σ H' {s1 with heap:=h5}:=I.call' (s':={s1 with heap:=h5}) os un5 hok5 bare (fun b hb=>absurd hb (by simp));have hmS:X.mg "SwitchError"=some (.ref Sw):=mg_of I.mod.kin I.mod.glob hSw;have T5:=Ko et hn nm;obtain ⟨_,_,oe5,ws5,_,_,_,_,f1,f2,f3,_⟩:=id fly5;refine nG (wpAny_handleBy_cons (codeAny_handlers_test ?_) (by intro q;cases q));clear nG;refine Calls.Name_function_global I5.ok.kind hgS (Calls.loadGlobal_global (by rw [I5.ok.glob];exact I5.mod.glob.keeps I5.bk) hmS ?_) (by decide);refine (exm_one (M:=model X.prog X.w) I5.kIn (TyAt.type ⟨oe5,f1,f2.1⟩) (T5.sw Sw hSw)).here ?_;simp only [if_true];refine codeAny_handlers_suite_as (ZH held5 fun h6 held6 sm6 D6=>?_);obtain ⟨un6,hok6,fly6⟩:=Qv un hok fnew e5 fno e6 frN frO held6.1 ((sm4.trans sm5).trans sm6) held6.2.2.2 e1 e11 ((D4.trans D5).trans D6);have I6:Inv X pins σ H' {s1 with heap:=h6}:=I.call' (s':={s1 with heap:=h6}) os un6 hok6 bare (fun b hb=>absurd hb (by simp));obtain ⟨_,_,oe6,ws6,_,_,_,_,g1,g2,g3,_,_,_,_,_,_,_,g11⟩:=id fly6;have older:∀b,s.heap.get? b=none→X.s₀.heap.get? b=none:=lv.older I;have xok:ObjOk X.prog X.w (Aq H' ae (.ext (Fv Cc da ae))) h6 ae (.ext (Fv Cc da ae)):=
        ⟨⟨oe6,ws6,g1,g2.1,fun d z=>g11.trans z,g3⟩,⟨oe6,g1⟩,fun ha hb' z2_ k'=>by obtain ⟨o,w',z1,z2,z3,z4⟩:=z2_;exact (⟨o,w',k' o z1,z2,z3,z4⟩)⟩
       have neL:ae≠X.env.locals:=fun z=>by obtain ⟨mL,⟨oL,_,_,hoL,_⟩,_⟩:=I.loc;rw [←z,fnew] at hoL;cases hoL
       have neC:∀x c,X.env.cells.lookup x=some c→c≠ae:=fun x c ex z=>by obtain ⟨v,o,hoc,_⟩:=I.cell x c ex;rw [z,fnew] at hoc;cases hoc
       have neP:∀q∈X.pn++pins,q.1≠ae:=fun q hq z=>by have:=(I.pin q hq).1;rw [z,fnew] at this;cases this
       have I6':=LS.Inv.track I6 (older ae fnew) fno neL neC neP xok;have kx:Kp H' (Aq H' ae (.ext (Fv Cc da ae))):=.new fno;refine JD (v:=.ref ae) I6' nd hN2 (.inl S.k2) rfl (fun s7 I7 _=>?_) (.inr S.k2);split at p;rename_i is his;split at p
       ·rename_i d h2 hk2;have hr7:HR X.K m' h1 (Aq H' ae (.ext (Fv Cc da ae))):=hr'.new fno;have er7:ER X.K m' (Aq H' ae (.ext (Fv Cc da ae))) (ρ.set 2 (some (.exc n' is))) (σ.set 2 (some (.ref ae))):=
         ((er.keep p1 k1).keep (Ay _) kx).set (by simp only [DV];exact ⟨ae,Cc,da,rfl,nm,B0,fun f i z=>by obtain ⟨b,fv,v,q1,q2,q3,q4⟩:=xd f _ (Qw his z);simp only [DV] at q4;exact ⟨b,fv,q1,by rw [AD (Cp q2 fno)];exact q2,by rw [q3,q4]⟩⟩)
        have hρ:2 < ρ.length:=by rw [er.1,I.len,S.N];decide
        have sx:CH (FG X ae) E0 [.Assign [.Name "_law_word" p8] (.Call (.Name "_law_kind" p9) [.Name "_law_e" p10] [] p11) p12] (As 1 (Af Fk (Aa (Ab 2) Ac))):=
         J5 (Mp (X:=FG X ae) (i:=1) nd hN1 (Or.inl S.k1) (ZE (X:=FG X ae) hkind (RoomM.of hr _) (JY (Mi (X:=FG X ae) (LO (X:=FG X ae) hN2 (.inl S.k2))) JX) (Nat.le_succ _) hgK) (hf:=.inr S.k1))
        have post:GO (FG X ae).K E0 (As 1 (Af Fk (Aa (Ab 2) Ac))) {nx:=fun σ' H''=>Dn.nx (σ'.set 2 none) H'',rt:=fun _ _=>False} (σ.set 2 (some (.ref ae))) (Aq H' ae (.ext (Fv Cc da ae))):=by
         refine ⟨m',ρ.set 2 (some (.exc n' is)),h1,hr7,er7,?_⟩;have ev:As 1 (Af Fk (Aa (Ab 2) Ac)) (ρ.set 2 (some (.exc n' is))) h1=.ok (.nx,(ρ.set 2 (some (.exc n' is))).set 1 (some d)) h2:=by unfold As Af Aa Ac Ab;rw [BZ hρ];simp only [Out.bind_ok];rw [hk2];rfl
         rw [ev];intro m2 H2 p2 k2 hr2 σ' er2;refine p m2 H2 (p1.trans p2) ((k1.trans kx).trans k2) hr2 _ ⟨by simp [er2.1.symm],fun i di e=>?_⟩
         by_cases hi:2=i
         ·subst hi;rw [BZ (by simpa using hρ)] at e;cases e
         ·rw [Be hi] at e;obtain ⟨v,z1,z2⟩:=er2.2 i di (by
           by_cases h1i:1=i
           ·subst h1i;rw [BZ (by omega)] at e;rw [BZ (by simp;omega)];exact e
           ·rw [Be h1i] at e;rw [Be h1i,Be hi];exact e)
          exact ⟨v,by rw [Be hi];exact z1,z2⟩
        refine A1 (sx pins s7 _ _ _ (Inv.marked I7) post) (fun fl s8 h8=>?_) fun _ _ z=>False.elim z;cases fl with
        |next=>obtain ⟨σ',H'',I8,q8⟩:=h8;exact ZJ (Inv.unmarked I.ok I8) nd hN2 S.k2 fun s9 I9=>⟨_,H'',I9,q8⟩
        |ret u=>obtain ⟨_,_,_,_,_,z⟩:=h8;exact False.elim z
        |brk=>obtain ⟨_,_,_,z⟩:=h8;exact False.elim z
        |cont=>obtain ⟨_,_,_,z⟩:=h8;exact False.elim z
       ·exact p.elim
       ·exact p.elim
     ·exact p.elim
    |_=>exact p.elim
  ·exact p.elim
 ·exact p.elim
end
end LS
namespace LS
open PySem PySem.Spec PyProof.Rows L2 PySem.W
variable {g:Str}
noncomputable def M6 (Fk:List D→HD→Out D):Out D→Out D
 |.ok _ h1=>.ok (.str "told") h1
 |.err (.str n _) fs h1=>if n∈excNames then (match Ek fs with
  |some is=>(match Fk [.exc n is] h1 with
   |.ok d h2=>.ok d h2
   |_=>.stuck)
  |none=>.stuck) else .stuck
 |_=>.stuck
noncomputable def Gn (j:Nat) (g:Str) (cs:List Nat) (Fk:List D→HD→Out D) (f:ME):ME:=fun ρ h=>match (h[j]?:Option Cell),Az (cs.map fun j=>(ρ[j]?).join) with
 |some (.tabn g'),some ds=>if g'=g then M6 Fk (f (ds.map some) h) else .stuck
 |_,_=>.stuck
noncomputable abbrev He (cs:List Nat) (Fk:List D→HD→Out D) (f:ME):ME:=Gn 0 "law" cs Fk f
structure LSc (X:Cx) (scope:Scope) (Nc:List Str) (cs:List Nat):Prop where
 lam:LamSc scope
 nd:(scope.names.map (·.1)).Nodup
 free:(scope.names.all fun y=>y.2 != .free||(X.env.kindOf y.1==some .cell||X.env.kindOf y.1==some .free))=true
 len:cs.length=Nc.length
 out:((Nc.zip cs).all fun p=>X.N[p.2]?==some p.1&&scope.names.lookup p.1==some .free)=true
theorem LSc.at_ {X:Cx} {scope:Scope} {Nc:List Str} {cs:List Nat} (S:LSc X scope Nc cs) {i j:Nat} {x:Str} (h1:Nc[i]?=some x) (h2:cs[i]?=some j):X.N[j]?=some x∧scope.names.lookup x=some .free:=by
 have hz:(Nc.zip cs)[i]?=some (x,j):=by rw [List.getElem?_zip_eq_some];exact ⟨h1,h2⟩
 have:=qaQ.mp S.out (x,j) (Dw hz);simpa using this
theorem LSc.fr {X:Cx} {scope:Scope} {Nc:List Str} {cs:List Nat} (S:LSc X scope Nc cs):∀y∈scope.names,y.2=.free→X.env.kindOf y.1=some .cell∨X.env.kindOf y.1=some .free:=fun y hy e=>by have:=qaQ.mp S.free y hy;rw [e] at this;simpa using this
theorem Qx {K:Frag} (er:ER K m H ρ σ):∀{cs:List Nat} {ds:List D},Az (cs.map fun j=>(ρ[j]?).join)=some ds→∃vs,DVs K m H ds vs∧vs.length=cs.length∧∀(i:Nat) (v:V),vs[i]?=some v→∃j,cs[i]?=some j∧σ[j]?=some (some v)
 |[],ds,e=>by simp [Az] at e;subst e;exact ⟨[],.nil,rfl,fun i v z=>by simp at z⟩
 |j::cs,ds,e=>by
  rw [AZ] at e;cases ed:(ρ[j]?).join with
  |none=>rw [ed] at e;simp [Az] at e
  |some d=>
   rw [ed] at e;simp only [Az,qaM] at e;obtain ⟨ds',e1,rfl⟩:=e;obtain ⟨vs,h1,h2,h3⟩:=Qx er e1;obtain ⟨v,e2,r⟩:=er.2 j d (join_some.mp ed);refine ⟨v::vs,.cons r h1,by simp [h2],fun i v' z=>?_⟩;cases i with
   |zero=>simp at z;subst z;exact ⟨j,rfl,e2⟩
   |succ i=>simpa using h3 i v' (by simpa using z)
section
variable {X:Cx} {E:XK} {c P:Addr} {Nc:List Str} {cs:List Nat} {params:Arguments} {body:Expr} {scope:Scope}
theorem ZM {α:Type} {l:List (Str×α)} {x:Str} {v:α} (h:(x,v)∈l):∃w,l.lookup x=some w:=by
 cases e:l.lookup x with
 |some w=>exact ⟨w,rfl⟩
 |none=>have:=List.lookup_eq_none_iff.mp e _ h;simp at this
theorem ZN {j:Nat} {k:Nat} {st:Stmt} {j1:Nat} (L:LamX g X c P) (fna:∀x,X.fn x=true) (hr:Room (k+2) X.A) (lv:Lv X E) (et:etOk X.K=true)
 (hsw:∃Sw,nsIn X.K mainGlobals "SwitchError"=some (some (.ref Sw)))
 (Fn:Fun X.K "_law_said" "_law_said" st fs fd) (hbd:Binds X.K fd ["_law_call"] []) (hm:X.mg "_law_said"=some (.ref fs)) (hkp:keepIn X.K (.ref fs)=true)
 (Sf:DQ ["_law_call","_law_word","_law_e"] ["_law_call"] (defScope st)) (hk0:(defScope st).names.lookup ("_law_call":Str)=some .local) (hk1:(defScope st).names.lookup ("_law_word":Str)=some .local) (hk2:(defScope st).names.lookup ("_law_e":Str)=some .local)
 (hgS:∀L' cd,(envOfC "_law_said" (defScope st) L' fs cd).kindOf "SwitchError"=some .globalImplicit) (hgK:∀L' cd,(envOfC "_law_said" (defScope st) L' fs cd).kindOf "_law_kind"=some .globalImplicit)
 (hst:defBody st=[.Assign [.Name "_law_word" p1] (.Constant (.str "told") j1 p2) p3,.Try [.Expr (.Call (.Name "_law_call" p4) [] [] p5) p6] [.ExceptHandler (some (.Name "SwitchError" p7)) (some "_law_e") [.Assign [.Name "_law_word" p8] (.Call (.Name "_law_kind" p9) [.Name "_law_e" p10] [] p11) p12] p13] [] [] p14,.Return (some (.Name "_law_word" p15)) p16])
 (hkind:CaM X.prog X.w X.K X.mg X.base "_law_kind" k Fk) (hg:Gl X "_law_said") (S:LSc X scope Nc cs) (hdef:defaultsOf params X.env=([],[]))
 (hbind:∀(cl:List (Str×Addr)) (pm cv ctv:Value),bindArgs (kla_fn "<lambda>" (Bk g) params body scope cl pm cv ctv) ⟨[],[]⟩=pure [])
 (hb:∀(a:Addr) (cd:Value) (cl:List (Str×Addr)) (A:Around) (outer:List Env) (s:Shared) (H:Hp) (E':XK),Room k (A.deeper (envX (Bk g) scope s.heap.objs.size a cd cl))→Ev (Ej g X.prog X.w X.K X.mg X.base Nc scope a cd cl A outer s H E') E' body f)
 (he:starEach [.Lambda params body scope lpos] X.env=(false,eval (.Lambda params body scope lpos) X.env)::starEach [] X.env:=by rfl) (hpl:(backTo pos (starEach [] X.env)).any (·.1)=false:=by rfl):
 Ev X E (.Call (.Name "_law_said" p) [.Lambda params body scope lpos] [] pos) (Gn j g cs Fk f):=by
 rintro pins s σ H Q I ⟨m,ρ,h,hr1,er,pp⟩;unfold Gn at pp;split at pp
 ·rename_i g' ds et0 eds;split at pp
  rotate_left
  ·exact pp.elim
  rename_i hgg;have hgg:=hgg.symm;subst hgg;obtain ⟨aP,haP,tab⟩:=hr1.at et0;obtain ⟨⟨cc,htp⟩,tabr⟩:=id tab;rw [L.tp] at htp;cases htp;obtain ⟨vs,dvs,vlen,vat⟩:=Qx er eds;obtain ⟨cl,hclos,hcl,hcl2⟩:=Mr (scope:=scope) (env:=X.env) fun y hy hf=>I.ok.has y.1 (S.fr y hy hf);refine wpAny_Call_Name_kw (GI I hg hm ?_ (by decide));refine PySem.W.callWith_K (h₀:=X.base) I.ok.mod.kin hkp ?_ he hpl;rw [he]
  show wpAny _ _ (spliced ((false,eval (.Lambda params body scope lpos) X.env)::[])) _ _ s
  refine Calls.spliced_cons (Zw L I tab hdef hclos fun a c' ctv pm h' tk H' I' kp tab' same keep hsz no ob code=>?_);refine Ak ⟨I'.kIn,wpAny_call ?_⟩;generalize hs1:({s with heap:=h',toks:=tk}:Shared)=s1 at I';have hh1:s1.heap=h':=by rw [←hs1]
  have hrN:HR X.K m h H':=hr1.tab kp same tab' tab et0 haP;have frLt:∀b∈frs X.stack,b<s.heap.objs.size:=fun b hb=>by obtain ⟨_,o,ho,_⟩:=I.stack.mem hb;exact AC ho
  have cof:∀x c,cl.lookup x=some c→X.env.cells.lookup x=some c:=fun x c e=>(hcl x c (mem_of_lookup e)).1;have hasC:∀x,scope.names.lookup x=some .free→∃c,cl.lookup x=some c:=fun x e=>by obtain ⟨c,hc⟩:=hcl2 _ (mem_of_lookup e) rfl;exact ZM hc
  have C1:Iu s1.heap H' X.stack Nc scope cl vs:=by
   refine ⟨by rw [vlen,S.len],fun x y c e1 e2=>I.ok.inj x y c (cof x c e1) (cof y c e2),hasC,fun x c e=>?_,fun i x v e1 e2=>?_⟩
   ·refine ⟨I'.cell x c (cof x c e),I'.freeC x c (cof x c e),fun z=>?_⟩;rcases qa5.mp (I.stkSub c z) with z |z
    ·exact I.cne x c (cof x c e) z
    ·obtain ⟨_,o,ho,_⟩:=I.ok.funs.mem z;exact absurd (AU (AC ho) (I.ok.cab x c (fna x) (cof x c e))) (CB _)
   ·obtain ⟨j,ej,sj⟩:=vat i v e2;obtain ⟨hN,hf⟩:=S.at_ e1 ej;have hk:=S.fr _ (mem_of_lookup hf) rfl;obtain ⟨m0,hn0,hl0⟩:=I'.loc;obtain ⟨u,r,lk⟩:=hl0 j x v hN sj (by rcases hk with z |z;exact .inr (.inl z);exact .inr (.inr z));refine ⟨hf,?_⟩;rcases lk with ⟨z,_⟩ |⟨_,c,e3,e4⟩
    ·rcases hk with y |y<;>(rw [z] at y;cases y)
    ·obtain ⟨c2,e5⟩:=hasC x hf;have:=cof x c2 e5;rw [e3] at this;cases this;exact ⟨c,u,e5,e4,r⟩
  obtain ⟨oc,od,kV,doc,pm2,an,cdv,ct,osl,rfl,lk,hcd⟩:=Fn.ex;have e0:=I'.env0;have KX:X.K.In s1.heap:=I'.kIn;have lim:s1.heap.NoLimit:=I'.nolimit;have hkind2:∀y∈(["_law_call"]:List Str).zip [Value.ref a],(defScope st).names.lookup y.1=some .local∨((defScope st).names.lookup y.1=some .cell∧((cellsFrom (s1.heap.objs.size+1) (defScope st).names []).lookup y.1).isSome=true):=fun y hy=>by
   have:y=(("_law_call":Str),Value.ref a):=by simpa using hy
   subst this;exact .inl hk0
  have bt:=hbd s1 [.ref a] I'.kIn rfl;rw [Dx] at bt;refine codeAny_mono (R:=CR (Ba X.prog X.w X.K) X.stack X.prog X.w H' s1 Q E) ?_ fun r s' hq=>?_
  ·refine codeAny_call_function hr.depth (KX _ _ lk) rfl Sf.co Sf.gen rfl (PySem.W.codeRec_of KX hcd) (bt _ _ _ _ ?_);refine wpAny_newFunctionEnv_cells Sf.kind hkind2 fun env he2 s2 x=>?_;subst he2;refine ⟨lim.keeps x.toInCall.keep,codeAny_func ?_⟩;have I2:Inv (BP (Ba X.prog X.w X.K) X.prog X.w X.K X.mg X.base ["_law_call","_law_word","_law_e"] "_law_said" (defScope st) fs cdv X.A X.stack s1 H' E) [] (L2.start ["_law_call","_law_word","_law_e"] [.ref a]) H' s2:=
    ON Sf hr.hd e0 rfl (.cons rfl .nil) x
   obtain ⟨ps,hps,hca⟩:=code;have tri:TriplesOk ps.toList:=by obtain ⟨_,ps',z1,z2,_⟩:=tab';rw [hps] at z1;cases z1;exact z2
   have SX:SaidX g (BP (Ba X.prog X.w X.K) X.prog X.w X.K X.mg X.base ["_law_call","_law_word","_law_e"] "_law_said" (defScope st) fs cdv X.A X.stack s1 H' E) P a c' lpos Nc params body scope cl pm ctv vs:=
    ⟨rfl,hk0,hk1,hk2,⟨c,L.tp⟩,⟨ps,hps,tri,hca⟩,by show s1.heap.get? a=_;rw [hh1];exact ob,no,fun z=>absurd (AU (frLt a z) hsz) (CB _),C1⟩
   have hrS:Room (k+1) (BP (Ba X.prog X.w X.K) X.prog X.w X.K X.mg X.base ["_law_call","_law_word","_law_e"] "_law_said" (defScope st) fs cdv X.A X.stack s1 H' E).A:=hr.deeper _;have bx:=J6 (Mp (X:=BP (Ba X.prog X.w X.K) X.prog X.w X.K X.mg X.base ["_law_call","_law_word","_law_e"] "_law_said" (defScope st) fs cdv X.A X.stack s1 H' E) (E:=E) (i:=1) (pos:=p3) (pos':=p1) Sf.nd rfl (Or.inl hk1) (Pe (x:="told") (j:=j1) (pos:=p2)))
    (J6 (ZL (j:=j) (p4:=p4) (p5:=p5) (p6:=p6) (p7:=p7) (p8:=p8) (p9:=p9) (p10:=p10) (p11:=p11) (p12:=p12) (p13:=p13) (p14:=p14) Kj SX hrS et hsw (hgS _ _) (hgK _ _) hkind S.lam (hbind cl pm (.ref c') ctv) (fun s H E'=>hb a (.ref c') cl _ _ s H E'))
     (J5 (Pt (pos:=p16) (Mi (LO (i:=1) (x:="_law_word") (pos:=p15) rfl (.inl hk1))))))
   rw [←hst] at bx;have post:GO X.K E (Ai (As 1 (mC (.str "told"))) (Ai (Kt j g a vs Fk f) (AE (Ab 1)))) {nx:=fun _ H''=>Q .non H'',rt:=Q} (L2.start ["_law_call","_law_word","_law_e"] [.ref a]) H':=by
    refine ⟨m,[some (.clo a vs ds),none,none],h,hrN,?_,?_⟩
    ·refine ⟨rfl,fun i d e=>?_⟩
     match i,e with
     |0,e=>cases e;exact ⟨.ref a,rfl,by unfold DV;exact ⟨rfl,DVs.keep (Ay _) kp dvs⟩⟩
     |1,e=>cases e
     |2,e=>cases e
     |i+3,e=>cases e
    ·have p2:=Post.ahead (Ay m) kp pp;unfold Ai As mC;simp only [Out.bind_ok];unfold Kt;simp only [Jl,Jm,List.getElem?_cons_zero,et0,and_self,if_true];unfold M6 at p2;cases ho:f (ds.map some) h with
     |stuck=>rw [ho] at p2;exact p2.elim
     |ok d h1=>rw [ho] at p2;exact fun m' H'' p1 k1 hr' v rv=>p2 v m' H'' p1 k1 hr' rv
     |err Cv fs h1=>
      rw [ho] at p2;cases Cv with
      |str n t=>
       simp only at p2 ⊢;split at p2
       ·rename_i hn;simp only [hn,if_true];cases hi:Ek fs with
        |none=>rw [hi] at p2;exact p2.elim
        |some is=>
         rw [hi] at p2;simp only at p2 ⊢;cases hk:Fk [.exc n is] h1 with
         |stuck=>rw [hk] at p2;exact p2.elim
         |err _ _ _=>rw [hk] at p2;exact p2.elim
         |ok d h2=>rw [hk] at p2;exact fun m' H'' p1 k1 hr' v rv=>p2 v m' H'' p1 k1 hr' rv
       ·exact p2.elim
      |_=>exact p2.elim
   refine A1 (bx [] s2 _ H' _ I2 post) (fun fl s' hs=>?_) fun e s' hs=>hs;cases fl with
   |ret u=>obtain ⟨v,σ',H'',J,rv,q⟩:=hs;exact ⟨v,H'',J.os,J.bare,J.base,J.hok,rv,q⟩
   |next=>obtain ⟨σ',H'',J,q⟩:=hs;exact ⟨V.non,H'',J.os,J.bare,J.base,J.hok,rfl,q⟩
   |brk=>obtain ⟨_,_,_,q⟩:=hs;exact False.elim q
   |cont=>obtain ⟨_,_,_,q⟩:=hs;exact False.elim q
  ·cases r with
   |error e=>exact MR lv pins σ H' s1 e s' I' hq
   |ok fl=>
    cases fl with
    |ret u=>exact I'.after hq
    |next=>exact False.elim hq
    |brk=>exact False.elim hq
    |cont=>exact False.elim hq
 ·exact pp.elim
end
end LS
namespace LS
open PySem PySem.Spec PyProof.Rows L2 PySem.W
def Iv (mg:Str→Option Value) (base:Heap):Prop:=∃bm o,mg "__builtins__"=some (.ref bm)∧bm≠builtinsNs∧base.get? bm=some o∧o.cls=.type "module"∧o.dict=some builtinsNs∧o.data=.plain
theorem ZO {K:Frag} {mg mb:Str→Option Value} {k:Nat} {fa a c T:Addr} {x:Str} {s₁:Shared} {vs:List Value} {ns:List Int} 
 (KX:K.In s₁.heap) (hns:s₁.heap.Ns mainGlobals mg) (hb:s₁.heap.Ns builtinsNs mb) (hbb:∀x:Str,x≠"__name__"→mb x=bootBuiltins x) (hlim:s₁.heap.NoLimit) (hg:s₁.gens=#[]) (hbm:Iv mg s₁.heap)
 (ha:s₁.heap.get? a=some {cls:=.type "list",data:=.seq vs.toArray}) (hi:IntsAre vs ns) (hl:ns.length≤sizeLine) (hr:Room k callerA)
 (htp:tabP K "law"=some (c,T)) (hcd:codeHdIn K c T=true) (hT:s₁.heap.get? T=some (tabObj #[])) (hKT:K.lookup T=none)
 (FF:∀base:Heap,K.In base→base.Ns mainGlobals mg→Iv mg base→FnOk P w K mg base (Ba P w K) k fa fd [x] (E2 K F)) (hbind:∀(s:Shared) (u:Value),BindsTo s fd ⟨[u],[]⟩ [(x,u)])
 (hF:∃h',F [.scr ns] [.tab]=.ok (.bl true) h'):
 codeAny (model P w) callerA (.call (.ref fa) ⟨[.ref a],[]⟩) (fun r s'=>r=.ok (.ret (.bool true))∧OldK s₁.heap s'.heap∧s'.os=s₁.os∧AllBare s'.gens) s₁:=by
 have rv:=L2.vals_ints hi;have lenV:=hi.length;have aT:a≠T:=fun z=>by rw [z,hT] at ha;cases ha
 have core:∀H:Hp,(∀b,b=T∨H b=none∨∃o xs,H b=some (.frz o (.lst xs)))→H T=some (.tbl #[])→FzL K H a (ns.map V.int)→HOk P w H s₁.heap→(∀b,H b≠none→b=a∨b=T)→(H a≠none→K.lookup a=none)→
  codeAny (model P w) callerA (.call (.ref fa) ⟨[.ref a],[]⟩) (fun r s'=>r=.ok (.ret (.bool true))∧OldK s₁.heap s'.heap∧s'.os=s₁.os∧AllBare s'.gens) s₁:=by
  intro H hO hHT hS hok hA hK;have base_of:∀{b:Addr} {o:Obj},s₁.heap.get? b=some o→H b=none→(D3 s₁.heap H).get? b=some o:=fun e n=>UL e n;have noA:∀{b:Addr} {o:Obj},s₁.heap.get? b=some o→(∀its n,o.data≠.seq its n)→(∀ws,o.data≠.fields ws)→H b=none:=fun {b o} e d1 d2=>by
   cases q:H b with
   |none=>rfl
   |some u=>
    rcases hA b (by rw [q];simp) with e' |e'
    ·subst e';rw [ha] at e;cases e;exact absurd rfl (d1 _ _)
    ·subst e';rw [hT] at e;cases e;exact absurd rfl (d2 _)
  have nsK:∀{b:Addr} {m:Str→Option Value},s₁.heap.Ns b m→(D3 s₁.heap H).Ns b m:=fun {b m} ⟨o,es,ep,e,d,r⟩=>⟨o,es,ep,base_of e (noA e (fun _ _ z=>by rw [d] at z;cases z) (fun _ z=>by rw [d] at z;cases z)),d,r⟩
  have hKb:K.In (D3 s₁.heap H):=fun b o e=>base_of (KX b o e) (by
   cases q:H b with
   |none=>rfl
   |some u=>
    rcases hA b (by rw [q];simp) with e' |e'
    ·subst e';rw [hK (by rw [q];simp)] at e;cases e
    ·subst e';rw [hKT] at e;cases e)
  have hM:Mod K mg (D3 s₁.heap H):=⟨hKb,nsK hns,⟨mb,nsK hb,hbb⟩,let ⟨mc,h1,h2⟩:=hlim;⟨mc,nsK h1,h2⟩⟩
  have e0:Ft P w K mg (D3 s₁.heap H) callerA [] s₁ H:=⟨rfl,hM,fun b o e=>UM e,HF (UK _ _),trivial,fun b hb=>absurd (show b∈([]:List Addr) from hb) (by simp),hok,.of_eq hg⟩
  have hBM:Iv mg (D3 s₁.heap H):=by obtain ⟨bm,o,h1,h2,h3,h4,h5,h6⟩:=hbm;exact ⟨bm,o,h1,h2,base_of h3 (noA h3 (fun _ _ z=>by rw [h6] at z;cases z) (fun _ z=>by rw [h6] at z;cases z)),h4,h5,h6⟩
  have hsp:E2 K F [.ref a] H (fun v _=>v=.bl true) fun _ _ _=>False:=by
   obtain ⟨h',e⟩:=hF;refine ⟨[T],[.scr ns],[.tab],⟨rfl,by simp,fun l cc b e1 e2=>?_⟩,.cons (by simp only [DV];exact ⟨a,rfl,hS⟩) .nil,?_⟩
   ·cases l with
    |zero=>simp at e1 e2;subst e1 e2;exact ⟨⟨c,htp⟩,#[],hHT,trivial,fun pos cv z=>by simp [codeAmong] at z⟩
    |succ l=>simp at e1
   ·rw [e];intro v m' H' _ _ _ r;simpa [rD,DV] using r
  refine codeAny_mono ((FF _ hKb (nsK hns) hBM).run callerA [] s₁ H ⟨[.ref a],[]⟩ [.ref a] [.ref a] _ _ hr e0 (hbind s₁ (.ref a)) (.cons rfl .nil) hsp) fun r s' h=>?_;cases r with
  |error e=>obtain ⟨_,_,_,_,_,_,_,_,_,_,_,_,q⟩:=h;exact q.elim
  |ok fl=>
   cases fl with
   |next=>exact False.elim h
   |brk=>exact False.elim h
   |cont=>exact False.elim h
   |ret u=>
    obtain ⟨v,H',os,bare,un,hok',r',q⟩:=h;have q':v=.bl true:=q;subst q';obtain rfl:u=Value.bool true:=r';obtain ⟨more,hT'⟩:=un.tbls T _ hHT;have hT2:s'.heap.get? T=some (tabObj (#[]++more)):=hok' T _ hT';have keepO:∀b o,b≠T→s₁.heap.get? b=some o→s'.heap.get? b=some o:=fun b o hbT e=>by
     cases q:H b with
     |none=>exact un.keep b o e q (by intro z;exact absurd (show b∈([]:List Addr) from z) (by simp)) (by simp)
     |some u=>
      rcases hO b with z |z |⟨ob,xs,z⟩
      ·exact absurd z hbT
      ·rw [q] at z;cases z
      ·have z2:=un.frzs b ob _ z;obtain ⟨e1,_⟩:=hok b _ z;obtain ⟨e2,_⟩:=hok' b _ z2;rw [e] at e1;cases e1;exact e2
    have hC:=codeHd_of_K KX hcd;refine ⟨rfl,⟨fun b o e=>?_,fun b o e=>?_⟩,os,bare⟩
    ·by_cases hbT:b=T
     ·subst hbT;rw [hT] at e;cases e;exact .inr (.inl ⟨(hC.tab hT).isCodeTable,rfl,#[],more,rfl,hT2⟩)
     ·exact .inl (keepO b o hbT e)
    ·by_cases hbT:b=T
     ·subst hbT;exact ⟨_,hT2⟩
     ·exact ⟨o,keepO b o hbT e⟩
 cases hk:K.lookup a with
 |some o=>
  have e:=KX a o hk;rw [ha] at e;cases e;refine core (fun b=>if b=T then some (.tbl #[]) else none) (fun b=>?_) (if_pos rfl) (.inr (.inr ⟨_,vs.toArray,_,hk,rfl,rfl,rfl,by rw [AY,lenV];exact hl,by simpa using rv⟩)) (fun b u z=>?_) (fun b z=>?_) fun z=>absurd (if_neg aT) z
  ·by_cases hb:b=T
   ·exact .inl hb
   ·exact .inr (.inl (if_neg hb))
  ·by_cases hb:b=T
   ·have z':=(if_pos hb).symm.trans z;cases z';subst hb;exact hT
   ·have z':=(if_neg hb).symm.trans z;cases z'
  ·by_cases hb:b=T
   ·exact .inr hb
   ·exact absurd (if_neg hb) z
 |none=>
  refine core (fun b=>if b=T then some (.tbl #[]) else if b=a then some (.frz {cls:=.type "list",data:=.seq vs.toArray} (.lst (ns.map V.int))) else none) (fun b=>?_) (if_pos rfl) (.inl ⟨{cls:=.type "list",data:=.seq vs.toArray},(if_neg aT).trans (if_pos rfl)⟩) (fun b u z=>?_) (fun b z=>?_) fun _=>hk
  ·by_cases hb:b=T
   ·exact .inl hb
   ·by_cases hba:b=a
    ·exact .inr (.inr ⟨_,_,(if_neg hb).trans (if_pos hba)⟩)
    ·exact .inr (.inl ((if_neg hb).trans (if_neg hba)))
  ·by_cases hb:b=T
   ·have z':=(if_pos hb).symm.trans z;cases z';subst hb;exact hT
   ·have z1:=(if_neg hb).symm.trans z
    by_cases hba:b=a
    ·have z':=(if_pos hba).symm.trans z1;cases z';subst hba;exact ⟨ha,by rw [A0];exact hl,vs,_,rv,ha⟩
    ·have z':=(if_neg hba).symm.trans z1;cases z'
  ·by_cases hb:b=T
   ·exact .inr hb
   ·by_cases hba:b=a
    ·exact .inl hba
    ·exact absurd ((if_neg hb).trans (if_neg hba)) z
open AutoSeq1 (wpAny_loadPart')
theorem ZP:fillsNumberSlot (.type "tuple") "mul"=pure false:=by first |exact noFill_tuple_mul' |(unfold fillsNumberSlot;kernel_rfl)
theorem ZQ:seqRepeat? (.type "tuple")=pure (some (.builtin "tuple.__mul__")):=by unfold seqRepeat?;rw [PySem.seqSlot_of (T:="tuple") (name:="__mul__") (id:="tuple.__mul__") F.slot_tuple_mul.lookup (by decide +kernel),PySem.seqSlot_of (T:="tuple") (name:="__rmul__") (id:="tuple.__rmul__") (by rw [typeLookup_type,builtinLookup_eq_fast];kernel_rfl) (by decide +kernel)];rfl
theorem ZR (a:Int) (t:Tok) (l:Addr) (items:Array Value) (n:Nat) (dd:Option Addr) (sl:Array (Option Value)):
 Meets (Builtin.«int.__rmul__» ⟨[.int a t,.ref l],[]⟩) (fun _ R s=>s.heap.get? l=some {cls:=.type "tuple",dict:=dd,data:=.seq items n,slots:=sl}∧R (.ok (.ret Value.notImplemented)) s):=
 .of_wp fun prog w A R s h=>by
  obtain ⟨hp,g,d,tk,os⟩:=s;obtain ⟨hl,h⟩:=h
  wp_walk;exact ⟨_,rfl,h⟩
theorem ZS (l:Addr) (items:Array Value) (n:Nat) (dd:Option Addr) (sl:Array (Option Value)) (x:Int) (u:Tok) (h1:1<x) (h2:x<2^63) (hne:items.isEmpty=false) (hz:items.size*x.toNat≤sizeLine):
 Meets (Builtin.«tuple.__mul__» ⟨[.ref l,.int x u],[]⟩) (fun _ R s=>s.heap.get? l=some {cls:=.type "tuple",dict:=dd,data:=.seq items n,slots:=sl}∧R (.ok (.ret (Value.ref s.heap.objs.size))) {s with heap:=s.heap.push {cls:=Value.type "tuple",data:=Data.seq (List.foldl (fun x1 x2=>x1++x2) #[] (List.replicate x.toNat items))}}):=
 .of_wp fun prog w A R s h=>by
  obtain ⟨hp,g,d,tk,os⟩:=s;obtain ⟨hl,h⟩:=h;have c1:(decide (x < -2^63)||decide (x≥2^63))=false:=by simp;omega
  have c2:(items.isEmpty||x==1)=false:=by rw [hne,Bool.false_or];exact beq_eq_false_iff_ne.mpr (by omega)
  have c3:(decide (x≤0)||items.isEmpty)=false:=by rw [hne,Bool.or_false];exact decide_eq_false (by omega)
  have hx:(x.toNat:Int)=x:=DX (by omega);have hz':(items.size:Int)*x≤sizeLine:=by rw [←hx];exact_mod_cast hz
  have c4:¬((items.size:Int)*x>(2^63 - 1) / 8):=by
   have:(sizeLine:Int)≤(2^63 - 1) / 8:=by decide
   omega
  have c5:Builtin.Tuple.tupleTooMany ((items.size:Int)*x)=false:=by unfold Builtin.Tuple.tupleTooMany;exact decide_eq_false (by omega)
  have c6:(List.foldl (fun x1 x2=>x1++x2) #[] (List.replicate x.toNat items)).size≤sizeLine:=by
   have f0:=JN items.toList x.toNat [];rw [FY] at f0;have:List.foldl (fun x1 x2=>x1++x2) #[] (List.replicate x.toNat items)=(List.replicate x.toNat items.toList).flatten.toArray:=by simpa using f0
   rw [this,AY,JO,Nat.mul_comm];simpa using hz
  wp_walk using wpAny_loadPart' hl
  rw [c1];simp only [Bq,if_false];refine Ad ?_;unfold Builtin.Tuple.tupleItemsOf
  wp_walk using wpAny_loadPart' hl
  rw [c2];simp only [Bq,if_false];rw [c3];simp only [Bq,if_false];rw [if_neg c4,c5];simp only [Bq,if_false];refine Ad (CC (Ak ⟨_,rfl,h⟩) c6)
theorem ZT (l:Addr) (items:Array Value) (n:Nat) (dd:Option Addr) (sl:Array (Option Value)) (u:Tok):
 Meets (Builtin.«tuple.__mul__» ⟨[.ref l,.int 1 u],[]⟩) (fun _ R s=>s.heap.get? l=some {cls:=.type "tuple",dict:=dd,data:=.seq items n,slots:=sl}∧R (.ok (.ret (Value.ref l))) s):=
 .of_wp fun prog w A R s h=>by
  obtain ⟨hp,g,d,tk,os⟩:=s;obtain ⟨hl,h⟩:=h;have c1:(decide ((1:Int) < -2^63)||decide ((1:Int)≥2^63))=false:=by decide
  have c2:(items.isEmpty||(1:Int)==1)=true:=by simp
  wp_walk using wpAny_loadPart' hl
  exact ⟨_,rfl,h⟩
theorem ZU (l:Addr) (items:Array Value) (n:Nat) (dd:Option Addr) (sl:Array (Option Value)) (x:Int) (u:Tok) (h1:-(2^63)≤x) (h2:x≤0) (hne:items.isEmpty=false):
 Meets (Builtin.«tuple.__mul__» ⟨[.ref l,.int x u],[]⟩) (fun _ R s=>s.heap.get? l=some {cls:=.type "tuple",dict:=dd,data:=.seq items n,slots:=sl}∧R (.ok (.ret (Value.ref s.heap.objs.size))) {s with heap:=s.heap.push {cls:=Value.type "tuple",data:=Data.seq #[]}}):=
 .of_wp fun prog w A R s h=>by
  obtain ⟨hp,g,d,tk,os⟩:=s;obtain ⟨hl,h⟩:=h;have c1:(decide (x < -2^63)||decide (x≥2^63))=false:=by simp;omega
  have c2:(items.isEmpty||x==1)=false:=by rw [hne,Bool.false_or];exact beq_eq_false_iff_ne.mpr (by omega)
  have c3:(decide (x≤0)||items.isEmpty)=true:=by rw [hne,Bool.or_false];exact decide_eq_true h2
  wp_walk using wpAny_loadPart' hl
  rw [c1];simp only [Bq,if_false];refine Ad ?_;unfold Builtin.Tuple.tupleItemsOf
  wp_walk using wpAny_loadPart' hl
  rw [c2];simp only [Bq,if_false];rw [c3];simp only [if_true];refine Ad (CC (Ak ⟨_,rfl,h⟩) (by show (#[]:Array Value).size≤sizeLine;simp))
section
variable {X:Cx} {E:XK}
def ZV (K:Frag):R2:=fun x y H Q=>∃l k xs,x=.ref l∧y=.int k∧TupAt K H l xs∧xs≠[]∧-(2^63)≤k∧k<2^63∧xs.length*k.toNat≤sizeLine∧(k=1→Q (.ref l) H)∧
 ∀p,H p=none→Q (.ref p) (Aq H p (.tup (List.replicate k.toNat xs).flatten))
theorem Inv.tnew {s:Shared} {ys:List V} {its:List Value} {t':Nat} (I:Inv X pins σ H s) (hv:Vals ys its) (hz:ys.length≤sizeLine):
 Inv X pins σ (Aq H s.heap.objs.size (.tup ys)) {s with heap:=s.heap.push {cls:=.type "tuple",data:=.seq its.toArray},toks:=t'}:=
 I.laid (fun _ _ q=>Aw _ q) (Ax _) ⟨hz,its,hv,⟨_,Bc _ rfl,rfl,0,rfl⟩,NoDict.new⟩
theorem op_repT:OpR X (binaryOp .Mult) (ZV X.K):=by
 intro pins s σ H x y v u Q I rx ry h;obtain ⟨l,k,xs,rfl,rfl,hH,hne,h1,h2,hz,q1,q⟩:=h;cases rx;obtain ⟨t,rfl⟩:=ry;obtain ⟨z,its,r,⟨o,ho,hc,n,hd⟩,_⟩:=tok ⟨I.hok,I.kIn⟩ hH;obtain ⟨oc,dd,dat,sl⟩:=o;simp only at hc hd;subst hc hd;have hl:=r.length;have hine:its.toArray.isEmpty=false:=by
  cases its with
  |nil=>exfalso;cases xs with
   |nil=>exact hne rfl
   |cons _ _=>simp at hl
  |cons a b=>simp
 have mul:∀{Q':Value→Shared→Prop},wpAny (model X.prog X.w) X.A (call (.builtin "tuple.__mul__") [.ref l,.int k t]) Q' X.xe s→wpAny (model X.prog X.w) X.A (binaryOp .Mult (.ref l) (.int k t)) Q' X.xe s:=fun {Q'} hq=>
  wpAny_binaryOp_repeat_ref (T:="tuple") (U:="int") (by decide) ⟨_,ho,rfl⟩ (fun s'=>typeIs_int s' k t) ZP F.fills_int_mul F.slot_int_rmul ZQ F.slot_int_index.lookup
   (call_meets F.slot_int_rmul (typeIs_int s k t) F.entry_int_rmul (F.args_int_rmul_2 _ _) (ZR k t l its.toArray n dd sl) ⟨ho,rfl,⟨_,ho,rfl⟩,hq⟩)
 refine mul ?_;rcases Int.lt_trichotomy k 1 with hk |hk |hk
 ·refine call_meets F.slot_tuple_mul ⟨_,ho,rfl⟩ F.entry_tuple_mul (F.args_tuple_mul_2 _ _) (ZU l its.toArray n dd sl k t h1 (by omega) hine) ⟨ho,?_⟩;have e:(List.replicate k.toNat xs).flatten=[]:=by
   have:k.toNat=0:=by omega
   rw [this];rfl
  have:=q _ I.fresh;rw [e] at this;exact ⟨.ref _,_,LS.Inv.tnew (its:=[]) (t':=s.toks) I .nil (B8 _),rfl,this⟩
 ·subst hk;refine call_meets F.slot_tuple_mul ⟨_,ho,rfl⟩ F.entry_tuple_mul (F.args_tuple_mul_2 _ _) (ZT l its.toArray n dd sl t) ⟨ho,?_⟩;exact ⟨.ref l,H,I,rfl,q1 rfl⟩
 ·refine call_meets F.slot_tuple_mul ⟨_,ho,rfl⟩ F.entry_tuple_mul (F.args_tuple_mul_2 _ _) (ZS l its.toArray n dd sl k t hk h2 hine (by rw [AY,←hl];exact hz)) ⟨ho,?_⟩;have f0:=JN its k.toNat [];rw [FY] at f0;have f1:List.foldl (fun x1 x2=>x1++x2) #[] (List.replicate k.toNat its.toArray)=(List.replicate k.toNat its).flatten.toArray:=f0;rw [f1];exact ⟨.ref _,_,LS.Inv.tnew (t':=s.toks) I (r.rep k.toNat) (by rw [JO,Nat.mul_comm];exact hz),rfl,q _ I.fresh⟩
noncomputable def Ce:D→D→HD→Out D:=fun x y h=>match x,y with
 |.tup xs,.int k=>@ite _ (xs≠[]∧-(2^63)≤k∧k<2^63∧xs.length*k.toNat≤sizeLine) (Classical.propDecidable _) (.ok (.tup (List.replicate k.toNat xs).flatten) h) .stuck
 |_,_=>Do x y h
theorem ZW:Bn X (binaryOp .Mult) Ce:=by
 obtain ⟨r0,hr0,i0⟩:=Ym (X:=X);refine ⟨_,op_repT.or hr0,fun m H h E x y v u Q hr rx ry q=>?_⟩;unfold Ce at q;split at q
 ·rename_i xs k;split at q
  ·rename_i hc;obtain ⟨hne,h1,h2,hz⟩:=hc;simp only [DV] at rx ry;obtain ⟨a,vs,rfl,ha,dv⟩:=rx;subst ry;refine .inl ⟨a,k,vs,rfl,rfl,ha,?_,h1,h2,by rw [←dv.len];exact hz,fun e=>?_,?_⟩
   ·intro e;have:=dv.len;rw [e] at this;exact hne (qcP.mp this)
   ·subst e;refine A8 hr q ?_;simp only [DV];exact ⟨a,vs,rfl,ha,by simpa using dv⟩
   ·exact F6 hr (DVs.rep dv k.toNat) q
  ·exact q.elim
 ·exact .inr (i0 m H h E x y v u Q hr rx ry q)
end
end LS
namespace LS
open PySem PySem.Spec PyProof.Rows L2 PySem.W
section
variable {X:Cx} {E:XK}
abbrev MJ:=Str→Ag→HD→Out Str
def CK:D→D→HD→Out D:=fun x y h=>match x,y with
 |.str a,.str b=>.ok (.bl (a==b)) h
 |_,_=>Ga x y h
def BU:D→D→HD→Out D:=fun x y h=>match x,y with
 |.str a,.str b=>.ok (.bl (!(a==b))) h
 |_,_=>Fz x y h
theorem Qy (hu:X.A.units+64<cLine):Bn X (compareOp .Eq) CK:=by
 obtain ⟨r0,hr0,i0⟩:=Xn (X:=X) hu;refine ⟨_,op_eq.or hr0,fun m H h E x y v u Q hr rx ry q=>?_⟩;unfold CK at q;split at q
 ·simp only [DV] at rx ry;subst rx ry;exact .inl ⟨rfl,by rw [JK];exact A8 hr q (by simp [DV])⟩
 ·exact .inr (i0 m H h E x y v u Q hr rx ry q)
theorem ZX (hu:X.A.units+64<cLine):Bn X (compareOp .NotEq) BU:=by
 obtain ⟨r0,hr0,i0⟩:=Xo (X:=X) hu;refine ⟨_,op_ne.or hr0,fun m H h E x y v u Q hr rx ry q=>?_⟩;unfold BU at q;split at q
 ·simp only [DV] at rx ry;subst rx ry;exact .inl ⟨rfl,by rw [JK];exact A8 hr q (by simp [DV])⟩
 ·exact .inr (i0 m H h E x y v u Q hr rx ry q)
def Ku:List Nat→List D→Ag→Option Ag
 |[],[],ρ=>some ρ
 |i::is,d::ds,ρ=>Ku is ds (ρ.set i (some d))
 |_,_,_=>none
def E4 (is:List Nat):MG:=fun d ρ=>match d with
 |.tup ds=>Ku is ds ρ
 |_=>none
def M7:List Nat→Fm
 |[]=>HH
 |i::is=>Fo (CS i) (M7 is)
theorem Qz:∀{is:List Nat} {ds:List D} {ρ ρ':Ag},Ku is ds ρ=some ρ'→ds.length=is.length
 |[],[],_,_,_=>rfl
 |[],_::_,_,_,e=>by cases e
 |_::_,[],_,_,e=>by cases e
 |_::is,_::ds,_,_,e=>by simpa using Qz (is:=is) (ds:=ds) e
theorem QC {K:Frag}:∀{is:List Nat} {ds:List D} {vs:List V} {ρ ρ':Ag} {σ:L2.St} {Q:L2.St→Hp→Prop},DVs K m H ds vs→ER K m H ρ σ→Ku is ds ρ=some ρ'→(∀σ',ER K m H ρ' σ'→Q σ' H)→M7 is vs σ H Q
 |[],[],vs,ρ,ρ',σ,Q,r,er,e,q=>by simp only [DVs] at r;subst r;cases e;exact ⟨rfl,q σ er⟩
 |[],_::_,_,_,_,_,_,_,_,e,_=>by cases e
 |_::_,[],_,_,_,_,_,_,_,e,_=>by cases e
 |i::is,d::ds,vs,ρ,ρ',σ,Q,r,er,e,q=>by simp only [DVs] at r;obtain ⟨v,w,rfl,rv,rw'⟩:=r;exact ⟨v,w,rfl,QC rw' (er.set rv) e q⟩
theorem QE {is:List Nat} {kt:Nat} (h:PG X (.Tuple es kt pos) (HI X.K is.length (M7 is))):FA X (.Tuple es kt pos) (E4 is):=⟨_,h,fun m H d v ρ σ ρ' Q r er e q=>by
 unfold E4 at e;split at e
 ·rename_i ds;simp only [DV] at r;obtain ⟨p,vs,rfl,hp,dv⟩:=r;exact ⟨p,vs,rfl,tq hp,by rw [←dv.len];exact Qz e,QC dv er e q⟩
 ·cases e⟩
end
variable {g:Str}
theorem M8 {K:Frag} (h:etOk K=true) {n:Str} (hn:n∈excNames):∃C,nsIn K mainGlobals n=some (some (.ref C)):=by
 unfold etOk at h;split at h
 ·rename_i S hS;have h1:=qaQ.mp h n hn;cases e:Eg K n with
  |none=>rw [e] at h1;cases h1
  |some C=>exact ⟨C,Qp e⟩
 ·cases h
section
variable {X:Cx} {E:XK}
theorem ZY {x:Str} (et:etOk X.K=true) (hn:x∈excNames) (hg:Gl X x:=by rfl) (hd:(x==("__debug__":Str))=false:=by decide):Ev X E (.Name x pos) (mC (.glo x)):=by obtain ⟨a,h⟩:=M8 et hn;exact Zl hg h hd
theorem ZZ {e:Expr} (et:etOk X.K=true) (hn:x∈excNames) (hne:x≠"TooMany") (hg:Gl X x) (hc:X.calm=true) (th:MW X E) (ha:CG X E (e::es) fa)
 (hdb:(x==("__debug__":Str))=false:=by decide) (he:starEach (e::es) X.env=(false,eval e X.env)::starEach es X.env:=by rfl) (hpl:(backTo cpos (starEach (e::es) X.env)).any (·.1)=false:=by rfl):
 Ex X E (.Raise (some (.Call (.Name x np) (e::es) [] cpos)) none pos) (Il x fa):=by
 obtain ⟨C,h⟩:=M8 et hn;exact YR ((Ko et hn h).at_ hne) h hg hc th ha hdb he hpl
end
theorem CaM.mono {K:Frag} {j k:Nat} (C:CaM P w K mg base x j F) (h:j≤k):CaM P w K mg base x k F:=by obtain ⟨f,fd,ps,G,r⟩:=C.ex;exact ⟨f,fd,ps,⟨fun A outer s H args us vs Q hr=>G.run A outer s H args us vs Q (hr.mono h)⟩,r⟩
structure SaidD (K:Frag) (mg:Str→Option Value) (st:Stmt) (fs:Addr) (fd:FuncData):Prop where
 fn:Fun K "_law_said" "_law_said" st fs fd
 bd:Binds K fd ["_law_call"] []
 mg:mg "_law_said"=some (.ref fs)
structure M9 (st:Stmt):Prop where
 sc:DQ ["_law_call","_law_word","_law_e"] ["_law_call"] (defScope st)
 k0:(defScope st).names.lookup ("_law_call":Str)=some .local
 k1:(defScope st).names.lookup ("_law_word":Str)=some .local
 k2:(defScope st).names.lookup ("_law_e":Str)=some .local
 gS:(defScope st).names.lookup ("SwitchError":Str)=some .globalImplicit
 gK:(defScope st).names.lookup ("_law_kind":Str)=some .globalImplicit
 tx:∃p1 j1 p2 p3 p4 p5 p6 p7 p8 p9 p10 p11 p12 p13 p14 p15 p16,defBody st=[.Assign [.Name "_law_word" p1] (.Constant (.str "told") j1 p2) p3,.Try [.Expr (.Call (.Name "_law_call" p4) [] [] p5) p6] [.ExceptHandler (some (.Name "SwitchError" p7)) (some "_law_e") [.Assign [.Name "_law_word" p8] (.Call (.Name "_law_kind" p9) [.Name "_law_e" p10] [] p11) p12] p13] [] [] p14,.Return (some (.Name "_law_word" p15)) p16]
theorem Z0 {j:Nat} {X:Cx} {Nc:List Str} {cs:List Nat} {params:Arguments} {k kk:Nat} {st:Stmt} 
 (L:LamX g X c P) (fna:∀x,X.fn x=true) (hr:Room kk X.A) (lv:Lv X E) (et:etOk X.K=true) (Sd:SaidD X.K X.mg st fs fd) (St:M9 st) (hkind:CaM X.prog X.w X.K X.mg X.base "_law_kind" k Fk) (S:LSc X scope Nc cs)
 (hb:∀(a:Addr) (cd:Value) (cl:List (Str×Addr)) (A:Around) (outer:List Env) (s:Shared) (H:Hp) (E':XK),Room k (A.deeper (envX (Bk g) scope s.heap.objs.size a cd cl))→Ev (Ej g X.prog X.w X.K X.mg X.base Nc scope a cd cl A outer s H E') E' body f)
 (hg:Gl X "_law_said") (hkk:k+2≤kk:=by decide) (hdef:defaultsOf params X.env=([],[]):=by rfl)
 (hbind:∀(cl:List (Str×Addr)) (pm cv ctv:Value),bindArgs (kla_fn "<lambda>" (Bk g) params body scope cl pm cv ctv) ⟨[],[]⟩=pure []:=by exact fun _ _ _ _=>rfl)
 (he:starEach [.Lambda params body scope lpos] X.env=(false,eval (.Lambda params body scope lpos) X.env)::starEach [] X.env:=by rfl) (hpl:(backTo pos (starEach [] X.env)).any (·.1)=false:=by rfl):
 Ev X E (.Call (.Name "_law_said" p) [.Lambda params body scope lpos] [] pos) (Gn j g cs Fk f):=by
 obtain ⟨p1,j1,p2,p3,p4,p5,p6,p7,p8,p9,p10,p11,p12,p13,p14,p15,p16,hst⟩:=St.tx;exact ZN L fna (hr.mono hkk) lv et (M8 et (by decide +kernel)) Sd.fn Sd.bd Sd.mg Sd.fn.kp St.sc St.k0 St.k1 St.k2 (fun _ _=>St.gS) (fun _ _=>St.gK) hst hkind hg S hdef hbind hb he hpl
theorem Z1 {K:Frag} {st:Stmt} {f:Addr} {kV doc pm cdv ct oc:Value} {an od:Option Addr} {osl:Array (Option Value)} {N ps:List Str} {k:Nat} {F:List D→HD→Out D} {g:MS} 
 (lk:K.lookup f=some ⟨oc,od,.func (PySem.W.fnOf x qual (defArgs st) (defBody st) (defScope st) .none kV doc pm an cdv ct),osl⟩) (hcd:PySem.W.codeIn K cdv qual=true) (S:DQ N ps (defScope st)) (ar:Ar ps.length F)
 (hg:∀ds h,ds.length=ps.length→F ds h=AL N.length g ds h)
 (hbody:∀(A:Around) (outer:List Env) (s:Shared) (H:Hp) (E:XK),Room k (A.deeper (envOfC qual (defScope st) s.heap.objs.size f cdv))→CH (BP (Ba P w K) P w K mg base N qual (defScope st) f cdv A outer s H E) E (defBody st) g):
 FnOk P w K mg base (Ba P w K) (k+1) f (PySem.W.fnOf x qual (defArgs st) (defBody st) (defScope st) .none kV doc pm an cdv ct) ps (E2 K F):=by
 refine OO lk hcd S (fun vs H Q E h=>Km ar h) fun A outer s H vs Q E hr h=>?_;refine ⟨_,hbody A outer s H E hr,?_⟩;have hl:=Km ar h;obtain ⟨m,ds,hd,hr1,r,p⟩:=h;have hld:ds.length=ps.length:=by rw [r.len];exact hl
 refine ⟨m,ds.map some++List.replicate (N.length - ds.length) none,hd,hr1,ER.start r,?_⟩;rw [hg ds hd hld] at p;unfold AL at p;cases o:g (ds.map some++List.replicate (N.length - ds.length) none) hd with
 |stuck=>rw [o] at p;exact p
 |err C fs h1=>rw [o] at p;exact p
 |ok a h1=>
  rw [o] at p;obtain ⟨fl,ρ1⟩:=a;intro m1 H1 p1 k1 hr1;cases fl with
  |nx=>exact fun σ er=>p .non m1 H1 p1 k1 hr1 (by simp [rD,DV])
  |bk=>exact False.elim p
  |ct=>exact False.elim p
  |rt d=>exact fun v rv=>p v m1 H1 p1 k1 hr1 rv
end LS
namespace LS
open PySem PySem.Spec PyProof.Rows L2
def We {α:Type} (o:Out α) (Q:α→HD→Prop) (R:Str→List (Str×D)→HD→Prop):Prop:=match o with
 |.ok a h=>Q a h
 |.err (.str n _) fs h=>R n fs h
 |_=>False
section
variable {α β:Type} {o:Out α} {Q Q':α→HD→Prop} {R R':Str→List (Str×D)→HD→Prop}
@[simp] theorem Z2 (a:α) (h:HD):We (.ok a h) Q R=Q a h:=rfl
@[simp] theorem Zfl (n:Str) (t:Tok) (fs:List (Str×D)) (h:HD):We (.err (.str n t) fs h:Out α) Q R=R n fs h:=rfl
@[simp] theorem Zfm:We .stuck Q R=False:=rfl
theorem DG {k:α→HD→Out β} {Q:β→HD→Prop}:We (o.bind k) Q R=We o (fun a h=>We (k a h) Q R) R:=by
 cases o with
 |ok a h=>rfl
 |err C fs h=>cases C<;>rfl
 |stuck=>rfl
theorem Wp.we (h:Wp o Q):We o Q R:=by
 cases o with
 |ok a h'=>exact h
 |_=>exact h.elim
theorem We.mono (h:We o Q R) (f:∀a h,Q a h→Q' a h) (g:∀n fs h,R n fs h→R' n fs h):We o Q' R':=by
 cases o with
 |ok a h'=>exact f _ _ h
 |err C fs h'=>cases C<;>first |exact g _ _ _ h |exact h.elim
 |stuck=>exact h
theorem Pu.we {a:α} (p:Pu o h a) (k:∀h',Sm h h'→Q a h'):We o Q R:=Wp.we (p.wp k)
end
def Er {α:Type} (o:Out α) (h:HD) (n:Str):Prop:=We o (fun _ _=>False) fun n' fs h'=>n'=n∧fs=[]∧Sm h h'
theorem Er.we {α:Type} {o:Out α} {Q:α→HD→Prop} {R:Str→List (Str×D)→HD→Prop} (e:Er o h n) (k:∀h',Sm h h'→R n [] h'):We o Q R:=We.mono e (fun _ _ z=>z.elim) fun n' fs h' z1_=>by obtain ⟨rfl,rfl,s⟩:=z1_;exact k h' s
theorem Kv {N:Nat} {g:MS} {ds:List D} {R:Str→List (Str×D)→HD→Prop}:We (AL N g ds h) Q R=We (g (ds.map some++List.replicate (N - ds.length) none) h) (GY Q) R:=by
 unfold AL;cases o:g (ds.map some++List.replicate (N - ds.length) none) h with
 |ok a h1=>obtain ⟨fl,ρ⟩:=a;cases fl<;>rfl
 |err C fs h1=>cases C<;>rfl
 |stuck=>rfl
section
variable {ρ:Ag} {h:HD} {Q:Fl×Ag→HD→Prop} {QD:D→HD→Prop} {QB:Bool→HD→Prop} {R:Str→List (Str×D)→HD→Prop} {g g1 g2:MS} {f:ME} {t:MT} {fa:MA} {F:List D→HD→Out D}
def Na (g2:MS) (Q:Fl×Ag→HD→Prop) (R:Str→List (Str×D)→HD→Prop):Fl×Ag→HD→Prop
 |(.nx,ρ),h=>We (g2 ρ h) Q R
 |y,h=>Q y h
@[simp] theorem Zfn:Na g2 Q R (.nx,ρ) h=We (g2 ρ h) Q R:=rfl
@[simp] theorem Zfo {d:D}:Na g2 Q R (.rt d,ρ) h=Q (.rt d,ρ) h:=rfl
@[simp] theorem Zfp:We (Ai g1 g2 ρ h) Q R=We (g1 ρ h) (Na g2 Q R) R:=by
  unfold Ai;rw [DG]
  congr 1
  funext x h1;obtain ⟨fl,ρ1⟩:=x;cases fl<;>rfl
@[simp] theorem Zfq:We (Bd ρ h) Q R=Q (.nx,ρ) h:=rfl
@[simp] theorem Zfr:We (Cs f ρ h) Q R=We (f ρ h) (fun _ h1=>Q (.nx,ρ) h1) R:=by unfold Cs;rw [DG];rfl
@[simp] theorem Zfs:We (AE f ρ h) Q R=We (f ρ h) (fun d h1=>Q (.rt d,ρ) h1) R:=by unfold AE;rw [DG];rfl
@[simp] theorem Zft {i:Nat}:We (As i f ρ h) Q R=We (f ρ h) (fun d h1=>Q (.nx,ρ.set i (some d)) h1) R:=by unfold As;rw [DG];rfl
@[simp] theorem Zfu:We (A5 t g1 g2 ρ h) Q R=We (t ρ h) (fun b h1=>We (if b=true then g1 ρ h1 else g2 ρ h1) Q R) R:=by unfold A5;rw [DG]
@[simp] theorem Zfv:We (Af F fa ρ h) QD R=We (fa ρ h) (fun ds h1=>We (F ds h1) QD R) R:=by unfold Af;rw [DG]
@[simp] theorem Zfw {n:Str}:We (Il n fa ρ h) Q R=We (fa ρ h) (fun xs h1=>We (if xs.length≤sizeLine then (.err (E1 n) [] h1:Out (Fl×Ag)) else .stuck) Q R) R:=by unfold Il;rw [DG]
@[simp] theorem Zfx:We (BG t ρ h) QB R=We (t ρ h) (fun b h1=>QB (!b) h1) R:=by unfold BG;rw [DG];rfl
@[simp] theorem Zfy:We (Bz f ρ h) QB R=We (f ρ h) (fun x h1=>We (D9 x h1) QB R) R:=by unfold Bz;rw [DG]
@[simp] theorem Zfz {QA:List D→HD→Prop}:We (Ac ρ h) QA R=QA [] h:=rfl
@[simp] theorem ZfA {QA:List D→HD→Prop}:We (Aa f fa ρ h) QA R=We (f ρ h) (fun x h1=>We (fa ρ h1) (fun xs h2=>QA (x::xs) h2) R) R:=by unfold Aa;simp only [DG];rfl
@[simp] theorem ZfB {d:D} {r:Ag}:We (Ab 0 (some d::r) h) QD R=QD d h:=rfl
@[simp] theorem ZfC {i:Nat} {x:Option D} {r:Ag}:We (Ab (i+1) (x::r) h) QD R=We (Ab i r h) QD R:=rfl
@[simp] theorem ZfD {d:D}:We (mC d ρ h) QD R=QD d h:=rfl
end
def Et {α:Type} (o:Out α) (h:HD) (n:Str) (fs:List (Str×D)):Prop:=We o (fun _ _=>False) fun n' fs' h'=>n'=n∧fs'=fs∧Sm h h'
theorem Et.we {α:Type} {o:Out α} {fs:List (Str×D)} {Q:α→HD→Prop} {R:Str→List (Str×D)→HD→Prop} (e:Et o h n fs) (k:∀h',Sm h h'→R n fs h'):We o Q R:=We.mono e (fun _ _ z=>z.elim) fun n' fs h' z1_=>by obtain ⟨rfl,rfl,s⟩:=z1_;exact k h' s
theorem Z3 {j:Nat} {cs:List Nat} {f:ME} {ds:List D} {Q:D→HD→Prop} (ht:h[j]?=some (.tabn g)) (hd:Az (cs.map fun j=>(ρ[j]?).join)=some ds)
 (q:We (f (ds.map some) h) (fun _ h1=>Q (.str "told") h1) fun n fs h1=>n∈excNames∧∃is,Ek fs=some is∧Wp (Fk [.exc n is] h1) Q):Wp (Gn j g cs Fk f ρ h) Q:=by
 unfold Gn;rw [ht,hd];simp only [if_true];unfold M6;cases o:f (ds.map some) h with
 |ok a h1=>rw [o] at q;exact q
 |stuck=>rw [o] at q;exact q.elim
 |err C fs h1=>
  rw [o] at q;cases C with
  |str n t=>
   obtain ⟨hn,is,hi,hk⟩:=(show n∈excNames∧∃is,Ek fs=some is∧Wp (Fk [.exc n is] h1) Q from q)
   simp only [hn,if_true,hi];cases e:Fk [.exc n is] h1 with
   |ok d h2=>rw [e] at hk;exact hk
   |_=>rw [e] at hk;exact hk.elim
  |_=>exact q.elim
theorem Z4 {cs:List Nat} {f:ME} {ds:List D} {Q:D→HD→Prop} (ht:h[0]?=some .tab) (hd:Az (cs.map fun j=>(ρ[j]?).join)=some ds)
 (q:We (f (ds.map some) h) (fun _ h1=>Q (.str "told") h1) fun n fs h1=>n∈excNames∧∃is,Ek fs=some is∧Wp (Fk [.exc n is] h1) Q):Wp (He cs Fk f ρ h) Q:=Z3 ht hd q
theorem QF {L:Nat}:∀{ts:List Str},(∀t∈ts,t.length≤L)→piled ts≤ts.length*(L+2)
 |[],_=>by simp [piled]
 |t::ts,h=>by have h1:=h t AK;have h2:=QF (fun x hx=>h x (AN _ hx)) (ts:=ts) (L:=L);simp only [piled] at *;simp [HG];omega
theorem Nb:∀{ps:List PyData},(PyData.shownAll ps).length=ps.length
 |[]=>rfl
 |p::ps=>by simp [PyData.shownAll,Nb (ps:=ps)]
section
variable {h:HD} {i j:Int} {ds:List D} {a b:D} {l:Nat} {x y:Str}
@[simp] theorem ZfE:BU (.str x) (.str y) h=.ok (.bl (!(x==y))) h:=rfl
@[simp] theorem ZfF:CK (.str x) (.str y) h=.ok (.bl (x==y)) h:=rfl
@[simp] theorem ZfG:BU (.int i) (.int j) h=.ok (.bl (!(i==j))) h:=rfl
@[simp] theorem Nd:CK (.int i) (.int j) h=.ok (.bl (i==j)) h:=rfl
@[simp] theorem ZfH {c d:Bool}:BU (.bl c) (.bl d) h=.ok (.bl (!(c==d))) h:=rfl
@[simp] theorem ZfI {c d:Bool}:CK (.bl c) (.bl d) h=.ok (.bl (c==d)) h:=rfl
@[simp] theorem ZfJ {es:List D}:BU (.tup ds) (.tup es) h=Fz (.tup ds) (.tup es) h:=rfl
@[simp] theorem ZfK {es:List D}:CK (.tup ds) (.tup es) h=Ga (.tup ds) (.tup es) h:=rfl
@[simp] theorem ZfL:Ce (.int i) (.int j) h=Do (.int i) (.int j) h:=rfl
@[simp] theorem Z5:Ce (.loc l) b h=Do (.loc l) b h:=rfl
@[simp] theorem ZfM:AG (.int i) b h=Bo (.int i) b h:=rfl
@[simp] theorem ZfN {c:Bool}:AG (.bl c) b h=Bo (.bl c) b h:=rfl
@[simp] theorem ZfO:AG .non b h=Bo .non b h:=rfl
@[simp] theorem ZfP:AG (.str x) b h=Bo (.str x) b h:=rfl
@[simp] theorem ZfQ:AG (.tup ds) b h=Bo (.tup ds) b h:=rfl
@[simp] theorem Iw:AG (.loc l) b h=Bo (.loc l) b h:=rfl
@[simp] theorem ZfR {c:Bool}:Bo (.bl c) (.ty "int") h=.ok (.bl true) h:=rfl
@[simp] theorem ZfS {c:Bool}:Bo (.bl c) (.ty "bool") h=.ok (.bl true) h:=rfl
@[simp] theorem ZfT {c:Bool}:Bo (.bl c) (.ty "tuple") h=.ok (.bl false) h:=rfl
@[simp] theorem ZfU:Bo .non (.ty "int") h=.ok (.bl false) h:=rfl
@[simp] theorem ZfV:Bo .non (.ty "tuple") h=.ok (.bl false) h:=rfl
@[simp] theorem ZfW:Bo (.str x) (.ty "int") h=.ok (.bl false) h:=rfl
@[simp] theorem ZfX:Bo (.str x) (.ty "tuple") h=.ok (.bl false) h:=rfl
theorem QG (e:h[l]?=some (.lst ds)):Bo (.loc l) (.ty "int") h=.ok (.bl false) h:=by simp only [Bo,Dm,e];rfl
theorem Z6 (e:h[l]?=some (.lst ds)):Bo (.loc l) (.ty "tuple") h=.ok (.bl false) h:=by simp only [Bo,Dm,e];rfl
@[simp] theorem ZfY:AG .edic (.ty "int") h=.ok (.bl false) h:=rfl
@[simp] theorem ZfZ:AG .edic (.ty "tuple") h=.ok (.bl false) h:=rfl
theorem Em {fs:List (Str×Int)} (h1:n∈excNames) (h2:n'∈excNames):AG (.exc n fs) (.glo n') h=.ok (.bl (BE n n')) h:=if_pos ⟨h1,h2⟩
theorem Z7 {fs:List (Str×Int)} (h1:n∈excNames):AG (.exc n fs) (.ty "ValueError") h=.ok (.bl true) h:=if_pos ⟨h1,rfl⟩
@[simp] theorem Zf0 {ρ:Ag} {c d:D} {i j k l:Nat}:E4 [i,j,k,l] (.tup [a,b,c,d]) ρ=some ((((ρ.set i (some a)).set j (some b)).set k (some c)).set l (some d)):=rfl
theorem Z8 (hz:x.length+y.length≤1000):Am (.str x) (.str y) h=.ok (.str (x++y)) h:=by simp only [Am];rw [if_pos (by unfold sizeLine;omega)]
theorem Ck {k:Nat} (e1:h[l]?=some (.lst xs)) (e2:h[k]?=some (.lst ys)):Am (.loc l) (.loc k) h=BJ (xs++ys) h:=by simp only [Am,e1,e2]
theorem Z9 (e:h[l]?=some (.lst ds)) (e1:Az (ds.map Cj)=some vs) (e2:Cj a=some w):Gk (.loc l) a h=.ok (.int (Hc w vs)) h:=by simp only [Gk,Cb,e,Out.bind_ok,Ir,Bx,e1,e2]
theorem Zaa {j:Nat} (e:h[l]?=some (.lst ds)) (e1:Az (ds.map Cj)=some vs) (e2:Cj a=some w) (e3:Ks w vs=some j):Gm (.loc l) a h=.ok (.int j) h:=by simp only [Gm,e,e1,e2,e3]
@[simp] theorem Zf1 {chk:D→HD→Out D} {op:D→D→HD→Out D} {f g:ME} {ρ:Ag} {Q:D→HD→Prop}:Wp (Ei chk op f g ρ h) Q=Wp (f ρ h) fun x h1=>Wp (chk x h1) fun x h2=>Wp (g ρ h2) fun y h3=>Wp (op x y h3) Q:=by unfold Ei;simp only [AA]
@[simp] theorem sz7:(7≤sizeLine)=True:=eq_true (by unfold sizeLine;omega)
@[simp] theorem sz8:(8≤sizeLine)=True:=eq_true (by unfold sizeLine;omega)
@[simp] theorem sz9:(9≤sizeLine)=True:=eq_true (by unfold sizeLine;omega)
@[simp] theorem Zf2:(10≤sizeLine)=True:=eq_true (by unfold sizeLine;omega)
theorem QH {k:Nat} (hne:ds≠[]) (hz:ds.length*k≤1000) (hk:1<k:=by decide):Ce (.tup ds) (.int (k:Nat)) h=.ok (.tup (List.replicate k ds).flatten) h:=by
 simp only [Ce];have h1:k≤1000:=by
  have:1≤ds.length:=by
   cases ds with
   |nil=>exact absurd rfl hne
   |cons _ _=>simp
  have:=LL k this;omega
 rw [if_pos ⟨hne,by omega,by omega,by simp;unfold sizeLine;omega⟩];simp
end
section
variable {ρ:Ag} {h:HD} {Q:Str→HD→Prop} {R:Str→List (Str×D)→HD→Prop} {acc y:Str} {r:MJ} {f:ME} {n:Nat} {i:Int}
end
end LS
namespace LS
open PySem PySem.Spec PyProof.Rows L2 PySem.W
section
variable {X:Cx} {E:XK}
def listOfD:D→HD→Out D:=fun x h=>match Bx x h with
 |some ds=>BJ ds h
 |none=>.stuck
theorem Zab:Cr X (.type "list") (An listOfD):=by
 refine ⟨_,WD,fun m H h E ds vs Q hr r q=>EO r q fun d v ev rv q=>?_⟩;unfold listOfD at q;split at q
 ·rename_i ds' e;obtain ⟨p,ws,rfl,hs,dv⟩:=HZ hr rv e;exact ⟨p,ws,ev,hs,(Fy hr dv q).2⟩
 ·exact q.elim
theorem Zac:Ev X E (.Dict [] [] pos) (mC .edic):=fun pins s σ H Q I z1_=>by
 obtain ⟨m,ρ,h,hr,er,p⟩:=z1_;have hf:H s.heap.objs.size=none:=I.hok.fresh (Ax _);refine wpAny_Dict_empty ⟨.ref s.heap.objs.size,Aq H s.heap.objs.size (.ext (JP s.heap.objs.size)),I.laid (t':=s.toks) (fun _ _ q=>Aw _ q) (Ax _) ?_,rfl,?_⟩
 ·have ne:s.heap.objs.size≠sysModules:=by obtain ⟨og,_,_,eg,_⟩:=I.ok.mod.glob;obtain ⟨ml,⟨ol,_,_,el,_⟩,_⟩:=I.loc;have h1:(3:Nat)<X.base.objs.size:=AC eg;have h2:(X.env.locals:Nat)<s.heap.objs.size:=AC el;have h3:X.base.objs.size≤X.s₀.heap.objs.size:=I.ok.bsz;have h4:X.s₀.heap.objs.size≤(X.env.locals:Nat):=I.ok.above;have h5:(1:Nat)<s.heap.objs.size:=AU (AU (show 1<4 by decide) h1) (Br h3 (Br h4 (EH h2)));exact fun z=>BS h5 z
  exact ⟨⟨ne,_,_,Bc _ rfl,⟨rfl,rfl,rfl⟩,rfl⟩,⟨_,Bc _ rfl⟩,fun h1 h2 z2_ k=>by obtain ⟨ne,o,ep,z1,z2⟩:=z2_;exact (⟨ne,o,ep,k o z1,z2⟩)⟩
 ·exact p (.ref s.heap.objs.size) m _ (Ay _) (.new hf) (hr.new hf) (by simp only [rD,DV];exact ⟨_,rfl,B0⟩)
theorem CaE.mono {K:Frag} {j k:Nat} (C:CaE P w K mg base x j F) (h:j≤k):CaE P w K mg base x k F:=by obtain ⟨f,fd,ps,G,r⟩:=C.ex;exact ⟨f,fd,ps,G.mono h,r⟩
end
section
variable {prog:Program} {w:World} {A:Around} {E:Str→Value→Shared→Prop}
end
section
variable {X:Cx} {E:XK}
def Zad (K:PySem.W.Frag):V→Option Int→Option Int→Hp→VK→Prop:=fun x lo hi H Q=>∃a xs,x=.ref a∧SqT K H a xs∧HT.sIx xs.length 0 lo=0∧HT.sIx xs.length xs.length hi=xs.length∧Q (.ref a) H
theorem sl_whole:SlR X (Zad X.K):=by
 rintro pins s σ H x v vl vu lo hi sl Q I rx hs pl pu ⟨a,xs,rfl,hx,w0,w1,q⟩;cases rx;obtain ⟨its,r,ht,hz⟩:=I.tuple hx;have hl:its.toArray.size=xs.length:=by rw [AY];exact r.length.symm
 rw [←hl] at w0 w1;obtain ⟨os,hos,hcs,hds⟩:=id hs;refine ⟨"tuple",_,slot_tuple_getitem.lookup,ht.typeIs,?_⟩;unfold getItem
 try with_reducible refine Ci ?_
 first |refine Ad (Ak ?_) |skip
 refine Ad (wpAny_sequenceKey ht.typeIs (by decide) (Ad (wpAny_callSpecial?_slot (name:=Str.ofString "__getitem__") ht.typeIs slot_tuple_getitem
  (wpAny_call_entry slot_tuple_getitem ht.typeIs entry_tuple_getitem ?_ (args_tuple_getitem _ _)))))
 show wpAny _ _ (Builtin.Tuple.tupleItemsOf (.ref a) >>=_) _ _ s
 refine Ad (tupleItemsOf_ ht (Ad (wpAny_typeOf (show s.TypeIs (.ref sl) "slice" from ⟨os,hos,hcs⟩) ?_)));rw [if_pos (by decide)];refine Ad (HT.sliceApplied_gen hs pl pu ?_);have hy:(((HT.sIx its.toArray.size 0 lo:Nat):Int)==0&&(1:Int)==1&&(HT.sIx its.toArray.size its.toArray.size hi - HT.sIx its.toArray.size 0 lo)==its.toArray.size)=true:=by rw [w0,w1];simp
 show wpAny _ _ (if (((HT.sIx its.toArray.size 0 lo:Nat):Int)==0&&(1:Int)==1&&(HT.sIx its.toArray.size its.toArray.size hi - HT.sIx its.toArray.size 0 lo)==its.toArray.size)=true then _ else _) _ _ s
 rw [if_pos hy];unfold Builtin.Tuple.tupleIsExact;refine Ad (Ad (wpAny_typeOf ht.typeIs (Ak ?_)));rw [if_pos (by decide)];refine Ad (wpAny_rule ?_);have AJ:EP X pins σ Q (.ref a) s:=⟨.ref a,H,I,rfl,q⟩
 first
  |exact Ak ⟨_,rfl,Ak AJ⟩
  |exact Ak AJ
def Cm (x:D) (lo hi:Option Int) (h:HD):Out D:=match x with
 |.tup xs=>.ok (.tup (cutD xs lo hi)) h
 |_=>.stuck
def BL (f:ME) (lo hi:MO):ME:=fun ρ h=>(f ρ h).bind fun x h1=>(lo ρ h1).bind fun l h2=>(hi ρ h2).bind fun u h3=>Cm x l u h3
theorem Zae {α:Type} {xs:List α} {lo hi:Option Int} (h0:HT.sIx xs.length 0 lo=0) (h1:HT.sIx xs.length xs.length hi=xs.length):(xs.drop (HT.sIx xs.length 0 lo)).take (HT.sIx xs.length xs.length hi - HT.sIx xs.length 0 lo)=xs:=by rw [h0,h1];simp
theorem Zaf {lo hi:Option Expr} {fl fh:MO} (he:Ev X E e f) (hl:G7 X E lo fl) (hu:G7 X E hi fh):Ev X E (.Subscript e (.Slice lo hi none p2) pos) (BL f fl fh):=
 BI (OV (sl_whole.or Wn) he hl hu) fun σ H Q ⟨m,ρ,h,hr,er,p⟩=>⟨m,ρ,h,hr,er,Post.bind p fun x h1 v m1 H1 eo1 p1 k1 hr1 r1 q1=>
  ⟨m1,ρ,h1,hr1,er.keep p1 k1,Post.bind q1 fun l h2 l' m2 H2 eo2 p2 k2 hr2 r2 q2=>
   ⟨m2,ρ,h2,hr2,(er.keep p1 k1).keep p2 k2,Post.bind q2 fun u h3 u' m3 H3 eo3 p3 k3 hr3 r3 q3=>by
    clear eo1 eo2 eo3;subst r2 r3;have rx:=DV.keep p3 k3 (DV.keep p2 k2 r1);unfold Cm at q3;split at q3
    ·rename_i xs;have rx0:=rx;simp only [DV] at rx;obtain ⟨a,vs,rfl,ha,dv⟩:=rx
     by_cases hz:HT.sIx xs.length 0 l=0∧HT.sIx xs.length xs.length u=xs.length
     ·refine .inl ⟨a,vs,rfl,tq ha,by rw [←dv.len];exact hz.1,by rw [←dv.len];exact hz.2,?_⟩;have e:cutD xs l u=xs:=Zae hz.1 hz.2;rw [e] at q3;exact q3 (.ref a) m3 H3 (Ay _) (.refl _) hr3 rx0
     ·rw [dv.len] at hz;exact .inr ⟨a,vs,rfl,tq ha,hz,F6 hr3 (dv.cut l u) q3⟩
    ·exact q3.elim⟩⟩⟩
theorem Nf {xs:List D} {k:Nat} (hk:k≤xs.length):Cm (.tup xs) none (some (k:Int)) h=.ok (.tup (xs.take k)) h:=by simp only [Cm];unfold cutD;rw [HT.sIx_nat,HT.sIx_none,Jz,show min k xs.length - 0=k from by omega]
theorem Ng {xs:List D} {k:Nat} {i:Int} (hi:i=((k+1:Nat):Int)) (hk:k<xs.length):Cm (.tup xs) (some i) none h=.ok (.tup (xs.drop (k+1))) h:=by
 subst hi;simp only [Cm];unfold cutD;rw [HT.sIx_nat,HT.sIx_none,show min (k+1) xs.length=k+1 from by omega]
 congr 2
 exact Hu (by simp)
theorem Zag {xs:List D} (hk:1≤xs.length):Cm (.tup xs) none (some (-1)) h=.ok (.tup (xs.take (xs.length - 1))) h:=by
 have e:HT.sIx xs.length xs.length (some (-1))=xs.length - 1:=by simp only [HT.sIx];rw [if_pos (by decide)];omega
 simp only [Cm];unfold cutD;rw [e,HT.sIx_none,Jz,Nat.sub_zero]
end
section
variable {f:ME} {lo hi:MO} {ρ:Ag} {h:HD} {Q:D→HD→Prop}
@[simp] theorem Zf3:Wp (BL f lo hi ρ h) Q=Wp (f ρ h) fun x h1=>Wp (lo ρ h1) fun l h2=>Wp (hi ρ h2) fun u h3=>Wp (Cm x l u h3) Q:=by unfold BL;simp only [AA]
end
section
variable {K:Frag} {mg:Str→Option Value} {h:Heap}
theorem SaidD.of {st:Stmt} (d:Dn K mg "_law_said" ["_law_call"] st f fd):SaidD K mg st f fd:=⟨d.fn,d.bd,d.mg⟩
end
open AutoSeq1 (wpAny_loadPart')
section
variable {prog:Program} {w:World} {A:Around} {E:Value→Shared→Prop} {s:Shared}
end
section
variable {X:Cx} {E:XK}
end
end LS
namespace LS
open PySem PySem.Spec PyProof.Rows L2 PySem.W
section
variable {X:Cx} {E:XK}
mutual
def Zah:PyData→Bool
 |.list _=>false
 |.tuple xs=>QJ xs
 |_=>true
def QJ:List PyData→Bool
 |[]=>true
 |x::xs=>Zah x&&QJ xs
end
def B1 (h:HD):Nat→D→Option PyData
 |_,.non=>some .none
 |_,.bl b=>some (.bool b)
 |_,.int i=>some (.int i)
 |_,.str x=>some (.str x)
 |_,.edic=>some (.dict [])
 |n+1,.tup ds=>(Az (ds.map (B1 h n))).map .tuple
 |n+1,.loc l=>match h[l]? with
  |some (.lst ds)=>(Az (ds.map (B1 h n))).map .list
  |_=>none
 |_,_=>none
variable {pins:List (Addr×Obj)} {σ:L2.St} {H:Hp} {s:Shared} {m:List Addr} {h:HD}
end
end LS
namespace HT
open PySem PyProof.Rows
section
open PySem.SeqAt
open PySem.AutoSeq1 (wpAny_loadPart')
open PySem.MeetsSeq PySem.MeetsSeq2 PySem.MeetsSeq3
end
section
variable {prog:Program} {w:World} {A:Around} {E:Value→Shared→Prop} {s:Shared}
end
end HT
namespace L2
open PySem PySem.Spec PyProof.Rows
section
variable {X:Cx}
end
end L2
namespace LS
open PySem PySem.Spec PyProof.Rows L2
section
variable {X:Cx} {E:XK}
end
section
variable {prog:Program} {w:World} {A:Around} {E:Value→Shared→Prop} {s:Shared}
theorem Zai {n:Nat} {tk:Tok} {Q:Int×Int×Nat→Shared→Prop} (hs:s.heap.IsSliceOf sl .none .none (.int (-1) tk)) (h:Q ((n:Int) - 1,-1,n) s):wpAny (model prog w) A (Builtin.Slice.sliceApplied (.ref sl) (pure ((n:Nat):Int))) Q E s:=by
 obtain ⟨os,hos,hcs,hds⟩:=id hs;unfold Builtin.Slice.sliceApplied Builtin.Slice.sliceFields;refine Ad (Ad (wpAny_field hos hds (x:=.none) rfl (Ad (wpAny_field hos hds (x:=.none) rfl (Ad (wpAny_field hos hds (x:=.int (-1) tk) rfl (Ak ?_)))))));refine Ad (slicePart_int ?_)
 show wpAny _ _ (if ((-1:Int)==0)=true then _ else _) _ _ s
 rw [if_neg (by decide)];refine Ad (slicePart_none (Ad (slicePart_none (Ad (Ak ?_)))));refine Ak ?_;have e1:Builtin.Slice.slicePlaces ((n:Int) - 1) (-1) (-1)=n:=by unfold Builtin.Slice.slicePlaces;simp;omega
 have e2:Builtin.Slice.sliceAdjust none none (-1) (n:Int)=((n:Int) - 1,-1):=by rfl
 show Q ((Builtin.Slice.sliceAdjust none none (-1) (n:Int)).1,-1,Builtin.Slice.slicePlaces (Builtin.Slice.sliceAdjust none none (-1) (n:Int)).1 (Builtin.Slice.sliceAdjust none none (-1) (n:Int)).2 (-1)) s
 rw [e2]
 show Q ((n:Int) - 1,-1,Builtin.Slice.slicePlaces ((n:Int) - 1) (-1) (-1)) s
 rw [e1];exact h
theorem QK {α β:Type} {f g:α→Option β}:∀{l:List α},(∀x∈l,f x=g x)→l.filterMap f=l.filterMap g
 |[],_=>rfl
 |x::xs,h=>by rw [ED,ED,h x AK,QK fun y hy=>h y (AN _ hy)]
theorem Kw {vs:List Value}:((List.range vs.toArray.size).filterMap fun (m:Nat)=>vs.toArray[(((vs.toArray.size:Nat):Int) - 1+(m:Int)*(-1)).toNat]?).toArray=vs.reverse.toArray:=by
 have e:(List.range vs.toArray.size).filterMap (fun (m:Nat)=>vs.toArray[(((vs.toArray.size:Nat):Int) - 1+(m:Int)*(-1)).toNat]?)=((List.range vs.toArray.size).map fun k=>vs.toArray.size - 1 - k).filterMap (vs.toArray[·]?):=by
  rw [List.filterMap_map];refine QK fun m hm=>?_;have:=qaZ.mp hm
  show vs.toArray[_]?=vs.toArray[vs.toArray.size - 1 - m]?
  congr 1
  omega
 rw [e,PySem.W.krv_range,List.filterMap_reverse,PySem.W.krv_all]
theorem Zaj {vs:List Value} {tk:Tok} {Q:Value→Shared→Prop} (ht:IsTup s.heap t vs.toArray) (hs:s.heap.IsSliceOf sl .none .none (.int (-1) tk)) (hn:vs.length≤sizeLine)
 (h:Q (.ref s.heap.objs.size) {s with heap:=s.heap.push {cls:=.type "tuple",data:=.seq vs.reverse.toArray}}):wpAny (model prog w) A (getItem (.ref t) (.ref sl)) Q E s:=by
 obtain ⟨os,hos,hcs,hds⟩:=id hs;have hTs:s.TypeIs (.ref sl) "slice":=⟨os,hos,hcs⟩
 unfold getItem
 try with_reducible refine Ci ?_
 first |refine Ad (Ak ?_) |skip
 refine Ad (wpAny_sequenceKey ht.typeIs (by decide) ?_);refine Ad (wpAny_callSpecial?_slot (name:=Str.ofString "__getitem__") ht.typeIs PyProof.Rows.slot_tuple_getitem
  (wpAny_call_entry PyProof.Rows.slot_tuple_getitem ht.typeIs entry_tuple_getitem ?_ (args_tuple_getitem _ _)))
 show wpAny _ _ (Builtin.Tuple.tupleItemsOf (.ref t) >>=_) _ _ s
 refine Ad (tupleItemsOf_ ht ?_);refine Ad (wpAny_typeOf hTs ?_);rw [if_pos (by decide)];refine Ad (Zai (n:=vs.toArray.size) hs ?_)
 show wpAny _ _ (if ((((vs.toArray.size:Nat):Int) - 1)==0&&(-1:Int)==1&&vs.toArray.size==vs.toArray.size)=true then _ else _) _ _ s
 rw [if_neg (by rw [show ((-1:Int)==1)=false from rfl,Bool.and_false,Jy];exact Bj)];have hz:sizeOk (.seq vs.reverse.toArray):=by show vs.reverse.toArray.size≤sizeLine;simpa using hn
 first
  |(rw [Kw];exact Ad (m:=Builtin.Tuple.tupleExact _) (CC (Ak ⟨_,rfl,Ak h⟩) hz))
  |(rw [Kw];exact Ad (m:=Builtin.Tuple.tupleExact _) (CC (Ad (Ak (Ak ⟨_,rfl,Ak h⟩))) hz))
  |(rw [Kw];exact Ad (Ad (m:=Builtin.Tuple.tupleExact _) (CC (Ak (Ak ⟨_,rfl,Ak h⟩)) hz)))
  |(rw [Kw];exact Ad (Ad (m:=Builtin.Tuple.tupleExact _) (CC (Ak ⟨_,rfl,Ak h⟩) hz)))
end
section
variable {X:Cx} {E:XK} {e:Expr} {f:ME}
def Kx:D→HD→Out D:=fun x h=>match x with
 |.tup ds=>.ok (.tup ds.reverse) h
 |_=>.stuck
def Kz (f:ME):ME:=fun ρ h=>(f ρ h).bind Kx
theorem DVs.rev {K:PySem.W.Frag}:∀{ds:List D} {vs:List V},DVs K m H ds vs→DVs K m H ds.reverse vs.reverse
 |[],vs,r=>by simp only [DVs] at r;subst r;exact .nil
 |d::ds,vs,r=>by simp only [DVs] at r;obtain ⟨v,w,rfl,rv,rw'⟩:=r;rw [Jo,Jo];exact (DVs.rev rw').app (.cons rv .nil)
theorem QL {vs:List V} {us:List Value} (r:Vals vs us):Vals vs.reverse us.reverse:=r.reverse
theorem Zak {j:Nat} (he:Ev X E e f):Ev X E (.Subscript e (.Slice none none (some (.UnaryOp .USub (.Constant (.int 1) j p1) p2)) p3) pos) (Kz f):=by
 rintro pins s σ H Q I ⟨m,ρ,h,hr,er,p⟩;have p':tD X.K E f σ H fun v H1=>∃t xs,v=.ref t∧SqT X.K H1 t xs∧∀q,H1 q=none→Q (.ref q) (Aq H1 q (.tup xs.reverse)):=⟨m,ρ,h,hr,er,Post.bind p fun x h1 v m1 H1 eo p1 k1 hr1 r1 q1=>by
  clear eo;unfold Kx at q1;split at q1
  ·simp only [rD,DV] at r1;obtain ⟨t,vs,rfl,ht,dv⟩:=r1;exact ⟨t,vs,rfl,tq ht,F6 hr1 (DVs.rev dv) q1⟩
  ·exact q1.elim⟩
 refine Subscript_ (Au (he pins s σ H _ I p') fun v s1 z1_=>?_);obtain ⟨x,H1,I1,r1,t,xs,ex,hq,q1⟩:=z1_;subst ex;cases r1;refine wpAny_Slice ?_;rw [evalPart_none,evalPart_some];refine Ak (Ak ?_);have st:PE X (.UnaryOp .USub (.Constant (.int 1) j p1) p2) (L4 (rU fun i=>.int (-i)) (tC (.int 1))):=L6 L7 LP;refine Au (st pins s1 σ H1 (fun v H3=>v=.int (-1)∧H3=H1) I1 ⟨1,rfl,rfl,rfl⟩) fun sv s3 z2_=>?_;obtain ⟨x,H3,I3,r3,ex,eH⟩:=z2_;subst ex eH;obtain ⟨tk,rfl⟩:=r3;obtain ⟨its,rv,pl,hz⟩:=I3.tuple hq;have I4:Inv X pins σ H3 {s3 with heap:=s3.heap.push {cls:=.type "slice",data:=.fields #[.none,.none,.int (-1) tk]}}:=I3.kept (t':=s3.toks) fun b ob q=>Aw _ q;have pl4:IsTup (s3.heap.push {cls:=.type "slice",data:=.fields #[.none,.none,.int (-1) tk]}) t its.toArray:=by obtain ⟨o,ho,r⟩:=pl;exact ⟨o,Aw _ ho,r⟩
 have hsl:(s3.heap.push {cls:=.type "slice",data:=.fields #[.none,.none,.int (-1) tk]}).IsSliceOf s3.heap.objs.size .none .none (.int (-1) tk):=Heap.IsSliceOf.new ..
 show wpAny (model X.prog X.w) X.A (subscriptTail e (.Slice none none (some (.UnaryOp .USub (.Constant (.int 1) j p1) p2)) p3) (.ref t) (.ref s3.heap.objs.size)) (EP X pins σ Q) X.xe {s3 with heap:=s3.heap.push {cls:=.type "slice",data:=.fields #[.none,.none,.int (-1) tk]}}
 refine tail_any (ops:=[.ref t,.ref s3.heap.objs.size]) (T:="tuple") pl4.typeIs PyProof.Rows.slot_tuple_getitem.lookup (Zaj (s:={s3 with heap:=s3.heap.push {cls:=.type "slice",data:=.fields #[.none,.none,.int (-1) tk]}}) pl4 hsl (by rw [←rv.length];exact hz) ?_) (by with_unfolding_all rfl);refine ⟨.ref _,_,I4.laid (t':=s3.toks) (o:=.tup xs.reverse) (fun b ob q=>Aw _ q) (Ax _) ?_,rfl,q1 _ (I4.hok.fresh (Ax _))⟩;exact ⟨by rw [List.length_reverse];exact hz,its.reverse,QL rv,IsTup.new _ _,NoDict.new⟩
end
end LS
namespace LS
open PySem
section
variable {prog:Program} {w:World} {A:Around} {E:Value→Shared→Prop} {h:Heap} {g:Array GenState} {d:Drawn} {t:Nat} {os:OsState}
variable {nm q:Str} {C N:Addr} {bs bm bmB:List Value} {hdct:Bool} {sn:List Str} {sub:List Value} {ab:Bool} {col:Option Bool} {dd:Option Addr} {k0 k1 k2 k3 k5:Option Value} {B newId initId:String}
end
end LS
namespace LS
open PySem PySem.Spec PyProof.Rows L2
def CL (elt:Expr) (gens:List Comprehension) (scope:Scope) (pos:Pos) (d:Nat) (acc:Value) (env:Env):Sem Unit:=match gens[d+1]? with
 |some g=>eval g.iter env >>=fun x=>standAt g.iter.pos >>=fun _=>foldedSetIterable g.iter env x >>=fun y=>holding [y] (pyIter y) >>=fun it=>runOwn (.compStart (.ListComp elt gens scope pos) (d+1) it acc env) env >>=fun _=>pure ()
 |none=>eval elt env >>=fun x=>call (.builtin "list.append") [acc,x] >>=fun _=>pure ()
theorem Zal {elt tg iter:Expr} {gens:List Comprehension} {d:Nat} (hg:gens[d]?=some ⟨tg,iter,ifs,0⟩) (ha:∀g,gens[d+1]?=some g→g.is_async=0):
 compTurn (.ListComp elt gens scope pos) d it acc env=standAt iter.pos >>=fun _=>pyNext it >>=fun r=>match r with
  |none=>pure (.done .next)
  |some v=>letOwnedTupleGo tg it v >>=fun _=>assign tg env v >>=fun _=>(forIn ifs true fun c r=>if r=true then do let ok ←isTrue c env (eval c env);pure (ForInStep.yield ok) else pure (ForInStep.yield r)) >>=fun ok=>if ok=true then CL elt gens scope pos d acc env >>=fun _=>again (.compLoop (.ListComp elt gens scope pos) d it acc env) else again (.compLoop (.ListComp elt gens scope pos) d it acc env):=by
 unfold compTurn CL;simp only [hg];cases e:gens[d+1]? with
 |none=>rfl
 |some g=>obtain ⟨a,b,c,k⟩:=g;have:k=0:=ha _ e;subst this;simp only [bind_assoc,pure_bind];rfl
section
variable {prog:Program} {w:World} {A:Around} {R:Result→Shared→Prop} {s:Shared} {elt tg iter:Expr} {gens:List Comprehension} {ifs:List Expr} {scope:Scope} {pos:Pos} {d:Nat} {it acc:Value} {env:Env}
theorem Zam (hg:gens[d]?=some ⟨tg,iter,ifs,0⟩) (ha:∀g,gens[d+1]?=some g→g.is_async=0) (I:Nat→Shared→Prop)
 (turn:∀n s,I n s→wpAny (model prog w) A (pyNext it) (fun r s₁=>match r with
  |none=>R (.ok .next) s₁
  |some v=>wpAny (model prog w) A (letOwnedTupleGo tg it v) (fun _ s₁'=>wpAny (model prog w) A (assign tg env v) (fun _ s₂=>
   wpAny (model prog w) A (forIn ifs true fun c r=>if r=true then do let ok ←isTrue c env (eval c env);pure (ForInStep.yield ok) else pure (ForInStep.yield r)) (fun ok s₃=>if ok=true then wpAny (model prog w) A (CL elt gens scope pos d acc env) (fun _ s₅=>∃m,m<n∧I m s₅) (fun _ _=>False) s₃ else ∃m,m<n∧I m s₃) (fun _ _=>False) s₂) (fun _ _=>False) s₁') (fun _ _=>False) s₁) (fun _ _=>False) s)
 (n:Nat) (h:I n s):codeAny (model prog w) A (.compLoop (.ListComp elt gens scope pos) d it acc env) R s:=by
 refine codeAny_loop rfl I (fun n s hI=>?_) n h
 show wpAny _ A ((compTurn (.ListComp elt gens scope pos) d it acc env).onRaise (fun x=>do noteFrame x env;theTreesLotGoes x)) _ _ s
 refine wpAny_noted ?_;rw [Zal hg ha];refine Ad (wpAny_standAt (Ad (A1 (turn n s hI) (fun r s₁ h₁=>?_) fun _ _ h'=>h'.elim)));cases r with
 |none=>exact Ak h₁
 |some v=>
  refine Ad (A1 h₁ (fun _ s₁' h₁'=>?_) fun _ _ h'=>h'.elim);refine Ad (A1 h₁' (fun _ s₂ h₂=>Ad (A1 h₂ (fun ok s₃ h₃=>?_) fun _ _ h'=>h'.elim)) fun _ _ h'=>h'.elim);cases ok with
  |false=>exact Ak ⟨rfl,h₃⟩
  |true=>exact Ad (A1 h₃ (fun _ s₅ h₅=>Ak ⟨rfl,h₅⟩) fun _ _ h'=>h'.elim)
theorem QM (hg:gens[d]?=some ⟨tg,iter,ifs,0⟩)
 (h0:codeAny (model prog w) A (.compLoop (.ListComp elt gens scope pos) d it acc env) R s)
 (h:wpAny (model prog w) A (pyIter it) (fun it' s'=>codeAny (model prog w) A (.compLoop (.ListComp elt gens scope pos) d it' acc env) R s') (fun _ _=>False) s):
 codeAny (model prog w) A (.compStart (.ListComp elt gens scope pos) d it acc env) R s:=by
 refine codeAny_of_tree ?_
 show wpAny _ _ ((compStart (.ListComp elt gens scope pos) d it acc env).onRaise (fun x=>do noteFrame x env;standAt theWindowsPlace)) _ _ s
 refine wpAny_notedAt ?_;have hc:(clausesOf (.ListComp elt gens scope pos))[d]?=some ⟨tg,iter,ifs,0⟩:=hg;unfold compStart;rw [hc]
 show wpAny _ _ (ask >>=_) _ _ s
 refine Ad (wpAny_askSetting (wpAny_ite ?_));split
 ·first
   |exact Ad (Ak (Ak ⟨rfl,h0⟩))
   |exact Ak ⟨rfl,h0⟩
 ·refine Ad (wpAny_rule ?_)
  show wpAny _ _ (standAt iter.pos >>=_) _ _ s
  exact Ad (wpAny_standAt (Ad (A1 h (fun it' s' h'=>Ak ⟨rfl,h'⟩) fun _ _ x=>x.elim)))
end
abbrev Cn (its:List Value) (k:Nat):Obj:={cls:=.type "list",data:=.seq its.toArray k}
structure Gp (X:Cx) (D:Addr):Prop where
 lo:D≠X.env.locals
 ce:∀x c,X.env.cells.lookup x=some c→c≠D
 pn:∀p∈X.pn,p.1≠D
 ex:D∈X.ex
 fs:D∉X.fs
section
variable {X:Cx} {D:Addr} {its its':List Value} {k k':Nat} {rest:List (Addr×Obj)} {σ:L2.St} {H:Hp} {s:Shared} {h':Heap}
theorem Inv.repin (ao:Gp X D) (I:Inv X ((D,Cn its k)::rest) σ H s) (hr:∀p∈rest,p.1≠D) (sb:Heap.SameBut D s.heap h') (e:h'.get? D=some (Cn its' k')):Inv X ((D,Cn its' k')::rest) σ H {s with heap:=h'}:=by
 have hD:=(I.pin _ (BF _ AK)).2.1;have I1:Inv X rest σ H s:=I.pins_of fun p hp=>I.pin p (BF _ (AN _ hp));have I2:Inv X rest σ H {s with heap:=h'}:=I1.turned (t':=s.toks) (it:=D) (fun b o hb e=>(sb.2 b hb).trans e) hD ao.lo (.inl ao.ex) ao.ce fun p hp=>by
  rcases qaP.mp hp with z |z
  ·exact ao.pn p z
  ·exact hr p z
 refine I2.pins_of fun p hp=>?_;rcases qa5.mp hp with rfl |z
 ·exact ⟨e,hD,ao.lo,ao.fs,fun v z=>by cases z⟩
 ·exact I2.pin p (BF _ z)
def EM (X:Cx) (D:Addr) (em:Sem Unit) (te:L2.St→Hp→List V→(List V→Hp→Prop)→Prop):Prop:=
 ∀(rest:List (Addr×Obj)) (its:List Value) (k:Nat) (acc:List V) (σ:L2.St) (H:Hp) (s:Shared) (Q:List V→Hp→Prop),Inv X ((D,Cn its k)::rest) σ H s→(∀p∈rest,p.1≠D)→Vals acc its→te σ H acc Q→
  wpAny (model X.prog X.w) X.A em (fun _ s'=>∃its' k' acc' H',Inv X ((D,Cn its' k')::rest) σ H' s'∧Vals acc' its'∧Q acc' H') (fun _ _=>False) s
def QN (te:TE):L2.St→Hp→List V→(List V→Hp→Prop)→Prop:=fun σ H acc Q=>acc.length<sizeLine∧te σ H fun y H'=>Q (acc++[y]) H'
theorem Zan {gens:List Comprehension} {d:Nat} (ao:Gp X D) (xe:X.xe=fun _ _=>False) (hl:gens[d+1]?=none) (pe:PE X elt te):EM X D (CL elt gens scope pos d (.ref D) X.env) (QN te):=by rintro rest its k acc σ H s Q I hr rv ⟨hz,h⟩;unfold CL;rw [hl];have z:=pe _ s σ H _ I h;rw [xe] at z;refine Ad (A1 z (fun y s1 z1=>?_) fun _ _ z=>z.elim);obtain ⟨yv,H1,I1,r1,q1⟩:=z1;obtain ⟨ho,hD,_⟩:=I1.pin _ (BF _ AK);have hlen:=rv.length;refine Ad (wpAny_list_append_plain ⟨k,ho⟩ (fun h' z2 sb=>?_) (by rw [AY];omega));obtain ⟨k',hl'⟩:=z2;refine Ak ⟨its++[y],k',acc++[yv],H1,Inv.repin ao I1 hr sb (by rw [hl'];simp [Cn]),rv.append (.cons r1 .nil),q1⟩
theorem Zao {H':Hp} (f:CD X ((D,o)::rest) H b) (n:H' b=none):CD X ((D,o')::rest) H' b:=by
 obtain ⟨_,f1,f2,f3,f4,f5⟩:=f;refine ⟨n,f1,f2,f3,f4,fun p hp=>?_⟩;rcases qaP.mp hp with z |z
 ·exact f5 p (GC _ z)
 ·rcases qa5.mp z with rfl |z
  ·exact f5 (D,o) (BF _ AK)
  ·exact f5 p (BF _ (AN _ z))
def QP (wi:TI) (g:TG) (tc:TT) (te:L2.St→Hp→List V→(List V→Hp→Prop)→Prop):L2.St→Hp→List V→(List V→Hp→Prop)→Prop:=fun σ H acc Q=>wi σ H fun J H1=>∃W:Nat→Nat→List V→Hp→Prop,(∃n,W 0 n acc H1)∧∀i n acc H,W i n acc H→
 (J.stop i H∧Q acc H)∨
 (J.go i H∧∀x H',J.yld i H x H'→g x σ H' fun σ2 H2=>Sub σ σ2∧tc σ2 H2 fun b H3=>if b=true then te σ2 H3 acc fun acc' H4=>∃n',n' < n∧W (i+1) n' acc' H4 else ∃n',n' < n∧W (i+1) n' acc H3)
inductive Nh (X:Cx) (D:Addr) (rest:List (Addr×Obj)) (σ:L2.St) (W:Nat→Nat→List V→Hp→Prop) (tn:Nat→Heap→Prop) (fp:List Addr) (n:Nat) (s':Shared):Prop where
 |mk (i:Nat) (acc:List V) (H':Hp) (its:List Value) (k:Nat) (w:W i n acc H') (ii:Inv X ((D,Cn its k)::rest) σ H' s') (st:tn i s'.heap) (fr:∀b∈fp,H' b=none) (rv:Vals acc its):Nh X D rest σ W tn fp n s'
theorem QR {elt tg iter:Expr} {gens:List Comprehension} {d:Nat} {g:TG} {tc:TT} {te:L2.St→Hp→List V→(List V→Hp→Prop)→Prop} {R:Result→Shared→Prop} {fp:List Addr} {tn:Nat→Heap→Prop} {J:It} {W:Nat→Nat→List V→Hp→Prop} {QQ:List V→Hp→Prop} 
 (xe:X.xe=fun _ _=>False) (xc:X.calm=true) (hg:gens[d]?=some ⟨tg,iter,ifs,0⟩) (ha:∀g,gens[d+1]?=some g→g.is_async=0) (pg:PG X tg g) (pt:EV X ifs tc) (em:EM X D (CL elt gens scope pos d (.ref D) X.env) te)
 (T:GK X.prog X.w X.K tg J fp it tn) (f:∀b∈fp,∀o H',H' b=none→CD X ((D,o)::rest) H' b) (hr:∀p∈rest,p.1≠D)
 (turn:∀i n acc H,W i n acc H→(J.stop i H∧QQ acc H)∨
  (J.go i H∧∀x H',J.yld i H x H'→g x σ H' fun σ2 H2=>Sub σ σ2∧tc σ2 H2 fun b H3=>if b=true then te σ2 H3 acc fun acc' H4=>∃n',n' < n∧W (i+1) n' acc' H4 else ∃n',n' < n∧W (i+1) n' acc H3))
 (AJ:∀its k acc H' s',Inv X ((D,Cn its k)::rest) σ H' s'→Vals acc its→QQ acc H'→R (.ok .next) s') (n:Nat) (h:Nh X D rest σ W tn fp n s):
 codeAny (model X.prog X.w) X.A (.compLoop (.ListComp elt gens scope pos) d (.ref it) (.ref D) X.env) R s:=by
 refine Zam hg ha (Nh X D rest σ W tn fp) ?_ n h;rintro n s5 ⟨i,acc,H5,its,k,w5,I5,DW,fr5,rv5⟩;have fk:∀{H':Hp},(∀b∈fp,H' b=none)→∀b∈fp,CD X ((D,Cn its k)::rest) H' b:=fun hn b hb=>f b hb _ _ (hn b hb);rcases turn i n acc H5 w5 with ⟨stop,qn⟩ |⟨go,step⟩
 ·refine A1 (T.done X rfl rfl rfl xc i _ s5 σ H5 (fun _ _=>False) I5 (fk fr5) DW stop) (fun r s6 z=>?_) fun _ _ z=>z;obtain ⟨rfl,I6⟩:=z;exact AJ its k acc H5 s6 I6 rv5 qn
 ·refine A1 (T.item X rfl rfl rfl xc i _ s5 σ H5 (fun _ _=>False) I5 (fk fr5) DW go) (fun r s6 z=>?_) fun _ _ z=>z;obtain ⟨u,rfl,h6⟩:=z;refine A1 h6 (fun _ s7 z=>?_) fun _ _ z=>z;obtain ⟨x,H7,I7,r7,y7,Ff,fr7⟩:=z;have I7':Inv X ((D,Cn its k)::(rest++Fq fp s7.heap)) σ H7 s7:=I7.pinned (fp:=fp) (fk fr7) (T.obj _ _ Ff);have hr':∀p∈rest++Fq fp s7.heap,p.1≠D:=fun p hp=>by
   rcases qaP.mp hp with z |z
   ·exact hr p z
   ·obtain ⟨hb,_⟩:=OD z;exact Ne.symm ((f p.1 hb (Cn its k) H7 (fr7 p.1 hb)).2.2.2.2.2 (D,Cn its k) (BF _ AK))
  have z2:=pg _ s7 σ H7 x u _ I7' r7 (step x H7 y7);rw [xe] at z2;refine A1 z2 (fun _ s8 z=>?_) fun _ _ z=>z;obtain ⟨σ8,H8,I8,sub8,q8⟩:=z;have z3:=pt _ s8 σ8 H8 _ I8 q8;rw [xe] at z3;refine A1 z3 (fun ok s9 z=>?_) fun _ _ z=>z;obtain ⟨H9,I9,q9⟩:=z;have back:∀{sy:Shared} {Hy:Hp} {its':List Value} {k':Nat},Inv X ((D,Cn its' k')::(rest++Fq fp s7.heap)) σ8 Hy sy→
   Inv X ((D,Cn its' k')::rest) σ Hy sy∧tn (i+1) sy.heap∧∀b∈fp,Hy b=none:=fun {sy Hy its' k'} Iy=>by
   have at_:∀b∈fp,∀o,s7.heap.get? b=some o→sy.heap.get? b=some o∧Hy b=none:=fun b hb o e=>by obtain ⟨z1,z2,_⟩:=Iy.pin (b,o) (BF _ (AN _ (BF _ (HM hb e))));exact ⟨z1,z2⟩
   refine ⟨(Iy.pins_of fun p hp=>Iy.pin p (BF _ ?_)).weak sub8.1 fun j v z=>sub8.2 j v z,T.keep _ _ _ Ff fun b hb o e=>(at_ b hb o e).1,fun b hb=>?_⟩
   ·rcases qa5.mp hp with rfl |z
    ·exact AK
    ·exact AN _ (GC _ z)
   ·obtain ⟨o,e,_⟩:=T.obj _ _ Ff b hb;exact (at_ b hb o e).2
  cases ok with
  |false=>simp only [Bq,if_false] at q9 ⊢;obtain ⟨n',hn',w'⟩:=q9;obtain ⟨a1,a2,a3⟩:=back I9;exact ⟨n',hn',i+1,acc,H9,its,k,w',a1,a2,a3,rv5⟩
  |true=>simp only [if_true] at q9 ⊢;refine A1 (em _ its k acc σ8 H9 s9 _ I9 hr' rv5 q9) (fun _ s10 z=>?_) fun _ _ z=>z;obtain ⟨its',k',acc',H10,I10,rv10,n',hn',w'⟩:=z;obtain ⟨a1,a2,a3⟩:=back I10;exact ⟨n',hn',i+1,acc',H10,its',k',w',a1,a2,a3,rv10⟩
theorem Zap {elt tg iter:Expr} {gens:List Comprehension} {d:Nat} {wi:TI} {g:TG} {tc:TT} {te:L2.St→Hp→List V→(List V→Hp→Prop)→Prop} 
 (xe:X.xe=fun _ _=>False) (xc:X.calm=true) (hg:gens[d+1]?=some ⟨tg,iter,ifs,0⟩) (ha:∀g,gens[d+1+1]?=some g→g.is_async=0) (hi:PI X tg iter wi) (pg:PG X tg g) (pt:EV X ifs tc) (em:EM X D (CL elt gens scope pos (d+1) (.ref D) X.env) te)
 (hsf:∀x,foldedSetIterable iter X.env x=pure x):EM X D (CL elt gens scope pos d (.ref D) X.env) (QP wi g tc te):=by
 rintro rest its k acc σ H s Q I hr rv h;unfold CL;rw [hg];have z:=hi _ s σ H _ I h;rw [xe] at z;refine Ad (A1 z (fun xv s1 h1=>?_) fun _ _ z=>z);refine Ad (wpAny_standAt (Ad (wpAny_of_eq (hsf xv) ?_)));refine Ad (Ci (A1 h1 (fun itv s2 h2=>?_) fun _ _ z=>z));obtain ⟨it,fp,tn,J,H2,e,I2,T,CP,f2,W,⟨n0,w0⟩,turn⟩:=h2;subst e;refine Ad (wpAny_runOwn ?_);rw [Around.mark_none];have loop:=QR (R:=fun r s'=>match r with |.ok f=>wpAny (model X.prog X.w) X.A (pure ()) (fun _ s'=>∃its' k' acc' H',Inv X ((D,Cn its' k')::rest) σ H' s'∧Vals acc' its'∧Q acc' H') (fun _ _=>False) s' |.error e=>cameBackBy (model X.prog X.w) X.A X.env (fun _ _=>False) e s')
  xe xc hg ha pg pt em T (fun b hb o H' hn=>Zao (f2 b hb) hn) hr turn (fun its' k' acc' H' s' I' rv' q'=>Ak ⟨its',k',acc',H',I',rv',q'⟩) n0 ⟨0,acc,H2,its,k,w0,I2,CP,fun b hb=>(f2 b hb).1,rv⟩
 exact QM hg loop (T.self X.A 0 s2 _ _ CP loop)
end
def Ni (cs:List (Option Nat)) (wi:TI) (g:TG) (tc:TT) (te:L2.St→Hp→List V→(List V→Hp→Prop)→Prop):TE:=fun σ H Q=>wi σ H fun J H1=>∃W:Nat→Nat→List V→Hp→Prop,(∃n,W 0 n [] H1)∧∀i n acc H,W i n acc H→
 (J.stop i H∧acc.length≤sizeLine∧∀p,H p=none→Q (.ref p) (Aq H p (.lst acc)))∨
 (J.go i H∧∀x H',J.yld i H x H'→g x (Bt cs σ) H' fun σ2 H2=>Sub (Bt cs σ) σ2∧tc σ2 H2 fun b H3=>if b=true then te σ2 H3 acc fun acc' H4=>∃n',n' < n∧W (i+1) n' acc' H4 else ∃n',n' < n∧W (i+1) n' acc H3)
section
variable {X:Cx} {elt tg iter:Expr} {ifs:List Expr} {gs:List Comprehension} {scope:Scope} {pos:Pos} {Nc:List Str} {cs:List (Option Nat)} {wi:TI} {g:TG} {tc:TT} {te:L2.St→Hp→List V→(List V→Hp→Prop)→Prop}
theorem Zaq {use:Option (Value→Sem Unit)} {pins:List (Addr×Obj)} {Q:VK} (hcalm:X.calm=true) (S:EW X scope Nc cs) (hi:PI X tg iter wi) (ha:∀g,gs[0]?=some g→g.is_async=0)
 (hb:∀(C D:Addr) (cells:List (Str×Addr)) (fp:List Addr) (s₀:Shared) (H₀:Hp) (pins:List (Addr×Obj)),Gp (AV X Nc scope C D cells fp s₀ H₀ pins) D→PG (AV X Nc scope C D cells fp s₀ H₀ pins) tg g∧EV (AV X Nc scope C D cells fp s₀ H₀ pins) ifs tc∧
  EM (AV X Nc scope C D cells fp s₀ H₀ pins) D (CL elt (⟨tg,iter,ifs,0⟩::gs) scope pos 0 (.ref D) (AV X Nc scope C D cells fp s₀ H₀ pins).env) te)
 (hsf:∀x,foldedSetIterable iter X.env x=pure x) (I:Inv X pins σ H s) (h:Ni cs wi g tc te σ H Q)
 (AJ:∀(s6:Shared) (C D:Addr) (H7:Hp) (m6:Str→Option Value),s6.heap.Ns C m6→H7 C=none→X.s₀.heap.objs.size≤C→C≠X.env.locals→(∀x c,X.env.cells.lookup x=some c→c≠C)→(∀p∈X.pn++pins,p.1≠C)→
  (∀h',Heap.SameBut C s6.heap h'→Inv X pins σ H7 {s6 with heap:=h'})→Q (.ref D) H7→compPost (model X.prog X.w) X.A X.xe use QQ (.ref D) C (.ok .next) s6):
 wpAny (model X.prog X.w) X.A (comprehension (.ListComp elt (⟨tg,iter,ifs,0⟩::gs) scope pos) scope X.env ppos (newList []) false (eval iter X.env) use) QQ X.xe s:=by
 obtain ⟨cl,hclos,hcl,hcl2⟩:=Mr (scope:=scope) (env:=X.env) fun y hy hf=>I.ok.has y.1 (S.free y hy hf);refine wpAny_comprehension_free (use:=use) rfl hsf hclos S.kind S.loc (Au (hi pins s σ H _ I h) fun xv s1 h1=>Au h1 fun itv s2 h2=>?_);obtain ⟨it,fp,tn,J,H2,e,I2,T,CP,f2,W,⟨n0,w0⟩,turn⟩:=h2;subst e;refine CC ?_;generalize e3:({s2 with heap:=s2.heap.push {cls:=.type "list",data:=.seq ([]:List Value).toArray}}:Shared)=s3;refine PD ?_;have ob2:∀b∈fp,∃o,s2.heap.get? b=some o:=fun b hb=>let ⟨o,e,_⟩:=T.obj _ _ CP b hb;⟨o,e⟩;have I4:=PJ (fp:=fp) (cl:=cl) S I2 f2 ob2 hcl hcl2 e3.symm;generalize e4:({s3 with heap:=pushCells (s3.heap.push {cls:=.type "dict",data:=.dict #[]}) scope.names}:Shared)=s4 at I4;generalize ecl:cellsFrom (s3.heap.objs.size+1) scope.names cl=cells at I4;have okc:=I4.ok;have k3:∀b o,s2.heap.get? b=some o→s3.heap.get? b=some o:=fun b o e=>by subst e3;exact Aw _ e
 have Ij:s3.heap.objs.size=s2.heap.objs.size+1:=by subst e3;exact B4 ..
 have k34:∀b o,s3.heap.get? b=some o→s4.heap.get? b=some o:=fun b o e=>by subst e4;exact pushCells_keeps _ _ b o (Aw _ e)
 have hDfp:s2.heap.objs.size∉fp:=fun hm=>by obtain ⟨o,e⟩:=ob2 _ hm;exact absurd (AC e) (CB _)
 have hDex:s2.heap.objs.size∈(AV X Nc scope s3.heap.objs.size s2.heap.objs.size cells fp s3 H2 pins).ex:=AK;have ao:Gp (AV X Nc scope s3.heap.objs.size s2.heap.objs.size cells fp s3 H2 pins) s2.heap.objs.size:=
  ⟨show s2.heap.objs.size≠s3.heap.objs.size from BR (by omega),fun x c e=>(okc.exf _ hDex).2 x c e,fun p hp=>BR (AC (I2.pin p hp).1),hDex,okc.exfs _ hDex⟩
 obtain ⟨pg,pt,em⟩:=hb s3.heap.objs.size s2.heap.objs.size cells fp s3 H2 pins ao;have hD4:s4.heap.get? s2.heap.objs.size=some (Cn [] 0):=by refine k34 _ _ ?_;subst e3;exact Bc _ rfl
 have fC:∀b∈fp,∀(o:Obj) (H':Hp),H' b=none→CD (AV X Nc scope s3.heap.objs.size s2.heap.objs.size cells fp s3 H2 pins) ((s2.heap.objs.size,o)::[]) H' b:=fun b hb o H' hn=>by
  have hbx:b∈(AV X Nc scope s3.heap.objs.size s2.heap.objs.size cells fp s3 H2 pins).ex:=AN _ hb;refine ⟨hn,(okc.exf b hbx).1,okc.exfs b hbx,.inl hbx,(okc.exf b hbx).2,fun p hpp=>?_⟩;rcases qaP.mp hpp with z |z
  ·exact (f2 b hb).2.2.2.2.2 p z
  ·rw [qaJ] at z;subst z;intro e;exact hDfp ((show s2.heap.objs.size=b from e) ▸ hb)
 have I4':Inv (AV X Nc scope s3.heap.objs.size s2.heap.objs.size cells fp s3 H2 pins) ((s2.heap.objs.size,Cn [] 0)::[]) (Bt cs σ) H2 s4:=I4.pins_of fun p hp=>by rw [qaJ] at hp;subst hp;exact ⟨hD4,I2.hok.fresh (Ax _),ao.lo,ao.fs,fun v z=>by cases z⟩
 have LA:tn 0 s4.heap:=T.keep _ _ _ CP fun b hb o e=>k34 b o (k3 b o e);have loop:=QR (X:=AV X Nc scope s3.heap.objs.size s2.heap.objs.size cells fp s3 H2 pins) (QQ:=fun acc H5=>acc.length≤sizeLine∧∀p,H5 p=none→Q (.ref p) (Aq H5 p (.lst acc)))
  (R:=compPost (model X.prog X.w) X.A X.xe use QQ (.ref s2.heap.objs.size) s3.heap.objs.size) rfl hcalm (d:=0) (gens:=⟨tg,iter,ifs,0⟩::gs) rfl ha pg pt em T fC (fun p hp=>(nomatch hp)) turn (fun its k acc H5 s6 I6 rv5 qn=>?_) n0
   ⟨0,[],H2,[],0,w0,I4',LA,fun b hb=>(f2 b hb).1,.nil⟩
 ·exact QM (d:=0) rfl loop (T.self X.A 0 s4 _ _ LA loop)
 ·obtain ⟨m6,hn6,_⟩:=I6.loc;obtain ⟨ho6,hD6,_⟩:=I6.pin _ (BF _ AK);have lt2:∀b,b<s2.heap.objs.size→b≠s3.heap.objs.size:=fun b hb=>BR (AU hb (by omega));refine AJ s6 s3.heap.objs.size s2.heap.objs.size (Aq H5 s2.heap.objs.size (.lst acc)) m6 hn6 ?_ (Br I2.sz (by omega)) ?_ ?_ ?_ ?_ (qn.2 _ hD6)
  ·rw [AD (Gd (by omega))];exact I6.free
  ·obtain ⟨m2,hn2,_⟩:=I2.loc;exact Ne.symm (lt2 _ hn2.lt)
  ·intro x c hx;obtain ⟨v,hv⟩:=I2.cell x c hx;obtain ⟨o,ho,_⟩:=hv;exact lt2 _ (AC ho)
  ·intro p hp;exact lt2 _ (AC (I2.pin p hp).1)
  ·intro h' sb;exact PK I2 f2 e3.symm rfl I6 hD6 qn.1 rv5 ho6 sb
theorem Zar (hcalm:X.calm=true) (S:EW X scope Nc cs) (hi:PI X tg iter wi) (ha:∀g,gs[0]?=some g→g.is_async=0)
 (hb:∀(C D:Addr) (cells:List (Str×Addr)) (fp:List Addr) (s₀:Shared) (H₀:Hp) (pins:List (Addr×Obj)),Gp (AV X Nc scope C D cells fp s₀ H₀ pins) D→PG (AV X Nc scope C D cells fp s₀ H₀ pins) tg g∧EV (AV X Nc scope C D cells fp s₀ H₀ pins) ifs tc∧
  EM (AV X Nc scope C D cells fp s₀ H₀ pins) D (CL elt (⟨tg,iter,ifs,0⟩::gs) scope pos 0 (.ref D) (AV X Nc scope C D cells fp s₀ H₀ pins).env) te)
 (hsf:∀x,foldedSetIterable iter X.env x=pure x:=by intro _;rfl):PE X (.ListComp elt (⟨tg,iter,ifs,0⟩::gs) scope pos) (Ni cs wi g tc te):=by
 intro pins s σ H Q I h;rw [eval_ListComp];exact Zaq (use:=none) hcalm S hi ha hb hsf I h fun s6 C D H7 m6 hn _ _ _ _ _ inv q=>⟨m6,hn,fun h' sb=>⟨.ref D,H7,inv h' sb,rfl,q⟩⟩
end
abbrev CM:=Ag→HD→List D→Out (List D)
abbrev QT:=L2.St→Hp→List V→(List V→Hp→Prop)→Prop
def Frs (js:List Nat) (σ:L2.St):Prop:=∀j∈js,σ[j]?=some none
def Hf (K:PySem.W.Frag) (is js:List Nat) (gg:TG) (sg:MG):Prop:=
 ∀m H d v ρ σ ρ' Q,DV K m H d v→ER K m H ρ σ→Frs (is++js) σ→sg d ρ=some ρ'→(∀σ',Sub σ σ'→Frs js σ'→ER K m H ρ' σ'→Q σ' H)→gg v σ H Q
theorem Zas {σ σ':L2.St} {i:Nat} (h:σ[i]?=some none) (s:Sub σ σ'):Sub σ (σ'.set i (some v)):=by
 refine ⟨by rw [s.1];simp,fun j w e=>?_⟩;have hj:i≠j:=by rintro rfl;rw [h] at e;cases e
 rw [Be hj];exact s.2 j w e
theorem Frs.set {js:List Nat} {σ:L2.St} {i:Nat} {v:Option V} (h:Frs js σ) (n:i∉js):Frs js (σ.set i v):=fun j hj=>by
 have hn:i≠j:=by rintro rfl;exact n hj
 rw [Be hn];exact h j hj
theorem KA {K:PySem.W.Frag} {i:Nat} {js:List Nat} (n:i∉js):Hf K [i] js (CS i) (AQ i):=fun m H d v ρ σ ρ' Q r er f e q=>by simp only [AQ,Option.some.injEq] at e;subst e;exact q _ (Zas (f i AK) (.refl _)) (Frs.set (fun j hj=>f j (AN _ hj)) n) (er.set r)
noncomputable def En (f:ME):CM:=fun ρ h acc=>if acc.length<sizeLine then (noErr (f ρ h)).bind fun y h2=>.ok (acc++[y]) h2 else .stuck
open Classical in
noncomputable def DH (src:A3) (items:List D) (sg:MG) (t:MT) (e:CM) (ρ:Ag):List D→HD→List D→Out (List D)
 |[],h,acc=>if BC src items h then .ok acc h else .stuck
 |d::ds,h,acc=>if BC src items h then match sg d ρ with
   |none=>.stuck
   |some ρ1=>(noErr (t ρ1 h)).bind fun b h1=>if b=true then (noErr (e ρ1 h1 acc)).bind fun acc2 h2=>DH src items sg t e ρ ds h2 acc2 else DH src items sg t e ρ ds h1 acc
  else .stuck
noncomputable def DI (it:MI) (sg:MG) (t:MT) (e:CM):CM:=fun ρ h acc=>(noErr (it ρ h)).bind fun x h1=>DH x.2 x.1 sg t e ρ x.1 h1 acc
noncomputable def E5 (cs:List (Option Nat)) (it:MI) (sg:MG) (t:MT) (e:CM):ME:=fun ρ h=>(it ρ h).bind fun x h1=>(DH x.2 x.1 sg t e (Ct cs ρ) x.1 h1 []).bind BJ
def Eo (K:PySem.W.Frag) (js:List Nat) (e:CM):QT:=fun σ H acc Q=>∃m ρ h dacc,HR K m h H∧ER K m H ρ σ∧DVs K m H dacc acc∧Frs js σ∧Post K (Fw K) m H E0 Q (e ρ h dacc)
theorem EM.imp {D:Addr} {em:Sem Unit} {te te':QT} (h:EM X D em te) (f:∀σ H acc Q,te' σ H acc Q→te σ H acc Q):EM X D em te':=
 fun rest its k acc σ H s Q I hr rv z=>h rest its k acc σ H s Q I hr rv (f _ _ _ _ z)
theorem Zat {K:PySem.W.Frag} {js:List Nat} (σ:L2.St) (H:Hp) (acc:List V) (Q:List V→Hp→Prop):Eo K js (En f) σ H acc Q→QN (tD K E0 f) σ H acc Q:=by
 rintro ⟨m,ρ,h,dacc,hr,er,da,_,p⟩;unfold En at p;split at p
 ·rename_i hz;refine ⟨by rw [←DVs.len da];exact hz,m,ρ,h,hr,er,GT p fun y h1 v m1 H1 _ p1 k1 hr1 r1 q1=>?_⟩;exact q1 _ m1 H1 (Ay _) (.refl _) hr1 ((DVs.keep p1 k1 da).app (.cons r1 .nil))
 ·exact p.elim
inductive QU {β:Type} (K:PySem.W.Frag) (E:XK) (α:Type) (R:List Addr→Hp→α→β→Prop) (Q:β→Hp→Prop) (kk:List D→HD→Out α) (src:A3) (items:List D) (sg:MG) (t:MT) (e:CM) (ρ:Ag) (m1:List Addr) (H1:Hp) (i n:Nat) (acc:List V) (H2:Hp):Prop where
 |mk (en:n=items.length - i) (l:i≤items.length) (m2:List Addr) (h2:HD) (dacc:List D) (p:m1 <+:m2) (k:Kp H1 H2) (hr:HR K m2 h2 H2) (da:DVs K m2 H2 dacc acc) (q:Post K R m2 H2 E Q ((DH src items sg t e ρ (items.drop i) h2 dacc).bind kk)):QU K E α R Q kk src items sg t e ρ m1 H1 i n acc H2
theorem QV {K:PySem.W.Frag} {α β:Type} {R:List Addr→Hp→α→β→Prop} {Q:β→Hp→Prop} {kk:List D→HD→Out α} {is js:List Nat} {gg:TG} {sg:MG} {t:MT} {e:CM} {src:A3} {items:List D} {J:It} {dacc:List D} {acc:List V} {QQ:List V→Hp→Prop} 
 (hg:Hf K is js gg sg) (fr:Frs (is++js) σ) (er:ER K m1 H1 ρ σ) (r1:Gc K m1 H1 (items,src) J) (hr1:HR K m1 h1 H1) (da:DVs K m1 H1 dacc acc) (q:Post K R m1 H1 E Q ((DH src items sg t e ρ items h1 dacc).bind kk))
 (AJ:∀m h H dacc acc,m1 <+:m→Kp H1 H→HR K m h H→DVs K m H dacc acc→Post K R m H E Q (kk dacc h)→QQ acc H):
 ∃W:Nat→Nat→List V→Hp→Prop,(∃n,W 0 n acc H1)∧∀i n acc H,W i n acc H→(J.stop i H∧QQ acc H)∨
  (J.go i H∧∀x H',J.yld i H x H'→gg x σ H' fun σ2 H2=>Sub σ σ2∧D8 K E0 t σ2 H2 fun b H3=>if b=true then Eo K js e σ2 H3 acc fun acc' H4=>∃n',n' < n∧W (i+1) n' acc' H4 else ∃n',n' < n∧W (i+1) n' acc H3):=by
 refine ⟨QU K E α R Q kk src items sg t e ρ m1 H1,⟨items.length,rfl,B8 _,m1,h1,dacc,Ay _,.refl _,hr1,da,q⟩,?_⟩;rintro i n acc H2 ⟨rfl,hi',m2,h2,dacc,p2,k2,hr2,da,q2⟩
 by_cases hlt:i<items.length
 ·rw [Ht hlt] at q2;unfold DH at q2;split at q2
  ·rename_i hs;obtain ⟨hgo,hy⟩:=(r1 i m2 h2 H2 p2 k2 hr2 hs).1 hlt;refine .inr ⟨hgo,fun y H3 hyl=>?_⟩;obtain ⟨k3,hr3,d,ed,rd⟩:=hy y H3 hyl;have ed':d=items[i]:=by rw [AR hlt] at ed;exact (Option.some.inj ed).symm
   subst ed';split at q2
   ·exact q2.elim
   ·rename_i ρ3 es;refine hg m2 H3 _ y ρ σ ρ3 _ rd (er.keep p2 (k2.trans k3)) fr es fun σ4 sub4 fr4 er4=>⟨sub4,m2,ρ3,h2,hr3,er4,?_⟩
    rw [Out.bind_assoc] at q2;refine GT (Post.ahead (Ay _) k3 q2) fun b h5 v m5 H5 _ p5 k5 hr5 r5 q5=>?_;cases r5;cases b with
    |false=>simp only [Bq,if_false] at q5 ⊢;exact ⟨items.length - (i+1),by omega,rfl,hlt,m5,h5,dacc,p2.trans p5,(k2.trans k3).trans k5,hr5,DVs.keep p5 (k3.trans k5) da,q5⟩
    |true=>simp only [if_true] at q5 ⊢;rw [Out.bind_assoc] at q5;refine ⟨m5,ρ3,h5,dacc,hr5,er4.keep p5 k5,DVs.keep p5 (k3.trans k5) da,fr4,GT q5 fun z h6 w m6 H6 _ p6 k6 hr6 r6 q6=>?_⟩;exact ⟨items.length - (i+1),by omega,rfl,hlt,m6,h6,z,(p2.trans p5).trans p6,((k2.trans k3).trans k5).trans k6,hr6,r6,q6⟩
  ·exact q2.elim
 ·have he:i=items.length:=Jx hi' (GH hlt);subst he;rw [Jr] at q2;unfold DH at q2;split at q2
  ·rename_i hs;exact .inl ⟨(r1 _ m2 h2 H2 p2 k2 hr2 hs).2 rfl,AJ m2 h2 H2 dacc acc p2 k2 hr2 da q2⟩
  ·exact q2.elim
theorem Zau {K:PySem.W.Frag} {is js:List Nat} {it:MI} {gg:TG} {sg:MG} {t:MT} {e:CM} (hg:Hf K is js gg sg) (σ:L2.St) (H:Hp) (acc:List V) (Q:List V→Hp→Prop):Eo K (is++js) (DI it sg t e) σ H acc Q→QP (tM K (Gc K) E0 it) gg (D8 K E0 t) (Eo K js e) σ H acc Q:=by
 rintro ⟨m,ρ,h,dacc,hr,er,da,fr,p⟩;unfold DI at p;refine ⟨m,ρ,h,hr,er,GT p fun x h1 J m1 H1 _ p1 k1 hr1 r1 q1=>?_⟩;refine QV (E:=E0) (kk:=fun a h=>.ok a h) hg fr (er.keep p1 k1) r1 hr1 (DVs.keep p1 k1 da) ?_ fun m2 h2 H2 dacc2 acc2 p2 k2 hr2 da2 q2=>q2 _ m2 H2 (Ay _) (.refl _) hr2 da2;have:∀o:Out (List D),(o.bind fun a h=>.ok a h)=o:=fun o=>by cases o<;>rfl
 rw [this];exact q1
section
variable {X:Cx} {E:XK} {D:Addr} {elt tg iter:Expr} {ifs:List Expr} {gs gens:List Comprehension} {scope:Scope} {pos:Pos} {Nc:List Str} {cs:List (Option Nat)} {it:MI} {gg:TG} {sg:MG} {t:MT} {f:ME} {e:CM} {d:Nat} {is js:List Nat}
theorem Zav (ao:Gp X D) (xe:X.xe=fun _ _=>False) (hl:gens[d+1]?=none) (pe:Ev X E0 elt f):EM X D (CL elt gens scope pos d (.ref D) X.env) (Eo X.K js (En f)):=(Zan ao xe hl pe).imp Zat
theorem Nj (xe:X.xe=fun _ _=>False) (xc:X.calm=true) (hg:gens[d+1]?=some ⟨tg,iter,ifs,0⟩) (ha:∀g,gens[d+1+1]?=some g→g.is_async=0) (hi:DT X E0 tg iter it) (pg:PG X tg gg) (gk:Hf X.K is js gg sg) (pt:FC X E0 ifs t) (em:EM X D (CL elt gens scope pos (d+1) (.ref D) X.env) (Eo X.K js e))
 (hsf:∀x,foldedSetIterable iter X.env x=pure x:=by intro _;rfl):EM X D (CL elt gens scope pos d (.ref D) X.env) (Eo X.K (is++js) (DI it sg t e)):=(Zap xe xc hg ha hi pg pt em hsf).imp (Zau gk)
theorem Zaw (hc:∀j∈is++js,cs[j]?=some none) (hg:Hf X.K is js gg sg):∀σ H Q,tD X.K E (E5 cs it sg t e) σ H Q→Ni cs (tM X.K (Gc X.K) E it) gg (D8 X.K E0 t) (Eo X.K js e) σ H Q:=by rintro σ H Q ⟨m,ρ,h,hr,er,p⟩;refine ⟨m,ρ,h,hr,er,Post.bind p fun x h1 J m1 H1 _ p1 k1 hr1 r1 q1=>?_⟩;exact QV (QQ:=fun acc H=>acc.length≤sizeLine∧∀p,H p=none→Q (.ref p) (Aq H p (.lst acc))) hg (fun j hj=>by unfold Bt;rw [BO,hc j hj];rfl) ((er.keep p1 k1).comp cs) r1 hr1 .nil q1 fun m2 h2 H2 dacc2 acc2 p2 k2 hr2 da2 q2=>Fy (X:=X) hr2 da2 q2
theorem Zax (hcalm:X.calm=true) (S:EW X scope Nc cs) (hi:DT X E tg iter it) (ha:∀g,gs[0]?=some g→g.is_async=0) (hc:∀j∈is++js,cs[j]?=some none) (hg:Hf X.K is js gg sg)
 (hb:∀(C D:Addr) (cells:List (Str×Addr)) (fp:List Addr) (s₀:Shared) (H₀:Hp) (pins:List (Addr×Obj)),Gp (AV X Nc scope C D cells fp s₀ H₀ pins) D→PG (AV X Nc scope C D cells fp s₀ H₀ pins) tg gg∧FC (AV X Nc scope C D cells fp s₀ H₀ pins) E0 ifs t∧
  EM (AV X Nc scope C D cells fp s₀ H₀ pins) D (CL elt (⟨tg,iter,ifs,0⟩::gs) scope pos 0 (.ref D) (AV X Nc scope C D cells fp s₀ H₀ pins).env) (Eo X.K js e))
 (hsf:∀x,foldedSetIterable iter X.env x=pure x:=by intro _;rfl):Ev X E (.ListComp elt (⟨tg,iter,ifs,0⟩::gs) scope pos) (E5 cs it sg t e):=
 BI (Zar (g:=gg) (tc:=D8 X.K E0 t) (te:=Eo X.K js e) hcalm S hi ha hb hsf) (Zaw hc hg)
end
theorem Nk {α:Type} {src:A3} {sg:MG} {t:MT} {e:CM} (φ:α→D) (g:α→Bool) (es:α→List D) (ρ1:α→Ag):
 ∀(xs:List α) (h:HD) (acc:List D),(∀h',Sm h h'→BC src items h')→(∀x∈xs,sg (φ x) ρ=some (ρ1 x))→(∀x∈xs,∀h',Sm h h'→Pu (t (ρ1 x) h') h' (g x))→(∀x∈xs,g x=true→∀h' acc,Sm h h'→acc.length+(es x).length≤sizeLine→Pu (e (ρ1 x) h' acc) h' (acc++es x))→
  acc.length+((xs.filter g).flatMap es).length≤sizeLine→Pu (DH src items sg t e ρ (xs.map φ) h acc) h (acc++(xs.filter g).flatMap es)
 |[],h,acc,hs,_,_,_,_=>by simp only [Dy,List.filter_nil,DH];rw [if_pos (hs h (.refl _))];simpa using (.ok:Pu (.ok acc h) h acc)
 |x::xs,h,acc,hs,hg,ht,hf,hz=>by
  simp only [AZ,DH];rw [if_pos (hs h (.refl _)),hg x AK];simp only;refine Pu.bind (ht x AK h (.refl _)).noErr fun h1 s1=>?_;have ih:∀h2 acc,Sm h h2→acc.length+((xs.filter g).flatMap es).length≤sizeLine→Pu (DH src items sg t e ρ (xs.map φ) h2 acc) h2 (acc++(xs.filter g).flatMap es):=fun h2 acc s2 z2=>Nk φ g es ρ1 xs h2 acc (fun h' s'=>hs h' (s2.trans s'))
   (fun y hy=>hg y (AN _ hy)) (fun y hy h' s'=>ht y (AN _ hy) h' (s2.trans s')) (fun y hy gy h' a s' z'=>hf y (AN _ hy) gy h' a (s2.trans s') z') z2
  cases hgx:g x with
  |false=>rw [LH (by simp [hgx])] at hz ⊢;rw [if_neg Bj];exact ih h1 acc s1 hz
  |true=>
   rw [LI hgx,Jp] at hz ⊢;rw [Dg] at hz;rw [if_pos rfl];refine Pu.bind (hf x AK hgx h1 acc s1 (by omega)).noErr fun h2 s2=>?_;have:=ih h2 (acc++es x) (s1.trans s2) (by rw [Dg];omega)
   rwa [DY] at this
theorem Zay {f:ME} {acc:List D} (hf:Pu (f ρ h) h y) (hz:acc.length+1≤sizeLine):Pu (En f ρ h acc) h (acc++[y]):=by unfold En;rw [if_pos (by omega)];exact Pu.bind hf.noErr fun h2 s2=>.ok
theorem Nl {α β:Type} {y:α→β}:∀{xs:List α},xs.flatMap (fun x=>[y x])=xs.map y
 |[]=>rfl
 |x::xs=>by rw [Jp,Nl,AZ];rfl
section
variable {α β:Type} {cs:List (Option Nat)} {it:MI} {sg:MG} {t:MT} {f:ME} {e:CM} {ρ:Ag} {h:HD} {src:A3} {xs:List α} {φ:α→D} {acc:List D}
theorem Nm (g:α→Bool) (es:α→List D) (ρ1:α→Ag) (hi:CJ (it ρ h) h (xs.map φ) src) (hg:∀x∈xs,sg (φ x) ρ=some (ρ1 x)) (ht:∀x∈xs,∀h',Sm h h'→Pu (t (ρ1 x) h') h' (g x)) (hf:∀x∈xs,g x=true→∀h' acc,Sm h h'→acc.length+(es x).length≤sizeLine→Pu (e (ρ1 x) h' acc) h' (acc++es x))
 (hz:acc.length+((xs.filter g).flatMap es).length≤sizeLine):Pu (DI it sg t e ρ h acc) h (acc++(xs.filter g).flatMap es):=by
 unfold DI Pu;have:Wp (noErr (it ρ h)) fun x h'=>x=(xs.map φ,src)∧Sm h h'∧∀h2,Sm h' h2→BC src (xs.map φ) h2:=by
  unfold CJ at hi;cases eo:it ρ h with
  |ok a h1=>rw [eo] at hi;exact hi
  |err C fs h1=>rw [eo] at hi;exact hi
  |stuck=>rw [eo] at hi;exact hi
 rw [AA];refine Wp.mono this fun x h1 z=>?_;obtain ⟨rfl,s1,hs⟩:=z;exact (Nk φ g es ρ1 xs h1 acc hs hg (fun x hx h' s'=>ht x hx h' (s1.trans s')) (fun x hx gx h' a s' z'=>hf x hx gx h' a (s1.trans s') z') hz).wp fun h2 s2=>⟨rfl,s1.trans s2⟩
theorem Zaz (y:α→D) (ρ1:α→Ag) (hi:CJ (it ρ h) h (xs.map φ) src) (hg:∀x∈xs,sg (φ x) ρ=some (ρ1 x)) (hf:∀x∈xs,∀h',Sm h h'→Pu (f (ρ1 x) h') h' (y x)) (hz:acc.length+(xs.map y).length≤sizeLine):
 Pu (DI it sg Bl (En f) ρ h acc) h (acc++xs.map y):=by
 have:=Nm (t:=Bl) (e:=En f) (acc:=acc) (fun _=>true) (fun x=>[y x]) ρ1 hi hg (fun x hx h' s'=>(.ok:Pu (.ok true h') h' true)) (fun x hx _ h' acc s' z'=>Zay (hf x hx h' s') z') (by rw [CY,Nl];exact hz)
 rwa [CY,Nl] at this
theorem ZaA {Q:D→HD→Prop} (g:α→Bool) (es:α→List D) (ρ1:α→Ag) (hi:CJ (it ρ h) h (xs.map φ) src) (hg:∀x∈xs,sg (φ x) (Ct cs ρ)=some (ρ1 x)) (ht:∀x∈xs,∀h',Sm h h'→Pu (t (ρ1 x) h') h' (g x)) (hf:∀x∈xs,g x=true→∀h' acc,Sm h h'→acc.length+(es x).length≤sizeLine→Pu (e (ρ1 x) h' acc) h' (acc++es x))
 (hz:((xs.filter g).flatMap es).length≤sizeLine) (q:∀l h',Sm h h'→h'[l]?=some (.lst ((xs.filter g).flatMap es))→Q (.loc l) h'):Wp (E5 cs it sg t e ρ h) Q:=by
 unfold E5;rw [AA];refine Wp.mono hi fun x h1 z=>?_;obtain ⟨rfl,s1,hs⟩:=z;rw [AA];refine (Nk φ g es ρ1 xs h1 [] hs hg (fun x hx h' s'=>ht x hx h' (s1.trans s')) (fun x hx gx h' a s' z'=>hf x hx gx h' a (s1.trans s') z') (by simpa using hz)).wp fun h2 s2=>?_;rw [FY];exact Av hz fun l h3 s3 e3 _ _=>q l h3 ((s1.trans s2).trans s3) e3
noncomputable def ZaB (cs:List (Option Nat)) (it:MI) (sg:MG) (t:MT) (e:CM):ME:=Af (An CW) (Aa (E5 cs it sg t e) Ac)
noncomputable def ZaC (cs:List (Option Nat)) (it:MI) (sg:MG) (t:MT) (e:CM):ME:=Af (An DU) (Aa (E5 cs it sg t e) Ac)
@[simp] theorem Zf4:Af (An CW) (Aa (E5 cs it sg t e) Ac) ρ h=ZaB cs it sg t e ρ h:=rfl
@[simp] theorem Zf5:Af (An DU) (Aa (E5 cs it sg t e) Ac) ρ h=ZaC cs it sg t e ρ h:=rfl
end
end LS
namespace LS
open PySem
inductive TlN (h:Heap) (ns:List Str) (bB:List Value):List Value→Prop
 |base:TlN h ns bB bB
 |own {a:Addr} {c0:Value} {dd:Option Addr} {cd:ClassData} {sl:Array (Option Value)} {m:Str→Option Value} {tl:List Value} (ha:h.get? a=some {cls:=c0,dict:=dd,data:=.cls cd,slots:=sl}) (hm:h.Ns cd.ns m) (no:∀n∈ns,m n=none) (r:TlN h ns bB tl):TlN h ns bB (.ref a::tl)
theorem TlN.keeps {h h':Heap} {ns:List Str} (T:TlN h ns bB tl) (k:∀b o,h.get? b=some o→h'.get? b=some o):TlN h' ns bB tl:=by
 induction T with
 |base=>exact .base
 |own ha hm no _ ih=>exact .own (k _ _ ha) (hm.keeps k) no ih
theorem TlN.has {ns:List Str} {bB tl:List Value} (T:TlN h ns bB tl) (hv:bB.contains v=true):tl.contains v=true:=by
 induction T with
 |base=>exact hv
 |own ha hm no _ ih=>rw [List.contains_cons,ih,Bool.or_true]
section
variable {M:Model} {A:Around} {E:Value→Shared→Prop} {h:Heap} {g:Array GenState} {d:Drawn} {t:Nat} {os:OsState}
theorem TlN.look {ns:List Str} {y:Option Value} {Q:Option Value→Shared→Prop} (T:TlN h ns bB tl) (hn:n∈ns) (e:lookupAlong bB n=pure y) (q:Q y ⟨h,g,d,t,os⟩):wpAny M A (lookupAlong tl n) Q E ⟨h,g,d,t,os⟩:=by
 induction T with
 |base=>rw [e];exact Ak q
 |own ha hm no _ ih=>rw [lookupAlong_cons];refine Ad (wpAny_classOwn_cls ha hm ?_);rw [no n hn];exact ih
variable {nm q:Str} {C N x:Addr} {bs bm bB:List Value} {hd:Bool} {sn:List Str} {sub:List Value} {ab:Bool} {col:Option Bool} {dd:Option Addr} {k0 k1 k2 k3 k5:Option Value} {B newId sa owner:String} {ns:List Str} {mN mA:Str→Option Value} {name:Str} {v:Value}
end
section
variable {prog:Program} {w:World} {A:Around} {E:Value→Shared→Prop} {h:Heap} {g:Array GenState} {d:Drawn} {t:Nat} {os:OsState}
variable {nm q:Str} {C N x:Addr} {bs bm bB:List Value} {sn:List Str} {sub:List Value} {ab:Bool} {col:Option Bool} {dd:Option Addr} {k0 k1 k2 k3 k5:Option Value} {B newId sa owner:String} {ns:List Str} {mN mA:Str→Option Value} {name:Str} {v:Value}
end
section
variable {prog:Program} {w:World} {A:Around} {E:Value→Shared→Prop} {h:Heap} {g:Array GenState} {d:Drawn} {t:Nat} {os:OsState}
variable {nm q:Str} {C N x:Addr} {bs bm bB:List Value} {sn:List Str} {sub:List Value} {ab:Bool} {col:Option Bool} {dd:Option Addr} {k0 k1 k2 k3 k5:Option Value} {B newId:String} {ns:List Str} {mN mA:Str→Option Value} {name:Str} {v:Value}
end
end LS
namespace LS
open PySem PySem.Spec PyProof.Rows L2
def tmNames:List Str:=["__init__","__setattr__","__getattribute__","__getattr__","many","most"]
def QW (K:PySem.W.Frag) (ns:List Str) (bB:List Value):List Value→Bool
 |[]=>bB==[]
 |v::r=>(v::r)==bB||match v with
  |.ref a=>(match K.lookup a with
   |some o=>(match G6 o.data with
    |some cd=>PySem.W.nsOkIn K cd.ns&&(ns.all (fun n=>PySem.W.nsIn K cd.ns n==some none)&&QW K ns bB r)
    |none=>false)
   |none=>false)
  |_=>false
theorem TlN.tail {ns:List Str} (T:TlN h ns bB tl) (hi:("__init__":Str)∈ns):OwnTail h bB tl:=by
 induction T with
 |base=>exact .base
 |own ha hm no _ ih=>exact .own ha hm (no _ hi) ih
def tmY (K:PySem.W.Frag) (C fI:Addr) (o:Obj) (cd:ClassData):Bool:=
 decide (o.cls=.type "type")&&(decide (cd.mro=.ref C::cd.mro.tail)&&(!cd.hasDel&&(QW K tmNames Kl cd.mro.tail&&(PySem.W.nsOkIn K cd.ns&&(PySem.W.nsIn K cd.ns "__init__"==some (some (.ref fI))&&(tmNames.tail.all (fun n=>PySem.W.nsIn K cd.ns n==some none)&&(decide (o.slots.toList.length=6)&&(decide (o.slots.toList[4]?=some (some (.builtin "ValueError.__new__")))&&cd.hasDict))))))))
def tmX (K:PySem.W.Frag) (C fI:Addr):Bool:=match K.lookup C with
 |some o=>(match G6 o.data with
  |some cd=>tmY K C fI o cd
  |none=>false)
 |none=>false
def one (n:Str) (u:Value):Str→Option Value:=fun y=>if y=n then some u else none
section
variable {X:Cx} {pins:List (Addr×Obj)} {σ:L2.St} {H:Hp} {s:Shared} {E:Value→Shared→Prop} {A:Around} {C fI e da:Addr} {n:Str} {u:Value}
def del (H:Hp) (a:Addr):Hp:=fun b=>if b=a then none else H b
theorem QX {H:Hp} (h:b≠a):del H a b=H b:=by unfold del;rw [if_neg h]
theorem Kp.del {H:Hp} {φ:Heap→Prop} (h:H a=some (.mex φ)):Kp H (LS.del H a):=fun b o e i=>by
 rw [QX]
 ·exact e
 ·intro z;rw [z,h] at e;cases e;cases i
theorem HR.del {K:PySem.W.Frag} {H:Hp} {φ:Heap→Prop} (r:HR K m h H) (e:H a=some (.mex φ)):HR K m h (LS.del H a):=r.same (.del e) fun b hb=>QX fun z=>by
 subst z;obtain ⟨l,hl,el⟩:=Hx hb;have hl':l<h.length:=by rw [←r.len];exact hl
 have c:=r.cells l h[l] m[l] (AR hl') (AR hl);rw [el] at c;cases hc:h[l] with
 |lst ds=>rw [hc] at c;obtain ⟨vs,q,_⟩:=c;rw [e] at q;cases q
 |ins n fs=>rw [hc] at c;obtain ⟨_,_,_,_,q,_⟩:=c;rw [e] at q;cases q
 |tabn g=>rw [hc] at c;obtain ⟨_,ps,q,_⟩:=c;rw [e] at q;cases q
 |dic fz kvs=>
  rw [hc] at c;obtain ⟨es,q,_⟩:=c;cases fz with
  |true=>obtain ⟨o,q⟩:=q;rw [e] at q;cases q
  |false=>exact absurd (e.symm.trans q) (by intro z;cases z)
end
end LS
namespace LS
open PySem PySem.Spec PyProof.Rows L2 PySem.Calls PySem.W
def swX (K:PySem.W.Frag) (S:Addr):Bool:=PySem.W.readsIn K S (.type "type")&&(match PySem.W.findCls K (.ref S) (.type "type") "__init__" with
 |some (.val (.builtin b))=>b=="ValueError.__init__"
 |_=>false)
section
variable {X:Cx} {C fI S:Addr} {ta:TA} {a1 a2:Expr} {p1 p2 p5:Pos}
end
end LS
namespace LS
open PySem PySem.Spec PyProof.Rows L2 PySem.Calls
section
variable {X:Cx} {C fI S:Addr}
end
section
variable {P:Program} {w:World} {K:PySem.W.Frag} {mg:Str→Option Value} {base:Heap} {C f S:Addr} {k:Nat} {qual:Str} {scope:Scope} {p1 p2 p3 p4 p5 p6 q1 q2 q3 q4 r1 r2 r3 r4:Pos} {js:Expr}
end
section
variable {X:Cx} {E:XK} {C fI:Addr} {fd:FuncData} {k:Nat}
end
section
variable {X:Cx} {E:XK} {C fI:Addr}
end
end LS
namespace Tp
open PySem PySem.W PySem.Spec PySem.Calls PyProof.Rows
section
variable {α β:Type}
noncomputable def fN (n:Nat) (k:Nat→α):α:=@Nat.rec (fun _=>α) (k 0) (fun m _=>k (Nat.succ m)) n
theorem KB (n:Nat) (k:Nat→α):fN n k=k n:=by cases n<;>rfl
noncomputable def fL (l:List β):(List β→α)→α:=@List.rec β (fun _=>(List β→α)→α) (fun k=>k []) (fun a _ ih k=>ih fun l'=>k (a::l')) l
theorem Iz:∀(l:List β) (k:List β→α),fL l k=k l
 |[],_=>rfl
 |a::l,k=>Iz l fun l'=>k (a::l')
noncomputable def fE (l:List DictEntry):(List DictEntry→α)→α:=@List.rec DictEntry (fun _=>(List DictEntry→α)→α) (fun k=>k []) (fun a _ ih k=>ih fun l'=>@DictEntry.rec (fun _=>α) (fun x y z=>k (⟨x,y,z⟩::l')) a) l
theorem QY:∀(l:List DictEntry) (k:List DictEntry→α),fE l k=k l
 |[],_=>rfl
 |⟨_,_,_⟩::l,k=>QY l fun l'=>k (_::l')
noncomputable def fD (d:Data) (k:Data→α):α:=@Data.rec (fun _=>α) (k .plain) (fun v=>k (.prim v)) (fun x n=>@Array.rec Value (fun _=>α) (fun l=>fL l fun l=>fN n fun n=>k (.seq ⟨l⟩ n)) x)
 (fun x n=>@Array.rec DictEntry (fun _=>α) (fun l=>fE l fun l=>fN n fun n=>k (.dict ⟨l⟩ n)) x) (fun x n t=>k (.set x n t)) (fun b n=>k (.bytearray b n)) (fun v=>k (.cell v)) (fun f=>k (.func f)) (fun c=>k (.cls c))
 (fun x=>@Array.rec Value (fun _=>α) (fun l=>fL l fun l=>k (.fields ⟨l⟩)) x) (k .freed) d
theorem ZaD (d:Data) (k:Data→α):fD d k=k d:=by
 cases d with
 |seq x n=>cases x;simp only [fD,Iz,KB]
 |dict x n=>cases x;simp only [fD,QY,KB]
 |fields x=>cases x;simp only [fD,Iz]
 |_=>rfl
noncomputable def fO (o:Obj) (k:Obj→α):α:=@Obj.rec (fun _=>α) (fun c d da sl=>fD da fun da=>k ⟨c,d,da,sl⟩) o
theorem QZ (o:Obj) (k:Obj→α):fO o k=k o:=by cases o;simp only [fO,ZaD]
noncomputable def fT (t:BT):(BT→α)→α:=@BT.rec (fun _=>(BT→α)→α) (fun k=>k .nil) (fun v _ _ il ir k=>fO v fun v=>il fun l=>ir fun r=>k (.node v l r)) t
theorem Nn:∀(t:BT) (k:BT→α),fT t k=k t
 |.nil,_=>rfl
 |.node v l r,k=>by
  show fO v (fun v=>fT l fun l=>fT r fun r=>k (.node v l r))=_
  rw [QZ,Nn l,Nn r]
noncomputable def fS (s:SharedT) (k:SharedT→α):α:=@SharedT.rec (fun _=>α) (fun t n li g d tk os=>fT t fun t=>fN n fun n=>fN tk fun tk=>@Drawn.rec (fun _=>α) (fun a b c e=>@Array.rec GenState (fun _=>α) (fun g=>fL g fun g=>k ⟨t,n,li,⟨g⟩,⟨a,b,c,e⟩,tk,os⟩) g) d) s
theorem Np (s:SharedT) (k:SharedT→α):fS s k=k s:=by obtain ⟨t,n,li,⟨g⟩,⟨a,b,c,e⟩,tk,os⟩:=s;simp only [fS,Nn,KB,Iz]
noncomputable def fP (p:Pos) (k:Pos→α):α:=@Pos.rec (fun _=>α) (fun a b c d=>fN a fun a=>fN b fun b=>fN c fun c=>fN d fun d=>k ⟨a,b,c,d⟩) p
theorem Nq (p:Pos) (k:Pos→α):fP p k=k p:=by cases p;simp only [fP,KB]
end
section
variable (stp:SharedT→Thread→Option (SharedT×Thread)) (ok:Thread→Bool) (seg:Nat→SharedT→Thread→Option (Flow×SharedT×Code×Pos))
noncomputable def Hg (env:Env) (c:Code) (f:Nat):List (List Stmt)→SharedT→Pos→List Code→Option (SharedT×Pos×List Code)
 |[],s,pos,cs=>some (s,pos,cs)
 |l::ls,s,pos,cs=>match seg f s (piecesOf l env c pos [topFrame ⟨0,0,0,0⟩]) with
  |some (.next,s',c',pos')=>fS s' fun s'=>fP pos' fun pos'=>Hg env c f ls s' pos' (c'::cs)
  |_=>none
def KC:Nat→SharedT→Thread→Option (SharedT×Thread)
 |0,s,t=>some (s,t)
 |n+1,s,t=>match through t with
  |true=>none
  |false=>match ok t with
   |false=>none
   |true=>match stp s t with
    |some (s',t')=>KC n s' t'
    |none=>none
def KG:Nat→SharedT→Thread→Option SharedT
 |0,_,_=>none
 |n+1,s,t=>match through t with
  |true=>some s
  |false=>match ok t with
   |false=>none
   |true=>match stp s t with
    |some (s',t')=>KG n s' t'
    |none=>none
def cut:Nat→List Stmt→List (List Stmt)
 |0,l=>[l]
 |n+1,l=>match l with
  |[]=>[]
  |a::b::c::d::l=>[a,b,c,d]::cut n l
  |l=>[l]
theorem Q0:∀(n:Nat) (l:List Stmt),(cut n l).flatten=l
 |0,l=>by simp [cut]
 |_+1,[]=>rfl
 |n+1,a::b::c::d::l=>by simp [cut,Q0 n l]
 |n+1,[a]=>rfl
 |n+1,[a,b]=>rfl
 |n+1,[a,b,c]=>rfl
theorem Q1:∀(n:Nat) (l:List Stmt),(cut n l).length≤n+1
 |0,l=>Ax _
 |_+1,[]=>B8 _
 |n+1,a::b::c::d::l=>Nat.succ_le_succ (Q1 n l)
 |n+1,[a]=>by simp [cut]
 |n+1,[a,b]=>by simp [cut]
 |n+1,[a,b,c]=>by simp [cut]
def Nr (p:Program):Env:={scope:=p.main.scope,locals:=mainNs,globals:=mainNs,cells:=[],code:=.ref 13,frame:=some 14}
def Gq (p:Program):Code:=.body (behindTheImports p) (Nr p)
noncomputable def Ep (p:Program) (S0:SharedT):Option (Thread×List Code×SharedT):=match KC stp ok 12 S0 (topStub p) with
 |some (sa,ta)=>match seg 1 sa (blockOf (behindTheImports p) (Nr p) (Gq p) ⟨0,0,0,0⟩ [topFrame ⟨0,0,0,0⟩]) with
  |some (.next,sb,cb,pb)=>fS sb fun sb=>fP pb fun pb=>match Hg seg (Nr p) (Gq p) 2000 (cut 400 (behindTheImports p)) sb pb [cb] with
   |some (sf,pf,cs)=>match KG stp ok 2 sf ⟨doneF .next,Gq p,pf,[topFrame ⟨0,0,0,0⟩]⟩ with
    |some sg=>some (ta,cs,sg)
    |none=>none
   |none=>none
  |_=>none
 |none=>none
end
noncomputable def Q2 (P:Params) (os:OsState):SharedT:=⟨((boot_heap P).objs.toList.foldl (fun (x:BT×Nat) o=>(x.1.ins x.2 o,x.2+1)) (.nil,0)).1,11,(boot_heap P).life,⟨[]⟩,boot_drawn,boot_toks,os⟩
theorem ZaE (P:Params) (os:OsState):(Q2 P os).abs=⟨boot_heap P,⟨[]⟩,boot_drawn,boot_toks,os⟩:=by kernel_rfl
section
variable {α:Type}
noncomputable def Nt (l:List Obj):(List Obj→α)→α:=@List.rec Obj (fun _=>(List Obj→α)→α) (fun k=>k []) (fun a _ ih k=>fO a fun a=>ih fun l'=>k (a::l')) l
theorem Q3:∀(l:List Obj) (k:List Obj→α),Nt l k=k l
 |[],_=>rfl
 |a::l,k=>by show fO a (fun a=>Nt l fun l'=>k (a::l'))=_;rw [QZ,Q3]
noncomputable def AJ (s:SharedT) (k:Shared→α):α:=Nt (s.tree.list s.n) fun l=>k ⟨⟨⟨l⟩,s.life⟩,s.gens,s.drawn,s.toks,s.os⟩
theorem ZaF (s:SharedT) (k:Shared→α):AJ s k=k s.abs:=Q3 _ _
end
section
variable {tb:String→Option Builtin} {p:Program} {w:World} {m0:Nat} {ann:Option Value}
theorem Q4:∀{n:Nat} {s s':SharedT} {t t':Thread},KC (stepT (denote tb) p w) (stepOk m0 ann) n s t=some (s',t')→topGo tb p w m0 ann n s.abs t=some (s'.abs,t')
 |0,_,_,_,_,h=>by cases h;rfl
 |n+1,s,s',t,t',h=>by
  unfold KC at h;unfold topGo;cases he:through t with
  |true=>rw [he] at h;cases h
  |false=>
   rw [he] at h;cases hk:stepOk m0 ann t with
   |false=>rw [hk] at h;cases h
   |true=>
    rw [hk] at h;cases hs:stepT (denote tb) p w s t with
    |none=>rw [hs] at h;cases h
    |some r=>obtain ⟨s₂,t₂⟩:=r;rw [hs] at h;rw [stepT_spec hs];exact Q4 h
theorem Q5:∀{n:Nat} {s s':SharedT} {t:Thread},KG (stepT (denote tb) p w) (stepOk m0 ann) n s t=some s'→topRun tb p w m0 ann n s.abs t=some s'.abs
 |0,_,_,_,h=>by cases h
 |n+1,s,s',t,h=>by
  unfold KG at h;unfold topRun;cases he:through t with
  |true=>rw [he] at h;cases h;rfl
  |false=>
   rw [he] at h;cases hk:stepOk m0 ann t with
   |false=>rw [hk] at h;cases h
   |true=>
    rw [hk] at h;cases hs:stepT (denote tb) p w s t with
    |none=>rw [hs] at h;cases h
    |some r=>obtain ⟨s₂,t₂⟩:=r;rw [hs] at h;rw [stepT_spec hs];exact Q5 h
theorem Nu {seg:Nat→SharedT→Thread→Option (Flow×SharedT×Code×Pos)} {c:Code} {f:Nat}:∀{ls:List (List Stmt)} {s sf:SharedT} {pos pf:Pos} {c0 cs:List Code},Hg seg env c f ls s pos c0=some (sf,pf,cs)→∀x∈c0,x∈cs
 |[],_,_,_,_,_,_,h,x,hx=>by cases h;exact hx
 |l::ls,s,sf,pos,pf,c0,cs,h,x,hx=>by
  unfold Hg at h;split at h
  ·rw [Np,Nq] at h;exact Nu h x (.tail _ hx)
  ·cases h
theorem Q6 {env:Env} {c:Code} {f:Nat}:∀{ls:List (List Stmt)} {s sf:SharedT} {pos pf:Pos} {c0 cs:List Code},Hg (segRunT tb p w m0 ann 1) env c f ls s pos c0=some (sf,pf,cs)→(∀x∈cs,x=c)→∀{N:Nat} {r:Shared},
 topRun tb p w m0 ann N sf.abs ⟨doneF .next,c,pf,[topFrame ⟨0,0,0,0⟩]⟩=some r→topRun tb p w m0 ann (ls.length*f+N) s.abs (restOf ls.flatten env c pos [topFrame ⟨0,0,0,0⟩])=some r
 |[],s,sf,pos,pf,c0,cs,h,hc,N,r,k=>by cases h;rw [Jw,Nat.zero_mul,Nat.zero_add];exact piece_nil k
 |l::ls,s,sf,pos,pf,c0,cs,h,hc,N,r,k=>by
  unfold Hg at h;split at h
  ·rename_i s' c' pos' e;rw [Np,Nq] at h;have e1:=segRun_of e;rw [hc c' (Nu h c' (.head _))] at e1;have:=piece_app (rest:=ls.flatten) e1 (Q6 h hc k);rw [DN,HG,Nat.add_comm (ls.length*f) f,Nat.add_assoc];exact this
  ·cases h
end
noncomputable def ZaG {α:Type} (OS:Program→List Str→List Str→(Shared→Bool)→Bool→Shared→_) (IM:List Stmt→List Str) (p q:Program) (loose:List Str) (Yf:Shared→α) (H₀:Heap) (s:Shared):=
 ((staticsOk (IM p.main.body) H₀ s.heap&&namesBound p s.heap&&gensDone s&&laidKept H₀ s.heap),(OS q loose (IM p.main.body) (fun _=>true) true s:type_of% (openSeen q loose [] (fun _=>true) true s)),Yf s)
theorem left_of {p q:Program} {loose:List Str} {α:Type} {Yf:Shared→α} {Ya:World→α} {n:Nat} (e:opening p=plainProg p.main.scope.names) (fm:∀s,fenceModules? p s=some s)
 (size:∀w:World,((boot_heap w.params).isNs mainGlobals&&(Array.mk ([]:List GenState)).size==0,(boot_heap w.params).objs.size,(boot_heap w.params).nsMap mainGlobals "__annotations__")=(true,11,some (.ref 6)))
 (h:∀(w:World) (os:OsState),(Ep (stepT (denote treeTable) p w) (stepOk 11 (some (.ref 6))) (segRunT treeTable p w 11 (some (.ref 6)) 1) p (Q2 w.params os)).map (fun r=>(r.1,r.2.1,AJ r.2.2 (ZaG openSeen importedModules p q loose Yf (boot_heap w.params))))=
  some (⟨denote treeTable (Gq p),Gq p,⟨0,0,0,0⟩,[topFrame ⟨0,0,0,0⟩]⟩,List.replicate n (Gq p),(true,openGood q loose,Ya w))):
 LeftO p q loose (fun _=>true) Yf Ya 1000000:=fun w=>by
 obtain ⟨⟨hp,gs,d,k,os⟩,e0,e'⟩:=qaM.mp (boot_open (N:=1000000) e rfl fm w);obtain ⟨rfl,rfl,rfl,rfl⟩:hp=boot_heap w.params∧gs=Array.mk []∧d=boot_drawn∧k=boot_toks:=by simpa using e'
 obtain ⟨z1,z2,z3⟩:_∧_∧_:=by simpa only [Prod.mk.injEq] using size w
 obtain ⟨⟨ta,cs,sg⟩,h1,h2⟩:=qaM.mp (h w os);dsimp only at h2;rw [ZaF] at h2;obtain ⟨h3,h4⟩:=Prod.mk.inj h2;obtain ⟨h5,h6⟩:=Prod.mk.inj h4;obtain ⟨l1,h7⟩:=Prod.mk.inj h6;obtain ⟨l2,l3⟩:=Prod.mk.inj h7;have hcs:∀x∈cs,x=Gq p:=fun x hx=>by rw [h5] at hx;exact LD hx
 have run:topRun treeTable p w 11 (some (.ref 6)) 1000000 ⟨boot_heap w.params,Array.mk [],boot_drawn,boot_toks,os⟩ (topStub p)=some sg.abs:=by
  rw [←ZaE];unfold Ep at h1;split at h1
  ·rename_i sa ta' ea;split at h1
   ·rename_i sb cb pb eb;rw [Np,Nq] at h1;split at h1
    ·rename_i sf pf cs' ec;split at h1
     ·rename_i sg' eg;cases h1;have hb:=segRun_of eb;rw [hcs cb (Nu ec cb (.head _))] at hb;have c1:=Q6 ec hcs (Q5 eg);rw [Q0] at c1;have c2:=piece_block hb c1;have c3:=Q4 ea;rw [h3] at c3;have c4:=go_top c3 c2;have hl:=Q1 400 (behindTheImports p);have:=topRun_mono (1000000 - (12+(1+((cut 400 (behindTheImports p)).length*2000+2)))) _ _ _ _ c4
      rwa [show 12+(1+((cut 400 (behindTheImports p)).length*2000+2))+(1000000 - (12+(1+((cut 400 (behindTheImports p)).length*2000+2))))=1000000 by omega] at this
     ·cases h1
    ·cases h1
   ·cases h1
  ·cases h1
 have t:topFrom treeTable p w 1000000 ⟨boot_heap w.params,Array.mk [],boot_drawn,boot_toks,os⟩=some sg.abs:=by
  unfold topFrom;dsimp only;rw [z1,z2,z3,run]
  show (match staticsOk (importedModules p.main.body) (boot_heap w.params) sg.abs.heap&&namesBound p sg.abs.heap&&gensDone sg.abs&&laidKept (boot_heap w.params) sg.abs.heap with |true=>_ |false=>_)=_
  rw [l1]
 unfold openEnds;rw [e0]
 show (topFrom treeTable p w 1000000 _).map _=_
 rw [t];exact congrArg some (Prod.ext l2 l3)
def Gr:List Obj→Nat→Frag
 |[],_=>[]
 |o::l,a=>match o.isFreed with
  |true=>Gr l (a+1)
  |false=>match o.cls,a==mainNs||a==cStatics with
   |.none,false=>Gr l (a+1)
   |_,_=>(a,o)::Gr l (a+1)
def Q7 (h:Heap):Frag:=Gr h.objs.toList 0
theorem lookup_mem {a:Addr}:∀{l:Frag},l.lookup a=some o→(a,o)∈l
 |[],h=>by cases h
 |(b,o')::l,h=>by
  rw [FX] at h;split at h
  ·rename_i q;cases h;rw [beq_iff_eq.mp q];exact .head _
  ·exact .tail _ (lookup_mem h)
theorem Q8:∀{l:List Obj} {k:Nat} {p:Addr×Obj},p∈Gr l k→∃i,p.1=k+i∧l[i]?=some p.2∧p.2.isFreed=false
 |[],_,_,h=>by cases h
 |o::l,k,p,h=>by
  have rest:p∈Gr l (k+1)→∃i,p.1=k+i∧(o::l)[i]?=some p.2∧p.2.isFreed=false:=fun q=>by obtain ⟨i,h1,h2,h3⟩:=Q8 q;exact ⟨i+1,by rw [h1];show (k+1+i:Nat)=k+(i+1);omega,by simpa using h2,h3⟩
  unfold Gr at h;split at h
  ·exact rest h
  ·rename_i hf;split at h
   ·exact rest h
   ·rcases qa5.mp h with rfl |h
    ·exact ⟨0,rfl,rfl,hf⟩
    ·exact rest h
theorem ZaH (h:Heap):(Q7 h).In h:=fun a o e=>by
 obtain ⟨i,h1,h2,h3⟩:=Q8 (lookup_mem e);simp only [Nat.zero_add] at h1;subst h1;simp only at h2 h3;have e2:h.objs[a]?=some o:=by simpa using h2
 unfold Heap.get?;rw [e2];obtain ⟨c,d,dt,sl⟩:=o;cases dt<;>first |rfl |cases h3
def blank (fd:FuncData):FuncData:={fd with kwdefaults:=.none,doc:=.none,pyModule:=.none,annotations:=none,code:=.none,closureTuple:=.none}
def Nv (K:Frag) (n:Str):Option (FuncData×Bool×Bool):=match nsIn K mainGlobals n with
 |some (some (.ref f))=>(match K.lookup f with
  |some ⟨_,_,.func fd,_⟩=>some (blank fd,codeIn K fd.code n,keepIn K (.ref f))
  |_=>none)
 |_=>none
abbrev Nw (n:Str) (st:Stmt):FuncData:=fnOf n n (L2.defArgs st) (L2.defBody st) (L2.defScope st) .none .none .none .none none .none .none
inductive SeenF (K:Frag) (n:Str) (st:Stmt):Prop where
 |mk (f:Addr) (od an:Option Addr) (sl:Array (Option Value)) (oc kV dc pm cd ct:Value) (a:nsIn K mainGlobals n=some (some (.ref f)))
  (l:K.lookup f=some ⟨oc,od,.func (fnOf n n (L2.defArgs st) (L2.defBody st) (L2.defScope st) .none kV dc pm an cd ct),sl⟩) (c:codeIn K cd n=true) (k:keepIn K (.ref f)=true):SeenF K n st
theorem ZaI {K:Frag} {n:Str} {st:Stmt} (e:Nv K n=some (Nw n st,true,true)):SeenF K n st:=by
 unfold Nv at e;split at e
 ·rename_i f hf;split at e
  ·rename_i oc od fd sl hl;obtain ⟨e1,e2⟩:=Prod.mk.inj (Option.some.inj e);obtain ⟨e3,e4⟩:=Prod.mk.inj e2;obtain ⟨x1,x2,x3,x4,x5,x6,x7,x8,x9,x10,x11,x12,x13,x14,x15⟩:=fd;replace e1:FuncData.mk x1 x2 x3 x4 x5 x6 x7 x8 .none .none .none none .none .none x15=Nw n st:=e1;injection e1 with y1 y2 y3 y4 y5 y6 y7 y8 y9 y10 y11 y12 y13 y14 y15
   subst x1 x2 x3 x4 x5 x6 x7 x8 x15;exact ⟨f,od,x12,sl,oc,x9,x10,x11,x13,x14,hf,hl,e3,e4⟩
  ·cases e
 ·cases e
def Nx (K:Frag) (x:Str):Option Int:=match nsIn K mainGlobals x with
 |some (some (.int v _))=>some v
 |_=>none
theorem ZaJ {K:Frag} {v:Int} (e:Nx K x=some v):∃t,nsIn K mainGlobals x=some (some (.int v t)):=by
 unfold Nx at e;split at e
 ·rename_i t h;cases e;exact ⟨t,h⟩
 ·cases e
def Q9 (K:Frag) (h:Heap):Option (Option Obj×Bool×Bool):=match LS.tabP K "law" with
 |some (c,T)=>some (h.get? T,codeHdIn K c T,(K.lookup T).isNone)
 |none=>none
structure Want where
 fs:List (Str×Stmt)
 cs:List (Str×Int)
 bs:List Str
abbrev Ny:=List (Option (FuncData×Bool×Bool))×List (Option Int)×List (Option (Option Value))×Bool×Option (Option Obj×Bool×Bool)
def Ra (W:Want):Ny:=(W.fs.map fun x=>some (Nw x.1 x.2,true,true),W.cs.map fun x=>some x.2,W.bs.map fun _=>some none,true,some (some (tabObj #[]),true,true))
inductive Has (W:Want) (K:Frag) (c T:Addr):Prop where
 |mk (fs:∀(i:Nat) n st,W.fs[i]?=some (n,st)→SeenF K n st) (cs:∀(i:Nat) n v,W.cs[i]?=some (n,v)→∃t,nsIn K mainGlobals n=some (some (.int v t))) (bs:∀(i:Nat) n,W.bs[i]?=some n→nsIn K mainGlobals n=some none)
  (et:LS.etOk K=true) (tb:LS.tabP K "law"=some (c,T)) (hd:codeHdIn K c T=true) (no:K.lookup T=none):Has W K c T
def Says (W:Want) (_:World) (h:Heap):Prop:=∃(K:Frag) (c T:Addr),K.In h∧Has W K c T∧h.get? T=some (tabObj #[])
theorem Says.keeps {W:Want} (w:World) (h h':Heap) (x:Says W w h) (k:∀b o,h.get? b=some o→h'.get? b=some o):Says W w h':=by obtain ⟨K,c,T,h1,h2,h3⟩:=x;exact ⟨K,c,T,h1.keeps k,h2,k _ _ h3⟩
theorem Nz {α β:Type} {f g:α→β} {l:List α} (e:l.map f=l.map g) {i:Nat} {x:α} (h:l[i]?=some x):f x=g x:=by have:=congrArg (·[i]?) e;simp only [BO,h,EG,Option.some.injEq] at this;exact this
theorem tab_cd {K:Frag} {c T f:Addr} {oc kV dc pm cd ct:Value} {od an:Option Addr} {sl:Array (Option Value)} {st:Stmt} (h:LS.tabP K "law"=some (c,T)) (a:nsIn K mainGlobals "law"=some (some (.ref f)))
 (l:K.lookup f=some ⟨oc,od,.func (fnOf "law" "law" (L2.defArgs st) (L2.defBody st) (L2.defScope st) .none kV dc pm an cd ct),sl⟩):cd=.ref c:=by
 unfold LS.tabP at h;rw [a] at h;dsimp only at h;rw [l] at h;dsimp only at h;split at h
 ·split at h
  ·split at h
   ·cases h;rfl
   ·cases h
  ·cases h
 ·cases h
end Tp
namespace LS
open PySem PySem.W PySem.Spec PySem.Calls PyProof.Rows L2
end LS
namespace Tp
open PySem PySem.W PySem.Spec PySem.Calls PyProof.Rows
inductive Rb (K:Frag) (st:Stmt):Prop where
 |mk (C S f:Addr) (od an:Option Addr) (sl:Array (Option Value)) (kV dc pm cd ct:Value) (nC:nsIn K mainGlobals "TooMany"=some (some (.ref C))) (nS:nsIn K mainGlobals "SwitchError"=some (some (.ref S)))
  (l:K.lookup f=some ⟨.type "function",od,.func (fnOf "__init__" "TooMany.__init__" (L2.defArgs st) (L2.defBody st) (L2.defScope st) .none kV dc pm an cd ct),sl⟩) (c:codeIn K cd "TooMany.__init__"=true) (tm:LS.tmX K C f=true) (sw:LS.swX K S=true) (kp:keepIn K (.ref C)=true):Rb K st
def SaysT (W:Want) (st:Stmt) (_:World) (h:Heap):Prop:=∃(K:Frag) (c T:Addr),K.In h∧(Has W K c T∧Rb K st)∧h.get? T=some (tabObj #[])
theorem SaysT.keeps {W:Want} {st:Stmt} (w:World) (h h':Heap) (x:SaysT W st w h) (k:∀b o,h.get? b=some o→h'.get? b=some o):SaysT W st w h':=by obtain ⟨K,c,T,h1,h2,h3⟩:=x;exact ⟨K,c,T,h1.keeps k,h2,k _ _ h3⟩
end Tp
namespace LS
open PySem PySem.W PySem.Spec PySem.Calls PyProof.Rows L2
end LS
namespace LS
open PySem PySem.Spec PyProof.Rows L2
open Classical in
section
variable {X:Cx}
def ZaK (i j k:Nat) (ρ:Ag):List D→HD→Out (Fl×Ag)
 |[u,v,w],h=>.ok (.nx,((ρ.set i (some u)).set j (some v)).set k (some w)) h
 |_,_=>.stuck
end
@[simp] theorem Zf6 {i j k:Nat} {ρ:Ag} {u v w:D} {h:HD} {Q:Fl×Ag→HD→Prop}:Wp (ZaK i j k ρ [u,v,w] h) Q=Q (.nx,((ρ.set i (some u)).set j (some v)).set k (some w)) h:=rfl
section
variable {X:Cx}
end
section
variable {X:Cx} {E:XK} {D:Addr} {elt tg iter:Expr} {ifs:List Expr} {gs gens:List Comprehension} {scope:Scope} {pos:Pos} {Nc:List Str} {cs:List (Option Nat)} {it:MI} {gg:TG} {sg:MG} {t:MT} {f:ME} {e:CM} {d:Nat} {is js:List Nat}
end
noncomputable def KH:List (Int×Int)→MA
 |[]=>Ac
 |p::ps=>Aa (AW (Aa (mC (.int p.1)) (Aa (mC (.int p.2)) Ac))) (KH ps)
@[simp] theorem Zf7:KH []=Ac:=rfl
@[simp] theorem Zf8 {p:Int×Int} {ps:List (Int×Int)}:KH (p::ps)=Aa (AW (Aa (mC (.int p.1)) (Aa (mC (.int p.2)) Ac))) (KH ps):=rfl
section
variable {X:Cx} {E:XK}
end
end LS
namespace LS
open PySem PySem.Spec PySem.W PyProof.Rows L2
end LS
namespace LS
open PySem PySem.Spec PyProof.Rows L2 PySem.W
end LS
namespace Tp
open PySem PySem.W PySem.Spec PySem.Calls PyProof.Rows
inductive Rc (W:Want) (K:Frag):Prop where
 |mk (fs:∀(i:Nat) n st,W.fs[i]?=some (n,st)→SeenF K n st) (cs:∀(i:Nat) n v,W.cs[i]?=some (n,v)→∃t,nsIn K mainGlobals n=some (some (.int v t))) (bs:∀(i:Nat) n,W.bs[i]?=some n→nsIn K mainGlobals n=some none)
  (et:True):Rc W K
def Says0 (W:Want) (_:World) (h:Heap):Prop:=∃K:Frag,K.In h∧Rc W K
theorem Says0.keeps {W:Want} (w:World) (h h':Heap) (x:Says0 W w h) (k:∀b o,h.get? b=some o→h'.get? b=some o):Says0 W w h':=by obtain ⟨K,h1,h2⟩:=x;exact ⟨K,h1.keeps k,h2⟩
end Tp
namespace LS
open PySem PySem.W PySem.Spec PySem.Calls PyProof.Rows L2
end LS
namespace LS
open PySem PySem.Spec PyProof.Rows L2
def IA:D→HD→Out D:=fun x h=>match x with
 |.loc l=>(match h[l]? with
  |some (.lst ds)=>BJ ds.reverse h
  |_=>.stuck)
 |_=>.stuck
def IB (f:ME):ME:=fun ρ h=>(f ρ h).bind IA
section
variable {X:Cx} {E:XK} {e:Expr} {f:ME}
theorem ZaL {j:Nat} (he:Ev X E e f):Ev X E (.Subscript e (.Slice none none (some (.UnaryOp .USub (.Constant (.int 1) j p1) p2)) p3) pos) (IB f):=by
 rintro pins s σ H Q I ⟨m,ρ,h,hr,er,p⟩;have p':tD X.K E f σ H fun v H1=>∃t xs,v=.ref t∧SqL X.K H1 t xs∧∀q,H1 q=none→Q (.ref q) (Aq H1 q (.lst xs.reverse)):=⟨m,ρ,h,hr,er,Post.bind p fun x h1 v m1 H1 eo p1 k1 hr1 r1 q1=>by
  clear eo;unfold IA at q1;split at q1
  ·simp only [rD,DV] at r1;obtain ⟨t,rfl,ht⟩:=r1;split at q1
   ·rename_i ds e1;obtain ⟨vs,h1',d1⟩:=hr1.cells _ _ t e1 ht;exact ⟨t,vs,rfl,SqL.of h1',(Fy (X:=X) hr1 (DVs.rev d1) q1).2⟩
   ·exact q1.elim
  ·exact q1.elim⟩
 refine Subscript_ (Au (he pins s σ H _ I p') fun v s1 z1_=>?_);obtain ⟨x,H1,I1,r1,t,xs,ex,hq,q1⟩:=z1_;subst ex;cases r1;refine wpAny_Slice ?_;rw [evalPart_none,evalPart_some];refine Ak (Ak ?_);have st:PE X (.UnaryOp .USub (.Constant (.int 1) j p1) p2) (L4 (rU fun i=>.int (-i)) (tC (.int 1))):=L6 L7 LP;refine Au (st pins s1 σ H1 (fun v H3=>v=.int (-1)∧H3=H1) I1 ⟨1,rfl,rfl,rfl⟩) fun sv s3 z2_=>?_;obtain ⟨x,H3,I3,r3,ex,eH⟩:=z2_;subst ex eH;obtain ⟨tk,rfl⟩:=r3;obtain ⟨its,rv,pl,hz⟩:=I3.list hq;have I4:Inv X pins σ H3 {s3 with heap:=s3.heap.push {cls:=.type "slice",data:=.fields #[.none,.none,.int (-1) tk]}}:=I3.kept (t':=s3.toks) fun b ob q=>Aw _ q;have hsl:(s3.heap.push {cls:=.type "slice",data:=.fields #[.none,.none,.int (-1) tk]}).IsSliceOf s3.heap.objs.size .none .none (.int (-1) tk):=Heap.IsSliceOf.new ..;obtain ⟨o,n,ho,hc,hd,hs⟩:=pl;have pl4:(s3.heap.push {cls:=.type "slice",data:=.fields #[.none,.none,.int (-1) tk]}).IsList t its.toArray:=⟨o,Aw _ ho,hc,n,hs⟩
 have ty:({s3 with heap:=s3.heap.push {cls:=.type "slice",data:=.fields #[.none,.none,.int (-1) tk]}}:Shared).TypeIs (.ref t) "list":=⟨o,Aw _ ho,hc⟩
 show wpAny (model X.prog X.w) X.A (subscriptTail e (.Slice none none (some (.UnaryOp .USub (.Constant (.int 1) j p1) p2)) p3) (.ref t) (.ref s3.heap.objs.size)) (EP X pins σ Q) X.xe {s3 with heap:=s3.heap.push {cls:=.type "slice",data:=.fields #[.none,.none,.int (-1) tk]}}
 refine tail_any (ops:=[.ref t,.ref s3.heap.objs.size]) (T:="list") ty PySem.slot_list_getitem.lookup (wpAny_getItem_list_slice (s:={s3 with heap:=s3.heap.push {cls:=.type "slice",data:=.fields #[.none,.none,.int (-1) tk]}}) (lo:=none) (hi:=none) (st:=some (-1)) pl4 hsl ?_ ?_ ?_ (by decide) ?_ (by rw [AY,←rv.length];exact hz)) (by with_unfolding_all rfl)
 ·exact .none
 ·exact .none
 ·exact .int _ _
 ·rw [PySem.W.krv_pick];exact ⟨.ref _,_,Inv.lnew (t':=s3.toks) I4 (QL rv) (by rw [List.length_reverse];exact hz),rfl,q1 _ (I4.hok.fresh (Ax _))⟩
end
def Hh:D→D→HD→Out D:=fun x y h=>match x with
 |.exc _ _=>.stuck
 |.edic=>.stuck
 |_=>AG x y h
section
variable {h:HD} {y:D} {i:Int} {b:Bool} {x:Str} {ds:List D} {l:Nat}
@[simp] theorem Zf9:Hh (.int i) y h=AG (.int i) y h:=rfl
@[simp] theorem Zga:Hh (.bl b) y h=AG (.bl b) y h:=rfl
@[simp] theorem Zgb:Hh .non y h=AG .non y h:=rfl
@[simp] theorem Zgc:Hh (.str x) y h=AG (.str x) y h:=rfl
@[simp] theorem Zgd:Hh (.tup ds) y h=AG (.tup ds) y h:=rfl
@[simp] theorem Zge:Hh (.loc l) y h=AG (.loc l) y h:=rfl
end
end LS
namespace LS
open PySem PySem.Spec PyProof.Rows L2 PySem.W PySem.Calls
section
variable {X:Cx} {E:XK}
def ZaM:D→HD→Out D
 |.str x,h=>.ok (.str x) h
 |_,_=>.stuck
end
section
variable {n:Str} {fa:MA} {f:ME} {ρ:Ag} {h:HD} {Q:D→HD→Prop}
@[simp] theorem Zgf {x:Str}:ZaM (.str x) h=.ok (.str x) h:=rfl
end
section
variable {X:Cx} {E:XK}
end
section
variable {f g:ME} {ρ:Ag} {h:HD} {Q:D→HD→Prop} {l k:Nat} {ds es:List D}
end
def isI:Kyd→Bool
 |.i _=>true
 |_=>false
def KI (kvs:List (Kyd×D)):Bool:=kvs.all fun p=>isI p.1
def B6 (kvs:List (Kyd×D)) (k:Kyd):Option D:=(kvs.find? fun p=>decide (p.1=k)).map (·.2)
def Cw (kvs:List (Kyd×D)) (k:Kyd) (v:D):List (Kyd×D):=if kvs.any (fun p=>decide (p.1=k)) then kvs.map (fun p=>if p.1=k then (p.1,v) else p) else kvs++[(k,v)]
def IR (K:Frag) (m:List Addr) (H:Hp) (p:Kyd×D) (q:Int×Value):Prop:=p.1=.i q.1∧∃v,DV K m H p.2 v∧RelV v q.2
section
variable {P:Program} {w:World} {K:Frag} {m:List Addr} {H:Hp} {h:Heap} {a:Addr}
theorem EntD.len:∀{kvs:List (Kyd×D)} {es:List (Kyd×V×V)},EntD K m H kvs es→kvs.length=es.length
 |[],_,e=>by simp only [EntD] at e;subst e;rfl
 |_::_,_,e=>by simp only [EntD] at e;obtain ⟨kv,vv,r',rfl,_,_,t⟩:=e;simp [EntD.len t]
theorem Re:∀{kvs:List (Kyd×D)} {es:List (Kyd×V×V)} {ul:List DictEntry},EntD K m H kvs es→KI kvs=true→Paired JR es ul→
 ∃vs:List (Int×Value),Pairs (intKind P w) ul vs∧(∀e∈ul,∃k,(intKind P w).is k e.key=true∧e.hash=(intKind P w).hash k)∧Paired (IR K m H) kvs vs∧vs.map (fun q=>Kyd.i q.1)=es.map (·.1)
 |[],_,_,e,_,p=>by simp only [EntD] at e;subst e;cases p;exact ⟨[],.nil,by simp,.nil,rfl⟩
 |(k,d)::kvs,_,_,e,hi,p=>by
  simp only [EntD] at e;obtain ⟨kv,vv,r',rfl,d1,d2,t⟩:=e;simp only [KI,HE,B3] at hi;cases p with
  |cons p1 p2=>
   rename_i e ul';obtain ⟨vs,h1,h2,h3,h4⟩:=Re t hi.2 p2;obtain ⟨q1,q2,q3⟩:=p1;cases k with
   |i n=>
    simp only [kD,DV] at d1;subst d1;obtain ⟨tk,q2⟩:=q2;have hk:(intKind P w).is n e.key=true:=by rw [q2];exact intKind_is P w n tk
    refine ⟨(n,e.val)::vs,.cons hk rfl h1,fun x hx=>?_,.cons ⟨rfl,vv,d2,q3⟩ h3,by simp [h4]⟩;rcases qa5.mp hx with rfl |hx
    ·exact ⟨n,hk,q1⟩
    ·exact h2 x hx
   |t ns=>cases hi.1
   |b rs=>cases hi.1
theorem ZaN {vs:List (Int×Value)} {es:List (Kyd×V×V)} (e:vs.map (fun q=>Kyd.i q.1)=es.map (·.1)) (nd:(es.map (·.1)).Nodup):(vs.map (·.1)).Nodup:=by rw [←e] at nd;unfold List.Nodup at nd ⊢;rw [HA] at nd ⊢;exact nd.imp fun z y=>z (by rw [y])
theorem ZaO {es:List (Kyd×V×V)} {kvs:List (Kyd×D)} (d:B9 a es h) (e:EntD K m H kvs es) (hi:KI kvs=true):
 ∃(ob:Obj) (us:Array DictEntry) (ep:Nat) (vs:List (Int×Value)),h.get? a=some ob∧ob.data=.dict us ep∧h.DictAt (intKind P w) a vs ep∧Paired (IR K m H) kvs vs:=by
 obtain ⟨hs,hz,nd,o,us,ep,h1,h2,h3,h4⟩:=d;obtain ⟨vs,q1,q2,q3,q4⟩:=Re (P:=P) (w:=w) e hi h4;exact ⟨o,us,ep,vs,h1,h3,⟨o,us,h1,h2,h3,fun x hx=>q2 x (Array.mem_toList_iff.mpr hx),q1,ZaN q4 nd⟩,q3⟩
theorem Rf {n:Int}:∀{kvs:List (Kyd×D)} {vs:List (Int×Value)},Paired (IR K m H) kvs vs→(B6 kvs (.i n)=none∧valueAt vs n=none)∨∃d u v,B6 kvs (.i n)=some d∧valueAt vs n=some u∧DV K m H d v∧RelV v u
 |_,_,.nil=>.inl ⟨rfl,rfl⟩
 |_,_,.cons r t=>by
  rename_i x y xs ys;obtain ⟨r1,v,r2,r3⟩:=r
  by_cases z:y.1=n
  ·refine .inr ⟨x.2,y.2,v,?_,?_,r2,r3⟩
   ·simp [B6,DO,r1,z]
   ·simp [valueAt,DO,z]
  ·have e1:B6 (x::xs) (.i n)=B6 xs (.i n):=by simp [B6,DO,r1,z]
   have e2:valueAt (y::ys) n=valueAt ys n:=by simp [valueAt,DO,z]
   rw [e1,e2];exact Rf t
theorem ZaP {kvs:List (Kyd×D)} {k:Kyd}:(Cw kvs k d).length≤kvs.length+1:=by
 unfold Cw
 split<;>simp
theorem NA {es:List (Kyd×V×V)} (d:B9 a es h):ObjOk P w H' h a (.dct (B9 a es)):=
 ⟨d,let ⟨_,_,_,o,_,_,e,_⟩:=d;⟨o,e⟩,fun h1 h2 ⟨x1,x2,x3,o,us,ep,e,r⟩ k=>⟨x1,x2,x3,o,us,ep,k _ e,r⟩⟩
end
section
variable {X:Cx} {E:XK} {pins:List (Addr×Obj)} {σ:L2.St} {H:Hp} {s:Shared}
theorem Rg (I:Inv X pins σ H s):(s.heap.objs.size==sysModules)=false:=by
 have ne:s.heap.objs.size≠sysModules:=by obtain ⟨og,_,_,eg,_⟩:=I.ok.mod.glob;obtain ⟨ml,⟨ol,_,_,el,_⟩,_⟩:=I.loc;have h1:(3:Nat)<X.base.objs.size:=AC eg;have h2:(X.env.locals:Nat)<s.heap.objs.size:=AC el;have h3:X.base.objs.size≤X.s₀.heap.objs.size:=I.ok.bsz;have h4:X.s₀.heap.objs.size≤(X.env.locals:Nat):=I.ok.above;have h5:(1:Nat)<s.heap.objs.size:=AU (AU (show 1<4 by decide) h1) (Br h3 (Br h4 (EH h2)));exact fun z=>BS h5 z
 exact beq_eq_false_iff_ne.mpr ne
def IC (kvs:List (Kyd×D)) (h:HD):Out D:=.ok (.loc h.length) (h++[.dic false kvs])
def NB:ME:=fun _ h=>IC [] h
theorem Rh {Q:VK} {kvs:List (Kyd×D)} {es:List (Kyd×V×V)} (hr:HR X.K m h H) (hf:H a=none) (k:Kp H H1) (p:Post X.K (rD X.K) m H E Q (IC kvs h)) (e1:H1=Aq H a (.dct (B9 a es))) (en:EntD X.K m H kvs es):Q (.ref a) H1:=by subst e1;refine p (.ref a) (m++[a]) _ (FT _ _) (.new hf) (hr.newCell hf ⟨es,B0,en.keep (FT _ _) (.new hf)⟩) ?_;simp only [rD,DV];refine ⟨a,rfl,?_⟩;rw [←hr.len];simp
theorem ZaQ:Ev X E (.Dict [] [] pos) NB:=fun pins s σ H Q I z1_=>by
 obtain ⟨m,ρ,h,hr,er,p⟩:=z1_;have hf:H s.heap.objs.size=none:=I.hok.fresh (Ax _);exact wpAny_Dict_empty ⟨.ref s.heap.objs.size,Aq H s.heap.objs.size (.dct (B9 s.heap.objs.size [])),I.laid (t':=s.toks) (fun _ _ q=>Aw _ q) (Ax _) (NA ⟨Rg I,B8 _,List.nodup_nil,_,#[],0,Bc _ rfl,⟨rfl,rfl,rfl⟩,rfl,.nil⟩),rfl,
  Rh (es:=[]) hr hf (.new hf) p rfl (by simp [EntD])⟩
def Gs:D→HD→Out D:=fun x h=>match x with
 |.loc l=>(match h[l]? with
  |some (.dic _ _)=>.ok x h
  |_=>.stuck)
 |_=>.stuck
theorem NC {fz:Bool} {es:List (Kyd×V×V)} (I:Inv X pins σ H s) (d:DicH fz H a es):B9 a es s.heap:=by have:=d.rd.ok I.hok;exact (show ObjOk X.prog X.w H s.heap a (.dct (B9 a es)) from this).1
theorem Ri {es:List (Kyd×V×V)} (d:B9 a es s.heap):s.TypeIs (.ref a) "dict"∧∀b,Value.ref a=.ref b→∃ob,s.heap.get? b=some ob∧ob.dict=none:=by obtain ⟨_,_,_,o,us,ep,h1,h2,h3,_⟩:=d;exact ⟨⟨o,h1,h2.1⟩,fun b z=>by cases z;exact ⟨o,h1,h2.2.1⟩⟩
theorem ZaR:M5 X "dict" Gs where
 two:=fun x h=>by
  unfold Gs;split
  ·split
   ·exact .inl rfl
   ·exact .inr rfl
  ·exact .inr rfl
 ty:=fun m H h x v hr r e=>by
  unfold Gs at e;split at e
  ·rename_i l;split at e
   ·rename_i fz kvs el;simp only [DV] at r;obtain ⟨a,rfl,ha⟩:=r;obtain ⟨es,he,_⟩:=hr.cells l _ a el ha;intro pins σ s u I ru;cases (show u=Value.ref a from ru);exact Ri (NC I he)
   ·cases e
  ·cases e
end
section
variable {f g k fo fi fv:ME} {ρ:Ag} {h:HD} {Q:D→HD→Prop} {QS:Fl×Ag→HD→Prop} {QI:List D×A3→HD→Prop} {i j:Int} {l:Nat} {fz:Bool} {kvs:List (Kyd×D)}
@[simp] theorem Zgg:Wp (NB ρ h) Q=Q (.loc h.length) (h++[.dic false []]):=id rfl
theorem ZaS (e:h[l]?=some (.dic fz kvs)):Gs (.loc l) h=.ok (.loc l) h:=by simp only [Gs,e]
end
namespace Db
open PySem
section
variable {prog:Program} {w:World} {A:Around} {E:Value→Shared→Prop} {s:Shared}
abbrev iK (prog:Program) (w:World):KeyKind prog w Int:=intKind prog w
inductive RowsAre (prog:Program) (w:World) (h:Heap):List (List Int)→List Value→Prop
 |nil:RowsAre prog w h [] []
 |cons {k:List Int} {v:Value} {ks:List (List Int)} {vs:List Value}:(∃b,v=.ref b∧IsTupleKey (iK prog w) h k b)→RowsAre prog w h ks vs→RowsAre prog w h (k::ks) (v::vs)
def IsBoardKey (prog:Program) (w:World) (h:Heap) (ks:List (List Int)) (a:Addr):Prop:=∃o items n,h.get? a=some o∧o.cls=.type "tuple"∧o.data=.seq items n∧RowsAre prog w h ks items.toList
theorem RowsAre.inj {x y:List (List Int)} (hx:RowsAre prog w h x vs) (hy:RowsAre prog w h y vs):x=y:=by
 induction hx generalizing y with
 |nil=>cases hy;rfl
 |cons h1 _ ih=>
  cases hy with
  |cons h2 t2=>obtain ⟨b1,rfl,q1⟩:=h1;obtain ⟨b2,e,q2⟩:=h2;cases e;rw [q1.inj q2,ih t2]
theorem IsBoardKey.inj {x y:List (List Int)} (hx:IsBoardKey prog w h x a) (hy:IsBoardKey prog w h y a):x=y:=by
 obtain ⟨o,items,n,ho,_,hd,hi⟩:=hx;obtain ⟨o',items',n',ho',_,hd',hi'⟩:=hy;obtain rfl:o=o':=Option.some.inj (ho.symm.trans ho');rw [hd] at hd';injection hd' with h1 _
 subst h1;exact hi.inj hi'
theorem IsBoardKey.typeIs {ks:List (List Int)} (x:IsBoardKey prog w s.heap ks a):s.TypeIs (.ref a) "tuple":=let ⟨o,_,_,ho,hc,_⟩:=x;⟨o,ho,hc⟩
theorem RowsAre.keeps {h h':Heap} {o:Obj} {es ep} (ho:h.get? d=some o) (hd:o.data=.dict es ep) (hs:Heap.SameBut d h h'):∀{ks:List (List Int)} {vs:List Value},RowsAre prog w h ks vs→RowsAre prog w h' ks vs
 |_,_,.nil=>.nil
 |_,_,.cons h1 t=>.cons (let ⟨b,e,q⟩:=h1;⟨b,e,q.keeps ho hd hs⟩) (RowsAre.keeps ho hd hs t)
theorem IsBoardKey.keeps {h h':Heap} {ks:List (List Int)} {o:Obj} {es ep} (x:IsBoardKey prog w h ks a) (ho:h.get? d=some o) (hd:o.data=.dict es ep) (hs:Heap.SameBut d h h'):IsBoardKey prog w h' ks a:=by
 obtain ⟨o',items,n,ho',hc,hd',hi⟩:=x;have hne:a≠d:=by rintro rfl;obtain rfl:o'=o:=Option.some.inj (ho'.symm.trans ho);rw [hd] at hd';exact nomatch hd'
 exact ⟨o',items,n,(hs.2 a hne).trans ho',hc,hd',hi.keeps ho hd hs⟩
end
section
variable {prog:Program} {w:World} {A:Around} {E:Value→Shared→Prop} {s:Shared}
end
end Db
end LS
namespace LS
open PySem PySem.Spec PyProof.Rows L2 PySem.W PySem.Calls
section
variable {P:Program} {w:World} {K:Frag} {m:List Addr} {H:Hp} {h:Heap} {a:Addr}
theorem Rj:∀{ns:List Int} {vs:List V} {us:List Value},DVs K m H (ns.map D.int) vs→Vals vs us→ItemsAre (intKind P w) ns us
 |[],_,_,r,t=>by simp only [Dy,DVs] at r;subst r;cases t;exact .nil
 |n::ns,_,_,r,t=>by
  simp only [AZ,DVs] at r;obtain ⟨v,vs,rfl,rv,rr⟩:=r;simp only [DV] at rv;subst rv;cases t with
  |cons t1 t2=>obtain ⟨tk,rfl⟩:=t1;exact .cons (intKind_is P w n tk) (Rj rr t2)
theorem ZaT (ok:HOk P w H h∧K.In h) {ns:List Int} {v:V} (d:DV K m H (.tup (ns.map D.int)) v):∃b,v=.ref b∧IsTupleKey (intKind P w) h ns b:=by simp only [DV] at d;obtain ⟨b,vs,rfl,hb,dv⟩:=d;obtain ⟨_,its,f2,⟨o,ho,hc,n,hd⟩,_⟩:=tok ok hb;exact ⟨b,rfl,o,its.toArray,n,ho,hc,hd,by simpa using Rj dv f2⟩
end
def Hi:List D→Option (List Int)
 |[]=>some []
 |.int n::ds=>(Hi ds).map (n::·)
 |_=>none
theorem Rk:∀{ds:List D} {ns:List Int},Hi ds=some ns→ds=ns.map D.int
 |[],_,e=>by cases e;rfl
 |d::ds,ns,e=>by
  cases d<;>simp only [Hi] at e<;>try cases e
  rename_i n;cases q:Hi ds with
  |none=>rw [q] at e;cases e
  |some ms=>rw [q] at e;cases e;rw [Rk q];rfl
section
variable {X:Cx} {E:XK} {pins:List (Addr×Obj)} {σ:L2.St} {H:Hp} {s:Shared}
end
section
variable {f fo fi fv:ME} {ρ:Ag} {h:HD} {QS:Fl×Ag→HD→Prop} {QI:List D×A3→HD→Prop}
end
namespace Dt
open PySem
theorem Rl:entryFor table "dict.update.loop"=some Builtin.«dict.update.loop»:=entryFor_of_tree (by kernel_rfl)
theorem KJ:plainId "dict.update.loop"=true:=by decide +kernel
theorem ZaU:typeLookup (.type "list") "keys"=pure none:=by rw [typeLookup_type,builtinLookup_eq_fast];kernel_rfl
section
variable {prog:Program} {w:World} {A:Around} {E:Value→Shared→Prop} {s:Shared}
theorem ZaV {o:Obj} {xs:Array Value} {k:Nat} {Q:Option Value→Shared→Prop} (hx:s.heap.get? a=some o) (hc:o.cls=.type "list") (hdat:o.data=.seq xs k) (hd:o.dict=none) (hA:A.handled=none)
 (h:∀h' tk,(∀b o,s.heap.get? b=some o→h'.get? b=some o)→Q none {s with heap:=h',toks:=tk}):wpAny (model prog w) A (getAttr? (.ref a) "keys") Q E s:=by
 obtain ⟨c,dct,dat,sl⟩:=o;simp only at hc hdat hd;subst hc hdat hd;obtain ⟨hp,g,d,tk,os⟩:=s;have hT:∀tk',(⟨hp,g,d,tk',os⟩:Shared).TypeIs (.ref a) "list":=fun _=>⟨_,hx,rfl⟩
 have f1:=sub_AttributeError;have f3:=F.slot_list_getattribute.lookup;have f4:=F.slot_list_getattribute.bind (.ref a);have f5:=am_list_getattr_none;unfold getAttr? getAttrBy? getAttrBy
 repeat (any_goals (first |assumption |exact hT _ |((with_reducible show wpAny _ _ (call (Value.builtin "list.__getattribute__") _ _) _ _ _);refine call_meets F.slot_list_getattribute (hT _) am_entry_list_getattribute (F.args_list_getattribute_2 _ _) (meets_getattribute_miss_list a xs k sl "keys" _ ZaU (by decide +kernel) (by size_fits)) ⟨hx,hA,fun h' tk' e hx'=>?_⟩) |wp_step))
 obtain ⟨t',u',he⟩:=hx'.there
 show wpAny _ _ (getattributeRaised _ _ _ _ _ _ _) _ _ _
 unfold getattributeRaised
 repeat (any_goals (first |assumption |wp_step))
 all_goals exact h _ _ hx'.keeps
abbrev iK (prog:Program) (w:World):KeyKind prog w Int:=intKind prog w
abbrev tK (prog:Program) (w:World):HeapKind prog w (List Int):=tupleKind (iK prog w)
abbrev Ent:=List Int×Addr×Value
def PrAt (P:Program) (w:World) (h:Heap) (u:Value) (e:Ent):Prop:=∃p o m,u=.ref p∧h.get? p=some o∧o.cls=.type "tuple"∧o.data=.seq #[.ref e.2.1,e.2.2] m∧IsTupleKey (iK P w) h e.1 e.2.1
def put1 (xs:List Ent) (e:Ent):List Ent:=storedH xs e.1 e.2.1 e.2.2
theorem Rm {h h':Heap} {ks:List Int} (x:IsTupleKey (iK prog w) h ks a) (k:∀b o,h.get? b=some o→h'.get? b=some o):IsTupleKey (iK prog w) h' ks a:=let ⟨o,it,n,e,r⟩:=x;⟨o,it,n,k _ _ e,r⟩
theorem Rn:∀{L acc:List Ent},(∀e∈L,IsTupleKey (iK prog w) h0 e.1 e.2.1)→(∀x∈acc,IsTupleKey (iK prog w) h0 x.1 x.2.1)→∀x∈L.foldl put1 acc,IsTupleKey (iK prog w) h0 x.1 x.2.1
 |[],acc,_,ha,x,hx=>ha x hx
 |e::L,acc,hL,ha,x,hx=>Rn (L:=L) (acc:=put1 acc e) (fun y hy=>hL y (AN _ hy)) (fun y hy=>by
   rcases mem_storedH hy with ⟨z,hz,e1,e2⟩ |⟨e1,e2⟩
   ·rw [e1,e2];exact ha z hz
   ·rw [e1,e2];exact hL e AK) x hx
theorem ZaW {xs:List Ent} {e:Ent}:(put1 xs e).length≤xs.length+1:=by
 unfold put1 storedH
 split<;>simp
theorem Ro:∀{L acc:List Ent},(L.foldl put1 acc).length≤acc.length+L.length
 |[],acc=>by simp
 |e::L,acc=>by rw [EF];have:=Ro (L:=L) (acc:=put1 acc e);have:=ZaW (xs:=acc) (e:=e);simp;omega
theorem ND {h h' h0:Heap} {xs:List Ent} (x:h.DictOfH (tK prog w) d xs) (hk:∀x∈xs,IsTupleKey (iK prog w) h0 x.1 x.2.1) (k0:∀b o,h0.get? b=some o→h'.get? b=some o) (kd:∀o,h.get? d=some o→h'.get? d=some o):h'.DictOfH (tK prog w) d xs:=
 let ⟨o,es,ep,ho,hc,hd,he,_,hn⟩:=x;⟨o,es,ep,kd _ ho,hc,hd,he,fun y hy=>Rm (hk y hy) k0,hn⟩
theorem ZaX {I l d:Addr} {items:Array Value} {es:List Ent} {h0:Heap} {R:Result→Shared→Prop} (hh:A.in1.handled=none) (hu:A.in1.units<cLine) (hl:l<h0.objs.size) (hd:h0.objs.size≤d) (hI:h0.objs.size≤I) (hdI:d≠I)
 (hp:∀(i:Nat) (v:Value),items[i]?=some v→∃e,es[i]?=some e∧PrAt prog w h0 v e) (hlen:es.length=items.size) (hz:items.size≤sizeLine):
 ∀(k i:Nat) (s:Shared),items.size - i=k→i≤items.size→s.heap.IsListIter I l i→s.heap.IsList l items→(∀b o,h0.get? b=some o→s.heap.get? b=some o)→s.heap.DictOfH (tK prog w) d ((es.take i).foldl put1 [])→
  (∀h' tk,(∀b o,h0.get? b=some o→h'.get? b=some o)→h'.DictOfH (tK prog w) d (es.foldl put1 [])→R (.ok (.ret .none)) {s with heap:=h',toks:=tk})→
  codeAny (model prog w) A (.builtin "dict.update.loop" ⟨[.ref d,.ref I,.int (i:Int) 0,.none],[]⟩) R s:=by
 have hlI:l≠I:=Bf (AU hl hI);have hdl:l≠d:=Bf (AU hl hd);have bI:∀b o,h0.get? b=some o→b∉[I]:=fun b o e=>by have:b≠I:=Bf (AU (AC e) hI);simpa using this
 have W:=Walks.list (prog:=prog) (w:=w) hh I l hlI items;have keys:∀e∈es,IsTupleKey (iK prog w) h0 e.1 e.2.1:=fun e he=>by obtain ⟨j,hj⟩:=List.mem_iff_getElem?.mp he;have hjl:=(qa1.mp hj).1;obtain ⟨e',h1,_,_,_,_,_,_,_,h2⟩:=hp j items[j] (by simp);rw [hj] at h1;cases h1;exact h2
 have kt:∀i,∀x∈(es.take i).foldl put1 [],IsTupleKey (iK prog w) h0 x.1 x.2.1:=fun i=>Rn (fun e he=>keys e (EB he)) (fun x hx=>nomatch hx);intro k
 induction k with
 |zero=>
  intro i s hk hi hit hL h0s hD hR;have hin:i=items.size:=by omega
  subst hin;refine codeAny_builtin Rl ?_;rw [Around.under_plainId KJ _]
  show wpAny _ A.in1 (pyNext (.ref I) >>=_) _ _ s
  refine Ad (W.done s _ _ ⟨hit,hL⟩ fun h' tk hm=>?_)
  show wpAny _ A.in1 (Builtin.Dict.addKeywords d [] >>=_) _ _ _
  have k0:∀b o,h0.get? b=some o→h'.get? b=some o:=fun b o e=>hm b o (bI b o e) (h0s b o e);refine Ad (Ak (Ak (hR h' tk k0 ?_)));have:=ND hD (kt _) k0 fun o e=>hm d o (by simpa using hdI) e
  rwa [Hu (by omega)] at this
 |succ k ih=>
  intro i s hk hi hit hL h0s hD hR;have hlt:i<items.size:=by omega
  refine codeAny_builtin Rl ?_;rw [Around.under_plainId KJ _]
  show wpAny _ A.in1 (pyNext (.ref I) >>=_) _ _ s
  refine Ad (W.item i s _ _ hlt ⟨hit,hL⟩ fun v h' tk hP st hm=>?_);obtain ⟨e,he,p,o,m,rfl,ho,hc,hda,hkey⟩:=hp i v hP;have k0:∀b o,h0.get? b=some o→h'.get? b=some o:=fun b o e=>hm b o (bI b o e) (h0s b o e);have hD':=ND hD (kt _) k0 fun o e=>hm d o (by simpa using hdI) e
  show wpAny _ A.in1 (holding [Value.ref p] _ >>=_) _ _ _
  refine Ad (Ci ?_);refine Ad (wpAny_tryCatch ?_);unfold Builtin.Dict.pairItems;refine Ad (wpAny_typeOf (show Shared.TypeIs {s with heap:=h',toks:=tk} (.ref p) "tuple" from ⟨o,k0 _ _ ho,hc⟩) ?_)
  show wpAny _ _ (do return ((←seqItems? (.ref p)).getD #[]).toList) _ _ _
  refine Ad (wpAny_seqItems (k0 _ _ ho) hda (Ak ?_))
  show wpAny _ _ (holding [Value.ref e.2.1,e.2.2] (dictSet d (.ref e.2.1) e.2.2)) _ _ _
  refine Ci (wpAny_dictSet_heap (s:={s with heap:=h',toks:=tk}) (knd:=tK prog w) hu (Rm hkey k0) hD' (fun h2 hD2 hs=>?_) ?_)
  ·have k2:∀b o,h0.get? b=some o→h2.get? b=some o:=fun b o e=>by rw [hs.2 b (Bf (AU (AC e) hd))];exact k0 b o e
   have hnext:(es.take (i+1)).foldl put1 []=storedH ((es.take i).foldl put1 []) e.1 e.2.1 e.2.2:=by rw [List.take_succ,he,Jq];rfl
   refine Ak ⟨plainId_quiet KJ _,?_⟩;have:=ih (i+1) {s with heap:=h2,toks:=tk+(tK prog w).draws e.1} (by omega) hlt (st.1.at fun o e=>by rw [hs.2 I (Ne.symm hdI)];exact e) (st.2.at fun o e=>by rw [hs.2 l hdl];exact e) k2 (by rw [hnext];exact hD2) fun h3 tk3 k3 hD3=>hR h3 tk3 k3 hD3;exact this
  ·have:=Ro (L:=es.take i) (acc:=[]);rw [FW] at this;simp at this;omega
theorem call_pairs {items:Array Value} {n:Nat} {es:List Ent} {Q:Value→Shared→Prop} (hh:A.handled=none) (hu:A.units+64<cLine) {ob:Obj} (hl:s.heap.get? l=some ob) (hlc:ob.cls=.type "list") (hld:ob.data=.seq items n) (hln:ob.dict=none)
 (hp:∀(i:Nat) (v:Value),items[i]?=some v→∃e,es[i]?=some e∧PrAt prog w s.heap v e) (hlen:es.length=items.size) (hz:items.size≤sizeLine)
 (h:∀h' tk,(∀b o,s.heap.get? b=some o→h'.get? b=some o)→h'.DictOfH (tK prog w) s.heap.objs.size (es.foldl put1 [])→Q (.ref s.heap.objs.size) {s with heap:=h',toks:=tk}):
 wpAny (model prog w) A (call (.type "dict") [.ref l]) Q E s:=by
 refine callType_codes (Q₁:=fun obj s₁=>obj=.ref s.heap.objs.size∧s₁={s with heap:=s.heap.push {cls:=.type "dict",data:=.dict #[]}}) F.kt_called_dict (F.kt_typeCall_dict_1 _) F.entry_dict_init (kt_code_dict_new _ ⟨rfl,rfl⟩) ?_;rintro obj s₁ ⟨rfl,rfl⟩;have hnew:(s.heap.push {cls:=.type "dict",data:=.dict #[]}).DictOfH (tK prog w) s.heap.objs.size []:=Heap.DictOfH.new s.heap;have hl':(s.heap.push {cls:=.type "dict",data:=.dict #[]}).get? l=some ob:=Aw _ hl;have hT:Shared.TypeIs {s with heap:=s.heap.push {cls:=.type "dict",data:=.dict #[]}} (.ref l) "list":=⟨_,hl',hlc⟩
 refine ⟨hnew.typeIs,F.args_dict_init_2 _ _,?_⟩;unfold Builtin.«dict.__init__»;refine Ad ?_;unfold Builtin.Dict.selfAndRest;refine Ad (wpAny_notOrdered_dict hnew.typeIs ?_)
 show wpAny _ _ (pure (s.heap.objs.size,[Value.ref l])) _ _ _
 refine Ak ?_
 show wpAny _ _ (Builtin.Dict.updateFrom "dict.__init__" s.heap.objs.size (.ref l) [] .none) _ _ _
 unfold Builtin.Dict.updateFrom;refine Ad (wpAny_typeOf hT ?_);rw [if_pos (by decide)];refine Ad (ZaV hl' hlc hld hln (by simp [hh]) fun h1 tk1 k1=>?_);simp only [Option.isNone_none,if_true];have hl1:h1.get? l=some ob:=k1 _ _ hl';have hL1:h1.IsList l items:=⟨_,hl1,hlc,n,hld⟩
 obtain ⟨od,_,_,hgd,_⟩:=hnew;have hd1:s.heap.objs.size<h1.objs.size:=AC (k1 _ _ hgd);refine Ad (wpAny_rule ?_);refine Ad (wpAny_pyIter_list hL1 ?_);refine Ak ⟨plainId_quiet KJ _,?_⟩;have kk:∀b o,s.heap.get? b=some o→(h1.push {cls:=.type "list_iterator",data:=.fields #[.ref l,.int 0 0]}).get? b=some o:=fun b o e=>Aw _ (k1 _ _ (Aw _ e));refine ZaX (h0:=s.heap) (es:=es) (by simp [hh]) (by simp;omega) (AC hl) (Ax _) (EH hd1) (Bf hd1) hp hlen hz items.size 0 _ rfl (B8 _) ⟨_,Bc _ rfl,rfl,rfl⟩ (hL1.push _) kk ?_ fun h2 tk2 k2 hD2=>⟨rfl,h h2 tk2 k2 hD2⟩
 rw [List.take_zero];exact ND (h0:=s.heap) (Heap.DictOfH.new s.heap) (fun x hx=>nomatch hx) kk fun o e=>Aw _ (k1 _ _ e)
end
end Dt
end LS
namespace LS
open PySem PySem.Spec PyProof.Rows L2 PySem.W PySem.Calls
namespace Mn
open PySem
section
variable {prog:Program} {w:World} {A:Around} {R:Result→Shared→Prop} {I:Addr} {fp wr:List Addr} {n:Nat} {P:Nat→Value→Prop} {St:Nat→Heap→Prop}
end
section
variable {prog:Program} {w:World} {A:Around} {E:Value→Shared→Prop} {s:Shared}
end
end Mn
end LS
namespace LS
open PySem PySem.Spec PyProof.Rows L2 PySem.W PySem.Calls
def isT:Kyd→Bool
 |.t _=>true
 |_=>false
def Es (kvs:List (Kyd×D)):Bool:=kvs.all fun p=>isT p.1
def TR (K:Frag) (m:List Addr) (H:Hp) (p:Kyd×D) (q:List Int×Addr×Value):Prop:=p.1=.t q.1∧DV K m H (kD p.1) (.ref q.2.1)∧∃v,DV K m H p.2 v∧RelV v q.2.2
section
variable {P:Program} {w:World} {K:Frag} {m:List Addr} {H:Hp} {h:Heap} {a:Addr}
theorem KL (ok:HOk P w H h∧K.In h) {ns:List Int} {v:V} (d:DV K m H (kD (.t ns)) v):∃b,v=.ref b∧IsTupleKey (intKind P w) h ns b:=ZaT ok d
theorem Rp (ok:HOk P w H h∧K.In h):∀{kvs:List (Kyd×D)} {es:List (Kyd×V×V)} {ul:List DictEntry},EntD K m H kvs es→Es kvs=true→Paired JR es ul→
 ∃xs:List (List Int×Addr×Value),ul=xs.map (entryOfKey (Dt.tK P w))∧Paired (TR K m H) kvs xs∧(∀x∈xs,(Dt.tK P w).is h x.1 x.2.1)∧xs.map (fun q=>Kyd.t q.1)=es.map (·.1)
 |[],_,_,e,_,p=>by simp only [EntD] at e;subst e;cases p;exact ⟨[],rfl,.nil,by simp,rfl⟩
 |(k,d)::kvs,_,_,e,hi,p=>by
  simp only [EntD] at e;obtain ⟨kv,vv,r',rfl,d1,d2,t⟩:=e;simp only [Es,HE,B3] at hi;cases p with
  |cons p1 p2=>
   rename_i e ul';obtain ⟨xs,h1,h2,h3,h4⟩:=Rp ok t hi.2 p2;obtain ⟨q1,q2,q3⟩:=p1;cases k with
   |t rs=>
    obtain ⟨b,rfl,hb⟩:=KL ok d1;obtain ⟨eh,ek,ev⟩:=e;cases (show ek=Value.ref b from q2);simp only at q1;subst q1;refine ⟨(rs,b,ev)::xs,by rw [h1];rfl,.cons ⟨rfl,d1,vv,d2,q3⟩ h2,fun x hx=>?_,by simp [h4]⟩;rcases qa5.mp hx with rfl |hx
    ·exact hb
    ·exact h3 x hx
   |b ns=>cases hi.1
   |i n=>cases hi.1
theorem NF (ok:HOk P w H h∧K.In h) {es:List (Kyd×V×V)} {kvs:List (Kyd×D)} (d:B9 a es h) (e:EntD K m H kvs es) (hi:Es kvs=true):∃xs:List (List Int×Addr×Value),h.DictOfH (Dt.tK P w) a xs∧Paired (TR K m H) kvs xs:=by obtain ⟨hs,hz,nd,o,us,ep,h1,h2,h3,h4⟩:=d;obtain ⟨xs,q1,q2,q3,q4⟩:=Rp ok e hi h4;refine ⟨xs,⟨o,us,ep,h1,h2,h3,q1,q3,?_⟩,q2⟩;rw [←q4] at nd;unfold List.Nodup at nd ⊢;rw [HA] at nd ⊢;exact nd.imp fun z y=>z (by rw [y])
theorem Rq:∀{kvs:List (Kyd×D)} {xs:List (List Int×Addr×Value)},Paired (TR K m H) kvs xs→∃es:List (Kyd×V×V),EntD K m H kvs es∧Paired JR es (xs.map (entryOfKey (Dt.tK P w)))∧es.map (·.1)=xs.map (fun q=>Kyd.t q.1)
 |_,_,.nil=>⟨[],rfl,.nil,rfl⟩
 |_,_,.cons r t=>by rename_i x y xs ys;obtain ⟨es,h1,h2,h3⟩:=Rq t;obtain ⟨k,d⟩:=x;obtain ⟨n,b,u⟩:=y;obtain ⟨r1,r0,v,r2,r3⟩:=r;simp only at r1 r0 r2 r3;subst r1;refine ⟨(.t n,.ref b,v)::es,?_,.cons ⟨rfl,rfl,r3⟩ h2,by simp [h3]⟩;simp only [EntD];exact ⟨_,_,_,rfl,r0,r2,h1⟩
theorem NG:∀{kvs:List (Kyd×D)} {xs:List (List Int×Addr×Value)},Paired (TR K m H) kvs xs→kvs.length=xs.length
 |_,_,.nil=>rfl
 |_,_,.cons _ t=>by simp [NG t]
theorem Rr {kvs:List (Kyd×D)} {xs:List (List Int×Addr×Value)} (hs:(a==sysModules)=false) (hz:kvs.length≤sizeLine) (dd:h.DictOfH (Dt.tK P w) a xs) (r:Paired (TR K m H) kvs xs):∃es,B9 a es h∧EntD K m H kvs es:=by obtain ⟨o,us,ep,h1,h2,h3,h4,h5,h6⟩:=dd;obtain ⟨es,q1,q2,q3⟩:=Rq (P:=P) (w:=w) r;refine ⟨es,⟨hs,by rw [←q1.len];exact hz,?_,o,us,ep,h1,h2,h3,by rw [h4];exact q2⟩,q1⟩;rw [q3];unfold List.Nodup at h6 ⊢;rw [HA] at h6 ⊢;exact h6.imp fun z y=>z (by injection y)
theorem Rt {n:List Int}:∀{kvs:List (Kyd×D)} {xs:List (List Int×Addr×Value)},Paired (TR K m H) kvs xs→(kvs.any fun p=>decide (p.1=.t n))=(atKey xs n).isSome
 |_,_,.nil=>rfl
 |_,_,.cons r t=>by
  rename_i x y xs ys;rw [List.any_cons,Rt t,r.1]
  by_cases z:y.1=n
  ·simp [atKey,DO,z]
  ·simp [atKey,DO,z]
theorem Ru {n:List Int} (dv:DV K m H d v) (rv:RelV v u):∀{kvs:List (Kyd×D)} {xs:List (List Int×Addr×Value)},Paired (TR K m H) kvs xs→Paired (TR K m H) (kvs.map fun p=>if p.1=.t n then (p.1,d) else p) (xs.map (putAt n u))
 |_,_,.nil=>.nil
 |_,_,.cons r t=>by
  rename_i x y xs ys;refine .cons ?_ (Ru dv rv t)
  show TR K m H (if x.1=.t n then (x.1,d) else x) (putAt n u y)
  unfold putAt
  by_cases z:y.1=n
  ·rw [if_pos z,if_pos (by rw [r.1,z])];exact ⟨r.1,r.2.1,v,dv,rv⟩
  ·rw [if_neg z,if_neg (by rw [r.1];intro q;injection q with q;exact z q)];exact r
theorem Rv {p:Kyd×D} {q:List Int×Addr×Value} (r:TR K m H p q):∀{kvs:List (Kyd×D)} {xs:List (List Int×Addr×Value)},Paired (TR K m H) kvs xs→Paired (TR K m H) (kvs++[p]) (xs++[q])
 |_,_,.nil=>.cons r .nil
 |_,_,.cons x t=>.cons x (Rv r t)
theorem ZaY {n:List Int} {kvs:List (Kyd×D)} {xs:List (List Int×Addr×Value)} (r:Paired (TR K m H) kvs xs) (db:DV K m H (kD (.t n)) (.ref b)) (dv:DV K m H d v) (rv:RelV v u):Paired (TR K m H) (Cw kvs (.t n) d) (storedH xs n b u):=by
 unfold Cw storedH;rw [Rt r]
 by_cases z:(atKey xs n).isSome=true
 ·rw [if_pos z,if_pos z];exact Ru dv rv r
 ·rw [if_neg z,if_neg z];exact Rv ⟨rfl,db,v,dv,rv⟩ r
end
def keyT:D→Option (List Int)
 |.tup ds=>Hi ds
 |_=>none
theorem Rw {ns:List Int} (e:keyT d=some ns):d=kD (.t ns):=by
 cases d<;>simp only [keyT] at e<;>try cases e
 rw [Rk e];rfl
def E6:D→Option (Kyd×D)
 |.tup [k,v]=>(keyT k).map fun ns=>(.t ns,v)
 |_=>none
def Gu:D→HD→Out D:=fun x h=>match x with
 |.loc l=>(match h[l]? with
  |some (.lst ds)=>(match Az (ds.map E6) with
   |some ps=>IC (ps.foldl (fun acc p=>Cw acc p.1 p.2) []) h
   |none=>.stuck)
  |_=>.stuck)
 |_=>.stuck
theorem ZaZ {p:Kyd×D} (e:E6 d=some p):∃ns,p.1=.t ns∧d=.tup [kD (.t ns),p.2]:=by
 unfold E6 at e;split at e
 ·rename_i k v;cases q:keyT k with
  |none=>rw [q] at e;cases e
  |some ns=>rw [q] at e;cases e;exact ⟨ns,rfl,by rw [Rw q]⟩
 ·cases e
section
variable {P:Program} {w:World} {K:Frag} {m:List Addr} {H:Hp} {h:Heap} {a:Addr}
theorem Za0 (ok:HOk P w H h∧K.In h) {d:D} {p:Kyd×D} {v:V} {u:Value} (e:E6 d=some p) (r:DV K m H d v) (ru:RelV v u):∃q,Dt.PrAt P w h u q∧TR K m H p q:=by obtain ⟨k,x⟩:=p;obtain ⟨ns,e1,rfl⟩:=ZaZ e;simp only at e1;subst e1;simp only [DV] at r;obtain ⟨b,vs,rfl,hb,dv⟩:=r;simp only [DVs] at dv;obtain ⟨kv,vs1,rfl,dk,xv,vs2,rfl,dx,rfl⟩:=dv;obtain ⟨_,its,f2,⟨o,ho,hc,n,hd⟩,_⟩:=tok ok hb;obtain ⟨uk,ux,rfl,rk,rx⟩:=HN f2;obtain ⟨c,rfl,hk⟩:=KL ok dk;cases (show uk=Value.ref c from rk);cases (show u=Value.ref b from ru);exact ⟨(ns,c,ux),⟨b,o,n,rfl,ho,hc,hd,hk⟩,rfl,dk,xv,dx,rx⟩
theorem Rx (ok:HOk P w H h∧K.In h):∀{ds:List D} {ps:List (Kyd×D)} {vs:List V} {us:List Value},Az (ds.map E6)=some ps→DVs K m H ds vs→Vals vs us→∃es:List Dt.Ent,Paired (Dt.PrAt P w h) us es∧Paired (TR K m H) ps es
 |[],ps,vs,us,e,r,ru=>by simp only [DVs] at r;subst r;cases ru;cases e;exact ⟨[],.nil,.nil⟩
 |d::ds,ps,vs,us,e,r,ru=>by
  simp only [DVs] at r;obtain ⟨v,vs',rfl,rv,rr⟩:=r;simp only [AZ,Az] at e;cases q1:E6 d with
  |none=>rw [q1] at e;cases e
  |some p=>
   rw [q1] at e;simp only [Az] at e;cases q2:Az (ds.map E6) with
   |none=>rw [q2] at e;cases e
   |some ps'=>
    rw [q2] at e;cases e;cases ru with
    |cons r1 r2=>obtain ⟨es,h1,h2⟩:=Rx ok q2 rr r2;obtain ⟨x,h3,h4⟩:=Za0 ok q1 rv r1;exact ⟨x::es,.cons h3 h1,.cons h4 h2⟩
theorem Ry {α β:Type} {R:α→β→Prop}:∀{xs:List α} {ys:List β} {i:Nat} {x:α},Paired R xs ys→xs[i]?=some x→∃y,ys[i]?=some y∧R x y
 |_,_,_,_,.nil,e=>by simp at e
 |_,_,0,_,.cons r _,e=>by simp at e;subst e;exact ⟨_,rfl,r⟩
 |_,_,i+1,x,.cons _ t,e=>by simp at e;obtain ⟨y,h1,h2⟩:=Ry t e;exact ⟨y,by simpa using h1,h2⟩
theorem paired_len {α β:Type} {R:α→β→Prop}:∀{xs:List α} {ys:List β},Paired R xs ys→xs.length=ys.length
 |_,_,.nil=>rfl
 |_,_,.cons _ t=>by simp [paired_len t]
theorem NH:∀{ps:List (Kyd×D)} {es:List Dt.Ent} {acc:List (Kyd×D)} {xs:List Dt.Ent},Paired (TR K m H) ps es→Paired (TR K m H) acc xs→Paired (TR K m H) (ps.foldl (fun acc p=>Cw acc p.1 p.2) acc) (es.foldl Dt.put1 xs)
 |_,_,_,_,.nil,r=>r
 |_,_,_,_,.cons r0 t,r=>by rename_i p e ps es;obtain ⟨k,d⟩:=p;obtain ⟨r1,r2,v,r3,r4⟩:=r0;simp only at r1;subst r1;exact NH (ps:=ps) (es:=es) t (ZaY r r2 r3 r4)
theorem NI:∀{ps acc:List (Kyd×D)},(ps.foldl (fun acc p=>Cw acc p.1 p.2) acc).length≤acc.length+ps.length
 |[],acc=>by simp
 |p::ps,acc=>by rw [EF];have:=NI (ps:=ps) (acc:=Cw acc p.1 p.2);have:=ZaP (kvs:=acc) (k:=p.1) (d:=p.2);simp;omega
end
section
variable {X:Cx} {E:XK}
theorem Za1 (hc:X.calm=true) (hu:X.A.units+64<cLine):Cr X (.type "dict") (An Gu):=by
 refine M4 (fun ds h=>?_) fun pins s σ H m h ds vs us Q I hr rd r q=>EO rd q fun x v ev rx q=>?_
 ·unfold An Gu IC
  repeat' split
  all_goals trivial
 ·subst ev;obtain ⟨u,rfl,ru⟩:=Dj r;unfold Gu at q;split at q
  ·rename_i l;split at q
   ·rename_i ds' el;split at q
    ·rename_i ps eps;simp only [DV] at rx;obtain ⟨a,rfl,ha⟩:=rx;cases (show u=Value.ref a from ru);obtain ⟨ws,hv,dv⟩:=hr.cells l _ a el ha;obtain ⟨its,rv,⟨o,n,h1,h2,h3,h4⟩,hz⟩:=I.list (SqL.of hv);obtain ⟨es,p1,p2⟩:=Rx (P:=X.prog) (w:=X.w) ⟨I.hok,I.kIn⟩ eps dv rv;have hf:H s.heap.objs.size=none:=I.hok.fresh (Ax _);have hl:=rv.length;refine Dt.call_pairs (es:=es) (I.ok.hd hc) hu h1 h2 h4 h3 (fun i v e=>?_) (by rw [←paired_len p1];simp) (by simp;omega) fun h' tk k hD=>?_
     ·exact Ry p1 (by simpa using e)
     ·have hz2:(ps.foldl (fun acc p=>Cw acc p.1 p.2) []).length≤sizeLine:=by have:=NI (ps:=ps) (acc:=[]);have e1:=paired_len p1;have e2:=paired_len p2;simp at this;omega
      obtain ⟨es',q1,q2⟩:=Rr (P:=X.prog) (w:=X.w) (K:=X.K) (m:=m) (H:=H) (Rg I) hz2 hD (NH p2 .nil);exact ⟨.ref s.heap.objs.size,_,I.laid (t':=_) k (Ax _) (NA q1),rfl,Rh hr hf (.new hf) q rfl q2⟩
    ·exact q.elim
   ·exact q.elim
  ·exact q.elim
end
section
variable {X:Cx} {E:XK}
end
section
variable {X:Cx} {E:XK} {pins:List (Addr×Obj)} {σ:L2.St} {H:Hp} {s:Shared}
end
section
variable {K:Frag} {m:List Addr} {H:Hp}
theorem RA {n:List Int}:∀{kvs:List (Kyd×D)} {xs:List Dt.Ent},Paired (TR K m H) kvs xs→(B6 kvs (.t n)=none∧atKey xs n=none)∨∃d p v,B6 kvs (.t n)=some d∧atKey xs n=some p∧DV K m H d v∧RelV v p.2
 |_,_,.nil=>.inl ⟨rfl,rfl⟩
 |_,_,.cons r t=>by
  rename_i x y xs ys;obtain ⟨r1,r0,v,r2,r3⟩:=r
  by_cases z:y.1=n
  ·refine .inr ⟨x.2,y.2,v,?_,?_,r2,r3⟩
   ·simp [B6,DO,r1,z]
   ·simp [atKey,DO,z]
  ·have e1:B6 (x::xs) (.t n)=B6 xs (.t n):=by simp [B6,DO,r1,z]
   have e2:atKey (y::ys) n=atKey ys n:=by simp [atKey,DO,z]
   rw [e1,e2];exact RA t
theorem Za2 {kvs:List (Kyd×D)} {k:Kyd}:(kvs.any fun p=>decide (p.1=k))=(B6 kvs k).isSome:=by unfold B6;rw [Option.isSome_map,qb0,List.any_eq_true,List.find?_isSome]
end
def Eu (neg:Bool):D→D→HD→Out D:=fun x y h=>match y with
 |.loc l=>(match h[l]? with
  |some (.dic _ kvs)=>(match x with
   |.int n=>if KI kvs then .ok (.bl (Bool.xor neg (B6 kvs (.i n)).isSome)) h else .stuck
   |_=>(match keyT x with
    |some ns=>if Es kvs then .ok (.bl (Bool.xor neg (B6 kvs (.t ns)).isSome)) h else .stuck
    |none=>.stuck))
  |_=>.stuck)
 |_=>.stuck
theorem Za3 (neg:Bool) (x y:D) (h:HD):Eh (Eu neg x y h):=by
 unfold Eu
 repeat' split
 all_goals trivial
section
variable {X:Cx} {E:XK}
def Za4 (X:Cx) (neg:Bool):R2:=fun v u H Q=>∃m h x y,HR X.K m h H∧DV X.K m H x v∧DV X.K m H y u∧Post X.K (rD X.K) m H E0 Q (Eu neg x y h)
theorem Za5 {neg:Bool} {o:CmpOp} (hu:X.A.units+64<cLine)
 (ki:∀{s:Shared} {d:Addr} {n:Int} {tk:Tok} {f:Int→Option Value} {Q:Value→Shared→Prop} {E:Value→Shared→Prop},(d==sysModules)=false→s.heap.MapOf (intKind X.prog X.w) d f→Q (.bool (Bool.xor neg (f n).isSome)) {s with toks:=s.toks+1}→wpAny (model X.prog X.w) X.A (compareOp o (.int n tk) (.ref d)) Q E s)
 (kt:∀{s:Shared} {d c:Addr} {ns:List Int} {xs:List Dt.Ent} {Q:Value→Shared→Prop} {E:Value→Shared→Prop},IsTupleKey (intKind X.prog X.w) s.heap ns c→(d==sysModules)=false→s.heap.DictOfH (Dt.tK X.prog X.w) d xs→Q (.bool (Bool.xor neg (atKey xs ns).isSome)) {s with toks:=s.toks+(Dt.tK X.prog X.w).draws ns}→wpAny (model X.prog X.w) X.A (compareOp o (.ref c) (.ref d)) Q E s):
 Bn X (compareOp o) (Eu neg):=by
 refine ⟨Za4 X neg,fun pins s σ H v u a b Q I rv ru z=>?_,fun m H h E x y v u Q hr rx ry q=>⟨m,h,x,y,hr,rx,ry,Post.noE (Za3 _ _ _ _) q⟩⟩;obtain ⟨m,h,x,y,hr,rx,ry,q⟩:=z;unfold Eu at q;split at q
 ·rename_i l;split at q
  ·rename_i fz kvs el;simp only [DV] at ry;obtain ⟨d,rfl,hd⟩:=ry;cases (show b=Value.ref d from ru);obtain ⟨es,he,en⟩:=hr.cells l _ d el hd;have dc:=NC I he;split at q
   ·rename_i n;split at q
    ·rename_i hi;simp only [DV] at rx;subst rx;obtain ⟨tk,rfl⟩:=rv;obtain ⟨ob,us,ep,vs,h1,h2,dd,rr⟩:=ZaO (P:=X.prog) (w:=X.w) dc en hi;refine ki dc.1 dd.dictOf.mapOf ?_;have e:(valueAt vs n).isSome=(B6 kvs (.i n)).isSome:=by rcases Rf (n:=n) rr with ⟨e1,e2⟩ |⟨d,u',v',e1,e2,e3,e4⟩<;>rw [e1,e2]<;>rfl
     rw [e];exact ⟨.bl _,H,I.tok _,rfl,A8 hr q (by simp [DV])⟩
    ·exact q.elim
   ·split at q
    ·rename_i ns ek;split at q
     ·rename_i hi;rw [Rw ek] at rx;obtain ⟨c,rfl,hk⟩:=KL (P:=X.prog) (w:=X.w) ⟨I.hok,I.kIn⟩ rx;cases (show a=Value.ref c from rv);obtain ⟨xs,dd,rr⟩:=NF (P:=X.prog) (w:=X.w) ⟨I.hok,I.kIn⟩ dc en hi;refine kt hk dc.1 dd ?_;have e:(atKey xs ns).isSome=(B6 kvs (.t ns)).isSome:=by rcases RA (n:=ns) rr with ⟨e1,e2⟩ |⟨d,u',v',e1,e2,e3,e4⟩<;>rw [e1,e2]<;>rfl
      rw [e];exact ⟨.bl _,H,I.tok _,rfl,A8 hr q (by simp [DV])⟩
     ·exact q.elim
    ·exact q.elim
  ·exact q.elim
 ·exact q.elim
theorem Za6 (hu:X.A.units+64<cLine):Bn X (compareOp .In) (Eu false):=
 Za5 hu (fun hd hm q=>wpAny_in_of (intKind_is _ _ _ _) hd hm (by rw [Bool.false_xor] at q;exact q)) fun hk hd dd q=>wpAny_in_heap (knd:=Dt.tK X.prog X.w) (by show X.A.units+1<cLine;omega) hk hd dd (by rw [Bool.false_xor] at q;exact q)
end
section
variable {f fo fi fv:ME} {ρ:Ag} {h:HD} {QS:Fl×Ag→HD→Prop} {Q:D→HD→Prop} {l:Nat} {ds:List D}
end
end LS
namespace LS
open PySem PySem.Spec PyProof.Rows L2
abbrev RB (h:Heap) (z TI TO:Addr) (f0 f1:Value):Prop:=h.get? z=some {cls:=.type "zip",dict:=none,data:=.fields #[f0,f1,.bool false,.ref TI,.ref TO],slots:=#[]}
inductive ZipN (h:Heap) (z TI TO:Addr):Prop where
 |none (b:Bool) (e:RB h z TI TO .none (.bool b)):ZipN h z TI TO
 |held (a:Int) (t:Tok) (b:Bool) (e:RB h z TI TO (.int a t) (.bool b)):ZipN h z TI TO
section
variable {prog:Program} {w:World} {A:Around} {E:Value→Shared→Prop} {s:Shared} {z TI TO p q:Addr} {f g:List Addr} {n1 n2 k:Nat} {P1 P2:Nat→Value→Prop} {S1 S2:Nat→Heap→Prop} {a b:Value}
theorem ZipN.at {h h':Heap} (x:ZipN h z TI TO) (f:∀o,h.get? z=some o→h'.get? z=some o):ZipN h' z TI TO:=by
 cases x with
 |none b e=>exact .none b (f _ e)
 |held a t b e=>exact .held a t b (f _ e)
theorem ZipN.get {h:Heap} (x:ZipN h z TI TO):∃o,h.get? z=some o:=by
 cases x with
 |none b e=>exact ⟨_,e⟩
 |held a t b e=>exact ⟨_,e⟩
end
section
variable {X:Cx} {E:XK}
end
section
variable {X:Cx} {E:XK}
end
end LS
namespace LS
open PySem PySem.Spec PyProof.Rows L2 PySem.W PySem.Calls
variable {g:Str}
def RC:Expr→List Str
 |.Name x _=>[x]
 |_=>[]
def tn2:Expr→List Str
 |.Tuple es _ _=>es.flatMap RC
 |_=>[]
def tnB:Expr→List Str
 |.Name x _=>[x]
 |.Tuple es _ _=>es.flatMap RC++es.flatMap tn2
 |_=>[]
def ncO (cs:List (Option Nat)) (N:List Str):List Str:=cs.filterMap fun o=>o.map fun j=>N.getD j ""
abbrev FH (tg:Expr) (cs:List (Option Nat)) (N:List Str):List Str:=tnB tg++ncO cs N
theorem Za7 {X:Cx} {i:Nat} {x:Str} (hN:X.N[i]?=some x:=by rfl) (hv:JC X.env.scope x:=by first |exact Or.inl rfl |exact Or.inr (Or.inl rfl) |exact Or.inr (Or.inr rfl)) (hd:(x==("__debug__":Str))=false:=by decide) (hcd:(x==("__classdict__":Str))=false:=by decide):Ev X E (.Name x pos) (Ab i):=Mi (LO hN hv hd hcd)
section
variable {X:Cx} {E:XK} {scope:Scope} {cs:List (Option Nat)} {tg iter elt:Expr} {it:MI} {gg:TG} {sg:MG} {ifs:List Expr} {t:MT} {f:ME} {pos:Pos}
theorem RD (hcalm:X.calm=true) (S:CSc X scope (FH tg cs X.N) cs) (hi:DT X E tg iter it) (hg:Ge X.K cs gg sg)
 (hb:∀(C D:Addr) (cells:List (Str×Addr)) (fp:List Addr) (s₀:Shared) (H₀:Hp) (pins:List (Addr×Obj)),PG (AV X (FH tg cs X.N) scope C D cells fp s₀ H₀ pins) tg gg∧FC (AV X (FH tg cs X.N) scope C D cells fp s₀ H₀ pins) E0 ifs t∧Ev (AV X (FH tg cs X.N) scope C D cells fp s₀ H₀ pins) E0 elt f)
 (hsf:∀x,foldedSetIterable iter X.env x=pure x:=by intro _;rfl):Ev X E (.ListComp elt [⟨tg,iter,ifs,0⟩] scope pos) (A6 cs it sg t f):=X4 hcalm S.ok hi hg hb hsf
theorem RE {i:Nat} {x:Str} {pos' pos2:Pos} (hcalm:X.calm=true) (hN:X.N.Nodup) (hix:X.N[i]?=some x) (hx:F0 X.env.scope x) (S:CSc X scope (FH tg cs X.N) cs) (hi:DT X E tg iter it) (hg:Ge X.K cs gg sg)
 (hb:∀(C D:Addr) (cells:List (Str×Addr)) (fp:List Addr) (s₀:Shared) (H₀:Hp) (pins:List (Addr×Obj)),PG (AV X (FH tg cs X.N) scope C D cells fp s₀ H₀ pins) tg gg∧FC (AV X (FH tg cs X.N) scope C D cells fp s₀ H₀ pins) E0 ifs t∧Ev (AV X (FH tg cs X.N) scope C D cells fp s₀ H₀ pins) E0 elt f)
 (hsf:∀x,foldedSetIterable iter X.env x=pure x:=by intro _;rfl) (hsw:swapsWith (.ListComp elt [⟨tg,iter,ifs,0⟩] scope pos) (some (.Name x pos')) pos2.line X.env=pure true:=by rfl)
 (hf:X.fn x=true∨X.env.scope.names.lookup x=some .local:=by first |exact .inl rfl |exact .inr rfl |assumption):Ex X E (.Assign [.Name x pos'] (.ListComp elt [⟨tg,iter,ifs,0⟩] scope pos) pos2) (As i (A6 cs it sg t f)):=X5 hcalm hN hix hx S.ok hi hg hb hsf hsw hf
theorem Za8 {j:Nat} {X:Cx} {cs:List Nat} {params:Arguments} {k kk:Nat} {st:Stmt} 
 (L:LamX g X c P) (fna:∀x,X.fn x=true) (hr:Room kk X.A) (lv:Lv X E) (et:etOk X.K=true) (Sd:SaidD X.K X.mg st fs fd) (St:M9 st) (hkind:CaM X.prog X.w X.K X.mg X.base "_law_kind" k Fk) (S:LSc X scope (cs.map fun j=>X.N.getD j "") cs)
 (hb:∀(a:Addr) (cd:Value) (cl:List (Str×Addr)) (A:Around) (outer:List Env) (s:Shared) (H:Hp) (E':XK),Room k (A.deeper (envX (Bk g) scope s.heap.objs.size a cd cl))→Ev (Ej g X.prog X.w X.K X.mg X.base (cs.map fun j=>X.N.getD j "") scope a cd cl A outer s H E') E' body f)
 (hg:Gl X "_law_said") (hkk:k+2≤kk:=by decide) (hdef:defaultsOf params X.env=([],[]):=by rfl)
 (hbind:∀(cl:List (Str×Addr)) (pm cv ctv:Value),bindArgs (kla_fn "<lambda>" (Bk g) params body scope cl pm cv ctv) ⟨[],[]⟩=pure []:=by exact fun _ _ _ _=>rfl)
 (he:starEach [.Lambda params body scope lpos] X.env=(false,eval (.Lambda params body scope lpos) X.env)::starEach [] X.env:=by rfl) (hpl:(backTo pos (starEach [] X.env)).any (·.1)=false:=by rfl):
 Ev X E (.Call (.Name "_law_said" p) [.Lambda params body scope lpos] [] pos) (Gn j g cs Fk f):=Z0 L fna hr lv et Sd St hkind S hb hg hkk hdef hbind he hpl
end
noncomputable def Bg (n m:Nat) (g:MS):List D→HD→Out D:=fun ds h=>if ds.length=n then AL m g ds h else .stuck
section
variable {P:Program} {w:World} {K:PySem.W.Frag} {mg:Str→Option Value} {base h:Heap} {x:Str} {st:Stmt} {N ps:List Str} {k:Nat} {g:MS}
theorem NJ (S:Tp.SeenF K x st) (X:K.In h) (G:h.Ns mainGlobals mg) (bd:∀(kV doc pm:Value) (an:Option Addr) (cdv ct:Value) (us:List Value),us.length=ps.length→bindArgs (PySem.W.fnOf x x (defArgs st) (defBody st) (defScope st) .none kV doc pm an cdv ct) ⟨us,[]⟩=pure (ps.zip us)):∃f fd,Dn K mg x ps st f fd:=by obtain ⟨_,_,_,_,_,_,_,_,_,_,a,l,c,k⟩:=S;exact ⟨_,_,O8 l c k,(O8 l c k).binds bd,PySem.W.mg_of X G a⟩
theorem Bp (S:Tp.SeenF K x st) (X:K.In h) (G:h.Ns mainGlobals mg)
 (b:N.Nodup→∀(f:Addr) (cdv:Value) (A:Around) (outer:List Env) (s:Shared) (H:Hp) (E:XK),Room k (A.deeper (envOfC x (defScope st) s.heap.objs.size f cdv))→CH (BP (Ba P w K) P w K mg base N x (defScope st) f cdv A outer s H E) E (defBody st) g)
 (bd:∀(kV doc pm:Value) (an:Option Addr) (cdv ct:Value) (us:List Value),us.length=ps.length→bindArgs (PySem.W.fnOf x x (defArgs st) (defBody st) (defScope st) .none kV doc pm an cdv ct) ⟨us,[]⟩=pure (ps.zip us):=by intro _ _ _ _ _ _ us hl;rcases us with _ |⟨_,_ |⟨_,_ |⟨_,_ |⟨_,_⟩⟩⟩⟩<;>first |rfl |exact absurd hl (by simp)) (sc:DQ N ps (defScope st):=by exact ⟨rfl,rfl,rfl,by decide +kernel,rfl,by decide +kernel,by decide +kernel⟩):CaE P w K mg base x (k+1) (Bg ps.length N.length g):=by
 obtain ⟨f,fd,D⟩:=NJ S X G bd;exact ⟨f,fd,_,YU D.fn sc (fun ds h e=>if_neg e) (fun ds h e=>if_pos e) (fun cdv A outer s H E hr=>b sc.nd f cdv A outer s H E hr),D.bd,D.mg,D.fn.kp⟩
theorem mkM (S:Tp.SeenF K x st) (X:K.In h) (G:h.Ns mainGlobals mg)
 (b:N.Nodup→∀(f:Addr) (cdv:Value) (A:Around) (outer:List Env) (s:Shared) (H:Hp),RoomM k (A.deeper (envOfC x (defScope st) s.heap.objs.size f cdv))→CH (Hd P w K mg base N x (defScope st) f cdv A outer s H) E0 (defBody st) g)
 (bd:∀(kV doc pm:Value) (an:Option Addr) (cdv ct:Value) (us:List Value),us.length=ps.length→bindArgs (PySem.W.fnOf x x (defArgs st) (defBody st) (defScope st) .none kV doc pm an cdv ct) ⟨us,[]⟩=pure (ps.zip us):=by intro _ _ _ _ _ _ us hl;rcases us with _ |⟨_,_ |⟨_,_ |⟨_,_ |⟨_,_⟩⟩⟩⟩<;>first |rfl |exact absurd hl (by simp)) (sc:DQ N ps (defScope st):=by exact ⟨rfl,rfl,rfl,by decide +kernel,rfl,by decide +kernel,by decide +kernel⟩):CaM P w K mg base x (k+1) (Bg ps.length N.length g):=by
 obtain ⟨f,fd,D⟩:=NJ S X G bd;exact ⟨f,fd,_,ZD D.fn sc (fun ds h e=>if_neg e) (fun ds h e=>if_pos e) (fun cdv A outer s H hr=>b sc.nd f cdv A outer s H hr),D.bd,D.mg,D.fn.kp,fun ds h e=>if_neg e⟩
theorem mkS (S:Tp.SeenF K "_law_said" st) (X:K.In h) (G:h.Ns mainGlobals mg)
 (bd:∀(kV doc pm:Value) (an:Option Addr) (cdv ct:Value) (us:List Value),us.length=(["_law_call"]:List Str).length→bindArgs (PySem.W.fnOf "_law_said" "_law_said" (defArgs st) (defBody st) (defScope st) .none kV doc pm an cdv ct) ⟨us,[]⟩=pure ((["_law_call"]:List Str).zip us):=by intro _ _ _ _ _ _ us hl;rcases us with _ |⟨_,_ |⟨_,_⟩⟩<;>first |rfl |exact absurd hl (by simp)):∃f fd,SaidD K mg st f fd:=by
 obtain ⟨f,fd,D⟩:=NJ S X G bd;exact ⟨f,fd,SaidD.of D⟩
theorem mkB {bs:List Str} (hb:∀(i:Nat) n,bs[i]?=some n→PySem.W.nsIn K mainGlobals n=some none) (X:K.In h) (G:h.Ns mainGlobals mg):∀x∈bs,mg x=none:=fun x hx=>by obtain ⟨i,hi,rfl⟩:=Hx hx;exact PySem.W.mg_none_of X G (hb i _ (AR hi))
end
end LS
namespace LS
open PySem PySem.Builtin PySem.Builtin.Str
abbrev tx (l:List Nat):Str:=⟨l.toArray⟩
end LS
namespace LS
open PySem PySem.Spec PyProof.Rows L2 PySem.W PySem.Calls
section
variable {X:Cx} {E:XK}
end
section
variable {X:Cx} {E:XK}
end
section
variable {f:ME} {ρ:Ag} {h:HD} {Q:D→HD→Prop} {lo hi:MO} {QI:List D×A3→HD→Prop}
end
end LS
namespace Tp
open PySem PySem.W PySem.Spec PySem.Calls PyProof.Rows
noncomputable def obsX (W:Want) (ex:Frag→Bool) (s:Shared):Ny×Bool:=fL (Q7 s.heap) fun K=>((W.fs.map fun x=>Nv K x.1,W.cs.map fun x=>Nx K x.1,W.bs.map (nsIn K mainGlobals),LS.etOk K,Q9 K s.heap),ex K)
def valX (W:Want):Ny×Bool:=(Ra W,true)
def SaysX (W:Want) (ex:Frag→Bool) (_:World) (h:Heap):Prop:=∃(K:Frag) (c T:Addr),K.In h∧(Has W K c T∧ex K=true)∧h.get? T=some (tabObj #[])
theorem SaysX.keeps {W:Want} {ex:Frag→Bool} (w:World) (h h':Heap) (x:SaysX W ex w h) (k:∀b o,h.get? b=some o→h'.get? b=some o):SaysX W ex w h':=by obtain ⟨K,c,T,h1,h2,h3⟩:=x;exact ⟨K,c,T,h1.keeps k,h2,k _ _ h3⟩
theorem saysX_of {W:Want} {ex:Frag→Bool} (w:World) (s:Shared) (e:obsX W ex s=valX W):SaysX W ex w s.heap:=by
 unfold obsX valX Ra at e;rw [Iz] at e;obtain ⟨e,e6⟩:=Prod.mk.inj e;obtain ⟨e1,e⟩:=Prod.mk.inj e;obtain ⟨e2,e⟩:=Prod.mk.inj e;obtain ⟨e3,e⟩:=Prod.mk.inj e;obtain ⟨e4,e5⟩:=Prod.mk.inj e;unfold Q9 at e5;split at e5
 ·rename_i c T hT;obtain ⟨a1,a2⟩:=Prod.mk.inj (Option.some.inj e5);obtain ⟨a2,a3⟩:=Prod.mk.inj a2;exact ⟨_,c,T,ZaH _,⟨⟨fun i n st h=>ZaI (Nz e1 h),fun i n v h=>ZaJ (Nz e2 h),fun i n h=>Nz e3 h,e4,hT,a2,Option.isNone_iff_eq_none.mp a3⟩,e6⟩,a1⟩
 ·cases e5
end Tp
namespace LS
open PySem PySem.W PySem.Spec PySem.Calls PyProof.Rows L2
theorem walk_hdX {l:OpenLaw} {n k:Nat} {loose:List Str} {XP:(Str→Option Value)→Heap→Prop} {W:Tp.Want} {ex:Frag→Bool} {d:DefRec} {x:Str} 
 (hn:l.most=some n) (hn2:n≤sizeLine) (hdf:d.params.defaults=[]) (hr:Room k callerA)
 (Fn:∀(w:World) (K:Frag) (c T:Addr) (mg:Str→Option Value) (fa:Addr) (h:Heap),Tp.Has W K c T∧ex K=true→K.In h→h.Ns mainGlobals mg→mg d.name=some (.ref fa)→
  ∃fd:FuncData,(∀(s:Shared) (u:Value),BindsTo s fd ⟨[u],[]⟩ [(x,u)])∧
   ∀base:Heap,K.In base→base.Ns mainGlobals mg→Iv mg base→FnOk l.prog w K mg base (Ba l.prog w K) k fa fd [x] (E2 K F))
 (hF:∀ns:List Int,ns.length≤n→(∀i∈ns,Builtin.Int.intBits i≤2^20)→∃h',F [.scr ns] [.tab]=.ok (.bl true) h'):
 WalkO q loose XP (Tp.SaysX W ex) l.row.toRowW d [] (fun f vs=>PySem.call f vs):=by
 refine Att.attach_bits hn hdf fun w s₀ s₁ mg mb fa o pm cd doc a vs ns hbits G Y ho hd hcd' hmg hobj hints hlen hg=>?_;obtain ⟨K,c,T,KX,HS,hT⟩:=Y;obtain ⟨fd,hb,hF'⟩:=Fn w K c T mg fa _ HS KX G.T.g hmg;obtain ⟨bm,ob,b1,b2,b3,b4,b5,b6⟩:=G.T.bmain;obtain ⟨⟨_,_,_,_,h1,h2,h3⟩,_⟩:=HS;exact ZO KX G.T.g G.T.b G.T.builtins G.T.nolimit hg ⟨bm,ob,b1,b2,b3,b4,b5,b6⟩ hobj hints (Br hlen hn2) hr h1 h2 hT h3 hF' hb (hF ns hlen hbits)
end LS
namespace LS
open PySem PySem.Spec PyProof.Rows L2 PySem.W
def sysIn (K:PySem.W.Frag):Bool:=(K.lookup sysModules).isSome
section
variable {X:Cx} {E:XK}
variable {pins:List (Addr×Obj)} {σ:L2.St} {H:Hp} {s:Shared} {m:List Addr} {h:HD}
theorem Za9 (I:Inv X pins σ H s) (sy:sysIn X.K=true):H sysModules=none:=by unfold sysIn at sy;obtain ⟨o,ho⟩:=qbB.mp sy;exact (I.bs _ o (I.ok.mod.kin _ o ho)).2
inductive KM (h:Heap) (u:Value) (p:PyData):Prop where
 |mk (as:List Addr) (f1:Reads h u p as) (f2:sysModules∉as):KM h u p
inductive RF (h:Heap) (us:List Value) (ps:List PyData):Prop where
 |mk (as:List Addr) (f1:ReadsAll h us ps as) (f2:sysModules∉as):RF h us ps
variable {pins:List (Addr×Obj)} {σ:L2.St} {H:Hp} {s:Shared} {m:List Addr} {h:HD}
theorem NK {n:Nat} (ih:∀(d:D) (v:V) (u:Value) (p:PyData),DV X.K m H d v→RelV v u→B1 h n d=some p→KM s.heap u p):
 ∀(ds:List D) (vs:List V) (us:List Value) (ps:List PyData),DVs X.K m H ds vs→Vals vs us→Az (ds.map (B1 h n))=some ps→RF s.heap us ps
 |[],vs,us,ps,r,q,e=>by simp only [DVs] at r;subst r;cases q;simp [Az] at e;subst e;exact ⟨[],.nil,Bw⟩
 |d::ds,vs,us,ps,r,q,e=>by
  simp only [DVs] at r;obtain ⟨v,w,rfl,rv,rw'⟩:=r;cases q with
  |cons q1 q2=>
   rw [AZ] at e;cases ed:B1 h n d with
   |none=>rw [ed] at e;simp [Az] at e
   |some p=>
    rw [ed] at e;simp only [Az,qaM] at e;obtain ⟨ps',e1,rfl⟩:=e;obtain ⟨as,h1,g1⟩:=ih d v _ p rv q1 ed;obtain ⟨bs,h2,g2⟩:=NK ih ds w _ ps' rw' q2 e1;refine ⟨as++bs,.cons h1 h2,fun hm=>?_⟩;rcases qaP.mp hm with y |y
    ·exact g1 y
    ·exact g2 y
theorem Zba (hok:HOk X.prog X.w H s.heap∧X.K.In s.heap) (sy:H sysModules=none) (hr:HR X.K m h H):∀(n:Nat) (d:D) (v:V) (u:Value) (p:PyData),DV X.K m H d v→RelV v u→B1 h n d=some p→KM s.heap u p:=by
 have flat:∀(n:Nat) (d:D) (v:V) (u:Value) (p:PyData),(∀ds,d≠.tup ds)→(∀l,d≠.loc l)→DV X.K m H d v→RelV v u→B1 h n d=some p→KM s.heap u p:=by
  intro n d v u p ht hl r q e;have n0:sysModules∉([]:List Addr):=Bw;cases d with
  |non=>simp only [DV] at r;subst r;cases q;cases (show PyData.none=p by cases n<;>exact Option.some.inj e);exact ⟨[],.none,n0⟩
  |bl b=>simp only [DV] at r;subst r;cases q;cases (show PyData.bool b=p by cases n<;>exact Option.some.inj e);exact ⟨[],.bool _,n0⟩
  |int i=>simp only [DV] at r;subst r;obtain ⟨t,rfl⟩:=q;cases (show PyData.int i=p by cases n<;>exact Option.some.inj e);exact ⟨[],.int _ _,n0⟩
  |str x=>simp only [DV] at r;subst r;obtain ⟨t,rfl⟩:=q;cases (show PyData.str x=p by cases n<;>exact Option.some.inj e);exact ⟨[],.str _ _,n0⟩
  |edic=>
   simp only [DV] at r;obtain ⟨a,rfl,ha⟩:=r;cases (show u=Value.ref a from q);cases (show PyData.dict []=p by cases n<;>exact Option.some.inj e);obtain ⟨⟨ne,o,ep,ho,hx,hd⟩,_⟩:=(show ObjOk X.prog X.w H s.heap a (.ext (JP a)) from hok.1 a _ ha)
   refine ⟨_,.dict ho hx.1 hd .nil .nil,fun z=>?_⟩;exact ne (qaJ.mp z).symm
  |tup ds=>exact absurd rfl (ht ds)
  |loc l=>exact absurd rfl (hl l)
  |_=>cases n<;>exact nomatch (show (none:Option PyData)=some p from e)
 intro n
 induction n with
 |zero=>
  intro d v u p r q e;cases d with
  |tup ds=>exact nomatch (show (none:Option PyData)=some p from e)
  |loc l=>exact nomatch (show (none:Option PyData)=some p from e)
  |_=>exact flat 0 _ v u p (by intro _ z;cases z) (by intro _ z;cases z) r q e
 |succ n ih=>
  intro d v u p r q e;cases d with
  |tup ds=>change (Az (ds.map (B1 h n))).map PyData.tuple=some p at e;simp only [DV,qaM] at e r;obtain ⟨a,vs,rfl,ha,dv⟩:=r;obtain ⟨ps,e1,rfl⟩:=e;cases (show u=Value.ref a from q);obtain ⟨_,its,rv,⟨o,ho,hc,k,hd⟩,_⟩:=tok hok ha;obtain ⟨as,h1,g1⟩:=NK ih ds vs its ps dv rv e1;exact ⟨as,.tuple ho hc hd (by simpa using h1),g1⟩
  |loc l=>
   simp only [DV] at r;obtain ⟨a,rfl,ha⟩:=r;cases (show u=Value.ref a from q);change (match h[l]? with
    |some (.lst ds)=>(Az (ds.map (B1 h n))).map PyData.list
    |_=>none)=some p at e
   split at e
   ·rename_i ds el;simp only [qaM] at e;obtain ⟨ps,e1,rfl⟩:=e;obtain ⟨vs,hv,dv⟩:=hr.cells l _ a el ha;obtain ⟨_,its,k,rv,ho⟩:=hok.1 a _ hv;obtain ⟨as,h1,g1⟩:=NK ih ds vs its ps dv rv e1;have ne:a≠sysModules:=fun z=>by rw [z,sy] at hv;cases hv
    refine ⟨_,.list ho rfl rfl (by simpa using h1),fun z=>?_⟩;rcases qa5.mp z with y |y
    ·exact ne y.symm
    ·exact g1 y
   ·cases e
  |_=>exact flat (n+1) _ v u p (by intro _ z;cases z) (by intro _ z;cases z) r q e
def BM:D→HD→Out D:=fun x h=>match B1 h 8 x with
 |some p=>if p.showable=true∧p.depth≤40∧p.shown.length≤sizeLine then .ok (.str p.shown) h else .stuck
 |none=>.stuck
theorem Zbb (sy:sysIn X.K=true) (hu:X.A.units+64<cLine) (hg:X.A.guards=some []):Cr X (.builtin "repr") (An BM):=by
 refine M4 (fun ds h=>?_) fun pins s σ H m h ds vs us Q I hr rd r q=>EO rd q fun x v ev rx q=>?_
 ·unfold An BM
  repeat' split
  all_goals trivial
 ·subst ev;obtain ⟨u,rfl,ru⟩:=Dj r;unfold BM at q;split at q
  ·rename_i p e;split at q
   ·rename_i hc;obtain ⟨h1,h3,h4⟩:=hc;obtain ⟨as,hd,g⟩:=Zba ⟨I.hok,I.kIn⟩ (Za9 I sy) hr 8 x v u p rx ru e;have hs:p.hasDict=true→sysModules∉as:=fun _=>g;have AJ:∀(h':Heap) (t tk:Tok),(∀b o,s.heap.get? b=some o→h'.get? b=some o)→EP X pins σ Q (.str p.shown t) {s with heap:=h',toks:=tk}:=fun h' t tk hk=>⟨.str p.shown,H,I.kept hk,⟨t,rfl⟩,A8 hr q (by simp [DV])⟩
    cases hd with
    |list a1 a2 a3 a4=>exact repr_of_reads' (.list a1 a2 a3 a4) h1 hs hg (by omega) (fun _ _ e=>e) AJ h4
    |tuple a1 a2 a3 a4=>exact repr_of_reads' (.tuple a1 a2 a3 a4) h1 hs hg (by omega) (fun _ _ e=>e) AJ h4
    |dict a1 a2 a3 a4 a5=>exact repr_of_reads' (.dict a1 a2 a3 a4 a5) h1 hs hg (by omega) (fun _ _ e=>e) AJ h4
    |int i t=>
     have h1':i.natAbs.log2<1920:=by simpa [PyData.showable] using h1
     exact PySem.P.repr_of_int h1' (AJ s.heap _ _ fun _ _ e=>e)
    |none=>exact PySem.P.repr_of_none (AJ s.heap _ _ fun _ _ e=>e)
    |bool b=>exact PySem.P.repr_of_bool (AJ s.heap _ _ fun _ _ e=>e)
    |str x t=>exact PySem.P.repr_of_str (AJ s.heap _ _ fun _ _ e=>e) (by simpa [PyData.shown] using h4)
   ·exact q.elim
  ·exact q.elim
end
end LS
namespace SetP
open PySem PySem.SetTable
def FI (i n:Nat):List Nat:=(List.range n).map (i + ·)
def Gv (m:Nat):Nat→Nat→Nat→List Nat
 |0,_,_=>[]
 |L+1,i,q=>FI i (runEnd m i+1 - i)++Gv m L (leap m i q).1 (leap m i q).2
def DJ (m:Nat) (h:Int):List Nat:=Gv m (turns m) (bits h % (m+1)) (bits h)
def Cy (slot:Nat→Slot) (hashAt:Nat→Int) (h:Int):List Nat→Option (Nat ⊕ (Nat×Nat))
 |[]=>none
 |j::l=>match slot j with
  |.empty=>some (.inl j)
  |.dummy=>none
  |.live i=>if hashAt i==h then some (.inr (j,i)) else Cy slot hashAt h l
theorem Zbc (m i:Nat):i≤runEnd m i:=by unfold runEnd;split<;>omega
theorem Zbd (m i:Nat):runEnd m i≤i+9:=by unfold runEnd;split<;>omega
section
variable {t:SetTable} {hashAt:Nat→Int} {h:Int}
def KN (r:Option Met) (x:Nat ⊕ (Nat×Nat)):Prop:=match x with
 |.inl j=>r=some (.empty j none)
 |.inr (j,i)=>∃next,r=some (.candidate j i next)
theorem RG (rest:List Nat) (x:Nat ⊕ (Nat×Nat)):∀(n j:Nat) (p:Probe) (fuel:Nat),p.j=j→p.more=n→p.dummy=none→n+1≤fuel→
 (∀fuel',fuel' + (n+1)=fuel→∀q:Probe,q={p with j:=(leap t.mask p.i p.perturb).1,more:=runEnd t.mask (leap t.mask p.i p.perturb).1 - (leap t.mask p.i p.perturb).1,i:=(leap t.mask p.i p.perturb).1,perturb:=(leap t.mask p.i p.perturb).2}→Cy t.slot hashAt h rest=some x→KN (probe.go t hashAt h fuel' q) x)→
 Cy t.slot hashAt h (FI j (n+1)++rest)=some x→KN (probe.go t hashAt h fuel p) x
 |0,j,p,fuel,hj,hm,hd,hf,hk,hw=>by
  obtain ⟨f,rfl⟩:∃f,fuel=f+1:=⟨fuel - 1,by omega⟩
  unfold probe.go;have e:FI j 1++rest=j::rest:=by simp [FI]
  rw [e,Cy] at hw;rw [hj];have hk':=hk f rfl _ rfl;have ea:t.advance p={p with j:=(leap t.mask p.i p.perturb).1,more:=runEnd t.mask (leap t.mask p.i p.perturb).1 - (leap t.mask p.i p.perturb).1,i:=(leap t.mask p.i p.perturb).1,perturb:=(leap t.mask p.i p.perturb).2}:=by unfold advance;rw [hm,if_neg (by omega)]
  cases hs:t.slot j with
  |empty=>
   rw [hs] at hw;cases hw
   show _=_
   rw [hd]
  |dummy=>rw [hs] at hw;cases hw
  |live i=>
   rw [hs] at hw;dsimp only at hw ⊢
   by_cases hh:(hashAt i==h)=true
   ·rw [if_pos hh] at hw ⊢;cases hw;exact ⟨_,rfl⟩
   ·rw [if_neg hh] at hw ⊢;rw [ea];exact hk' hw
 |n+1,j,p,fuel,hj,hm,hd,hf,hk,hw=>by
  obtain ⟨f,rfl⟩:∃f,fuel=f+1:=⟨fuel - 1,by omega⟩
  unfold probe.go;have e:FI j (n+1+1)++rest=j::(FI (j+1) (n+1)++rest):=by unfold FI;rw [List.range_succ_eq_map];simp;intro a _;omega
  rw [e,Cy] at hw;rw [hj];have ea:t.advance p={p with j:=p.j+1,more:=p.more - 1}:=by unfold advance;rw [if_pos (by omega)]
  cases hs:t.slot j with
  |empty=>
   rw [hs] at hw;cases hw
   show _=_
   rw [hd]
  |dummy=>rw [hs] at hw;cases hw
  |live i=>
   rw [hs] at hw;dsimp only at hw ⊢
   by_cases hh:(hashAt i==h)=true
   ·rw [if_pos hh] at hw ⊢;cases hw;exact ⟨_,rfl⟩
   ·rw [if_neg hh] at hw ⊢;rw [ea];refine RG rest x n (j+1) _ f (by show p.j+1=_;rw [hj]) (by show p.more - 1=_;omega) hd (by omega) (fun f' e' q eq hw'=>?_) hw;exact hk f' (by omega) q eq hw'
theorem RH (x:Nat ⊕ (Nat×Nat)):∀(L:Nat) (p:Probe) (fuel:Nat),p.j=p.i→p.more=runEnd t.mask p.i - p.i→p.dummy=none→10*L≤fuel→Cy t.slot hashAt h (Gv t.mask L p.i p.perturb)=some x→KN (probe.go t hashAt h fuel p) x
 |0,p,fuel,_,_,_,_,hw=>by cases hw
 |L+1,p,fuel,hj,hm,hd,hf,hw=>by
  unfold Gv at hw;have h1:=Zbc t.mask p.i;have h2:=Zbd t.mask p.i;have e:runEnd t.mask p.i+1 - p.i=(runEnd t.mask p.i - p.i)+1:=by omega
  rw [e] at hw;refine RG _ x (runEnd t.mask p.i - p.i) p.i p fuel hj hm hd (by omega) (fun f' ef q eq hw'=>?_) hw;subst eq;exact RH x L _ f' rfl rfl hd (by omega) hw'
theorem RI {x:Nat ⊕ (Nat×Nat)} (hw:Cy t.slot hashAt h (DJ t.mask h)=some x):KN (t.probe hashAt h (t.probeStart h)) x:=by unfold probe;exact RH x (turns t.mask) _ _ rfl rfl rfl (Ax _) hw
end
def Rise (l:List Nat):Prop:=l.Pairwise (·< ·)
section
variable {l:List Nat} {j:Nat}
theorem NL (hr:Rise l):∀(fuel lo hi:Nat),hi - lo≤fuel→lo≤hi→hi≤l.length→(∀i x,i<lo→l[i]?=some x→x<j)→(∀i x,hi≤i→l[i]?=some x→j≤x)→
 (below.go l.toArray j fuel lo hi)≤l.length∧(∀i x,i<below.go l.toArray j fuel lo hi→l[i]?=some x→x<j)∧(∀i x,below.go l.toArray j fuel lo hi≤i→l[i]?=some x→j≤x)
 |0,lo,hi,hf,hle,hh,h1,h2=>by
  have:lo=hi:=by omega
  subst this;exact ⟨hh,h1,h2⟩
 |fuel+1,lo,hi,hf,hle,hh,h1,h2=>by
  unfold below.go
  by_cases hlt:lo<hi
  ·rw [if_pos hlt];have hm:(lo+hi) / 2<l.length:=by omega
   have e:l.toArray.getD ((lo+hi) / 2) j=l[(lo+hi) / 2]:=by simp [Array.getD,hm]
   dsimp only;rw [e]
   by_cases hc:l[(lo+hi) / 2]<j
   ·rw [if_pos hc];refine NL hr fuel _ hi (by omega) (by omega) hh (fun i x hi' ex=>?_) h2
    by_cases hi2:i=(lo+hi) / 2
    ·subst hi2;rw [AR hm] at ex;cases ex;exact hc
    ·have hil:i<l.length:=(qa1.mp ex).1;have:=qcG.mp hr i ((lo+hi) / 2) hil hm (by omega);rw [AR hil] at ex;cases ex;omega
   ·rw [if_neg hc];refine NL hr fuel lo _ (by omega) (by omega) (by omega) h1 (fun i x hi' ex=>?_);have hil:i<l.length:=(qa1.mp ex).1;rw [AR hil] at ex;cases ex
    by_cases hi2:i=(lo+hi) / 2
    ·subst hi2;omega
    ·have:=qcG.mp hr ((lo+hi) / 2) i hm hil (by omega);omega
  ·rw [if_neg hlt];have:lo=hi:=by omega
   subst this;exact ⟨hh,h1,h2⟩
theorem KO (hr:Rise l):below l.toArray j≤l.length∧(∀i x,i<below l.toArray j→l[i]?=some x→x<j)∧(∀i x,below l.toArray j≤i→l[i]?=some x→j≤x):=by
 unfold below;have:=NL (j:=j) hr l.length 0 l.length (by omega) (by omega) (Ax _) (fun i x h=>absurd h (by omega)) (fun i x h e=>by
  have:=(qa1.mp e).1
  omega)
 simpa using this
theorem Zbe {i:Nat} (hr:Rise l) (e:l[i]?=some j):below l.toArray j=i:=by
 obtain ⟨h1,h2,h3⟩:=KO (j:=j) hr;rcases Nat.lt_trichotomy (below l.toArray j) i with h |h |h
 ·have hil:i<l.length:=(qa1.mp e).1;have hb:below l.toArray j<l.length:=by omega
  have g1:=h3 _ _ (Ax _) (AR hb);have g2:=qcG.mp hr _ i hb hil h;rw [AR hil] at e;cases e;omega
 ·exact h
 ·have:=h2 i j h e;omega
end
def CZ (m:Nat) (ps:List Nat) (t:SetTable):Prop:=t.mask=m∧t.place=ps.toArray∧t.dummies=#[]
section
variable {m:Nat} {ps:List Nat} {t:SetTable} {j i:Nat}
theorem Zbf (T:CZ m ps t) (hr:Rise ps) (e:ps[i]?=some j):t.slot j=.live i:=by obtain ⟨_,h2,h3⟩:=T;unfold slot;rw [h2,Zbe hr e];simp [e]
theorem Zbg (T:CZ m ps t) (hr:Rise ps) (e:j∉ps):t.slot j=.empty:=by
 obtain ⟨_,h2,h3⟩:=T;unfold slot;rw [h2,h3];dsimp only;rw [if_neg,if_neg]
 ·unfold has;simp
 ·intro z;have:ps[below ps.toArray j]?=some j:=by simpa using z
  exact e (Dw this)
end
theorem RJ {α:Type} (l:List α) (p:Nat) (x:α) (h:p≤l.length):insertAt l.toArray p x=(l.take p++x::l.drop p).toArray:=by unfold insertAt;apply Array.ext';simp [List.extract_eq_drop_take];exact Hu (by simp)
theorem RK {l:List Nat} {j:Nat} (hr:Rise l) (e:j∉l):Rise (l.take (below l.toArray j)++j::l.drop (below l.toArray j)):=by
 obtain ⟨h1,h2,h3⟩:=KO (j:=j) hr;refine List.pairwise_append.mpr ⟨List.Pairwise.sublist (List.take_sublist _ _) hr,List.pairwise_cons.mpr ⟨fun x hx=>?_,List.Pairwise.sublist (List.drop_sublist _ _) hr⟩,fun x hx y hy=>?_⟩
 ·obtain ⟨k,hk⟩:=Hw hx;rw [List.getElem?_drop] at hk;have:=h3 _ _ (Di _ k) hk;have hne:x≠j:=fun z=>e (z ▸ FS hx);omega
 ·obtain ⟨k,hk⟩:=Hw hx;have hk2:k<below l.toArray j:=by have:=(qa1.mp hk).1;rw [FW] at this;omega
  rw [LC hk2] at hk;have xj:=h2 _ _ hk2 hk;rcases qa5.mp hy with rfl |hy
  ·exact xj
  ·obtain ⟨k',hk'⟩:=Hw hy;rw [List.getElem?_drop] at hk';have:=h3 _ _ (Di _ k') hk';omega
abbrev Ky:=Nat×Nat
def U:List Ky:=(List.range 8).flatMap fun a=>(List.range 8).map fun b=>(a,b)
def hk (x:Ky):Int:=LS.hashT [hashInt x.1,hashInt x.2]
def Dp:List Nat:=[7,31,127]
def NM (l:List Nat):Nat:=l.foldl (fun acc j=>acc|||2^j) 0
theorem Zbh (l:List Nat):∀(acc j:Nat),(l.foldl (fun acc j=>acc|||2^j) acc).testBit j=(acc.testBit j||decide (j∈l)):=by
 induction l with
 |nil=>intro acc j;simp
 |cons a l ih=>
  intro acc j;rw [EF,ih,Nat.testBit_or,Nat.testBit_two_pow]
  by_cases h:a=j
  ·subst h;simp
  ·have h':¬j=a:=fun z=>h z.symm;simp [h,h']
theorem Zbi (l:List Nat) (j:Nat):(NM l).testBit j=decide (j∈l):=by unfold NM;rw [Zbh];simp
theorem U_mem {x:Ky}:x∈U↔x.1<8∧x.2<8:=by obtain ⟨a,b⟩:=x;simp [U]
def KP (m:Nat):Bool:=U.all fun x=>NM (DJ m (hk x))==2^(m+1) - 1
theorem ck7:KP 7=true:=by decide +kernel
theorem Zbj:KP 31=true:=by decide +kernel
theorem Zbk:KP 127=true:=by decide +kernel
def Zbl:Bool:=U.all fun x=>U.all fun y=>!(hk x==hk y)||decide (x=y)
theorem ckI:Zbl=true:=by decide +kernel
theorem hk_inj {x y:Ky} (hx:x∈U) (hy:y∈U) (h:hk x=hk y):x=y:=by have:=qaQ.mp (qaQ.mp ckI x hx) y hy;simp [h] at this;exact this
theorem ID {m:Nat} (hm:m∈Dp) {x:Ky} (hx:x∈U) {j:Nat}:j∈DJ m (hk x)↔j≤m:=by
 have c:KP m=true:=by
  simp only [Dp,qa5,Bw,or_false] at hm;rcases hm with rfl |rfl |rfl
  ·exact ck7
  ·exact Zbj
  ·exact Zbk
 have e:=beq_iff_eq.mp (qaQ.mp c x hx);have h1:=Zbi (DJ m (hk x)) j;rw [e,Nat.testBit_two_pow_sub_one] at h1;rw [←decide_eq_true_iff (p:=j∈_),←h1,decide_eq_true_iff];omega
theorem RL {S sl:List Nat} (h:∃j∈S,j∉sl):∃pre j post,S=pre++j::post∧j∉sl∧∀i∈pre,i∈sl:=by
 induction S with
 |nil=>obtain ⟨j,hj,_⟩:=h;cases hj
 |cons a S ih=>
  by_cases ha:a∈sl
  ·obtain ⟨j,hj,hn⟩:=h;have hj':j∈S:=by
    rcases qa5.mp hj with rfl |hj
    ·exact absurd ha hn
    ·exact hj
   obtain ⟨pre,j',post,e,h1,h2⟩:=ih ⟨j,hj',hn⟩;refine ⟨a::pre,j',post,by rw [e];rfl,h1,fun i hi=>?_⟩;rcases qa5.mp hi with rfl |hi
   ·exact ha
   ·exact h2 i hi
  ·exact ⟨[],a,S,rfl,ha,fun i hi=>by cases hi⟩
theorem RM {sl:List Nat} {m:Nat} (nd:sl.Nodup) (hl:sl.length≤m):∃j,j≤m∧j∉sl:=by refine Decidable.byContradiction fun z=>?_;have sub:List.range (m+1) ⊆ sl:=fun j hj=>Decidable.byContradiction fun q=>z ⟨j,by have:=qaZ.mp hj;omega,q⟩;have:=(List.nodup_range (n:=m+1)).length_le_of_subset sub;rw [FV] at this;omega
theorem Rise.nodup {l:List Nat} (h:Rise l):l.Nodup:=List.Pairwise.imp (fun h=>by omega) h
structure TabI (m:Nat) (ps:List (Nat×Ky)):Prop where
 rise:Rise (ps.map (·.1))
 nd:(ps.map (·.2)).Nodup
 un:∀p∈ps,p.2∈U
 at_:∀p∈ps,∃pre post,DJ m (hk p.2)=pre++p.1::post∧∀i∈pre,i∈ps.map (·.1)
section
variable {m:Nat} {ps:List (Nat×Ky)} {t:SetTable} {hashAt:Nat→Int} {x:Ky}
def IE (hashAt:Nat→Int) (ps:List (Nat×Ky)):Prop:=∀i p,ps[i]?=some p→hashAt i=hk p.2
theorem NO (T:CZ m (ps.map (·.1)) t) (I:TabI m ps) {j:Nat} (hj:j∈ps.map (·.1)):∃i p,ps[i]?=some p∧p.1=j∧t.slot j=.live i:=by
 obtain ⟨i,hi⟩:=Hw hj;rw [BO] at hi;cases e:ps[i]? with
 |none=>rw [e] at hi;cases hi
 |some p=>rw [e] at hi;cases hi;exact ⟨i,p,e,rfl,Zbf T I.rise (by rw [BO,e];rfl)⟩
theorem RN (T:CZ m (ps.map (·.1)) t) (I:TabI m ps) (hh:IE hashAt ps) (hx:x∈U) (hn:x∉ps.map (·.2)) (rest:List Nat):∀pre:List Nat,(∀i∈pre,i∈ps.map (·.1))→Cy t.slot hashAt (hk x) (pre++rest)=Cy t.slot hashAt (hk x) rest
 |[],_=>rfl
 |a::pre,h=>by
  obtain ⟨i,p,e1,e2,e3⟩:=NO T I (h a (.head _));rw [DZ,Cy,e3];dsimp only;rw [if_neg]
  ·exact RN T I hh hx hn rest pre fun i hi=>h i (.tail _ hi)
  ·intro z;have:hk p.2=hk x:=(hh i p e1).symm.trans (beq_iff_eq.mp z);have hp:=Dw e1;exact hn (qaI.mpr ⟨p,hp,hk_inj (I.un p hp) hx this⟩)
theorem RO (T:CZ m (ps.map (·.1)) t) (I:TabI m ps) (hh:IE hashAt ps) (hx:x∈U) {j:Nat} (hp:(j,x)∈ps) (post:List Nat):∀pre:List Nat,(∀i∈pre,i∈ps.map (·.1))→∃j' i,Cy t.slot hashAt (hk x) (pre++j::post)=some (.inr (j',i))∧ps[i]?=some (j',x)
 |[],_=>by
  obtain ⟨i,p,e1,e2,e3⟩:=NO T I (qaI.mpr ⟨(j,x),hp,rfl⟩);have hp':=Dw e1;have ep:p=(j,x):=by
   have hn:=I.rise.nodup;obtain ⟨k,hk'⟩:=Hw hp;have hi:=(qa1.mp e1)
   have hk2:=(qa1.mp hk')
   have:i=k:=by have:=(GF (h₀:=by rw [A0];exact hi.1) (h₁:=by rw [A0];exact hk2.1) hn).mp (by rw [List.getElem_map,List.getElem_map,hi.2,hk2.2];exact e2);exact this
   subst this;rw [e1] at hk';cases hk';rfl
  subst ep;refine ⟨j,i,?_,e1⟩;rw [FY,Cy,e3];dsimp only;rw [if_pos (by rw [hh i _ e1];exact beq_self_eq_true _)]
 |a::pre,h=>by
  obtain ⟨i,p,e1,e2,e3⟩:=NO T I (h a (.head _));rw [DZ,Cy,e3];dsimp only
  by_cases z:(hashAt i==hk x)=true
  ·rw [if_pos z];have:hk p.2=hk x:=(hh i p e1).symm.trans (beq_iff_eq.mp z);have hp':=Dw e1;have ex:=hk_inj (I.un p hp') hx this;refine ⟨a,i,rfl,?_⟩;rw [e1,←ex,←e2]
  ·rw [if_neg z];exact RO T I hh hx hp post pre fun i hi=>h i (.tail _ hi)
theorem Zbm (T:CZ m (ps.map (·.1)) t) (I:TabI m ps) (hh:IE hashAt ps) (hx:x∈ps.map (·.2)):∃j i next,t.probe hashAt (hk x) (t.probeStart (hk x))=some (.candidate j i next)∧ps[i]?=some (j,x):=by
 obtain ⟨⟨j,y⟩,hp,rfl⟩:=qaI.mp hx;obtain ⟨pre,post,e,h⟩:=I.at_ _ hp;obtain ⟨j',i,hw,ei⟩:=RO T I hh (I.un _ hp) hp post pre h;have hw':Cy t.slot hashAt (hk y) (DJ t.mask (hk y))=some (.inr (j',i)):=by rw [T.1,e];exact hw
 obtain ⟨next,hn⟩:=RI hw';exact ⟨j',i,next,hn,ei⟩
theorem Zbn (hm:m∈Dp) (T:CZ m (ps.map (·.1)) t) (I:TabI m ps) (hh:IE hashAt ps) (hx:x∈U) (hn:x∉ps.map (·.2)) (hl:ps.length≤m):∃j pre post,t.probe hashAt (hk x) (t.probeStart (hk x))=some (.empty j none)∧j≤m∧j∉ps.map (·.1)∧DJ m (hk x)=pre++j::post∧∀i∈pre,i∈ps.map (·.1):=by
 obtain ⟨j0,hj0,hn0⟩:=RM (sl:=ps.map (·.1)) (m:=m) I.rise.nodup (by rw [A0];exact hl);obtain ⟨pre,j,post,e,h1,h2⟩:=RL ⟨j0,(ID hm hx).mpr hj0,hn0⟩;have hw:Cy t.slot hashAt (hk x) (DJ t.mask (hk x))=some (.inl j):=by rw [T.1,e,RN T I hh hx hn _ pre h2,Cy,Zbg T I.rise h1]
 have hj:j≤m:=(ID hm hx).mp (by rw [e];simp);exact ⟨j,pre,post,RI hw,hj,h1,e,h2⟩
def B7 (ps:List (Nat×Ky)) (p:Nat) (q:Nat×Ky):List (Nat×Ky):=ps.take p++q::ps.drop p
theorem insP_mem {p:Nat} {q r:Nat×Ky}:r∈B7 ps p q↔r=q∨r∈ps:=by
 unfold B7;rw [qaP,qa5];have:r∈ps↔r∈ps.take p∨r∈ps.drop p:=by
  conv=>lhs;rw [←Hv p ps]
  exact qaP
 rw [this];constructor
 ·rintro (h |h |h)
  ·exact .inr (.inl h)
  ·exact .inl h
  ·exact .inr (.inr h)
 ·rintro (h |h |h)
  ·exact .inr (.inl h)
  ·exact .inl h
  ·exact .inr (.inr h)
theorem TabI.put (I:TabI m ps) (hx:x∈U) (hn:x∉ps.map (·.2)) {j:Nat} {pre post:List Nat} (hj:j∉ps.map (·.1)) (e:DJ m (hk x)=pre++j::post) (hp:∀i∈pre,i∈ps.map (·.1)):TabI m (B7 ps (below (ps.map (·.1)).toArray j) (j,x)):=by
 have em:(B7 ps (below (ps.map (·.1)).toArray j) (j,x)).map (·.1)=(ps.map (·.1)).take (below (ps.map (·.1)).toArray j)++j::(ps.map (·.1)).drop (below (ps.map (·.1)).toArray j):=by unfold B7;simp
 refine ⟨by rw [em];exact RK I.rise hj,?_,fun p hp'=>?_,fun p hp'=>?_⟩
 ·have:(B7 ps (below (ps.map (·.1)).toArray j) (j,x)).Perm ((j,x)::ps):=by unfold B7;refine qcZ.trans ?_;rw [Hv]
  have h2:=this.map (·.2);exact h2.nodup_iff.mpr (qbG.mpr ⟨hn,I.nd⟩)
 ·rcases insP_mem.mp hp' with rfl |hp'
  ·exact hx
  ·exact I.un p hp'
 ·have up:∀i,i∈ps.map (·.1)→i∈(B7 ps (below (ps.map (·.1)).toArray j) (j,x)).map (·.1):=fun i hi=>by obtain ⟨r,hr,rfl⟩:=qaI.mp hi;exact qaI.mpr ⟨r,insP_mem.mpr (.inr hr),rfl⟩
  rcases insP_mem.mp hp' with rfl |hp'
  ·exact ⟨pre,post,e,fun i hi=>up i (hp i hi)⟩
  ·obtain ⟨pre',post',e',h'⟩:=I.at_ p hp';exact ⟨pre',post',e',fun i hi=>up i (h' i hi)⟩
end
def IF (owner:Array (Option Nat)) (j:Nat):Bool:=(owner.getD j (some 0)).isNone
theorem RP (m:Nat) (owner:Array (Option Nat)):∀(L i q:Nat),layClean.free m owner L i q=(Gv m L i q).find? (IF owner)
 |0,_,_=>rfl
 |L+1,i,q=>by
  unfold layClean.free Gv FI;rw [List.find?_append,List.find?_map];have e:(IF owner∘fun x=>i+x)=fun k=>(owner.getD (i+k) (some 0)).isNone:=rfl;rw [e];cases h:(List.range (runEnd m i+1 - i)).find? fun k=>(owner.getD (i+k) (some 0)).isNone with
  |some k=>rfl
  |none=>dsimp only [Option.map_none,Option.none_or];exact RP m owner L _ _
theorem Zbo (m:Nat) (h:Int):DJ m h=Gv m (turns m) (bits h % (m+1)) (bits h):=by unfold DJ;rfl
def Gw (m:Nat) (acc:Option (Array (Option Nat)×Nat)) (h:Int):Option (Array (Option Nat)×Nat):=match acc with
 |none=>none
 |some p=>match layClean.free m p.1 (turns m) (bits h % (m+1)) (bits h) with
  |none=>none
  |some j=>some (p.1.setIfInBounds j (some p.2),p.2+1)
theorem Zbp {m:Nat} {owner:Array (Option Nat)} {k j:Nat} {h:Int} (e:layClean.free m owner (turns m) (bits h % (m+1)) (bits h)=some j):Gw m (some (owner,k)) h=some (owner.setIfInBounds j (some k),k+1):=by unfold Gw;dsimp only;rw [e]
theorem Zbq (m:Nat) (hs:List Int):layClean m hs.toArray=(hs.foldl (Gw m) (some (Array.replicate (m+1) none,0))).map (·.1):=by
 unfold layClean;rw [←Array.foldl_toList];have:(fun (acc:Option (Array (Option Nat)×Nat)) (h:Int)=>(do
  let (owner,k) ←acc
  let j ←layClean.free m owner (turns m) (bits h % (m+1)) (bits h)
  pure (owner.setIfInBounds j (some k),k+1):Option (Array (Option Nat)×Nat)))=Gw m:=by
  funext acc h;unfold Gw;cases acc with
  |none=>rfl
  |some p=>
   show (layClean.free m p.1 (turns m) (bits h % (m+1)) (bits h)).bind _=match layClean.free m p.1 (turns m) (bits h % (m+1)) (bits h) with |none=>none |some j=>some (p.1.setIfInBounds j (some p.2),p.2+1)
   cases layClean.free m p.1 (turns m) (bits h % (m+1)) (bits h) with
   |none=>rfl
   |some j=>rfl
 exact congrArg (fun f=>(hs.foldl f (some (Array.replicate (m+1) none,0))).map (·.1)) this
theorem Zbr {l l':List (Nat×Nat)} (h:Rise (l.map (·.1))) (h':Rise (l'.map (·.1))) (m:∀x,x∈l↔x∈l'):l=l':=by
 have q:∀{l:List (Nat×Nat)},Rise (l.map (·.1))→l.Pairwise fun a b=>a.1<b.1:=fun h=>by
  unfold Rise at h
  rwa [HA] at h
 have nd:∀{l:List (Nat×Nat)},Rise (l.map (·.1))→l.Nodup:=fun h=>(q h).imp fun z e=>by rw [e] at z;omega
 refine List.Perm.eq_of_pairwise (le:=fun a b=>a.1<b.1) (fun a b _ _ h1 h2=>by omega) (q h) (q h') ((List.perm_ext_iff_of_nodup (nd h) (nd h')).mpr m)
structure OwnI (m:Nat) (ks:List Ky) (k:Nat) (owner:Array (Option Nat)) (qs:List (Nat×Nat)):Prop where
 sz:owner.size=m+1
 look:∀j i,owner[j]?=some (some i)↔(j,i)∈qs
 rise:Rise (qs.map (·.1))
 perm:(qs.map (·.2)).Perm (List.range k)
 tab:TabI m (qs.map fun q=>(q.1,ks.getD q.2 (0,0)))
theorem OwnI.len {m:Nat} {ks:List Ky} {k:Nat} {owner:Array (Option Nat)} {qs:List (Nat×Nat)} (O:OwnI m ks k owner qs):qs.length=k:=by have:=O.perm.length_eq;simpa using this
theorem OwnI.free {m:Nat} {ks:List Ky} {k:Nat} {owner:Array (Option Nat)} {qs:List (Nat×Nat)} (O:OwnI m ks k owner qs) {j:Nat} (hj:j≤m):IF owner j=true↔j∉qs.map (·.1):=by
 unfold IF;have hl:j<owner.size:=by rw [O.sz];omega
 have e:owner.getD j (some 0)=owner[j]:=by simp [Array.getD,hl]
 have e2:owner[j]?=some owner[j]:=Array.getElem?_eq_getElem hl;rw [e];cases h:owner[j] with
 |none=>refine ⟨fun _ z=>?_,fun _=>rfl⟩;obtain ⟨⟨j',i⟩,hq,rfl⟩:=qaI.mp z;have:=(O.look j' i).mpr hq;rw [e2,h] at this;cases this
 |some i=>refine ⟨fun z=>(nomatch z),fun z=>absurd (qaI.mpr ⟨(j,i),(O.look j i).mp (by rw [e2,h]),rfl⟩) z⟩
theorem OwnI.step {m:Nat} (hm:m∈Dp) {ks:List Ky} (nd:ks.Nodup) (un:∀x∈ks,x∈U) {k:Nat} (hk':k<ks.length) (hl:k≤m) {owner:Array (Option Nat)} {qs:List (Nat×Nat)} (O:OwnI m ks k owner qs):
 ∃owner' qs',Gw m (some (owner,k)) (hk (ks.getD k (0,0)))=some (owner',k+1)∧OwnI m ks (k+1) owner' qs':=by
 have ek:ks.getD k (0,0)=ks[k]:=by simp [List.getD,hk']
 have hx:ks[k]∈U:=un _ (Dh hk');have em:(qs.map fun q=>(q.1,ks.getD q.2 (0,0))).map (·.1)=qs.map (·.1):=by simp
 have hn:ks[k]∉(qs.map fun q=>(q.1,ks.getD q.2 (0,0))).map (·.2):=by
  intro z;obtain ⟨p,hp,e⟩:=qaI.mp z;obtain ⟨⟨j,i⟩,hq,rfl⟩:=qaI.mp hp;have hi:i<k:=qaZ.mp (O.perm.mem_iff.mp (qaI.mpr ⟨(j,i),hq,rfl⟩));have hi2:i<ks.length:=by omega
  have e':ks[i]=ks[k]:=by simpa [List.getD,hi2] using e
  have:=(GF nd).mp e';omega
 obtain ⟨j0,hj0,hn0⟩:=RM (sl:=qs.map (·.1)) (m:=m) O.rise.nodup (by rw [A0,O.len];exact hl);obtain ⟨pre,j,post,e,h1,h2⟩:=RL ⟨j0,(ID hm hx).mpr hj0,hn0⟩;have hj:j≤m:=(ID hm hx).mp (by rw [e];simp);have hpre:∀i∈pre,i≤m:=fun i hi=>(ID hm hx).mp (by rw [e];simp [hi]);have hf:layClean.free m owner (turns m) (bits (hk ks[k]) % (m+1)) (bits (hk ks[k]))=some j:=by
  rw [RP,←Zbo,e,List.find?_append];have:pre.find? (IF owner)=none:=List.find?_eq_none.mpr fun i hi=>by rw [O.free (hpre i hi)];exact fun z=>z (h2 i hi)
  rw [this,DO,(O.free hj).mpr h1];rfl
 have hbl:=(KO (j:=j) O.rise).1;refine ⟨owner.setIfInBounds j (some k),qs.take (below (qs.map (·.1)).toArray j)++(j,k)::qs.drop (below (qs.map (·.1)).toArray j),?_,?_,?_,?_,?_,?_⟩
 ·rw [ek];exact Zbp hf
 ·rw [Array.size_setIfInBounds];exact O.sz
 ·intro j' i;have hmem:(j',i)∈qs.take (below (qs.map (·.1)).toArray j)++(j,k)::qs.drop (below (qs.map (·.1)).toArray j)↔(j',i)=(j,k)∨(j',i)∈qs:=by rw [qcZ.mem_iff,Hv,qa5]
  rw [hmem,Array.getElem?_setIfInBounds]
  by_cases z:j=j'
  ·subst z;rw [if_pos rfl,if_pos (by rw [O.sz];omega)];constructor
   ·intro q;cases q;exact .inl rfl
   ·rintro (q |q)
    ·cases q;rfl
    ·exact absurd (qaI.mpr ⟨_,q,rfl⟩) h1
  ·rw [if_neg z,O.look];constructor
   ·exact .inr
   ·rintro (q |q)
    ·cases q;exact absurd rfl z
    ·exact q
 ·have:=RK O.rise h1;simpa using this
 ·rw [Fj,AZ];refine qcZ.trans ?_;rw [←Fj,Hv,HC];exact (O.perm.cons k).trans (List.perm_append_comm (l₁:=[k]))
 ·have:=O.tab.put hx hn (j:=j) (pre:=pre) (post:=post) (by rw [em];exact h1) e (by rw [em];exact h2);rw [em] at this;unfold B7 at this;rw [←ek] at this;simpa using this
theorem OwnI.all {m:Nat} (hm:m∈Dp) {ks:List Ky} (nd:ks.Nodup) (un:∀x∈ks,x∈U) (hl:ks.length≤m):∀(r:List Ky) (k:Nat) (owner:Array (Option Nat)) (qs:List (Nat×Nat)),ks.drop k=r→k≤ks.length→OwnI m ks k owner qs→
 ∃owner' qs',(r.map hk).foldl (Gw m) (some (owner,k))=some (owner',ks.length)∧OwnI m ks ks.length owner' qs'
 |[],k,owner,qs,e,h,O=>by
  have:k=ks.length:=by have:=congrArg List.length e;simp at this;omega
  subst this;exact ⟨owner,qs,rfl,O⟩
 |x::r,k,owner,qs,e,h,O=>by
  have hk':k<ks.length:=by have:=congrArg List.length e;simp at this;omega
  have ex:ks.getD k (0,0)=x:=by have:=congrArg (·[0]?) e;simp [hk'] at this;simp [List.getD,hk',this]
  obtain ⟨owner1,qs1,e1,O1⟩:=O.step hm nd un hk' (by omega);rw [ex] at e1;rw [AZ,EF,e1];refine OwnI.all hm nd un hl r (k+1) owner1 qs1 ?_ hk' O1;rw [←List.drop_drop,e];rfl
theorem OwnI.zero (m:Nat) (ks:List Ky):OwnI m ks 0 (Array.replicate (m+1) none) [] where
 sz:=by simp
 look:=fun j i=>by
  rw [Array.getElem?_replicate];split
  ·simp
  ·simp
 rise:=.nil
 perm:=by simp
 tab:=⟨.nil,.nil,fun _ h=>(nomatch h),fun _ h=>(nomatch h)⟩
theorem Zbs {m m' wanted:Nat} {ps:List (Nat×Ky)} {t:SetTable} (T:CZ m (ps.map (·.1)) t) (I:TabI m ps) (hm:m'∈Dp) (hw:sizeAbove wanted - 1=m') (hl:ps.length≤m'):
 ∃(t':SetTable) (qs:List (Nat×Nat)),t.relaid ((ps.map fun p=>hk p.2).toArray) wanted=some (t',(qs.map (·.2)).toArray)∧t'.led=t.led∧CZ m' ((qs.map fun q:Nat×Nat=>(q.1,(ps.map (·.2)).getD q.2 (0,0))).map (·.1)) t'∧TabI m' (qs.map fun q=>(q.1,(ps.map (·.2)).getD q.2 (0,0)))∧(qs.map (·.2)).Perm (List.range ps.length):=by
 have un:∀x∈ps.map (·.2),x∈U:=fun x hx=>by obtain ⟨p,hp,rfl⟩:=qaI.mp hx;exact I.un p hp
 obtain ⟨owner,qs,e,O⟩:=OwnI.all hm I.nd un (by rw [A0];exact hl) _ 0 _ [] rfl (B8 _) (OwnI.zero m' _);rw [Jz,EI] at e;have e2:layClean m' ((ps.map fun p=>hk p.2).toArray)=some owner:=by rw [Zbq];have:(ps.map fun p=>hk p.2)=ps.map (hk∘fun p=>p.2):=rfl;rw [this,e];rfl
 have hlive:((List.range (m' + 1)).filterMap fun j=>(owner.getD j none).map (j,·))=qs:=by
  refine Zbr ?_ O.rise fun x=>?_
  ·unfold Rise;rw [HA,List.pairwise_filterMap];refine List.Pairwise.imp ?_ (List.pairwise_lt_range (n:=m' + 1));intro a b hab x hx y hy;obtain ⟨_,_,rfl⟩:=qaM.mp hx;obtain ⟨_,_,rfl⟩:=qaM.mp hy;exact hab
  ·obtain ⟨j,i⟩:=x;rw [List.mem_filterMap];constructor
   ·rintro ⟨j',hj',e⟩;obtain ⟨i',e',q⟩:=qaM.mp e;cases q;refine (O.look j i).mp ?_;have hl:j<owner.size:=by rw [O.sz];exact qaZ.mp hj'
    have:owner.getD j none=owner[j]:=by simp [Array.getD,hl]
    rw [Array.getElem?_eq_getElem hl,←this,e']
   ·intro hq;have h1:=(O.look j i).mpr hq;have hl:j<owner.size:=(Array.getElem?_eq_some_iff.mp h1).1;refine ⟨j,qaZ.mpr (by rw [←O.sz];exact hl),?_⟩;have:owner.getD j none=owner[j]:=by simp [Array.getD,hl]
    rw [Array.getElem?_eq_getElem hl] at h1;rw [this,Option.some.inj h1];rfl
 refine ⟨{mask:=m',place:=(qs.map (·.1)).toArray,dummies:=#[],finger:=t.finger,led:=t.led,moves:=t.movedTo m',plain:=t.plain},qs,?_,rfl,?_,O.tab,?_⟩
 ·unfold relaid laid;rw [hw,e2];simp only [Option.bind_eq_bind,Fi];rw [hlive];rfl
 ·refine ⟨rfl,?_,rfl⟩;simp
 ·have:=O.perm
  rwa [A0] at this
end SetP
namespace SetP
open PySem PySem.Spec PyProof.Rows
section
variable {prog:Program} {w:World}
def KeyAt (prog:Program) (w:World) (h:Heap) (x:Ky) (v:Value):Prop:=∃b,v=.ref b∧IsTupleKey (intKind prog w) h [(x.1:Int),(x.2:Int)] b
theorem Zbt (x:Ky):tupleKeyHash (intKind prog w) [(x.1:Int),(x.2:Int)]=hk x:=rfl
theorem RQ {ks:List Int} {vs:List Value} (h:ItemsAre (intKind prog w) ks vs):∀v∈vs,∃n t,v=.int n t:=by
 induction h with
 |nil=>intro v hv;cases hv
 |cons h1 _ ih=>
  intro v hv;rcases qa5.mp hv with rfl |hv
  ·obtain ⟨t,e⟩:=Value.isInt_shape h1;exact ⟨_,t,e⟩
  ·exact ih v hv
variable {A:Around} {E:Value→Shared→Prop} {s:Shared}
theorem RR {ks:List Int} {Q:Bool→Shared→Prop} (hk:IsTupleKey (intKind prog w) s.heap ks b) (h:Q false s):wpAny (model prog w) A (ofAClassStatement 8 (.ref b)) Q E s:=by
 have hT:=hk.typeIs;obtain ⟨o,items,n,ho,_,hd,hi⟩:=hk;unfold ofAClassStatement;refine Ad (wpAny_typeOf hT ?_);dsimp only;rw [if_pos (by decide)];refine Ad (Ak ?_);simp only [FZ,Bq,if_false];refine Ad (wpAny_seqItems ho hd ?_);refine Ad ?_
 show wpAny _ _ (forIn items _ _) _ _ s
 rw [←Array.forIn_toList];refine wpAny_forIn_list _ (fun rest r s'=>r.1=none∧s'=s∧∀v∈rest,∃n t,v=Value.int n t) _ ?_ ?_ _ _ ⟨rfl,rfl,RQ hi⟩
 ·rintro v rest r s' ⟨hr,rfl,hall⟩;obtain ⟨n,t,rfl⟩:=hall v AK;refine Ad (m:=ofAClassStatement 7 (.int n t)) (wpAny_of_eq (a:=false) (by unfold ofAClassStatement;rfl) ?_);simp only [Bq,if_false];exact Ak ⟨rfl,rfl,fun u hu'=>hall u (AN _ hu')⟩
 ·rintro ⟨r1,r2⟩ s' ⟨hr,rfl,_⟩;simp only at hr;subst hr;exact Ak h
theorem Zbu {ks:List Int} {Q:Bool→Shared→Prop} (hk:IsTupleKey (intKind prog w) s.heap ks b) (h:Q true s):wpAny (model prog w) A (hashByValue 8 (.ref b)) Q E s:=by
 have hT:=hk.typeIs;obtain ⟨o,items,n,ho,_,hd,hi⟩:=hk;unfold hashByValue;refine Ad (wpAny_specialOf hT F.slot_tuple_hash.lookup ?_);dsimp only;refine Ad (wpAny_seqItems ho hd ?_);refine Ad ?_
 show wpAny _ _ (forIn items _ _) _ _ s
 rw [←Array.forIn_toList];refine wpAny_forIn_list _ (fun rest r s'=>r.1=none∧s'=s∧∀v∈rest,∃n t,v=Value.int n t) _ ?_ ?_ _ _ ⟨rfl,rfl,RQ hi⟩
 ·rintro v rest r s' ⟨hr,rfl,hall⟩;obtain ⟨n,t,rfl⟩:=hall v AK;refine Ad (m:=hashByValue 7 (.int n t)) (wpAny_of_eq (a:=true) (by unfold hashByValue;rfl) ?_);simp only [FZ,Bq,if_false];exact Ak ⟨rfl,rfl,fun u hu'=>hall u (AN _ hu')⟩
 ·rintro ⟨r1,r2⟩ s' ⟨hr,rfl,_⟩;simp only at hr;subst hr;exact Ak h
theorem Zbv {x:Ky} {Q:Bool→Shared→Prop} (hb:IsTupleKey (intKind prog w) s.heap [(x.1:Int),(x.2:Int)] b) (l:List Value) (hl:∀v∈l,∃y,KeyAt prog w s.heap y v) (h:Q false s):wpAny (model prog w) A (searchCouldBeSeen (.ref b) l) Q E s:=by
 unfold searchCouldBeSeen;refine Ad ?_;refine wpAny_forIn_list _ (fun rest r s'=>r.1=none∧s'=s∧∀v∈rest,∃y,KeyAt prog w s.heap y v) _ ?_ ?_ _ _ ⟨rfl,rfl,hl⟩
 ·rintro v rest r s' ⟨hr,rfl,hall⟩;obtain ⟨y,c,rfl,hc⟩:=hall v AK;dsimp only;have e2:(carriedByValue (.ref b)&&carriedByValue (.ref c))=false:=rfl;rw [e2,Bool.or_false]
  by_cases z:(b==c)=true
  ·rw [if_pos z];exact Ak ⟨rfl,rfl,fun u hu'=>hall u (AN _ hu')⟩
  ·rw [if_neg z];refine Ad (wpAny_eqIsQuiet_tuple hb ?_);simp only [FZ,Bq,if_false];refine Ad (wpAny_eqIsQuiet_tuple hc ?_);simp only [FZ,Bq,if_false];refine Ad (RR hb ?_);simp only [Bq,if_false];refine Ad (RR hc ?_);simp only [Bq,if_false];exact Ak ⟨rfl,rfl,fun u hu'=>hall u (AN _ hu')⟩
 ·rintro ⟨r1,r2⟩ s' ⟨hr,rfl,_⟩;simp only at hr;subst hr;exact Ak h
end
def Hj (prog:Program) (w:World) (h:Heap) (p:Nat×Ky) (e:Int×Value):Prop:=e.1=hk p.2∧KeyAt prog w h p.2 e.2
inductive SetAt (prog:Program) (w:World) (h:Heap) (a:Addr) (ks:List Ky):Prop
 |mk (o:Obj) (es:Array (Int×Value)) (ep:Nat) (t:SetTable) (m:Nat) (ps:List (Nat×Ky)) (ho:h.get? a=some o) (hx:o.ExactSet) (hd:o.data=.set es ep t) (hm:m∈Dp) (T:CZ m (ps.map (·.1)) t) (I:TabI m ps)
  (P:Paired (Hj prog w h) ps es.toList) (hl:ps.length*5<m*3) (hp:(ps.map (·.2)).Perm ks)
theorem KQ {α β:Type} {F:α→β→Prop}:∀{xs:List α} {ys:List β} {i:Nat} {x:α},Paired F xs ys→xs[i]?=some x→∃y,ys[i]?=some y∧F x y
 |_,_,_,_,.nil,e=>by simp at e
 |_,_,0,_,.cons r _,e=>by simp at e;subst e;exact ⟨_,rfl,r⟩
 |_,_,i+1,x,.cons _ t,e=>by simp at e;obtain ⟨y,h1,h2⟩:=KQ t e;exact ⟨y,by simpa using h1,h2⟩
theorem paired_len {α β:Type} {F:α→β→Prop}:∀{xs:List α} {ys:List β},Paired F xs ys→xs.length=ys.length
 |_,_,.nil=>rfl
 |_,_,.cons _ t=>by simp [paired_len t]
theorem KR {α β:Type} {F G:α→β→Prop} (f:∀a b,F a b→G a b):∀{xs:List α} {ys:List β},Paired F xs ys→Paired G xs ys
 |_,_,.nil=>.nil
 |_,_,.cons r t=>.cons (f _ _ r) (KR f t)
theorem RS {α β:Type} {F:α→β→Prop} {zs:List α} {ws:List β} (q:Paired F zs ws):∀{xs:List α} {ys:List β},Paired F xs ys→Paired F (xs++zs) (ys++ws)
 |_,_,.nil=>q
 |_,_,.cons r t=>.cons r (RS q t)
theorem NP {α β:Type} {F:α→β→Prop}:∀(n:Nat) {xs:List α} {ys:List β},Paired F xs ys→Paired F (xs.take n) (ys.take n)∧Paired F (xs.drop n) (ys.drop n)
 |0,_,_,h=>⟨.nil,h⟩
 |n+1,_,_,.nil=>⟨.nil,.nil⟩
 |n+1,_,_,.cons r t=>⟨.cons r (NP n t).1,(NP n t).2⟩
theorem paired_right {α β:Type} {F:α→β→Prop}:∀{xs:List α} {ys:List β},Paired F xs ys→∀y∈ys,∃x∈xs,F x y
 |_,_,.nil,y,h=>nomatch h
 |_,_,.cons r t,y,h=>by
  rcases qa5.mp h with rfl |h
  ·exact ⟨_,.head _,r⟩
  ·obtain ⟨x,h1,h2⟩:=paired_right t y h;exact ⟨x,.tail _ h1,h2⟩
section
variable {prog:Program} {w:World} {A:Around} {E:Value→Shared→Prop} {s:Shared}
theorem Zbw {m:Nat} (hm:m∈Dp):(m % 2==0)=false:=by simp only [Dp,qa5,Bw,or_false] at hm;rcases hm with rfl |rfl |rfl<;>rfl
theorem fits_of {m n:Nat} {ps:List (Nat×Ky)} {t:SetTable} (T:CZ m (ps.map (·.1)) t) (hl:ps.length≤m) (hn:ps.length=n):t.fits n=true:=by obtain ⟨h1,h2,h3⟩:=T;unfold SetTable.fits SetTable.fill;rw [h1,h2,h3];simp [hn];omega
theorem RT {m:Nat} {ps:List (Nat×Ky)} {t:SetTable} (T:CZ m (ps.map (·.1)) t):t.fill=ps.length:=by obtain ⟨h1,h2,h3⟩:=T;unfold SetTable.fill;rw [h2,h3];simp
theorem Zbx {o:Obj} {es:Array (Int×Value)} {ep:Nat} {t:SetTable} {m:Nat} {ps:List (Nat×Ky)} {x:Ky} {Q:SetFound→Shared→Prop} (hu:A.units<cLine) (ho:s.heap.get? a=some o) (hd:o.data=.set es ep t) (hm:m∈Dp)
 (T:CZ m (ps.map (·.1)) t) (I:TabI m ps) (P:Paired (Hj prog w s.heap) ps es.toList) (hl:ps.length≤m) (hb:IsTupleKey (intKind prog w) s.heap [(x.1:Int),(x.2:Int)] b) (hx:x∈U)
 (there:x∈ps.map (·.2)→Q (.there none) s)
 (free:∀j pre post,x∉ps.map (·.2)→j≤m→j∉ps.map (·.1)→DJ m (hk x)=pre++j::post→(∀i∈pre,i∈ps.map (·.1))→Q (.free j false) s):
 wpAny (model prog w) A (setSearch a (.ref b) (hk x) true) Q E s:=by
 have hz:ps.length=es.size:=by have:=paired_len P;simpa using this
 have hf:t.fits es.size=true:=fits_of T hl hz;have hsh:IE (fun i=>(es[i]?.map (·.1)).getD 0) ps:=fun i p e=>by
  obtain ⟨y,h1,h2⟩:=KQ P e;have h1:es[i]?=some y:=by simpa using h1
  show (es[i]?.map (·.1)).getD 0=_
  rw [h1];exact h2.1
 have hg:t.gaveWay=false:=by unfold SetTable.gaveWay;rw [T.1];exact Zbw hm
 unfold setSearch setSearchFrom;refine Ad (wpAny_setState_of ho hd hf ?_);dsimp only;rw [hg];simp only [Bq,if_false]
 by_cases hin:x∈ps.map (·.2)
 ·obtain ⟨j,i,next,e,hi⟩:=Zbm T I hsh hin;obtain ⟨⟨eh,ev⟩,h1,h2,c,h3,hc⟩:=KQ P hi;have h1:es[i]?=some (eh,ev):=by simpa using h1
  simp only at h2 h3;subst h3
  erw [e]
  dsimp only;have AJ:wpAny (model prog w) A (do
   let some (_,y):=es[i]? |unsupported "internal:set-entry"
   let equal ←holding [y] (eqBool y (.ref b))
   let (es',_,t') ←setState a
   if true&&equal then return SetFound.there none
   let some same:=t'.sameMemory t.moves t.mask |unsupported "set.changed-during-lookup:is-the-new-block-at-the-old-address"
   let still ←match (if same then t'.slot j else .empty) with
    |.live i'=>match es'[i']? with
     |some (_,y')=>do pure (if ←isSame y' y then some i' else none)
     |none=>pure none
    |_=>pure none
   match still with
   |none=>rule "set.search.anew";setSearchFrom a (.ref b) (hk x) true 99999 none
   |some i'=>if equal then return .there (some i') else setSearchFrom a (.ref b) (hk x) true 99999 (some next)) Q E s:=by
   rw [h1];dsimp only;refine Ad (Ci (wpAny_eqBool_tuple hu hc hb ?_));refine Ad (wpAny_setState_of ho hd hf ?_);dsimp only;rw [decide_eq_true rfl];simp only [Bool.and_self,if_true];exact Ak (there hin)
  by_cases hled:t.led=true
  ·rw [hled];simp only [FZ,Bq,if_false];exact AJ
  ·rw [Ju _ |>.mp hled];simp only [Bool.not_false,if_true];refine Ad (Zbv hb _ (fun v hv=>?_) ?_)
   ·obtain ⟨e',he',rfl⟩:=qaI.mp hv;have he':e'∈es.toList:=by have:=Array.mem_toList_iff.mp he';exact Array.mem_toList_iff.mpr (Array.mem_filter.mp this).1
    obtain ⟨p,_,hp⟩:=paired_right P e' he';exact ⟨p.2,hp.2⟩
   ·simp only [Bq,if_false];exact AJ
 ·obtain ⟨j,pre,post,e,h1,h2,h3,h4⟩:=Zbn hm T I hsh hx hin hl
  erw [e]
  dsimp only;exact Ak (free j pre post hin h1 h2 h3 h4)
end
theorem RU {F:(Nat×Ky)→(Int×Value)→Prop} {ps:List (Nat×Ky)} {l:List (Int×Value)} (hF:∀j j' k e,F (j,k) e→F (j',k) e) (P:Paired F ps l):∀qs:List (Nat×Nat),(∀q∈qs,q.2<ps.length)→
 Paired F (qs.map fun q=>(q.1,(ps.map (·.2)).getD q.2 (0,0))) ((qs.map (·.2)).filterMap (l[·]?))
 |[],_=>.nil
 |q::qs,h=>by
  have hq:=h q (.head _);obtain ⟨e,h1,h2⟩:=KQ P (AR hq);rw [AZ,AZ,ED,h1];dsimp only;refine .cons ?_ (RU hF P qs fun q hq=>h q (.tail _ hq));have:(ps.map (·.2)).getD q.2 (0,0)=ps[q.2].2:=by simp [List.getD,hq]
  rw [this];exact hF _ _ _ _ h2
theorem getD_range {α:Type} (l:List α) (d:α):(List.range l.length).map (fun i=>l.getD i d)=l:=by refine Jt (by simp) fun i h1 h2=>?_;simp [List.getD,h2]
def insK (ks:List Ky) (x:Ky):List Ky:=if x∈ks then ks else x::ks
section
variable {prog:Program} {w:World} {A:Around} {E:Value→Shared→Prop} {s:Shared}
theorem Zby {h h':Heap} {o:Obj} {ns:List Int} (hs:Heap.SameBut a h h') (ho:h.get? a=some o) (hx:o.ExactSet) (k:IsTupleKey (intKind prog w) h ns b):IsTupleKey (intKind prog w) h' ns b:=by
 obtain ⟨o',items,n,ho',hc,hd',hi⟩:=k;have hne:b≠a:=by rintro rfl;obtain rfl:o'=o:=Option.some.inj (ho'.symm.trans ho);have:=hx.1;rw [hc] at this;exact absurd this (by decide)
 exact ⟨o',items,n,(hs.2 b hne).trans ho',hc,hd',hi⟩
theorem KeyAt.same {h h':Heap} {o:Obj} {x:Ky} (hs:Heap.SameBut a h h') (ho:h.get? a=some o) (hx:o.ExactSet) (k:KeyAt prog w h x v):KeyAt prog w h' x v:=by obtain ⟨b,e,k⟩:=k;exact ⟨b,e,Zby hs ho hx k⟩
theorem U_len:U.length=64:=by decide +kernel
theorem Zbz {m n:Nat} (hm:m∈Dp) (h1:n*5<m*3) (h2:m*3≤(n+1)*5) (h3:n+1≤64):∃m',m'∈Dp∧SetTable.sizeAbove (SetTable.grown (n+1)) - 1=m'∧(n+1)*5<m' * 3∧¬SetTable.sizeAbove (SetTable.grown (n+1))>sizeLine:=by
 simp only [Dp,qa5,Bw,or_false] at hm;rcases hm with rfl |rfl |rfl
 ·have:n=4:=by omega
  subst this;exact ⟨31,by decide,by decide,by decide,by rw [show SetTable.sizeAbove (SetTable.grown (4+1))=32 by decide,sizeLine_eq];omega⟩
 ·have:n=18:=by omega
  subst this;exact ⟨127,by decide,by decide,by decide,by rw [show SetTable.sizeAbove (SetTable.grown (18+1))=128 by decide,sizeLine_eq];omega⟩
 ·omega
theorem ZbA {x:Ky} {ks:List Ky} {Q:Bool→Shared→Prop} (hu:A.units<cLine) (S:SetAt prog w s.heap a ks) (hb:IsTupleKey (intKind prog w) s.heap [(x.1:Int),(x.2:Int)] b) (hx:x∈U)
 (h:∀h' r,Heap.SameBut a s.heap h'→SetAt prog w h' a (insK ks x)→Q r {s with heap:=h'}):
 wpAny (model prog w) A (setAddHashed a (.ref b) (hk x)) Q E s:=by
 obtain ⟨o,es,ep,t,m,ps,ho,hex,hd,hm,T,I,P,hl,hp⟩:=S;have hz:ps.length=es.size:=by have:=paired_len P;simpa using this
 have hle:ps.length≤m:=by omega
 have hf:t.fits es.size=true:=fits_of T hle hz;unfold setAddHashed setAddHashedIn;refine Ci (Ad (wpAny_setState_of ho hd hf ?_));dsimp only;rw [show byScan (.ref b) es=false from rfl];simp only [Bq,if_false];refine Ad (Zbx hu ho hd hm T I P hle hb hx (fun hin=>?_) fun j pre post hn hj hjn hseq hpre=>?_)
 ·dsimp only;have:=h s.heap false (Heap.SameBut.refl a s.heap) ⟨o,es,ep,t,m,ps,ho,hex,hd,hm,T,I,P,hl,by
   have:x∈ks:=hp.mem_iff.mp hin;unfold insK;rw [if_pos this];exact hp⟩
  exact Ak this
 ·dsimp only;refine Ad (wpAny_setState_of ho hd hf ?_);dsimp only;have hplace:t.place=(ps.map (·.1)).toArray:=T.2.1;have hdum:t.dummies=#[]:=T.2.2;have hput:t.put j=({t with place:=SetTable.insertAt t.place (SetTable.below t.place j) j},SetTable.below t.place j):=by
   unfold SetTable.put;have:SetTable.has t.dummies j=false:=by rw [hdum];unfold SetTable.has;simp
   rw [this];rfl
  rw [hput];dsimp only;have hbl:SetTable.below (ps.map (·.1)).toArray j≤ps.length:=by have:=(KO (j:=j) I.rise).1;simpa using this
  have T1:CZ m ((B7 ps (SetTable.below (ps.map (·.1)).toArray j) (j,x)).map (·.1)) {t with place:=SetTable.insertAt t.place (SetTable.below t.place j) j}:=by
   refine ⟨T.1,?_,hdum⟩
   show SetTable.insertAt t.place (SetTable.below t.place j) j=_
   rw [hplace,RJ _ _ _ (by rw [A0];exact hbl)];unfold B7;simp
  have I1:TabI m (B7 ps (SetTable.below (ps.map (·.1)).toArray j) (j,x)):=I.put hx hn hjn hseq hpre;have ees:SetTable.insertAt es (SetTable.below t.place j) (hk x,Value.ref b)=(es.toList.take (SetTable.below (ps.map (·.1)).toArray j)++(hk x,Value.ref b)::es.toList.drop (SetTable.below (ps.map (·.1)).toArray j)).toArray:=by rw [hplace];have:=RJ es.toList (SetTable.below (ps.map (·.1)).toArray j) (hk x,Value.ref b) (by rw [Array.length_toList,←hz];exact hbl);simpa using this
  have hsz1:(SetTable.insertAt es (SetTable.below t.place j) (hk x,Value.ref b)).size=ps.length+1:=by rw [ees];simp;omega
  have P1:Paired (Hj prog w s.heap) (B7 ps (SetTable.below (ps.map (·.1)).toArray j) (j,x)) (SetTable.insertAt es (SetTable.below t.place j) (hk x,Value.ref b)).toList:=by rw [ees];obtain ⟨q1,q2⟩:=NP (SetTable.below (ps.map (·.1)).toArray j) P;exact RS (.cons ⟨rfl,b,rfl,hb⟩ q2) q1
  have hl1:(B7 ps (SetTable.below (ps.map (·.1)).toArray j) (j,x)).length=ps.length+1:=by unfold B7;simp;omega
  have p1:((B7 ps (SetTable.below (ps.map (·.1)).toArray j) (j,x)).map (·.2)).Perm (insK ks x):=by
   have hnk:x∉ks:=fun z=>hn (hp.mem_iff.mpr z);unfold insK;rw [if_neg hnk];have:(B7 ps (SetTable.below (ps.map (·.1)).toArray j) (j,x)).Perm ((j,x)::ps):=by unfold B7;refine qcZ.trans ?_;rw [Hv]
   exact (this.map fun p:Nat×Ky=>p.2).trans (hp.cons x)
  have h64:ps.length+1≤64:=by
   have:=List.Nodup.length_le_of_subset I1.nd (l₂:=U) fun k hk'=>by obtain ⟨p,hp',rfl⟩:=qaI.mp hk';exact I1.un p hp'
   rw [A0,hl1,U_len] at this;exact this
  generalize B7 ps (SetTable.below (ps.map (·.1)).toArray j) (j,x)=ps1 at *;generalize SetTable.insertAt es (SetTable.below t.place j) (hk x,Value.ref b)=es1 at *;have plain:wpAny (model prog w) A (do
   let t1:={t with place:=SetTable.insertAt t.place (SetTable.below t.place j) j}
   storeSet a es1 t1
   if !false&&t1.tooFull then setRelay a (SetTable.grown (es.size+1))
   return true) Q E s:=by
   dsimp only;generalize ({t with place:=SetTable.insertAt t.place (SetTable.below t.place j) j}:SetTable)=t1 at *;have hg1:(s.heap.update a (Obj.putSet es1 t1)).get? a=some {o with data:=.set es1 (ep+1) t1}:=by
    have:=Fg (Obj.putSet es1 t1) ho (by rw [putSet_of es1 t1 hd];rfl)
    rwa [putSet_of es1 t1 hd] at this
   have hsb1:=Heap.SameBut.update s.heap a (Obj.putSet es1 t1);have P1':Paired (Hj prog w (s.heap.update a (Obj.putSet es1 t1))) ps1 es1.toList:=KR (fun p e z=>⟨z.1,z.2.same hsb1 ho hex⟩) P1;refine Ad (wpAny_storeSet_of ho hd ?_ (by rw [hsz1,sizeLine_eq];omega))
   by_cases hfull:t1.tooFull=true
   ·rw [hfull];simp only [Bool.not_false,Bool.and_self,if_true];have hge:m*3≤(ps.length+1)*5:=by unfold SetTable.tooFull at hfull;rw [RT T1,T1.1,hl1] at hfull;simpa using hfull
    obtain ⟨m',hm',hw,hlt,hns⟩:=Zbz hm hl hge h64;have hf1:t1.fits es1.size=true:=fits_of T1 (by omega) (by omega);obtain ⟨t2,qs,e,_,T2,I2,pq⟩:=Zbs (wanted:=SetTable.grown (es.size+1)) T1 I1 hm' (by rw [←hz];exact hw) (by omega);have ehash:es1.map (·.1)=(ps1.map fun p=>hk p.2).toArray:=by
     apply Array.ext';rw [Array.toList_map];have:∀{ps:List (Nat×Ky)} {l:List (Int×Value)},Paired (Hj prog w s.heap) ps l→l.map (·.1)=ps.map fun p=>hk p.2:=by
      intro ps l q
      induction q with
      |nil=>rfl
      |cons r _ ih=>rw [AZ,AZ,ih,r.1]
     exact this P1
    have hqlt:∀q∈qs,q.2<ps1.length:=fun q hq=>qaZ.mp (pq.mem_iff.mp (qaI.mpr ⟨q,hq,rfl⟩));have P2:=RU (F:=Hj prog w s.heap) (fun _ _ _ _ z=>z) P1 qs hqlt;have eq2:((qs.map (·.2)).toArray.filterMap (es1[·]?)).toList=(qs.map (·.2)).filterMap (es1.toList[·]?):=by rw [List.filterMap_toArray];simp
    have hqn:qs.length=ps1.length:=by have:=pq.length_eq;simpa using this
    have hsz2:((qs.map (·.2)).toArray.filterMap (es1[·]?)).size=es1.size:=by rw [←Array.length_toList,eq2,←paired_len P2,A0,hqn];omega
    unfold setRelay;refine Ad (Ad (wpAny_setState_of hg1 rfl hf1 ?_));dsimp only;rw [if_neg (by rw [←hz];exact hns)];rw [ehash,e];refine Ad (wpAny_of_eq (a:=((qs.map (·.2)).toArray.filterMap (es1[·]?),t2)) ?_ ?_)
    ·show (if (((qs.map (·.2)).toArray.filterMap (es1[·]?)).size != es1.size)=true then _ else _)=_
     rw [hsz2,bne_self_eq_false,if_neg (by decide)]
    ·dsimp only;refine wpAny_storeSet_of hg1 rfl ?_ (by rw [hsz2,hsz1,sizeLine_eq];omega);generalize ((qs.map (·.2)).toArray.filterMap (es1[·]?))=es2 at *;generalize hh2:(s.heap.update a (Obj.putSet es1 t1)).update a (Obj.putSet es2 t2)=h2;have hg2:h2.get? a=some {o with data:=.set es2 (ep+1+1) t2}:=by
      have:=Fg (Obj.putSet es2 t2) hg1 (by rw [putSet_of es2 t2 rfl];rfl);rw [putSet_of es2 t2 rfl] at this
      rwa [hh2] at this
     have hsb2:Heap.SameBut a s.heap h2:=by rw [←hh2];exact hsb1.trans (Heap.SameBut.update _ a _)
     refine Ak (h h2 true hsb2 ⟨_,es2,ep+1+1,t2,m',_,hg2,hex,rfl,hm',T2,I2,?_,?_,?_⟩)
     ·rw [eq2];exact KR (fun p e z=>⟨z.1,z.2.same hsb2 ho hex⟩) P2
     ·rw [A0,hqn,hl1];exact hlt
     ·refine List.Perm.trans ?_ p1;rw [EI];have e3:((fun p:Nat×Ky=>p.2)∘fun q:Nat×Nat=>(q.1,(ps1.map (·.2)).getD q.2 (0,0)))=(fun i=>(ps1.map (·.2)).getD i (0,0))∘fun q:Nat×Nat=>q.2:=rfl;rw [e3,←EI];refine (pq.map _).trans ?_;have:=getD_range (ps1.map (·.2)) ((0,0):Ky);rw [A0] at this;rw [this]
   ·rw [Ju _ |>.mp hfull];simp only [Bool.and_false,Bq,if_false];have hlt:(ps.length+1)*5<m*3:=by unfold SetTable.tooFull at hfull;rw [RT T1,T1.1,hl1] at hfull;simpa using hfull
    exact Ak (h _ true hsb1 ⟨_,es1,ep+1,t1,m,ps1,hg1,hex,rfl,hm,T1,I1,P1',by rw [hl1];exact hlt,p1⟩)
  by_cases hpl:t.plain=true
  ·rw [hpl];simp only [if_true];refine Ad (Zbu hb ?_);simp only [if_true];rw [hpl] at plain;exact plain
  ·rw [Ju _ |>.mp hpl];simp only [Bq,if_false];refine Ad (Ak ?_);simp only [if_true];rw [Ju _ |>.mp hpl] at plain;exact plain
end
def seen (val:Nat→Ky) (i:Nat):List Ky:=((List.range i).map val).foldl insK []
theorem ZbB (val:Nat→Ky) (i:Nat):seen val (i+1)=insK (seen val i) (val i):=by unfold seen;rw [HC,Fj,Jq];rfl
def RV (prog:Program) (w:World) (items:Array Value) (val:Nat→Ky) (h:Heap):Prop:=∀i v,items[i]?=some v→∃b,v=.ref b∧IsTupleKey (intKind prog w) h [((val i).1:Int),((val i).2:Int)] b
section
variable {prog:Program} {w:World}
theorem KS {h h':Heap} {ns:List Int} (hs:∀o,h.get? b=some o→h'.get? b=some o) (k:IsTupleKey (intKind prog w) h ns b):IsTupleKey (intKind prog w) h' ns b:=by obtain ⟨o,items,n,ho,r⟩:=k;exact ⟨o,items,n,hs o ho,r⟩
theorem NQ {h:Heap} {ns:List Int} {b:Addr} {l:List Addr} (hc:∀b∈l,∃o,h.get? b=some o∧o.cls≠.type "tuple") (k:IsTupleKey (intKind prog w) h ns b):b∉l:=fun z=>by obtain ⟨o,items,n,ho,e,_⟩:=k;obtain ⟨o',ho',e'⟩:=hc b z;rw [ho] at ho';cases ho';exact e' e
theorem SetAt.at {h h':Heap} {ks:List Ky} (S:SetAt prog w h a ks) (ha:∀o,h.get? a=some o→h'.get? a=some o) (hk:∀ns b,IsTupleKey (intKind prog w) h ns b→IsTupleKey (intKind prog w) h' ns b):SetAt prog w h' a ks:=by obtain ⟨o,es,ep,t,m,ps,ho,hex,hd,hm,T,I,P,hl,hp⟩:=S;exact ⟨o,es,ep,t,m,ps,ha o ho,hex,hd,hm,T,I,KR (fun p e z=>⟨z.1,let ⟨b,e1,k⟩:=z.2;⟨b,e1,hk _ b k⟩⟩) P,hl,hp⟩
theorem SetAt.notTuple {h:Heap} {ks:List Ky} (S:SetAt prog w h a ks):∃o,h.get? a=some o∧o.cls≠.type "tuple":=by obtain ⟨o,es,ep,t,m,ps,ho,hex,_⟩:=S;exact ⟨o,ho,by rw [hex.1];decide⟩
theorem ZbC {h:Heap} {a:Addr} {led:Bool} (g:h.get? a=some {cls:=.type "set",dict:=none,data:=.set #[] 0 (.fresh 0 0 led)}):SetAt prog w h a []:=
 ⟨_,#[],0,_,7,[],g,⟨rfl,rfl,rfl⟩,rfl,by decide,⟨rfl,rfl,rfl⟩,⟨.nil,.nil,fun _ h=>(nomatch h),fun _ h=>(nomatch h)⟩,.nil,by decide,.refl _⟩
end
section
variable {prog:Program} {w:World} {A:Around} {R:Result→Shared→Prop} {I:Addr} {fp wr:List Addr} {G:Array GenState→Array GenState→Prop} {items:Array Value} {St:Nat→Shared→Prop}
theorem ZbD (W:WalksS prog w A.in1 I fp wr G items.size (fun i v=>items[i]?=some v) St) (S:Addr) (hSf:S∉fp) (val:Nat→Ky) (hv:∀i,i<items.size→val i∈U) (hu:A.in1.units<cLine)
 (hcl:∀i s,St i s→∀b∈wr,∃o,s.heap.get? b=some o∧o.cls≠.type "tuple"):
 ∀(k i:Nat) (s:Shared),items.size - i=k→i≤items.size→St i s→RV prog w items val s.heap→SetAt prog w s.heap S (seen val i)→
  (∀s',Moved (S::wr) G s s'→SetAt prog w s'.heap S (seen val items.size)→R (.ok (.ret .none)) s')→
  codeAny (model prog w) A (.builtin "set.update.loop" ⟨[.ref S,.ref I],[]⟩) R s:=by
 have hSw:S∉wr:=fun h=>hSf (W.sub _ h);have hsub:∀b∈wr,b∈S::wr:=fun b hb=>AN _ hb;intro k
 induction k with
 |zero=>
  intro i s hk hi hst hK hS hR;have hin:i=items.size:=by omega
  subst hin;refine codeAny_builtin F.entry_set_update_loop ?_;rw [Around.under_plainId F.plain_set_update_loop _]
  show wpAny _ A.in1 (pyNext (.ref I) >>=_) _ _ s
  refine Ad (W.done s _ _ hst fun s' hm=>?_);refine Ak (hR s' (hm.mono hsub) (hS.at (fun o e=>hm.heap S o hSw e) fun ns b k=>KS (fun o e=>hm.heap b o (NQ (hcl _ _ hst) k) e) k))
 |succ k ih=>
  intro i s hk hi hst hK hS hR;have hlt:i<items.size:=by omega
  refine codeAny_builtin F.entry_set_update_loop ?_;rw [Around.under_plainId F.plain_set_update_loop _]
  show wpAny _ A.in1 (pyNext (.ref I) >>=_) _ _ s
  refine Ad (W.item i s _ _ hlt hst fun v s' hP hst' hm=>?_);obtain ⟨b,rfl,hb⟩:=hK i v hP;have up:∀ns b,IsTupleKey (intKind prog w) s.heap ns b→IsTupleKey (intKind prog w) s'.heap ns b:=fun ns b k=>KS (fun o e=>hm.heap b o (NQ (hcl _ _ hst) k) e) k;have hS':=hS.at (fun o e=>hm.heap S o hSw e) up
  show wpAny _ A.in1 (holding [Value.ref b] (setAdd S (.ref b)) >>=_) _ _ s'
  refine Ad (Ci ?_);unfold setAdd;refine Ci ?_;refine Ad (wpAny_pyHash_tuple hu (up _ _ hb) ?_);rw [Zbt];refine ZbA (s:={s' with toks:=s'.toks+(2+1)}) hu hS' (up _ _ hb) (hv i hlt) fun h' r hsb hS2=>?_;have nt:=hS'.notTuple;have up2:∀ns b,IsTupleKey (intKind prog w) s'.heap ns b→IsTupleKey (intKind prog w) h' ns b:=fun ns b k=>KS (fun o e=>(hsb.2 b (fun z=>NQ (l:=[S]) (fun b hb=>by rw [qaJ.mp hb];exact nt) k (by rw [z];exact .head _))).trans e) k;refine Ak ⟨plainId_quiet F.plain_set_update_loop _,ih (i+1) _ (by omega) hlt (W.frame _ s' _ _ hst' (Di _ _) fun b hb o e=>?_) (fun i v e=>let ⟨b,e1,k⟩:=hK i v e;⟨b,e1,up2 _ _ (up _ _ k)⟩) (by rw [ZbB];exact hS2) fun s'' hm'' hS''=>?_⟩
  ·rw [hsb.2 b (fun h:b=S=>hSf (by rw [←h];exact hb))];exact e
  ·refine hR s'' (Moved.trans W.gtrans ((hm.mono hsub).then_heap (Di _ _) fun b o hb e=>?_) hm'') hS'';rw [hsb.2 b (fun h:b=S=>hb (by rw [h];exact AK))];exact e
end
section
variable {prog:Program} {w:World} {A:Around} {E:Value→Shared→Prop} {s:Shared}
set_option maxHeartbeats 3200000 in
theorem set_listP {items:Array Value} {val:Nat→Ky} {Q:Value→Shared→Prop} 
 (hh:A.handled=none) (hl:s.heap.IsList l items) (hk:RV prog w items val s.heap) (hv:∀i,i<items.size→val i∈U) (hu:A.units+64<cLine)
 (h:∀(h':Heap) (tk:Nat),SetAt prog w h' s.heap.objs.size (seen val items.size)→
  (∀b o,b<s.heap.objs.size→s.heap.get? b=some o→h'.get? b=some o)→Q (.ref s.heap.objs.size) {s with heap:=h',toks:=tk}):
 wpAny (model prog w) A (call (.type "set") [.ref l]) Q E s:=by
 obtain ⟨c,tl,hmro⟩:=F.called_set.mro;have hmade:=F.called_set.made;have hsub:=F.called_set.sub;refine wpAny_call (codeAny_of_tree ?_)
 show wpAny _ _ (callAny (.type "set") _) _ _ _
 refine Ak ⟨Code.quiet_builtin _ (by decide +kernel),codeAny_builtin F.entry_type_call ?_⟩;rw [Around.under_plain (weight_type_call_type "set" [.ref l] []) rfl];have h1:=F.called_set.notType;have h2:=F.called_set.canCreate;have hct:=F.typeCall_set_1 (.ref l)
 repeat (any_goals (first |assumption |wp_step))
 refine codeAny_mono (code_set_new_1 (.ref l) (E:=E) (Q₁:=fun obj s₁=>∃led:Bool,obj=.ref s.heap.objs.size∧s₁={s with heap:=s.heap.push {cls:=.type "set",dict:=none,data:=.set #[] 0 (.fresh 0 0 led)}}) fun led=>⟨led,rfl,rfl⟩) fun r s₁ hr=>?_;cases r with
 |error e=>exact hr
 |ok fl=>
  cases fl with
  |ret obj=>
   obtain ⟨led,rfl,rfl⟩:=hr;have hS:(s.heap.push {cls:=.type "set",dict:=none,data:=.set #[] 0 (.fresh 0 0 led)}).get? s.heap.objs.size=some {cls:=.type "set",dict:=none,data:=.set #[] 0 (.fresh 0 0 led)}:=Bc _ rfl;have hT:Shared.TypeIs {s with heap:=s.heap.push {cls:=.type "set",dict:=none,data:=.set #[] 0 (.fresh 0 0 led)}} (.ref s.heap.objs.size) "set":=⟨_,hS,rfl⟩
   have hli:=F.called_set.init.lookup;have hbi:=F.called_set.init.bind (.ref s.heap.objs.size)
   repeat (any_goals (first |assumption |wp_step))
   refine codeAny_mono (codeAny_call_builtin (R:=wants (fun r s₂=>r=.none∧∃h' tk,s₂={s with heap:=h',toks:=tk}∧
    SetAt prog w h' s.heap.objs.size (seen val items.size)∧
    (∀b o,b<s.heap.objs.size→s.heap.get? b=some o→h'.get? b=some o)) E) F.called_set.init.plain F.entry_set_init (check_set_init_1 hT ?_)) fun r₂ s₂ hr₂=>?_
   ·obtain ⟨ol,hol,hcl,nl,hdl⟩:=hl;obtain ⟨ocls,odict,odata,oslots⟩:=ol;simp only at hcl hdl;subst hcl;subst hdl;have hol':(s.heap.push {cls:=.type "set",dict:=none,data:=.set #[] 0 (.fresh 0 0 led)}).get? l=some {cls:=.type "list",dict:=odict,data:=.seq items nl,slots:=oslots}:=Aw _ hol;have hsls:=F.sub_list_set;have hslf:=F.sub_list_frozenset;have hne:(Value.type "list"==Value.type "dict")=false:=by decide
    have hl1:(s.heap.push {cls:=.type "set",dict:=none,data:=.set #[] 0 (.fresh 0 0 led)}).IsList l items:=⟨_,hol',rfl,nl,rfl⟩
    unfold Builtin.«set.__init__» noKeywords Builtin.Frozenset.updateFrom;generalize hPI:pyIter=PI
    wp_walk
    subst hPI;refine wpAny_pyIter_list hl1 ?_;refine Ad (wpAny_runValue ?_);have hlS:l<s.heap.objs.size:=AC hol;have hh3:A.in1.in1.in1.handled=none:=by simp [hh]
    have hneI:l≠(s.heap.push {cls:=.type "set",dict:=none,data:=.set #[] 0 (.fresh 0 0 led)}).objs.size:=by rw [B4];exact Bf (GE hlS)
    have hSf:s.heap.objs.size∉[(s.heap.push {cls:=.type "set",dict:=none,data:=.set #[] 0 (.fresh 0 0 led)}).objs.size,l]:=by rw [B4];simp only [qa5,qaJ,Bw,or_false,not_or];exact ⟨Bf (GG _),BS hlS⟩
    refine ZbD ((Walks.list hh3 _ l hneI items).toS) s.heap.objs.size
     hSf val hv (by show A.units+1+1+1<cLine;omega) (fun i s st b hb=>by rw [qaJ.mp hb];obtain ⟨o,e1,e2,_⟩:=st.1;exact ⟨o,e1,by rw [e2];decide⟩) (items.size - 0) 0 _ (by omega) (B8 _)
     ⟨⟨_,Bc _ rfl,rfl,rfl⟩,(hl1.push _)⟩ ?hK0 ?hS0 ?hR
    case hK0=>exact fun i v e=>let ⟨b,e1,k⟩:=hk i v e;⟨b,e1,KS (fun o z=>Aw _ (Aw _ z)) k⟩
    case hS0=>
     have hget:((s.heap.push {cls:=.type "set",dict:=none,data:=.set #[] 0 (.fresh 0 0 led)}).push {cls:=.type "list_iterator",data:=.fields #[.ref l,.int 0 0]}).get? s.heap.objs.size
      =some {cls:=.type "set",dict:=none,data:=.set #[] 0 (.fresh 0 0 led)}:=Aw _ hS
     exact ZbC hget
    case hR=>
     intro s' hm hS';obtain ⟨h',g',d',tk',os'⟩:=s';have eg:g'=s.gens:=hm.gens;have ed:d'=s.drawn:=hm.drawn;have eo:os'=s.os:=hm.os;subst eg;subst ed;subst eo
     show wpAny _ _ _ _ _ _
     refine Ak ?_
     show wpAny _ _ (ret Value.none) _ _ _
     refine Ak ⟨rfl,h',tk',rfl,hS',fun b o hb e=>?_⟩;have hb1:b≠s.heap.objs.size:=Bf hb;have hb2:b≠(s.heap.push {cls:=.type "set",dict:=none,data:=.set #[] 0 (.fresh 0 0 led)}).objs.size:=by rw [B4];exact Bf (GE hb)
     exact hm.heap b o (by simp only [qa5,qaJ,Bw,or_false,not_or];exact ⟨hb1,hb2⟩) (Aw _ (Aw _ e))
   ·cases r₂ with
    |error e=>exact hr₂
    |ok fl₂=>
     cases fl₂ with
     |ret r=>
      obtain ⟨rfl,h',tk,rfl,hS',hk'⟩:=hr₂
      repeat (any_goals (first |assumption |wp_step))
      exact h _ _ hS' hk'
     |_=>exact hr₂.elim
  |_=>exact hr.elim
end
end SetP
namespace LS
open PySem PySem.Spec PyProof.Rows L2 PySem.W PySem.Calls
def IG (a:Addr) (n:Nat) (h:Heap):Prop:=∃o es ep t,h.get? a=some o∧o.ExactSet∧o.data=.set es ep t∧t.fits es.size=true∧es.size=n∧n≤64
def IH (x:SetP.Ky):D:=kD (.t [(x.1:Int),(x.2:Int)])
theorem ZbE {ks:List SetP.Ky} (S:SetP.SetAt prog w h a ks):IG a ks.length h:=by
 obtain ⟨o,es,ep,t,m,ps,ho,hex,hd,hm,T,I,P,hl,hp⟩:=S;have hz:ps.length=es.size:=by have:=SetP.paired_len P;simpa using this
 have hn:ps.length=ks.length:=by have:=hp.length_eq;simpa using this
 refine ⟨o,es,ep,t,ho,hex,hd,SetP.fits_of T (by omega) hz,by omega,?_⟩;have:=List.Nodup.length_le_of_subset I.nd (l₂:=SetP.U) fun k hk'=>by obtain ⟨p,hp',rfl⟩:=qaI.mp hk';exact I.un p hp'
 rw [A0,SetP.U_len] at this;omega
theorem RW {K:Frag} (ok:HOk P w H h∧K.In h):∀{ks:List SetP.Ky} {vs:List V} {us:List Value},DVs K m H (ks.map IH) vs→Vals vs us→us.length=ks.length∧∀(i:Nat) v,us[i]?=some v→∃b,v=.ref b∧IsTupleKey (intKind P w) h [((ks.getD i (0,0)).1:Int),((ks.getD i (0,0)).2:Int)] b
 |[],vs,us,d,r=>by simp only [Dy,DVs] at d;subst d;cases r;exact ⟨rfl,fun i v e=>by simp at e⟩
 |k::ks,vs,us,d,r=>by
  simp only [AZ,DVs] at d;obtain ⟨v,vs',rfl,rv,rr⟩:=d;cases r with
  |cons r1 r2=>
   rename_i u us';obtain ⟨h1,h2⟩:=RW ok rr r2;refine ⟨by simp [h1],fun i v' e=>?_⟩;cases i with
   |zero=>simp at e;subst e;obtain ⟨b,rfl,hk⟩:=KL ok rv;exact ⟨b,r1,hk⟩
   |succ i=>exact h2 i v' (by simpa using e)
theorem ZbF (ks:List SetP.Ky):SetP.seen (fun i=>ks.getD i (0,0)) ks.length=ks.foldl SetP.insK []:=by unfold SetP.seen;rw [SetP.getD_range]
inductive RX (K:Frag) (vs:List V) (H:Hp) (Q:VK):Prop where
 |mk (r:Addr) (m:List Addr) (ks:List SetP.Ky) (l:List V) (e:vs=[.ref r]) (hr:SqL K H r l) (d:DVs K m H (ks.map IH) l) (hv:∀k∈ks,k∈SetP.U)
  (q:∀p,H p=none→Q (.ref p) (Aq H p (.ext (IG p (ks.foldl SetP.insK []).length)))):RX K vs H Q
inductive RY (vs:List V) (H:Hp) (Q:VK):Prop where
 |mk (r:Addr) (n:Nat) (e:vs=[.ref r]) (hr:H r=some (.ext (IG r n))) (q:Q (.int n) H):RY vs H Q
section
variable {X:Cx} {E:XK}
theorem ZbG (hc:X.calm=true) (hu:X.A.units+64<cLine):CF X (.type "set") (RX X.K):=by
 intro pins s σ H vs us Q I r h;obtain ⟨p,m,ks,l,rfl,hq,d,hv,q⟩:=h;obtain ⟨u,rfl,rx⟩:=Dj r;cases rx;obtain ⟨its,r',pl,hz⟩:=I.list hq;obtain ⟨o,n,ho,hcl,hd,hs⟩:=pl;obtain ⟨hlen,hkeys⟩:=RW (P:=X.prog) (w:=X.w) ⟨I.hok,I.kIn⟩ d r';refine SetP.set_listP (items:=its.toArray) (val:=fun i=>ks.getD i (0,0)) (I.ok.hd hc) ⟨o,ho,hcl,n,hs⟩ (fun i v e=>hkeys i v (by simpa using e)) (fun i hi=>?_) hu fun h' tk hS hk=>?_
 ·have hi:i<ks.length:=by simpa [hlen] using hi
  have:ks.getD i (0,0)=ks[i]:=by simp [List.getD,hi]
  rw [this];exact hv _ (Dh hi)
 ·have kp:∀b o,s.heap.get? b=some o→h'.get? b=some o:=fun b o e=>hk b o (AC e) e;have hf:H s.heap.objs.size=none:=I.hok.fresh (Ax _);have hS:SetP.SetAt X.prog X.w h' s.heap.objs.size (ks.foldl SetP.insK []):=by rw [show its.toArray.size=ks.length by simpa using hlen,ZbF] at hS;exact hS
  have hSx:=ZbE hS;refine ⟨.ref s.heap.objs.size,Aq H s.heap.objs.size (.ext (IG s.heap.objs.size (ks.foldl SetP.insK []).length)),I.laid (t':=tk) kp (Ax _) ?_,rfl,q _ hf⟩;refine ⟨hSx,?_,fun h1 h2 z k=>?_⟩
  ·obtain ⟨o,_,_,_,g,_⟩:=hSx;exact ⟨o,g⟩
  ·obtain ⟨o,es,ep,t,z1,z2⟩:=z;exact ⟨o,es,ep,t,k _ z1,z2⟩
theorem ZbH:CF X (.builtin "len") RY:=by
 intro pins s σ H vs us Q I r h;obtain ⟨a,n,rfl,hr,q⟩:=h;obtain ⟨u,rfl,rx⟩:=Dj r;cases rx;obtain ⟨⟨o,es,ep,t,ho,hex,hd,hf,hn,h64⟩,_⟩:=(show ObjOk X.prog X.w H s.heap a (.ext (IG a n)) from I.hok a _ hr)
 refine call_len_set ho hex hd hf (by omega) ?_;refine ⟨.int n,H,I.tok _,⟨_,by rw [hn]⟩,q⟩
end
def KU:D→Option SetP.Ky
 |.tup [.int a,.int b]=>if 0≤a∧a<8∧0≤b∧b<8 then some (a.toNat,b.toNat) else none
 |_=>none
def Gx:List D→Option (List SetP.Ky)
 |[]=>some []
 |d::ds=>(KU d).bind fun c=>(Gx ds).map (c::·)
theorem ZbI {x:SetP.Ky} (h:KU d=some x):d=IH x∧x∈SetP.U:=by
 unfold KU at h;split at h
 ·rename_i a b;split at h
  ·rename_i c;cases h;refine ⟨?_,SetP.U_mem.mpr ⟨by simp only;omega,by simp only;omega⟩⟩;have e1:((a.toNat:Nat):Int)=a:=DX c.1;have e2:((b.toNat:Nat):Int)=b:=DX c.2.2.1;simp only [IH,kD,e1,e2,AZ,Dy]
  ·cases h
 ·cases h
theorem RZ:∀{ds:List D} {ks:List SetP.Ky},Gx ds=some ks→ds=ks.map IH∧∀k∈ks,k∈SetP.U
 |[],ks,h=>by simp [Gx] at h;subst h;exact ⟨rfl,fun _ h=>(nomatch h)⟩
 |d::ds,ks,h=>by
  simp only [Gx] at h;obtain ⟨c,hc,h⟩:=Option.bind_eq_some_iff.mp h;obtain ⟨cs',hcs,rfl⟩:=qaM.mp h;obtain ⟨e1,u1⟩:=ZbI hc;obtain ⟨e2,u2⟩:=RZ hcs;rw [e1,e2];refine ⟨rfl,fun k hk=>?_⟩;rcases qa5.mp hk with rfl |hk
  ·exact u1
  ·exact u2 k hk
def II:D→HD→Out D:=fun d h=>match d with
 |.loc l=>(match h[l]? with
  |some (.lst ds)=>(match Gx ds with
   |some ks=>.ok (.int ((ks.foldl SetP.insK []).length:Nat)) h
   |none=>.stuck)
  |_=>.stuck)
 |_=>.stuck
def KV (f:ME):ME:=fun ρ h=>(f ρ h).bind II
section
variable {X:Cx} {E:XK} {e:Expr} {f:ME} {p q pos pos':Pos}
theorem ZbJ (hc:X.calm=true) (hu:X.A.units+64<cLine) (hg1:Gl X "len") (hm1:X.mg "len"=none) (hg2:Gl X "set") (hm2:X.mg "set"=none) (hv1:bootBuiltins "len"=some (.builtin "len")) (hv2:bootBuiltins "set"=some (.type "set")) (he:Ev X E e f)
 (h1:starEach [e] X.env=(false,eval e X.env)::starEach [] X.env:=by rfl) (h2:(backTo pos' (starEach [] X.env)).any (·.1)=false:=by rfl)
 (h3:starEach [.Call (.Name "set" q) [e] [] pos'] X.env=(false,eval (.Call (.Name "set" q) [e] [] pos') X.env)::starEach [] X.env:=by rfl) (h4:(backTo pos (starEach [] X.env)).any (·.1)=false:=by rfl):
 Ev X E (.Call (.Name "len" p) [.Call (.Name "set" q) [e] [] pos'] [] pos) (KV f):=by
 refine BI (OQ ZbH hg1 hm1 hv1 (Mb (OR (ZbG hc hu) hg2 hm2 hv2 (Mb he Ma h1) (by decide) (by decide) h1 h2) Ma h3) (by decide) (by decide) h3 h4) fun σ H Q z=>?_;obtain ⟨m,ρ,h,hr,er,pp⟩:=z;refine ⟨m,ρ,h,hr,er,Post.bind pp fun d h1 v m1 H1 eo p1 k1 hr1 r1 q1=>?_⟩;unfold II at q1;split at q1
 ·simp only [rD,DV] at r1;obtain ⟨t,rfl,ht⟩:=r1;split at q1
  ·rename_i ds e1;split at q1
   ·rename_i ks e2;obtain ⟨vs,h1',d1⟩:=hr1.cells _ _ t e1 ht;obtain ⟨rfl,hU⟩:=RZ e2;refine ⟨t,m1,ks,vs,rfl,SqL.of h1',d1,hU,fun b hb=>⟨b,_,rfl,B0,?_⟩⟩;exact q1 _ m1 _ (Ay _) (.new hb) (hr1.new hb) (by simp [rD,DV])
   ·exact q1.elim
  ·exact q1.elim
 ·exact q1.elim
theorem ZbK:Wp (KV f ρ h) Q=Wp (f ρ h) fun d h1=>Wp (II d h1) Q:=by unfold KV;rw [AA]
end
end LS
namespace LS
namespace Up
open PySem PySem.Spec PyProof.Rows L2 PySem.W PySem.Calls
section
variable {K:Type} [DecidableEq K]
def CN (kvs more:List (K×Addr×Value)):List (K×Addr×Value):=more.foldl (fun acc x=>storedH acc x.1 x.2.1 x.2.2) kvs
theorem ZbL (kvs more:List (K×Addr×Value)) (i:Nat) (x:K×Addr×Value) (h:more[i]?=some x):CN kvs (more.take (i+1))=storedH (CN kvs (more.take i)) x.1 x.2.1 x.2.2:=by unfold CN;rw [List.take_succ,h,Jq];rfl
theorem ZbM {xs:List (K×Addr×Value)} {k:K}:(storedH xs k a v).length≤xs.length+1:=by
 unfold storedH
 split<;>simp
theorem R0:∀(more kvs:List (K×Addr×Value)),(CN kvs more).length≤kvs.length+more.length
 |[],kvs=>by simp [CN]
 |x::more,kvs=>by
  have h1:=R0 more (storedH kvs x.1 x.2.1 x.2.2);have h2:=ZbM (xs:=kvs) (k:=x.1) (a:=x.2.1) (v:=x.2.2)
  show (CN (storedH kvs x.1 x.2.1 x.2.2) more).length≤_
  simp only [DN];omega
theorem R1:∀(more acc:List (K×Addr×Value)),((acc++more).map (·.1)).Nodup→CN acc more=acc++more
 |[],acc,_=>by simp [CN]
 |x::more,acc,h=>by
  have hx:atKey acc x.1=none:=by
   have:x.1∉acc.map (·.1):=by rw [Fj,AZ] at h;have:=(qcB.mp h).2.2;exact fun z=>this _ z _ (.head _) rfl
   unfold atKey;rw [Option.map_eq_none_iff,List.find?_eq_none];intro y hy q;exact this (qaI.mpr ⟨y,hy,of_decide_eq_true q⟩)
  show CN (storedH acc x.1 x.2.1 x.2.2) more=_
  rw [storedH_new hx,R1 more (acc++[(x.1,x.2.1,x.2.2)]) (by simpa using h)];simp
end
section
variable {prog:Program} {w:World} {K:Type} [DecidableEq K] {knd:HeapKind prog w K} {A:Around} {E:Value→Shared→Prop} {s:Shared}
theorem ZbN {xs:List (K×Addr×Value)} {k:K} {Q:Unit→Shared→Prop} (hu:knd.room A) (hkey:knd.is s.heap k a) (hm:s.heap.DictOfH knd d xs)
 (hQ:∀h',h'.DictOfH knd d (storedH xs k a v)→Heap.SameBut d s.heap h'→Q () {s with heap:=h'})
 (hsz:xs.length≤sizeLine:=by size_fits):
 wpAny (model prog w) A (dictSetHashed d (.ref a) (knd.hash k) v) Q E s:=by
 obtain ⟨o,es,ep,ho,hc,hd,he,his,hn⟩:=hm;unfold dictSetHashed
 try with_reducible refine Ci ?_
 refine Ad (wpAny_dictFind_heap (s:=s) hu hkey ho hd he his hn ?_ ?_)
 ·intro hno;have hnot:k∉xs.map (·.1):=not_mem_keys_of_get hno;refine Ad (wpAny_rule (wpAny_updateDictKeys (hz:=by have e:=size_of_entries he;omega) (s:=s) ho hd (hQ _ ⟨_,_,ep+1,Fg _ ho (Obj.isFreed_of_dict (Obj.data_mapDictKeys hd _)),
   hc.mapDictKeys _,Obj.data_mapDictKeys hd _,?_,?_,?_⟩ (Heap.SameBut.update ..))))
  ·rw [storedH_new (atKey_none_of_get hno)];simp [he,entryOfKey]
  ·rw [storedH_new (atKey_none_of_get hno)];intro x hx;rcases qaP.mp hx with hx |hx
   ·exact knd.keeps (his x hx) ho hd (Heap.SameBut.update ..)
   ·simp only [qaJ] at hx;subst hx;exact knd.keeps hkey ho hd (Heap.SameBut.update ..)
  ·rw [storedH_new (atKey_none_of_get hno)];rw [Fj,qcB];refine ⟨hn,by simp,?_⟩;intro x hx y hy;simp only [AZ,Dy,qaJ] at hy;subst hy;exact fun e=>hnot (e ▸ hx)
 ·intro j p hj;refine Ad (wpAny_rule (Ad (wpAny_updateDict (s:=s) ho hd (wpAny_point (hQ _ ⟨_,_,ep,Fg _ ho (Obj.isFreed_of_dict (Obj.data_mapDict hd _)),
   hc.mapDict _,Obj.data_mapDict hd _,?_,?_,?_⟩ (Heap.SameBut.update ..))))))
  ·rw [storedH_old (atKey_of_get hn hj)];have:=modify_map_putAt (entryOfKey knd) (fun e:DictEntry=>{e with val:=v}) k v (fun _ _=>rfl) hn hj;rw [←he] at this;obtain ⟨l⟩:=es;simpa using this
  ·rw [storedH_old (atKey_of_get hn hj)];intro x hx;obtain ⟨y,hy,rfl⟩:=qaI.mp hx;unfold putAt
   split<;>exact knd.keeps (his y hy) ho hd (Heap.SameBut.update ..)
  ·rw [storedH_old (atKey_of_get hn hj)];rw [keys_map_putAt];exact hn
theorem ZbO {id:String} {o:Obj} {es ep} {xs:List (K×Addr×Value)} {Q:Array DictEntry→Shared→Prop} (ho:s.heap.get? d=some o) (hd:o.data=.dict es ep) (he:es.toList=xs.map (entryOfKey knd))
 (hT:∀x∈xs,s.TypeIs (.ref x.2.1) "tuple") (hn:(xs.map (·.1)).Nodup) (hh:∀x∈xs,∀y∈xs,knd.hash x.1=knd.hash y.1→x.1=y.1) (h:Q es s):
 wpAny (model prog w) A (Builtin.Dict.entriesForEmpty id d) Q E s:=by
 unfold Builtin.Dict.entriesForEmpty;refine Ad (wpAny_dictEntries ho hd ?_);refine Ad ?_
 show wpAny _ _ (forIn es _ _) _ _ s
 rw [←Array.forIn_toList];refine wpAny_forIn_list _ (fun rest _ s'=>s'=s∧∀e∈rest,e∈es.toList) _ ?_ ?_ _ _ ⟨rfl,fun _ h=>h⟩
 ·rintro e rest r s' ⟨rfl,hall⟩;have hm:=hall e (.head _);rw [he] at hm;obtain ⟨x,hx,rfl⟩:=qaI.mp hm;refine Ad (m:=Builtin.Dict.quietEq (.ref x.2.1)) ?_;unfold Builtin.Dict.quietEq;refine Ad (wpAny_specialOf (hT x hx) F.slot_tuple_eq.lookup (Ak ?_));rw [show (some (Value.builtin "tuple.__eq__")==some (.builtin "object.__eq__"))=false by decide +kernel];simp only [Bool.not_false,if_true];rw [if_neg]
  ·exact Ak ⟨rfl,fun e he'=>hall e (.tail _ he')⟩
  ·have key:∀(l:List (K×Addr×Value)),(l.map (·.1)).Nodup→(∀y∈l,y∈xs)→((l.map (entryOfKey knd)).filter (·.hash==(entryOfKey knd x).hash)).length≤1:=by
    intro l
    induction l with
    |nil=>intro _ _;simp
    |cons y l ih=>
     intro nd hs;rw [AZ,qbG] at nd;rw [AZ,List.filter_cons]
     by_cases z:((entryOfKey knd y).hash==(entryOfKey knd x).hash)=true
     ·rw [if_pos z];have e1:y.1=x.1:=hh y (hs y (.head _)) x hx (beq_iff_eq.mp z);have:(l.map (entryOfKey knd)).filter (·.hash==(entryOfKey knd x).hash)=[]:=by rw [qcA];intro e he' q;obtain ⟨u,hu,rfl⟩:=qaI.mp he';have e2:u.1=x.1:=hh u (hs u (.tail _ hu)) x hx (beq_iff_eq.mp q);exact nd.1 (qaI.mpr ⟨u,hu,e2.trans e1.symm⟩)
      rw [this];simp
     ·rw [if_neg z];exact ih nd.2 fun y hy=>hs y (.tail _ hy)
   have:=key xs hn fun _ h=>h;rw [←he,←Array.toList_filter] at this;rw [Array.length_toList] at this;omega
 ·rintro r s' ⟨rfl,_⟩;exact Ak h
theorem ZbP {nm:String} {kvs more:List (K×Addr×Value)} {Q:Unit→Shared→Prop} (hdo:d≠o) (hoS:(o==sysModules)=false) (hu:knd.room A)
 (hd:s.heap.DictOfH knd d kvs) (ho:s.heap.DictOfH knd o more) (hT:∀x∈more,s.TypeIs (.ref x.2.1) "tuple") (hh:∀x∈more,∀y∈more,knd.hash x.1=knd.hash y.1→x.1=y.1)
 (hQ:∀h',h'.DictOfH knd d (CN kvs more)→Heap.SameBut d s.heap h'→Q () {s with heap:=h'})
 (hsz:kvs.length+more.length≤sizeLine):
 wpAny (model prog w) A (Builtin.Dict.mergeDict nm d o) Q E s:=by
 obtain ⟨od,esd,epd,hod,hcd,hdd,hkd,hpd,hnd⟩:=id hd;obtain ⟨oo,eso,epo,hoo,hco,hdo',hko,hpo,hno⟩:=id ho;unfold Builtin.Dict.mergeDict;rw [if_neg (by simpa using hdo)];unfold Builtin.Dict.showsAll;rw [if_neg (by rw [hoS];exact Bj)];refine Ad (Ak ?_);refine Ad (wpAny_dictEntries hoo hdo' ?_);have hlen:eso.size=more.length:=size_of_entries hko;have loop:wpAny (model prog w) A (do
  let epoch ←dictEpoch o
  let l ←dictEntries o
  forIn [:l.size] PUnit.unit fun i (_:PUnit)=>(do
   let l' ←dictEntries o
   match l'[i]? with
    |some e=>do
     holding [e.key,e.val] (dictSetHashed d e.key e.hash e.val)
     let ep' ←dictEpoch o
     if (ep' != epoch)=true then do
         (unsupported (toString nm++toString ":source-changed-during-callback"):Sem PUnit)
         pure (ForInStep.yield PUnit.unit)
      else pure (ForInStep.yield PUnit.unit)
    |_=>do
     (unsupported "internal:dict-merge":Sem PUnit)
     pure (ForInStep.yield PUnit.unit):Sem (ForInStep PUnit))
  pure ()) Q E s:=by
  refine Ad (wpAny_dictEpoch hoo hdo' ?_);refine Ad (wpAny_dictEntries hoo hdo' ?_);refine Ad ?_;rw [Std.Legacy.Range.forIn_eq_forIn_range'];simp only [Std.Legacy.Range.size,Nat.sub_zero,Nat.add_sub_cancel,Nat.div_one];refine wpAny_forIn_list _
   (fun rest _ s'=>∃h' i,s'={s with heap:=h'}∧rest=List.range' i (eso.size - i)∧i≤eso.size∧h'.DictOfH knd d (CN kvs (more.take i))∧h'.get? o=some oo∧Heap.SameBut d s.heap h')
   _ ?_ ?_ _ _ ⟨s.heap,0,rfl,by simp,B8 _,by simpa [CN] using hd,hoo,Heap.SameBut.refl _ _⟩
  ·rintro x rest b s' ⟨h',i,rfl,hr,hi,hd',hoo',hs'⟩;have hlt:i<eso.size:=by
    rcases Nat.lt_or_ge i eso.size with h |h
    ·exact h
    ·rw [Nat.sub_eq_zero_of_le h] at hr;simp at hr
   obtain ⟨rfl,hrest⟩:x=i∧rest=List.range' (i+1) (eso.size - (i+1)):=by
    have e:eso.size - i=(eso.size - (i+1))+1:=by omega
    rw [e,List.range'_succ] at hr;injection hr with h1 h2
    exact ⟨h1,h2⟩
   refine Ad (wpAny_dictEntries hoo' hdo' ?_);obtain ⟨kv,hkv⟩:∃kv,more[x]?=some kv:=⟨more[x]'(by rw [←hlen];exact hlt),AR _⟩
   have hmem:kv∈more:=Dw hkv;rw [entry_at hko x,hkv]
   show wpAny _ _ (holding [Value.ref kv.2.1,kv.2.2] (dictSetHashed d (.ref kv.2.1) (knd.hash kv.1) kv.2.2) >>=_) _ _ _
   have hmx:(CN kvs (more.take x)).length≤sizeLine:=by
    have e1:=R0 (more.take x) kvs;have e2:(more.take x).length≤more.length:=by rw [FW];omega
    omega
   refine Ad (Ci (ZbN (hsz:=hmx) hu (knd.keeps (hpo kv hmem) hod hdd hs') hd' fun h'' hd'' hs''=>?_));have hoo'':h''.get? o=some oo:=(hs''.2 o (Ne.symm hdo)).trans hoo';refine Ad (wpAny_dictEpoch hoo'' hdo' ?_);rw [if_neg (by simp)];exact Ak ⟨h'',x+1,rfl,hrest,hlt,by rw [ZbL kvs more x kv hkv];exact hd'',hoo'',hs'.trans hs''⟩
  ·rintro b s' ⟨h',i,rfl,hr,hi,hd',hoo',hs'⟩;have hin:i=eso.size:=by
    rcases Nat.lt_or_ge i eso.size with h |h
    ·have e:eso.size - i=(eso.size - (i+1))+1:=by omega
     rw [e,List.range'_succ] at hr;exact nomatch hr
    ·exact Jx hi h
   refine Ak (hQ h' ?_ hs');rw [hin,hlen,Js] at hd';exact hd'
 dsimp only;split
 ·refine Ad (wpAny_dictEntries hod hdd ?_);split
  ·rename_i hemp;have hkvs:kvs=[]:=by have h0:esd=#[]:=Array.isEmpty_iff.mp hemp;have:=size_of_entries hkd;rw [h0] at this;exact qcP.mp (by simpa using this.symm)
   subst hkvs;refine Ad (ZbO (knd:=knd) hoo hdo' hko hT hno hh ?_);rw [show CN [] more=more from R1 more [] (by simpa using hno)] at hQ;split
   ·have hto:eso.size≤sizeLine+1:=by simp only [Jw,Nat.zero_add] at hsz;omega
    refine Ad (wpAny_updateDictKeysTo hod hdd (Ak (hQ _ ⟨_,_,epd+1,Fg _ hod (Obj.isFreed_of_dict (Obj.data_mapDictKeys hdd _)),hcd.mapDictKeys _,
     Obj.data_mapDictKeys hdd _,hko,fun x hx=>knd.keeps (hpo x hx) hod hdd (Heap.SameBut.update ..),hno⟩ (Heap.SameBut.update ..))) hto)
   ·rename_i hne;have h0:eso=#[]:=Array.isEmpty_iff.mp (by simpa using hne);have hm0:more=[]:=qcP.mp (by rw [←hlen,h0];rfl);subst hm0;exact Ak (hQ _ hd (Heap.SameBut.refl _ _))
  ·exact loop
 ·exact loop
theorem updateH (d o:Addr) (hdo:d≠o) (hoS:(o==sysModules)=false):
 MeetsIn prog w (Builtin.«dict.update» ⟨[.ref d,.ref o],[]⟩) (fun A R s=>∃kvs more,knd.room A.in1∧s.heap.DictOfH knd d kvs∧s.heap.DictOfH knd o more∧kvs.length+more.length≤sizeLine∧(∀x∈more,s.TypeIs (.ref x.2.1) "tuple")∧(∀x∈more,∀y∈more,knd.hash x.1=knd.hash y.1→x.1=y.1)∧
  ∀h',h'.DictOfH knd d (CN kvs more)→Heap.SameBut d s.heap h'→R (.ok (.ret .none)) {s with heap:=h'}):=
 .of_wp fun A R s ⟨kvs,more,hu,hd,ho,hsz,hT,hh,h⟩=>by
  unfold Builtin.«dict.update»;refine Ad ?_;unfold Builtin.Dict.selfAndRest;refine Ad (wpAny_notOrdered_dict hd.typeIs ?_)
  show wpAny _ _ (pure (d,[Value.ref o])) _ _ s
  refine Ak ?_
  show wpAny _ _ (Builtin.Dict.updateFrom "dict.update" d (.ref o) [] .none) _ _ s
  unfold Builtin.Dict.updateFrom;refine Ad (wpAny_typeOf ho.typeIs ?_);rw [if_neg (by decide)];refine Ad ?_;unfold Builtin.Dict.merge;refine Ad ?_
  ·unfold Builtin.Dict.readDirectly;refine Ad (wpAny_isInstance ho.typeIs isSubtype_dict_dict ?_);simp only [FZ,Bq,if_false];refine Ad (wpAny_specialOf ho.typeIs F.slot_dict_iter.lookup (Ak ?_));simp only [beq_self_eq_true,if_true];refine Ad (Ak ?_);refine ZbP (hsz:=hsz) hdo hoS hu hd ho hT hh fun h' hd' hs'=>?_
   show wpAny _ _ (Builtin.Dict.addKeywords d [] >>=_) _ _ _
   exact Ad (Ak (Ak ⟨.none,rfl,h h' hd' hs'⟩))
end
end Up
end LS
namespace LS
open PySem PySem.Spec PyProof.Rows L2 PySem.W PySem.Calls
section
variable {X:Cx} {E:XK}
def E7 (x:D) (lo hi:Option Int) (h:HD):Out D:=match x with
 |.loc l=>(match h[l]? with
  |some (.lst ds)=>BJ (cutD ds lo hi) h
  |_=>.stuck)
 |_=>.stuck
def BB (f:ME) (lo hi:MO):ME:=fun ρ h=>(f ρ h).bind fun x h1=>(lo ρ h1).bind fun l h2=>(hi ρ h2).bind fun u h3=>E7 x l u h3
theorem ZbQ {lo hi:Option Expr} {fl fh:MO} (he:Ev X E e f) (hl:G7 X E lo fl) (hu:G7 X E hi fh):Ev X E (.Subscript e (.Slice lo hi none p2) pos) (BB f fl fh):=
 BI (OV Wz he hl hu) fun σ H Q z3_=>by obtain ⟨m,ρ,h,hr,er,p⟩:=z3_;exact (⟨m,ρ,h,hr,er,Post.bind p fun x h1 v m1 H1 eo1 p1 k1 hr1 r1 q1=>
  ⟨m1,ρ,h1,hr1,er.keep p1 k1,Post.bind q1 fun l h2 l' m2 H2 eo2 p2 k2 hr2 r2 q2=>
   ⟨m2,ρ,h2,hr2,(er.keep p1 k1).keep p2 k2,Post.bind q2 fun u h3 u' m3 H3 eo3 p3 k3 hr3 r3 q3=>by
    clear eo1 eo2 eo3;subst r2 r3;have rx:=DV.keep p3 k3 (DV.keep p2 k2 r1);unfold E7 at q3;split at q3
    ·rename_i n;split at q3
     ·rename_i ds el;simp only [DV] at rx;obtain ⟨a,rfl,ha⟩:=rx;obtain ⟨vs,hv,dv⟩:=hr3.cells n _ a el ha;exact ⟨a,vs,rfl,SqL.of hv,(Fy hr3 (dv.cut l u) q3).2⟩
     ·exact q3.elim
    ·exact q3.elim⟩⟩⟩)
end
def KW:Kyd→Bool
 |.t [a,b]=>decide (0≤a∧a<8∧0≤b∧b<8)
 |_=>false
def IJ (kvs:List (Kyd×D)):Bool:=kvs.all fun p=>KW p.1
theorem ZbR {kvs:List (Kyd×D)} (h:IJ kvs=true):Es kvs=true:=by
 unfold IJ at h;unfold Es;rw [qaQ] at h ⊢;intro p hp;have:=h p hp;unfold KW at this;split at this
 ·rename_i a b e;rw [e];rfl
 ·cases this
theorem ZbS {k:Kyd} (h:KW k=true):∃x∈SetP.U,k=.t [(x.1:Int),(x.2:Int)]:=by
 unfold KW at h;split at h
 ·rename_i a b;have c:=of_decide_eq_true h;refine ⟨(a.toNat,b.toNat),SetP.U_mem.mpr ⟨by simp only;omega,by simp only;omega⟩,?_⟩;have e1:((a.toNat:Nat):Int)=a:=DX c.1;have e2:((b.toNat:Nat):Int)=b:=DX c.2.2.1;simp only [e1,e2]
 ·cases h
def FJ:D→D→HD→Out D:=fun x y h=>match x,y with
 |.loc l,.loc k=>if l=k then .stuck else (match h[l]?,h[k]? with
  |some (.dic false kvs),some (.dic _ more)=>if Es kvs∧IJ more∧kvs.length+more.length≤sizeLine then .ok .non (h.set l (.dic false (more.foldl (fun acc p=>Cw acc p.1 p.2) kvs))) else .stuck
  |_,_=>.stuck)
 |_,_=>.stuck
theorem ZbT (x y:D) (h:HD):Eh (FJ x y h):=by
 unfold FJ
 repeat' split
 all_goals trivial
section
variable {X:Cx} {E:XK}
theorem ZbU (hu:X.A.units+64<cLine):Iq X "dict.update" FJ:=by
 intro pins s σ H m h x y v yv u uy Q I hr rx ry r r2 q;unfold FJ at q;split at q
 ·rename_i l k;split at q
  ·exact q.elim
  ·rename_i hlk;split at q
   ·rename_i kvs fz more el ek;split at q
    ·rename_i hc;simp only [DV] at rx ry;obtain ⟨a,rfl,ha⟩:=rx;obtain ⟨b,rfl,hb⟩:=ry;cases (show u=Value.ref a from r);cases (show uy=Value.ref b from r2);have hab:a≠b:=fun z=>by subst z;have h1:=qa1.mp ha;have h2:=qa1.mp hb;exact hlk ((GF hr.nd).mp (h1.2.trans h2.2.symm))
     obtain ⟨es,hv,en⟩:=hr.cells l _ a el ha;obtain ⟨es2,he2,en2⟩:=hr.cells k _ b ek hb;have hv:H a=some (.dct (B9 a es)):=hv;have dc:B9 a es s.heap:=(show ObjOk X.prog X.w H s.heap a (.dct (B9 a es)) from I.hok a _ hv).1;have dc2:=NC I he2;obtain ⟨xs,dd,rr⟩:=NF (P:=X.prog) (w:=X.w) ⟨I.hok,I.kIn⟩ dc en hc.1;obtain ⟨ys,dd2,rr2⟩:=NF (P:=X.prog) (w:=X.w) ⟨I.hok,I.kIn⟩ dc2 en2 (ZbR hc.2.1);have keys:∀y∈ys,∃x∈SetP.U,y.1=[(x.1:Int),(x.2:Int)]:=fun y hy=>by
      obtain ⟨p,hp,hpy⟩:=SetP.paired_right rr2 y hy;obtain ⟨x,hx,e⟩:=ZbS (qaQ.mp hc.2.1 p hp);have:=hpy.1;rw [e] at this;injection this with z
      exact ⟨x,hx,z.symm⟩
     have is2:∀y∈ys,IsTupleKey (Dt.iK X.prog X.w) s.heap y.1 y.2.1:=by obtain ⟨_,_,_,_,_,_,_,z,_⟩:=dd2;exact z
     refine call_meetsIn PySem.F.slot_dict_update (Ri dc).1 PySem.F.entry_dict_update (PySem.F.args_dict_update_2 _ _) (Up.updateH (knd:=Dt.tK X.prog X.w) a b hab dc2.1)
      ⟨xs,ys,by show X.A.units+1<cLine;omega,dd,dd2,by rw [←NG rr,←NG rr2];exact hc.2.2,fun y hy=>(is2 y hy).typeIs,fun y hy z hz e=>?_,fun h' dd' hs=>?_⟩
     ·obtain ⟨x1,hx1,e1⟩:=keys y hy;obtain ⟨x2,hx2,e2⟩:=keys z hz;rw [e1,e2] at e;have:x1=x2:=SetP.hk_inj hx1 hx2 e;rw [e1,e2,this]
     ·have rel:Paired (TR X.K m H) (more.foldl (fun acc p=>Cw acc p.1 p.2) kvs) (ys.foldl Dt.put1 xs):=NH rr2 rr;obtain ⟨es',q1,q2⟩:=Rr (P:=X.prog) (w:=X.w) dc.1 (Br NI hc.2.2) dd' rel;have kk:Kp H (Aq H a (.dct (B9 a es'))):=.set hv rfl;refine ⟨.non,Aq H a (.dct (B9 a es')),I.write (x:=a) (e:=a) (t':=_) (by rw [hv];exact True.intro) (.inl rfl) (fun b q hb z=>(hs.2 b hb).trans z) ?_ (NA q1),rfl,?_⟩
      ·obtain ⟨o,_,_,ho,_⟩:=dd';exact ⟨o,ho⟩
      ·exact q .non m _ (Ay _) kk (hr.setCell ha hv rfl ⟨es',B0,q2.keep (Ay _) kk⟩) (by simp [rD,DV])
    ·exact q.elim
   ·exact q.elim
 ·exact q.elim
theorem ZbV {apos cpos:Pos} (hu:X.A.units+64<cLine) (ho:Ev X E o f) (he:Ev X E e g)
 (hbase:attributeBase o "update" X.env (eval o X.env)=eval o X.env:=by rfl)
 (hfew:((backTo cpos (starEach [e] X.env)).all (fun x=>!x.1)&&(backToKw cpos (keywordEach [] X.env)).all (fun x=>x.1.isSome)
  &&decide ([e].length+([]:List Keyword).length+(if ([]:List Keyword).isEmpty then 0 else 1)<30))=true:=by rfl)
 (hline:(apos.endLine==cpos.line)=true:=by rfl) (hs:starEach [e] X.env=(false,eval e X.env)::starEach [] X.env:=by rfl) (hplain:(backTo cpos (starEach [] X.env)).any (·.1)=false:=by rfl):
 Ev X E (.Call (.Attribute o "update" apos) [e] [] cpos) (Ei Gs FJ f g):=
 Kq PySem.F.plainAttrs_dict PySem.F.slot_dict_update PySem.F.type_dict_update ZaR ZbT (ZbU hu) ho he hbase hfew hline hs hplain
def CO (f:Bool→Bool):D→D→HD→Out D:=fun x y h=>match x,y with
 |.loc l,.loc k=>(match h[l]?,h[k]? with
  |some (.lst ds),some (.lst es)=>if ds.length≠es.length then .ok (.bl (f false)) h else if ds.length=0 then .ok (.bl (f true)) h else .stuck
  |_,_=>.stuck)
 |_,_=>.stuck
theorem ZbW (f:Bool→Bool) (x y:D) (h:HD):Eh (CO f x y h):=by
 unfold CO
 repeat' split
 all_goals trivial
theorem R3 {o:CmpOp} {f:Bool→Bool} (hu:X.A.units+64<cLine)
 (ne:∀{s:Shared} {a b:Addr} {xs ys:Array Value} {Q E:Value→Shared→Prop},s.heap.IsList a xs→s.heap.IsList b ys→(xs.size != ys.size)=true→Q (.bool (f false)) s→wpAny (model X.prog X.w) X.A (compareOp o (.ref a) (.ref b)) Q E s)
 (em:∀{s:Shared} {a b:Addr} {xs ys:Array Value} {Q E:Value→Shared→Prop},s.heap.IsList a xs→s.heap.IsList b ys→xs.size=0→ys.size=0→Q (.bool (f true)) s→wpAny (model X.prog X.w) X.A (compareOp o (.ref a) (.ref b)) Q E s):
 Bn X (compareOp o) (CO f):=by
 refine ⟨fun v u H Q=>∃m h x y,HR X.K m h H∧DV X.K m H x v∧DV X.K m H y u∧Post X.K (rD X.K) m H E0 Q (CO f x y h),fun pins s σ H v u a b Q I rv ru z=>?_,fun m H h E x y v u Q hr rx ry q=>⟨m,h,x,y,hr,rx,ry,Post.noE (ZbW _ _ _ _) q⟩⟩;obtain ⟨m,h,x,y,hr,rx,ry,q⟩:=z;unfold CO at q;split at q
 ·rename_i l k;split at q
  ·rename_i ds es el ek;simp only [DV] at rx ry;obtain ⟨p,rfl,hp⟩:=rx;obtain ⟨p2,rfl,hp2⟩:=ry;cases (show a=Value.ref p from rv);cases (show b=Value.ref p2 from ru);obtain ⟨ws,hv,dv⟩:=hr.cells l _ p el hp;obtain ⟨ws2,hv2,dv2⟩:=hr.cells k _ p2 ek hp2;obtain ⟨its,r1,⟨o1,n1,g1,c1,d1,_⟩,_⟩:=I.list (SqL.of hv);obtain ⟨its2,r2,⟨o2,n2,g2,c2,d2,_⟩,_⟩:=I.list (SqL.of hv2);have l1:its.toArray.size=ds.length:=by rw [dv.len];simpa using r1.length.symm
   have l2:its2.toArray.size=es.length:=by rw [dv2.len];simpa using r2.length.symm
   have i1:s.heap.IsList p its.toArray:=⟨o1,g1,c1,n1,by assumption⟩
   have i2:s.heap.IsList p2 its2.toArray:=⟨o2,g2,c2,n2,by assumption⟩
   split at q
   ·rename_i hne;exact ne i1 i2 (by rw [l1,l2];simpa using hne) ⟨.bl _,H,I,rfl,A8 hr q (by simp [DV])⟩
   ·rename_i hne;split at q
    ·rename_i hz;exact em i1 i2 (by omega) (by omega) ⟨.bl _,H,I,rfl,A8 hr q (by simp [DV])⟩
    ·exact q.elim
  ·exact q.elim
 ·exact q.elim
theorem R4 {n:Nat} {e:Nat→Bool} (h:n=0):(List.range n).all e=true:=by subst h;rfl
theorem ZbX (hu:X.A.units+64<cLine):Bn X (compareOp .NotEq) (CO not):=
 R3 hu (fun h1 h2 hz q=>SeqAt.RcNeAt.lists_lengths h1 h2 hz (by omega) _ _ _ _ q)
  fun {s a b xs ys Q E} h1 h2 z1 z2 q=>SeqAt.RcNeAt.lists (e:=fun _=>true) h1 h2 (by omega) (by omega) (fun j h1 h2=>absurd h1 (by omega)) _ _ _ _ (by rw [R4 z1];exact q)
theorem ZbY (hu:X.A.units+64<cLine):Bn X (compareOp .Eq) (CO id):=
 R3 hu (fun h1 h2 hz q=>SeqAt.RcAt.lists_lengths h1 h2 hz (by omega) _ _ _ _ q)
  fun {s a b xs ys Q E} h1 h2 z1 z2 q=>SeqAt.RcAt.lists (e:=fun _=>true) h1 h2 (by omega) (by omega) (fun j h1 h2=>absurd h1 (by omega)) _ _ _ _ (by rw [R4 z1];exact q)
def FK:D→D→HD→Out D:=fun x y h=>match x,y with
 |.loc l,.int i=>(match h[l]? with
  |some (.lst ds)=>if 0≤i∧i<2^63 then (match ds[i.toNat]? with
   |some d=>.ok d (h.set l (.lst (ds.eraseIdx i.toNat)))
   |none=>.stuck) else .stuck
  |_=>.stuck)
 |_,_=>.stuck
theorem ZbZ (x y:D) (h:HD):Eh (FK x y h):=by
 unfold FK
 repeat' split
 all_goals trivial
theorem Zb0 {i:Int} {n:Nat} (h0:0≤i) (h1:i.toNat<n):seqIndex? i n=some i.toNat:=by exact PySem.StrLaws.seqIndex_nonneg h0 (by omega)
theorem Zb1:Iq X "list.pop" FK:=by
 intro pins s σ H m h x y v yv u uy Q I hr rx ry r r2 q;unfold FK at q;split at q
 ·rename_i l i;split at q
  ·rename_i ds el;split at q
   ·rename_i hi;split at q
    ·rename_i d ed;simp only [DV] at rx ry;subst ry;obtain ⟨a,rfl,ha⟩:=rx;obtain ⟨ws,hv,dv⟩:=hr.cells l _ a el ha;have hv:H a=some (.lst ws):=hv;obtain ⟨w,hw,rw'⟩:=dv.get ed;have hk:i.toNat<ws.length:=(qa1.mp hw).1;have kk:Kp H (Aq H a (.lst (ws.eraseIdx i.toNat))):=.set hv rfl;refine WM pins s σ H _ _ u [uy] Q I r (.cons r2 .nil) ⟨a,ws,i,i.toNat,w,rfl,rfl,hv,by omega,hi.2,Zb0 hi.1 hk,hw,?_⟩;refine q w m _ (Ay _) kk (hr.setCell ha hv rfl ⟨_,B0,?_⟩) (by simp only [rD];exact DV.keep (Ay _) kk rw');have:DVs X.K m H (ds.eraseIdx i.toNat) (ws.eraseIdx i.toNat):=by rw [Jj,Jj];exact (dv.take _).app (dv.drop _)
     exact this.keep (Ay _) kk
    ·exact q.elim
   ·exact q.elim
  ·exact q.elim
 ·exact q.elim
end
end LS
set_option maxHeartbeats 0
namespace LK
open PySem PySem.Spec PyProof.Rows L2 LS
def Bi (i:Nat):Stmt:=PySem.Challenge.pw_lineswitch_k43_floor_papers.main.body.getD i (.Pass ⟨0,0,0,0⟩)
abbrev NR:Stmt:=Bi 39
abbrev R5:Stmt:=Bi 14
noncomputable abbrev R6:MS:=AE (EL (Af (A4 AG) (Aa (Ab 0) (Aa (mC (.ty "int")) (Ac)))) (HW (Af (A4 AG) (Aa (Ab 0) (Aa (mC (.ty "bool")) (Ac))))))
noncomputable def E8:List D→HD→Out D:=Bg 1 1 R6
abbrev R7:Stmt:=Bi 17
noncomputable abbrev R8:MS:=AE (EL (Af (A4 AG) (Aa (Ab 0) (Aa (mC (.ty "tuple")) (Ac)))) (Ea F8 F8 (mC (.int 1)) (Af (An AO) (Aa (Ab 0) (Ac))) (mC (.int 8))))
noncomputable def Hk:List D→HD→Out D:=Bg 1 1 R8
abbrev R9:Stmt:=Bi 23
noncomputable abbrev Sa:MS:=Ai (As 1 (Af (An AO) (Aa (Ab 0) (Ac)))) (Ai (As 2 (Af (An AO) (Aa (Ae Ao (Ab 0) (mC (.int 0))) (Ac)))) (AE (E5 [none,none,none,none,some 1,some 2] (B5 (Aa (Ab 1) (Ac))) (AQ 0) (Bl) (DI (Ec (Aa (Ae Am (Ab 0) (mC (.int 1))) (Aa (Ab 4) (Ac)))) (AQ 1) (Bl) (DI (B5 (Aa (Ab 5) (Ac))) (AQ 2) (Bl) (DI (Ec (Aa (Ae Am (Ab 2) (mC (.int 1))) (Aa (Ab 5) (Ac)))) (AQ 3) (Bl) (En (AW (Aa (Ab 0) (Aa (Ab 1) (Aa (Ab 2) (Aa (Ab 3) (Ac)))))))))))))
noncomputable def KY:List D→HD→Out D:=Bg 1 3 Sa
abbrev Sb:Stmt:=Bi 24
noncomputable abbrev Se:MS:=Ai (EU (E4 [2,3,4,5]) (Ab 1)) (AE (Ae CK (Ae DS (Ae Am (Ae Am (Ae Am (Ae Ao (Ae Ao (Ab 0) (Ab 2)) (Ab 4)) (Ae Ao (Ae Ao (Ab 0) (Ab 2)) (Ab 5))) (Ae Ao (Ae Ao (Ab 0) (Ab 3)) (Ab 4))) (Ae Ao (Ae Ao (Ab 0) (Ab 3)) (Ab 5))) (mC (.int 2))) (mC (.int 1))))
noncomputable def Hl:List D→HD→Out D:=Bg 2 6 Se
abbrev Sg:Stmt:=Bi 28
noncomputable abbrev Sh:MS:=AE (EL (HV (Ae (Eb false) (Ae Ao (Ab 0) (mC (.int 0))) (BL (Ab 1) (AX) (AM (mC (.int 2))))) (Ae (Eb false) (Ae Ao (Ab 0) (mC (.int 1))) (BL (Ab 1) (AX) (AM (mC (.int 2)))))) (HV (Ae (Eb false) (Ae Ao (Ab 0) (mC (.int 2))) (BL (Ab 1) (AM (mC (.int 2))) (AX))) (Ae (Eb false) (Ae Ao (Ab 0) (mC (.int 3))) (BL (Ab 1) (AM (mC (.int 2))) (AX)))))
noncomputable def KZ:List D→HD→Out D:=Bg 2 2 Sh
abbrev Si:Stmt:=Bi 33
noncomputable abbrev NS:MS:=Ai (A5 (A2 (Ae EN (Ab 1) (Af (An AO) (Aa (Ab 0) (Ac))))) (AE (Ae Ao (Ab 0) (Ab 1))) (Bd)) (AE (Ae Am (Ae Ce (mC (.int 6151)) (Ab 1)) (mC (.int 29))))
noncomputable def K0:List D→HD→Out D:=Bg 2 2 NS
abbrev Sj:Stmt:=Bi 34
noncomputable abbrev Sk:MS:=Ai (As 2 (Ae Am (Ae Ce (Ae Am (Ab 0) (mC (.int 1))) (mC (.int 40692))) (Ae Ce (mC (.int 104729)) (Ab 1)))) (Ai (As 2 (Ae Am (Ae DS (Ae Ce (Ab 2) (Ab 2)) (mC (.int 2147483399))) (Ab 1))) (AE (Ae DS (Ae Ce (Ab 2) (Ae Am (Ab 2) (mC (.int 31)))) (mC (.int 2147483563)))))
noncomputable def K1:List D→HD→Out D:=Bg 2 3 Sk
abbrev Sl:Stmt:=Bi 36
noncomputable abbrev Sn:MS:=Ai (EU (ES 2 3) (Af (A4 H0) (Aa (Ae Ao (Ab 0) (mC (.int 0))) (Aa (Ab 1) (Ac))))) (Ai (Kb (Ab 0) (mC (.int 0)) (Ab 2)) (AE (Ab 3)))
noncomputable def Bu:List D→HD→Out D:=Bg 2 4 Sn
abbrev So:Stmt:=Bi 38
noncomputable abbrev Sq:MS:=Ai (As 1 (AB (Aa (Af (A4 AG) (Aa (Ab 0) (Aa (mC (.glo "NoBoard")) (Ac)))) (Aa (Af (A4 AG) (Aa (Ab 0) (Aa (mC (.glo "NoLine")) (Ac)))) (Aa (Af (A4 AG) (Aa (Ab 0) (Aa (mC (.glo "NoSwitching")) (Ac)))) (Aa (Af (A4 AG) (Aa (Ab 0) (Aa (mC (.glo "NoNumber")) (Ac)))) (Ac))))))) (Ai (As 1 (Ae Am (Ab 1) (AB (Aa (Af (A4 AG) (Aa (Ab 0) (Aa (mC (.glo "Unlike")) (Ac)))) (Aa (Af (A4 AG) (Aa (Ab 0) (Aa (mC (.glo "NoNet")) (Ac)))) (Aa (Af (A4 AG) (Aa (Ab 0) (Aa (mC (.glo "NoPlace")) (Ac)))) (Aa (Af (A4 AG) (Aa (Ab 0) (Aa (mC (.glo "NoText")) (Ac)))) (Ac)))))))) (Ai (As 1 (Ae Am (Ab 1) (AB (Aa (Af (A4 AG) (Aa (Ab 0) (Aa (mC (.glo "NoRow")) (Ac)))) (Aa (Af (A4 AG) (Aa (Ab 0) (Aa (mC (.glo "TooMany")) (Ac)))) (Ac)))))) (Ai (A5 (Ca (BG (Bz (Af (A4 AG) (Aa (Ab 0) (Aa (mC (.ty "ValueError")) (Ac)))))) (A2 (Ae BU (Ei Cb Gk (Ab 1) (mC (.bl true))) (mC (.int 1))))) (AE (mC (.str "! other"))) (Bd)) (Ai (A5 (Bz (Ae Ao (Ab 1) (mC (.int 9)))) Pv Bd) (Ai (As 2 (AB (Aa (mC (.str "board")) (Aa (mC (.str "line")) (Aa (mC (.str "switching")) (Aa (mC (.str "number")) (Aa (mC (.str "unlike")) (Aa (mC (.str "net")) (Aa (mC (.str "place")) (Aa (mC (.str "text")) (Aa (mC (.str "row")) (Ac)))))))))))) (AE (Ae Am (mC (.str "! ")) (Ae Ao (Ab 2) (Ei Cb Gm (Ab 1) (mC (.bl true)))))))))))
noncomputable def FL:List D→HD→Out D:=Bg 1 3 Sq
abbrev Sr:Stmt:=Bi 42
noncomputable abbrev Ss:MS:=AE (AB (Aa (AW (Aa (Ae Ao (Ab 0) (mC (.int 0))) (Aa (Ae Ao (Ab 0) (mC (.int 2))) (Ac)))) (Aa (AW (Aa (Ae Ao (Ab 0) (mC (.int 0))) (Aa (Ae Ao (Ab 0) (mC (.int 3))) (Ac)))) (Aa (AW (Aa (Ae Ao (Ab 0) (mC (.int 1))) (Aa (Ae Ao (Ab 0) (mC (.int 2))) (Ac)))) (Aa (AW (Aa (Ae Ao (Ab 0) (mC (.int 1))) (Aa (Ae Ao (Ab 0) (mC (.int 3))) (Ac)))) (Ac))))))
noncomputable def FM:List D→HD→Out D:=Bg 1 1 Ss
abbrev Su:Stmt:=Bi 45
noncomputable abbrev Sv:MS:=Ai (As 1 (AB (Ac))) (Ai (BQ (B5 (Aa (Af (An AO) (Aa (Ab 0) (Ac))) (Ac))) (AQ 2) (BQ (Ec (Aa (Ae Am (Ab 2) (mC (.int 1))) (Aa (Af (An AO) (Aa (Ab 0) (Ac))) (Ac)))) (AQ 3) (Ai (As 4 (A6 [none,none] (Io (Aa (Ae Ao (Ab 0) (Ab 2)) (Aa (Ae Ao (Ab 0) (Ab 3)) (Ac)))) (ES 0 1) (Bl) (Ae DS (Ae Am (Ab 0) (Ab 1)) (mC (.int 2))))) (BQ (B5 (Aa (Af (An AO) (Aa (Ab 4) (Ac))) (Ac))) (AQ 5) (As 1 (Ae Am (Ab 1) (A6 [none,some 2,some 3,some 5,some 4] (Ec (Aa (Ae Am (Ab 5) (mC (.int 1))) (Aa (Af (An AO) (Aa (Ab 4) (Ac))) (Ac)))) (AQ 0) (A2 (Ae BU (Ae Ao (Ab 4) (Ab 3)) (Ae Ao (Ab 4) (Ab 0)))) (AW (Aa (Ab 1) (Aa (Ab 2) (Aa (Ab 3) (Aa (Ab 0) (Ac))))))))))))) (AE (Ab 1)))
noncomputable def K2:List D→HD→Out D:=Bg 1 6 Sv
abbrev Sx:Stmt:=Bi 15
noncomputable abbrev NT:MS:=AE (EL (Af E8 (Aa (Ab 0) (Ac))) (Ea F8 F8 (Ab 1) (Ab 0) (Ab 2)))
noncomputable def IK:List D→HD→Out D:=Bg 3 3 NT
abbrev Sy:Stmt:=Bi 21
noncomputable abbrev Sz:MS:=Ai (A5 (BG (Bz (Af (A4 AG) (Aa (Ab 0) (Aa (mC (.ty "tuple")) (Ac)))))) (AE (mC (.bl false))) (Bd)) (Ai (As 2 (GX (mC (.int 1)))) (Ai (BQ (BK (Ab 0)) (AQ 3) (Ai (A5 (Ca (BG (Bz (Af E8 (Aa (Ab 3) (Ac))))) (BG (A2 (Ea EN EN (Ab 2) (Ab 3) (Ab 1))))) (AE (mC (.bl false))) (Bd)) (As 2 (Ab 3)))) (AE (mC (.bl true)))))
noncomputable def IP:List D→HD→Out D:=Bg 2 4 Sz
abbrev SA:Stmt:=Bi 29
noncomputable abbrev SB:MS:=AE (HW (Af (An Hb) (Aa (A6 [none,some 0] (BK (Ab 1)) (AQ 0) (Bl) (Af KZ (Aa (Ab 1) (Aa (Ab 0) (Ac))))) (Ac))))
noncomputable def Hm:List D→HD→Out D:=Bg 2 2 SB
abbrev SC:Stmt:=Bi 35
noncomputable abbrev SD:MS:=Ai (As 2 (Af K0 (Aa (Ab 0) (Aa (Ab 1) (Ac))))) (Ai (A5 (A2 (Ae CK (Ae DS (Ab 2) (mC (.int 2))) (mC (.int 0)))) (AE (AB (Aa (Ae J4 (Ab 2) (mC (.int 2))) (Ac)))) (Bd)) (Ai (As 3 (mC (.int 0))) (Ai (BQ (B5 (Aa (mC (.int 24)) (Ac))) (AQ 4) (As 3 (Ae Am (Ae Ce (Ab 3) (mC (.int 2147483647))) (Af K1 (Aa (Ab 2) (Aa (Ab 4) (Ac))))))) (AE (AB (Aa (Ab 3) (Ac)))))))
noncomputable def K3:List D→HD→Out D:=Bg 2 5 SD
abbrev SE:Stmt:=Bi 37
noncomputable abbrev SF:MS:=Ai (Gb 1 2 (Aa (Af Bu (Aa (Ab 0) (Aa (mC (.int 2147483647)) (Ac)))) (Aa (mC (.int 0)) (Ac)))) (Ai (BQ (B5 (Aa (mC (.int 24)) (Ac))) (AQ 3) (Ai (As 1 (Ae DS (Ae Am (Ae Am (Ae Ce (Ab 1) (mC (.int 48271))) (mC (.int 11))) (Ab 3)) (mC (.int 2147483647)))) (As 2 (Ae Am (Ae Ce (Ab 2) (mC (.int 2147483647))) (Ab 1))))) (AE (AB (Aa (Ab 2) (Ac)))))
noncomputable def K4:List D→HD→Out D:=Bg 1 4 SF
abbrev SG:Stmt:=Bi 41
noncomputable abbrev SH:MS:=Ai (EU (E4 [2,3]) (AW (Aa (Af Bu (Aa (Ab 0) (Aa (Af (An AO) (Aa (Ab 1) (Ac))) (Ac)))) (Aa (Af Bu (Aa (Ab 0) (Aa (Af (An AO) (Aa (Ae Ao (Ab 1) (mC (.int 0))) (Ac))) (Ac)))) (Ac))))) (Ai (As 4 (Ae Ao (AB (Aa (mC (.int 2)) (Aa (GX (mC (.int 1))) (Aa (mC (.bl true)) (Aa (mC (.bl false)) (Aa (mC .non) (Aa (mC (.str "0")) (Aa (AW (Aa (mC (.int 0)) (Ac))) (Aa (Ae HY (mC (.int 10)) (mC (.int 29))) (Aa (AB (Aa (mC (.int 0)) (Ac))) (Aa (mC .edic) (Ac)))))))))))) (Af Bu (Aa (Ab 0) (Aa (mC (.int 10)) (Ac)))))) (Ai (As 5 (Ae Ao (Ab 1) (Ab 2))) (Ai (As 6 (Ae Am (Ae Am (BL (Ab 5) (AX) (AM (Ab 3))) (AW (Aa (Ab 4) (Ac)))) (BL (Ab 5) (AM (Ae Am (Ab 3) (mC (.int 1)))) (AX)))) (Ai (As 7 (AB (Aa (Ab 6) (Aa (Ab 6) (Aa (Ab 6) (Aa (Ae Am (Ab 5) (Ae Ce (AW (Aa (mC (.int 0)) (Ac))) (mC (.int 8)))) (Aa (AW (Ac)) (Aa (Af (An listOfD) (Aa (Ab 5) (Ac))) (Aa (mC .non) (Aa (mC (.int 1)) (Ac))))))))))) (Ai (A5 (A2 (Ae Pn (Af (An AO) (Aa (Ab 1) (Ac))) (mC (.int 1)))) (As 7 (Ae Am (Ab 7) (AB (Aa (BL (Ab 5) (AX) (AM (GX (mC (.int 1))))) (Aa (Ae Am (Ab 5) (AW (Aa (mC (.int 0)) (Ac)))) (Ac)))))) (Bd)) (Ai (As 7 (A6 [none,some 1,some 2] (BK (Ab 7)) (AQ 0) (Bl) (Ae Am (Ae Am (BL (Ab 1) (AX) (AM (Ab 2))) (AW (Aa (Ab 0) (Ac)))) (BL (Ab 1) (AM (Ae Am (Ab 2) (mC (.int 1)))) (AX))))) (Ai (As 7 (Ae Am (Ab 7) (AB (Aa (Af (An listOfD) (Aa (Ab 1) (Ac))) (Aa (AW (Aa (Ab 1) (Ac))) (Aa (Ae Ce (AW (Aa (Ae Ao (Ab 1) (mC (.int 0))) (Ac))) (mC (.int 9))) (Aa (Ae Am (Ab 1) (AW (Aa (AW (Ac)) (Ac)))) (Aa (Ae Ao (Ab 1) (mC (.int 0))) (Aa (mC .non) (Aa (AW (Ac)) (Aa (mC (.int 0)) (Aa (mC (.str "")) (Aa (mC .edic) (Ac)))))))))))))) (AE (Ae Ao (Ab 7) (Af Bu (Aa (Ab 0) (Aa (Af (An AO) (Aa (Ab 7) (Ac))) (Ac)))))))))))))
noncomputable def K5:List D→HD→Out D:=Bg 2 8 SH
abbrev SI:Stmt:=Bi 43
noncomputable abbrev SJ:MS:=Ai (A5 (Ca (BG (Bz (Af (A4 AG) (Aa (Ab 1) (Aa (mC (.ty "tuple")) (Ac)))))) (A2 (Ae BU (Af (An AO) (Aa (Ab 1) (Ac))) (mC (.int 4))))) (AE (mC (.bl false))) (Bd)) (Ai (As 2 (AB (Aa (Af (An AO) (Aa (Ab 0) (Ac))) (Aa (Af (An AO) (Aa (Ab 0) (Ac))) (Aa (Af (An AO) (Aa (Ae Ao (Ab 0) (mC (.int 0))) (Ac))) (Aa (Af (An AO) (Aa (Ae Ao (Ab 0) (mC (.int 0))) (Ac))) (Ac))))))) (Ai (BQ (Io (Aa (Ab 1) (Aa (Ab 2) (Ac)))) (ES 3 4) (A5 (Ca (BG (Bz (Af (A4 AG) (Aa (Ab 3) (Aa (mC (.ty "int")) (Ac)))))) (Ca (Bz (Af (A4 AG) (Aa (Ab 3) (Aa (mC (.ty "bool")) (Ac))))) (BG (A2 (Ea F8 EN (mC (.int 0)) (Ab 3) (Ab 4)))))) (AE (mC (.bl false))) (Bd))) (Ai (A5 (Ca (A2 (Ae Ml (Ae Ao (Ab 1) (mC (.int 0))) (Ae Ao (Ab 1) (mC (.int 1))))) (A2 (Ae Ml (Ae Ao (Ab 1) (mC (.int 2))) (Ae Ao (Ab 1) (mC (.int 3)))))) (AE (mC (.bl false))) (Bd)) (AE (Ae CK (Ae DS (Af (An GV) (Aa (A6 [none,none,some 0] (BK (Af FM (Aa (Ab 1) (Ac)))) (ES 0 1) (Bl) (Ae Ao (Ae Ao (Ab 2) (Ab 0)) (Ab 1))) (Ac))) (mC (.int 2))) (mC (.int 1)))))))
noncomputable def K6:List D→HD→Out D:=Bg 2 5 SJ
abbrev SK:Stmt:=Bi 46
noncomputable abbrev SL:MS:=Ai (EU (E4 [1,2]) (AW (Aa (NB) (Aa (AB (Ac)) (Ac))))) (Ai (BQ (BK (Ab 0)) (AQ 3) (Ai (As 4 (Af FM (Aa (Ab 3) (Ac)))) (A5 (A2 (Ae (CO id) (A6 [none,some 1] (BK (Ab 4)) (AQ 0) (A2 (Ae (Eu false) (Ab 0) (Ab 1))) (Ab 0)) (AB (Ac)))) (Ai (Cs (DD (Ab 2) (Ab 3))) (Cs (Ei Gs FJ (Ab 1) (Af (An Gu) (Aa (A6 [none] (BK (Ab 4)) (AQ 0) (Bl) (AW (Aa (Ab 0) (Aa (mC (.bl true)) (Ac))))) (Ac)))))) (Bd)))) (AE (Ab 2)))
noncomputable def Hn:List D→HD→Out D:=Bg 1 5 SL
abbrev SM:Stmt:=Bi 47
noncomputable abbrev SO:MS:=Ai (Gb 3 4 (Aa (Af Bu (Aa (Ab 0) (Aa (Af (An AO) (Aa (Ab 2) (Ac))) (Ac)))) (Aa (Af Bu (Aa (Ab 0) (Aa (mC (.int 4)) (Ac)))) (Ac)))) (Ai (As 5 (Ae Ao (AB (Aa (GX (mC (.int 1))) (Aa (mC (.int 8)) (Aa (mC (.bl true)) (Aa (mC .non) (Aa (mC (.str "0")) (Aa (AW (Aa (mC (.int 0)) (Ac))) (Aa (Ae HY (mC (.int 10)) (mC (.int 29))) (Aa (mC (.bl false)) (Aa (mC (.int 0)) (Aa (mC (.int 1)) (Aa (mC (.int 2)) (Aa (AB (Aa (mC (.int 0)) (Ac))) (Aa (mC .edic) (Ac))))))))))))))) (Af Bu (Aa (Ab 0) (Aa (mC (.int 13)) (Ac)))))) (Ai (As 6 (Ae Ao (Ab 2) (Ab 3))) (Ai (As 7 (AB (Aa (Ae Am (Ae Am (BL (Ab 6) (AX) (AM (Ab 4))) (AW (Aa (Ab 5) (Ac)))) (BL (Ab 6) (AM (Ae Am (Ab 4) (mC (.int 1)))) (AX))) (Aa (Ae Am (BL (Ab 6) (AM (mC (.int 2))) (AX)) (BL (Ab 6) (AX) (AM (mC (.int 2))))) (Aa (Ae Am (AW (Aa (Ae Ao (Ab 6) (mC (.int 1))) (Aa (Ae Ao (Ab 6) (mC (.int 0))) (Ac)))) (BL (Ab 6) (AM (mC (.int 2))) (AX))) (Aa (BL (Ab 6) (AX) (AM (mC (.int 3)))) (Ac))))))) (Ai (As 7 (Ae Am (Ab 7) (AB (Aa (Ae Am (Ab 6) (AW (Aa (mC (.int 0)) (Ac)))) (Aa (Af (An listOfD) (Aa (Ab 6) (Ac))) (Aa (mC .non) (Aa (Kz (Ab 6)) (Aa (Ae Am (AW (Aa (Ae Ao (Ab 6) (mC (.int 0))) (Aa (Ae Ao (Ab 6) (mC (.int 0))) (Ac)))) (BL (Ab 6) (AM (mC (.int 2))) (AX))) (Ac))))))))) (Ai (As 8 (Ae Ao (Ab 7) (Af Bu (Aa (Ab 0) (Aa (mC (.int 9)) (Ac)))))) (Ai (As 9 (AB (Aa (Ae Am (Ae Am (BB (Ab 2) (AX) (AM (Ab 3))) (AB (Aa (Ab 8) (Ac)))) (BB (Ab 2) (AM (Ae Am (Ab 3) (mC (.int 1)))) (AX))) (Aa (Ae Am (Ae Am (BB (Ab 2) (AX) (AM (Ab 3))) (AB (Aa (Ab 8) (Ac)))) (BB (Ab 2) (AM (Ab 3)) (AX))) (Aa (Ae Am (Ab 2) (BB (Ab 2) (AM (Ab 3)) (AM (Ae Am (Ab 3) (mC (.int 1)))))) (Ac)))))) (Ai (As 9 (Ae Am (Ab 9) (AB (Aa (Ae Am (Ae Am (BB (Ab 2) (AX) (AM (Ab 3))) (AB (Aa (Ab 8) (Ac)))) (BB (Ab 2) (AM (Ae Am (Ab 3) (mC (.int 1)))) (AX))) (Aa (Af (An CW) (Aa (Ab 2) (Ac))) (Aa (mC .non) (Aa (Ae Ao (Ab 2) (Ab 3)) (Aa (mC .edic) (Aa (AB (Aa (Ab 2) (Ac))) (Aa (IB (Ab 2)) (Ac))))))))))) (AE (Ae Ao (Ab 9) (Af Bu (Aa (Ab 0) (Aa (mC (.int 10)) (Ac)))))))))))))
noncomputable def K7:List D→HD→Out D:=Bg 3 10 SO
abbrev SQ:Stmt:=Bi 16
noncomputable abbrev SS:MS:=AE (Af IK (Aa (Ab 0) (Aa (mC (.int 0)) (Aa (mC (.int 1)) (Ac)))))
noncomputable def K8:List D→HD→Out D:=Bg 1 1 SS
abbrev SU:Stmt:=Bi 27
noncomputable abbrev SV:MS:=Ai (A5 (Ca (BG (Bz (Af (A4 AG) (Aa (Ab 1) (Aa (mC (.ty "tuple")) (Ac)))))) (A2 (Ae BU (Af (An AO) (Aa (Ab 1) (Ac))) (mC (.int 4))))) (AE (mC (.bl false))) (Bd)) (AE (EL (Af IP (Aa (BL (Ab 1) (AX) (AM (mC (.int 2)))) (Aa (Af (An AO) (Aa (Ab 0) (Ac))) (Ac)))) (Af IP (Aa (BL (Ab 1) (AM (mC (.int 2))) (AX)) (Aa (Af (An AO) (Aa (Ae Ao (Ab 0) (mC (.int 0))) (Ac))) (Ac))))))
noncomputable def K9:List D→HD→Out D:=Bg 2 2 SV
abbrev SW:Stmt:=Bi 40
noncomputable abbrev SY:MS:=Ai (As 3 (Af Bu (Aa (Ab 0) (Aa (mC (.int 5)) (Ac))))) (Ai (As 4 (Af K4 (Aa (Ab 0) (Ac)))) (Ai (As 5 (Ae Ao (AB (Aa (mC (.int 3)) (Aa (mC (.int 1)) (Aa (mC (.int 5)) (Aa (mC (.int 3)) (Aa (mC (.int 2)) (Ac))))))) (Ab 3))) (Ai (As 6 (AB (Ac))) (Ai (BQ (B5 (Aa (Ab 1) (Ac))) (AQ 7) (Cs (DD (Ab 6) (Af (An CW) (Aa (A6 [none,some 4,some 5] (B5 (Aa (Ab 2) (Ac))) (AQ 0) (Bl) (Af (An Ic) (Aa (Ae EN (Af Bu (Aa (Ab 1) (Aa (mC (.int 6)) (Ac)))) (Ab 2)) (Ac)))) (Ac)))))) (Ai (A5 (A2 (Ae CK (Ab 3) (mC (.int 3)))) (As 6 (Ae Ce (AB (Aa (Ae Ao (Ab 6) (mC (.int 0))) (Ac))) (Ab 1))) (Bd)) (AE (Af (An CW) (Aa (Ab 6) (Ac)))))))))
noncomputable def La:List D→HD→Out D:=Bg 3 8 SY
abbrev SZ:Stmt:=Bi 44
noncomputable abbrev NU:MS:=Ai (A5 (Ca (BG (Bz (Af (A4 AG) (Aa (Ab 1) (Aa (mC (.ty "list")) (Ac)))))) (A2 (Ae (CO not) (A6 [none,some 0] (BK (Ab 1)) (AQ 0) (BG (Bz (Af K6 (Aa (Ab 1) (Aa (Ab 0) (Ac)))))) (Ab 0)) (AB (Ac))))) (AE (mC .non)) (Bd)) (Ai (As 2 (AB (Ac))) (Ai (BQ (BK (Ab 1)) (AQ 3) (As 2 (Ae Am (Ab 2) (Af FM (Aa (Ab 3) (Ac)))))) (AE (JW (A2 (Ae CK (KV (Ab 2)) (Af (An AO) (Aa (Ab 2) (Ac))))) (Af (An AO) (Aa (Ab 1) (Ac))) (mC .non)))))
noncomputable def Ho:List D→HD→Out D:=Bg 2 4 NU
abbrev Ta:Stmt:=Bi 18
noncomputable abbrev Tb:MS:=AE (EL (Af Hk (Aa (Ab 0) (Ac))) (Af (An DU) (Aa (A6 [none] (BK (Ab 0)) (AQ 0) (Bl) (Af K8 (Aa (Ab 0) (Ac)))) (Ac))))
noncomputable def Lb:List D→HD→Out D:=Bg 1 1 Tb
abbrev Tc:Stmt:=Bi 19
noncomputable abbrev Td:MS:=Ai (A5 (Ca (BG (Bz (Af Hk (Aa (Ab 0) (Ac))))) (BG (Bz (Af (An DU) (Aa (A6 [none] (BK (Ab 0)) (AQ 0) (Bl) (Af Lb (Aa (Ab 0) (Ac)))) (Ac)))))) (AE (mC (.bl false))) (Bd)) (AE (Af (An DU) (Aa (A6 [none,some 0] (BK (Ab 0)) (AQ 0) (Bl) (Ae CK (Af (An AO) (Aa (Ab 0) (Ac))) (Af (An AO) (Aa (Ae Ao (Ab 1) (mC (.int 0))) (Ac))))) (Ac))))
noncomputable def Lc:List D→HD→Out D:=Bg 1 1 Td
abbrev Te:Stmt:=Bi 20
noncomputable abbrev NV:MS:=A5 (BG (Bz (Af Lc (Aa (Ab 0) (Ac))))) (Il "NoBoard" (Aa (mC (.str "this is no board")) (Ac))) (Bd)
noncomputable def FN:List D→HD→Out D:=Bg 1 1 NV
abbrev Tf:Stmt:=Bi 25
noncomputable abbrev NW:MS:=Ai (Cs (Af FN (Aa (Ab 0) (Ac)))) (AE (A6 [none,some 0] (BK (Af KY (Aa (Ab 0) (Ac)))) (AQ 0) (Bz (Af Hl (Aa (Ab 1) (Aa (Ab 0) (Ac))))) (Ab 0)))
noncomputable def IQ:List D→HD→Out D:=Bg 1 1 NW
abbrev Tg:Stmt:=Bi 30
noncomputable abbrev Ld:MS:=Ai (Cs (Af FN (Aa (Ab 0) (Ac)))) (Ai (A5 (BG (Bz (Af (A4 AG) (Aa (Ab 1) (Aa (mC (.ty "list")) (Ac)))))) (AE (mC .non)) (Bd)) (Ai (As 2 (AB (Ac))) (Ai (BQ (BK (Ab 1)) (AQ 3) (Ai (A5 (Ca (BG (Bz (Af K9 (Aa (Ab 0) (Aa (Ab 3) (Ac)))))) (Ca (BG (Bz (Af Hl (Aa (Ab 0) (Aa (Ab 3) (Ac)))))) (BG (Bz (Af Hm (Aa (Ab 3) (Aa (Ab 2) (Ac)))))))) (AE (mC .non)) (Bd)) (Cs (DD (Ab 2) (Ab 3))))) (AE (Af (An AO) (Aa (Ab 2) (Ac)))))))
noncomputable def E9:List D→HD→Out D:=Bg 2 4 Ld
abbrev Ti:Stmt:=Bi 31
noncomputable abbrev NX:MS:=Ai (As 1 (AB (Ac))) (Ai (BQ (BK (Af IQ (Aa (Ab 0) (Ac)))) (AQ 2) (A5 (Bz (Af Hm (Aa (Ab 2) (Aa (Ab 1) (Ac))))) (Cs (DD (Ab 1) (Ab 2))) (Bd))) (AE (Ab 1)))
noncomputable def Gy:List D→HD→Out D:=Bg 1 3 NX
abbrev s_law:Stmt:=Bi 48
noncomputable abbrev NY:MS:=Ai (BQ (B5 (Aa (Af (A4 Ia) (Aa (mC (.int 1)) (Aa (Af (A4 Ib) (Aa (Af (An AO) (Aa (Ab 0) (Ac))) (Aa (mC (.int 4)) (Ac)))) (Ac)))) (Ac))) (AQ 1) (Ai (As 2 (Af K3 (Aa (Ab 0) (Aa (Ab 1) (Ac))))) (Ai (Gb 3 4 (Aa (Ae Am (mC (.int 2)) (Af Bu (Aa (Ab 2) (Aa (mC (.int 7)) (Ac))))) (Aa (Ae Am (mC (.int 2)) (Af Bu (Aa (Ab 2) (Aa (mC (.int 7)) (Ac))))) (Ac)))) (Ai (As 5 (Af La (Aa (Ab 2) (Aa (Ab 3) (Aa (Ab 4) (Ac)))))) (Ai (As 6 (Af K2 (Aa (Ab 5) (Ac)))) (Ai (BQ (B5 (Aa (mC (.int 2)) (Ac))) (AQ 7) (Ai (As 8 (Af Gy (Aa (Ab 5) (Ac)))) (Ai (A5 (A2 (Ae BU (Af (An BM) (Aa (Ab 8) (Ac))) (Af (An BM) (Aa (Af Hn (Aa (Ab 6) (Ac))) (Ac))))) (AE (mC (.bl false))) (Bd)) (Cs (DD (Ab 8) (mC .non)))))) (Ai (EU (E4 [9,10]) (AW (Aa (Af (An listOfD) (Aa (Ab 6) (Ac))) (Aa (AB (Ac)) (Ac))))) (Ai (Ip (HU (A2 (Ae (CO not) (Ab 9) (AB (Ac)))) (A2 (Ae EN (Af (An AO) (Aa (Ab 10) (Ac))) (mC (.int 9))))) (Ai (As 11 (Ei Cb FK (Ab 9) (Af Bu (Aa (Ab 2) (Aa (Af (An AO) (Aa (Ab 9) (Ac))) (Ac)))))) (A5 (A2 (Ae CK (Af Hn (Aa (Ae Am (Ab 10) (AB (Aa (Ab 11) (Ac)))) (Ac))) (Ae Am (Ab 10) (AB (Aa (Ab 11) (Ac)))))) (Cs (DD (Ab 10) (Ab 11))) (Bd)))) (Ai (As 12 (AB (Aa (Ab 10) (Aa (AB (Ac)) (Aa (BB (Ab 6) (AX) (AM (mC (.int 2)))) (Aa (Ae Am (BB (Ab 6) (AX) (AM (mC (.int 1)))) (AB (Aa (AW (Aa (mC (.int 0)) (Aa (mC (.int 1)) (Aa (mC (.int 0)) (Aa (mC (.int 1)) (Ac)))))) (Ac)))) (Ac))))))) (Ai (A5 (A2 (Ae (CO not) (Ab 10) (AB (Ac)))) (As 12 (Ae Am (Ab 12) (A6 [none,some 2,some 5,some 10] (B5 (Aa (mC (.int 5)) (Ac))) (AQ 0) (Bl) (Af K7 (Aa (Ab 1) (Aa (Ab 2) (Aa (Ab 3) (Ac)))))))) (Bd)) (Ai (BQ (BK (Ab 12)) (AQ 13) (Ai (As 14 (Af (An BM) (Aa (Ab 13) (Ac)))) (Ai (As 15 (Af Ho (Aa (Ab 5) (Aa (Ab 13) (Ac))))) (A5 (Ca (A2 (Ae BU (Af (An BM) (Aa (Af E9 (Aa (Ab 5) (Aa (Ab 13) (Ac)))) (Ac))) (Af (An BM) (Aa (Ab 15) (Ac))))) (A2 (Ae BU (Af (An BM) (Aa (Ab 13) (Ac))) (Ab 14)))) (AE (mC (.bl false))) (Bd))))) (Ai (As 16 (Af K5 (Aa (Ab 2) (Aa (Ab 5) (Ac))))) (Ai (A5 (A2 (Ae BU (He [16] FL (Af Gy (Aa (Ab 0) (Ac)))) (mC (.str "! board")))) (AE (mC (.bl false))) (Bd)) (A5 (A2 (Ae BU (He [16,10] FL (Af E9 (Aa (Ab 0) (Aa (Ab 1) (Ac))))) (mC (.str "! board")))) (AE (mC (.bl false))) (Bd))))))))))))))) (AE (mC (.bl true)))
noncomputable def F_law:List D→HD→Out D:=Bg 1 17 NY
end LK
set_option maxHeartbeats 0
namespace LK
open PySem PySem.Spec PyProof.Rows L2 LS
def want:Tp.Want:=⟨[(("is_whole":Str),R5),(("is_line_tuple":Str),R7),(("all_fours":Str),R9),(("is_odd_four":Str),Sb),(("have_common_light":Str),Sg),(("_law_cell":Str),Si),(("_law_mix":Str),Sj),(("_law_take":Str),Sl),(("_law_kind":Str),So),(("_law_lights":Str),Sr),(("_law_fours":Str),Su),(("is_between":Str),Sx),(("is_lot":Str),Sy),(("is_apart":Str),SA),(("_law_box":Str),SC),(("_law_wide_box":Str),SE),(("_law_no_board":Str),SG),(("_law_is_odd":Str),SI),(("_law_taken":Str),SK),(("_law_spoilt":Str),SM),(("is_light":Str),SQ),(("is_four":Str),SU),(("_law_board":Str),SW),(("_law_shown":Str),SZ),(("is_row":Str),Ta),(("is_board":Str),Tc),(("need_board":Str),Te),(("odd_fours":Str),Tf),(("floor_shown":Str),Tg),(("floor_fours":Str),Ti),(("law":Str),s_law),(("_law_said":Str),NR)],[(("MOST_LINES":Str),(8:Int))],["ValueError","all","any","bool","dict","divmod","int","isinstance","len","list","max","min","range","repr","set","sum","tuple","zip"]⟩
def Tj (K:PySem.W.Frag):Bool:=LS.sysIn K
end LK
namespace LK
open PySem PySem.W
abbrev top_q:Program:=view PySem.Challenge.pw_lineswitch_k43_floor_papers [48]
abbrev top_loose:List Str:=(PySem.Challenge.pw_lineswitch_k43_floor_papers.main.scope.names.map (·.1)).filter fun x=>!(x=="law")
set_option maxHeartbeats 0 in
theorem top_left:LeftO PySem.Challenge.pw_lineswitch_k43_floor_papers top_q top_loose (fun _=>true) (Tp.obsX want Tj) (fun _=>Tp.valX want) 1000000:=
 Tp.left_of (n:=14) (by kernel_rfl) (fun s=>by kernel_rfl) (fun w=>by kernel_rfl) (fun w os=>by
  rw [PySem.W.Fast.te10156331382660048174,PySem.W.Fast.te11892475500146522536,PySem.W.Fast.te14364793385576792824,PySem.W.Fast.te10110043849684766642,PySem.W.Fast.te6613529449190102663,PySem.W.Fast.te4187177175401517315,PySem.W.Fast.te5923862056798008813]
  kernel_rfl)
end LK
namespace LK
open PySem PySem.Spec PyProof.Rows L2 LS
theorem _root_.LS.Sm.len {h h':HD} (s:Sm h h'):h.length≤h'.length:=by
 cases e:h.length with
 |zero=>exact B8 _
 |succ n=>
  have hn:n<h.length:=by omega
  have:=s n h[n] (AR hn);have:=(qa1.mp this).1;omega
theorem sz {n:Nat} (hn:n≤8):(List.range n).length≤sizeLine:=by rw [FV];unfold sizeLine;omega
open PySem.Builtin.Int in
theorem Zb2 {ns:List Int} {k:Nat} (hb:∀i∈ns,Builtin.Int.intBits i≤2^20) (hk:k≤1000):∃c:Int,Builtin.Int.intBits c≤2^20∧∀h,Pu (K0 [.scr ns,.int (k:Nat)] h) h (.int c):=by
 by_cases hl:k<ns.length
 ·refine ⟨ns[k],hb _ (Dh hl),fun h=>?_⟩;change Wp (AL 2 NS [.scr ns,.int (k:Nat)] h) _;refine Eq.mpr (A9) ?_;have:(k:Int)<ns.length:=by omega
  simp [this];refine Al (Yv (AR hl)) ?_;simp [Sm.refl]
 ·refine ⟨6151*(k:Int)+29,?_,fun h=>?_⟩
  ·rw [intBits_le_iff];have h1:(6151*(k:Int)+29).natAbs<2^30:=by omega
   exact AU h1 (Nat.pow_le_pow_right (by decide) (by omega))
  ·change Wp (AL 2 NS [.scr ns,.int (k:Nat)] h) _;refine Eq.mpr (A9) ?_;have:¬(k:Int)<ns.length:=by omega
   simp [this];rw [MK (by decide) (by decide)];simp [Sm.refl]
def Tn (c:Int) (k:Nat):Int:=(((c+1)*40692+104729*(k:Int))*((c+1)*40692+104729*(k:Int))) % 2147483399+(k:Int)
theorem To:GR [.int 24] h=.ok ((List.range 24).map fun k=>D.int ((k:Nat):Int),[]) h:=Ee (n:=24) (by decide)
theorem Zb3 {c:Int} {k:Nat} (hc:Builtin.Int.intBits c≤2^20) (hk:k≤1000):∃r:Int,∀h,Pu (K1 [.int c,.int (k:Nat)] h) h (.int r):=by
 refine ⟨Tn c k*(Tn c k+31) % 2147483563,fun h=>?_⟩;change Wp (AL 3 Sk [.int c,.int (k:Nat)] h) _;refine Eq.mpr (A9) ?_;have bX:Builtin.Int.intBits ((c+1)*40692+104729*(k:Int))≤16777216:=by have hk':Builtin.Int.intBits ((k:Nat):Int)≤10:=PySem.intBits_le_iff.mpr (by omega);have:=PySem.intBits_add_le (PySem.intBits_mul_le (PySem.intBits_add_le hc (show Builtin.Int.intBits 1≤1 by decide)) (show Builtin.Int.intBits 40692≤16 by decide)) (PySem.intBits_mul_le (show Builtin.Int.intBits 104729≤17 by decide) hk');exact Br this (by decide)
 have h1:=Int.emod_nonneg (((c+1)*40692+104729*(k:Int))*((c+1)*40692+104729*(k:Int))) (show (2147483399:Int)≠0 by decide);have h2:=Int.emod_lt_of_pos (((c+1)*40692+104729*(k:Int))*((c+1)*40692+104729*(k:Int))) (show (0:Int)<2147483399 by decide);simp;rw [Ke (by decide) (by decide)];simp;rw [MK (by decide) (by decide)];simp;rw [Yy bX bX];simp;rw [Gg (by decide)];simp;rw [MK (by omega) (by omega)];simp;rw [Gg (by decide)];simp;exact ⟨rfl,.refl _⟩
def BoxAt (h:HD) (b:Nat):Prop:=∃n:Int,h[b]?=some (.lst [.int n])
inductive Tq (ns:List Int) (k:Nat) (c:Int) (h:HD) (xs:List Nat) (ρ:Ag) (h':HD):Prop where
 |mk (N:Int) (x:Option D) (f0:ρ=[some (.scr ns),some (.int (k:Nat)),some (.int c),some (.int N),x]) (f1:Sm h h') (f2:∀j∈xs,j<24):Tq ns k c h xs ρ h'
theorem Zb4 {ns:List Int} {k:Nat} {h:HD} {Q:D→HD→Prop} (hb:∀i∈ns,Builtin.Int.intBits i≤2^20) (hk:k≤1000) (q:∀l h',BoxAt h' l→h.length≤l→Sm h h'→Q (.loc l) h'):Wp (K3 [.scr ns,.int (k:Nat)] h) Q:=by
 change Wp (AL 5 (SD) [.scr ns,.int (k:Nat)] h) _;refine Eq.mpr (A9) ?_;obtain ⟨c,bc,pc⟩:=Zb2 (k:=k) hb hk;simp;refine (pc h).wp fun h1 s1=>?_;rw [Gg (by decide)];simp
 by_cases hz:c % 2=0
 ·simp [hz];rw [Yz (by decide) (by decide)];simp;exact Av (by simp) fun l h' s e el _=>q l h' ⟨_,e⟩ (by have:=s1.len;omega) (s1.trans s)
 ·simp [hz];refine CI (src:=[]) (xs:=List.range 24) (fun i=>.int ((i:Nat):Int)) (Tq ns k c h) ?_ (fun ys ρ h' _=>Dk) ?_ ?_
  ·simp [To];exact ⟨_,_,rfl,s1,fun j hj=>qaZ.mp hj⟩
  ·rintro x xs ρ h' ⟨N,y,rfl,sh,hx⟩;refine ⟨_,rfl,?_⟩;obtain ⟨m,pm⟩:=Zb3 (k:=x) bc (by have:=hx x AK;omega);simp;rw [Ke (by decide) (by decide)];simp;refine (pm h').wp fun h2 s2=>?_;simp [BD];exact ⟨_,_,rfl,sh.trans s2,fun j hj=>hx j (AN _ hj)⟩
  ·rintro ρ h' ⟨N,y,rfl,sh,_⟩;simp;exact Av (by simp) fun l h' s e el _=>q l h' ⟨_,e⟩ (by have:=sh.len;omega) (sh.trans s)
def Smx (b:Nat) (h h':HD):Prop:=∀(l:Nat) (c:Cell),l≠b→h[l]?=some c→h'[l]?=some c
theorem Smx.refl (b:Nat) (h:HD):Smx b h h:=fun _ _ _ e=>e
theorem Smx.trans {b:Nat} (a:Smx b h h1) (c:Smx b h1 h2):Smx b h h2:=fun l x n e=>c l x n (a l x n e)
theorem BV {b:Nat} (s:Sm h h'):Smx b h h':=fun l c _ e=>s l c e
theorem Le {b:Nat} {m:Int} {Q:D→HD→Prop} (hx:BoxAt h b) (h1:0<m) (h2:m<18446744073709551616) (q:∀d h',0≤d→d<m→BoxAt h' b→Smx b h h'→Q (.int d) h'):Wp (Bu [.loc b,.int m] h) Q:=by change Wp (AL 4 Sn [.loc b,.int m] h) _;refine Eq.mpr (A9) ?_;obtain ⟨N,e⟩:=hx;simp;rw [show (0:Int)=((0:Nat):Int) from rfl];refine Al (EZ e (k:=0) rfl) ?_;simp;refine Al (YA h1 h2) ?_;simp;rw [show (0:Int)=((0:Nat):Int) from rfl];refine Al (Yw e (by simp)) ?_;simp;have hl:b<h.length:=(qa1.mp e).1;refine q _ _ (Int.emod_nonneg _ (by omega)) (Int.emod_lt_of_pos _ h1) ⟨_,by rw [BZ hl]⟩ fun l c ne el=>?_;rw [Be (Ne.symm ne)];exact el
theorem BoxAt.sm {b:Nat} (x:BoxAt h b) (s:Sm h h'):BoxAt h' b:=let ⟨n,e⟩:=x;⟨n,s _ _ e⟩
theorem BoxAt.smx {a b:Nat} (x:BoxAt h b) (s:Smx a h h') (ne:b≠a):BoxAt h' b:=let ⟨n,e⟩:=x;⟨n,s _ _ ne e⟩
theorem BoxAt.new {b:Nat} {c:Cell} (x:BoxAt h b):BoxAt (h++[c]) b:=x.sm (.app _ _)
def Plain (h:HD):D→Prop
 |.int _=>True
 |.bl _=>True
 |.non=>True
 |.str _=>True
 |.tup _=>True
 |.edic=>True
 |.loc l=>∃ds,h[l]?=some (.lst ds)
 |_=>False
theorem Plain.sm (p:Plain h d) (s:Sm h h'):Plain h' d:=by
 cases d with
 |loc l=>obtain ⟨ds,e⟩:=p;exact ⟨ds,s _ _ e⟩
 |_=>exact p
def AS:D→List D
 |.tup ds=>ds
 |_=>[]
def Plain2 (h:HD) (d:D):Prop:=Plain h d∧∀x∈AS d,Plain h x
def Plain3 (h:HD) (d:D):Prop:=Plain h d∧∀x∈AS d,Plain2 h x
theorem Plain2.sm (p:Plain2 h d) (s:Sm h h'):Plain2 h' d:=⟨p.1.sm s,fun x hx=>(p.2 x hx).sm s⟩
theorem Plain3.sm (p:Plain3 h d) (s:Sm h h'):Plain3 h' d:=⟨p.1.sm s,fun x hx=>(p.2 x hx).sm s⟩
def Ew:D→Bool
 |.int i=>decide (0≤i)&&decide (i≤1)
 |_=>false
def BW:D→Bool
 |.tup ds=>decide (1≤ds.length)&&decide (ds.length≤8)
 |_=>false
def BH (d:D):Bool:=BW d&&(AS d).all Ew
def Dq (d:D):Nat:=(AS d).length
def Cf (d:D):Bool:=BW d&&(AS d).all BH&&(AS d).all fun x=>Dq x==Dq ((AS d).getD 0 .non)
theorem p_is_between_int {i a b:Int}:Pu (IK [.int i,.int a,.int b] h) h (.bl (decide (a≤i)&&decide (i≤b))):=by
 change Wp (AL 3 (NT) [.int i,.int a,.int b] h) _;refine Eq.mpr (A9) ?_;have e:E8 [.int i] h=.ok (.bl true) h:=rfl;simp [e]
 by_cases h1:a≤i<;>simp [h1,AA,Sm.refl]
theorem Zb5 {d:D} {a b:Int} (e:E8 [d] h=.ok (.bl false) h):Pu (IK [d,.int a,.int b] h) h (.bl false):=by change Wp (AL 3 (NT) [d,.int a,.int b] h) _;refine Eq.mpr (A9) ?_;simp [e,Sm.refl]
def IS:D→Bool
 |.int _=>true
 |_=>false
theorem Tr (p:Plain h d):E8 [d] h=.ok (.bl (IS d)) h:=by
 cases d with
 |loc l=>
  obtain ⟨ds,e⟩:=p;have i1:AG (.loc l) (.ty "int") h=.ok (.bl false) h:=QG e;have w:Wp (AL 1 R6 [.loc l] h) fun d h'=>d=.bl false∧h'=h:=by refine Eq.mpr A9 ?_;simp [-Iw,i1]
  obtain ⟨a,h',e',rfl,rfl⟩:=Wp.ex w;exact e'
 |tup ds=>rfl
 |int i=>rfl
 |bl b=>rfl
 |non=>rfl
 |str x=>rfl
 |edic=>rfl
 |_=>exact p.elim
theorem Tt (h:IS d=true):∃i,d=.int i:=by cases d<;>first |exact ⟨_,rfl⟩ |cases h
theorem Zb6 (p:Plain h d):Pu (K8 [d] h) h (.bl (Ew d)):=by
 change Wp (AL 1 (SS) [d] h) _;refine Eq.mpr A9 ?_;simp;cases hw:IS d with
 |true=>obtain ⟨i,rfl⟩:=Tt hw;exact p_is_between_int.wp fun h' s=>⟨rfl,s⟩
 |false=>
  have e:=Tr p;rw [hw] at e;have e2:Ew d=false:=by cases d<;>first |rfl |cases hw
  exact (Zb5 e).wp fun h' s=>⟨by rw [e2],s⟩
def Gz:D→Bool
 |.tup _=>true
 |_=>false
theorem Lg (p:Plain h d):AG d (.ty "tuple") h=.ok (.bl (Gz d)) h:=by
 cases d with
 |loc l=>obtain ⟨ds,e⟩:=p;exact Z6 e
 |tup ds=>rfl
 |int i=>rfl
 |bl b=>rfl
 |non=>rfl
 |str x=>rfl
 |edic=>rfl
 |_=>exact p.elim
theorem Lh (h:Gz d=true):∃ds,d=.tup ds:=by cases d<;>first |exact ⟨_,rfl⟩ |cases h
theorem Tu (p:Plain h d):Pu (Hk [d] h) h (.bl (BW d)):=by
 change Wp (AL 1 R8 [d] h) _;refine Eq.mpr A9 ?_;cases hT:Gz d with
 |true=>
  obtain ⟨ds,rfl⟩:=Lh hT;have a1:(1:Int)≤ds.length↔1≤ds.length:=by omega
  have a2:(ds.length:Int)≤8↔ds.length≤8:=by omega
  by_cases h1:1≤ds.length
  ·by_cases h2:ds.length≤8
   ·simp [a1.mpr h1,a2.mpr h2,AA,Sm.refl,BW,h1,h2]
   ·have b2:¬(ds.length:Int)≤8:=by omega
    simp [a1.mpr h1,b2,AA,Sm.refl,BW,h1,h2]
  ·have b1:¬(1:Int)≤ds.length:=by omega
   simp [b1,AA,Sm.refl,BW,h1]
 |false=>
  have:BW d=false:=by cases d<;>first |rfl |cases hT
  simp [Lg p,hT,this,Sm.refl]
theorem NZ (h:BW d=true):∃ds,d=.tup ds∧1≤ds.length∧ds.length≤8:=by
 cases d with
 |tup ds=>exact ⟨ds,rfl,by simpa [BW] using h⟩
 |_=>cases h
theorem Zb7 (p:Plain2 h d):Pu (Lb [d] h) h (.bl (BH d)):=by
 change Wp (AL 1 (Tb) [d] h) _;refine Eq.mpr (A9) ?_;simp;refine (Tu p.1).wp fun h1 s1=>?_;cases hl:BW d with
 |false=>simp [BH,hl,s1]
 |true=>
  obtain ⟨ds,rfl,l1,l2⟩:=NZ hl;simp;refine Pu.wp (MF (src:=[]) (xs:=ds) (φ:=fun x=>x) Ew (fun x=>[some x]) (by rw [List.map_id'];exact MH) (fun x _=>rfl) (fun x hx h' s'=>?_) (by unfold sizeLine;omega)) fun h2 s2=>?_
  ·simp [Pu];exact Zb6 ((p.2 x hx).sm (s1.trans s'))
  ·simp [BH,hl,AS,s1.trans s2]
theorem Tv {d:D} (hl:BW d=true):AO d h=.ok (.int (Dq d:Nat)) h:=by obtain ⟨ds,rfl,_,_⟩:=NZ hl;simp [Dq,AS]
theorem Tw (h:BH d=true):BW d=true:=by unfold BH at h;exact (Bool.and_eq_true_iff.mp h).1
theorem Tx (p:Plain3 h d):Pu (Lc [d] h) h (.bl (Cf d)):=by
 change Wp (AL 1 (Td) [d] h) _;refine Eq.mpr (A9) ?_;simp;refine (Tu p.1).wp fun h1 s1=>?_;cases hl:BW d with
 |false=>simp [Cf,hl,s1]
 |true=>
  obtain ⟨ds,rfl,l1,l2⟩:=NZ hl;simp;refine Pu.wp (MF (src:=[]) (xs:=ds) (φ:=fun x=>x) BH (fun x=>[some x]) (by rw [List.map_id'];exact MH) (fun x _=>rfl) (fun x hx h' s'=>?_) (by unfold sizeLine;omega)) fun h2 s2=>?_
  ·simp [Pu];exact Zb7 ((p.2 x hx).sm (s1.trans s'))
  ·cases ha:ds.all BH with
   |false=>simp [Cf,hl,AS,ha,s1.trans s2]
   |true=>
    simp;have hr:∀x∈ds,BH x=true:=fun x hx=>qaQ.mp ha x hx;obtain ⟨d0,rest,rfl⟩:∃d0 rest,ds=d0::rest:=by
     cases ds with
     |nil=>simp at l1
     |cons a r=>exact ⟨a,r,rfl⟩
    refine Pu.wp (MF (src:=[]) (xs:=d0::rest) (φ:=fun x=>x) (fun x=>Dq x==Dq d0) (fun x=>[some x,some (.tup (d0::rest))]) (by rw [List.map_id'];exact MH) (fun x _=>rfl) (fun x hx h' s'=>?_) (by unfold sizeLine;omega)) fun h3 s3=>?_
    ·simp [Pu];rw [Tv (Tw (hr x hx))];simp;rw [show (0:Int)=((0:Nat):Int) from rfl];refine Al (ix_tup (k:=0) rfl) ?_;simp;rw [Tv (Tw (hr d0 AK))];simp [Sm.refl];rw [qb0];simp;omega
    ·have:(d0::rest).all BH=true:=ha;simp only [Cf,hl,AS,this,Bool.true_and];refine ⟨?_,(s1.trans s2).trans s3⟩;simp
theorem Zb8 (p:Plain3 h d) (hb:Cf d=true):Pu (FN [d] h) h .non:=by change Wp (AL 1 (NV) [d] h) _;refine Eq.mpr (A9) ?_;simp;refine (Tx p).wp fun h1 s1=>?_;simp [hb,s1]
theorem Tz (p:Plain3 h d) (hb:Cf d=false):Er (FN [d] h) h "NoBoard":=by change We (AL 1 (NV) [d] h) _ _;refine Eq.mpr (Kv) ?_;simp;refine (Tx p).we fun h1 s1=>?_;simp [hb,s1,E1]
def lit (x:Bool):D:=.int (if x then 1 else 0)
def Bb (w:Nat) (f:Nat→Bool):D:=.tup ((List.range w).map fun j=>lit (f j))
def bD (h w:Nat) (f:Nat→Nat→Bool):D:=.tup ((List.range h).map fun i=>Bb w (f i))
section
variable {H W:Nat} {h:HD} {f:Nat→Nat→Bool} {r:Nat→Bool}
theorem Zb9 {x:Bool}:Ew (lit x)=true:=by cases x<;>rfl
theorem Lj:Plain2 h (Bb W r):=⟨trivial,fun x hx=>by simp only [Bb,AS,qaI] at hx;obtain ⟨j,_,rfl⟩:=hx;exact trivial⟩
theorem Zca:Plain3 h (bD H W f):=⟨trivial,fun x hx=>by simp only [bD,AS,qaI] at hx;obtain ⟨j,_,rfl⟩:=hx;exact Lj⟩
theorem TB {ds:List D} (h1:1≤ds.length) (h2:ds.length≤8):BW (.tup ds)=true:=by simp [BW,h1,h2]
theorem Zcb (hw:1≤W∧W≤8):BH (Bb W r)=true:=by unfold BH;rw [B3];refine ⟨TB (by simp;omega) (by simp;omega),qaQ.mpr fun x hx=>?_⟩;simp only [Bb,AS,qaI] at hx;obtain ⟨j,_,rfl⟩:=hx;exact Zb9
theorem Lk:Dq (Bb W r)=W:=by simp [Dq,Bb,AS]
theorem Zcc (hh:1≤H∧H≤8) (hw:1≤W∧W≤8):Cf (bD H W f)=true:=by
 unfold Cf;rw [B3,B3];refine ⟨⟨TB (by simp;omega) (by simp;omega),qaQ.mpr fun x hx=>?_⟩,qaQ.mpr fun x hx=>?_⟩
 ·simp only [bD,AS,qaI] at hx;obtain ⟨j,_,rfl⟩:=hx;exact Zcb hw
 ·simp only [bD,AS,qaI] at hx ⊢;obtain ⟨j,_,rfl⟩:=hx;have:((List.range H).map fun i=>Bb W (f i)).getD 0 .non=Bb W (f 0):=by rw [DM,BO,Hz (by omega)];rfl
  rw [this,Lk,Lk];simp
theorem N0 (hh:1≤H∧H≤8) (hw:1≤W∧W≤8):Pu (FN [bD H W f] h) h .non:=Zb8 Zca (Zcc hh hw)
end
section
variable {h:HD}
theorem TC:HY (.int 10) (.int 29) h=.ok (.int (10^29)) h:=by simp only [HY,LS.intD];rw [if_pos (by decide)];rfl
variable {H W:Nat} {f:Nat→Nat→Bool} {r:Nat→Bool}
theorem FO:AO (bD H W f) h=.ok (.int (H:Nat)) h:=by simp [bD]
theorem Ll:AO (Bb W r) h=.ok (.int (W:Nat)) h:=by simp [Bb]
theorem GA {k:Nat} (hk:k<H):Ao (bD H W f) (.int (k:Nat)) h=.ok (Bb W (f k)) h:=MC hk
theorem IT (hk:1≤H):Ao (bD H W f) (.int 0) h=.ok (Bb W (f 0)) h:=Yu (by omega)
def NoRowD (h:HD) (H W:Nat) (x:D):Prop:=Plain2 h x∧(BH x=false∨(1<H∧Dq x≠W))
def Cz (H W:Nat) (f:Nat→Nat→Bool) (A:Nat) (x:D):D:=.tup (((List.range H).map fun i=>Bb W (f i)).take A++[x]++((List.range H).map fun i=>Bb W (f i)).drop (A+1))
theorem Zcd {A:Nat} (hy:y∈AS (Cz H W f A x)):y=x∨∃i,y=Bb W (f i):=by
 simp only [Cz,AS,DY,qaP,qa5,Bw,or_false] at hy;rcases hy with hy |hy |hy
 ·have:=EB hy;simp at this;obtain ⟨i,_,rfl⟩:=this;exact .inr ⟨i,rfl⟩
 ·exact .inl hy
 ·have:=FS hy;simp at this;obtain ⟨i,_,rfl⟩:=this;exact .inr ⟨i,rfl⟩
theorem Zce {A:Nat} (hx:Plain2 h x):Plain3 h (Cz H W f A x):=⟨trivial,fun y hy=>by
 rcases Zcd hy with rfl |⟨i,rfl⟩
 ·exact hx
 ·exact Lj⟩
theorem Zcf {A:Nat} (hA:A<H) (hx:NoRowD h H W x):Cf (Cz H W f A x)=false:=by
 have hm:x∈AS (Cz H W f A x):=by simp [Cz,AS]
 rcases hx.2 with hr |⟨h1,hl⟩
 ·unfold Cf;rw [show (AS (Cz H W f A x)).all BH=false from by rw [HB];exact ⟨x,hm,by rw [hr];simp⟩]
  simp
 ·unfold Cf;rw [show ((AS (Cz H W f A x)).all fun y=>Dq y==Dq ((AS (Cz H W f A x)).getD 0 .non))=false from ?_]
  ·simp
  rw [HB];have lenA:(((List.range H).map fun i=>Bb W (f i)).take A).length=A:=by simp;omega
  by_cases hA0:A=0
  ·subst hA0;have e0:(AS (Cz H W f 0 x)).getD 0 .non=x:=by simp [Cz,AS]
   rw [e0];have h2:((List.range H).map fun i=>Bb W (f i)).drop 1≠[]:=by intro z;have:=congrArg List.length z;simp at this;omega
   obtain ⟨y,hy⟩:=List.exists_mem_of_ne_nil _ h2;refine ⟨y,by simp only [Cz,AS];exact qaP.mpr (.inr hy),?_⟩;have:=FS hy;simp at this;obtain ⟨i,_,rfl⟩:=this;rw [Lk];simpa using fun z=>hl z.symm
  ·have e0:(AS (Cz H W f A x)).getD 0 .non=Bb W (f 0):=by simp only [Cz,AS,DY];rw [DM,EA (by rw [lenA];omega),List.getElem?_take,if_pos (by omega),BO,Hz (by omega)];rfl
   rw [e0,Lk];exact ⟨x,hm,by simpa using hl⟩
theorem N1 (hx:x∈ds) (hr:BH x=false):Cf (.tup ds)=false:=by
 unfold Cf;rw [show (AS (.tup ds)).all BH=false from by rw [HB];exact ⟨x,hx,by rw [hr];simp⟩]
 simp
theorem TF (hl:BW d=false):Cf d=false:=by unfold Cf;rw [hl];simp
theorem Zcg (hh:1≤H):BH (bD H W f)=false:=by
 unfold BH;rw [show (AS (bD H W f)).all Ew=false from by rw [HB];exact ⟨Bb W (f 0),by simp [bD,AS];exact ⟨0,by omega,rfl⟩,by simp [Bb,Ew]⟩]
 simp
theorem Zch (hw:1≤W):Cf (Bb W r)=false:=N1 (x:=lit (r 0)) (by simp;exact ⟨0,by omega,rfl⟩) (by simp [BH,lit,BW])
def NoB (h:HD) (d:D):Prop:=Plain3 h d∧Cf d=false
theorem NoB.sm (n:NoB h d) (s:Sm h h'):NoB h' d:=⟨n.1.sm s,n.2⟩
end
theorem Plain.smx {b:Nat} (p:Plain h d) (s:Smx b h h') (x:BoxAt h' b):Plain h' d:=by
 cases d with
 |loc l=>
  obtain ⟨ds,e⟩:=p
  by_cases hl:l=b
  ·obtain ⟨n,e'⟩:=x;exact ⟨_,hl ▸ e'⟩
  ·exact ⟨ds,s _ _ hl e⟩
 |_=>exact p
theorem Plain2.smx {b:Nat} (p:Plain2 h d) (s:Smx b h h') (x:BoxAt h' b):Plain2 h' d:=⟨p.1.smx s x,fun y hy=>(p.2 y hy).smx s x⟩
theorem Plain3.smx {b:Nat} (p:Plain3 h d) (s:Smx b h h') (x:BoxAt h' b):Plain3 h' d:=⟨p.1.smx s x,fun y hy=>(p.2 y hy).smx s x⟩
theorem NoB.smx {b:Nat} (n:NoB h d) (s:Smx b h h') (x:BoxAt h' b):NoB h' d:=⟨n.1.smx s x,n.2⟩
def TabAt (h:HD):Prop:=h[0]?=some .tab
theorem TabAt.sm (t:TabAt h) (s:Sm h h'):TabAt h':=s _ _ t
theorem TabAt.smx {b:Nat} (t:TabAt h) (s:Smx b h h') (hb:0<b):TabAt h':=s _ _ (by omega) t
theorem TabAt.pos {h:HD} (t:TabAt h):0<h.length:=(qa1.mp t).1
theorem DK {b:Nat} {m:Int} {Q:D→HD→Prop} (hx:BoxAt h b) (hb:0<b) (ht:TabAt h) (h1:0<m) (h2:m≤1000) (q:∀(d:Nat) h',(d:Int)<m→BoxAt h' b→TabAt h'→Smx b h h'→Q (.int (d:Nat)) h'):Wp (Bu [.loc b,.int m] h) Q:=
 Le hx (by omega) (by omega) fun d h' d0 d1 x s=>by
  obtain ⟨k,rfl⟩:∃k:Nat,d=(k:Int):=⟨d.toNat,by omega⟩
  exact q k h' (by omega) x (ht.smx s hb) s
theorem BoxAt.lt {b:Nat} {h:HD} (x:BoxAt h b):b<h.length:=let ⟨_,e⟩:=x;(qa1.mp e).1
@[simp] theorem Zgh {ρ:Ag} {a b:D} {i j:Nat}:E4 [i,j] (.tup [a,b]) ρ=some ((ρ.set i (some a)).set j (some b)):=id rfl
theorem Dr {xs ys:List D} (hz:xs.length+ys.length≤1000):Am (.tup xs) (.tup ys) h=.ok (.tup (xs++ys)) h:=by simp only [Am];rw [if_pos (by unfold sizeLine;omega)]
theorem Zci (hx:x∈ds) (hl:Ew x=false):BH (.tup ds)=false:=by
 unfold BH;rw [show (AS (.tup ds)).all Ew=false from by rw [HB];exact ⟨x,hx,by rw [hl];simp⟩]
 simp
theorem Zcj (hl:BW d=false):BH d=false:=by unfold BH;rw [hl];simp
theorem TH {ds:List D} (hl:8<ds.length):BW (.tup ds)=false:=by
 have:¬ds.length≤8:=by omega
 simp [BW,this]
theorem Zck {W:Nat} {r:Nat→Bool} (hx:x∈(List.range W).map fun j=>lit (r j)):Plain h x:=by simp only [qaI] at hx;obtain ⟨j,_,rfl⟩:=hx;exact trivial
theorem Bv {P:D→Prop}:∀d∈([]:List D),P d:=fun d hd=>by cases hd
theorem all_cons {P:D→Prop} {a:D} {l:List D} (h:P a) (t:∀d∈l,P d):∀d∈a::l,P d:=fun d hd=>by
 rcases qa5.mp hd with rfl |hd
 ·exact h
 ·exact t d hd
theorem Ey {P:D→Prop} {l r:List D} (h:∀d∈l,P d) (t:∀d∈r,P d):∀d∈l++r,P d:=fun d hd=>by
 rcases qaP.mp hd with hd |hd
 ·exact h d hd
 ·exact t d hd
theorem IU (P:D→Prop) {l o:Nat} {ds:List D} {h:HD} (e:h[l]?=some (.lst ds)) (ho:o<ds.length) (hp:∀d∈ds,P d):∃y,Ao (.loc l) (.int (o:Nat)) h=.ok y h∧P y:=
 ⟨ds[o],EZ e (AR ho),hp _ (Dh ho)⟩
theorem FP (p:Plain h d) (e:AS d=[]):Plain2 h d:=⟨p,fun x hx=>by rw [e] at hx;cases hx⟩
theorem Zcl (p:Plain h d) (e:AS d=[]):Plain3 h d:=⟨p,fun x hx=>by rw [e] at hx;cases hx⟩
def Zcm (h:HD) (H W l:Nat):Prop:=∃ds:List D,h[l]?=some (.lst ds)∧ds.length≤10∧∀d∈ds,NoRowD h H W d
theorem NoRowD.sm {H W:Nat} (n:NoRowD h H W d) (s:Sm h h'):NoRowD h' H W d:=⟨n.1.sm s,n.2⟩
noncomputable abbrev Zcn:MS:=Ai (As 7 (A6 [none,some 1,some 2] (BK (Ab 7)) (AQ 0) (Bl) (Ae Am (Ae Am (BL (Ab 1) (AX) (AM (Ab 2))) (AW (Aa (Ab 0) (Ac)))) (BL (Ab 1) (AM (Ae Am (Ab 2) (mC (.int 1)))) (AX))))) (Ai (As 7 (Ae Am (Ab 7) (AB (Aa (Af (An listOfD) (Aa (Ab 1) (Ac))) (Aa (AW (Aa (Ab 1) (Ac))) (Aa (Ae Ce (AW (Aa (Ae Ao (Ab 1) (mC (.int 0))) (Ac))) (mC (.int 9))) (Aa (Ae Am (Ab 1) (AW (Aa (AW (Ac)) (Ac)))) (Aa (Ae Ao (Ab 1) (mC (.int 0))) (Aa (mC .non) (Aa (AW (Ac)) (Aa (mC (.int 0)) (Aa (mC (.str "")) (Aa (mC .edic) (Ac)))))))))))))) (AE (Ae Ao (Ab 7) (Af Bu (Aa (Ab 0) (Aa (Af (An AO) (Aa (Ab 7) (Ac))) (Ac)))))))
theorem N2:listOfD (.tup R) h=BJ R h:=rfl
theorem NoB.tup {h:HD} {ds:List D} (hp:∀x∈ds,Plain2 h x) (hb:Cf (.tup ds)=false):NoB h (.tup ds):=⟨⟨trivial,hp⟩,hb⟩
theorem TJ {b H W A l:Nat} {f:Nat→Nat→Bool} {c3 c4 c5 c6:Option D} {Q:D→HD→Prop} (hx:BoxAt h b) (hb:0<b) (ht:TabAt h) (hh:1≤H∧H≤8) (hw:1≤W∧W≤8) (hA:A<H) (hn:Zcm h H W l)
 (q:∀d h',NoB h' d→BoxAt h' b→TabAt h'→Smx b h h'→Q d h'):Wp (Zcn [some (.loc b),some (bD H W f),some (.int (A:Nat)),c3,c4,c5,c6,some (.loc l)] h) (GY Q):=by
 obtain ⟨ds,el,ln,hn⟩:=hn
 try simp [-Ah]
 refine Ef (src:=[(l,ds)]) (xs:=ds) (φ:=fun x=>x) (fun _=>true) (fun x=>Cz H W f A x) (fun x=>[some x,some (bD H W f),some (.int (A:Nat))]) ?_ (by unfold sizeLine;omega) (fun x _=>rfl) (fun x hx h' s'=>.ok) (fun x hx _ h' s'=>?_) fun l7 h7 s7 e7=>?_
 ·simp;refine Al (DF el) ?_;simp [Sm.refl];exact fun h2 s2=>Dl (s2 _ _ el)
 ·simp [Pu];rw [bD];refine Al (Nf (by simp;omega)) ?_;simp;refine Al (Dr (by simp;omega)) ?_;simp;refine Al (Ng (k:=A) (by omega) (by simp;omega)) ?_;simp;refine Al (Dr (by simp;omega)) ?_;simp [Cz,Sm.refl]
 rw [CY] at e7;refine Eq.mpr (Ah) ?_;simp [-Ah,IT hh.1];obtain ⟨R,eR,lR,pR⟩:∃R:List D,bD H W f=.tup R∧R.length=H∧∀x∈R,∀h,Plain2 h x:=⟨_,rfl,by simp,fun x hx h=>by simp only [qaI] at hx;obtain ⟨j,_,rfl⟩:=hx;exact Lj⟩
 rw [eR];refine Al (N2) ?_;refine Av (by unfold sizeLine;omega) fun l8 h8 s8 e8 _ _=>?_;rw [show (9:Int)=((9:Nat):Int) from rfl];refine Al (QH (by simp) (by simp)) ?_
 try simp [-Ah]
 refine Al (Dr (by simp;omega)) ?_;rw [AI];refine Av (by simp) fun l9 h9 s9 e9 _ _=>?_
 try simp [-Ah]
 refine Al (Ck (s9 _ _ (s8 _ _ e7)) e9) ?_;refine Av (by simp;unfold sizeLine;omega) fun l10 h10 s10 e10 el10 _=>?_;have s:=((s7.trans s8).trans s9).trans s10;obtain ⟨L,eL,lL,nL⟩:∃L:List D,h10[l10]?=some (.lst L)∧L.length=ds.length+10∧∀d∈L,NoB h10 d:=by
  have s8':=s9.trans s10;have pl:∀x∈R,Plain2 h10 x:=fun x hx=>pR x hx h10;have flat:∀{x:D},Plain h10 x→AS x=[]→BW x=false→NoB h10 x:=fun p e l=>⟨Zcl p e,TF l⟩
  refine ⟨_,e10,by simp,Ey (fun d hm=>?_) <| all_cons (flat ⟨_,s8' _ _ e8⟩ rfl rfl) <| all_cons (.tup (all_cons ⟨trivial,fun y hy=>(pl y hy).1⟩ Bv) (N1 (x:=.tup R) AK (by rw [←eR];exact Zcg hh.1))) <|
   all_cons (.tup (fun x hx=>?_) (TF (TH (by simp)))) <| all_cons (.tup (Ey pl (all_cons (FP trivial rfl) Bv)) (N1 (x:=.tup []) (by simp) rfl)) <|
   all_cons ⟨⟨trivial,fun x hx=>?_⟩,Zch hw.1⟩ <| all_cons (flat trivial rfl rfl) <| all_cons (flat trivial rfl rfl) <| all_cons (flat trivial rfl rfl) <| all_cons (flat trivial rfl rfl) <| all_cons (flat trivial rfl rfl) Bv⟩
  ·obtain ⟨x,hx1,ex⟩:=qaI.mp hm;rw [←ex];have:=(hn x hx1).sm s;exact ⟨Zce this.1,Zcf hA this⟩
  ·rw [show x=_ from LD (n:=9) hx];exact Lj
  ·obtain ⟨j,_,rfl⟩:=qaI.mp hx;exact FP trivial rfl
 refine Eq.mpr (Ah) ?_
 try simp [-Ah]
 refine Al (E3 eL) ?_
 try simp [-Ah]
 refine DK (hx.sm s) hb (ht.sm s) (by omega) (by omega) fun d h11 ld x11 t11 s11=>?_;have n10:l10≠b:=by have:=(((hx.sm s7).sm s8).sm s9).lt;omega
 have hd:d<L.length:=by omega
 refine Al (EZ (s11 _ _ n10 eL) (AR hd)) ?_;exact q _ _ ((nL _ (Dh hd)).smx s11 x11) x11 t11 ((BV s).trans s11)
theorem Zco {b H W:Nat} {f:Nat→Nat→Bool} {Q:D→HD→Prop} (hx:BoxAt h b) (hb:0<b) (ht:TabAt h) (hh:1≤H∧H≤8) (hw:1≤W∧W≤8) (q:∀d h',NoB h' d→BoxAt h' b→TabAt h'→Smx b h h'→Q d h'):Wp (K5 [.loc b,bD H W f] h) Q:=by
 change Wp (AL 8 (SH) [.loc b,bD H W f] h) _;refine Eq.mpr (A9) ?_;simp [-Ah,FO,IT hh.1,Ll];refine DK hx hb ht (by omega) (by omega) fun A h1 lA x1 t1 s1=>?_;refine DK x1 hb t1 (by omega) (by omega) fun B h2 lB x2 t2 s2=>?_;have hA:A<H:=by omega
 have hB:B<W:=by omega
 try simp [-Ah]
 refine Eq.mpr (Ah) ?_
 try simp [-Ah,TC]
 refine Av (by simp) fun l3 h3 s3 e3 el3 _=>?_
 try simp [-Ah]
 refine Av (by simp) fun l4 h4 s4 e4 el4 _=>?_;have x4:BoxAt h4 b:=(x2.sm s3).sm s4;have t4:TabAt h4:=(t2.sm s3).sm s4;have n3:l3≠b:=by have:=x2.lt;omega
 have n4:l4≠b:=by have:=(x2.sm s3).lt;omega
 try simp [-Ah]
 refine DK x4 hb t4 (by decide) (by decide) fun o h5 l2 x5 t5 s5=>?_;have e4':=s5 _ _ n4 e4;have e3':=s5 _ _ n3 (s4 _ _ e3);obtain ⟨y,ey,py,ly⟩:=IU (fun y=>Plain h5 y∧Ew y=false) (o:=o) e4' (by simp;omega) <| all_cons ⟨trivial,rfl⟩ <| all_cons ⟨trivial,rfl⟩ <| all_cons ⟨trivial,rfl⟩ <| all_cons ⟨trivial,rfl⟩ <| all_cons ⟨trivial,rfl⟩ <| all_cons ⟨trivial,rfl⟩ <| all_cons ⟨trivial,rfl⟩ <| all_cons ⟨trivial,by decide⟩ <| all_cons ⟨⟨_,e3'⟩,rfl⟩ <| all_cons ⟨trivial,rfl⟩ Bv
 refine Al (ey) ?_;rw [AI];refine Eq.mpr (Ah) ?_
 try simp [-Ah]
 refine Al (GA hA) ?_;rw [AI];refine Eq.mpr (Ah) ?_;have S:Smx b h h5:=(((s1.trans s2).trans (BV s3)).trans (BV s4)).trans s5;clear ey;generalize hr:f A=r;obtain ⟨R,eR,lR,pR⟩:∃R:List D,Bb W r=.tup R∧R.length=W∧∀x∈R,∀h,Plain h x:=⟨_,rfl,by simp,fun x hx h=>Zck hx⟩
 rw [eR]
 try simp [-Ah]
 refine Al (Nf (by omega)) ?_
 try simp [-Ah]
 refine Al (Dr (by simp;omega)) ?_
 try simp [-Ah]
 refine Al (Ng (k:=B) (by omega) (by omega)) ?_
 try simp [-Ah]
 refine Al (Dr (by simp;omega)) ?_;rw [AI];refine Eq.mpr (Ah) ?_
 try simp [-Ah]
 rw [show (8:Int)=((8:Nat):Int) from rfl];refine Al (QH (by simp) (by simp)) ?_
 try simp [-Ah]
 refine Al (Dr (by simp;omega)) ?_;rw [AI];refine Al (N2) ?_;refine Av (by unfold sizeLine;omega) fun l6 h6 s6 e6 _ _=>?_;refine Av (by simp) fun l7 h7 s7 e7 _ _=>?_;refine Eq.mpr (Ah) ?_;have hS7:Smx b h h7:=(S.trans (BV s6)).trans (BV s7);have x7:=(x5.sm s6).sm s7;have t7:=(t5.sm s6).sm s7;have py7:Plain h7 y:=(py.sm s6).sm s7;have base:∀d∈[D.tup (List.take B R++y::List.drop (B+1) R),D.tup (List.take B R++y::List.drop (B+1) R),D.tup (List.take B R++y::List.drop (B+1) R),D.tup (R++[D.int 0,D.int 0,D.int 0,D.int 0,D.int 0,D.int 0,D.int 0,D.int 0]),D.tup [],D.loc l6,D.non,D.int 1],NoRowD h7 H W d:=by
  have pt:∀ds:List D,(∀x∈ds,Plain h7 x)→BH (.tup ds)=false→NoRowD h7 H W (.tup ds):=fun ds hd hr=>⟨⟨trivial,hd⟩,.inl hr⟩
  have bent:NoRowD h7 H W (.tup (List.take B R++y::List.drop (B+1) R)):=by
   refine pt _ (fun x hx=>?_) (Zci (x:=y) (by simp) ly);rcases qaP.mp hx with z |z
   ·exact pR x (EB z) _
   ·rcases qa5.mp z with z |z
    ·exact z ▸ py7
    ·exact pR x (FS z) _
  refine all_cons bent <| all_cons bent <| all_cons bent <| all_cons (pt _ (Ey (fun x z=>pR x z _) fun x hx=>?_) (Zcj (TH (by simp;omega)))) <| all_cons (pt _ Bv rfl) <| all_cons ⟨FP ⟨_,s7 _ _ e6⟩ rfl,.inl rfl⟩ <| all_cons ⟨FP trivial rfl,.inl rfl⟩ <| all_cons ⟨FP trivial rfl,.inl rfl⟩ Bv
  rw [show x=_ from LD (n:=8) hx];exact trivial
 refine Eq.mpr (BA) ?_
 by_cases h1:1<H
 ·have h1':(1:Int)<(H:Int):=by omega
  simp [-Ah,FO,h1',h1];refine Al (Zag (by omega)) ?_
  try simp [-Ah]
  refine Al (Dr (by simp;omega)) ?_
  try simp [-Ah]
  refine Av (by simp) fun l8 h8 s8 e8 _ _=>?_
  try simp [-Ah]
  refine Al (Ck (s8 _ _ e7) e8) ?_;refine Av (by simp) fun l9 h9 s9 e9 _ _=>?_;refine Eq.mpr (Ah) ?_;have s79:=s8.trans s9;refine TJ (x7.sm s79) hb (t7.sm s79) hh hw hA ⟨_,e9,by simp,fun d hd=>?_⟩ fun d h' n x t s'=>q d h' n x t ((hS7.trans (BV s79)).trans s');rcases qaP.mp hd with z |z
  ·exact (base d z).sm s79
  ·simp only [qa5,Bw,or_false] at z;rcases z with rfl |rfl
   ·refine ⟨⟨trivial,fun x hx=>pR x (EB hx) _⟩,.inr ⟨h1,?_⟩⟩;simp [Dq,AS];omega
   ·refine ⟨⟨trivial,fun x hx=>?_⟩,.inr ⟨h1,?_⟩⟩
    ·rcases qaP.mp hx with z |z
     ·exact pR x z _
     ·simp only [qa5,Bw,or_false] at z;subst z;exact trivial
    ·simp [Dq,AS];omega
 ·have h1':¬(1:Int)<(H:Int):=by omega
  simp [-Ah,FO,h1',h1];refine Eq.mpr (Ah) ?_;exact TJ x7 hb t7 hh hw hA ⟨_,e7,by simp,base⟩ fun d h' n x t s'=>q d h' n x t (hS7.trans s')
theorem Smx.over {a b:Nat} {h h1 h2:HD} (s:Smx b h h1) (s2:Smx a h1 h2) (hl:h.length≤a):Smx b h h2:=fun l c n e=>s2 l c (by have:=(qa1.mp e).1;omega) (s l c n e)
theorem Smx.put {a b:Nat} {c:Cell} {h h1:HD} (s:Smx b h h1) (hl:h.length≤a):Smx b h (h1.set a c):=fun l x n e=>by rw [Be (by have:=(qa1.mp e).1;omega)];exact s l x n e
theorem Smx.new {b:Nat} {c:Cell} (s:Smx b h h1):Smx b h (h1++[c]):=s.trans (BV (.app _ _))
theorem Smx.len {b:Nat} {h h':HD} (s:Smx b h h') (hb:b<h'.length):h.length≤h'.length:=by
 cases e:h.length with
 |zero=>exact B8 _
 |succ n=>
  have hn:n<h.length:=by omega
  by_cases hz:n=b
  ·omega
  ·have:=s n h[n] hz (AR hn);have:=(qa1.mp this).1;omega
inductive TK (b:Nat) (h1:HD) (xs:List Nat) (ρ:Ag) (h':HD):Prop where
 |mk (N M:Int) (x:Option D) (f0:ρ=[some (.loc b),some (.int N),some (.int M),x]) (f1:h'=h1):TK b h1 xs ρ h'
theorem Zcp {b:Nat} {h:HD} {Q:D→HD→Prop} (hx:BoxAt h b) (q:∀l h',BoxAt h' b→BoxAt h' l→l≠b→h.length≤l→Smx b h h'→Q (.loc l) h'):Wp (K4 [.loc b] h) Q:=by
 change Wp (AL 4 (SF) [.loc b] h) _;refine Eq.mpr (A9) ?_;simp;refine Le hx (by decide) (by decide) fun d h1 d0 d1 x1 s1=>?_;refine CI (src:=[]) (xs:=List.range 24) (fun i=>.int ((i:Nat):Int)) (TK b h1) ?_ (fun ys ρ h' _=>Dk) ?_ ?_
 ·simp [To];exact ⟨_,_,_,rfl,rfl⟩
 ·rintro x xs ρ h' ⟨N,M,y,rfl,rfl⟩;refine ⟨_,rfl,?_⟩;simp;rw [Ke (by decide) (by decide)];simp;rw [Gg (by decide)];simp;rw [Ke (by decide) (by decide)];simp [BD];exact ⟨_,_,_,rfl,rfl⟩
 ·rintro ρ h' ⟨N,M,y,rfl,rfl⟩;simp;refine Av (by simp) fun l h2 s e el _=>?_;exact q l h2 (x1.sm s) ⟨_,e⟩ (by have:=x1.lt;omega) (by have:=s1.len x1.lt;omega) (s1.trans (BV s))
theorem Zcq {W:Nat} {rows:List (Nat→Bool)} {H:Nat} (e:rows.length=H):D.tup (rows.map (Bb W))=bD H W fun i=>rows.getD i fun _=>false:=by
 unfold bD
 congr 1
 apply Jt
 ·simp [e]
 ·intro i h1 h2;simp at h1 h2;simp [DM,AR h1]
inductive TL (b H W:Nat) (way dense:Int) (l2 l3:Nat) (h:HD) (xs:List Nat) (ρ:Ag) (h':HD):Prop where
 |mk (x:Option D) (rows:List (Nat→Bool)) (f0:ρ=[some (.loc b),some (.int (H:Nat)),some (.int (W:Nat)),some (.int way),some (.loc l2),some (.int dense),some (.loc l3),x]) (f1:BoxAt h' b) (f2:BoxAt h' l2) (f3:h'[l3]?=some (.lst (rows.map (Bb W)))) (f4:rows.length+xs.length=H) (f5:Smx b h h'):TL b H W way dense l2 l3 h xs ρ h'
inductive TM (b W l2 l3:Nat) (rows:List (Nat→Bool)) (h h':HD):Prop where
 |mk (f1:BoxAt h' b) (f2:BoxAt h' l2) (f3:h'[l3]?=some (.lst (rows.map (Bb W)))) (f4:Smx b h h'):TM b W l2 l3 rows h h'
theorem Zcr {b H W:Nat} {Q:D→HD→Prop} (hx:BoxAt h b) (hh:1≤H∧H≤8) (hw:1≤W∧W≤8) (q:∀f h',BoxAt h' b→Smx b h h'→Q (bD H W f) h'):Wp (La [.loc b,.int (H:Nat),.int (W:Nat)] h) Q:=by
 change Wp (AL 8 (SY) [.loc b,.int (H:Nat),.int (W:Nat)] h) _;refine Eq.mpr (A9) ?_;simp [-Ah];refine Le hx (by decide) (by decide) fun way h1 d0 d1 x1 z1=>?_;simp [-Ah,Ah (g:=Ai (As 4 _) _)];refine Zcp x1 fun l2 h2 x2 y2 n2 k2 z2=>?_;have kl2:h.length≤l2:=by have:=z1.len x1.lt;omega
 refine Eq.mpr (Ah) ?_;simp [-Ah];refine Av (by simp) fun l h3 s3 e3 el3 _=>?_;obtain ⟨dense,ed⟩:∃dense:Int,Ao (.loc l) (.int way) h3=.ok (.int dense) h3:=by
  obtain ⟨w,rfl⟩:∃w:Nat,way=(w:Int):=⟨way.toNat,by omega⟩
  obtain ⟨y,ey,z,rfl⟩:=IU (fun y=>∃i,y=.int i) (o:=w) e3 (by simp;omega) <| all_cons ⟨_,rfl⟩ <| all_cons ⟨_,rfl⟩ <| all_cons ⟨_,rfl⟩ <| all_cons ⟨_,rfl⟩ <| all_cons ⟨_,rfl⟩ Bv
  exact ⟨z,ey⟩
 refine Al (ed) ?_;rw [AI];refine Eq.mpr (Ah) ?_;simp [-Ah];refine Av (by simp) fun l3 h4 s4 e4 el4 _=>?_;have x4:BoxAt h4 b:=(x2.sm s3).sm s4;have y4:BoxAt h4 l2:=(y2.sm s3).sm s4;have z4:Smx b h h4:=((z1.trans z2).trans (BV s3)).trans (BV s4);have kl3:h.length≤l3:=by have:=(z1.trans z2).len x2.lt;have:=s3.len;omega
 have n3:l3≠b:=by obtain ⟨n,e⟩:=x2.sm s3;have:=(qa1.mp e).1;omega
 have n4:l3≠l2:=by obtain ⟨n,e⟩:=y2.sm s3;have:=(qa1.mp e).1;omega
 refine Eq.mpr (Ah) ?_;simp [-Ah];refine CI (src:=[]) (xs:=List.range H) (fun i=>.int ((i:Nat):Int)) (TL b H W way dense l2 l3 h) ?_ (fun ys ρ h' _=>Dk) ?_ ?_
 ·simp [Ee (show H≤1000 by omega)];exact ⟨_,[],rfl,x4,y4,e4,by simp,z4⟩
 ·rintro x xs ρ h' ⟨y,rows,rfl,x5,y5,e5,hl,z5⟩;refine ⟨_,rfl,?_⟩;simp [EY e5];refine YB (src:=[]) (xs:=List.range W) (fun i=>.int ((i:Nat):Int)) (TM b W l2 l3 rows h) (fun _ b=>b=true) (fun i d=>∃r:Bool,d=lit r) (fun i=>[some (.int ((i:Nat):Int)),some (.loc l2),some (.int dense)]) ?_ (fun _ _=>Dk) (fun h c x=>by obtain ⟨a1,a2,a3,a4⟩:=x;exact ⟨a1.new,a2.new,Sm.app _ _ _ _ a3,a4.new⟩) List.nodup_range (sz hw.2) (fun x _=>rfl) ?_ ?_
  ·simp [Ee (show W≤1000 by omega)];exact ⟨x5,y5,e5,z5⟩
  ·intro x hx h i;simp;obtain ⟨a1,a2,a3,a4⟩:=i;refine Le a2 (by decide) (by decide) fun d h1 d0 d1 x1 s1=>?_;simp only [AI,Ih,Ig,Ys,G0,Ii,Yr,Yt];exact ⟨⟨a1.smx s1 (Ne.symm n2),x1,s1 _ _ n4 a3,a4.over s1 kl2⟩,by cases decide (d<dense)<;>simp [lit]⟩
  ·intro h6 g e x6 hr tr;obtain ⟨x61,x62,x63,x64⟩:=x6;have hr':∃r:Nat→Bool,∀x∈List.range W,e x=lit (r x):=by refine ⟨fun x=>if h:x∈List.range W then (hr x h (tr x h)).choose else false,fun x hx=>?_⟩;simp only [dif_pos hx];exact (hr x hx (tr x hx)).choose_spec
   obtain ⟨r,er⟩:=hr';have ef:(List.range W).filter g=List.range W:=List.filter_eq_self.mpr tr;have em:D.tup (((List.range W).filter g).map e)=Bb W r:=by rw [ef];unfold Bb;congr 1;exact List.map_congr_left er
   rw [em];simp [G5 x63 (show (rows.map (Bb W)).length<sizeLine by simp;unfold sizeLine;omega),BD];have hl3:l3<h6.length:=(qa1.mp x63).1;refine ⟨_,rows++[r],rfl,?_,?_,?_,?_,x64.put kl3⟩
   ·obtain ⟨n,e⟩:=x61;exact ⟨n,by rw [Be n3];exact e⟩
   ·obtain ⟨n,e⟩:=x62;exact ⟨n,by rw [Be n4];exact e⟩
   ·rw [BZ hl3];simp
   ·simp at hl ⊢;omega
 ·rintro ρ h' ⟨y,rows,rfl,x5,y5,e5,hl,z5⟩;simp at hl;simp
  by_cases h3:way=3
  ·simp [h3];obtain ⟨r0,rest,rfl⟩:∃r0 rest,rows=r0::rest:=by
    cases rows with
    |nil=>simp at hl;omega
    |cons a r=>exact ⟨a,r,rfl⟩
   rw [show (0:Int)=((0:Nat):Int) from rfl];refine Al (EZ e5 (k:=0) (a:=Bb W r0) rfl) ?_;simp;refine Av (by simp) fun l5 h5 s5 e6 _ _=>?_;refine Al (Z5) ?_;refine Al (Y8 e6 (by omega)) ?_;refine Av (by simp;unfold sizeLine;omega) fun l6 h6 s6 e7 _ _=>?_;simp [MB e7];have:D.tup (List.replicate H (Bb W r0))=bD H W fun _=>r0:=by
    unfold bD
    congr 1
    apply Jt
    ·simp
    ·intro i h1 h2;simp
   rw [this];exact q _ _ ((x5.sm s5).sm s6) ((z5.trans (BV s5)).trans (BV s6))
  ·simp [h3,MB e5];rw [Zcq hl];exact q _ _ x5 z5
theorem N3 {i:Int}:E8 [.int i] h=.ok (.bl true) h:=rfl
def Dc (n:Nat):Int→List D→Bool
 |_,[]=>true
 |last,.int i::ds=>decide (last<i∧i<(n:Int))&&Dc n i ds
 |_,_::_=>false
def De (n:Nat) (d:D):Bool:=match d with
 |.tup ds=>Dc n (-1) ds
 |_=>false
theorem Zcs {n:Nat} {last:Int} {x:D} (h:IS x=false):Dc n last (x::xs)=false:=by cases x<;>first |rfl |(cases h)
inductive TN (ds:List D) (n:Nat) (h:HD) (xs:List D) (ρ:Ag) (h':HD):Prop where
 |mk (last:Int) (x:Option D) (f0:ρ=[some (.tup ds),some (.int (n:Nat)),some (.int last),x]) (f1:h'=h) (f2:Dc n last xs=Dc n (-1) ds) (f3:∀y∈xs,Plain h y):TN ds n h xs ρ h'
theorem TQ {d:D} {n:Nat} (p:Plain2 h d):Pu (IP [d,.int (n:Nat)] h) h (.bl (De n d)):=by
 change Wp (AL 4 (Sz) [d,.int (n:Nat)] h) _;refine Eq.mpr A9 ?_;cases hT:Gz d with
 |true=>
  obtain ⟨ds,rfl⟩:=Lh hT;simp;refine CI (src:=[]) (xs:=ds) (fun x=>x) (TN ds n h) ?_ (fun ys ρ h' _=>Dk) ?_ ?_
  ·simp;exact ⟨-1,_,rfl,rfl,rfl,p.2⟩
  ·rintro x xs ρ h' ⟨last,y,rfl,rfl,e,pl⟩;refine ⟨_,rfl,?_⟩;have px:=pl x AK;cases hx:IS x with
   |false=>simp [Tr px,hx,BD,Sm.refl];rw [Zcs hx] at e;simp [De,←e]
   |true=>
    obtain ⟨i,rfl⟩:=Tt hx
    by_cases h1:last<i
    ·by_cases h2:i<(n:Int)
     ·simp [N3,h1,h2,AA,BD];exact ⟨i,_,rfl,rfl,by rw [←e];simp [Dc,h1,h2],fun y hy=>pl y (AN _ hy)⟩
     ·simp [N3,h1,h2,AA,BD,Sm.refl];simp [De,←e,Dc,h1,h2]
    ·simp [N3,h1,AA,BD,Sm.refl];simp [De,←e,Dc,h1]
  ·rintro ρ h' ⟨last,y,rfl,rfl,e,_⟩;simp [Sm.refl,De,←e,Dc]
 |false=>
  have e:De n d=false:=by cases d<;>first |rfl |cases hT
  simp [Lg p.1,hT,e,Sm.refl]
def N4 (c:Str):List V:=[.bl (BE c "NoBoard"),.bl (BE c "NoLine"),.bl (BE c "NoSwitching"),.bl (BE c "NoNumber"),.bl (BE c "Unlike"),.bl (BE c "NoNet"),.bl (BE c "NoPlace"),.bl (BE c "NoText"),.bl (BE c "NoRow"),.bl (BE c "TooMany")]
def Zct:List D:=[.str "board",.str "line",.str "switching",.str "number",.str "unlike",.str "net",.str "place",.str "text",.str "row"]
theorem Zcu {c w t:Str} {j:Nat} (hc:c∈excNames) (hn:Hc (.bl true) (N4 c)=1) (h9:BE c "TooMany"=false) (hj:Ks (.bl true) (N4 c)=some j) (hw:Zct[j]?=some (.str w)) (hz:((("! ":String):Str)).length+w.length≤1000) (ht:((("! ":String):Str))++w=t):Pu (FL [.exc c []] h) h (.str t):=by have i0:∀h,AG (.exc c []) (.glo "NoBoard") h=.ok (.bl (BE c "NoBoard")) h:=fun h=>Em hc (by decide +kernel);have i1:∀h,AG (.exc c []) (.glo "NoLine") h=.ok (.bl (BE c "NoLine")) h:=fun h=>Em hc (by decide +kernel);have i2:∀h,AG (.exc c []) (.glo "NoSwitching") h=.ok (.bl (BE c "NoSwitching")) h:=fun h=>Em hc (by decide +kernel);have i3:∀h,AG (.exc c []) (.glo "NoNumber") h=.ok (.bl (BE c "NoNumber")) h:=fun h=>Em hc (by decide +kernel);have i4:∀h,AG (.exc c []) (.glo "Unlike") h=.ok (.bl (BE c "Unlike")) h:=fun h=>Em hc (by decide +kernel);have i5:∀h,AG (.exc c []) (.glo "NoNet") h=.ok (.bl (BE c "NoNet")) h:=fun h=>Em hc (by decide +kernel);have i6:∀h,AG (.exc c []) (.glo "NoPlace") h=.ok (.bl (BE c "NoPlace")) h:=fun h=>Em hc (by decide +kernel);have i7:∀h,AG (.exc c []) (.glo "NoText") h=.ok (.bl (BE c "NoText")) h:=fun h=>Em hc (by decide +kernel);have i8:∀h,AG (.exc c []) (.glo "NoRow") h=.ok (.bl (BE c "NoRow")) h:=fun h=>Em hc (by decide +kernel);have i9:∀h,AG (.exc c []) (.glo "TooMany") h=.ok (.bl (BE c "TooMany")) h:=fun h=>Em hc (by decide +kernel);have iv:∀h,AG (.exc c []) (.ty "ValueError") h=.ok (.bl true) h:=fun h=>Z7 hc;change Wp (AL 3 Sq [.exc c []] h) _;refine Eq.mpr A9 ?_;simp [-Ah,i0,i1,i2,i3];refine Av (by simp) fun l1 h1 s1 e1 _ _=>?_;refine Eq.mpr Ah ?_;simp [-Ah,i4,i5,i6,i7];refine Av (by simp) fun l2 h2 s2 e2 _ _=>?_;refine Al (Ck (s2 _ _ e1) e2) ?_;refine Av (by simp) fun l3 h3 s3 e3 _ _=>?_;refine Eq.mpr Ah ?_;simp [-Ah,i8,i9];refine Av (by simp) fun l4 h4 s4 e4 _ _=>?_;refine Al (Ck (s4 _ _ e3) e4) ?_;refine Av (by simp) fun l5 h5 s5 e5 _ _=>?_;refine Eq.mpr Ah ?_;simp [-Ah,iv,EY e5];refine Al ((Z9 (vs:=N4 c) e5 rfl rfl).trans (by rw [hn])) ?_;simp [-Ah];refine Eq.mpr Ah ?_;simp [-Ah];rw [show (9:Int)=((9:Nat):Int) from rfl];refine Al (EZ e5 (k:=9) rfl) ?_;simp [-Ah,h9];refine Eq.mpr Ah ?_;simp [-Ah];refine Av (by simp) fun l6 h6 s6 e6 _ _=>?_;refine Eq.mpr Ah ?_;simp [EY (s6 _ _ e5)];refine Al (Zaa (s6 _ _ e5) rfl rfl hj) ?_;simp only [AI];refine Al (EZ e6 hw) ?_;simp only [AI];refine Al (Z8 hz) ?_;exact ⟨congrArg D.str ht,((((s1.trans s2).trans s3).trans s4).trans s5).trans s6⟩
theorem p_kind_board:Pu (FL [.exc "NoBoard" []] h) h (.str "! board"):=Zcu (w:="board") (j:=0) (by decide +kernel) (by decide +kernel) (by decide +kernel) (by decide +kernel) rfl (by decide +kernel) (by decide +kernel)
theorem TU {cs:List Nat} {f:ME} {ds:List D} {Q:D→HD→Prop} (ht:TabAt h) (hd:Az (cs.map fun j=>(ρ[j]?).join)=some ds) (he:Er (f (ds.map some) h) h "NoBoard")
 (q:∀h',Sm h h'→Q (.str "! board") h'):Wp (He cs FL f ρ h) Q:=
 Z4 ht hd (he.we fun h' s=>⟨by decide +kernel,[],rfl,p_kind_board.wp fun h2 s2=>q h2 (s.trans s2)⟩)
theorem Lm {n:Nat} (h:n≤1000):n≤sizeLine:=by unfold sizeLine;omega
theorem Zcv {a n:Nat} (ha:a≤1000) (hn:n≤1000):GS [.int (a:Int),.int (n:Int)] h=.ok ((List.range (n - a)).map fun k=>D.int ((a:Int)+((k:Nat):Int)),[]) h:=by
 have:((-(2^62):Int)≤(a:Int)∧(a:Int)<2^62)∧(-(2^62):Int)≤(n:Int)∧(n:Int)<2^62:=by omega
 unfold GS;simp only;rw [if_pos this];have e:((n:Int) - (a:Int)).toNat=n - a:=by omega
 rw [e];simp [FB]
abbrev Ap:=Nat×Nat×Nat×Nat
def Aj (x:Ap):D:=.tup [.int ((x.1:Nat):Int),.int ((x.2.1:Nat):Int),.int ((x.2.2.1:Nat):Int),.int ((x.2.2.2:Nat):Int)]
def BX (f:Nat→Nat→Bool) (x:Ap):Bool:=Bool.xor (Bool.xor (f x.1 x.2.2.1) (f x.1 x.2.2.2)) (Bool.xor (f x.2.1 x.2.2.1) (f x.2.1 x.2.2.2))
def By (H W:Nat) (x:Ap):Prop:=x.1<x.2.1∧x.2.1<H∧x.2.2.1<x.2.2.2∧x.2.2.2<W
def AF (H W:Nat):List Ap:=(List.range H).flatMap fun a=>(List.range (H - (a+1))).flatMap fun b=>(List.range W).flatMap fun c=>(List.range (W - (c+1))).map fun e=>(a,a+1+b,c,c+1+e)
theorem TV {H W:Nat} {x:Ap} (h:x∈AF H W):By H W x:=by unfold AF at h;simp only [qd1,qaI,qaZ] at h;obtain ⟨a,ha,b,hb,c,hc,e,he,rfl⟩:=h;exact ⟨by simp only;omega,by simp only;omega,by simp only;omega,by simp only;omega⟩
theorem Ln {α β:Type} {F:α→List β} {k:Nat}:∀{l:List α},(∀x∈l,(F x).length≤k)→(l.flatMap F).length≤l.length*k
 |[],_=>by simp
 |x::l,h=>by rw [Jp,Dg,DN,HG];have:=h x AK;have:=Ln (l:=l) fun y hy=>h y (AN _ hy);omega
theorem N5 {H W:Nat} (hh:H≤8) (hw:W≤8):(AF H W).length≤1000:=by
 have key:∀H<9,∀W<9,(AF H W).length≤1000:=by decide +kernel
 exact key H (by omega) W (by omega)
theorem Lo {a n:Nat} (ha:a≤1000) (hn:n≤1000):GS [.int (a:Int),.int (n:Int)] h=.ok ((List.range (n - a)).map fun k=>D.int ((a+k:Nat):Int),[]) h:=Zcv ha hn
section
variable {H W:Nat} {h:HD} {f:Nat→Nat→Bool}
theorem Zcw {Q:D→HD→Prop} (hh:1≤H∧H≤8) (hw:1≤W∧W≤8) (q:∀l h',Sm h h'→h'[l]?=some (.lst ((AF H W).map Aj))→Q (.loc l) h'):Wp (KY [bD H W f] h) Q:=by
 change Wp (AL 3 Sa [bD H W f] h) _;refine Eq.mpr A9 ?_;simp [FO,IT hh.1,Ll];have hl:=N5 hh.2 hw.2;have em:(List.range H).flatMap (fun a=>(List.range (H - (a+1))).flatMap fun b=>(List.range W).flatMap fun c=>(List.range (W - (c+1))).map fun e=>Aj (a,a+1+b,c,c+1+e))=(AF H W).map Aj:=by unfold AF;simp only [List.map_flatMap,EI];rfl
 refine ZaA (src:=[]) (xs:=List.range H) (φ:=fun a=>.int ((a:Nat):Int)) (fun _=>true) (fun a=>(List.range (H - (a+1))).flatMap fun b=>(List.range W).flatMap fun c=>(List.range (W - (c+1))).map fun e=>Aj (a,a+1+b,c,c+1+e)) (fun a=>[some (.int ((a:Nat):Int)),none,none,none,some (.int (H:Nat)),some (.int (W:Nat))]) ?_ (fun x _=>rfl) (fun x _ h' s'=>(.ok:Pu (.ok true h') h' true)) (fun a ha _ h1 acc s1 z1=>?_) ?_ fun l h' s' e'=>?_
 ·simp [CJ,Ee (show H≤1000 by omega),Sm.refl,BC]
 ·have ha:=qaZ.mp ha;have:=Nm (t:=Bl) (src:=[]) (xs:=List.range (H - (a+1))) (φ:=fun b=>.int ((a+1+b:Nat):Int)) (it:=Ec (Aa (Ae Am (Ab 0) (mC (.int 1))) (Aa (Ab 4) (Ac)))) (sg:=AQ 1) (e:=DI (B5 (Aa (Ab 5) (Ac))) (AQ 2) (Bl) (DI (Ec (Aa (Ae Am (Ab 2) (mC (.int 1))) (Aa (Ab 5) (Ac)))) (AQ 3) (Bl) (En (AW (Aa (Ab 0) (Aa (Ab 1) (Aa (Ab 2) (Aa (Ab 3) (Ac))))))))) (acc:=acc) (ρ:=[some (.int ((a:Nat):Int)),none,none,none,some (.int (H:Nat)),some (.int (W:Nat))]) (h:=h1)
   (fun _=>true) (fun b=>(List.range W).flatMap fun c=>(List.range (W - (c+1))).map fun e=>Aj (a,a+1+b,c,c+1+e)) (fun b=>[some (.int ((a:Nat):Int)),some (.int ((a+1+b:Nat):Int)),none,none,some (.int (H:Nat)),some (.int (W:Nat))]) ?_ (fun x _=>rfl) (fun x _ h' s'=>(.ok:Pu (.ok true h') h' true)) (fun b hb _ h2 acc2 s2 z2=>?_) (by rw [CY];exact z1)
  ·rwa [CY] at this
  ·simp [CJ];rw [show (a:Int)+1=((a+1:Nat):Int) by omega,Lo (by omega) (by omega)];simp [Sm.refl,BC]
  ·have:=Nm (t:=Bl) (src:=[]) (xs:=List.range W) (φ:=fun c=>.int ((c:Nat):Int)) (it:=B5 (Aa (Ab 5) (Ac))) (sg:=AQ 2) (e:=DI (Ec (Aa (Ae Am (Ab 2) (mC (.int 1))) (Aa (Ab 5) (Ac)))) (AQ 3) (Bl) (En (AW (Aa (Ab 0) (Aa (Ab 1) (Aa (Ab 2) (Aa (Ab 3) (Ac)))))))) (acc:=acc2) (ρ:=[some (.int ((a:Nat):Int)),some (.int ((a+1+b:Nat):Int)),none,none,some (.int (H:Nat)),some (.int (W:Nat))]) (h:=h2)
    (fun _=>true) (fun c=>(List.range (W - (c+1))).map fun e=>Aj (a,a+1+b,c,c+1+e)) (fun c=>[some (.int ((a:Nat):Int)),some (.int ((a+1+b:Nat):Int)),some (.int ((c:Nat):Int)),none,some (.int (H:Nat)),some (.int (W:Nat))]) ?_ (fun x _=>rfl) (fun x _ h' s'=>(.ok:Pu (.ok true h') h' true)) (fun c hc _ h3 acc3 s3 z3=>?_) (by rw [CY];exact z2)
   ·rwa [CY] at this
   ·simp [CJ,Ee (show W≤1000 by omega),Sm.refl,BC]
   ·have hc:=qaZ.mp hc;refine Zaz (src:=[]) (xs:=List.range (W - (c+1))) (φ:=fun e=>.int ((c+1+e:Nat):Int)) _ (fun e=>[some (.int ((a:Nat):Int)),some (.int ((a+1+b:Nat):Int)),some (.int ((c:Nat):Int)),some (.int ((c+1+e:Nat):Int)),some (.int (H:Nat)),some (.int (W:Nat))]) ?_ (fun x _=>rfl) (fun e _ h4 s4=>?_) z3
    ·simp [CJ];rw [show (c:Int)+1=((c+1:Nat):Int) by omega,Lo (by omega) (by omega)];simp [Sm.refl,BC]
    ·simp [Pu,Aj,Sm.refl]
 ·rw [CY,em,A0];exact Lm hl
 ·rw [CY,em] at e';exact q l h' s' e'
theorem N6 {W:Nat} {r:Nat→Bool} {c:Nat} (hc:c<W):Ao (Bb W r) (.int (c:Nat)) h=.ok (lit (r c)) h:=MC hc
theorem TX {a b c d:Bool}:(((if a then (1:Int) else 0)+(if b then 1 else 0)+(if c then 1 else 0)+(if d then 1 else 0)) % 2==1)=Bool.xor (Bool.xor a b) (Bool.xor c d):=by cases a<;>cases b<;>cases c<;>cases d<;>rfl
theorem TY {x:Ap} (ok:By H W x):Pu (Hl [bD H W f,Aj x] h) h (.bl (BX f x)):=by obtain ⟨a,b,c,e⟩:=x;obtain ⟨h1,h2,h3,h4⟩:=ok;simp only at h1 h2 h3 h4;change Wp (AL 6 Se [bD H W f,Aj (a,b,c,e)] h) _;refine Eq.mpr A9 ?_;unfold Aj;simp [GA (show a<H by omega),GA h2,N6 (show c<W by omega),N6 h4];refine Al (show Am (lit (f a c)) (lit (f a e)) h=.ok (.int ((if f a c then 1 else 0)+(if f a e then 1 else 0))) h from rfl) ?_;rw [AI];refine Al (show Am (.int ((if f a c then 1 else 0)+(if f a e then 1 else 0))) (lit (f b c)) h=.ok (.int ((if f a c then 1 else 0)+(if f a e then 1 else 0)+(if f b c then 1 else 0))) h from rfl) ?_;rw [AI];refine Al (show Am (.int ((if f a c then 1 else 0)+(if f a e then 1 else 0)+(if f b c then 1 else 0))) (lit (f b e)) h=.ok (.int ((if f a c then 1 else 0)+(if f a e then 1 else 0)+(if f b c then 1 else 0)+(if f b e then 1 else 0))) h from rfl) ?_;rw [AI];refine Al (Gg (by decide)) ?_;rw [AI];refine Al Nd ?_;rw [AI,TX];exact ⟨rfl,.refl _⟩
end
section
variable {H W:Nat} {h:HD} {f:Nat→Nat→Bool}
theorem Zcx {Q:D→HD→Prop} (hh:1≤H∧H≤8) (hw:1≤W∧W≤8) (q:∀l h',Sm h h'→h'[l]?=some (.lst (((AF H W).filter (BX f)).map Aj))→Q (.loc l) h'):Wp (IQ [bD H W f] h) Q:=by
 change Wp (AL 1 (NW) [bD H W f] h) _;refine Eq.mpr A9 ?_;simp;refine (N0 hh hw).wp fun h1 s1=>?_;obtain ⟨d,h2,e2,l,rfl,s2,f2⟩:=(Zcw (f:=f) (h:=h1) (Q:=fun d h'=>∃l,d=.loc l∧Sm h1 h'∧h'[l]?=some (.lst ((AF H W).map Aj))) hh hw fun l h' s e=>⟨l,rfl,s,e⟩).ex;refine Ef (src:=[(l,(AF H W).map Aj)]) (xs:=AF H W) (φ:=Aj) (BX f) Aj (fun x=>[some (Aj x),some (bD H W f)]) ?_ (Lm (N5 hh.2 hw.2)) (fun x _=>rfl) (fun x hx h' s'=>?_) (fun x hx _ h' s'=>?_) fun l3 h3 s3 e3=>?_
 ·simp;refine Al e2 ?_;rw [AI,DF f2];exact ⟨rfl,s2,fun h' s'=>Dl (s' _ _ f2)⟩
 ·simp [Pu];refine (TY (TV hx)).wp fun h4 s4=>?_;simp [s4]
 ·simp [Pu,Sm.refl]
 ·exact q l3 h3 (s1.trans s3) e3
def Ds (a b c:Nat):Bool:=a==b||a==c
def cl (x y:Ap):Bool:=(Ds x.1 y.1 y.2.1||Ds x.2.1 y.1 y.2.1)&&(Ds x.2.2.1 y.2.2.1 y.2.2.2||Ds x.2.2.2 y.2.2.1 y.2.2.2)
theorem Zcy {x y:Ap}:cl x y=cl y x:=by
 have e:∀a b:Nat,(a==b)=(b==a):=fun a b=>by rw [qb0,beq_iff_eq,beq_iff_eq];exact eq_comm
 unfold cl Ds;rw [e y.1 x.1,e y.1 x.2.1,e y.2.1 x.1,e y.2.1 x.2.1,e y.2.2.1 x.2.2.1,e y.2.2.1 x.2.2.2,e y.2.2.2 x.2.2.1,e y.2.2.2 x.2.2.2];generalize (x.1==y.1)=p1;generalize (x.1==y.2.1)=p2;generalize (x.2.1==y.1)=p3;generalize (x.2.1==y.2.1)=p4;generalize (x.2.2.1==y.2.2.1)=p5;generalize (x.2.2.1==y.2.2.2)=p6;generalize (x.2.2.2==y.2.2.1)=p7;generalize (x.2.2.2==y.2.2.2)=p8;revert p1 p2 p3 p4 p5 p6 p7 p8;decide
theorem TZ {a b c:Nat}:Eb false (.int (a:Nat)) (.tup [.int (b:Nat),.int (c:Nat)]) h=.ok (.bl (Ds a b c)) h:=by
 have:=Yx (neg:=false) (k:=a) (ks:=[b,c]) (h:=h);have e:([b,c].contains a)=Ds a b c:=by unfold Ds;rw [qb0];simp
 rw [e] at this;exact this
theorem N7 {a b c d:D}:Cm (.tup [a,b,c,d]) none (some 2) h=.ok (.tup [a,b]) h:=by simp only [Cm];rfl
theorem Lp {a b c d:D}:Cm (.tup [a,b,c,d]) (some 2) none h=.ok (.tup [c,d]) h:=by simp only [Cm];rfl
theorem Zcz {x y:Ap}:Pu (KZ [Aj x,Aj y] h) h (.bl (cl x y)):=by
 change Wp (AL 2 Sh [Aj x,Aj y] h) _;refine Eq.mpr A9 ?_;have i0:∀h,Ao (Aj x) (.int 0) h=.ok (.int ((x.1:Nat):Int)) h:=fun h=>rfl;have i1:∀h,Ao (Aj x) (.int 1) h=.ok (.int ((x.2.1:Nat):Int)) h:=fun h=>rfl;have i2:∀h,Ao (Aj x) (.int 2) h=.ok (.int ((x.2.2.1:Nat):Int)) h:=fun h=>rfl;have i3:∀h,Ao (Aj x) (.int 3) h=.ok (.int ((x.2.2.2:Nat):Int)) h:=fun h=>rfl;have s2:∀h,Cm (Aj y) none (some 2) h=.ok (.tup [.int ((y.1:Nat):Int),.int ((y.2.1:Nat):Int)]) h:=fun h=>N7;have s3:∀h,Cm (Aj y) (some 2) none h=.ok (.tup [.int ((y.2.2.1:Nat):Int),.int ((y.2.2.2:Nat):Int)]) h:=fun h=>Lp;obtain ⟨p1,e1⟩:∃b,Ds x.1 y.1 y.2.1=b:=⟨_,rfl⟩
 obtain ⟨p2,e2⟩:∃b,Ds x.2.1 y.1 y.2.1=b:=⟨_,rfl⟩
 obtain ⟨p3,e3⟩:∃b,Ds x.2.2.1 y.2.2.1 y.2.2.2=b:=⟨_,rfl⟩
 obtain ⟨p4,e4⟩:∃b,Ds x.2.2.2 y.2.2.1 y.2.2.2=b:=⟨_,rfl⟩
 unfold cl;rw [e1,e2,e3,e4];simp [i0,s2,TZ,e1];cases p1<;>cases p2<;>cases p3<;>cases p4<;>simp [i0,i1,i2,i3,s2,s3,TZ,e1,e2,e3,e4,Sm.refl]
def CA (x:Ap) (ts:List Ap):Bool:=!ts.any (cl x)
theorem T3 {x:Ap} {ts:List Ap} {l:Nat} (hz:ts.length≤1000) (e:h[l]?=some (.lst (ts.map Aj))):Pu (Hm [Aj x,.loc l] h) h (.bl (CA x ts)):=by
 change Wp (AL 2 (SB) [Aj x,.loc l] h) _;refine Eq.mpr A9 ?_;simp;refine Pu.wp (Zf (src:=[(l,ts.map Aj)]) (xs:=ts) (φ:=Aj) (cl x) (fun y=>[some (Aj y),some (Aj x)]) ?_ (fun y _=>rfl) (fun y _ h' s'=>?_) (Lm hz)) fun h2 s2=>?_
 ·simp [CJ,DF e];exact ⟨.refl _,fun h' s'=>Dl (s' _ _ e)⟩
 ·simp [Pu];exact Zcz
 ·simp [CA];exact s2
def Bh (L:List Ap):List Ap:=L.foldl (fun t x=>if CA x t then t++[x] else t) []
theorem T4 {L:List Ap} {x:Ap}:Bh (L++[x])=if CA x (Bh L) then Bh L++[x] else Bh L:=by unfold Bh;rw [Jq];rfl
theorem N8:∀{L:List Ap},(Bh L).length≤L.length:=by
 have key:∀(L t:List Ap),(L.foldl (fun t x=>if CA x t then t++[x] else t) t).length≤t.length+L.length:=fun L=>by
  induction L with
  |nil=>intro t;simp
  |cons x L ih=>
   intro t;rw [EF,DN];refine Br (ih _) ?_;split
   ·simp;omega
   ·omega
 intro L;have:=key L [];unfold Bh;simpa using this
end
section
variable {H W:Nat} {h:HD} {f:Nat→Nat→Bool}
theorem N9 {n k x:Nat} {xs:List Nat} (h:(List.range n).drop k=x::xs):x=k∧k<n∧xs=(List.range n).drop (k+1):=by
 have hk:k<n:=by have:=congrArg List.length h;simp at this;omega
 rw [Ht (by simpa using hk)] at h;simp at h;exact ⟨h.1.symm,hk,h.2.symm⟩
theorem Oa {n k:Nat} (hk:k≤n) (h:(List.range n).drop k=[]):k=n:=by have:=congrArg List.length h;simp at this;omega
theorem ZcA {a b:Bool}:BU (lit a) (lit b) h=.ok (.bl (Bool.xor a b)) h:=by cases a<;>cases b<;>rfl
end
def G4 (W:Nat) (f:Nat→Nat→Bool) (a b c:Nat):List Ap:=((List.range (W - (c+1))).map fun e=>(a,b,c,c+1+e)).filter (BX f)
def G3 (W:Nat) (f:Nat→Nat→Bool) (a b n:Nat):List Ap:=(List.range n).flatMap (G4 W f a b)
def G2 (W:Nat) (f:Nat→Nat→Bool) (a n:Nat):List Ap:=(List.range n).flatMap fun i=>G3 W f a (a+1+i) W
def G1 (H W:Nat) (f:Nat→Nat→Bool) (n:Nat):List Ap:=(List.range n).flatMap fun a=>G2 W f a (H - (a+1))
section
variable {H W:Nat} {h:HD} {f:Nat→Nat→Bool}
theorem ZcB:G1 H W f H=(AF H W).filter (BX f):=by unfold G1 G2 G3 G4 AF;simp only [List.filter_flatMap]
theorem T6 {a b c:Nat} (hw:W≤8):(G4 W f a b c).length≤8:=by unfold G4;have:=Jk (BX f) ((List.range (W - (c+1))).map fun e=>(a,b,c,c+1+e));simp at this;omega
theorem T7 {a b n:Nat} (hw:W≤8):(G3 W f a b n).length≤n*8:=by have:=Ln (F:=G4 W f a b) (k:=8) (l:=List.range n) fun c _=>T6 hw;rw [FV] at this;exact this
theorem T8 {a n:Nat} (hw:W≤8):(G2 W f a n).length≤n*64:=by have:=Ln (F:=fun i=>G3 W f a (a+1+i) W) (k:=64) (l:=List.range n) fun c _=>Br (T7 hw) (by omega);rw [FV] at this;exact this
theorem ZcC {n:Nat} (hh:H≤8) (hw:W≤8):(G1 H W f n).length≤n*512:=by have:=Ln (F:=fun a=>G2 W f a (H - (a+1))) (k:=512) (l:=List.range n) fun c _=>Br (T8 hw) (by omega);rw [FV] at this;exact this
theorem ZcD {a b n:Nat}:G3 W f a b (n+1)=G3 W f a b n++G4 W f a b n:=by unfold G3;rw [HC,GD];simp
theorem ZcE {a n:Nat}:G2 W f a (n+1)=G2 W f a n++G3 W f a (a+1+n) W:=by unfold G2;rw [HC,GD];simp
theorem ZcF {n:Nat}:G1 H W f (n+1)=G1 H W f n++G2 W f n (H - (n+1)):=by unfold G1;rw [HC,GD];simp
def Ob (W:Nat) (f:Nat→Nat→Bool) (a b:Nat):List D:=(List.range W).map fun j=>lit (Bool.xor (f a j) (f b j))
inductive F1 (H W:Nat) (f:Nat→Nat→Bool) (h:HD) (xs:List Nat) (ρ:Ag) (h':HD):Prop where
 |mk (n l:Nat) (y2 y3 y4 y5:Option D) (ex:xs=(List.range H).drop n) (hn:n≤H) (er:ρ=[some (bD H W f),some (.loc l),y2,y3,y4,y5]) (s:Sm h h') (e:h'[l]?=some (.lst ((G1 H W f n).map Aj))):F1 H W f h xs ρ h'
inductive F2 (H W:Nat) (f:Nat→Nat→Bool) (h:HD) (a:Nat) (xs:List Nat) (ρ:Ag) (h':HD):Prop where
 |mk (n l:Nat) (y3 y4 y5:Option D) (ex:xs=(List.range (H - (a+1))).drop n) (hn:n≤H - (a+1)) (er:ρ=[some (bD H W f),some (.loc l),some (.int ((a:Nat):Int)),y3,y4,y5]) (s:Sm h h') (e:h'[l]?=some (.lst ((G1 H W f a++G2 W f a n).map Aj))):F2 H W f h a xs ρ h'
inductive F3 (H W:Nat) (f:Nat→Nat→Bool) (h:HD) (a i m:Nat) (xs:List Nat) (ρ:Ag) (h':HD):Prop where
 |mk (n l:Nat) (y5:Option D) (ex:xs=(List.range W).drop n) (hn:n≤W) (er:ρ=[some (bD H W f),some (.loc l),some (.int ((a:Nat):Int)),some (.int ((a+1+i:Nat):Int)),some (.loc m),y5]) (s:Sm h h') (em:h'[m]?=some (.lst (Ob W f a (a+1+i)))) (e:h'[l]?=some (.lst ((G1 H W f a++G2 W f a i++G3 W f a (a+1+i) n).map Aj))):F3 H W f h a i m xs ρ h'
theorem ZcG {a b:Bool} {Q:D→HD→Prop} (q:Q (lit (Bool.xor a b)) h):Wp (Am (lit a) (lit b) h) fun x h1=>Wp (DS x (.int 2) h1) Q:=by
 have key:∀a b:Bool,((if a then 1 else 0:Int)+(if b then 1 else 0)) % 2=if Bool.xor a b then 1 else 0:=by decide
 refine Al (show Am (lit a) (lit b) h=.ok (.int ((if a then 1 else 0)+(if b then 1 else 0))) h from rfl) ?_;rw [AI];refine Al (Gg (by decide)) ?_;rw [AI,key];exact q
theorem ZcH {Q:D→HD→Prop} (hh:1≤H∧H≤8) (hw:1≤W∧W≤8) (q:∀l h',Sm h h'→h'[l]?=some (.lst (((AF H W).filter (BX f)).map Aj))→Q (.loc l) h'):Wp (K2 [bD H W f] h) Q:=by
 change Wp (AL 6 Sv [bD H W f] h) _;refine Eq.mpr A9 ?_;simp [-Ah];refine Av (by simp) fun l h1 s1 e1 _ _=>?_;refine Eq.mpr Ah ?_;refine Eq.mpr BA ?_;refine CI (src:=[]) (xs:=List.range H) (fun i=>.int ((i:Nat):Int)) (F1 H W f h) ?_ (fun ys ρ h' _=>Dk) ?_ ?_
 ·simp [FO,Ee (show H≤1000 by omega)];exact ⟨0,l,_,_,_,_,by simp,by omega,rfl,s1,e1⟩
 ·rintro a xs ρ h2 ⟨n,l,y2,y3,y4,y5,ex,hn,rfl,s2,e2⟩;obtain ⟨rfl,ha,rfl⟩:=N9 ex.symm;refine ⟨_,rfl,?_⟩;refine CI (src:=[]) (xs:=List.range (H - (a+1))) (fun i=>.int ((a+1+i:Nat):Int)) (F2 H W f h a) ?_ (fun ys ρ h' _=>Dk) ?_ ?_
  ·simp [FO];rw [show (a:Int)+1=((a+1:Nat):Int) by omega,Lo (by omega) (by omega)];exact ⟨rfl,0,l,_,_,_,by simp,by omega,rfl,s2,by unfold G2;simpa using e2⟩
  ·rintro i xs ρ h3 ⟨n,l3,y3,y4,y5,ex,hn,rfl,s3,e3⟩;obtain ⟨rfl,hi,rfl⟩:=N9 ex.symm;refine ⟨_,rfl,?_⟩;refine Eq.mpr BA ?_;refine Eq.mpr GZ ?_;refine Ef (src:=[]) (xs:=List.range W) (φ:=fun j=>.tup [lit (f a j),lit (f (a+1+i) j)]) (fun _=>true) (fun j=>lit (Bool.xor (f a j) (f (a+1+i) j))) (fun j=>[some (lit (f a j)),some (lit (f (a+1+i) j))]) ?_ (sz hw.2) (fun x _=>rfl) (fun x _ h' s'=>(.ok:Pu (.ok true h') h' true)) (fun x _ _ h' s'=>?_) fun m h4 s4 e4=>?_
   ·simp [GA ha,GA (show a+1+i<H by omega)];refine Al (show Ao (bD H W f) (.int ((a:Int)+1+(i:Int))) h3=.ok (Bb W (f (a+1+i))) h3 from by rw [show (a:Int)+1+(i:Int)=((a+1+i:Nat):Int) by omega];exact GA (by omega)) ?_;rw [AI];refine Al (Qn (n:=W) (e:=fun j=>lit (f a j)) (e':=fun j=>lit (f (a+1+i) j)) (show Cd (Bb W (f a)) h3=some (_,[]) from MX) (show Cd (Bb W (f (a+1+i))) h3=some (_,[]) from MX)) ?_;rw [AI];exact ⟨rfl,.refl _,fun h' s'=>Dk⟩
   ·simp [Pu];exact ZcG ⟨rfl,.refl _⟩
   rw [CY] at e4;refine Eq.mpr Ah ?_;refine CI (src:=[]) (xs:=List.range W) (fun c=>.int ((c:Nat):Int)) (F3 H W f h a i m) ?_ (fun ys ρ h' _=>Dk) ?_ ?_
   ·simp [E3 e4,Ee (show W≤1000 by omega)];exact ⟨0,l3,y5,by simp,by omega,by simp,s3.trans s4,e4,by unfold G3;simpa using s4 _ _ e3⟩
   ·rintro c xs ρ h5 ⟨n,l5,y5,ex,hn,rfl,s5,em5,e5⟩;obtain ⟨rfl,hc,rfl⟩:=N9 ex.symm;refine ⟨_,rfl,?_⟩;have ixm:∀(h':HD) (j:Nat),Sm h5 h'→j<W→Ao (.loc m) (.int (j:Nat)) h'=.ok (lit (Bool.xor (f a j) (f (a+1+i) j))) h':=fun h' j s hj=>EZ (s _ _ em5) (by unfold Ob;simp [Hz,hj]);simp;refine Ef (src:=[]) (xs:=List.range (W - (c+1))) (φ:=fun e=>.int ((c+1+e:Nat):Int)) (fun e=>BX f (a,a+1+i,c,c+1+e)) (fun e=>Aj (a,a+1+i,c,c+1+e)) (fun e=>[some (.int ((c+1+e:Nat):Int)),some (.int ((a:Nat):Int)),some (.int ((a+1+i:Nat):Int)),some (.int ((c:Nat):Int)),some (.loc m)]) ?_ (Lm (by simp;omega)) (fun x _=>rfl) (fun x hx h' s'=>?_) (fun x _ _ h' s'=>?_) fun l6 h6 s6 e6=>?_
    ·simp [E3 em5];rw [show (c:Int)+1=((c+1:Nat):Int) by omega];unfold Ob;rw [A0,FV,Lo (by omega) (by omega)];exact ⟨rfl,.refl _,fun h' s'=>Dk⟩
    ·have hx:=qaZ.mp hx;simp only [Pu,Yp,Ii,Ih,Ig,ixm h' c s' hc,AI,ixm h' (c+1+x) s' (by omega),ZcA];refine ⟨?_,.refl _⟩;unfold BX;simp only;generalize f a c=a1;generalize f a (c+1+x)=a2;generalize f (a+1+i) c=a3;generalize f (a+1+i) (c+1+x)=a4;revert a1 a2 a3 a4;decide
    ·simp [Pu,Aj,Sm.refl]
    ·refine Al (Ck (s6 _ _ e5) e6) ?_;have b1:=ZcC (f:=f) (n:=a) hh.2 hw.2;have b2:=T8 (f:=f) (a:=a) (n:=i) hw.2;have b3:=T7 (f:=f) (a:=a) (b:=a+1+i) (n:=c) hw.2;have eg:((List.range (W - (c+1))).filter fun e=>BX f (a,a+1+i,c,c+1+e)).map (fun e=>Aj (a,a+1+i,c,c+1+e))=(G4 W f a (a+1+i) c).map Aj:=by unfold G4;rw [List.filter_map,EI];rfl
     rw [eg];have b4:=T6 (f:=f) (a:=a) (b:=a+1+i) (c:=c) hw.2;refine Av (by simp;unfold sizeLine;omega) fun l7 h7 s7 e7 _ _=>?_;simp only [BD];refine ⟨c+1,l7,_,rfl,by omega,rfl,(s5.trans s6).trans s7,(s6.trans s7) _ _ em5,?_⟩;rw [e7,ZcD,←Fj,DY,DY]
     try rw [DY,DY]
   ·rintro ρ h5 ⟨n,l5,y5,ex,hn,rfl,s5,em5,e5⟩;have:=Oa hn ex.symm;subst this;refine ⟨i+1,l5,_,_,_,rfl,by omega,rfl,s5,?_⟩;rw [e5,ZcE,DY]
  ·rintro ρ h3 ⟨n,l3,y3,y4,y5,ex,hn,rfl,s3,e3⟩;have:=Oa hn ex.symm;subst this;refine ⟨a+1,l3,_,_,_,_,rfl,by omega,rfl,s3,?_⟩;rw [e3,ZcF]
 ·rintro ρ h2 ⟨n,l,y2,y3,y4,y5,ex,hn,rfl,s2,e2⟩;have:=Oa hn ex.symm;subst this;simp;rw [ZcB] at e2;exact q l h2 s2 e2
end
theorem ZcI {L:List Ap}:(∀x∈Bh L,x∈L)∧(Bh L).Pairwise (fun x y=>cl x y=false):=by
 have key:∀(L t:List Ap),t.Pairwise (fun x y=>cl x y=false)→(∀x∈L.foldl (fun t x=>if CA x t then t++[x] else t) t,x∈t∨x∈L)∧(L.foldl (fun t x=>if CA x t then t++[x] else t) t).Pairwise (fun x y=>cl x y=false):=fun L=>by
  induction L with
  |nil=>intro t ht;exact ⟨fun x hx=>.inl hx,ht⟩
  |cons y L ih=>
   intro t ht;rw [EF]
   by_cases z:CA y t=true
   ·rw [if_pos z];have hp:(t++[y]).Pairwise (fun x y=>cl x y=false):=by rw [List.pairwise_append];refine ⟨ht,List.pairwise_singleton _ _,fun a ha b hb=>?_⟩;rw [qaJ] at hb;subst hb;unfold CA at z;rw [Bool.not_eq_true',List.any_eq_false] at z;have:=z a ha;rw [Zcy];simpa using this
    obtain ⟨h1,h2⟩:=ih _ hp;refine ⟨fun x hx=>?_,h2⟩;rcases h1 x hx with z |z
    ·rcases qaP.mp z with z |z
     ·exact .inl z
     ·rw [qaJ] at z;subst z;exact .inr AK
    ·exact .inr (AN _ z)
   ·rw [if_neg z];obtain ⟨h1,h2⟩:=ih t ht;refine ⟨fun x hx=>?_,h2⟩;rcases h1 x hx with z |z
    ·exact .inl z
    ·exact .inr (AN _ z)
 obtain ⟨h1,h2⟩:=key L [] List.Pairwise.nil;refine ⟨fun x hx=>?_,h2⟩;rcases h1 x hx with z |z
 ·cases z
 ·exact z
theorem Sm.put {h h':HD} {l:Nat} {c:Cell} (s:Sm h h') (hl:h.length≤l):Sm h (h'.set l c):=fun k d ek=>by have:=(qa1.mp ek).1;rw [Be (by omega)];exact s k d ek
section
variable {H W:Nat} {h:HD} {f:Nat→Nat→Bool}
inductive T9 (H W:Nat) (f:Nat→Nat→Bool) (L:List Ap) (l lo:Nat) (h:HD) (xs:List Ap) (ρ:Ag) (h':HD):Prop where
 |mk (dn:List Ap) (y:Option D) (ex:dn++xs=L) (er:ρ=[some (bD H W f),some (.loc l),y]) (s:Sm h h') (e:h'[l]?=some (.lst ((Bh dn).map Aj))) (eo:h'[lo]?=some (.lst (L.map Aj))):T9 H W f L l lo h xs ρ h'
def Du (H W:Nat) (f:Nat→Nat→Bool):List Ap:=(AF H W).filter (BX f)
theorem Lq (hh:H≤8) (hw:W≤8):(Du H W f).length≤1000:=Br (Jk _ _) (N5 hh hw)
theorem ZcJ {Q:D→HD→Prop} (hh:1≤H∧H≤8) (hw:1≤W∧W≤8) (q:∀l h',Sm h h'→h'[l]?=some (.lst ((Bh (Du H W f)).map Aj))→h.length≤l→Q (.loc l) h'):Wp (Gy [bD H W f] h) Q:=by
 change Wp (AL 3 (NX) [bD H W f] h) _;refine Eq.mpr A9 ?_;simp [-Ah];refine Av (by simp) fun l h1 s1 e1 el _=>?_;refine Eq.mpr Ah ?_;refine Eq.mpr BA ?_;obtain ⟨d,h2,e2,lo,rfl,s2,f2⟩:=(Zcx (f:=f) (h:=h1) (Q:=fun d h'=>∃l,d=.loc l∧Sm h1 h'∧h'[l]?=some (.lst ((Du H W f).map Aj))) hh hw fun l h' s e=>⟨l,rfl,s,e⟩).ex;have hlen:=Lq (f:=f) hh.2 hw.2;have nlo:l≠lo∨Du H W f=[]:=by
  by_cases z:l=lo
  ·subst z;have:=s2 _ _ e1;rw [f2] at this;have:=Option.some.inj this;have:=Cell.lst.inj this;exact .inr (List.map_eq_nil_iff.mp this)
  ·exact .inl z
 refine CI (src:=[(lo,(Du H W f).map Aj)]) (xs:=Du H W f) Aj (T9 H W f (Du H W f) l lo h) ?_ (fun ys ρ h' i=>by obtain ⟨_,_,_,_,_,_,eo⟩:=i;exact Dl eo) ?_ ?_
 ·simp;refine Al e2 ?_;rw [AI,DF f2];exact ⟨rfl,⟨[],_,rfl,rfl,s1.trans s2,s2 _ _ e1,f2⟩⟩
 ·rintro x xs ρ h3 ⟨dn,y,ex,rfl,s3,e3,eo⟩;refine ⟨_,rfl,?_⟩;have hd:(Bh dn).length≤1000:=by have h1:=N8 (L:=dn);have h2:=congrArg List.length ex;simp at h2;omega
  have hne:l≠lo:=by
   rcases nlo with z |z
   ·exact z
   ·rw [z] at ex;simp at ex
  simp;refine (T3 hd e3).wp fun h4 s4=>?_;have gs:=T4 (L:=dn) (x:=x);cases z:CA x (Bh dn) with
  |true=>
   rw [z] at gs;have e4:=s4 _ _ e3;simp [EY e4];refine Al (G5 e4 (by simp;unfold sizeLine;omega)) ?_;rw [AI];have hl4:l<h4.length:=(qa1.mp e4).1;refine ⟨dn++[x],_,by simpa using ex,rfl,Sm.put (s3.trans s4) (by omega),?_,?_⟩
   ·rw [BZ hl4,gs];simp
   ·rw [Be hne];exact s4 _ _ eo
  |false=>rw [z] at gs;simp [BD];exact ⟨dn++[x],_,by simpa using ex,rfl,s3.trans s4,by rw [gs];simpa using s4 _ _ e3,s4 _ _ eo⟩
 ·rintro ρ h3 ⟨dn,y,ex,rfl,s3,e3,eo⟩;rw [Dx] at ex;subst ex;simp;exact q _ _ s3 e3 (by omega)
theorem ZcK {n:Nat} {i j:Int}:De n (.tup [.int i,.int j])=(decide (-1<i∧i<(n:Int))&&decide (i<j∧j<(n:Int))):=by unfold De Dc Dc Dc;simp
end
inductive Rz (b:Nat) (h:HD) (n L:Nat) (d:D):Prop where
 |mk (p:PyData) (f0:∀h',Smx b h h'→∀m,B1 h' (n+m) d=some p) (f1:p.showable=true) (f3:p.depth≤n) (f4:p.shown.length≤L):Rz b h n L d
inductive Ua (b:Nat) (h:HD) (n L:Nat) (ds:List D):Prop where
 |mk (ps:List PyData) (f0:∀h',Smx b h h'→∀m,Az (ds.map (B1 h' (n+m)))=some ps) (f1:PyData.showableAll ps=true) (f3:PyData.depthAll ps≤n) (f4:ps.length=ds.length) (f5:∀t∈PyData.shownAll ps,t.length≤L):Ua b h n L ds
theorem Oc {b:Nat} {n L:Nat}:∀{ds:List D},(∀d∈ds,Rz b h n L d)→Ua b h n L ds
 |[],_=>⟨[],fun _ _ _=>rfl,rfl,B8 _,rfl,fun t ht=>by cases ht⟩
 |d::ds,hd=>by
  obtain ⟨p,a1,a2,a4,a5⟩:=hd d AK;obtain ⟨ps,b1,b2,b4,b5,b6⟩:=Oc (fun x hx=>hd x (AN _ hx));refine ⟨p::ps,fun h' s m=>?_,by simp [PyData.showableAll,a2,b2],by simp only [PyData.depthAll];omega,by simp [b5],fun t ht=>?_⟩
  ·rw [AZ,a1 h' s m];simp only [Az,b1 h' s m];rfl
  ·simp only [PyData.shownAll] at ht;rcases qa5.mp ht with e |e
   ·rw [e];exact a5
   ·exact b6 t e
theorem ZcL {L k:Nat} {ds:List D} {ps:List PyData} (hk:ds.length≤k) (b5:ps.length=ds.length) (b6:∀t∈PyData.shownAll ps,t.length≤L):(Str.join ", " (PyData.shownAll ps)).length≤k*(L+2):=by
 have hl:(PyData.shownAll ps).length=ds.length:=by rw [Nb,b5]
 by_cases he:PyData.shownAll ps=[]
 ·rw [he];exact B8 _
 ·have h1:=join_length_add _ he;have h2:=QF b6;have h3:(PyData.shownAll ps).length*(L+2)≤k*(L+2):=LL _ (by rw [hl];exact hk);omega
theorem Od {b:Nat} {n L:Nat} (k:Nat) {ds:List D} (hd:∀d∈ds,Rz b h n L d) (hk:ds.length≤k):Rz b h (n+1) (k*(L+2)+3) (.tup ds):=by
 obtain ⟨ps,b1,b2,b4,b5,b6⟩:=Oc hd;refine ⟨.tuple ps,fun h' s m=>?_,by simpa [PyData.showable] using b2,by simp only [PyData.depth];omega,?_⟩
 ·rw [show n+1+m=(n+m)+1 by omega]
  show (Az (ds.map (B1 h' (n+m)))).map PyData.tuple=_
  rw [b1 h' s m];rfl
 ·have hj:=ZcL hk b5 b6;simp only [PyData.shown,tupleText];rw [strLen_append,strLen_append];have e1:((("(":String):Str)).length=1:=rfl;have e2:(((if (PyData.shownAll ps).length==1 then ",)" else ")":String):Str)).length≤2:=by split<;>decide
  omega
theorem Ub {L:Nat}:∀{ts:List Str},(∀t∈ts,t.length≤L)→(ts.map (·.length)).sum≤ts.length*L
 |[],_=>B8 _
 |t::ts,h=>by have h1:=h t AK;have h2:=Ub (fun x hx=>h x (AN _ hx)) (ts:=ts) (L:=L);rw [AZ,List.sum_cons,DN,HG];omega
theorem Hq {b:Nat} {n L l:Nat} (k:Nat) {ds:List D} (hl:l≠b) (el:h[l]?=some (.lst ds)) (hd:∀d∈ds,Rz b h n L d) (hk:ds.length≤k):Rz b h (n+1) (k*(L+2)+3) (.loc l):=by
 obtain ⟨ps,b1,b2,b4,b5,b6⟩:=Oc hd;refine ⟨.list ps,fun h' s m=>?_,by simpa [PyData.showable] using b2,by simp only [PyData.depth];omega,?_⟩
 ·rw [show n+1+m=(n+m)+1 by omega]
  show (match h'[l]? with
   |some (.lst ds)=>(Az (ds.map (B1 h' (n+m)))).map PyData.list
   |_=>none)=_
  rw [s _ _ hl el]
  show (Az (ds.map (B1 h' (n+m)))).map PyData.list=_
  rw [b1 h' s m];rfl
 ·have hj:=listText_len_le (PyData.shownAll ps);have hl:(PyData.shownAll ps).length=ds.length:=by rw [Nb,b5]
  have hs:=Ub b6;have h3:(PyData.shownAll ps).length*(L+2)≤k*(L+2):=LL _ (by rw [hl];exact hk);rw [Nat.mul_add] at h3
  show (listText (PyData.shownAll ps)).length≤_
  omega
theorem B2 {b:Nat} {n n' L L':Nat} (x:Rz b h n L d) (hn:n≤n') (hl:L≤L'):Rz b h n' L' d:=by obtain ⟨p,a1,a2,a4,a5⟩:=x;exact ⟨p,fun h' s m=>by have:=a1 h' s (n' - n+m);rw [show n+(n' - n+m)=n' + m by omega] at this;exact this,a2,Br a4 hn,Br a5 hl⟩
theorem Rz.smx {b:Nat} {n L:Nat} (x:Rz b h n L d) (s:Smx b h h'):Rz b h' n L d:=by obtain ⟨p,a1,a2,a4,a5⟩:=x;exact ⟨p,fun h2 s2 m=>a1 h2 (s.trans s2) m,a2,a4,a5⟩
theorem Oe {b:Nat} {n L:Nat} (x:Rz b h n L d) (hn:n≤8) (hl:L≤sizeLine):∃t:Str,∀h',Smx b h h'→BM d h'=.ok (.str t) h':=by obtain ⟨p,a1,a2,a4,a5⟩:=x;refine ⟨p.shown,fun h' s=>?_⟩;have e:=a1 h' s (8 - n);rw [show n+(8 - n)=8 by omega] at e;unfold BM;rw [e];exact if_pos ⟨a2,by omega,Br a5 hl⟩
theorem IV {b:Nat} {h:HD} {L:Nat} {p:PyData} (e:∀h m,B1 h m d=some p) (h1:p.showable=true) (h3:p.depth=0) (h4:p.shown.length≤L):Rz b h 0 L d:=
 ⟨p,fun h' _ m=>e h' _,h1,by rw [h3];exact Ax _,h4⟩
section
variable {b:Nat} {h:HD}
theorem Lr {i:Int} (h1:0≤i) (h2:i<100):Rz b h 0 3 (.int i):=by
 have key:∀k:Fin 100,PyData.showable (.int ((k.val:Nat):Int))=true∧(PyData.shown (.int ((k.val:Nat):Int))).length≤3:=by decide +kernel
 obtain ⟨n,rfl⟩:∃n:Nat,i=(n:Int):=⟨i.toNat,by omega⟩
 have k:=key ⟨n,by omega⟩;exact IV (p:=.int (n:Int)) (fun h m=>by cases m<;>rfl) k.1 rfl k.2
theorem ZcM {v:Bool}:Rz b h 0 5 (.bl v):=IV (p:=.bool v) (fun h m=>by cases m<;>rfl) rfl rfl (by cases v<;>decide)
theorem Of:Rz b h 0 5 .non:=IV (p:=.none) (fun h m=>by cases m<;>rfl) rfl rfl (by decide)
theorem ZcN {L:Nat} (hx:(PyData.shown (.str x)).length≤L):Rz b h 0 L (.str x):=IV (p:=.str x) (fun h m=>by cases m<;>rfl) rfl rfl hx
theorem Uc {i:Int} {L:Nat} (h1:PyData.showable (.int i)=true) (hx:(PyData.shown (.int i)).length≤L):Rz b h 0 L (.int i):=IV (p:=.int i) (fun h m=>by cases m<;>rfl) h1 rfl hx
theorem Ud:Rz b h 1 5 .edic:=⟨.dict [],fun h' _ m=>by cases m<;>rfl,rfl,by decide,by decide⟩
end
abbrev Li:=Nat×Nat
def AH (x:Ap):List Li:=[(x.1,x.2.2.1),(x.1,x.2.2.2),(x.2.1,x.2.2.1),(x.2.1,x.2.2.2)]
def BY (k:Li):D:=.tup [.int ((k.1:Nat):Int),.int ((k.2:Nat):Int)]
def Fb (k:Li):Kyd:=.t [((k.1:Nat):Int),((k.2:Nat):Int)]
def kv (k:Li):Kyd×D:=(Fb k,.bl true)
theorem ZcO {k k':Li} (e:Fb k=Fb k'):k=k':=by
 unfold Fb at e;injection e with e
 injection e with e1 e
 injection e with e2 _
 exact Prod.ext (Int.ofNat.inj e1) (Int.ofNat.inj e2)
theorem Ue {ks:List Li} {k:Li}:((ks.map kv).any fun p=>decide (p.1=Fb k))=decide (k∈ks):=by
 rw [qb0,List.any_eq_true,decide_eq_true_iff];constructor
 ·rintro ⟨p,hp,e⟩;obtain ⟨k',hk,rfl⟩:=qaI.mp hp;have:=ZcO (of_decide_eq_true e)
  rwa [←this]
 ·exact fun hk=>⟨kv k,qaI.mpr ⟨k,hk,rfl⟩,decide_eq_true rfl⟩
theorem ZcP {ks:List Li} {k:Li} (h:k∉ks):Cw (ks.map kv) (Fb k) (.bl true)=(ks++[k]).map kv:=by unfold Cw;rw [Ue,if_neg (by simpa using h),Fj];rfl
theorem Og:∀{more ks:List Li},more.Nodup→(∀k∈more,k∉ks)→(more.map kv).foldl (fun acc p=>Cw acc p.1 p.2) (ks.map kv)=(ks++more).map kv
 |[],ks,_,_=>by simp
 |k::more,ks,nd,h=>by
  rw [qbG] at nd;rw [AZ,EF]
  show (more.map kv).foldl _ (Cw (ks.map kv) (Fb k) (.bl true))=_
  rw [ZcP (h k (.head _)),Og nd.2 fun j hj z=>?_]
  ·simp
  ·rcases qaP.mp z with z |z
   ·exact h j (.tail _ hj) z
   ·rw [qaJ] at z;subst z;exact nd.1 hj
theorem Ug {ks:List Li}:Es (ks.map kv)=true:=by unfold Es;rw [qaQ];intro p hp;obtain ⟨k,_,rfl⟩:=qaI.mp hp;rfl
theorem ZcQ {ks:List Li} (h:∀k∈ks,k.1<8∧k.2<8):IJ (ks.map kv)=true:=by
 unfold IJ;rw [qaQ];intro p hp;obtain ⟨k,hk,rfl⟩:=qaI.mp hp;have:=h k hk
 show decide _=true
 exact decide_eq_true (by omega)
theorem Oh {H W:Nat} {x:Ap} (ok:By H W x):(AH x).Nodup:=by obtain ⟨a,b,c,e⟩:=x;obtain ⟨h1,h2,h3,h4⟩:=ok;simp only at h1 h2 h3 h4;simp [AH];omega
theorem Uh {H W:Nat} {x:Ap} (ok:By H W x) (hh:H≤8) (hw:W≤8):∀k∈AH x,k.1<8∧k.2<8:=by obtain ⟨a,b,c,e⟩:=x;obtain ⟨h1,h2,h3,h4⟩:=ok;simp only at h1 h2 h3 h4;intro k hk;simp only [AH,qa5,Bw,or_false] at hk;rcases hk with rfl |rfl |rfl |rfl<;>simp only<;>omega
theorem cl_li {x y:Ap}:cl x y=true↔∃k∈AH x,k∈AH y:=by
 obtain ⟨a,b,c,e⟩:=x;obtain ⟨a',b',c',e'⟩:=y;unfold cl Ds AH;simp only [B3,Bool.or_eq_true,beq_iff_eq,qa5,Bw,or_false];constructor
 ·rintro ⟨(h |h) |(h |h),(g |g) |(g |g)⟩<;>subst h<;>subst g
  ·exact ⟨_,.inl rfl,.inl rfl⟩
  ·exact ⟨_,.inl rfl,.inr (.inl rfl)⟩
  ·exact ⟨_,.inr (.inl rfl),.inl rfl⟩
  ·exact ⟨_,.inr (.inl rfl),.inr (.inl rfl)⟩
  ·exact ⟨_,.inl rfl,.inr (.inr (.inl rfl))⟩
  ·exact ⟨_,.inl rfl,.inr (.inr (.inr rfl))⟩
  ·exact ⟨_,.inr (.inl rfl),.inr (.inr (.inl rfl))⟩
  ·exact ⟨_,.inr (.inl rfl),.inr (.inr (.inr rfl))⟩
  ·exact ⟨_,.inr (.inr (.inl rfl)),.inl rfl⟩
  ·exact ⟨_,.inr (.inr (.inl rfl)),.inr (.inl rfl)⟩
  ·exact ⟨_,.inr (.inr (.inr rfl)),.inl rfl⟩
  ·exact ⟨_,.inr (.inr (.inr rfl)),.inr (.inl rfl)⟩
  ·exact ⟨_,.inr (.inr (.inl rfl)),.inr (.inr (.inl rfl))⟩
  ·exact ⟨_,.inr (.inr (.inl rfl)),.inr (.inr (.inr rfl))⟩
  ·exact ⟨_,.inr (.inr (.inr rfl)),.inr (.inr (.inl rfl))⟩
  ·exact ⟨_,.inr (.inr (.inr rfl)),.inr (.inr (.inr rfl))⟩
 ·rintro ⟨k,h,g⟩;rcases h with rfl |rfl |rfl |rfl<;>simp only [Prod.mk.injEq] at g<;>omega
theorem apt_li {x:Ap} {ts:List Ap}:CA x ts=true↔∀k∈AH x,k∉ts.flatMap AH:=by
 unfold CA;rw [Bool.not_eq_true',List.any_eq_false];constructor
 ·intro h k hk z;obtain ⟨y,hy,hky⟩:=qd1.mp z;exact h y hy (cl_li.mpr ⟨k,hk,hky⟩)
 ·intro h y hy z;obtain ⟨k,hk,hky⟩:=cl_li.mp z;exact h k hk (qd1.mpr ⟨y,hy,hky⟩)
section
variable {H W:Nat} {h:HD} {f:Nat→Nat→Bool}
theorem Oi {x:Ap} {Q:D→HD→Prop} (q:∀l h',Sm h h'→h'[l]?=some (.lst ((AH x).map BY))→l=h.length→Q (.loc l) h'):Wp (FM [Aj x] h) Q:=by change Wp (AL 1 Ss [Aj x] h) _;refine Eq.mpr A9 ?_;have i0:∀h,Ao (Aj x) (.int 0) h=.ok (.int ((x.1:Nat):Int)) h:=fun h=>rfl;have i1:∀h,Ao (Aj x) (.int 1) h=.ok (.int ((x.2.1:Nat):Int)) h:=fun h=>rfl;have i2:∀h,Ao (Aj x) (.int 2) h=.ok (.int ((x.2.2.1:Nat):Int)) h:=fun h=>rfl;have i3:∀h,Ao (Aj x) (.int 3) h=.ok (.int ((x.2.2.2:Nat):Int)) h:=fun h=>rfl;simp [i0,i1,i2,i3];exact Av (by simp) fun l h1 s1 e1 el _=>q l h1 s1 e1 el
theorem ZcR {l:Nat} {ks:List Li} {k:Li} {fz:Bool} (e:h[l]?=some (.dic fz (ks.map kv))):Eu false (BY k) (.loc l) h=.ok (.bl (decide (k∈ks))) h:=by
 have e1:Eu false (BY k) (.loc l) h=if Es (ks.map kv) then .ok (.bl (Bool.xor false (B6 (ks.map kv) (Fb k)).isSome)) h else .stuck:=by simp only [Eu,e,BY,LS.keyT,Hi,EG,Fb]
 rw [e1,if_pos Ug,←Za2,Ue,Bool.false_xor]
def IW (k:Li):D:=.tup [BY k,.bl true]
theorem Ui:∀{ks:List Li},Az ((ks.map IW).map E6)=some (ks.map kv)
 |[]=>rfl
 |k::ks=>by have e:E6 (IW k)=some (kv k):=rfl;simp only [AZ,Az,e,Ui,EG]
theorem ZcS {l:Nat} {ks:List Li} (e:h[l]?=some (.lst (ks.map IW))) (nd:ks.Nodup):Gu (.loc l) h=.ok (.loc h.length) (h++[.dic false (ks.map kv)]):=by
 have e1:Gu (.loc l) h=IC ((ks.map kv).foldl (fun acc p=>Cw acc p.1 p.2) (([]:List Li).map kv)) h:=by simp only [Gu,e,Ui,Dy]
 rw [e1,Og nd (fun _ _=>Bw)];rfl
theorem ZcT {l d:Nat} {ks more:List Li} {fz:Bool} (ne:l≠d) (e1:h[l]?=some (.dic false (ks.map kv))) (e2:h[d]?=some (.dic fz (more.map kv))) (nd:more.Nodup) (fr:∀k∈more,k∉ks) (lt:∀k∈more,k.1<8∧k.2<8) (hz:ks.length+more.length≤100000):
 FJ (.loc l) (.loc d) h=.ok .non (h.set l (.dic false ((ks++more).map kv))):=by
 simp only [FJ,if_neg ne,e1,e2];rw [if_pos ⟨Ug,ZcQ lt,by rw [A0,A0];unfold sizeLine;omega⟩,Og nd fr]
theorem Ls {l k:Nat} {F:Bool→Bool} (e:h[l]?=some (.lst ds)) (e2:h[k]?=some (.lst [])):CO F (.loc l) (.loc k) h=.ok (.bl (F (decide (ds=[])))) h:=by
 simp only [CO,e,e2];cases ds with
 |nil=>rfl
 |cons x ds=>rfl
inductive Uj (L:List Ap) (lf d t:Nat) (h:HD) (xs:List Ap) (ρ:Ag) (h':HD):Prop where
 |mk (dn:List Ap) (y3 y4:Option D) (ex:dn++xs=L) (er:ρ=[some (.loc lf),some (.loc d),some (.loc t),y3,y4]) (s:Sm h h') (ed:h'[d]?=some (.dic false (((Bh dn).flatMap AH).map kv))) (et:h'[t]?=some (.lst ((Bh dn).map Aj))):Uj L lf d t h xs ρ h'
theorem Oj:∀{ts:List Ap},(ts.flatMap AH).length=4*ts.length
 |[]=>rfl
 |x::ts=>by rw [Jp,Dg,Oj,DN];simp [AH];omega
theorem Uk {L:List Ap} {lf:Nat} {Q:D→HD→Prop} (hh:H≤8) (hw:W≤8) (ok:∀x∈L,By H W x) (hz:L.length≤1000) (e:h[lf]?=some (.lst (L.map Aj))) (q:∀l h',Sm h h'→h'[l]?=some (.lst ((Bh L).map Aj))→h.length≤l→Q (.loc l) h'):Wp (Hn [.loc lf] h) Q:=by
 change Wp (AL 5 SL [.loc lf] h) _;refine Eq.mpr A9 ?_;simp [-Ah];refine Av (by simp) fun t h1 s1 e1 el1 eh1=>?_;refine Eq.mpr Ah ?_;refine Eq.mpr BA ?_;have ht:t=h.length+1:=by rw [el1];simp
 have sh:Sm h h1:=(Sm.app _ _).trans s1;refine CI (src:=[(lf,L.map Aj)]) (xs:=L) Aj (Uj L lf h.length t h) ?_ (fun ys ρ h' i=>by obtain ⟨_,_,_,_,_,s,_,_⟩:=i;exact Dl (s _ _ e)) ?_ ?_
 ·simp;refine Al (DF (sh _ _ e)) ?_;exact ⟨rfl,⟨[],_,_,rfl,rfl,sh,s1 _ _ (by simp [Bh]),e1⟩⟩
 ·rintro x xs ρ h3 ⟨dn,y3,y4,ex,rfl,s3,ed,et⟩;refine ⟨_,rfl,?_⟩;have hx:x∈L:=by rw [←ex];simp
  have hdn:(Bh dn).length≤1000:=by have h1:=N8 (L:=dn);have h2:=congrArg List.length ex;simp at h2;omega
  have gs:=T4 (L:=dn) (x:=x);simp [-Ah];refine Oi fun m h4 s4 e4 el4=>?_;refine Eq.mpr Ah ?_;simp [-Ah];refine Ef (src:=[(m,(AH x).map BY)]) (xs:=AH x) (φ:=BY) (fun k=>decide (k∈(Bh dn).flatMap AH)) BY (fun k=>[some (BY k),some (.loc h.length)]) ?_ (by simp [AH]) (fun k _=>rfl) (fun k _ h' s'=>?_) (fun k _ _ h' s'=>?_) fun l5 h5 s5 e5=>?_
  ·simp;refine Al (DF e4) ?_;exact ⟨rfl,.refl _,fun h' s'=>Dl (s' _ _ e4)⟩
  ·simp [Pu,ZcR (s' _ _ (s4 _ _ ed)),Sm.refl]
  ·simp [Pu,Sm.refl]
  refine Av (by simp) fun l6 h6 s6 e6 el6 _=>?_;refine Al (Ls (s6 _ _ e5) e6) ?_;rw [AI];have s36:Sm h3 h6:=(s4.trans s5).trans s6;have et6:=s36 _ _ et;have ed6:=s36 _ _ ed;have em6:=s6 _ _ (s5 _ _ e4);have hl6:t<h6.length:=(qa1.mp et6).1;have hl3:t<h3.length:=(qa1.mp et).1;cases z:CA x (Bh dn) with
  |true=>
   rw [z] at gs;have fe:(AH x).filter (fun k=>decide (k∈(Bh dn).flatMap AH))=[]:=qcA.mpr fun k hk q=>apt_li.mp z k hk (of_decide_eq_true q);rw [fe];simp [-Ah,EY et6];refine Al (G5 et6 (by simp;unfold sizeLine;omega)) ?_;rw [AI];refine Eq.mpr Ah ?_;have gm:(h6.set t (.lst ((Bh dn).map Aj++[Aj x])))[m]?=some (.lst ((AH x).map BY)):=by rw [Be (by omega)];exact em6
   have gd:(h6.set t (.lst ((Bh dn).map Aj++[Aj x])))[h.length]?=some (.dic false (((Bh dn).flatMap AH).map kv)):=by rw [Be (by omega)];exact ed6
   have gt:(h6.set t (.lst ((Bh dn).map Aj++[Aj x])))[t]?=some (.lst ((Bh dn).map Aj++[Aj x])):=BZ hl6;have sg:Sm h (h6.set t (.lst ((Bh dn).map Aj++[Aj x]))):=Sm.put (s3.trans s36) (by omega);generalize (h6.set t (.lst ((Bh dn).map Aj++[Aj x])))=g at *;simp [-Ah,ZaS gd];refine Ef (src:=[(m,(AH x).map BY)]) (xs:=AH x) (φ:=BY) (fun _=>true) IW (fun k=>[some (BY k)]) ?_ (by simp [AH]) (fun k _=>rfl) (fun k _ h' s'=>(.ok:Pu (.ok true h') h' true)) (fun k _ _ h' s'=>?_) fun l7 h7 s7 e7=>?_
   ·simp;refine Al (DF gm) ?_;exact ⟨rfl,.refl _,fun h' s'=>Dl (s' _ _ gm)⟩
   ·simp [Pu,IW,Sm.refl]
   ·rw [CY] at e7;have gd7:=s7 _ _ gd;have gl7:h.length<h7.length:=(qa1.mp gd7).1;refine Al (ZcS e7 (Oh (ok x hx))) ?_;rw [AI];have gd8:(h7++[Cell.dic false ((AH x).map kv)])[h.length]?=some (.dic false (((Bh dn).flatMap AH).map kv)):=Sm.app _ _ _ _ gd7;refine Al (ZcT (fz:=false) (more:=AH x) (by omega) gd8 (by simp) (Oh (ok x hx)) (apt_li.mp z) (Uh (ok x hx) hh hw) (by rw [Oj];simp [AH];omega)) ?_;rw [AI];simp only [BD];have s8:Sm h (h7++[Cell.dic false ((AH x).map kv)]):=(sg.trans s7).trans (Sm.app _ _);refine ⟨dn++[x],_,_,by simpa using ex,rfl,Sm.put s8 (Ax _),?_,?_⟩
    ·rw [BZ (by simp;omega),gs];simp
    ·rw [Be (by omega),gs];have:=(Sm.app h7 [Cell.dic false ((AH x).map kv)]) _ _ (s7 _ _ gt);simpa using this
  |false=>
   rw [z] at gs;have fe:¬(AH x).filter (fun k=>decide (k∈(Bh dn).flatMap AH))=[]:=fun q=>by rw [qcA] at q;have:CA x (Bh dn)=true:=apt_li.mpr fun k hk y=>q k hk (decide_eq_true y);rw [this] at z;cases z
   simp [fe,BD];exact ⟨dn++[x],_,_,by simpa using ex,rfl,s3.trans s36,by rw [gs];simpa using ed6,by rw [gs];simpa using et6⟩
 ·rintro ρ h3 ⟨dn,y3,y4,ex,rfl,s3,ed,et⟩;rw [Dx] at ex;subst ex;simp;exact q _ _ s3 et (by omega)
end
def GB (H W:Nat) (a b c e:Int):Prop:=(0≤a∧a<b∧b<(H:Int))∧0≤c∧c<e∧e<(W:Int)
instance {H W:Nat} {a b c e:Int}:Decidable (GB H W a b c e):=by unfold GB;infer_instance
def Cg (H W:Nat):D→Option Ap
 |.tup [.int a,.int b,.int c,.int e]=>if GB H W a b c e then some (a.toNat,b.toNat,c.toNat,e.toNat) else none
 |_=>none
theorem FQ {H W:Nat} {x:Ap} (h:Cg H W d=some x):d=Aj x∧By H W x:=by
 unfold Cg at h;split at h
 ·rename_i a b c e;split at h
  ·rename_i q;obtain ⟨⟨h1,h2,h3⟩,h4,h5,h6⟩:=q;cases h;have e1:((a.toNat:Nat):Int)=a:=DX h1;have e2:((b.toNat:Nat):Int)=b:=DX (by omega);have e3:((c.toNat:Nat):Int)=c:=DX h4;have e4:((e.toNat:Nat):Int)=e:=DX (by omega);refine ⟨?_,?_⟩
   ·unfold Aj;simp only [e1,e2,e3,e4]
   ·exact ⟨by simp only;omega,by simp only;omega,by simp only;omega,by simp only;omega⟩
  ·cases h
 ·cases h
theorem Ul {H W:Nat} {x:Ap} (ok:By H W x):Cg H W (Aj x)=some x:=by
 obtain ⟨a,b,c,e⟩:=x;obtain ⟨h1,h2,h3,h4⟩:=ok;simp only at h1 h2 h3 h4
 show (if GB H W (a:Nat) (b:Nat) (c:Nat) (e:Nat) then some (((a:Nat):Int).toNat,((b:Nat):Int).toNat,((c:Nat):Int).toNat,((e:Nat):Int).toNat) else none)=_
 rw [if_pos (by unfold GB;omega)];rfl
def Co (H W:Nat) (f:Nat→Nat→Bool) (d:D):Option Ap:=(Cg H W d).filter (BX f)
section
variable {H W:Nat} {h:HD} {f:Nat→Nat→Bool}
theorem ZcU {x:Ap} (h:Co H W f d=some x):d=Aj x∧By H W x∧BX f x=true:=by unfold Co at h;obtain ⟨h1,h2⟩:=Option.filter_eq_some_iff.mp h;exact ⟨(FQ h1).1,(FQ h1).2,h2⟩
theorem Um {x:Ap} (ok:By H W x) (o:BX f x=true):Co H W f (Aj x)=some x:=by unfold Co;rw [Ul ok,Option.filter_eq_some_iff];exact ⟨rfl,o⟩
theorem ZcV {x1 x2 x3 x4:D}:(Cg H W (.tup [x1,x2,x3,x4])).isSome=(De H (.tup [x1,x2])&&De W (.tup [x3,x4])):=by
 have two:∀{n:Nat} {x y:D},De n (.tup [x,y])=true↔∃i j:Int,x=.int i∧y=.int j∧0≤i∧i<j∧j<(n:Int):=by
  intro n x y;cases x with
  |int i=>
   cases y with
   |int j=>
    rw [ZcK,B3,decide_eq_true_iff,decide_eq_true_iff];constructor
    ·rintro ⟨a,b⟩;exact ⟨i,j,rfl,rfl,by omega,by omega,by omega⟩
    ·rintro ⟨i',j',e1,e2,a,b,c⟩;cases e1;cases e2;omega
   |_=>
    constructor
    ·intro z;simp [De,Dc] at z
    ·rintro ⟨_,_,_,e,_⟩;cases e
  |_=>
   constructor
   ·intro z;simp [De,Dc] at z
   ·rintro ⟨_,_,e,_⟩;cases e
 rw [qb0,B3,two,two];constructor
 ·intro z;obtain ⟨x,hx⟩:=qbB.mp z;obtain ⟨e,h1,h2,h3,h4⟩:=FQ hx;unfold Aj at e;injection e with e
  injection e with e1 e
  injection e with e2 e
  injection e with e3 e
  injection e with e4 e
  subst e1 e2 e3 e4;exact ⟨⟨_,_,rfl,rfl,by omega,by omega,by omega⟩,_,_,rfl,rfl,by omega,by omega,by omega⟩
 ·rintro ⟨⟨i,j,rfl,rfl,h1,h2,h3⟩,k,l,rfl,rfl,h4,h5,h6⟩
  show (if GB H W i j k l then some (i.toNat,j.toNat,k.toNat,l.toNat) else none).isSome=true
  rw [if_pos (by unfold GB;omega)];rfl
theorem Uo {ds:List D} (hn:ds.length≠4):Cg H W (.tup ds)=none:=by
 cases e:Cg H W (.tup ds) with
 |none=>rfl
 |some x=>
  obtain ⟨e',_⟩:=FQ e;unfold Aj at e';injection e' with e'
  rw [e'] at hn;exact absurd rfl hn
theorem Uq (ht:Gz d=false):Cg H W d=none:=by
 cases e:Cg H W d with
 |none=>rfl
 |some x=>obtain ⟨e',_⟩:=FQ e;rw [e'] at ht;cases ht
theorem ZcW (hh:1≤H) (p:Plain2 h d):Pu (K9 [bD H W f,d] h) h (.bl (Cg H W d).isSome):=by
 change Wp (AL 2 SV [bD H W f,d] h) _;refine Eq.mpr A9 ?_;cases hT:Gz d with
 |false=>rw [Uq hT];simp [Lg p.1,hT,Sm.refl]
 |true=>
  obtain ⟨ds,rfl⟩:=Lh hT
  by_cases hn:ds.length=4
  ·obtain ⟨x1,x2,x3,x4,rfl⟩:∃x1 x2 x3 x4,ds=[x1,x2,x3,x4]:=by
    match ds,hn with
    |[x1,x2,x3,x4],_=>exact ⟨x1,x2,x3,x4,rfl⟩
   have l0:∀h,AO (.tup [x1,x2,x3,x4]) h=.ok (.int 4) h:=fun h=>rfl;have pl:=p.2;rw [ZcV];simp [l0,N7,FO];refine (TQ (d:=.tup [x1,x2]) ⟨trivial,all_cons (pl x1 (by simp [AS])) (all_cons (pl x2 (by simp [AS])) Bv)⟩).wp fun h1 s1=>?_;cases b1:De H (.tup [x1,x2]) with
   |false=>simp;exact s1
   |true=>simp [Lp,IT hh,Ll];refine (TQ (d:=.tup [x3,x4]) ⟨trivial,all_cons ((pl x3 (by simp [AS])).sm s1) (all_cons ((pl x4 (by simp [AS])).sm s1) Bv)⟩).wp fun h2 s2=>?_;exact ⟨rfl,s1.trans s2⟩
  ·rw [Uo hn];have hne:((ds.length:Nat):Int)≠4:=by omega
   have l0:∀h,AO (.tup ds) h=.ok (.int (ds.length:Nat)) h:=fun h=>rfl;simp [l0,hne,Sm.refl]
end
def Ez (n:Nat):D→Bool
 |.int i=>decide (0≤i∧i<(n:Int))
 |_=>false
section
variable {H W:Nat} {h:HD} {f:Nat→Nat→Bool}
theorem ZcX {n:Nat} {QB:Bool→HD→Prop} (p:Plain h x) (q:QB (!Ez n x) h):Wp (Ca (BG (Bz (Af (A4 AG) (Aa (Ab 3) (Aa (mC (.ty "int")) (Ac)))))) (Ca (Bz (Af (A4 AG) (Aa (Ab 3) (Aa (mC (.ty "bool")) (Ac))))) (BG (A2 (Ea F8 EN (mC (.int 0)) (Ab 3) (Ab 4)))))
 [some d0,some d1,some d2,some x,some (.int (n:Nat))] h) QB:=by
  cases x with
  |int i=>
   simp
   by_cases h0:0≤i
   ·simp [h0,AA];have:Ez n (.int i)=decide (i<(n:Int)):=by
     show decide (0≤i∧i<(n:Int))=_
     rw [qb0,decide_eq_true_iff,decide_eq_true_iff];omega
    rw [this] at q;simpa using q
   ·have:Ez n (.int i)=false:=decide_eq_false (by omega);rw [this] at q;simpa [h0] using q
  |non=>simp;exact q
  |bl b=>simp;exact q
  |str s=>simp;exact q
  |tup ds=>simp;exact q
  |edic=>simp;exact q
  |loc l=>obtain ⟨ds,e⟩:=p;simp [QG e];exact q
  |_=>exact p.elim
theorem ZcY {x1 x2 x3 x4:D} {x:Ap} (e:Cg H W (.tup [x1,x2,x3,x4])=some x):Ez H x1=true∧Ez H x2=true∧Ez W x3=true∧Ez W x4=true:=by
 obtain ⟨e,h1,h2,h3,h4⟩:=FQ e;unfold Aj at e;injection e with e
 injection e with e1 e
 injection e with e2 e
 injection e with e3 e
 injection e with e4 e
 subst e1 e2 e3 e4;exact ⟨decide_eq_true (by omega),decide_eq_true (by omega),decide_eq_true (by omega),decide_eq_true (by omega)⟩
theorem Lu {n:Nat} (e:Ez n x=true):∃i:Nat,x=.int (i:Int)∧i<n:=by
 cases x with
 |int i=>have:=of_decide_eq_true e;exact ⟨i.toNat,by rw [DX this.1],by omega⟩
 |_=>cases e
def Df (H W:Nat) (f:Nat→Nat→Bool) (d:D):Bool:=(Co H W f d).isSome
theorem ZcZ {x:Ap} (ok:By H W x):∀k∈AH x,k.1<H∧k.2<W:=by obtain ⟨a,b,c,e⟩:=x;obtain ⟨h1,h2,h3,h4⟩:=ok;simp only at h1 h2 h3 h4;intro k hk;simp only [AH,qa5,Bw,or_false] at hk;rcases hk with rfl |rfl |rfl |rfl<;>simp only<;>omega
inductive ZI (H W l:Nat) (f:Nat→Nat→Bool) (d:D) (L:List (D×Nat)) (h:HD) (xs:List (D×Nat)) (ρ:Ag) (h':HD):Prop where
 |mk (dn:List (D×Nat)) (y3 y4:Option D) (ex:dn++xs=L) (er:ρ=[some (bD H W f),some d,some (.loc l),y3,y4]) (eh:h'=h) (ok:∀p∈dn,Ez p.2 p.1=true) (pl:∀p∈xs,Plain h p.1):ZI H W l f d L h xs ρ h'
theorem Zc0 {x:Ap}:(((AH x).map fun k=>if f k.1 k.2 then (1:Int) else 0).sum % 2==1)=BX f x:=by
 have:=TX (a:=f x.1 x.2.2.1) (b:=f x.1 x.2.2.2) (c:=f x.2.1 x.2.2.1) (d:=f x.2.1 x.2.2.2);unfold BX;rw [←this];simp only [AH,AZ,Dy,List.sum_cons,List.sum_nil]
 congr 2
 omega
theorem Zc1 (hh:1≤H) (p:Plain2 h d):Pu (K6 [bD H W f,d] h) h (.bl (Df H W f d)):=by
 change Wp (AL 5 SJ [bD H W f,d] h) _;refine Eq.mpr A9 ?_;have no:∀{d:D},Cg H W d=none→Df H W f d=false:=fun e=>by unfold Df Co;rw [e];rfl
 cases hT:Gz d with
 |false=>rw [no (Uq hT)];simp [Lg p.1,hT,Sm.refl]
 |true=>
  obtain ⟨ds,rfl⟩:=Lh hT
  by_cases hn:ds.length=4
  ·obtain ⟨x1,x2,x3,x4,rfl⟩:∃x1 x2 x3 x4,ds=[x1,x2,x3,x4]:=by
    match ds,hn with
    |[x1,x2,x3,x4],_=>exact ⟨x1,x2,x3,x4,rfl⟩
   have l0:∀h,AO (.tup [x1,x2,x3,x4]) h=.ok (.int 4) h:=fun h=>rfl;have pl:=p.2;simp [-Ah,l0];refine Eq.mpr Ah ?_;simp [-Ah,FO,IT hh,Ll];refine Av (by simp) fun l h1 s1 e1 el1 _=>?_;refine Eq.mpr Ah ?_;refine Eq.mpr BA ?_;have p1:Plain h1 x1:=(pl x1 (by simp [AS])).sm s1;have p2:Plain h1 x2:=(pl x2 (by simp [AS])).sm s1;have p3:Plain h1 x3:=(pl x3 (by simp [AS])).sm s1;have p4:Plain h1 x4:=(pl x4 (by simp [AS])).sm s1;refine CI (src:=[(l,[.int (H:Nat),.int (H:Nat),.int (W:Nat),.int (W:Nat)])]) (xs:=[(x1,H),(x2,H),(x3,W),(x4,W)]) (fun p:D×Nat=>.tup [p.1,.int ((p.2:Nat):Int)]) (ZI H W l f (.tup [x1,x2,x3,x4]) [(x1,H),(x2,H),(x3,W),(x4,W)] h1) ?_ (fun ys ρ h' i=>by obtain ⟨_,_,_,_,_,rfl,_,_⟩:=i;exact Dl e1) ?_ ?_
   ·simp;have z:=Qn (h:=h1) (n:=4) (x:=.tup [x1,x2,x3,x4]) (y:=.loc l) (e:=fun k=>([x1,x2,x3,x4]:List D).getD k .non) (e':=fun k=>([D.int (H:Nat),D.int (H:Nat),D.int (W:Nat),D.int (W:Nat)]:List D).getD k .non) (s2:=[(l,[D.int (H:Nat),D.int (H:Nat),D.int (W:Nat),D.int (W:Nat)])]) MX (show Cd (.loc l) h1=some ([D.int (H:Nat),D.int (H:Nat),D.int (W:Nat),D.int (W:Nat)],_) from Y7 e1);refine Al z ?_;exact ⟨rfl,⟨[],_,_,rfl,rfl,rfl,fun p hp=>(nomatch hp),by
     intro p hp;simp only [qa5,Bw,or_false] at hp;rcases hp with rfl |rfl |rfl |rfl
     ·exact p1
     ·exact p2
     ·exact p3
     ·exact p4⟩⟩
   ·rintro ⟨x,n⟩ xs ρ h2 ⟨dn,y3,y4,ex,rfl,rfl,ok,pls⟩;refine ⟨_,rfl,?_⟩;refine Eq.mpr Yo ?_;refine ZcX (pls (x,n) (.head _)) ?_;cases z:Ez n x with
    |true=>
     simp [BD];refine ⟨dn++[(x,n)],_,_,by simpa using ex,rfl,rfl,fun p hp=>?_,fun p hp=>pls p (.tail _ hp)⟩;rcases qaP.mp hp with hp |hp
     ·exact ok p hp
     ·rw [qaJ.mp hp];exact z
    |false=>
     have none4:Cg H W (.tup [x1,x2,x3,x4])=none:=by
      cases e:Cg H W (.tup [x1,x2,x3,x4]) with
      |none=>rfl
      |some y=>
       obtain ⟨w1,w2,w3,w4⟩:=ZcY e;have hm:(x,n)∈[(x1,H),(x2,H),(x3,W),(x4,W)]:=by rw [←ex];simp
       simp only [qa5,Bw,or_false,Prod.mk.injEq] at hm;rcases hm with ⟨rfl,rfl⟩ |⟨rfl,rfl⟩ |⟨rfl,rfl⟩ |⟨rfl,rfl⟩<;>simp_all
     rw [no none4];simp [BD];exact s1
   ·rintro ρ h2 ⟨dn,y3,y4,ex,rfl,rfl,ok,_⟩;rw [Dx] at ex;subst ex;obtain ⟨a,rfl,ha⟩:=Lu (ok (x1,H) (by simp));obtain ⟨b,rfl,hb⟩:=Lu (ok (x2,H) (by simp));obtain ⟨c,rfl,hc⟩:=Lu (ok (x3,W) (by simp));obtain ⟨e,rfl,he⟩:=Lu (ok (x4,W) (by simp));have i0:∀h,Ao (.tup [.int (a:Nat),.int (b:Nat),.int (c:Nat),.int (e:Nat)]) (.int 0) h=.ok (.int (a:Nat)) h:=fun h=>rfl;have i1:∀h,Ao (.tup [.int (a:Nat),.int (b:Nat),.int (c:Nat),.int (e:Nat)]) (.int 1) h=.ok (.int (b:Nat)) h:=fun h=>rfl;have i2:∀h,Ao (.tup [.int (a:Nat),.int (b:Nat),.int (c:Nat),.int (e:Nat)]) (.int 2) h=.ok (.int (c:Nat)) h:=fun h=>rfl;have i3:∀h,Ao (.tup [.int (a:Nat),.int (b:Nat),.int (c:Nat),.int (e:Nat)]) (.int 3) h=.ok (.int (e:Nat)) h:=fun h=>rfl
    by_cases hok:By H W (a,b,c,e)
    ·obtain ⟨q1,q2,q3,q4⟩:=id hok;simp only at q1 q2 q3 q4;have n1:¬b≤a:=by omega
     have n2:¬e≤c:=by omega
     refine Eq.mpr Ah ?_;simp [-Ah,i0,i1,i2,i3,n1,n2];refine Eq.mpr Ah ?_;have od:Df H W f (.tup [.int (a:Nat),.int (b:Nat),.int (c:Nat),.int (e:Nat)])=BX f (a,b,c,e):=by have:Cg H W (.tup [.int (a:Nat),.int (b:Nat),.int (c:Nat),.int (e:Nat)])=some (a,b,c,e):=Ul hok;unfold Df Co;rw [this];cases z:BX f (a,b,c,e)<;>simp [Option.filter,z]
     rw [od];simp;refine Pu.wp (Za (src:=[(h2.length,(AH (a,b,c,e)).map BY)]) (xs:=AH (a,b,c,e)) (φ:=BY) (fun k=>if f k.1 k.2 then (1:Int) else 0) (fun k=>[some (.int (k.1:Nat)),some (.int (k.2:Nat)),some (bD H W f)]) ?_ (fun k _=>rfl) (fun k hk h' s'=>?_) (by simp [AH])) fun h3 s3=>?_
     ·simp [CJ];refine Oi (x:=(a,b,c,e)) fun m h4 s4 e4 el4=>?_;subst el4;refine Al (DF e4) ?_;exact ⟨rfl,s4,fun h' s'=>Dl (s' _ _ e4)⟩
     ·obtain ⟨k1,k2⟩:=ZcZ hok k hk;simp [Pu,GA k1,N6 k2,Sm.refl];cases f k.1 k.2<;>rfl
     ·refine Al (Gg (by decide)) ?_;rw [AI];refine Al Nd ?_;rw [AI,Zc0];exact ⟨rfl,s1.trans s3⟩
    ·have none4:Cg H W (.tup [.int (a:Nat),.int (b:Nat),.int (c:Nat),.int (e:Nat)])=none:=by
      cases ez:Cg H W (.tup [.int (a:Nat),.int (b:Nat),.int (c:Nat),.int (e:Nat)]) with
      |none=>rfl
      |some y=>
       obtain ⟨e',ok'⟩:=FQ ez;have:(a,b,c,e)=y:=by obtain ⟨a',b',c',d'⟩:=y;unfold Aj at e';simp at e';obtain ⟨e1,e2,e3,e4⟩:=e';rw [Int.ofNat.inj e1,Int.ofNat.inj e2,Int.ofNat.inj e3,Int.ofNat.inj e4]
       rw [this] at hok;exact absurd ok' hok
     rw [no none4]
     by_cases n1:b≤a
     ·simp [i0,i1,n1];exact s1
     ·have n2:e≤c:=by refine Decidable.byContradiction fun z=>hok ?_;exact ⟨by simp only;omega,hb,by simp only;omega,he⟩
      simp [i0,i1,i2,i3,n1,n2];exact s1
  ·rw [no (Uo hn)];have hne:((ds.length:Nat):Int)≠4:=by omega
   have l0:∀h,AO (.tup ds) h=.ok (.int (ds.length:Nat)) h:=fun h=>rfl;simp [l0,hne,Sm.refl]
end
def BN (H W:Nat) (f:Nat→Nat→Bool):List D→Option (List Ap)
 |[]=>some []
 |d::ds=>(Co H W f d).bind fun x=>(BN H W f ds).map (x::·)
def DL (H W:Nat) (f:Nat→Nat→Bool) (ds:List D):D:=match BN H W f ds with
 |some ts=>if (ts.flatMap AH).Nodup then .int ((ts.length:Nat):Int) else .non
 |none=>.non
section
variable {H W:Nat} {h:HD} {f:Nat→Nat→Bool}
theorem Ol:∀{a b:List D},BN H W f (a++b)=(BN H W f a).bind fun x=>(BN H W f b).map (x++·)
 |[],b=>by
  show BN H W f b=(some []).bind _
  rw [Fi];cases BN H W f b<;>rfl
 |d::a,b=>by
  show (Co H W f d).bind (fun x=>(BN H W f (a++b)).map (x::·))=((Co H W f d).bind fun x=>(BN H W f a).map (x::·)).bind _
  rw [Ol (a:=a)];cases Co H W f d with
  |none=>rfl
  |some x=>
   cases BN H W f a with
   |none=>rfl
   |some y=>cases BN H W f b<;>rfl
theorem Lw:∀{ds:List D} {ts:List Ap},BN H W f ds=some ts→ds=ts.map Aj∧∀x∈ts,By H W x∧BX f x=true
 |[],ts,h=>by cases h;exact ⟨rfl,fun _ h=>(nomatch h)⟩
 |d::ds,ts,h=>by
  simp only [BN] at h;obtain ⟨x,hx,h⟩:=Option.bind_eq_some_iff.mp h;obtain ⟨ts',ht,rfl⟩:=qaM.mp h;obtain ⟨e1,o1,d1⟩:=ZcU hx;obtain ⟨e2,o2⟩:=Lw ht;rw [e1,e2];refine ⟨rfl,fun y hy=>?_⟩;rcases qa5.mp hy with rfl |hy
  ·exact ⟨o1,d1⟩
  ·exact o2 y hy
theorem Ur:∀{ds:List D},(∀d∈ds,Df H W f d=true)→∃ts,BN H W f ds=some ts
 |[],_=>⟨[],rfl⟩
 |d::ds,h=>by obtain ⟨x,hx⟩:=qbB.mp (h d (.head _));obtain ⟨ts,ht⟩:=Ur fun y hy=>h y (.tail _ hy);exact ⟨x::ts,by simp only [BN,hx,ht];rfl⟩
theorem Zc2 (hd:d∈ds) (ho:Co H W f d=none):BN H W f ds=none:=by
 cases e:BN H W f ds with
 |none=>rfl
 |some ts=>obtain ⟨e1,o1⟩:=Lw e;rw [e1] at hd;obtain ⟨x,hx,rfl⟩:=qaI.mp hd;obtain ⟨a,b⟩:=o1 x hx;rw [Um a b] at ho;cases ho
theorem Om (hd:d∈ds) (ho:Co H W f d=none):DL H W f ds=.non:=by unfold DL;rw [Zc2 hd ho]
theorem Us {ts:List Ap} {x:Ap} (ok:By H W x):((ts++[x]).flatMap AH).Nodup↔(ts.flatMap AH).Nodup∧CA x ts=true:=by
 rw [GD,show [x].flatMap AH=AH x by simp,qcB,apt_li];constructor
 ·rintro ⟨a,_,c⟩;exact ⟨a,fun k hk z=>c k z k hk rfl⟩
 ·rintro ⟨a,b⟩;exact ⟨a,Oh ok,fun k hk j hj e=>b j hj (e ▸ hk)⟩
theorem Zc3 {ts us:List Ap} (h:((ts++us).flatMap AH).Nodup):(ts.flatMap AH).Nodup:=by rw [GD,qcB] at h;exact h.1
inductive Ut (H W:Nat) (f:Nat→Nat→Bool) (ds:List D) (l lt:Nat) (h:HD) (xs:List D) (ρ:Ag) (h':HD):Prop where
 |mk (dn:List D) (ts:List Ap) (y:Option D) (ex:dn++xs=ds) (er:ρ=[some (bD H W f),some (.loc lt),some (.loc l),y]) (s:Sm h h') (eo:BN H W f dn=some ts) (nd:(ts.flatMap AH).Nodup) (e:h'[l]?=some (.lst (ts.map Aj))):Ut H W f ds l lt h xs ρ h'
theorem Uu {ds:List D} {ts:List Ap} (e:BN H W f ds=some ts):ts.length=ds.length:=by obtain ⟨e1,_⟩:=Lw e;rw [e1,A0]
theorem Zc4 {ds:List D} {lt:Nat} (hh:1≤H∧H≤8) (hw:1≤W∧W≤8) (hz:ds.length≤1000) (et:h[lt]?=some (.lst ds)) (pl:∀x∈ds,Plain2 h x):Pu (E9 [bD H W f,.loc lt] h) h (DL H W f ds):=by
 change Wp (AL 4 Ld [bD H W f,.loc lt] h) _;refine Eq.mpr A9 ?_;simp [-Ah];refine (N0 hh hw).wp fun h1 s1=>?_;refine Eq.mpr Ah ?_;have i0:AG (.loc lt) (.ty "list") h1=.ok (.bl true) h1:=by
  show Bo (.loc lt) (.ty "list") h1=_
  simp only [Bo,Dm,s1 _ _ et];rfl
 simp [-Ah,-Iw,i0];refine Eq.mpr Ah ?_;simp [-Ah];refine Av (by simp) fun l h2 s2 e2 el _=>?_;refine Eq.mpr Ah ?_;refine Eq.mpr BA ?_;have et2:=s2 _ _ (s1 _ _ et);refine CI (src:=[(lt,ds)]) (xs:=ds) (fun d=>d) (Ut H W f ds l lt h) ?_ (fun ys ρ h' i=>by obtain ⟨_,_,_,_,_,s,_⟩:=i;exact Dl (by rw [s _ _ et])) ?_ ?_
 ·simp;refine Al (DF et2) ?_;exact ⟨rfl,⟨[],[],_,rfl,rfl,s1.trans s2,rfl,by simp,e2⟩⟩
 ·rintro x xs ρ h3 ⟨dn,ts,y,ex,rfl,s3,eo,nd,e3⟩;refine ⟨_,rfl,?_⟩;have hx:x∈ds:=by rw [←ex];simp
  have hd:ts.length≤1000:=by have h1:=Uu eo;have h2:=congrArg List.length ex;simp at h2;omega
  simp [-Ah];refine (ZcW hh.1 ((pl x hx).sm s3)).wp fun h4 s4=>?_;cases e4:Cg H W x with
  |none=>rw [Om hx (by unfold Co;rw [e4];rfl)];simp [BD];exact s3.trans s4
  |some z=>
   obtain ⟨rfl,ok⟩:=FQ e4;simp [-Ah];refine (TY ok).wp fun h5 s5=>?_;cases e5:BX f z with
   |false=>rw [Om hx (by unfold Co;rw [e4];simp [Option.filter,e5])];simp [BD];exact (s3.trans s4).trans s5
   |true=>
    simp [-Ah];refine (T3 hd (s5 _ _ (s4 _ _ e3))).wp fun h6 s6=>?_;have s36:=((s3.trans s4).trans s5).trans s6;have eo':BN H W f (dn++[Aj z])=some (ts++[z]):=by rw [Ol,eo,Fi];simp only [BN,Um ok e5];rfl
    cases e6:CA z ts with
    |false=>
     have:DL H W f ds=.non:=by
      unfold DL;cases e7:BN H W f ds with
      |none=>rfl
      |some us=>
       have:ds=(dn++[Aj z])++xs:=by rw [←ex];simp
       rw [this,Ol,eo',Fi] at e7;obtain ⟨vs,_,rfl⟩:=qaM.mp e7
       show (if ((ts++[z]++vs).flatMap AH).Nodup then _ else _)=_
       rw [if_neg];intro q;have:=((Us ok).mp (Zc3 q)).2;rw [e6] at this;cases this
     rw [this];simp [BD];exact s36
    |true=>
     simp [-Ah];refine Eq.mpr Ah ?_;have e6':=s6 _ _ (s5 _ _ (s4 _ _ e3));simp [EY e6'];refine Al (G5 e6' (by simp;unfold sizeLine;omega)) ?_;rw [AI];have hl6:l<h6.length:=(qa1.mp e6').1;have hl0:h.length≤l:=by have:=s1.len;omega
     refine ⟨dn++[Aj z],ts++[z],_,by simpa using ex,rfl,Sm.put s36 hl0,eo',(Us ok).mpr ⟨nd,e6⟩,?_⟩;rw [BZ hl6];simp
 ·rintro ρ h3 ⟨dn,ts,y,ex,rfl,s3,eo,nd,e3⟩;rw [Dx] at ex;subst ex;have:DL H W f dn=.int ((ts.length:Nat):Int):=by unfold DL;rw [eo];exact if_pos nd
  rw [this];simp;refine Al (E3 e3) ?_;rw [AI];exact ⟨by simp,s3⟩
theorem Zc5 (hh:1≤H∧H≤8) (hw:1≤W∧W≤8) (p:Plain h t) (ht:∀l,t≠.loc l):Pu (E9 [bD H W f,t] h) h .non:=by
 change Wp (AL 4 Ld [bD H W f,t] h) _;refine Eq.mpr A9 ?_;simp [-Ah];refine (N0 hh hw).wp fun h1 s1=>?_;refine Eq.mpr Ah ?_;have i0:AG t (.ty "list") h1=.ok (.bl false) h1:=by
  cases t with
  |loc l=>exact absurd rfl (ht l)
  |int i=>rfl
  |bl b=>rfl
  |non=>rfl
  |str s=>rfl
  |tup ds=>rfl
  |edic=>rfl
  |_=>exact p.elim
 simp [-Iw,i0];exact s1
end
theorem On:∀(ks acc:List Li),((ks.foldl SetP.insK acc).length≤acc.length+ks.length)∧((ks.foldl SetP.insK acc).length=acc.length+ks.length↔ks.Nodup∧∀k∈ks,k∉acc)
 |[],acc=>by simp
 |x::ks,acc=>by
  rw [EF]
  by_cases z:x∈acc
  ·have e:SetP.insK acc x=acc:=if_pos z;rw [e];have ih:=(On ks acc).1;refine ⟨by simp;omega,fun q=>?_,fun q=>absurd z (q.2 x (.head _))⟩;simp at q;omega
  ·have e:SetP.insK acc x=x::acc:=if_neg z;rw [e];obtain ⟨i1,i2⟩:=On ks (x::acc);simp only [DN] at i1 i2 ⊢;refine ⟨by omega,?_⟩;rw [show acc.length+(ks.length+1)=acc.length+1+ks.length by omega,i2,qbG];constructor
   ·rintro ⟨a,b⟩;refine ⟨⟨fun q=>b x q (.head _),a⟩,fun k hk=>?_⟩;rcases qa5.mp hk with rfl |hk
    ·exact z
    ·exact fun q=>b k hk (.tail _ q)
   ·rintro ⟨⟨a,b⟩,c⟩;refine ⟨b,fun k hk q=>?_⟩;rcases qa5.mp q with rfl |q
    ·exact a hk
    ·exact c k (.tail _ hk) q
theorem Zc6 (ks:List Li):(ks.foldl SetP.insK []).length=ks.length↔ks.Nodup:=by have:=(On ks []).2;simp at this;exact this
theorem Uv:∀{ks:List Li},(∀k∈ks,k.1<8∧k.2<8)→Gx (ks.map BY)=some ks
 |[],_=>rfl
 |k::ks,h=>by
  have e:KU (BY k)=some k:=by
   obtain ⟨a,b⟩:=k;have:=h (a,b) (.head _);simp only at this
   show (if 0≤((a:Nat):Int)∧((a:Nat):Int)<8∧0≤((b:Nat):Int)∧((b:Nat):Int)<8 then some (((a:Nat):Int).toNat,((b:Nat):Int).toNat) else none)=_
   rw [if_pos (by omega)];rfl
  simp only [AZ,Gx,e,Fi,Uv fun j hj=>h j (.tail _ hj),EG]
section
variable {H W:Nat} {h:HD} {f:Nat→Nat→Bool}
theorem Zc7 {l:Nat} {ks:List Li} (e:h[l]?=some (.lst (ks.map BY))) (hk:∀k∈ks,k.1<8∧k.2<8):II (.loc l) h=.ok (.int ((ks.foldl SetP.insK []).length:Nat)) h:=by simp only [II,e,Uv hk]
inductive Uw (H W:Nat) (f:Nat→Nat→Bool) (ts:List Ap) (lt:Nat) (h:HD) (xs:List Ap) (ρ:Ag) (h':HD):Prop where
 |mk (dn:List Ap) (l:Nat) (y:Option D) (ex:dn++xs=ts) (er:ρ=[some (bD H W f),some (.loc lt),some (.loc l),y]) (s:Sm h h') (e:h'[l]?=some (.lst ((dn.flatMap AH).map BY))):Uw H W f ts lt h xs ρ h'
theorem Zc8 {ds:List D} {lt:Nat} (hh:1≤H∧H≤8) (hw:1≤W∧W≤8) (hz:ds.length≤1000) (et:h[lt]?=some (.lst ds)) (pl:∀x∈ds,Plain2 h x):Pu (Ho [bD H W f,.loc lt] h) h (DL H W f ds):=by
 change Wp (AL 4 NU [bD H W f,.loc lt] h) _;refine Eq.mpr A9 ?_;have i0:AG (.loc lt) (.ty "list") h=.ok (.bl true) h:=by
  show Bo (.loc lt) (.ty "list") h=_
  simp only [Bo,Dm,et];rfl
 simp [-Ah,-Iw,i0];refine Ef (src:=[(lt,ds)]) (xs:=ds) (φ:=fun d=>d) (fun d=>!Df H W f d) (fun d=>d) (fun d=>[some d,some (bD H W f)]) ?_ (by unfold sizeLine;omega) (fun k _=>rfl) (fun k hk h' s'=>?_) (fun k _ _ h' s'=>?_) fun l1 h1 s1 e1=>?_
 ·simp;refine Al (DF et) ?_;exact ⟨rfl,.refl _,fun h' s'=>Dl (by rw [s' _ _ et])⟩
 ·simp [Pu];refine (Zc1 hh.1 ((pl k hk).sm s')).wp fun h2 s2=>?_;simp [s2]
 ·simp [Pu,Sm.refl]
 ·refine Av (by simp) fun l2 h2 s2 e2 _ _=>?_;refine Al (Ls (s2 _ _ e1) e2) ?_;rw [AI]
  by_cases z:ds.filter (fun d=>!Df H W f d)=[]
  ·have z':(ds.filter (fun d=>!Df H W f d)).map (fun d=>d)=[]:=by rw [z];rfl
   have all:∀d∈ds,Df H W f d=true:=fun d hd=>by rw [qcA] at z;have:=z d hd;simpa using this
   obtain ⟨ts,eo⟩:=Ur all;obtain ⟨rfl,oks⟩:=Lw eo;rw [z'];simp [-Ah];refine Eq.mpr Ah ?_;simp [-Ah];refine Av (by simp) fun l3 h3 s3 e3 _ _=>?_;refine Eq.mpr Ah ?_;refine Eq.mpr BA ?_;have s13:=(s1.trans s2).trans s3;have et3:=s13 _ _ et;refine CI (src:=[(lt,ts.map Aj)]) (xs:=ts) Aj (Uw H W f ts lt h) ?_ (fun ys ρ h' i=>by obtain ⟨_,_,_,_,_,s,_⟩:=i;exact Dl (s _ _ et)) ?_ ?_
   ·simp;refine Al (DF et3) ?_;exact ⟨rfl,⟨[],l3,_,rfl,rfl,s13,e3⟩⟩
   ·rintro x xs ρ h4 ⟨dn,l,y,ex,rfl,s4,e4⟩;refine ⟨_,rfl,?_⟩;have hl:=congrArg List.length ex;simp at hl hz;simp;refine Oi fun m h5 s5 e5 _=>?_;refine Al (Ck (s5 _ _ e4) e5) ?_;refine Av (by rw [Dg,A0,A0,Oj];simp [AH];unfold sizeLine;omega) fun l6 h6 s6 e6 _ _=>?_;simp only [BD];refine ⟨dn++[x],l6,_,by simpa using ex,rfl,(s4.trans s5).trans s6,?_⟩;rw [e6,GD,Fj];simp
   ·rintro ρ h4 ⟨dn,l,y,ex,rfl,s4,e4⟩;rw [Dx] at ex;subst ex;have lt8:∀k∈dn.flatMap AH,k.1<8∧k.2<8:=fun k hk=>by obtain ⟨x,hx,hk⟩:=qd1.mp hk;exact Uh (oks x hx).1 hh.2 hw.2 k hk
    have e0:DL H W f (dn.map Aj)=if (dn.flatMap AH).Nodup then .int ((dn.length:Nat):Int) else .non:=by unfold DL;rw [eo]
    rw [e0];simp [ZbK];refine Al (Zc7 e4 lt8) ?_;rw [AI];refine Al (E3 e4) ?_;rw [AI];refine Al Nd ?_;rw [AI];have sl:=Zc6 (dn.flatMap AH)
    by_cases nd:(dn.flatMap AH).Nodup
    ·have:((((dn.flatMap AH).foldl SetP.insK []).length:Nat):Int)==((((dn.flatMap AH).map BY).length:Nat):Int):=by rw [sl.mpr nd,A0];simp
     rw [this,if_pos nd];simp;refine Al (E3 (s4 _ _ et)) ?_;rw [AI];exact ⟨by simp,s4⟩
    ·have:(((((dn.flatMap AH).foldl SetP.insK []).length:Nat):Int)==((((dn.flatMap AH).map BY).length:Nat):Int))=false:=by rw [A0,beq_eq_false_iff_ne];intro q;exact nd (sl.mp (Int.ofNat.inj q))
     rw [this,if_neg nd];simp;exact s4
  ·have z':¬(ds.filter (fun d=>!Df H W f d)).map (fun d=>d)=[]:=fun q=>z (List.map_eq_nil_iff.mp q);obtain ⟨d,hd⟩:∃d,d∈ds.filter (fun d=>!Df H W f d):=by
    cases e:ds.filter (fun d=>!Df H W f d) with
    |nil=>exact absurd e z
    |cons a l=>exact ⟨a,.head _⟩
   rw [qcF] at hd;have hn:Co H W f d=none:=by
    have:=hd.2;unfold Df at this;cases e:Co H W f d with
    |none=>rfl
    |some x=>rw [e] at this;cases this
   rw [Om hd.1 hn,decide_eq_false z'];simp;exact s1.trans s2
theorem Zc9 (p:Plain h t) (ht:∀l,t≠.loc l):Pu (Ho [bD H W f,t] h) h .non:=by
 change Wp (AL 4 NU [bD H W f,t] h) _;refine Eq.mpr A9 ?_;have i0:AG t (.ty "list") h=.ok (.bl false) h:=by
  cases t with
  |loc l=>exact absurd rfl (ht l)
  |int i=>rfl
  |bl b=>rfl
  |non=>rfl
  |str s=>rfl
  |tup ds=>rfl
  |edic=>rfl
  |_=>exact p.elim
 simp [-Iw,i0,Sm.refl]
end
section
variable {b:Nat} {h h':HD}
def El (b:Nat) (h:HD) (d:D):Prop:=Plain h d∧Rz b h 1 40 d
def Ot (b:Nat) (h:HD) (d:D):Prop:=Plain2 h d∧Rz b h 2 400 d
inductive Th (b:Nat) (h:HD) (d:D):Prop
 |flat (p:Plain h d) (nl:∀l,d≠.loc l) (r:Rz b h 4 5000 d):Th b h d
 |lst (l:Nat) (ds:List D) (e:d=.loc l) (hl:l≠b) (el:h[l]?=some (.lst ds)) (pl:∀x∈ds,Plain2 h x) (hz:ds.length≤99) (r:Rz b h 4 100000 d):Th b h d
theorem El.smx (x:El b h d) (s:Smx b h h') (bx:BoxAt h' b):El b h' d:=⟨x.1.smx s bx,x.2.smx s⟩
theorem Ot.smx (x:Ot b h d) (s:Smx b h h') (bx:BoxAt h' b):Ot b h' d:=⟨x.1.smx s bx,x.2.smx s⟩
theorem Th.smx (x:Th b h d) (s:Smx b h h') (bx:BoxAt h' b):Th b h' d:=by
 cases x with
 |flat p nl r=>exact .flat (p.smx s bx) nl (r.smx s)
 |lst l ds e hl el pl hz r=>exact .lst l ds e hl (s _ _ hl el) (fun x hx=>(pl x hx).smx s bx) hz (r.smx s)
theorem El.sm (x:El b h d) (s:Sm h h'):El b h' d:=⟨x.1.sm s,x.2.smx (BV s)⟩
theorem Ot.sm (x:Ot b h d) (s:Sm h h'):Ot b h' d:=⟨x.1.sm s,x.2.smx (BV s)⟩
theorem Th.sm (x:Th b h d) (s:Sm h h'):Th b h' d:=by
 cases x with
 |flat p nl r=>exact .flat (p.sm s) nl (r.smx (BV s))
 |lst l ds e hl el pl hz r=>exact .lst l ds e hl (s _ _ el) (fun x hx=>(pl x hx).sm s) hz (r.smx (BV s))
theorem Dv {n:Nat} (hn:n<100):El b h (.int (n:Nat)):=⟨trivial,B2 (Lr (by omega) (by omega)) (by decide) (by decide)⟩
theorem Zda:El b h (.int (-1)):=⟨trivial,B2 (Uc (L:=40) (by decide) (by decide +kernel)) (by decide) (Ax _)⟩
theorem Zdb:El b h (.int 100000000000000000000000000000):=⟨trivial,B2 (Uc (L:=40) (by decide +kernel) (by decide +kernel)) (by decide) (Ax _)⟩
theorem Ux {v:Bool}:El b h (.bl v):=⟨trivial,B2 ZcM (by decide) (by decide)⟩
theorem Zdc:El b h .non:=⟨trivial,B2 Of (by decide) (by decide)⟩
theorem Zdd:El b h (.str "0"):=⟨trivial,B2 (ZcN (L:=40) (by decide +kernel)) (by decide) (Ax _)⟩
theorem Zde:El b h (.tup [.int 0]):=⟨trivial,B2 (Od (n:=0) (L:=3) 1 (fun d hd=>by rw [qaJ.mp hd];exact Lr (by decide) (by decide)) (by decide)) (by decide) (by decide)⟩
theorem Zdf {l:Nat} (hl:l≠b) (e:h[l]?=some (.lst [.int 0])):El b h (.loc l):=⟨⟨_,e⟩,B2 (Hq (n:=0) (L:=3) 1 hl e (fun d hd=>by rw [qaJ.mp hd];exact Lr (by decide) (by decide)) (by decide)) (by decide) (by decide)⟩
theorem Zdg:El b h .edic:=⟨trivial,B2 Ud (by decide) (by decide)⟩
theorem Fc {ds:List D} (hd:∀x∈ds,El b h x) (hz:ds.length≤6):Ot b h (.tup ds):=⟨⟨trivial,fun x hx=>(hd x hx).1⟩,B2 (Od 6 (fun d hx=>(hd d hx).2) hz) (Ax _) (by decide)⟩
theorem Zdh {ds:List D} {l:Nat} (hl:l≠b) (e:h[l]?=some (.lst ds)) (hd:∀x∈ds,El b h x) (hz:ds.length≤6):Ot b h (.loc l):=⟨FP ⟨_,e⟩ rfl,B2 (Hq 6 hl e (fun d hx=>(hd d hx).2) hz) (Ax _) (by decide)⟩
theorem Zdi:Ot b h .non:=⟨FP trivial rfl,B2 Of (by decide) (by decide)⟩
def foE (x:Ap):List D:=[.int ((x.1:Nat):Int),.int ((x.2.1:Nat):Int),.int ((x.2.2.1:Nat):Int),.int ((x.2.2.2:Nat):Int)]
theorem Uy {H W:Nat} {x:Ap} (ok:By H W x) (hh:H≤8) (hw:W≤8):∀d∈foE x,El b h d:=by obtain ⟨h1,h2,h3,h4⟩:=ok;exact all_cons (Dv (by omega)) (all_cons (Dv (by omega)) (all_cons (Dv (by omega)) (all_cons (Dv (by omega)) Bv)))
theorem Oo {H W:Nat} {x:Ap} (ok:By H W x) (hh:H≤8) (hw:W≤8):Ot b h (Aj x):=Fc (Uy ok hh hw) (show 4≤6 by decide)
theorem Fd {ds:List D} {l:Nat} (hl:l≠b) (e:h[l]?=some (.lst ds)) (hd:∀x∈ds,Ot b h x) (hz:ds.length≤11):Th b h (.loc l):=.lst l ds rfl hl e (fun x hx=>(hd x hx).1) (by omega) (B2 (Hq 11 hl e (fun d hx=>(hd d hx).2) hz) (by decide) (by decide))
theorem Zdj {ds:List D} (hd:∀x∈ds,Ot b h x) (hz:ds.length≤11):Th b h (.tup ds):=.flat trivial (fun _ z=>nomatch z) (B2 (Od 11 (fun d hx=>(hd d hx).2) hz) (by decide) (by decide))
theorem Zdk:Th b h .non:=.flat trivial (fun _ z=>nomatch z) (B2 Of (by decide) (by decide))
theorem Zdl:Th b h .edic:=.flat trivial (fun _ z=>nomatch z) (B2 Ud (by decide) (by decide))
theorem Zdm {ds:List D} {l k:Nat} (hl:l≠b) (e:h[l]?=some (.lst ds)) (hd:∀x∈ds,Ot b h x) (hz:ds.length≤11) (hk:k≠b) (ek:h[k]?=some (.lst [.loc l])):Th b h (.loc k):=
 .lst k [.loc l] rfl hk ek (all_cons (FP ⟨_,e⟩ rfl) Bv) (show 1≤99 by decide) (B2 (Hq (n:=3) (L:=5000) 1 hk ek (all_cons (B2 (Hq 11 hl e (fun d hx=>(hd d hx).2) hz) (by decide) (by decide)) Bv) (Ax 1)) (by decide) (by decide))
theorem Lx {l k:Nat} {ds:List D} (e:h[l]?=some (.lst ds)):E7 (.loc l) none (some (k:Int)) h=BJ (ds.take k) h:=by
 simp only [E7,e];unfold LS.cutD;rw [HT.sIx_nat,HT.sIx_none,Jz]
 by_cases z:k≤ds.length
 ·rw [show min k ds.length - 0=k by omega]
 ·rw [show min k ds.length - 0=ds.length by omega,Js,Hu (by omega)]
theorem Uz {l k:Nat} {i:Int} {ds:List D} (hi:i=(k:Int)) (e:h[l]?=some (.lst ds)):E7 (.loc l) (some i) none h=BJ (ds.drop k) h:=by
 subst hi;simp only [E7,e];unfold LS.cutD;rw [HT.sIx_nat,HT.sIx_none]
 by_cases z:k≤ds.length
 ·rw [show min k ds.length=k by omega,Hu (by simp)]
 ·rw [show min k ds.length=ds.length by omega,Jr,List.drop_of_length_le (by omega)];simp
theorem Zdn {l k:Nat} {i:Int} {ds:List D} (hi:i=((k+1:Nat):Int)) (hk:k<ds.length) (e:h[l]?=some (.lst ds)):E7 (.loc l) (some (k:Int)) (some i) h=BJ [ds[k]] h:=by
 subst hi;simp only [E7,e];unfold LS.cutD;rw [HT.sIx_nat,HT.sIx_nat,show min k ds.length=k by omega,show min (k+1) ds.length - k=1 by omega]
 congr 1
 rw [Ht hk];rfl
end
noncomputable abbrev Zdo:MS:=Ai (As 8 (Ae Ao (Ab 7) (Af Bu (Aa (Ab 0) (Aa (mC (.int 9)) (Ac)))))) (Ai (As 9 (AB (Aa (Ae Am (Ae Am (BB (Ab 2) (AX) (AM (Ab 3))) (AB (Aa (Ab 8) (Ac)))) (BB (Ab 2) (AM (Ae Am (Ab 3) (mC (.int 1)))) (AX))) (Aa (Ae Am (Ae Am (BB (Ab 2) (AX) (AM (Ab 3))) (AB (Aa (Ab 8) (Ac)))) (BB (Ab 2) (AM (Ab 3)) (AX))) (Aa (Ae Am (Ab 2) (BB (Ab 2) (AM (Ab 3)) (AM (Ae Am (Ab 3) (mC (.int 1)))))) (Ac)))))) (Ai (As 9 (Ae Am (Ab 9) (AB (Aa (Ae Am (Ae Am (BB (Ab 2) (AX) (AM (Ab 3))) (AB (Aa (Ab 8) (Ac)))) (BB (Ab 2) (AM (Ae Am (Ab 3) (mC (.int 1)))) (AX))) (Aa (Af (An CW) (Aa (Ab 2) (Ac))) (Aa (mC .non) (Aa (Ae Ao (Ab 2) (Ab 3)) (Aa (mC .edic) (Aa (AB (Aa (Ab 2) (Ac))) (Aa (IB (Ab 2)) (Ac))))))))))) (AE (Ae Ao (Ab 9) (Af Bu (Aa (Ab 0) (Aa (mC (.int 10)) (Ac))))))))
section
variable {H W:Nat} {h:HD} {f:Nat→Nat→Bool} {b lp A:Nat} {P:List Ap}
theorem Hr {g:ME} {lo hi:MO}:Wp (BB g lo hi ρ h) Q=Wp (g ρ h) fun x h1=>Wp (lo ρ h1) fun l h2=>Wp (hi ρ h2) fun u h3=>Wp (E7 x l u h3) Q:=by unfold BB;simp only [AA]
theorem UA {g:ME}:Wp (IB g ρ h) Q=Wp (g ρ h) fun x h1=>Wp (IA x h1) Q:=by unfold IB;rw [AA]
theorem Zdp {l:Nat} {ds:List D} (e:h[l]?=some (.lst ds)):IA (.loc l) h=BJ ds.reverse h:=by simp only [IA,e]
theorem UB {L:List D} {y:D} {d0 d1 c4 c5 c6 c7 c9:Option D} {Q:D→HD→Prop} (e:h[lp]?=some (.lst L)) (hA:A<L.length) (hz:L.length≤9) (q:∀l h',Sm h h'→h'[l]?=some (.lst (L.take A++y::L.drop (A+1)))→h.length≤l→Q (.loc l) h'):
 Wp (Ae Am (Ae Am (BB (Ab 2) (AX) (AM (Ab 3))) (AB (Aa (Ab 8) (Ac)))) (BB (Ab 2) (AM (Ae Am (Ab 3) (mC (.int 1)))) (AX)) [d0,d1,some (.loc lp),some (.int (A:Nat)),c4,c5,c6,c7,some y,c9] h) Q:=by
 simp [Hr];refine Al (Lx e) ?_;refine Av (by simp;unfold sizeLine;omega) fun l1 h1 s1 e1 n1 _=>?_;refine Av (by simp) fun l2 h2 s2 e2 _ _=>?_;refine Al (Ck (s2 _ _ e1) e2) ?_;refine Av (by simp;unfold sizeLine;omega) fun l3 h3 s3 e3 _ _=>?_;refine Al (Uz (k:=A+1) (by omega) ((s1.trans s2).trans s3 _ _ e)) ?_;refine Av (by simp;unfold sizeLine;omega) fun l4 h4 s4 e4 _ _=>?_;refine Al (Ck (s4 _ _ e3) e4) ?_;refine Av (by simp;unfold sizeLine;omega) fun l5 h5 s5 e5 n5 _=>?_;have S:=(((s1.trans s2).trans s3).trans s4)
 exact q l5 h5 (S.trans s5) (by rw [e5];simp) (by have:=S.len;omega)
theorem Zdq {L:List D} {y:D} {d0 d1 c4 c5 c6 c7 c9:Option D} {Q:D→HD→Prop} (e:h[lp]?=some (.lst L)) (hA:A<L.length) (hz:L.length≤9) (q:∀l h',Sm h h'→h'[l]?=some (.lst (L.take A++y::L.drop A))→h.length≤l→Q (.loc l) h'):
 Wp (Ae Am (Ae Am (BB (Ab 2) (AX) (AM (Ab 3))) (AB (Aa (Ab 8) (Ac)))) (BB (Ab 2) (AM (Ab 3)) (AX)) [d0,d1,some (.loc lp),some (.int (A:Nat)),c4,c5,c6,c7,some y,c9] h) Q:=by
 simp [Hr];refine Al (Lx e) ?_;refine Av (by simp;unfold sizeLine;omega) fun l1 h1 s1 e1 n1 _=>?_;refine Av (by simp) fun l2 h2 s2 e2 _ _=>?_;refine Al (Ck (s2 _ _ e1) e2) ?_;refine Av (by simp;unfold sizeLine;omega) fun l3 h3 s3 e3 _ _=>?_;refine Al (Uz (k:=A) rfl ((s1.trans s2).trans s3 _ _ e)) ?_;refine Av (by simp;unfold sizeLine;omega) fun l4 h4 s4 e4 _ _=>?_;refine Al (Ck (s4 _ _ e3) e4) ?_;refine Av (by simp;unfold sizeLine;omega) fun l5 h5 s5 e5 n5 _=>?_;have S:=(((s1.trans s2).trans s3).trans s4)
 exact q l5 h5 (S.trans s5) (by rw [e5];simp) (by have:=S.len;omega)
theorem Zdr {L:List D} {d0 d1 c4 c5 c6 c7 c8 c9:Option D} {Q:D→HD→Prop} (e:h[lp]?=some (.lst L)) (hA:A<L.length) (hz:L.length≤9) (q:∀l h',Sm h h'→h'[l]?=some (.lst (L++[L[A]]))→h.length≤l→Q (.loc l) h'):
 Wp (Ae Am (Ab 2) (BB (Ab 2) (AM (Ab 3)) (AM (Ae Am (Ab 3) (mC (.int 1))))) [d0,d1,some (.loc lp),some (.int (A:Nat)),c4,c5,c6,c7,c8,c9] h) Q:=by
 simp [Hr];refine Al (Zdn (k:=A) (by omega) hA e) ?_;refine Av (by simp) fun l1 h1 s1 e1 n1 _=>?_;refine Al (Ck (s1 _ _ e) e1) ?_;refine Av (by simp;unfold sizeLine;omega) fun l3 h3 s3 e3 n3 _=>?_;exact q l3 h3 (s1.trans s3) e3 (by have:=s1.len;omega)
theorem Zds {l7:Nat} {B:List D} {c4 c5 c6 c8 c9:Option D} {Q:D→HD→Prop} (bx:BoxAt h b) (b0:0<b) (ht:TabAt h) (hlp:lp≠b) (e:h[lp]?=some (.lst (P.map Aj))) (hA:A<P.length) (hz:P.length≤9) (ok:∀x∈P,By H W x) (hh:H≤8) (hw:W≤8)
 (h7:l7≠b) (e7:h[l7]?=some (.lst B)) (hB:B.length=9) (ot:∀d∈B,Ot b h d) (q:∀d h',BoxAt h' b→TabAt h'→Smx b h h'→Th b h' d→Q d h'):
 Wp (Zdo [some (.loc b),some (bD H W f),some (.loc lp),some (.int (A:Nat)),c4,c5,c6,some (.loc l7),c8,c9] h) (GY Q):=by
 have hL:A<(P.map Aj).length:=by rw [A0];exact hA
 have hLz:(P.map Aj).length≤9:=by rw [A0];exact hz
 have otL:∀{h':HD},∀d∈P.map Aj,Ot b h' d:=fun {h'} d hd=>by obtain ⟨x,hx,rfl⟩:=qaI.mp hd;exact Oo (ok x hx) hh hw
 have nlL:∀d∈P.map Aj,∀l,d≠.loc l:=fun d hd l z=>by obtain ⟨x,hx,rfl⟩:=qaI.mp hd;cases z
 generalize P.map Aj=L at *;simp [-Ah];refine DK bx b0 ht (by decide) (by decide) fun o h1 lo x1 t1 s1=>?_;obtain ⟨y,ey,oy⟩:=IU (Ot b h1) (o:=o) (s1 _ _ h7 e7) (by omega) (fun d hd=>(ot d hd).smx s1 x1);refine Al ey ?_;rw [AI];refine Eq.mpr Ah ?_;have e1:=s1 _ _ hlp e;clear ey;have n1:∀{l:Nat} {h':HD},Sm h1 h'→h'.length≤l→l≠b:=fun s' hl=>by have:=s'.len;have:=x1.lt;omega
 refine Eq.mpr BA ?_;refine Eq.mpr GZ ?_;refine Eq.mpr My ?_;have o9:∀{h':HD},Sm h1 h'→∀{k:Nat},∀d∈L.take k++y::L.drop (A+1),Ot b h' d:=fun {h'} s' {k}=>Ey (fun d hd=>otL d (EB hd)) (all_cons (oy.sm s') fun d hd=>otL d (FS hd));have o10:∀{h':HD},Sm h1 h'→∀{k:Nat},∀d∈L.take k++y::L.drop A,Ot b h' d:=fun {h'} s' {k}=>Ey (fun d hd=>otL d (EB hd)) (all_cons (oy.sm s') fun d hd=>otL d (FS hd));refine Eq.mpr EX ?_;refine UB e1 hL hLz fun a1 g1 sa1 ea1 na1=>?_;refine Eq.mpr EX ?_;refine Zdq (sa1 _ _ e1) hL hLz fun a2 g2 sa2 ea2 na2=>?_;refine Eq.mpr EX ?_;refine Zdr ((sa1.trans sa2) _ _ e1) hL hLz fun a3 g3 sa3 ea3 na3=>?_;have S3:=(sa1.trans sa2).trans sa3;refine Eq.mpr G0 ?_;refine Av (by simp) fun l9 g4 s4 e9 n9 _=>?_;refine Eq.mpr Ah ?_;refine Eq.mpr BA ?_;refine Eq.mpr GZ ?_;refine Eq.mpr Ii ?_;simp only [Jl,Jm,Ih,Ig];refine Eq.mpr My ?_;refine Eq.mpr EX ?_;have S4:=S3.trans s4;refine UB (S4 _ _ e1) hL hLz fun a4 g5 s5 ea4 na4=>?_;have S5:=S4.trans s5;simp [-Ah];refine Al (MB (S5 _ _ e1)) ?_;rw [AI]
 try simp [-Ah]
 refine Al (EZ (S5 _ _ e1) (AR hL)) ?_;rw [AI]
 try simp [-Ah,UA]
 refine Av (by simp) fun a5 g6 s6 ea5 na5 _=>?_;have S6:=S5.trans s6
 try simp [-Ah,UA]
 refine Al (Zdp (S6 _ _ e1)) ?_;refine Av (by simp;unfold sizeLine;omega) fun a6 g7 s7 ea6 na6 _=>?_;have S7:=S6.trans s7
 try simp [-Ah]
 refine Av (by simp) fun a7 g8 s8 ea7 na7 _=>?_;have S8:=S7.trans s8;refine Al (Ck ((((s5.trans s6).trans s7).trans s8) _ _ e9) ea7) ?_;refine Av (by simp) fun a8 g9 s9 ea8 na8 _=>?_;have S9:=S8.trans s9;refine Eq.mpr Ah ?_;have th:∀d∈[D.loc a1,D.loc a2,D.loc a3]++[D.loc a4,D.tup L,D.non,L[A],D.edic,D.loc a5,D.loc a6],Th b g9 d:=by
  have lA:(L.take A++y::L.drop (A+1)).length≤11:=by simp;omega
  have lB:(L.take A++y::L.drop A).length≤11:=by simp;omega
  refine all_cons (Fd (n1 (.refl _) na1) (((((((sa2.trans sa3).trans s4).trans s5).trans s6).trans s7).trans s8).trans s9 _ _ ea1) (o9 S9) lA) <|
   all_cons (Fd (n1 sa1 na2) ((((((sa3.trans s4).trans s5).trans s6).trans s7).trans s8).trans s9 _ _ ea2) (o10 S9) lB) <|
   all_cons (Fd (n1 (sa1.trans sa2) na3) (((((s4.trans s5).trans s6).trans s7).trans s8).trans s9 _ _ ea3) (Ey otL (all_cons (otL _ (Dh hL)) Bv)) (by simp;omega)) <|
   all_cons (Fd (n1 S4 na4) ((((s6.trans s7).trans s8).trans s9) _ _ ea4) (o9 S9) lA) <|
   all_cons (Zdj otL (by omega)) <| all_cons Zdk <| all_cons ?_ <| all_cons Zdl <|
   all_cons (Zdm hlp (S9 _ _ e1) otL (by omega) (n1 S5 (by omega)) (((s7.trans s8).trans s9) _ _ ea5)) <|
   all_cons (Fd (n1 S6 (by omega)) ((s8.trans s9) _ _ ea6) (fun d hd=>otL d (List.mem_reverse.mp hd)) (by simp;omega)) Bv
  have oA:=otL (h':=g9) L[A] (Dh hL);exact .flat oA.1.1 (nlL _ (Dh hL)) (B2 oA.2 (by decide) (by decide))
 simp only [DZ,FY] at th ea8;simp [-Ah];refine DK (x1.sm S9) b0 (t1.sm S9) (by decide) (by decide) fun i h11 li x11 t11 s11=>?_;have n8:a8≠b:=n1 S8 (by omega);obtain ⟨z,ez,oz⟩:=IU (Th b h11) (o:=i) (s11 _ _ n8 ea8) (by simp;omega) (fun d hd=>(th d hd).smx s11 x11);refine Al ez ?_;exact q _ _ x11 t11 ((s1.trans (BV S9)).trans s11) oz
theorem Zdt {g:ME}:Wp (Kz g ρ h) Q=Wp (g ρ h) fun x h1=>Wp (Kx x h1) Q:=by unfold Kz;rw [AA]
theorem Zdu {a b c d:D}:Cm (.tup [a,b,c,d]) none (some 3) h=.ok (.tup [a,b,c]) h:=by simp only [Cm];rfl
theorem Zdv {Q:D→HD→Prop} (bx:BoxAt h b) (b0:0<b) (ht:TabAt h) (hlp:lp≠b) (e:h[lp]?=some (.lst (P.map Aj))) (hP:0<P.length) (hz:P.length≤9) (ok:∀x∈P,By H W x) (hh:H≤8) (hw:W≤8)
 (q:∀d h',BoxAt h' b→TabAt h'→Smx b h h'→Th b h' d→Q d h'):Wp (K7 [.loc b,bD H W f,.loc lp] h) Q:=by
 change Wp (AL 10 SO [.loc b,bD H W f,.loc lp] h) _;refine Eq.mpr A9 ?_;simp [-Ah];refine Al (E3 e) ?_;rw [AI];refine DK bx b0 ht (by simp;omega) (by simp;omega) fun A h1 lA x1 t1 s1=>?_;simp at lA
 try simp [-Ah]
 refine DK x1 b0 t1 (by decide) (by decide) fun S h2 lS x2 t2 s2=>?_
 try simp [-Ah]
 refine Eq.mpr Ah ?_;simp [-Ah,TC];refine Av (by simp) fun l3 h3 s3 e3 n3 _=>?_;refine Av (by simp;unfold sizeLine;omega) fun l4 h4 s4 e4 n4 _=>?_;have nb:∀{l:Nat} {h':HD},Sm h2 h'→h'.length≤l→l≠b:=fun s' hl=>by have:=s'.len;have:=x2.lt;omega
 have b3:l3≠b:=nb (.refl _) (by omega);have b4:l4≠b:=nb s3 (by omega);refine DK ((x2.sm s3).sm s4) b0 ((t2.sm s3).sm s4) (by decide) (by decide) fun o h5 lo x5 t5 s5=>?_;obtain ⟨y,ey,oy⟩:=IU (El b h5) (o:=o) (s5 _ _ b4 e4) (by simp;omega) <| all_cons Zda <| all_cons (Dv (n:=8) (by decide)) <| all_cons Ux <| all_cons Zdc <| all_cons Zdd <| all_cons Zde <| all_cons Zdb <| all_cons Ux <| all_cons (Dv (n:=0) (by decide)) <| all_cons (Dv (n:=1) (by decide)) <| all_cons (Dv (n:=2) (by decide)) <| all_cons (Zdf b3 (s5 _ _ b3 (s4 _ _ e3))) <| all_cons Zdg Bv
 refine Al ey ?_;rw [AI];clear ey e3 e4;have S5:Smx b h h5:=(((s1.trans s2).trans (BV s3)).trans (BV s4)).trans s5;have e5:=S5 _ _ hlp e;refine Eq.mpr Ah ?_;refine Eq.mpr BA ?_;refine Eq.mpr GZ ?_;refine Eq.mpr Ii ?_;simp only [Jl,Jm,Ih,Ig];refine Al (EZ e5 (show (P.map Aj)[A]?=some (Aj (P[A])) by rw [BO,AR lA];rfl)) ?_;rw [AI];refine Eq.mpr Ah ?_;obtain ⟨r0,r1,r2,r3,er,oR⟩:∃r0 r1 r2 r3:D,Aj (P[A])=.tup [r0,r1,r2,r3]∧∀{h':HD},∀d∈[r0,r1,r2,r3],El b h' d:=⟨_,_,_,_,rfl,fun {h'}=>Uy (ok _ (Dh lA)) hh hw⟩
 rw [er];have q0:∀{h':HD},El b h' r0:=fun {h'}=>oR _ (by simp);have q1:∀{h':HD},El b h' r1:=fun {h'}=>oR _ (by simp);have q2:∀{h':HD},El b h' r2:=fun {h'}=>oR _ (by simp);have q3:∀{h':HD},El b h' r3:=fun {h'}=>oR _ (by simp);have i0:∀h,Ao (.tup [r0,r1,r2,r3]) (.int 0) h=.ok r0 h:=fun h=>rfl;have i1:∀h,Ao (.tup [r0,r1,r2,r3]) (.int 1) h=.ok r1 h:=fun h=>rfl;refine Eq.mpr BA ?_;refine Eq.mpr GZ ?_;simp [-Ah];refine Al (Nf (k:=S) (by simp;omega)) ?_;rw [AI];refine Al (Dr (by simp;omega)) ?_;rw [AI];refine Al (Ng (k:=S) (by omega) (by simp;omega)) ?_;rw [AI];refine Al (Dr (by simp;omega)) ?_;simp [-Ah,Lp,N7,Zdu,i0,i1];refine Al (Dr (by simp)) ?_;rw [AI];refine Al (Dr (by simp)) ?_;rw [AI];refine Av (by simp) fun l7 h7 s7 e7 n7 _=>?_;refine Eq.mpr Ah ?_;refine Eq.mpr BA ?_;refine Eq.mpr GZ ?_;refine Eq.mpr Ii ?_;simp only [Jl,Jm,Ih,Ig];refine Eq.mpr My ?_;refine Eq.mpr EX ?_;have et:∀h,Kx (.tup [r0,r1,r2,r3]) h=.ok (.tup [r3,r2,r1,r0]) h:=fun h=>rfl;simp [-Ah];refine Al (Dr (by simp)) ?_;rw [AI];refine Al N2 ?_;refine Av (by simp) fun l8 h8 s8 e8 n8 _=>?_;simp [-Ah,Zdt,et,i0,Lp];refine Al (Dr (by simp)) ?_;rw [AI];refine Av (by simp) fun l9 h9 s9 e9 n9 _=>?_;refine Al (Ck ((s8.trans s9) _ _ e7) e9) ?_;refine Av (by simp) fun l10 h10 s10 e10 n10 _=>?_;refine Eq.mpr Ah ?_;have T:=((s7.trans s8).trans s9).trans s10;have nb5:∀{l:Nat} {h':HD},Sm h5 h'→h'.length≤l→l≠b:=fun s' hl=>by have:=s'.len;have:=x5.lt;omega
 refine Zds (x5.sm T) b0 (t5.sm T) hlp (T _ _ e5) lA hz ok hh hw (nb5 ((s7.trans s8).trans s9) (by omega)) e10 (by simp) ?_ fun d h' x t s o=>q d h' x t ((S5.trans (BV T)).trans s) o;have Y:El b h10 y:=oy.sm T;refine all_cons (Fc (Ey (fun d hd=>oR d (EB hd)) (all_cons Y fun d hd=>oR d (.tail _ (FS hd)))) (by simp;omega)) <|
  all_cons (Fc (all_cons q2 (all_cons q3 (all_cons q0 (all_cons q1 Bv)))) (by simp)) <|
  all_cons (Fc (all_cons q1 (all_cons q0 (all_cons q2 (all_cons q3 Bv)))) (by simp)) <|
  all_cons (Fc (all_cons q0 (all_cons q1 (all_cons q2 Bv))) (by simp)) <|
  all_cons (Fc (all_cons q0 (all_cons q1 (all_cons q2 (all_cons q3 (all_cons (Dv (n:=0) (by decide)) Bv))))) (by simp)) <|
  all_cons (Zdh (nb5 s7 (by omega)) ((s9.trans s10) _ _ e8) oR (by simp)) <|
  all_cons Zdi <|
  all_cons (Fc (all_cons q3 (all_cons q2 (all_cons q1 (all_cons q0 Bv)))) (by simp)) <|
  all_cons (Fc (all_cons q0 (all_cons q0 (all_cons q2 (all_cons q3 Bv)))) (by simp)) Bv
end
def Fe (x:Ap):PyData:=.tuple [.int ((x.1:Nat):Int),.int ((x.2.1:Nat):Int),.int ((x.2.2.1:Nat):Int),.int ((x.2.2.2:Nat):Int)]
def FR (ts:List Ap):PyData:=.list (ts.map Fe)
section
variable {h:HD}
theorem allSome_map {α:Type} {F:α→D} {G:D→Option PyData} {P:α→PyData} (e:∀x,G (F x)=some (P x)):∀xs:List α,Az ((xs.map F).map G)=some (xs.map P)
 |[]=>rfl
 |x::xs=>by simp only [AZ,Az,e,allSome_map e xs,EG]
theorem Zdw {n:Nat} {x:Ap}:B1 h (n+1) (Aj x)=some (Fe x):=by cases n<;>rfl
theorem Zdx {n:Nat} {x:Ap}:Bs h (n+1) (Aj x)=some (Fe x):=by cases n<;>rfl
theorem UC {l:Nat} {ts:List Ap} (e:h[l]?=some (.lst (ts.map Aj))):B1 h 8 (.loc l)=some (FR ts):=by
 show (match h[l]? with
  |some (.lst ds)=>(Az (ds.map (B1 h 7))).map PyData.list
  |_=>none)=_
 rw [e]
 show (Az ((ts.map Aj).map (B1 h 7))).map PyData.list=_
 rw [allSome_map (fun x=>Zdw (n:=6)) ts];rfl
theorem UD {l:Nat} {ts:List Ap} (e:h[l]?=some (.lst (ts.map Aj))):Bs h 8 (.loc l)=some (FR ts):=by
 show (match h[l]? with
  |some (.lst ds)=>(Az (ds.map (Bs h 7))).map PyData.list
  |_=>none)=_
 rw [e]
 show (Az ((ts.map Aj).map (Bs h 7))).map PyData.list=_
 rw [allSome_map (fun x=>Zdx (n:=6)) ts];rfl
theorem UE:∀ts:List Ap,PyData.canLayAll0 (ts.map Fe)=true
 |[]=>rfl
 |x::ts=>by have e:PyData.canLay0 (Fe x)=true:=rfl;simp only [AZ,PyData.canLayAll0,e,UE ts,Bool.and_self]
theorem UF:∀ts:List Ap,PyData.depthAll (ts.map Fe)≤1
 |[]=>B8 _
 |x::ts=>by
  have e:PyData.depth (Fe x)≤1:=by simp [Fe,PyData.depth,PyData.depthAll]
  have:=UF ts;simp only [AZ,PyData.depthAll];omega
theorem UG {ts:List Ap}:SeqAt.shaped (FR ts)=true:=by
 unfold SeqAt.shaped;have h1:(FR ts).canLay0=true:=UE ts;have h2:(FR ts).depth≤64:=by
  have:=UF ts
  show PyData.depth (.list (ts.map Fe))≤64
  simp only [PyData.depth];omega
 rw [h1,decide_eq_true h2];rfl
theorem Zdy {l k:Nat} {ts us:List Ap} (e1:h[l]?=some (.lst (ts.map Aj))) (e2:h[k]?=some (.lst (us.map Aj))):∃c,CK (.loc l) (.loc k) h=.ok (.bl c) h:=by
 refine ⟨PyData.eqv (FR ts) (FR us),?_⟩
 show Ga (.loc l) (.loc k) h=_
 unfold Ga F9;rw [UD e1,UD e2];exact if_pos ⟨UG,UG⟩
theorem Zdz {H W:Nat} {ts:List Ap} (ok:∀x∈ts,By H W x) (hh:H≤8) (hw:W≤8) (hz:ts.length≤1000):∃t:Str,∀(h:HD) (l:Nat),h[l]?=some (.lst (ts.map Aj))→BM (.loc l) h=.ok (.str t) h:=by
 have r:Rz 1 [Cell.lst (ts.map Aj)] 3 500000 (.loc 0):=B2 (Hq (n:=2) (L:=400) 1000 (by decide) rfl (fun d hd=>by obtain ⟨x,hx,rfl⟩:=qaI.mp hd;exact (Oo (ok x hx) hh hw).2) (by rw [A0];exact hz)) (by decide) (by decide)
 obtain ⟨p,a1,a2,a4,a5⟩:=r;have e:=a1 _ (Smx.refl _ _) 5;rw [show 3+5=8 from rfl,UC (ts:=ts) rfl] at e;cases e;refine ⟨(FR ts).shown,fun h l e=>?_⟩;unfold BM;rw [UC e];exact if_pos ⟨a2,by omega,Br a5 (by unfold sizeLine;omega)⟩
end
theorem UH {src:A3} {sg:MG} {f:ME} (φ:Nat→D) (I:List D→HD→Prop) (ρ1:Nat→Ag) (hs:∀ys h,I ys h→BC src items h):
 ∀(xs:List Nat) (acc:List D) (h:HD),I acc h→(∀x∈xs,sg (φ x) ρc=some (ρ1 x))→(∀x∈xs,∀acc h,I acc h→Wp (f (ρ1 x) h) fun y h2=>I (acc++[y]) h2)→
  Wp (Cu src items sg Bl f ρc (xs.map φ) h) fun ys h'=>I (acc++ys) h'∧ys.length=xs.length
 |[],acc,h,i,_,_=>by
  simp only [Dy,Cu];rw [if_pos (hs acc h i)]
  show I (acc++[]) h∧_
  rw [Dx];exact ⟨i,rfl⟩
 |x::xs,acc,h,i,hg,ht=>by
  simp only [AZ,Cu];rw [if_pos (hs acc h i),hg x AK];simp only;rw [AA,Kf];refine Al (show Bl (ρ1 x) h=.ok true h from rfl) ?_;rw [AI,if_pos rfl,AA,Kf];refine Wp.mono (ht x AK acc h i) fun y h2 i2=>?_;rw [AA];refine Wp.mono (UH φ I ρ1 hs xs (acc++[y]) h2 i2 (fun y hy=>hg y (AN _ hy)) (fun y hy=>ht y (AN _ hy))) fun ys h3 i3=>?_
  show I (acc++y::ys) h3∧_
  rw [DY] at i3;exact ⟨i3.1,by rw [DN,DN,i3.2]⟩
section
variable {H W:Nat} {h:HD} {f:Nat→Nat→Bool}
theorem ZdA (n:NoB h d):Er (IQ [d] h) h "NoBoard":=by change We (AL 1 NW [d] h) _ _;refine Eq.mpr Kv ?_;simp;exact (Tz n.1 n.2).we fun h1 s1=>⟨rfl,rfl,s1⟩
theorem ZdB (n:NoB h d):Er (Gy [d] h) h "NoBoard":=by
 change We (AL 3 NX [d] h) _ _;refine Eq.mpr Kv ?_;simp;have e:∀ρ,AB Ac ρ h=.ok (.loc h.length) (h++[.lst []]):=fun ρ=>by
  unfold AB Ac BJ
  show (if ([]:List D).length≤sizeLine then Out.ok (D.loc (List.length h)) (h++[Cell.lst []]) else Out.stuck)=_
  exact if_pos (B8 _)
 rw [e,Z2];unfold BQ BK;rw [DG,DG];simp;exact (ZdA (n.sm (.app _ _))).we fun h1 s1=>⟨rfl,rfl,(Sm.app _ _).trans s1⟩
theorem ZdC {d t:D} (n:NoB h d):Er (E9 [d,t] h) h "NoBoard":=by change We (AL 4 Ld [d,t] h) _ _;refine Eq.mpr Kv ?_;simp;exact (Tz n.1 n.2).we fun h1 s1=>⟨rfl,rfl,s1⟩
theorem ZdD {b:Nat} (hh:1≤H∧H≤8) (hw:1≤W∧W≤8) (t:Th b h d):∃v,(∀h',Sm h h'→Pu (Ho [bD H W f,d] h') h' v)∧(∀h',Sm h h'→Pu (E9 [bD H W f,d] h') h' v)∧∃t,∀h',BM v h'=.ok (.str t) h':=by
 have rn:∃t,∀h',BM .non h'=.ok (.str t) h':=⟨_,fun h'=>rfl⟩
 cases t with
 |flat p nl r=>exact ⟨.non,fun h' s=>Zc9 (p.sm s) nl,fun h' s=>Zc5 hh hw (p.sm s) nl,rn⟩
 |lst l ds e hl el pl hz r=>
  subst e;refine ⟨DL H W f ds,fun h' s=>Zc8 hh hw (by omega) (s _ _ el) (fun x hx=>(pl x hx).sm s),fun h' s=>Zc4 hh hw (by omega) (s _ _ el) (fun x hx=>(pl x hx).sm s),?_⟩;unfold DL;cases e:BN H W f ds with
  |none=>exact rn
  |some ts=>
   have:=Uu e
   show ∃t,∀h',BM (if (ts.flatMap AH).Nodup then .int ((ts.length:Nat):Int) else .non) h'=_
   split
   ·obtain ⟨t,ht⟩:=Oe (b:=0) (h:=[]) (Lr (i:=((ts.length:Nat):Int)) (by omega) (by omega)) (by decide) (by unfold sizeLine;decide);exact ⟨t,fun h'=>ht h' fun k c e _=>by simp at *⟩
   ·exact rn
theorem ZdE {l:Nat} (e:h[l]?=some (.lst ds)):LS.listOfD (.loc l) h=BJ ds h:=by simp only [LS.listOfD,Bx,e]
end
@[irreducible] noncomputable def IX:MS:=As 2 (Af K3 (Aa (Ab 0) (Aa (Ab 1) (Ac))))
@[irreducible] noncomputable def IY:MS:=Gb 3 4 (Aa (Ae Am (mC (.int 2)) (Af Bu (Aa (Ab 2) (Aa (mC (.int 7)) (Ac))))) (Aa (Ae Am (mC (.int 2)) (Af Bu (Aa (Ab 2) (Aa (mC (.int 7)) (Ac))))) (Ac)))
@[irreducible] noncomputable def IZ:MS:=As 5 (Af La (Aa (Ab 2) (Aa (Ab 3) (Aa (Ab 4) (Ac)))))
@[irreducible] noncomputable def I0:MS:=As 6 (Af K2 (Aa (Ab 5) (Ac)))
@[irreducible] noncomputable def Ja:MS:=BQ (B5 (Aa (mC (.int 2)) (Ac))) (AQ 7) (Ai (As 8 (Af Gy (Aa (Ab 5) (Ac)))) (Ai (A5 (A2 (Ae BU (Af (An BM) (Aa (Ab 8) (Ac))) (Af (An BM) (Aa (Af Hn (Aa (Ab 6) (Ac))) (Ac))))) (AE (mC (.bl false))) (Bd)) (Cs (DD (Ab 8) (mC .non)))))
@[irreducible] noncomputable def Jb:MS:=EU (E4 [9,10]) (AW (Aa (Af (An listOfD) (Aa (Ab 6) (Ac))) (Aa (AB (Ac)) (Ac))))
@[irreducible] noncomputable def Jc:MS:=Ip (HU (A2 (Ae (CO not) (Ab 9) (AB (Ac)))) (A2 (Ae EN (Af (An AO) (Aa (Ab 10) (Ac))) (mC (.int 9))))) (Ai (As 11 (Ei Cb FK (Ab 9) (Af Bu (Aa (Ab 2) (Aa (Af (An AO) (Aa (Ab 9) (Ac))) (Ac)))))) (A5 (A2 (Ae CK (Af Hn (Aa (Ae Am (Ab 10) (AB (Aa (Ab 11) (Ac)))) (Ac))) (Ae Am (Ab 10) (AB (Aa (Ab 11) (Ac)))))) (Cs (DD (Ab 10) (Ab 11))) (Bd)))
@[irreducible] noncomputable def Jd:MS:=As 12 (AB (Aa (Ab 10) (Aa (AB (Ac)) (Aa (BB (Ab 6) (AX) (AM (mC (.int 2)))) (Aa (Ae Am (BB (Ab 6) (AX) (AM (mC (.int 1)))) (AB (Aa (AW (Aa (mC (.int 0)) (Aa (mC (.int 1)) (Aa (mC (.int 0)) (Aa (mC (.int 1)) (Ac)))))) (Ac)))) (Ac))))))
@[irreducible] noncomputable def Je:MS:=A5 (A2 (Ae (CO not) (Ab 10) (AB (Ac)))) (As 12 (Ae Am (Ab 12) (A6 [none,some 2,some 5,some 10] (B5 (Aa (mC (.int 5)) (Ac))) (AQ 0) (Bl) (Af K7 (Aa (Ab 1) (Aa (Ab 2) (Aa (Ab 3) (Ac)))))))) (Bd)
@[irreducible] noncomputable def Jf:MS:=BQ (BK (Ab 12)) (AQ 13) (Ai (As 14 (Af (An BM) (Aa (Ab 13) (Ac)))) (Ai (As 15 (Af Ho (Aa (Ab 5) (Aa (Ab 13) (Ac))))) (A5 (Ca (A2 (Ae BU (Af (An BM) (Aa (Af E9 (Aa (Ab 5) (Aa (Ab 13) (Ac)))) (Ac))) (Af (An BM) (Aa (Ab 15) (Ac))))) (A2 (Ae BU (Af (An BM) (Aa (Ab 13) (Ac))) (Ab 14)))) (AE (mC (.bl false))) (Bd))))
@[irreducible] noncomputable def Jg:MS:=As 16 (Af K5 (Aa (Ab 2) (Aa (Ab 5) (Ac))))
@[irreducible] noncomputable def Jh:MS:=A5 (A2 (Ae BU (He [16] FL (Af Gy (Aa (Ab 0) (Ac)))) (mC (.str "! board")))) (AE (mC (.bl false))) (Bd)
@[irreducible] noncomputable def Ji:MS:=A5 (A2 (Ae BU (He [16,10] FL (Af E9 (Aa (Ab 0) (Aa (Ab 1) (Ac))))) (mC (.str "! board")))) (AE (mC (.bl false))) (Bd)
def A7 (ns:List Int) (k b H W:Nat) (f:Nat→Nat→Bool) (c6 c7 c8 c9 c10 c11 c12 c13 c14 c15 c16:Option D):Ag:=[some (.scr ns),some (.int (k:Nat)),some (.loc b),some (.int ((H:Nat):Int)),some (.int ((W:Nat):Int)),some (bD H W f),c6,c7,c8,c9,c10,c11,c12,c13,c14,c15,c16]
structure Kp4 (H W:Nat) (f:Nat→Nat→Bool) (b l:Nat) (h:HD):Prop where
 bx:BoxAt h b
 b0:0<b
 tb:TabAt h
 ne:l≠b
 e:h[l]?=some (.lst ((Du H W f).map Aj))
structure Kp5 (H W:Nat) (f:Nat→Nat→Bool) (b l l9 l10:Nat) (Lf P:List Ap) (h:HD):Prop where
 kp:Kp4 H W f b l h
 n9b:l9≠b
 n10b:l10≠b
 n9:l9≠l
 n10:l10≠l
 nn:l9≠l10
 e9:h[l9]?=some (.lst (Lf.map Aj))
 e10:h[l10]?=some (.lst (P.map Aj))
 ok9:∀x∈Lf,By H W x
 ok10:∀x∈P,By H W x
 le9:Lf.length≤1000
 le10:P.length≤9
structure Kp6 (H W:Nat) (f:Nat→Nat→Bool) (b l10 l12:Nat) (P:List Ap) (Ts:List D) (h:HD):Prop where
 bx:BoxAt h b
 b0:0<b
 tb:TabAt h
 n10:l10≠b
 n12:l12≠b
 e10:h[l10]?=some (.lst (P.map Aj))
 e12:h[l12]?=some (.lst Ts)
 ok10:∀x∈P,By H W x
 le10:P.length≤9
 th:∀d∈Ts,Th b h d
 le12:Ts.length≤9
section
variable {ns:List Int} {k b H W l l9 l10 l12:Nat} {h h':HD} {f:Nat→Nat→Bool} {Lf P:List Ap} {Ts:List D} {c2 c3 c4 c5 c6 c7 c8 c9 c10 c11 c12 c13 c14 c15 c16:Option D} {Q:Fl×Ag→HD→Prop}
theorem Kp4.sm (k:Kp4 H W f b l h) (s:Sm h h'):Kp4 H W f b l h':=⟨k.bx.sm s,k.b0,k.tb.sm s,k.ne,s _ _ k.e⟩
theorem Kp4.smx (k:Kp4 H W f b l h) (s:Smx b h h') (x:BoxAt h' b):Kp4 H W f b l h':=⟨x,k.b0,k.tb.smx s k.b0,k.ne,s _ _ k.ne k.e⟩
theorem Kp5.sm (k:Kp5 H W f b l l9 l10 Lf P h) (s:Sm h h'):Kp5 H W f b l l9 l10 Lf P h':=⟨k.kp.sm s,k.n9b,k.n10b,k.n9,k.n10,k.nn,s _ _ k.e9,s _ _ k.e10,k.ok9,k.ok10,k.le9,k.le10⟩
theorem Kp5.smx (k:Kp5 H W f b l l9 l10 Lf P h) (s:Smx b h h') (x:BoxAt h' b):Kp5 H W f b l l9 l10 Lf P h':=⟨k.kp.smx s x,k.n9b,k.n10b,k.n9,k.n10,k.nn,s _ _ k.n9b k.e9,s _ _ k.n10b k.e10,k.ok9,k.ok10,k.le9,k.le10⟩
theorem Kp6.sm (k:Kp6 H W f b l10 l12 P Ts h) (s:Sm h h'):Kp6 H W f b l10 l12 P Ts h':=⟨k.bx.sm s,k.b0,k.tb.sm s,k.n10,k.n12,s _ _ k.e10,s _ _ k.e12,k.ok10,k.le10,fun d hd=>(k.th d hd).sm s,k.le12⟩
theorem Ly {x:Ap} (hx:x∈Du H W f):By H W x:=TV (qcF.mp hx).1
theorem st0 (hb:∀i∈ns,Builtin.Int.intBits i≤2^20) (hk:k≤1000) (ht:TabAt h) (q:∀b h',BoxAt h' b→0<b→TabAt h'→Q (.nx,[some (.scr ns),some (.int (k:Nat)),some (.loc b),c3,c4,c5,c6,c7,c8,c9,c10,c11,c12,c13,c14,c15,c16]) h'):Wp (IX [some (.scr ns),some (.int (k:Nat)),c2,c3,c4,c5,c6,c7,c8,c9,c10,c11,c12,c13,c14,c15,c16] h) Q:=by unfold IX;simp;exact Zb4 hb hk fun b h1 x1 lb s1=>q b h1 x1 (by have:=ht.pos;omega) (ht.sm s1)
theorem Oq (bx:BoxAt h b) (b0:0<b) (ht:TabAt h) (q:∀H W h',(1≤H∧H≤8)→(1≤W∧W≤8)→BoxAt h' b→TabAt h'→Q (.nx,[some (.scr ns),some (.int (k:Nat)),some (.loc b),some (.int ((H:Nat):Int)),some (.int ((W:Nat):Int)),c5,c6,c7,c8,c9,c10,c11,c12,c13,c14,c15,c16]) h'):Wp (IY [some (.scr ns),some (.int (k:Nat)),some (.loc b),c3,c4,c5,c6,c7,c8,c9,c10,c11,c12,c13,c14,c15,c16] h) Q:=by
 unfold IY;simp;refine DK bx b0 ht (by decide) (by decide) fun d h1 l1 x1 t1 s1=>?_;simp;refine DK x1 b0 t1 (by decide) (by decide) fun d2 h2 l2 x2 t2 s2=>?_;simp;have:=q (2+d) (2+d2) h2 (by omega) (by omega) x2 t2
 rwa [show ((2+d:Nat):Int)=2+(d:Int) by omega,show ((2+d2:Nat):Int)=2+(d2:Int) by omega] at this
theorem CP (hh:1≤H∧H≤8) (hw:1≤W∧W≤8) (bx:BoxAt h b) (b0:0<b) (ht:TabAt h) (q:∀f h',BoxAt h' b→TabAt h'→Q (.nx,A7 ns k b H W f c6 c7 c8 c9 c10 c11 c12 c13 c14 c15 c16) h'):Wp (IZ [some (.scr ns),some (.int (k:Nat)),some (.loc b),some (.int ((H:Nat):Int)),some (.int ((W:Nat):Int)),c5,c6,c7,c8,c9,c10,c11,c12,c13,c14,c15,c16] h) Q:=by unfold IZ;simp;exact Zcr bx hh hw fun f h1 x1 s1=>q f h1 x1 (ht.smx s1 b0)
theorem Lz (hh:1≤H∧H≤8) (hw:1≤W∧W≤8) (bx:BoxAt h b) (b0:0<b) (ht:TabAt h) (q:∀l h',Kp4 H W f b l h'→Q (.nx,A7 ns k b H W f (some (.loc l)) c7 c8 c9 c10 c11 c12 c13 c14 c15 c16) h'):Wp (I0 (A7 ns k b H W f c6 c7 c8 c9 c10 c11 c12 c13 c14 c15 c16) h) Q:=by
 unfold I0;simp [A7];refine ZcH hh hw fun l h1 s1 e1=>q l h1 ⟨bx.sm s1,b0,ht.sm s1,fun z=>?_,e1⟩;obtain ⟨n,eb⟩:=bx.sm s1;subst z;rw [e1] at eb;have:=Cell.lst.inj (Option.some.inj eb);cases hg:(AF H W).filter (BX f) with
 |nil=>rw [hg] at this;cases this
 |cons x xs=>rw [hg] at this;cases this
inductive I4 (ns:List Int) (k b H W l:Nat) (f:Nat→Nat→Bool) (c9 c10 c11 c12 c13 c14 c15 c16:Option D) (xs:List Nat) (ρ:Ag) (h':HD):Prop where
 |mk (y7 y8:Option D) (er:ρ=A7 ns k b H W f (some (.loc l)) y7 y8 c9 c10 c11 c12 c13 c14 c15 c16) (kp:Kp4 H W f b l h'):I4 ns k b H W l f c9 c10 c11 c12 c13 c14 c15 c16 xs ρ h'
theorem ZdF {L:List Ap} (h:∀x∈L,By H W x):∀x∈Bh L,By H W x:=fun x hx=>h x ((ZcI (L:=L)).1 x hx)
theorem LA (hh:1≤H∧H≤8) (hw:1≤W∧W≤8) (kp:Kp4 H W f b l h) (q:∀y7 y8 h',Kp4 H W f b l h'→Q (.nx,A7 ns k b H W f (some (.loc l)) y7 y8 c9 c10 c11 c12 c13 c14 c15 c16) h'):Wp (Ja (A7 ns k b H W f (some (.loc l)) c7 c8 c9 c10 c11 c12 c13 c14 c15 c16) h) Q:=by
 unfold Ja;have lz:=Lq (f:=f) hh.2 hw.2;have gz:=N8 (L:=Du H W f);obtain ⟨z,rz⟩:=Zdz (ts:=Bh (Du H W f)) (ZdF fun x hx=>Ly hx) hh.2 hw.2 (by omega);refine CI (src:=[]) (xs:=List.range 2) (fun i=>.int ((i:Nat):Int)) (I4 ns k b H W l f c9 c10 c11 c12 c13 c14 c15 c16) ?_ (fun ys ρ h' _=>Dk) ?_ ?_
 ·simp [A7];rw [show (2:Int)=((2:Nat):Int) from rfl,Ee (by omega)];exact ⟨rfl,_,_,rfl,kp⟩
 ·rintro x xs ρ h1 ⟨y7,y8,rfl,kp⟩;refine ⟨_,rfl,?_⟩;simp [A7,-Ah];refine ZcJ hh hw fun l8 h2 s2 e2 n8=>?_;refine Eq.mpr Ah ?_;have kp2:=kp.sm s2;simp [-Ah,rz h2 l8 e2];refine Uk hh.2 hw.2 (fun x hx=>Ly hx) lz kp2.e fun l9 h3 s3 e3 n9=>?_;simp [-Ah,rz h3 l9 e3];refine Eq.mpr Ah ?_;have e23:=s3 _ _ e2;simp [EY e23];refine Al (G5 e23 (by rw [A0];unfold sizeLine;omega)) ?_;simp [BD];exact ⟨_,_,rfl,kp.sm (Sm.put (s2.trans s3) n8)⟩
 ·rintro ρ h1 ⟨y7,y8,rfl,kp⟩;exact q _ _ _ kp
theorem DW (hh:1≤H∧H≤8) (hw:1≤W∧W≤8) (kp:Kp4 H W f b l h) (q:∀l9 l10 h',Kp5 H W f b l l9 l10 (Du H W f) [] h'→Q (.nx,A7 ns k b H W f (some (.loc l)) c7 c8 (some (.loc l9)) (some (.loc l10)) c11 c12 c13 c14 c15 c16) h'):Wp (Jb (A7 ns k b H W f (some (.loc l)) c7 c8 c9 c10 c11 c12 c13 c14 c15 c16) h) Q:=by
 unfold Jb;have lz:=Lq (f:=f) hh.2 hw.2;simp [A7];refine Al (ZdE kp.e) ?_;refine Av (by rw [A0];unfold sizeLine;omega) fun l9 h1 s1 e1 n1 _=>?_
 try simp
 refine Av (by simp) fun l10 h2 s2 e2 n2 _=>?_;have hb:=kp.bx.lt;have hl:l<h.length:=(qa1.mp kp.e).1;have:=s1.len;have:h.length<h1.length:=by have:=(qa1.mp e1).1;omega
 try simp
 exact q l9 l10 h2 ⟨(kp.sm s1).sm s2,by omega,by omega,by omega,by omega,by omega,s2 _ _ e1,by simpa using e2,fun x hx=>Ly hx,fun x hx=>(nomatch hx),lz,by simp⟩
end
section
variable {ns:List Int} {k b H W l l9 l10 l12:Nat} {h h':HD} {f:Nat→Nat→Bool} {Lf P:List Ap} {Ts:List D} {c2 c3 c4 c5 c6 c7 c8 c9 c10 c11 c12 c13 c14 c15 c16:Option D} {Q:Fl×Ag→HD→Prop}
inductive I6 (ns:List Int) (k b H W l l9 l10:Nat) (f:Nat→Nat→Bool) (c7 c8 c12 c13 c14 c15 c16:Option D) (m:Nat) (ρ:Ag) (h':HD):Prop where
 |mk (Lf P:List Ap) (y11:Option D) (em:Lf.length=m) (er:ρ=A7 ns k b H W f (some (.loc l)) c7 c8 (some (.loc l9)) (some (.loc l10)) y11 c12 c13 c14 c15 c16) (kp:Kp5 H W f b l l9 l10 Lf P h'):I6 ns k b H W l l9 l10 f c7 c8 c12 c13 c14 c15 c16 m ρ h'
theorem ZdG {α:Type} {l:List α} {i:Nat} {x:α} (h:x∈l.eraseIdx i):x∈l:=List.mem_of_mem_eraseIdx h
theorem Kp5.pop (kp:Kp5 H W f b l l9 l10 Lf P h) {d:Nat} (hd:d<Lf.length):Kp5 H W f b l l9 l10 (Lf.eraseIdx d) P (h.set l9 (.lst ((Lf.eraseIdx d).map Aj))):=by
 have lt:l9<h.length:=(qa1.mp kp.e9).1;refine ⟨⟨?_,kp.kp.b0,?_,kp.kp.ne,?_⟩,kp.n9b,kp.n10b,kp.n9,kp.n10,kp.nn,BZ lt,?_,fun x hx=>kp.ok9 x (ZdG hx),kp.ok10,?_,kp.le10⟩
 ·obtain ⟨n,e⟩:=kp.kp.bx;exact ⟨n,by rw [Be kp.n9b];exact e⟩
 ·have:0≠l9:=fun z=>by have:=kp.kp.tb;unfold TabAt at this;rw [z,kp.e9] at this;cases this
  unfold TabAt;rw [Be (Ne.symm this)];exact kp.kp.tb
 ·rw [Be kp.n9];exact kp.kp.e
 ·rw [Be kp.nn];exact kp.e10
 ·rw [List.length_eraseIdx_of_lt hd];have:=kp.le9;omega
theorem Kp5.put (kp:Kp5 H W f b l l9 l10 Lf P h) {x:Ap} (ok:By H W x) (hz:P.length<9):Kp5 H W f b l l9 l10 Lf (P++[x]) (h.set l10 (.lst (P.map Aj++[Aj x]))):=by
 have lt:l10<h.length:=(qa1.mp kp.e10).1;refine ⟨⟨?_,kp.kp.b0,?_,kp.kp.ne,?_⟩,kp.n9b,kp.n10b,kp.n9,kp.n10,kp.nn,?_,?_,kp.ok9,fun y hy=>?_,kp.le9,by simp;omega⟩
 ·obtain ⟨n,e⟩:=kp.kp.bx;exact ⟨n,by rw [Be kp.n10b];exact e⟩
 ·have:0≠l10:=fun z=>by have:=kp.kp.tb;unfold TabAt at this;rw [z,kp.e10] at this;cases this
  unfold TabAt;rw [Be (Ne.symm this)];exact kp.kp.tb
 ·rw [Be kp.n10];exact kp.kp.e
 ·rw [Be (Ne.symm kp.nn)];exact kp.e9
 ·rw [BZ lt];simp
 ·rcases qaP.mp hy with hy |hy
  ·exact kp.ok10 y hy
  ·rw [qaJ.mp hy];exact ok
theorem ZdH {ds:List D} {d:Nat} (e:h[l9]?=some (.lst ds)) (ex:ds[d]?=some x) (hd:(d:Int)<2^63):FK (.loc l9) (.int (d:Nat)) h=.ok x (h.set l9 (.lst (ds.eraseIdx d))):=by simp only [FK,e];rw [if_pos ⟨by omega,hd⟩];simp only [Jn,ex]
theorem st6 (hh:1≤H∧H≤8) (hw:1≤W∧W≤8) (kp:Kp5 H W f b l l9 l10 Lf P h) (q:∀Lf P y11 h',Kp5 H W f b l l9 l10 Lf P h'→Q (.nx,A7 ns k b H W f (some (.loc l)) c7 c8 (some (.loc l9)) (some (.loc l10)) y11 c12 c13 c14 c15 c16) h'):Wp (Jc (A7 ns k b H W f (some (.loc l)) c7 c8 (some (.loc l9)) (some (.loc l10)) c11 c12 c13 c14 c15 c16) h) Q:=by
 unfold Jc;refine Zc (I6 ns k b H W l l9 l10 f c7 c8 c12 c13 c14 c15 c16) Lf.length (by have:=kp.le9;omega) ⟨Lf,P,_,rfl,rfl,kp⟩ ?_;rintro m ρ h1 ⟨Lf,P,y11,em,rfl,kp⟩;simp [A7,-Ah];refine Av (by simp) fun a h2 s2 e2 _ _=>?_;have kp2:=kp.sm s2;refine Al (Ls kp2.e9 e2) ?_;rw [AI];cases hL:Lf with
 |nil=>subst hL;simp;exact q _ _ _ h2 kp2
 |cons x0 L0=>
  rw [←hL];have hne:¬Lf.map Aj=[]:=by rw [hL];simp
  have hpos:0<Lf.length:=by rw [hL];simp
  clear hL;rw [decide_eq_false hne];simp [-Ah];refine Al (E3 kp2.e10) ?_;rw [AI];simp [-Ah]
  by_cases h9:P.length<9
  ·have h9':(P.length:Int)<9:=by omega
   simp [-Ah,h9',h9];refine Al (EY kp2.e9) ?_;rw [AI];refine Al (E3 kp2.e9) ?_;rw [AI];have le9:=kp2.le9;refine DK kp2.kp.bx kp2.kp.b0 kp2.kp.tb (by rw [A0];omega) (by rw [A0];omega) fun d h3 ld x3 t3 s3=>?_;rw [A0] at ld;have hd:d<Lf.length:=by omega
   have kp3:=kp2.smx s3 x3;have ix:(Lf.map Aj)[d]?=some (Aj Lf[d]):=by rw [BO,AR hd];rfl
   refine Al (ZdH kp3.e9 ix (by omega)) ?_;rw [AI];have er:(Lf.map Aj).eraseIdx d=(Lf.eraseIdx d).map Aj:=by rw [Jj,Jj];simp
   have kp4:=kp3.pop hd;rw [er];have okx:=kp3.ok9 _ (Dh hd);have hm:(Lf.eraseIdx d).length<m:=by rw [List.length_eraseIdx_of_lt hd];omega
   generalize Lf.eraseIdx d=L1 at *;generalize Lf[d]=x at *;generalize h3.set l9 (.lst (L1.map Aj))=h4 at *;refine Eq.mpr Ah ?_;simp [-Ah];refine Av (by simp) fun a1 g1 z1 e1 _ _=>?_;have k1:=kp4.sm z1;refine Al (Ck k1.e10 e1) ?_;have lP:=k1.le10;refine Av (by simp;unfold sizeLine;omega) fun a2 g2 z2 e2' _ _=>?_;have k2:=k1.sm z2;have ep:P.map Aj++[Aj x]=(P++[x]).map Aj:=by simp
   rw [ep] at e2';have okP:∀y∈P++[x],By H W y:=fun y hy=>by
    rcases qaP.mp hy with hy |hy
    ·exact k2.ok10 y hy
    ·rw [qaJ.mp hy];exact okx
   refine Uk hh.2 hw.2 okP (by simp;omega) e2' fun a3 g3 z3 e3 _=>?_
   try simp [-Ah]
   refine Av (by simp) fun a4 g4 z4 e4 _ _=>?_;have k4:=(k2.sm z3).sm z4;refine Al (Ck k4.e10 e4) ?_;refine Av (by simp;unfold sizeLine;omega) fun a5 g5 z5 e5 _ _=>?_;rw [ep] at e5;have k5:=k4.sm z5;obtain ⟨c,ec⟩:=Zdy ((z4.trans z5) _ _ e3) e5;refine Al ec ?_;rw [AI];cases c with
   |true=>simp [EY k5.e10];refine Al (G5 k5.e10 (by simp;unfold sizeLine;omega)) ?_;simp [BD];exact ⟨_,hm,⟨L1,P++[x],_,rfl,rfl,k5.put okx h9⟩⟩
   |false=>simp [BD];exact ⟨_,hm,⟨L1,P,_,rfl,rfl,k5⟩⟩
  ·have h9':¬(P.length:Int)<9:=by omega
   simp [h9',h9];exact q _ _ _ h2 kp2
end
section
variable {ns:List Int} {k b H W l l9 l10 l12:Nat} {h h':HD} {f:Nat→Nat→Bool} {Lf P:List Ap} {Ts:List D} {c2 c3 c4 c5 c6 c7 c8 c9 c10 c11 c12 c13 c14 c15 c16:Option D} {Q:Fl×Ag→HD→Prop}
theorem UI {ts:List Ap} (hh:H≤8) (hw:W≤8) (ok:∀x∈ts,By H W x):∀d∈ts.map Aj,Ot b h d:=fun d hd=>by obtain ⟨x,hx,rfl⟩:=qaI.mp hd;exact Oo (ok x hx) hh hw
theorem Ff (hh:1≤H∧H≤8) (hw:1≤W∧W≤8) (kp:Kp5 H W f b l l9 l10 Lf P h) (q:∀l12 Ts h',Kp6 H W f b l10 l12 P Ts h'→Ts.length=4→Q (.nx,A7 ns k b H W f (some (.loc l)) c7 c8 (some (.loc l9)) (some (.loc l10)) c11 (some (.loc l12)) c13 c14 c15 c16) h'):Wp (Jd (A7 ns k b H W f (some (.loc l)) c7 c8 (some (.loc l9)) (some (.loc l10)) c11 c12 c13 c14 c15 c16) h) Q:=by
 unfold Jd;have hb:=kp.kp.bx.lt;have lz:=Lq (f:=f) hh.2 hw.2;have ol:∀{h':HD},∀d∈(Du H W f).map Aj,Ot b h' d:=fun {h'}=>UI hh.2 hw.2 fun x hx=>Ly hx;simp [A7,Hr];refine Av (by simp) fun a1 g1 s1 e1 n1 _=>?_
 try simp [Hr]
 refine Al (Lx (k:=2) (kp.sm s1).kp.e) ?_;refine Av (by simp;unfold sizeLine;omega) fun a2 g2 s2 e2 n2 _=>?_
 try simp [Hr]
 refine Al (Lx (k:=1) ((kp.sm s1).sm s2).kp.e) ?_;refine Av (by simp;unfold sizeLine;omega) fun a3 g3 s3 e3 n3 _=>?_
 try simp
 refine Av (by simp) fun a4 g4 s4 e4 n4 _=>?_;refine Al (Ck (s4 _ _ e3) e4) ?_;refine Av (by simp;unfold sizeLine;omega) fun a5 g5 s5 e5 n5 _=>?_
 try simp
 refine Av (by simp) fun l12 g6 s6 e6 n6 _=>?_;have S:=((((s1.trans s2).trans s3).trans s4).trans s5).trans s6;have k6:=kp.sm S;have m1:=s1.len;have m2:=s2.len;have m3:=s3.len;have m4:=s4.len;have m5:=s5.len;have t4:Ot b g6 (.tup [.int 0,.int 1,.int 0,.int 1]):=Fc (all_cons (Dv (n:=0) (by decide)) (all_cons (Dv (n:=1) (by decide)) (all_cons (Dv (n:=0) (by decide)) (all_cons (Dv (n:=1) (by decide)) Bv)))) (by simp);refine q l12 _ g6 ⟨k6.kp.bx,k6.kp.b0,k6.kp.tb,k6.n10b,by omega,k6.e10,e6,k6.ok10,k6.le10,?_,by simp⟩ (by simp);refine all_cons (Fd k6.n10b k6.e10 (UI hh.2 hw.2 k6.ok10) (by have:=k6.le10;simp;omega)) <|
  all_cons (Fd (by omega) (((((s2.trans s3).trans s4).trans s5).trans s6) _ _ e1) Bv (by simp)) <|
  all_cons (Fd (by omega) ((((s3.trans s4).trans s5).trans s6) _ _ e2) (fun d hd=>ol d (EB hd)) (by simp;omega)) <|
  all_cons (Fd (by omega) (s6 _ _ e5) (Ey (fun d hd=>ol d (EB hd)) (all_cons t4 Bv)) (by simp;omega)) Bv
inductive I8 (H W:Nat) (f:Nat→Nat→Bool) (b l10 l12:Nat) (P:List Ap) (Ts:List D) (ys:List D) (h':HD):Prop where
 |mk (kp:Kp6 H W f b l10 l12 P Ts h') (ty:∀d∈ys,Th b h' d):I8 H W f b l10 l12 P Ts ys h'
theorem Kp6.smx (k:Kp6 H W f b l10 l12 P Ts h) (s:Smx b h h') (x:BoxAt h' b):Kp6 H W f b l10 l12 P Ts h':=⟨x,k.b0,k.tb.smx s k.b0,k.n10,k.n12,s _ _ k.n10 k.e10,s _ _ k.n12 k.e12,k.ok10,k.le10,fun d hd=>(k.th d hd).smx s x,k.le12⟩
theorem st8 (hh:1≤H∧H≤8) (hw:1≤W∧W≤8) (kp:Kp6 H W f b l10 l12 P Ts h) (h4:Ts.length=4) (q:∀l12 Ts h',Kp6 H W f b l10 l12 P Ts h'→Q (.nx,A7 ns k b H W f c6 c7 c8 c9 (some (.loc l10)) c11 (some (.loc l12)) c13 c14 c15 c16) h'):Wp (Je (A7 ns k b H W f c6 c7 c8 c9 (some (.loc l10)) c11 (some (.loc l12)) c13 c14 c15 c16) h) Q:=by
 unfold Je;simp [A7];refine Av (by simp) fun a1 g1 s1 e1 _ _=>?_;have k1:=kp.sm s1;refine Al (Ls k1.e10 e1) ?_;rw [AI]
 by_cases hP:P=[]
 ·subst hP;simp;exact q _ _ _ k1
 ·have hne:¬P.map Aj=[]:=fun z=>hP (List.map_eq_nil_iff.mp z);have hpos:0<P.length:=List.length_pos_iff.mpr hP;rw [decide_eq_false hne];simp;unfold A6;rw [AA];simp;rw [show (5:Int)=((5:Nat):Int) from rfl,Ee (by omega),AI];rw [if_pos (by simp),AA];refine Wp.mono (UH (src:=[]) (fun x:Nat=>D.int ((x:Nat):Int)) (I8 H W f b l10 l12 P Ts) (fun x=>[some (.int (x:Nat)),some (.loc b),some (bD H W f),some (.loc l10)]) (fun ys h _=>Dk) (List.range 5) [] g1 ⟨k1,Bv⟩ (fun x _=>rfl) fun x _ acc h' i=>?_) fun ys h2 i2=>?_
  ·obtain ⟨kp',ty⟩:=i;simp;exact Zdv kp'.bx kp'.b0 kp'.tb kp'.n10 kp'.e10 hpos kp'.le10 kp'.ok10 hh.2 hw.2 fun d h3 x3 t3 s3 td=>⟨kp'.smx s3 x3,Ey (fun d hd=>(ty d hd).smx s3 x3) (all_cons td Bv)⟩
  ·obtain ⟨⟨kp',ty⟩,ly⟩:=i2;rw [FV] at ly;refine Av (by rw [ly];simp) fun a2 g2 s2 e2 n2 _=>?_;have k2:=kp'.sm s2;refine Al (Ck k2.e12 e2) ?_;refine Av (by rw [Dg,ly,h4];simp) fun l12' g3 s3 e3 n3 _=>?_;have k3:=k2.sm s3;have:=k2.bx.lt;exact q l12' _ g3 ⟨k3.bx,k3.b0,k3.tb,k3.n10,by omega,k3.e10,e3,k3.ok10,k3.le10,Ey k3.th fun d hd=>(ty d hd).sm (s2.trans s3),by rw [Dg,ly,h4];omega⟩
inductive I9 (ns:List Int) (k b H W l10 l12:Nat) (f:Nat→Nat→Bool) (P:List Ap) (Ts:List D) (c6 c7 c8 c9 c11 c16:Option D) (xs:List D) (ρ:Ag) (h':HD):Prop where
 |mk (y13 y14 y15:Option D) (er:ρ=A7 ns k b H W f c6 c7 c8 c9 (some (.loc l10)) c11 (some (.loc l12)) y13 y14 y15 c16) (kp:Kp6 H W f b l10 l12 P Ts h') (sub:∀d∈xs,d∈Ts):I9 ns k b H W l10 l12 f P Ts c6 c7 c8 c9 c11 c16 xs ρ h'
theorem Th.rp (t:Th b h d):∃t:Str,∀h',Smx b h h'→BM d h'=.ok (.str t) h':=by
 cases t with
 |flat p nl r=>exact Oe r (by decide) (by unfold sizeLine;decide)
 |lst l ds e hl el pl hz r=>exact Oe r (by decide) (by unfold sizeLine;decide)
theorem st9 (hh:1≤H∧H≤8) (hw:1≤W∧W≤8) (kp:Kp6 H W f b l10 l12 P Ts h) (q:∀y13 y14 y15 h',Kp6 H W f b l10 l12 P Ts h'→Q (.nx,A7 ns k b H W f c6 c7 c8 c9 (some (.loc l10)) c11 (some (.loc l12)) y13 y14 y15 c16) h'):Wp (Jf (A7 ns k b H W f c6 c7 c8 c9 (some (.loc l10)) c11 (some (.loc l12)) c13 c14 c15 c16) h) Q:=by
 unfold Jf;refine CI (src:=[(l12,Ts)]) (xs:=Ts) (fun d=>d) (I9 ns k b H W l10 l12 f P Ts c6 c7 c8 c9 c11 c16) ?_ (fun ys ρ h' i=>by obtain ⟨_,_,_,_,kp,_⟩:=i;exact Dl kp.e12) ?_ ?_
 ·simp [A7];refine Al (DF kp.e12) ?_;exact ⟨by simp,⟨_,_,_,rfl,kp,fun d hd=>hd⟩⟩
 ·rintro x xs ρ h1 ⟨y13,y14,y15,rfl,kp,sub⟩;refine ⟨_,rfl,?_⟩;have tx:=kp.th x (sub x (.head _));obtain ⟨t,ht⟩:=tx.rp;obtain ⟨v,p1,p2,z,hz⟩:=ZdD (f:=f) hh hw tx;simp [A7,-Ah];refine Al (ht h1 (Smx.refl _ _)) ?_;rw [AI];refine Eq.mpr Ah ?_;simp [-Ah];refine (p1 h1 (.refl _)).wp fun h2 s2=>?_;refine Eq.mpr Ah ?_;simp [-Ah];refine (p2 h2 s2).wp fun h3 s3=>?_;simp [hz];refine Al (ht h3 (BV (s2.trans s3))) ?_;simp [BD];exact ⟨_,_,_,rfl,kp.sm (s2.trans s3),fun d hd=>sub d (.tail _ hd)⟩
 ·rintro ρ h1 ⟨y13,y14,y15,rfl,kp,_⟩;exact q _ _ _ _ kp
end
section
variable {ns:List Int} {k b H W l l9 l10 l12:Nat} {h h':HD} {f:Nat→Nat→Bool} {Lf P:List Ap} {Ts:List D} {c2 c3 c4 c5 c6 c7 c8 c9 c10 c11 c12 c13 c14 c15 c16:Option D} {Q:Fl×Ag→HD→Prop}
theorem ZdI (hh:1≤H∧H≤8) (hw:1≤W∧W≤8) (kp:Kp6 H W f b l10 l12 P Ts h) (q:∀d h',NoB h' d→TabAt h'→Q (.nx,A7 ns k b H W f c6 c7 c8 c9 c10 c11 c12 c13 c14 c15 (some d)) h'):Wp (Jg (A7 ns k b H W f c6 c7 c8 c9 c10 c11 c12 c13 c14 c15 c16) h) Q:=by unfold Jg;simp [A7];exact Zco kp.bx kp.b0 kp.tb hh hw fun d h1 n1 x1 t1 s1=>q d h1 n1 t1
theorem ZdJ (n:NoB h d) (ht:TabAt h) (q:∀h',Sm h h'→Q (.nx,A7 ns k b H W f c6 c7 c8 c9 c10 c11 c12 c13 c14 c15 (some d)) h'):Wp (Jh (A7 ns k b H W f c6 c7 c8 c9 c10 c11 c12 c13 c14 c15 (some d)) h) Q:=by
 unfold Jh;simp [A7];refine TU (ds:=[d]) ht rfl ?_ fun h1 s1=>?_
 ·unfold Er;simp;exact ZdB n
 ·simp;exact q h1 s1
theorem ZdK (n:NoB h d) (ht:TabAt h) (q:∀h',Sm h h'→Q (.nx,A7 ns k b H W f c6 c7 c8 c9 (some t) c11 c12 c13 c14 c15 (some d)) h'):Wp (Ji (A7 ns k b H W f c6 c7 c8 c9 (some t) c11 c12 c13 c14 c15 (some d)) h) Q:=by
 unfold Ji;simp [A7];refine TU (ds:=[d,t]) ht rfl ?_ fun h1 s1=>?_
 ·unfold Er;simp;exact ZdC n
 ·simp;exact q h1 s1
theorem ZdL {QB:Fl×Ag→HD→Prop} {x:Nat} (hb:∀i∈ns,Builtin.Int.intBits i≤2^20) (hk:x≤1000) (ht:TabAt h) (q:∀b2 b3 b4 b5 b6 b7 b8 b9 b10 b11 b12 b13 b14 b15 b16 h',TabAt h'→QB (.nx,[some (.scr ns),some (.int (x:Nat)),b2,b3,b4,b5,b6,b7,b8,b9,b10,b11,b12,b13,b14,b15,b16]) h'):
 Wp (Ai IX (Ai IY (Ai IZ (Ai I0 (Ai Ja (Ai Jb (Ai Jc (Ai Jd (Ai Je (Ai Jf (Ai Jg (Ai Jh Ji))))))))))) [some (.scr ns),some (.int (x:Nat)),c2,c3,c4,c5,c6,c7,c8,c9,c10,c11,c12,c13,c14,c15,c16] h) QB:=by
 rw [BA];refine st0 hb hk ht fun b h0 x0 b0 t0=>?_;rw [Ah,BA];refine Oq x0 b0 t0 fun H W h1 hh hw x1 t1=>?_;rw [Ah,BA];refine CP hh hw x1 b0 t1 fun f h2 x2 t2=>?_;rw [Ah,BA];refine Lz hh hw x2 b0 t2 fun l h3 k3=>?_;rw [Ah,BA];refine LA hh hw k3 fun y7 y8 h4 k4=>?_;rw [Ah,BA];refine DW hh hw k4 fun l9 l10 h5 k5=>?_;rw [Ah,BA];refine st6 hh hw k5 fun Lf P y11 h6 k6=>?_;rw [Ah,BA];refine Ff hh hw k6 fun l12 Ts h7 k7 z7=>?_;rw [Ah,BA];refine st8 hh hw k7 z7 fun l12' Ts' h8 k8=>?_;rw [Ah,BA];refine st9 hh hw k8 fun y13 y14 y15 h9 k9=>?_;rw [Ah,BA];refine ZdI hh hw k9 fun d h10 n10 t10=>?_;rw [Ah,BA];refine ZdJ n10 t10 fun h11 s11=>?_;rw [Ah];exact ZdK (n10.sm s11) (t10.sm s11) fun h12 s12=>q _ _ _ _ _ _ _ _ _ _ _ _ _ _ _ _ ((t10.sm s11).sm s12)
end
def IL (ns:List Int) (xs:List Nat) (ρ:Ag) (h':HD):Prop:=∃d1 d2 d3 d4 d5 d6 d7 d8 d9 d10 d11 d12 d13 d14 d15 d16,ρ=[some (.scr ns),d1,d2,d3,d4,d5,d6,d7,d8,d9,d10,d11,d12,d13,d14,d15,d16]∧TabAt h'∧∀k∈xs,k≤1000
theorem ZdM:NY=Ai (BQ (B5 (Aa (Af (A4 Ia) (Aa (mC (.int 1)) (Aa (Af (A4 Ib) (Aa (Af (An AO) (Aa (Ab 0) (Ac))) (Aa (mC (.int 4)) (Ac)))) (Ac)))) (Ac))) (AQ 1) (Ai IX (Ai IY (Ai IZ (Ai I0 (Ai Ja (Ai Jb (Ai Jc (Ai Jd (Ai Je (Ai Jf (Ai Jg (Ai Jh (Ji)))))))))))))) (AE (mC (.bl true))):=by unfold IX IY IZ I0 Ja Jb Jc Jd Je Jf Jg Jh Ji;rfl
theorem law_true (ns:List Int) (hl:ns.length≤63) (hb:∀i∈ns,Builtin.Int.intBits i≤2^20):∃h',F_law [.scr ns] [.tab]=.ok (.bl true) h':=by
 have main:Wp (F_law [.scr ns] [.tab]) fun d _=>d=.bl true:=by
  change Wp (AL 17 (NY) [.scr ns] [.tab]) _;rw [ZdM,A9,BA];obtain ⟨n,en,hn⟩:∃n:Nat,(if (if (4:Int)<(ns.length:Int) then (4:Int) else (ns.length:Int))>1 then (if (4:Int)<(ns.length:Int) then (4:Int) else (ns.length:Int)) else 1)=(n:Int)∧n≤99:=by
   have h0:0≤(if (if (4:Int)<(ns.length:Int) then (4:Int) else (ns.length:Int))>1 then (if (4:Int)<(ns.length:Int) then (4:Int) else (ns.length:Int)) else 1)∧(if (if (4:Int)<(ns.length:Int) then (4:Int) else (ns.length:Int))>1 then (if (4:Int)<(ns.length:Int) then (4:Int) else (ns.length:Int)) else 1)≤99:=by constructor<;>(split<;>split<;>omega)
   generalize (if (if (4:Int)<(ns.length:Int) then (4:Int) else (ns.length:Int))>1 then (if (4:Int)<(ns.length:Int) then (4:Int) else (ns.length:Int)) else 1)=E at h0;exact ⟨E.toNat,by omega,by omega⟩
  refine CI (src:=[]) (xs:=List.range n) (fun i=>.int ((i:Nat):Int)) (IL ns) ?_ (fun ys ρ h' _=>Dk) ?_ ?_
  ·simp;rw [en,Ee (by omega)];exact ⟨rfl,_,_,_,_,_,_,_,_,_,_,_,_,_,_,_,_,rfl,rfl,fun k hk=>by have:=qaZ.mp hk;omega⟩
  ·rintro x xs ρ h' ⟨d1,d2,d3,d4,d5,d6,d7,d8,d9,d10,d11,d12,d13,d14,d15,d16,rfl,t,hx⟩;refine ⟨_,rfl,?_⟩;exact ZdL hb (hx x AK) t fun _ _ _ _ _ _ _ _ _ _ _ _ _ _ _ h2 t2=>⟨_,_,_,_,_,_,_,_,_,_,_,_,_,_,_,_,rfl,t2,fun k hk=>hx k (AN _ hk)⟩
  ·rintro ρ h' ⟨d1,d2,d3,d4,d5,d6,d7,d8,d9,d10,d11,d12,d13,d14,d15,d16,rfl,t,hx⟩;simp
 obtain ⟨a,h',e,rfl⟩:=Wp.ex main;exact ⟨h',e⟩
end LK
set_option maxHeartbeats 0
namespace LK
open PySem PySem.Spec PyProof.Rows L2 LS
theorem ZdN:M9 NR:=⟨⟨rfl,rfl,rfl,by decide +kernel,rfl,by decide +kernel,by decide +kernel⟩,rfl,rfl,rfl,rfl,rfl,⟨_,_,_,_,_,_,_,_,_,_,_,_,_,_,_,_,_,rfl⟩⟩
section
set_option hygiene false
local macro_rules |`(tactic|infer_instance)=>`(tactic|first |((with_reducible show PE _ (.Name _ _) _);first |exact Za7 |exact WY rfl (by show mg _=_;with_reducible assumption) |exact X8 rfl (B _ (by decide +kernel)) (by decide +kernel) |exact ZY et (by decide +kernel)) |((with_reducible show PE _ (.Constant _ _ _) _);first |exact WV |exact WW |exact WX |exact Pe) |((with_reducible show PE _ (.Tuple _ _ _) _);((with_reducible refine Xa ?_);ac_rfl)) |((with_reducible show PE _ (.List _ _) _);((with_reducible refine Xb ?_);ac_rfl)) |((with_reducible show PE _ (.BinOp _ .Add _ _) _);(refine HQ Xg ?_ ?_<;>ac_rfl)) |((with_reducible show PE _ (.BinOp _ .Mod _ _) _);(refine HQ Xj ?_ ?_<;>ac_rfl)) |((with_reducible show PE _ (.BinOp _ .Mult _ _) _);(refine HQ ZW ?_ ?_<;>ac_rfl)) |((with_reducible show PE _ (.BinOp _ .Pow _ _) _);(refine HQ Xk ?_ ?_<;>ac_rfl)) |((with_reducible show PE _ (.BinOp _ .FloorDiv _ _) _);(refine HQ Xy ?_ ?_<;>ac_rfl)) |((with_reducible show PE _ (.Subscript _ (.Slice _ _ _ _) _) _);first |(refine ZbQ ?_ ?_ ?_<;>ac_rfl) |(refine Zaf ?_ ?_ ?_<;>ac_rfl) |(refine Zak ?_;ac_rfl) |(refine ZaL ?_;ac_rfl)) |((with_reducible show PE _ (.Subscript _ _ _) _);(refine Xs ?_ ?_ fun _ _=>rfl<;>ac_rfl)) |((with_reducible show PE _ (.Call (.Attribute _ "append" _) _ _ _) _);(refine Ye ?_ ?_<;>ac_rfl)) |((with_reducible show PE _ (.Call (.Attribute _ "count" _) _ _ _) _);(refine Kq PySem.F.plainAttrs_list PySem.F.slot_list_count PySem.F.type_list_count Kr Zt Zr ?_ ?_<;>ac_rfl)) |((with_reducible show PE _ (.Call (.Attribute _ "index" _) _ _ _) _);(refine Kq PySem.F.plainAttrs_list PySem.F.slot_list_index PySem.F.type_list_index Kr Zs Zu ?_ ?_<;>ac_rfl)) |((with_reducible show PE _ (.Call (.Attribute _ "pop" _) _ _ _) _);(refine Kq PySem.F.plainAttrs_list PySem.F.slot_list_pop PySem.F.type_list_pop Kr ZbZ Zb1 ?_ ?_<;>ac_rfl)) |((with_reducible show PE _ (.Call (.Name _ _) [.Lambda _ _ _ _] _ _) _);(refine Za8 LX (fun _=>rfl) hr Kj et Sd ZdN (CaM.mono (k:=8) C8 (by decide)) ⟨⟨rfl,rfl,rfl,by kernel_rfl⟩,by decide +kernel,by kernel_rfl,rfl,by kernel_rfl⟩ (fun a cd cl A outer s H E' hr=>?_) rfl;ac_rfl)) |((with_reducible show PE _ (.Call (.Name _ _) _ _ _) _);first |(refine YT (by show CaE l.prog w K mg base _ _ _;with_reducible assumption) hr (by first |exact YK |exact YS |exact Zy) ?_;ac_rfl) |(refine Xe (by first |exact Yd rfl |exact Ze rfl |exact Zn et |exact Xz rfl |exact XA rfl |exact Zbb sy hr.units hr.gd |exact Yb rfl |exact Xw |exact Xu) rfl (B _ (by decide +kernel)) (by decide +kernel) ?_;ac_rfl) |(refine Xf (by first |exact Za1 rfl hr.units |exact XB |exact Zab |exact XC) rfl (B _ (by decide +kernel)) (by decide +kernel) ?_;ac_rfl) |(refine ZbJ rfl hr.units rfl (B _ (by decide +kernel)) rfl (B _ (by decide +kernel)) (by decide +kernel) (by decide +kernel) ?_;ac_rfl)) |((with_reducible show PE _ (.Call (.Attribute _ "update" _) _ _ _) _);(refine ZbV hr.units ?_ ?_<;>ac_rfl)) |((with_reducible show PE _ (.ListComp _ _ _ _) _);first |(refine RD rfl ⟨rfl,by decide +kernel,by kernel_rfl,by decide +kernel,rfl,by kernel_rfl⟩ ?_ (PN rfl) fun C D cells fp s₀ H₀ pins=>⟨?_,?_,?_⟩<;>ac_rfl) |(refine RD rfl ⟨rfl,by decide +kernel,by kernel_rfl,by decide +kernel,rfl,by kernel_rfl⟩ ?_ (PP rfl rfl) fun C D cells fp s₀ H₀ pins=>⟨?_,?_,?_⟩<;>ac_rfl) |(refine Zax (Nc:=["a","b","c","e","high","wide"]) (cs:=[none,none,none,none,some 1,some 2]) (is:=[0]) (js:=[1,2,3]) rfl (CSc.ok ⟨rfl,by decide +kernel,by kernel_rfl,by decide +kernel,rfl,by kernel_rfl⟩) ?_ (fun g e=>by cases e<;>rfl) (by decide) (KA (i:=0) (js:=[1,2,3]) (by decide)) (fun C D cells fp s₀ H₀ pins ao=>⟨Cq (i:=0) (show (["a","b","c","e","high","wide"]:List Str).Nodup from by decide +kernel) rfl (by first|exact .inl rfl|exact .inr rfl) (by first|exact .inl rfl|exact .inr rfl),?_,Nj (is:=[1]) (js:=[2,3]) rfl rfl rfl (fun g e=>by cases e<;>rfl) ?_ (Cq (i:=1) (show (["a","b","c","e","high","wide"]:List Str).Nodup from by decide +kernel) rfl (by first|exact .inl rfl|exact .inr rfl) (by first|exact .inl rfl|exact .inr rfl)) (KA (i:=1) (js:=[2,3]) (by decide)) ?_ (Nj (is:=[2]) (js:=[3]) rfl rfl rfl (fun g e=>by cases e<;>rfl) ?_ (Cq (i:=2) (show (["a","b","c","e","high","wide"]:List Str).Nodup from by decide +kernel) rfl (by first|exact .inl rfl|exact .inr rfl) (by first|exact .inl rfl|exact .inr rfl)) (KA (i:=2) (js:=[3]) (by decide)) ?_ (Nj (is:=[3]) (js:=[]) rfl rfl rfl (fun g e=>by cases e<;>rfl) ?_ (Cq (i:=3) (show (["a","b","c","e","high","wide"]:List Str).Nodup from by decide +kernel) rfl (by first|exact .inl rfl|exact .inr rfl) (by first|exact .inl rfl|exact .inr rfl)) (KA (i:=3) (js:=[]) (by decide)) ?_ (Zav ao rfl rfl ?_)))⟩)<;>ac_rfl)) |((with_reducible show PE _ (.Compare _ [.Eq] _ _) _);(refine Mj (Qy hr.units) ?_ ?_ (EJ _)<;>ac_rfl)) |((with_reducible show PE _ (.Compare _ [.In] _ _) _);(refine Mj Xq ?_ ?_ (by with_unfolding_all rfl)<;>ac_rfl)) |((with_reducible show PE _ (.Compare _ [.Lt] _ _) _);(refine Mj HX ?_ ?_ (EJ _)<;>ac_rfl)) |((with_reducible show PE _ (.Compare _ [_,_] _ _) _);(refine W9 Mm Mm ?_ ?_ ?_<;>ac_rfl)) |((with_reducible show PE _ (.BoolOp _ _ _) _);first |(refine W5 ?_ ?_<;>ac_rfl) |(refine W6 ?_ ?_<;>ac_rfl) |(refine W4 ?_;ac_rfl)) |((with_reducible show PE _ (.UnaryOp _ _ _) _);first |(refine W7 ?_;ac_rfl) |(refine Yl ?_;ac_rfl)) |((with_reducible show PE _ (.IfExp _ _ _ _) _);(refine W8 ?_ ?_ ?_<;>ac_rfl)) |((with_reducible show PE _ (.Dict _ _ _) _);first |exact ZaQ |exact Zac))
local macro_rules |`(tactic|nofun)=>`(tactic|first |((with_reducible show PT _ (.Compare _ [.Eq] _ _) _);first |(refine Fx (ZbY hr.units) ?_ ?_ (EJ _)<;>ac_rfl) |(refine Fx (Qy hr.units) ?_ ?_ (EJ _)<;>ac_rfl)) |((with_reducible show PT _ (.Compare _ [.In] _ _) _);(refine Fx (Za6 hr.units) ?_ ?_ (by with_unfolding_all rfl)<;>ac_rfl)) |((with_reducible show PT _ (.Compare _ [.NotEq] _ _) _);first |(refine Fx (ZbX hr.units) ?_ ?_ (EJ _)<;>ac_rfl) |(refine Fx (ZX hr.units) ?_ ?_ (EJ _)<;>ac_rfl)) |((with_reducible show PT _ (.Compare _ [.GtE] _ _) _);(refine Fx Xi ?_ ?_ (EJ _)<;>ac_rfl)) |((with_reducible show PT _ (.Compare _ [.Gt] _ _) _);(refine Fx Xh ?_ ?_ (EJ _)<;>ac_rfl)) |((with_reducible show PT _ (.Compare _ [.Lt] _ _) _);(refine Fx HX ?_ ?_ (EJ _)<;>ac_rfl)) |((with_reducible show PT _ (.Compare _ [_,_] _ _) _);first |(refine Pm Mm HX ?_ ?_ ?_<;>ac_rfl) |(refine Pm HX HX ?_ ?_ ?_<;>ac_rfl)) |((with_reducible show PT _ (.UnaryOp .Not _ _) _);(refine W3 ?_;ac_rfl)) |((with_reducible show PT _ (.BoolOp _ _ _) _);first |(refine Pk (Pj ?_ ?_)<;>ac_rfl) |(refine Pk (Pi ?_ ?_)<;>ac_rfl)) |((with_reducible show PT _ _ _);(refine W0 ?_;ac_rfl)))
local macro_rules |`(tactic|contradiction)=>`(tactic|first |((with_reducible show PI _ _ (.Call (.Name _ _) _ _ _) _);first |(refine XS rfl (B _ (by decide +kernel)) ?_;ac_rfl) |(refine XT rfl (B _ (by decide +kernel)) ?_;ac_rfl) |(refine Y5 rfl (B _ (by decide +kernel)) ?_;ac_rfl)) |((with_reducible show PI _ _ _ _);(refine XR ?_;ac_rfl)))
local macro_rules |`(tactic|bv_omega)=>`(tactic|first |((with_reducible show PS _ (.Return _ _) _);(refine Pt ?_;ac_rfl)) |((with_reducible show PS _ (.If _ _ _ _) _);(refine XG ?_ ?_ ?_<;>ac_rfl)) |((with_reducible show PS _ (.Assign [.Name _ _] (.ListComp _ _ _ _) _) _);first |(refine RE rfl nd rfl (by first|exact .inl rfl|exact .inr rfl) ⟨rfl,by decide +kernel,by kernel_rfl,by decide +kernel,rfl,by kernel_rfl⟩ ?_ (PN rfl) fun C D cells fp s₀ H₀ pins=>⟨?_,?_,?_⟩<;>ac_rfl) |(refine RE rfl nd rfl (by first|exact .inl rfl|exact .inr rfl) ⟨rfl,by decide +kernel,by kernel_rfl,by decide +kernel,rfl,by kernel_rfl⟩ ?_ (PP rfl rfl) fun C D cells fp s₀ H₀ pins=>⟨?_,?_,?_⟩<;>ac_rfl)) |((with_reducible show PS _ (.Assign [.Name _ _] _ _) _);((with_reducible refine Mp ?_ ?_ ?_ ?_ ?_ ?_)<;>ac_rfl)) |((with_reducible show PS _ (.Expr _ _) _);(refine XF ?_;ac_rfl)) |((with_reducible show PS _ (.For _ _ _ _ _) _);(refine XU Qe rfl ?_ ?_ ?_<;>ac_rfl)) |((with_reducible show PS _ (.Assign [.Tuple _ _ _] _ _) _);first |(refine XI rfl nd rfl rfl (by decide) rfl rfl ?_ (by first |rfl |with_unfolding_all rfl);ac_rfl) |(refine XN ?_ ?_<;>ac_rfl)) |((with_reducible show PS _ (.Assign [.Subscript _ _ _] _ _) _);(refine Yg ?_ ?_ ?_<;>ac_rfl)) |((with_reducible show PS _ (.While _ _ _ _) _);(refine Zb Qe ?_ ?_<;>ac_rfl)) |((with_reducible show PS _ (.Raise _ _ _) _);(refine ZZ et (by decide +kernel) (by decide +kernel) rfl rfl YQ ?_;ac_rfl)))
local macro_rules |`(tactic|split)=>`(tactic|first |((with_reducible show PW _ _ _);first |(refine Pj ?_ ?_<;>ac_rfl) |(refine W2 ?_;ac_rfl) |(refine Pi ?_ ?_<;>ac_rfl) |(refine W1 ?_;ac_rfl)) |((with_reducible show FA _ (.Name _ _) _);exact XJ (Cq (by first |exact nd |exact of_decide_eq_true (by kernel_rfl)) rfl (by first|exact .inl rfl|exact .inr rfl))) |((with_reducible show FA _ (.Tuple [_,_] _ _) _);first |exact XM (PY rfl (Cq (by first |exact nd |exact of_decide_eq_true (by kernel_rfl)) rfl (by first|exact .inl rfl|exact .inr rfl)) (Cq (by first |exact nd |exact of_decide_eq_true (by kernel_rfl)) rfl (by first|exact .inl rfl|exact .inr rfl))) |exact QE (LU rfl (Fp (Cq (by first |exact nd |exact of_decide_eq_true (by kernel_rfl)) rfl (by first|exact .inl rfl|exact .inr rfl)) (Fp (Cq (by first |exact nd |exact of_decide_eq_true (by kernel_rfl)) rfl (by first|exact .inl rfl|exact .inr rfl)) LR)))) |((with_reducible show FA _ (.Tuple [_,_,_,_] _ _) _);exact QE (LU rfl (Fp (Cq (by first |exact nd |exact of_decide_eq_true (by kernel_rfl)) rfl (by first|exact .inl rfl|exact .inr rfl)) (Fp (Cq (by first |exact nd |exact of_decide_eq_true (by kernel_rfl)) rfl (by first|exact .inl rfl|exact .inr rfl)) (Fp (Cq (by first |exact nd |exact of_decide_eq_true (by kernel_rfl)) rfl (by first|exact .inl rfl|exact .inr rfl)) (Fp (Cq (by first |exact nd |exact of_decide_eq_true (by kernel_rfl)) rfl (by first|exact .inl rfl|exact .inr rfl)) LR)))))) |((with_reducible show PG _ (.Name _ _) _);exact Cq (by first |exact nd |exact of_decide_eq_true (by kernel_rfl)) rfl (by first|exact .inl rfl|exact .inr rfl)) |((with_reducible show PG _ (.Tuple [.Name _ _,.Name _ _] _ _) _);exact PY rfl (Cq (by first |exact nd |exact of_decide_eq_true (by kernel_rfl)) rfl (by first|exact .inl rfl|exact .inr rfl)) (Cq (by first |exact nd |exact of_decide_eq_true (by kernel_rfl)) rfl (by first|exact .inl rfl|exact .inr rfl))) |rfl |exact nd |exact Or.inl rfl |exact Or.inr rfl |exact X2 |(refine X3 ?_;ac_rfl) |exact YV |(refine YW ?_;ac_rfl))
local macro_rules |`(tactic|ac_rfl)=>`(tactic|first |((with_reducible show PE _ _ _);infer_instance) |((with_reducible show PA _ _ _);first |with_reducible exact JX |((with_reducible refine JY ?_ ?_ ?_)<;>ac_rfl)) |((with_reducible show PS _ _ _);bv_omega) |((with_reducible show CQ _ _ _);first |with_reducible exact XH |with_reducible exact XE |((with_reducible refine J5 ?_);ac_rfl) |((with_reducible refine J6 ?_ ?_)<;>ac_rfl) |(refine J5 ?_;ac_rfl) |(refine J6 ?_ ?_<;>ac_rfl)) |((with_reducible show PT _ _ _);nofun) |((with_reducible show PI _ _ _ _);contradiction) |split)
section
variable {l:PySem.W.OpenLaw} {w:World} {K:PySem.W.Frag} {h base:Heap} {mg:Str→Option Value} {t_MOST_LINES:Tok} (fs:∀(i:Nat) n st,want.fs[i]?=some (n,st)→Tp.SeenF K n st) (X:K.In h) (G:h.Ns mainGlobals mg) (B:∀x∈want.bs,mg x=none) (et:etOk K=true) (M_MOST_LINES:mg "MOST_LINES"=some (.int 8 t_MOST_LINES)) (sy:LS.sysIn K=true)
include fs X G B et M_MOST_LINES sy
theorem cc0:CaE l.prog w K mg base "is_whole" 1 E8:=Bp (fs 0 _ R5 rfl) X G (N:=["thing"]) (ps:=["thing"]) fun nd _ _ _ _ _ _ _ hr=>by ac_rfl
theorem cc1:CaE l.prog w K mg base "is_line_tuple" 1 Hk:=Bp (fs 1 _ R7 rfl) X G (N:=["thing"]) (ps:=["thing"]) fun nd _ _ _ _ _ _ _ hr=>by ac_rfl
theorem cc2:CaE l.prog w K mg base "all_fours" 1 KY:=Bp (fs 2 _ R9 rfl) X G (N:=["board","high","wide"]) (ps:=["board"]) fun nd _ _ _ _ _ _ _ hr=>by ac_rfl
theorem cc3:CaE l.prog w K mg base "is_odd_four" 1 Hl:=Bp (fs 3 _ Sb rfl) X G (N:=["board","four","a","b","c","e"]) (ps:=["board","four"]) fun nd _ _ _ _ _ _ _ hr=>by ac_rfl
theorem cc4:CaE l.prog w K mg base "have_common_light" 1 KZ:=Bp (fs 4 _ Sg rfl) X G (N:=["one","other"]) (ps:=["one","other"]) fun nd _ _ _ _ _ _ _ hr=>by ac_rfl
theorem cc5:CaE l.prog w K mg base "_law_cell" 1 K0:=Bp (fs 5 _ Si rfl) X G (N:=["_law_script","_law_k"]) (ps:=["_law_script","_law_k"]) fun nd _ _ _ _ _ _ _ hr=>by ac_rfl
theorem cc6:CaE l.prog w K mg base "_law_mix" 1 K1:=Bp (fs 6 _ Sj rfl) X G (N:=["_law_cell_here","_law_k","_law_number"]) (ps:=["_law_cell_here","_law_k"]) fun nd _ _ _ _ _ _ _ hr=>by ac_rfl
theorem cc7:CaE l.prog w K mg base "_law_take" 1 Bu:=Bp (fs 7 _ Sl rfl) X G (N:=["_law_box_here","_law_many","_law_left","_law_digit"]) (ps:=["_law_box_here","_law_many"]) fun nd _ _ _ _ _ _ _ hr=>by ac_rfl
theorem cc8:CaM l.prog w K mg base "_law_kind" 1 FL:=mkM (fs 8 _ So rfl) X G (N:=["_law_e","_law_kinds","_law_words"]) (ps:=["_law_e"]) fun nd _ _ _ _ _ _ hr=>by ac_rfl
theorem cc9:CaE l.prog w K mg base "_law_lights" 1 FM:=Bp (fs 9 _ Sr rfl) X G (N:=["_law_four"]) (ps:=["_law_four"]) fun nd _ _ _ _ _ _ _ hr=>by ac_rfl
theorem ZdO:CaE l.prog w K mg base "_law_fours" 1 K2:=Bp (fs 10 _ Su rfl) X G (N:=["_law_board_here","_law_found","_law_a","_law_b","_law_sums","_law_c"]) (ps:=["_law_board_here"]) fun nd _ _ _ _ _ _ _ hr=>by ac_rfl
theorem ZdP (C0:CaE l.prog w K mg base "is_whole" 1 E8):CaE l.prog w K mg base "is_between" 2 IK:=Bp (fs 11 _ Sx rfl) X G (N:=["thing","least","most"]) (ps:=["thing","least","most"]) fun nd _ _ _ _ _ _ _ hr=>by ac_rfl
theorem ZdQ (C0:CaE l.prog w K mg base "is_whole" 1 E8):CaE l.prog w K mg base "is_lot" 2 IP:=Bp (fs 12 _ Sy rfl) X G (N:=["thing","size","last","number"]) (ps:=["thing","size"]) fun nd _ _ _ _ _ _ _ hr=>by ac_rfl
theorem ZdR (C4:CaE l.prog w K mg base "have_common_light" 1 KZ):CaE l.prog w K mg base "is_apart" 2 Hm:=Bp (fs 13 _ SA rfl) X G (N:=["four","others"]) (ps:=["four","others"]) fun nd _ _ _ _ _ _ _ hr=>by ac_rfl
theorem ZdS (C5:CaE l.prog w K mg base "_law_cell" 1 K0) (C6:CaE l.prog w K mg base "_law_mix" 1 K1):CaE l.prog w K mg base "_law_box" 2 K3:=Bp (fs 14 _ SC rfl) X G (N:=["_law_script","_law_k","_law_here","_law_number","_law_j"]) (ps:=["_law_script","_law_k"]) fun nd _ _ _ _ _ _ _ hr=>by ac_rfl
theorem ZdT (C7:CaE l.prog w K mg base "_law_take" 1 Bu):CaE l.prog w K mg base "_law_wide_box" 2 K4:=Bp (fs 15 _ SE rfl) X G (N:=["_law_box_here","_law_number","_law_many","_law_j"]) (ps:=["_law_box_here"]) fun nd _ _ _ _ _ _ _ hr=>by ac_rfl
theorem ZdU (C7:CaE l.prog w K mg base "_law_take" 1 Bu):CaE l.prog w K mg base "_law_no_board" 2 K5:=Bp (fs 16 _ SG rfl) X G (N:=["_law_box_here","_law_board_here","_law_at","_law_place","_law_odd","_law_row","_law_bent","_law_some"]) (ps:=["_law_box_here","_law_board_here"]) fun nd _ _ _ _ _ _ _ hr=>by ac_rfl
theorem ZdV (C9:CaE l.prog w K mg base "_law_lights" 1 FM):CaE l.prog w K mg base "_law_is_odd" 2 K6:=Bp (fs 17 _ SI rfl) X G (N:=["_law_board_here","_law_thing","_law_sizes","_law_one","_law_size"]) (ps:=["_law_board_here","_law_thing"]) fun nd _ _ _ _ _ _ _ hr=>by ac_rfl
theorem ZdW (C9:CaE l.prog w K mg base "_law_lights" 1 FM):CaE l.prog w K mg base "_law_taken" 2 Hn:=Bp (fs 18 _ SK rfl) X G (N:=["_law_fours_here","_law_met","_law_found","_law_four","_law_lights_here"]) (ps:=["_law_fours_here"]) fun nd _ _ _ _ _ _ _ hr=>by ac_rfl
theorem ZdX (C7:CaE l.prog w K mg base "_law_take" 1 Bu):CaE l.prog w K mg base "_law_spoilt" 2 K7:=Bp (fs 19 _ SM rfl) X G (N:=["_law_box_here","_law_board_here","_law_paper","_law_at","_law_spot","_law_odd","_law_four","_law_bent","_law_other","_law_some"]) (ps:=["_law_box_here","_law_board_here","_law_paper"]) fun nd _ _ _ _ _ _ _ hr=>by ac_rfl
theorem ZdY (C11:CaE l.prog w K mg base "is_between" 2 IK):CaE l.prog w K mg base "is_light" 3 K8:=Bp (fs 20 _ SQ rfl) X G (N:=["thing"]) (ps:=["thing"]) fun nd _ _ _ _ _ _ _ hr=>by ac_rfl
theorem ZdZ (C12:CaE l.prog w K mg base "is_lot" 2 IP):CaE l.prog w K mg base "is_four" 3 K9:=Bp (fs 21 _ SU rfl) X G (N:=["board","thing"]) (ps:=["board","thing"]) fun nd _ _ _ _ _ _ _ hr=>by ac_rfl
theorem Zd0 (C7:CaE l.prog w K mg base "_law_take" 1 Bu) (C15:CaE l.prog w K mg base "_law_wide_box" 2 K4):CaE l.prog w K mg base "_law_board" 3 La:=Bp (fs 22 _ SW rfl) X G (N:=["_law_box_here","_law_high","_law_wide","_law_way","_law_digits","_law_dense","_law_rows","_law_number"]) (ps:=["_law_box_here","_law_high","_law_wide"]) fun nd _ _ _ _ _ _ _ hr=>by ac_rfl
theorem Zd1 (C17:CaE l.prog w K mg base "_law_is_odd" 2 K6) (C9:CaE l.prog w K mg base "_law_lights" 1 FM):CaE l.prog w K mg base "_law_shown" 3 Ho:=Bp (fs 23 _ SZ rfl) X G (N:=["_law_board_here","_law_thing","_law_lights_here","_law_four"]) (ps:=["_law_board_here","_law_thing"]) fun nd _ _ _ _ _ _ _ hr=>by ac_rfl
theorem Zd2 (C1:CaE l.prog w K mg base "is_line_tuple" 1 Hk) (C20:CaE l.prog w K mg base "is_light" 3 K8):CaE l.prog w K mg base "is_row" 4 Lb:=Bp (fs 24 _ Ta rfl) X G (N:=["thing"]) (ps:=["thing"]) fun nd _ _ _ _ _ _ _ hr=>by ac_rfl
theorem Zd3 (C1:CaE l.prog w K mg base "is_line_tuple" 1 Hk) (C24:CaE l.prog w K mg base "is_row" 4 Lb):CaE l.prog w K mg base "is_board" 5 Lc:=Bp (fs 25 _ Tc rfl) X G (N:=["thing"]) (ps:=["thing"]) fun nd _ _ _ _ _ _ _ hr=>by ac_rfl
theorem Zd4 (C25:CaE l.prog w K mg base "is_board" 5 Lc):CaE l.prog w K mg base "need_board" 6 FN:=Bp (fs 26 _ Te rfl) X G (N:=["thing"]) (ps:=["thing"]) fun nd _ _ _ _ _ _ _ hr=>by ac_rfl
theorem Zd5 (C26:CaE l.prog w K mg base "need_board" 6 FN) (C2:CaE l.prog w K mg base "all_fours" 1 KY) (C3:CaE l.prog w K mg base "is_odd_four" 1 Hl):CaE l.prog w K mg base "odd_fours" 7 IQ:=Bp (fs 27 _ Tf rfl) X G (N:=["board"]) (ps:=["board"]) fun nd _ _ _ _ _ _ _ hr=>by ac_rfl
theorem Zd6 (C26:CaE l.prog w K mg base "need_board" 6 FN) (C21:CaE l.prog w K mg base "is_four" 3 K9) (C3:CaE l.prog w K mg base "is_odd_four" 1 Hl) (C13:CaE l.prog w K mg base "is_apart" 2 Hm):CaE l.prog w K mg base "floor_shown" 7 E9:=Bp (fs 28 _ Tg rfl) X G (N:=["board","thing","taken","four"]) (ps:=["board","thing"]) fun nd _ _ _ _ _ _ _ hr=>by ac_rfl
theorem Zd7 (C27:CaE l.prog w K mg base "odd_fours" 7 IQ) (C13:CaE l.prog w K mg base "is_apart" 2 Hm):CaE l.prog w K mg base "floor_fours" 8 Gy:=Bp (fs 29 _ Ti rfl) X G (N:=["board","taken","four"]) (ps:=["board"]) fun nd _ _ _ _ _ _ _ hr=>by ac_rfl
end
theorem all_mk {l:PySem.W.OpenLaw} {K:PySem.W.Frag} {h:Heap} {mg:Str→Option Value} (HS:Tp.Has want K c T∧Tj K=true) (X:K.In h) (G:h.Ns mainGlobals mg) (hfa:mg "law"=some (.ref fa)):
 ∃fd:FuncData,(∀(s:Shared) (v:Value),BindsTo s fd ⟨[v],[]⟩ [("_law_script",v)])∧∀base:Heap,K.In base→base.Ns mainGlobals mg→Iv mg base→FnOk l.prog w K mg base (Ba l.prog w K) 11 fa fd ["_law_script"] (E2 K F_law):=by
 obtain ⟨⟨fs,cs,bs,et,tb,hd,no⟩,wx⟩:=HS;obtain ⟨f_law,_,an_law,_,_,kV_law,dc_law,pm_law,cd_law,ct_law,a_law,l_law,c_law,k_law⟩:=fs 30 "law" s_law rfl;cases Tp.tab_cd tb a_law l_law;cases hfa.symm.trans (PySem.W.mg_of X G a_law);have B:=mkB bs X G;have sy:LS.sysIn K=true:=wx;obtain ⟨fsd,fdd,Sd⟩:=mkS (fs 31 _ NR rfl) X G;obtain ⟨t_MOST_LINES,v_MOST_LINES⟩:=cs 0 "MOST_LINES" 8 rfl;have M_MOST_LINES:=PySem.W.mg_of X G v_MOST_LINES;refine ⟨PySem.W.fnOf "law" "law" (defArgs s_law) (defBody s_law) (defScope s_law) .none kV_law dc_law pm_law an_law (.ref c) ct_law,fun s v=>.of_eq rfl,fun base _ _ hbm=>?_⟩;have C0:=cc0 (l:=l) (w:=w) (base:=base) fs X G B et M_MOST_LINES sy;have C1:=cc1 (l:=l) (w:=w) (base:=base) fs X G B et M_MOST_LINES sy;have C2:=cc2 (l:=l) (w:=w) (base:=base) fs X G B et M_MOST_LINES sy;have C3:=cc3 (l:=l) (w:=w) (base:=base) fs X G B et M_MOST_LINES sy;have C4:=cc4 (l:=l) (w:=w) (base:=base) fs X G B et M_MOST_LINES sy;have C5:=cc5 (l:=l) (w:=w) (base:=base) fs X G B et M_MOST_LINES sy;have C6:=cc6 (l:=l) (w:=w) (base:=base) fs X G B et M_MOST_LINES sy;have C7:=cc7 (l:=l) (w:=w) (base:=base) fs X G B et M_MOST_LINES sy;have C8:=cc8 (l:=l) (w:=w) (base:=base) fs X G B et M_MOST_LINES sy;have C9:=cc9 (l:=l) (w:=w) (base:=base) fs X G B et M_MOST_LINES sy;have C10:=ZdO (l:=l) (w:=w) (base:=base) fs X G B et M_MOST_LINES sy;have C11:=ZdP (l:=l) (w:=w) (base:=base) fs X G B et M_MOST_LINES sy C0;have C12:=ZdQ (l:=l) (w:=w) (base:=base) fs X G B et M_MOST_LINES sy C0;have C13:=ZdR (l:=l) (w:=w) (base:=base) fs X G B et M_MOST_LINES sy C4;have C14:=ZdS (l:=l) (w:=w) (base:=base) fs X G B et M_MOST_LINES sy C5 C6;have C15:=ZdT (l:=l) (w:=w) (base:=base) fs X G B et M_MOST_LINES sy C7;have C16:=ZdU (l:=l) (w:=w) (base:=base) fs X G B et M_MOST_LINES sy C7;have C17:=ZdV (l:=l) (w:=w) (base:=base) fs X G B et M_MOST_LINES sy C9;have C18:=ZdW (l:=l) (w:=w) (base:=base) fs X G B et M_MOST_LINES sy C9;have C19:=ZdX (l:=l) (w:=w) (base:=base) fs X G B et M_MOST_LINES sy C7;have C20:=ZdY (l:=l) (w:=w) (base:=base) fs X G B et M_MOST_LINES sy C11;have C21:=ZdZ (l:=l) (w:=w) (base:=base) fs X G B et M_MOST_LINES sy C12;have C22:=Zd0 (l:=l) (w:=w) (base:=base) fs X G B et M_MOST_LINES sy C7 C15;have C23:=Zd1 (l:=l) (w:=w) (base:=base) fs X G B et M_MOST_LINES sy C17 C9;have C24:=Zd2 (l:=l) (w:=w) (base:=base) fs X G B et M_MOST_LINES sy C1 C20;have C25:=Zd3 (l:=l) (w:=w) (base:=base) fs X G B et M_MOST_LINES sy C1 C24;have C26:=Zd4 (l:=l) (w:=w) (base:=base) fs X G B et M_MOST_LINES sy C25;have C27:=Zd5 (l:=l) (w:=w) (base:=base) fs X G B et M_MOST_LINES sy C26 C2 C3;have C28:=Zd6 (l:=l) (w:=w) (base:=base) fs X G B et M_MOST_LINES sy C26 C21 C3 C13;have C29:=Zd7 (l:=l) (w:=w) (base:=base) fs X G B et M_MOST_LINES sy C27 C13;have sc:DQ ["_law_script","_law_k","_law_box_here","_law_high","_law_wide","_law_board_here","_law_fours_here","_law_turn","_law_found","_law_left","_law_paper","_law_four","_law_things","_law_thing","_law_held","_law_due","_law_none"] ["_law_script"] (defScope s_law):=⟨rfl,rfl,rfl,by decide +kernel,rfl,by decide +kernel,by decide +kernel⟩
 have nd:=sc.nd;exact Z1 l_law c_law sc (fun ds h e=>if_neg e) (fun ds h e=>if_pos e) fun A outer s H E hr=>by
  have LX:LamX "law" (BP (Ba l.prog w K) l.prog w K mg base ["_law_script","_law_k","_law_box_here","_law_high","_law_wide","_law_board_here","_law_fours_here","_law_turn","_law_found","_law_left","_law_paper","_law_four","_law_things","_law_thing","_law_held","_law_due","_law_none"] "law" (defScope s_law) fa (.ref c) A outer s H E) c T:=⟨rfl,tb,hd,rfl,hbm⟩
  ac_rfl
end
end LK
open PySem PySem.W PyProof.Rows
set_option maxRecDepth 100000 in
set_option maxHeartbeats 0 in
theorem PySem.Challenge.cw_lineswitch_k43_floor_papers_holds : PySem.Challenge.rw_lineswitch_k43_floor_papers.Holds := by
 w_on;o_law
 refine PySem.W.holds_open (q:=LK.top_q) (loose:=LK.top_loose) (d:=⟨"law",L2.defArgs LK.s_law,L2.defBody LK.s_law,L2.defScope LK.s_law,_⟩) (kwd:=[]) (Xt:=fun _=>true) (XP:=fun _ _=>True) (N:=1000000) LK.top_left Tp.saysX_of Tp.SaysX.keeps (fun _ _=>trivial) (fun _ _ _ _ _=>trivial) (by rfl) (by kernel_rfl) (by kernel_rfl) (fun s _=>recFacts_nil (by rfl)) (by rfl) (by assumption) (by kernel_rfl) ⟨rfl,rfl,rfl,rfl,rfl,by decide +kernel⟩ ?hw ?hc
 case hw=>w_witness2
 case hc=>exact LS.walk_hdX (n:=63) (k:=11) (x:="_law_script") (F:=LK.F_law) rfl (by decide) rfl ⟨rfl,by decide,by decide,rfl⟩ (fun w K c T mg fa h HS X G hfa=>LK.all_mk HS X G hfa) LK.law_true
