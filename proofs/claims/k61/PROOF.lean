import PyProof.Rows.All
import Wide.All
import OpenK.AllK
import Wide.FinOn
import Lean
import PyProof.EqAt
import PyProof.EqKinds
import PyProof.TupleCall
import PyProof.ExcBaseAll.ValueError
import PyProof.ZipIter
import KE.KIsAll
import KE.KTryMore
import PyProof.ExcArgsOwn
import PyProof.ExcAttrAll.ValueError
import KE.KLam
import KE.KNestM
import PyProof.NsDelKeeps
import PyProof.Rows.CatchPack
import PyProof.ReprRoads
import PyProof.Rows.FStr
import PyProof.ListRange
import PyProof.CollectIter
import KE.KRevSl
import PyProof.ExcInit
import PyProof.ExcClass2
import PyProof.InstStore
import PyProof.InstStoreFacts
import PyProof.InstLoad
import OpenK.KMore
import PyProof.Rows.StrKeys3
import PyProof.MeetsStr
import PyProof.Rows.AttrNodeAny
import PyProof.DictItemsLoops
import PyProof.DictTable
import PyProof.MeetsDictList
import PyProof.DictStraight
import PyProof.DictUpdate
import PyProof.DictRoadsH
import PyProof.DictTruth
import PyProof.DictWalks
import PyProof.AttrMissHeap
import PyProof.ListNew
import KE.KDictOf
import PyProof.MinMaxWalk
import PyProof.StrLawsIn
import PyProof.StrBlock
import PyProof.StrCalls
import PyProof.StrWalks
import PyProof.SliceStr2
import PyProof.MeetsStr2
import PySem.Challenge.RW_lineswitch_k61_keepers_of_boards
set_option Elab.async false
set_option linter.all false
set_option maxRecDepth 100000
abbrev AB:=@PySem.Heap.get?_push_of_some
abbrev Az:=@List.prefix_refl
abbrev qa2:=@List.getElem?_eq_some_iff
abbrev A2:=@List.getElem?_eq_getElem
abbrev qa4:=@List.mem_cons
abbrev AR:=@Nat.lt_of_lt_of_le
abbrev A5:=@List.mem_cons_of_mem
abbrev A1:=@List.mem_cons_self
abbrev AA:=@PySem.Heap.lt_size
abbrev AW:=@List.size_toArray
abbrev Bf:=@PySem.Heap.get?_push_size
abbrev AG:=@Nat.le_refl
abbrev Bl:=@Bool.false_ne_true
abbrev BG:=@List.getElem?_set_ne
abbrev Bu:=@Bool.false_eq_true
abbrev BV:=@List.getElem?_set_self
abbrev Bv:=@List.getElem?_map
abbrev qaH:=@List.mem_singleton
abbrev Bo:=@Nat.ne_of_lt
abbrev BD:=@List.map_cons
abbrev CH:=@List.mem_append_right
abbrev qaL:=@List.mem_map
abbrev D0:=@List.getD_eq_getElem?_getD
abbrev qaN:=@List.all_eq_true
abbrev BW:=@Nat.le_trans
abbrev D3:=@List.getElem?_append_left
abbrev Dc:=@List.getElem?_range
abbrev CC:=@List.length_map
abbrev CI:=@Bool.and_eq_true
abbrev Cz:=@PySem.Heap.size_push
abbrev Cf:=@Nat.ne_of_gt
abbrev CN:=@List.not_mem_nil
abbrev qaW:=@Option.map_eq_some_iff
abbrev De:=@List.range_succ
abbrev CO:=@Nat.lt_irrefl
abbrev qaZ:=@List.mem_append
abbrev D7:=@List.length_cons
abbrev E8:=@List.mem_of_getElem?
abbrev D8:=@List.lookup_cons
abbrev Gw:=@List.getElem?_append_right
abbrev E9:=@List.replicate_succ
abbrev D9:=@List.append_nil
abbrev Ea:=@List.map_append
abbrev EG:=@Nat.le_add_right
abbrev qb8:=@List.mem_range
abbrev FN:=@List.map_congr_left
abbrev Dq:=@Nat.zero_le
abbrev DM:=@List.map_map
abbrev FO:=@List.length_append
abbrev qbD:=@Bool.eq_iff_iff
abbrev Fb:=@List.sum_append
abbrev Gx:=@Nat.pow_le_pow_right
abbrev FP:=@List.flatten_cons
abbrev Gy:=@List.filterMap_cons
abbrev Gz:=@List.getElem_of_mem
abbrev FQ:=@List.cons_append
abbrev GA:=@List.prefix_append
abbrev GB:=@Nat.lt_of_le_of_lt
abbrev qbM:=@List.nodup_cons
abbrev FR:=@Option.map_some
abbrev GC:=@Nat.lt_succ_of_lt
abbrev Hz:=@List.mem_append_left
abbrev Jr:=@List.drop_eq_getElem_cons
abbrev GD:=@Nat.lt_succ_self
abbrev qbS:=@Option.isSome_iff_exists
abbrev GE:=@List.getElem_mem
abbrev FS:=@Bool.not_true
abbrev qbV:=@List.mem_filter
abbrev HA:=@List.all_eq_false
abbrev FT:=@Nat.le_of_lt
abbrev Js:=@List.length_filter_le
abbrev Jt:=@List.eq_nil_or_concat
abbrev HB:=@Nat.le_of_not_lt
abbrev HC:=@List.length_nil
abbrev HE:=@List.forIn_cons
abbrev Me:=@List.getElem?_take_of_lt
abbrev Mf:=@List.eq_of_mem_replicate
abbrev HF:=@List.forIn_nil
abbrev Mg:=@List.getElem?_replicate
abbrev Ju:=@Int.toNat_natCast
abbrev Jv:=@List.append_assoc
abbrev GF:=@Nat.le_succ
abbrev Mh:=@PySem.Heap.get?_update_other
abbrev qcB:=@List.filter_eq_nil_iff
abbrev HG:=@Nat.add_assoc
abbrev Jw:=@List.length_take
abbrev Jx:=@List.ext_getElem
abbrev Mi:=@PySem.Heap.get?_update_self
abbrev Mj:=@List.getElem?_eq_none
abbrev Ml:=@List.concat_eq_append
abbrev Jy:=@List.of_mem_zip
abbrev Jz:=@List.length_set
abbrev JA:=@List.nil_append
abbrev Mm:=@List.mem_of_mem_take
abbrev Mo:=@List.mem_of_mem_drop
namespace L2
open PySem PySem.Spec PyProof.Rows
abbrev VT:=Sum Int Str
inductive V where
 |non |bl (b:Bool) |int (i:Int) |str (x:Str) |byt (b:Array UInt8) |flt (b:UInt64) |ref (a:Addr) |ty (n:String)
 deriving DecidableEq
def RelV:V→Value→Prop
 |.non,u=>u=Value.none
 |.bl b,u=>u=Value.bool b
 |.int i,u=>∃t,u=Value.int i t
 |.str x,u=>∃t,u=Value.str x t
 |.byt b,u=>∃t,u=Value.bytes b t
 |.flt b,u=>∃t,u=Value.float b t
 |.ref a,u=>u=Value.ref a
 |.ty n,u=>u=Value.type n
abbrev Vals:List V→List Value→Prop:=Paired RelV
theorem Vals.length {xs:List V} {us:List Value} (r:Vals xs us):xs.length=us.length:=Paired.length r
theorem Vals.get:∀{xs:List V} {us:List Value} {i:Nat} {x:V},Vals xs us→xs[i]?=some x→∃u,us[i]?=some u∧RelV x u
 |_,_,_,_,.nil,e=>by simp at e
 |_,_,0,_,.cons r _,e=>by simp at e;subst e;exact ⟨_,rfl,r⟩
 |_,_,i+1,x,.cons _ t,e=>by
  obtain ⟨u,h1,h2⟩:=Vals.get (i:=i) (x:=x) t (by simpa using e)
  exact ⟨u,by simpa using h1,h2⟩
theorem Vals.set {x:V} {u:Value} (r:RelV x u):∀{xs:List V} {us:List Value} (i:Nat),Vals xs us→Vals (xs.set i x) (us.set i u)
 |_,_,_,.nil=>.nil
 |_,_,0,.cons _ t=>.cons r t
 |_,_,i+1,.cons q t=>.cons q (Vals.set r i t)
theorem Vals.append:∀{xs ys:List V} {us ws:List Value},Vals xs us→Vals ys ws→Vals (xs++ys) (us++ws)
 |_,_,_,_,.nil,s=>s
 |_,_,_,_,.cons r t,s=>.cons r (Vals.append t s)
theorem Vals.take:∀{xs:List V} {us:List Value} (n:Nat),Vals xs us→Vals (xs.take n) (us.take n)
 |_,_,0,_=>.nil
 |_,_,_+1,.nil=>.nil
 |_,_,n+1,.cons r t=>.cons r (Vals.take n t)
theorem Vals.drop:∀{xs:List V} {us:List Value} (n:Nat),Vals xs us→Vals (xs.drop n) (us.drop n)
 |_,_,0,r=>r
 |_,_,_+1,.nil=>.nil
 |_,_,n+1,.cons _ t=>Vals.drop n t
theorem Vals.none_of:∀{xs:List V} {us:List Value} {i:Nat},Vals xs us→xs[i]?=none→us[i]?=none:=fun {xs us i} r e=>by
 have h1:=r.length
 have h2:xs.length≤i:=List.getElem?_eq_none_iff.mp e
 exact List.getElem?_eq_none_iff.mpr (by omega)
def RelO:Option V→Option Value→Prop
 |some v,some u=>RelV v u
 |none,none=>True
 |_,_=>False
def kV:VT→V
 |.inl i=>.int i
 |.inr x=>.str x
inductive HO where
 |lst (xs:List V)
 |tup (xs:List V)
 |ins (C dx:Addr) (fs:List (Str×V))
 |own (x:Addr)
 |xd (fs:List (Str×V))
 |frz (o:Obj) (u:HO)
 |tbl (ps:Array Value)
 |ext (φ:Heap→Prop)
 |mex (φ:Heap→Prop)
 |dct (φ:Heap→Prop)
abbrev Hp:=Addr→Option HO
def Ak (H:Hp) (a:Addr) (o:HO):Hp:=fun b=>if b=a then some o else H b
theorem BN {H:Hp} {a:Addr} {o:HO}:Ak H a o a=some o:=by unfold Ak;rw [if_pos rfl]
theorem Ao {H:Hp} {a b:Addr} {o:HO} (h:b≠a):Ak H a o b=H b:=by unfold Ak;rw [if_neg h]
theorem Bw {H:Hp} {a b:Addr} {o:HO} (h:H a=some o) (h':H b=none):a≠b:=by
 intro e;subst e;rw [h] at h';cases h'
section
variable (P:Program) (w:World)
inductive O5 (h:Heap) (a:Addr) (xs:List V):Prop where
 |mk (f1:xs.length≤sizeLine) (its:List Value) (n:Nat) (f2:Vals xs its) (f3:h.get? a=some {cls:=.type "list",data:=.seq its.toArray n}):O5 h a xs
def NoDict (h:Heap) (a:Addr):Prop:=∀o,h.get? a=some o→o.dict=none
inductive O6 (h:Heap) (a:Addr) (xs:List V):Prop where
 |mk (f1:xs.length≤sizeLine) (its:List Value) (f2:Vals xs its) (f3:IsTup h a its.toArray) (f4:NoDict h a):O6 h a xs
theorem NoDict.new {h:Heap} {o:Obj} (hd:o.dict=none:=by rfl) (hf:o.isFreed=false:=by rfl):NoDict (h.push o) h.objs.size:=fun u e=>by
 rw [Bf _ hf] at e
 cases e
 exact hd
inductive O7 (H:Hp) (h:Heap) (a C dx:Addr) (fs:List (Str×V)):Prop where
 |mk (f1:H dx=some (.own a)) (f2:fs.length≤1000) (f3:dx≠a) (f4:h.get? a=some (PySem.W.instObj C dx)) (mA:Str→Option Value) (f5:h.Ns1 dx mA) (f6:(∀f,RelO (fs.lookup f) (mA f))∧PySem.Within mA (fs.map (·.1))):O7 H h a C dx fs
def ObjOk (P:Program) (w:World) (H:Hp) (h:Heap) (a:Addr):HO→Prop
 |.lst xs=>O5 h a xs
 |.tup xs=>O6 h a xs
 |.ins C dx fs=>O7 H h a C dx fs
 |.own _=>∃o,h.get? a=some o
 |.xd fs=>∃mA,h.Ns1 a mA∧∀f,RelO (fs.lookup f) (mA f)
 |.frz o u=>h.get? a=some o∧ObjOk P w H h a u
 |.tbl ps=>h.get? a=some {cls:=.none,data:=.fields ps}
 |.ext φ=>φ h∧(∃o,h.get? a=some o)∧∀h1 h2:Heap,φ h1→(∀o,h1.get? a=some o→h2.get? a=some o)→φ h2
 |.mex φ=>φ h∧(∃o,h.get? a=some o)∧∀h1 h2:Heap,φ h1→(∀o,h1.get? a=some o→h2.get? a=some o)→φ h2
 |.dct φ=>φ h∧(∃o,h.get? a=some o)∧∀h1 h2:Heap,φ h1→(∀o,h1.get? a=some o→h2.get? a=some o)→φ h2
def HOk (H:Hp) (h:Heap):Prop:=∀a o,H a=some o→ObjOk P w H h a o
end
section
variable {P:Program} {w:World} {H H':Hp} {h h':Heap} {a:Addr} {o:HO}
theorem ObjOk.lt (x:ObjOk P w H h a o):a<h.objs.size:=by
 cases o with
 |lst xs=>obtain ⟨_,_,_,_,e⟩:=x;exact AA e
 |tup xs=>obtain ⟨_,_,_,p,_⟩:=x;exact p.lt
 |ins C dx fs=>obtain ⟨_,_,_,e,_⟩:=x;exact AA e
 |own y=>obtain ⟨_,e⟩:=x;exact AA e
 |xd fs=>obtain ⟨_,⟨_,_,_,e,_⟩,_⟩:=x;exact AA e
 |frz ob u=>obtain ⟨e,_⟩:=x;exact AA e
 |tbl ps=>exact AA (show h.get? a=some _ from x)
 |ext φ=>obtain ⟨_,⟨_,e⟩,_⟩:=x;exact AA e
 |mex φ=>obtain ⟨_,⟨_,e⟩,_⟩:=x;exact AA e
 |dct φ=>obtain ⟨_,⟨_,e⟩,_⟩:=x;exact AA e
theorem ObjOk.stay (x:ObjOk P w H h a o) (k:∀b u,(b=a∨H b=some (.own a))→h.get? b=some u→h'.get? b=some u)
 (ho:∀b,H b=some (.own a)→H' b=some (.own a)) (ht:∀b xs,H b=some (.tup xs)→H' b=some (.tup xs)):ObjOk P w H' h' a o:=by
 induction o with
 |lst xs=>obtain ⟨z,its,n,r,e⟩:=x;exact ⟨z,its,n,r,k _ _ (.inl rfl) e⟩
 |tup xs=>obtain ⟨z,its,r,⟨ob,e,c⟩,nd⟩:=x;exact ⟨z,its,r,⟨ob,k _ _ (.inl rfl) e,c⟩,fun o e2=>by rw [k _ _ (.inl rfl) e] at e2;cases e2;exact nd _ e⟩
 |ins C dx fs=>
  obtain ⟨d,z,ne,e,mA,⟨od,es,ep,e2,c⟩,r⟩:=x
  exact ⟨ho _ d,z,ne,k _ _ (.inl rfl) e,mA,⟨od,es,ep,k _ _ (.inr d) e2,c⟩,r⟩
 |own y=>obtain ⟨ob,e⟩:=x;exact ⟨ob,k _ _ (.inl rfl) e⟩
 |xd fs=>obtain ⟨mA,⟨od,es,ep,e,c⟩,r⟩:=x;exact ⟨mA,⟨od,es,ep,k _ _ (.inl rfl) e,c⟩,r⟩
 |frz ob u ih=>obtain ⟨e,q⟩:=x;exact ⟨k _ _ (.inl rfl) e,ih q⟩
 |tbl ps=>
  have e:h.get? a=some {cls:=.none,data:=.fields ps}:=x
  show h'.get? a=some {cls:=.none,data:=.fields ps}
  exact k a _ (.inl rfl) e
 |ext φ=>obtain ⟨p,⟨o,e⟩,st⟩:=x;exact ⟨st _ _ p fun o q=>k _ _ (.inl rfl) q,⟨o,k _ _ (.inl rfl) e⟩,st⟩
 |mex φ=>obtain ⟨p,⟨o,e⟩,st⟩:=x;exact ⟨st _ _ p fun o q=>k _ _ (.inl rfl) q,⟨o,k _ _ (.inl rfl) e⟩,st⟩
 |dct φ=>obtain ⟨p,⟨o,e⟩,st⟩:=x;exact ⟨st _ _ p fun o q=>k _ _ (.inl rfl) q,⟨o,k _ _ (.inl rfl) e⟩,st⟩
theorem HOk.lt (x:HOk P w H h) (e:H a=some o):a<h.objs.size:=(x a o e).lt
theorem HOk.fresh (x:HOk P w H h) (e:h.objs.size≤a):H a=none:=by
 cases q:H a with
 |none=>rfl
 |some u=>exact absurd (AR (x.lt q) e) (CO _)
theorem HOk.kept (x:HOk P w H h) (k:∀b u,h.get? b=some u→h'.get? b=some u):HOk P w H h':=fun a o e=>
 (x a o e).stay (fun b u _ q=>k b u q) (fun _ q=>q) fun _ _ q=>q
theorem HOk.laid (x:HOk P w H h) (k:∀b u,h.get? b=some u→h'.get? b=some u) (hp:h.objs.size≤a) (new:ObjOk P w (Ak H a o) h' a o):HOk P w (Ak H a o) h':=fun b u e=>by
 have hn:=x.fresh hp
 by_cases hb:b=a
 ·subst hb;rw [BN] at e;cases e;exact new
 ·rw [Ao hb] at e
  exact (x b u e).stay (fun c v _ q=>k c v q) (fun c q=>by rw [Ao (Bw q hn)];exact q) fun c xs q=>by rw [Ao (Bw q hn)];exact q
end
def Rd (H:Hp) (a:Addr) (u:HO):Prop:=H a=some u∨∃o,H a=some (.frz o u)
theorem Rd.ok {P:Program} {w:World} {H:Hp} {h:Heap} {a:Addr} {u:HO} (r:Rd H a u) (x:HOk P w H h):ObjOk P w H h a u:=by
 rcases r with r |⟨o,r⟩
 ·exact x a u r
 ·obtain ⟨_,q⟩:=x a _ r
  exact q
def JB:Option HO→Prop
 |some (.lst _)=>True
 |some (.ins _ _ _)=>True
 |some (.ext _)=>True
 |some (.mex _)=>True
 |some (.dct _)=>True
 |_=>False
section
variable {P:Program} {w:World} {H:Hp} {h h':Heap} {x e:Addr} {o':HO}
theorem HOk.write (ok:HOk P w H h) (mu:JB (H x)) (he:e=x∨H e=some (.own x)) (k:∀b u,b≠e→h.get? b=some u→h'.get? b=some u) (heo:∃u,h'.get? e=some u)
 (new:ObjOk P w (Ak H x o') h' x o'):HOk P w (Ak H x o') h':=fun b u q=>by
 have nown:∀c y,H c=some (.own y)→c≠x:=fun c y r z=>by subst z;rw [r] at mu;exact mu
 have ntup:∀c xs,H c=some (.tup xs)→c≠x:=fun c xs r z=>by subst z;rw [r] at mu;exact mu
 by_cases hb:b=x
 ·subst hb;rw [BN] at q;cases q;exact new
 ·rw [Ao hb] at q
  by_cases hbe:b=e
  ·have q':H b=some (.own x):=by
    rcases he with z |z
    ·exact absurd (hbe.trans z) hb
    ·rw [hbe];exact z
   rw [q] at q';cases q'
   obtain ⟨v,hv⟩:=heo
   exact ⟨v,by rw [hbe];exact hv⟩
  ·refine (ok b u q).stay (fun c v hc r=>k c v ?_ r) (fun c r=>by rw [Ao (nown c b r)];exact r) fun c xs r=>by rw [Ao (ntup c xs r)];exact r
   rcases hc with rfl |hc
   ·exact hbe
   ·rintro rfl
    rcases he with z |z
    ·exact nown c b hc z
    ·rw [hc] at z;cases z;exact hb rfl
end
structure Un (fs ex:List Addr) (H H':Hp) (h h':Heap):Prop where
 keep:∀b o,h.get? b=some o→H b=none→b∉fs→b∉ex→h'.get? b=some o
 slot:∀b o,h.get? b=some o→H b=none→b∈fs→b∉ex→∃sl,h'.get? b=some {o with slots:=sl}
 free:∀b o,h.get? b=some o→H b=none→b∉ex→H' b=none
 there:∀b o,h.get? b=some o→b∉ex→∃o',h'.get? b=some o'
 tups:∀b xs,H b=some (.tup xs)→H' b=some (.tup xs)
 frzs:∀b o u,H b=some (.frz o u)→H' b=some (.frz o u)
 tbls:∀b ps,H b=some (.tbl ps)→∃more,H' b=some (.tbl (ps++more))
section
variable {fs fs' ex ex':List Addr} {H H1 H2:Hp} {h h1 h2 h':Heap} {a x e:Addr} {o:HO}
theorem Un.any (u:Un fs ex H H1 h h1) {b:Addr} {ob:Obj} (q:h.get? b=some ob) (n:H b=none) (hx:b∉ex):∃sl,h1.get? b=some {ob with slots:=sl}:=by
 by_cases hb:b∈fs
 ·exact u.slot b ob q n hb hx
 ·exact ⟨ob.slots,u.keep b ob q n hb hx⟩
theorem Un.kept (k:∀b u,h.get? b=some u→h'.get? b=some u):Un fs ex H H h h':=
 ⟨fun b ob q _ _ _=>k b ob q,fun b ob q _ _ _=>⟨ob.slots,k b ob q⟩,fun _ _ _ n _=>n,fun b ob q _=>⟨ob,k b ob q⟩,fun _ _ q=>q,fun _ _ _ q=>q,fun _ ps q=>⟨#[],by rw [q];simp⟩⟩
theorem Un.refl:Un fs ex H H h h:=Un.kept fun _ _ q=>q
theorem Un.laid (k:∀b u,h.get? b=some u→h'.get? b=some u) (hp:h.objs.size≤a) (hn:H a=none):Un fs ex H (Ak H a o) h h' where
 keep:=fun b u q _ _ _=>k b u q
 slot:=fun b u q _ _ _=>⟨u.slots,k b u q⟩
 free:=fun b u q n _=>by rw [Ao (Bo (AR (AA q) hp))];exact n
 there:=fun b u q _=>⟨u,k b u q⟩
 tups:=fun b xs q=>by rw [Ao (Bw q hn)];exact q
 frzs:=fun b u xs q=>by rw [Ao (Bw q hn)];exact q
 tbls:=fun b ps q=>⟨#[],by rw [Ao (Bw q hn),q];simp⟩
theorem Un.write (mu:JB (H x)) (he:e=x∨H e=some (.own x)) (k:∀b u,b≠e→h.get? b=some u→h'.get? b=some u) (heo:∃u,h'.get? e=some u):Un fs ex H (Ak H x o) h h':=by
 have hx:∀b,H b=none→b≠x:=fun b n z=>by subst z;rw [n] at mu;exact mu
 have hb:∀b,H b=none→b≠e:=fun b n z=>by
  subst z
  rcases he with r |r
  ·exact hx b n r
  ·rw [n] at r;cases r
 have hm:∀b u,H b=some u→¬JB (some u)→b≠x:=fun b u q nm z=>by subst z;rw [q] at mu;exact nm mu
 refine ⟨fun b u q n _ _=>k b u (hb b n) q,fun b u q n _ _=>⟨u.slots,k b u (hb b n) q⟩,fun b u q n _=>by rw [Ao (hx b n)];exact n,fun b u q _=>?_,
  fun b xs q=>by rw [Ao (hm b _ q fun z=>z)];exact q,fun b u xs q=>by rw [Ao (hm b _ q fun z=>z)];exact q,fun b ps q=>⟨#[],by rw [Ao (hm b _ q fun z=>z),q];simp⟩⟩
 by_cases hbe:b=e
 ·subst hbe;exact heo
 ·exact ⟨u,k b u hbe q⟩
end
def JC (h:Heap) (H:Hp):List Addr:=(List.range h.objs.size).filter fun a=>(H a).isSome
def Eb (h:Heap) (H:Hp):Heap:=PySem.W.hideAll h (JC h H)
theorem VU (h:Heap) (H:Hp):(Eb h H).objs.size=h.objs.size:=PySem.W.hideAll_size _ _
theorem VV {h:Heap} {H:Hp} {b:Addr} {o:Obj} (e:h.get? b=some o) (n:H b=none):(Eb h H).get? b=some o:=
 PySem.W.hideAll_get _ e fun hm=>by
  have q:(H b).isSome=true:=(qbV.mp hm).2
  rw [n] at q;simp at q
theorem VW {h:Heap} {H:Hp} {b:Addr} {o:Obj} (e:(Eb h H).get? b=some o):h.get? b=some o∧H b=none:=by
 have e':h.get? b=some o:=PySem.W.of_hideAll (JC h H) e
 refine ⟨e',?_⟩
 cases q:H b with
 |none=>rfl
 |some x=>
  have hm:b∈JC h H:=qbV.mpr ⟨qb8.mpr (AA e'),by simp [q]⟩
  have z:(Eb h H).get? b=none:=PySem.W.hideAll_none (JC h H) hm
  rw [z] at e;cases e
def VX (g h:Heap) (L:Addr):List (Addr×Obj):=(List.range h.objs.size).filterMap fun a=>if a=L∨(g.get? a).isSome=true then none else (h.get? a).map fun o=>(a,o)
def rest (g h:Heap) (L d:Addr):List (Addr×Obj):=(VX g h L).filter fun p=>decide (p.1≠d)
structure Mod (K:PySem.W.Frag) (mg:Str→Option Value) (base:Heap):Prop where
 kin:K.In base
 glob:base.Ns mainGlobals mg
 blt:∃mb,base.Ns builtinsNs mb∧∀x:Str,x≠"__name__"→mb x=bootBuiltins x
 nolimit:base.NoLimit
structure Cx where
 prog:Program
 w:World
 K:PySem.W.Frag
 mg:Str→Option Value
 base:Heap
 A:Around
 N:List Str
 s₀:Shared
 H₀:Hp
 env:Env
 outer:List Env
 stack:List Env
 ex:List Addr
 fn:Str→Bool
 calm:Bool
 pn:List (Addr×Obj)
 xe:Value→Shared→Prop
def frs (l:List Env):List Addr:=l.filterMap (·.frame)
abbrev Cx.fs (X:Cx):List Addr:=frs X.outer
def JD (sc:Scope) (x:Str):Prop:=sc.names.lookup x=some .local∨sc.names.lookup x=some .cell∨sc.names.lookup x=some .free
def FU (sc:Scope) (x:Str):Prop:=sc.names.lookup x=some .local∨sc.names.lookup x=some .cell
def O8 (env:Env) (h:Heap) (m:Str→Option Value) (x:Str) (u:Value):Prop:=
 (env.kindOf x=some .local∧m x=some u)∨((env.kindOf x=some .cell∨env.kindOf x=some .free)∧∃c,env.cells.lookup x=some c∧h.IsCell c (some u))
structure Cx.Ok (X:Cx):Prop where
 mod:Mod X.K X.mg X.base
 kind:X.env.scope.kind=.function
 glob:X.env.globals=mainGlobals
 blt:X.env.builtins=builtinsNs
 above:X.s₀.heap.objs.size≤X.env.locals
 inj:∀x y c,X.env.cells.lookup x=some c→X.env.cells.lookup y=some c→x=y
 has:∀x,(X.env.kindOf x=some .cell∨X.env.kindOf x=some .free)→∃c,X.env.cells.lookup x=some c
 cab:∀x c,X.fn x=true→X.env.cells.lookup x=some c→X.s₀.heap.objs.size≤c
 hd:X.calm=true→X.A.handled=none
 frames:X.A.frames=some X.stack
 stk:X.stack=X.outer∨(X.stack=X.env::X.outer∧X.env.frame=some X.env.locals)
 exf:∀b∈X.ex,b≠X.env.locals∧∀x c,X.env.cells.lookup x=some c→c≠b
 bs:∀b o,X.base.get? b=some o→X.s₀.heap.get? b=some o∧X.H₀ b=none
 bsz:X.base.objs.size≤X.s₀.heap.objs.size
 noex:∀b o,X.base.get? b=some o→b∉X.ex
 exfs:∀b∈X.ex,b∉X.fs
 funs:X.s₀.heap.FunFrames X.base X.outer
 frf:∀b∈X.fs,X.H₀ b=none
structure Inv (X:Cx) (pins:List (Addr×Obj)) (σ:List (Option V)) (H:Hp) (s:Shared):Prop where
 ok:X.Ok
 os:s.os=X.s₀.os
 bare:AllBare s.gens
 base:Un X.fs X.ex X.H₀ H X.s₀.heap s.heap
 loc:∃m,s.heap.Ns X.env.locals m∧∀(i:Nat) (x:Str) (v:V),X.N[i]?=some x→σ[i]?=some (some v)→JD X.env.scope x→∃u,RelV v u∧O8 X.env s.heap m x u
 cell:∀x c,X.env.cells.lookup x=some c→∃v,s.heap.IsCell c v
 free:H X.env.locals=none
 freeC:∀x c,X.env.cells.lookup x=some c→H c=none
 pin:∀p∈X.pn++pins,s.heap.get? p.1=some p.2∧H p.1=none∧p.1≠X.env.locals∧p.1∉X.fs∧∀v,p.2.data≠.cell v
 hok:HOk X.prog X.w H s.heap
 len:σ.length=X.N.length
section
variable {X:Cx} {pins:List (Addr×Obj)} {σ:List (Option V)} {H H':Hp} {s:Shared} {h':Heap}
theorem Cx.Ok.nofr (ok:X.Ok) {b:Addr} {o:Obj} (e:X.base.get? b=some o):b∉X.fs:=fun hb=>by
 have:=(ok.funs.mem hb).1
 rw [e] at this;cases this
theorem Inv.bs (I:Inv X pins σ H s):∀b o,X.base.get? b=some o→s.heap.get? b=some o∧H b=none:=fun b o e=>
 ⟨I.base.keep b o (I.ok.bs b o e).1 (I.ok.bs b o e).2 (I.ok.nofr e) (I.ok.noex b o e),I.base.free b o (I.ok.bs b o e).1 (I.ok.bs b o e).2 (I.ok.noex b o e)⟩
theorem Inv.bk (I:Inv X pins σ H s):∀b o,X.base.get? b=some o→s.heap.get? b=some o:=fun b o e=>(I.bs b o e).1
theorem Inv.mod (I:Inv X pins σ H s):Mod X.K X.mg X.base:=I.ok.mod
theorem Inv.kIn (I:Inv X pins σ H s):X.K.In s.heap:=I.ok.mod.kin.keeps I.bk
theorem Inv.nolimit (I:Inv X pins σ H s):s.heap.NoLimit:=I.ok.mod.nolimit.keeps I.bk
theorem Inv.lt (I:Inv X pins σ H s):X.env.locals<s.heap.objs.size:=let ⟨_,hn,_⟩:=I.loc;hn.lt
theorem Inv.sz (I:Inv X pins σ H s):X.s₀.heap.objs.size≤s.heap.objs.size:=BW I.ok.above (FT I.lt)
theorem Inv.nofs (I:Inv X pins σ H s) {a:Addr} (h:s.heap.objs.size≤a):a∉X.fs:=fun hb=>by
 obtain ⟨_,o,ho,_⟩:=I.ok.funs.mem hb
 exact absurd (AR (AA ho) (BW I.sz h)) (CO _)
theorem Inv.cne (I:Inv X pins σ H s):∀x c,X.env.cells.lookup x=some c→c≠X.env.locals:=fun x c e z=>by
 obtain ⟨v,o,ho,hd⟩:=I.cell x c e
 obtain ⟨m,⟨o',es,ep,ho',hd',_⟩,_⟩:=I.loc
 rw [z,ho'] at ho;cases ho;rw [hd'] at hd;cases hd
theorem Inv.funs (I:Inv X pins σ H s):s.heap.FunFrames X.base X.outer:=by
 have all:∀(l:List Env),(∀b∈frs l,b∈X.fs)→X.s₀.heap.FunFrames X.base l→s.heap.FunFrames X.base l:=by
  intro l
  induction l with
  |nil=>intro _ _;trivial
  |cons env r ih=>
   intro hs hl
   obtain ⟨hk,⟨L,o,hf,hn,ho,hd⟩,hr⟩:=hl
   have hL:L∈X.fs:=hs L (by unfold frs;rw [Gy,hf];exact A1)
   obtain ⟨sl,e⟩:=I.base.slot L o ho (I.ok.frf L hL) hL fun z=>I.ok.exfs L z hL
   exact ⟨hk,⟨L,_,hf,hn,e,hd⟩,ih (fun b hb=>hs b (by unfold frs;rw [Gy,hf];exact A5 _ hb)) hr⟩
 exact all X.outer (fun _ hb=>hb) I.ok.funs
theorem Inv.stack (I:Inv X pins σ H s):s.heap.FunFrames X.base X.stack:=by
 rcases I.ok.stk with e |⟨e,hf⟩
 ·rw [e];exact I.funs
 ·rw [e]
  obtain ⟨m,hn,_⟩:=I.loc
  refine .cons (by rw [I.ok.kind];decide) hf hn ?_ I.funs
  exact Heap.get?_none_of_le (BW I.ok.bsz I.ok.above)
theorem Inv.stkSub (I:Inv X pins σ H s):∀b∈frs X.stack,b∈X.env.locals::X.fs:=fun b hb=>by
 rcases I.ok.stk with e |⟨e,hf⟩
 ·rw [e] at hb;exact A5 _ hb
 ·rw [e] at hb
  unfold frs at hb
  rw [Gy,hf] at hb
  exact hb
theorem Inv.stkFree (I:Inv X pins σ H s):∀b∈frs X.stack,H b=none:=fun b hb=>by
 rcases qa4.mp (I.stkSub b hb) with e |hb
 ·rw [e];exact I.free
 ·obtain ⟨_,o,ho,_⟩:=I.ok.funs.mem hb
  exact I.base.free b o ho (I.ok.frf b hb) fun z=>I.ok.exfs b z hb
theorem Inv.step {g':Array GenState} {t':Nat} {d':Drawn} {ch:List Addr} (I:Inv X pins σ H s)
 (hch:∀b∈ch,(b∈X.ex∨X.s₀.heap.objs.size≤b)∧b≠X.env.locals∧(∀x c,X.env.cells.lookup x=some c→c≠b)∧∀p∈X.pn++pins,p.1≠b)
 (keep:∀b o,b≠X.env.locals→b∉X.fs→b∉ch→s.heap.get? b=some o→H b=none→h'.get? b=some o)
 (slot:∀b o,b≠X.env.locals→b∈X.fs→b∉ch→s.heap.get? b=some o→H b=none→∃sl,h'.get? b=some {o with slots:=sl}) (free:∀b o,b∉ch→s.heap.get? b=some o→H b=none→H' b=none)
 (there:∀b o,b∉ch→s.heap.get? b=some o→∃o',h'.get? b=some o')
 (tups:∀b xs,H b=some (.tup xs)→H' b=some (.tup xs)) (frzs:∀b o u,H b=some (.frz o u)→H' b=some (.frz o u)) (tbls:∀b ps,H b=some (.tbl ps)→∃more,H' b=some (.tbl (ps++more)))
 (ns:∀m,s.heap.Ns X.env.locals m→h'.Ns X.env.locals m) (hok:HOk X.prog X.w H' h') (hg:AllBare g'):
 Inv X pins σ H' {s with heap:=h',gens:=g',drawn:=d',toks:=t'}:=by
 have neL:∀b o,X.s₀.heap.get? b=some o→b≠X.env.locals:=fun b o e=>Bo (AR (AA e) I.ok.above)
 have neC:∀b o,X.s₀.heap.get? b=some o→b∉X.ex→b∉ch:=fun b o e hx hb=>by
  rcases (hch b hb).1 with z |z
  ·exact hx z
  ·exact absurd (AR (AA e) z) (CO _)
 have cellK:∀x c,X.env.cells.lookup x=some c→∀v,s.heap.IsCell c v→h'.IsCell c v:=fun x c e v z1_=>by
  obtain ⟨o,ho,hd⟩:=z1_
  have nch:c∉ch:=fun z=>(hch c z).2.2.1 x c e rfl
  by_cases hc:c∈X.fs
  ·obtain ⟨sl,q⟩:=slot c o (I.cne x c e) hc nch ho (I.freeC x c e)
   exact ⟨_,q,hd⟩
  ·exact ⟨o,keep c o (I.cne x c e) hc nch ho (I.freeC x c e),hd⟩
 refine ⟨I.ok,I.os,hg,⟨fun b o e n hb hx=>?_,fun b o e n hb hx=>?_,fun b o e n hx=>?_,fun b o e hx=>?_,fun b xs e=>tups b xs (I.base.tups b xs e),fun b o xs e=>frzs b o xs (I.base.frzs b o xs e),fun b ps e=>?_⟩,?_,fun x c e=>?_,?_,fun x c e=>?_,fun p hp=>?_,hok,I.len⟩
 ·exact keep b o (neL b o e) hb (neC b o e hx) (I.base.keep b o e n hb hx) (I.base.free b o e n hx)
 ·obtain ⟨sl,e1⟩:=I.base.slot b o e n hb hx
  obtain ⟨sl',e2⟩:=slot b _ (neL b o e) hb (neC b o e hx) e1 (I.base.free b o e n hx)
  exact ⟨sl',e2⟩
 ·obtain ⟨o',e1⟩:=I.base.there b o e hx
  exact free b o' (neC b o e hx) e1 (I.base.free b o e n hx)
 ·obtain ⟨o',e1⟩:=I.base.there b o e hx
  exact there b o' (neC b o e hx) e1
 ·obtain ⟨m1,e1⟩:=I.base.tbls b ps e
  obtain ⟨m2,e2⟩:=tbls b _ e1
  exact ⟨m1++m2,by rw [e2,Array.append_assoc]⟩
 ·obtain ⟨m,hn,hl⟩:=I.loc
  refine ⟨m,ns m hn,fun i x v e1 e2 e3=>?_⟩
  obtain ⟨u,r,l⟩:=hl i x v e1 e2 e3
  refine ⟨u,r,?_⟩
  rcases l with l |⟨k,c,e,z⟩
  ·exact .inl l
  ·exact .inr ⟨k,c,e,cellK x c e _ z⟩
 ·obtain ⟨v,z⟩:=I.cell x c e
  exact ⟨v,cellK x c e v z⟩
 ·obtain ⟨m,⟨o,_,_,ho,_⟩,_⟩:=I.loc
  exact free _ o (fun z=>(hch _ z).2.1 rfl) ho I.free
 ·obtain ⟨v,o,ho,hd⟩:=I.cell x c e
  exact free c o (fun z=>(hch c z).2.2.1 x c e rfl) ho (I.freeC x c e)
 ·obtain ⟨e,n,ne,nf,d⟩:=I.pin p hp
  have nch:p.1∉ch:=fun z=>(hch p.1 z).2.2.2 p hp rfl
  exact ⟨keep p.1 p.2 ne nf nch e n,free p.1 p.2 nch e n,ne,nf,d⟩
theorem Inv.un {t':Nat} (I:Inv X pins σ H s) (u:Un X.fs [] H H' s.heap h') (hok:HOk X.prog X.w H' h'):Inv X pins σ H' {s with heap:=h',toks:=t'}:=by
 obtain ⟨m,⟨o,es,ep,ho,r⟩,_⟩:=id I.loc
 obtain ⟨sl,hL⟩:=u.any ho I.free (by simp)
 exact I.step (g':=s.gens) (d':=s.drawn) (ch:=[]) (fun _ z=>nomatch z) (fun b o _ hb _ e n=>u.keep b o e n hb (by simp)) (fun b o _ hb _ e n=>u.slot b o e n hb (by simp)) (fun b o _ e n=>u.free b o e n (by simp)) (fun b o _ e=>u.there b o e (by simp)) u.tups u.frzs u.tbls (fun m' hm=>by
  obtain ⟨o',es',ep',ho',r'⟩:=hm
  rw [ho] at ho';cases ho'
  exact ⟨_,es',ep',hL,r'⟩) hok I.bare
theorem Inv.call {g':Array GenState} {t':Nat} {d':Drawn} {ch:List Addr} (I:Inv X pins σ H s) (u:Un (frs X.stack) ch H H' s.heap h') (hok:HOk X.prog X.w H' h') (hg:AllBare g')
 (hch:∀b∈ch,(b∈X.ex∨X.s₀.heap.objs.size≤b)∧b≠X.env.locals∧(∀x c,X.env.cells.lookup x=some c→c≠b)∧∀p∈X.pn++pins,p.1≠b):
 Inv X pins σ H' {s with heap:=h',gens:=g',drawn:=d',toks:=t'}:=by
 obtain ⟨m,⟨o,es,ep,ho,r⟩,_⟩:=id I.loc
 obtain ⟨sl,hL⟩:=u.any ho I.free fun z=>(hch _ z).2.1 rfl
 exact I.step (ch:=ch) hch (fun b o hL hb hc e n=>u.keep b o e n (fun z=>(qa4.mp (I.stkSub b z)).elim hL hb) hc) (fun b o _ _ hc e n=>u.any e n hc) (fun b o hc e n=>u.free b o e n hc) (fun b o hc e=>u.there b o e hc) u.tups u.frzs u.tbls (fun m' hm=>by
  obtain ⟨o',es',ep',ho',r'⟩:=hm
  rw [ho] at ho';cases ho'
  exact ⟨_,es',ep',hL,r'⟩) hok hg
theorem Inv.turned {t':Nat} {it:Addr} (I:Inv X pins σ H s) (k:∀b o,b≠it→s.heap.get? b=some o→h'.get? b=some o) (hn:H it=none) (hL:it≠X.env.locals)
 (h1:it∈X.ex∨X.s₀.heap.objs.size≤it) (h2:∀x c,X.env.cells.lookup x=some c→c≠it) (h3:∀p∈X.pn++pins,p.1≠it):Inv X pins σ H {s with heap:=h',toks:=t'}:=by
 have nit:∀b u,H b=some u→b≠it:=fun b u e z=>by rw [z,hn] at e;cases e
 refine I.step (g':=s.gens) (d':=s.drawn) (ch:=[it]) (fun b hb=>?_) (fun b o _ _ hc e _=>k b o (fun z=>hc (by simp [z])) e) (fun b o _ _ hc e _=>⟨o.slots,k b o (fun z=>hc (by simp [z])) e⟩) (fun _ _ _ _ n=>n)
  (fun b o hc e=>⟨o,k b o (fun z=>hc (by simp [z])) e⟩) (fun _ _ e=>e) (fun _ _ _ e=>e) (fun b ps e=>⟨#[],by rw [e];simp⟩) (fun m hm=>?_) (fun b u e=>?_) I.bare
 ·have e:b=it:=by simpa using hb
  subst e
  exact ⟨h1,hL,h2,h3⟩
 ·obtain ⟨o,es,ep,ho,r⟩:=hm
  exact ⟨o,es,ep,k _ o (Ne.symm hL) ho,r⟩
 ·refine (I.hok b u e).stay (fun c v hc q=>k c v ?_ q) (fun _ q=>q) fun _ _ q=>q
  rcases hc with z |z
  ·rw [z];exact nit b u e
  ·exact nit c _ z
theorem Inv.tok (I:Inv X pins σ H s) (t:Nat):Inv X pins σ H {s with toks:=t}:=I.un (h':=s.heap) (t':=t) Un.refl I.hok
theorem Inv.kept {t':Nat} (I:Inv X pins σ H s) (k:∀b u,s.heap.get? b=some u→h'.get? b=some u):Inv X pins σ H {s with heap:=h',toks:=t'}:=I.un (Un.kept k) (I.hok.kept k)
theorem Inv.laid {a:Addr} {o:HO} {t':Nat} (I:Inv X pins σ H s) (k:∀b u,s.heap.get? b=some u→h'.get? b=some u) (hp:s.heap.objs.size≤a) (new:ObjOk X.prog X.w (Ak H a o) h' a o):
 Inv X pins σ (Ak H a o) {s with heap:=h',toks:=t'}:=I.un (Un.laid k hp (I.hok.fresh hp)) (I.hok.laid k hp new)
theorem Inv.write {x e:Addr} {o:HO} {t':Nat} (I:Inv X pins σ H s) (mu:JB (H x)) (he:e=x∨H e=some (.own x)) (k:∀b u,b≠e→s.heap.get? b=some u→h'.get? b=some u) (heo:∃u,h'.get? e=some u)
 (new:ObjOk X.prog X.w (Ak H x o) h' x o):Inv X pins σ (Ak H x o) {s with heap:=h',toks:=t'}:=I.un (Un.write mu he k heo) (I.hok.write mu he k heo new)
theorem Inv.weak {σ':List (Option V)} (I:Inv X pins σ H s) (hl:σ'.length=σ.length) (w:∀(i:Nat) v,σ'[i]?=some (some v)→σ[i]?=some (some v)):Inv X pins σ' H s:=
 ⟨I.ok,I.os,I.bare,I.base,let ⟨m,hn,hl'⟩:=I.loc;⟨m,hn,fun i x v e1 e2 e3=>hl' i x v e1 (w i v e2) e3⟩,I.cell,I.free,I.freeC,I.pin,I.hok,hl.trans I.len⟩
theorem Inv.pins_of {pins':List (Addr×Obj)} (I:Inv X pins σ H s) (h:∀p∈pins',s.heap.get? p.1=some p.2∧H p.1=none∧p.1≠X.env.locals∧p.1∉X.fs∧∀v,p.2.data≠.cell v):Inv X pins' σ H s:=
 ⟨I.ok,I.os,I.bare,I.base,I.loc,I.cell,I.free,I.freeC,fun p hp=>(qaZ.mp hp).elim (fun z=>I.pin p (Hz _ z)) (h p),I.hok,I.len⟩
theorem Mp {N:List Str} (hN:N.Nodup) {i j:Nat} {x:Str} (a:N[i]?=some x) (b:N[j]?=some x):i=j:=by
 obtain ⟨h1,e1⟩:=qa2.mp a
 obtain ⟨h2,e2⟩:=qa2.mp b
 exact (List.getElem_inj hN).mp (e1.trans e2.symm)
theorem JE {M:Model} {A:Around} {E:Value→Shared→Prop} {i:Nat} {x:Str} {v:V} {u:Value} {Q:Unit→Shared→Prop} (I:Inv X pins σ H s) (hN:X.N.Nodup) (hi:X.N[i]?=some x) (hx:FU X.env.scope x) (r:RelV v u)
 (h:∀s',Inv X pins (σ.set i (some v)) H s'→(∃a,Heap.SameBut a s.heap s'.heap∧(a=X.env.locals∨X.env.cells.lookup x=some a))→Q () s') (hf:X.fn x=true∨X.env.scope.names.lookup x=some .local:=by first |exact .inl rfl |exact .inr rfl |assumption):wpAny M A (storeName X.env x u) Q E s:=by
 obtain ⟨m,hn,hl⟩:=id I.loc
 have hcls:(X.env.scope.kind==.class||(X.env.scope.kind==.module&&X.env.locals != X.env.globals))=false:=by rw [I.ok.kind];rfl
 have hiσ:i < σ.length:=by rw [I.len];exact (qa2.mp hi).1
 have cne:=I.cne
 have tracked:∀{a:Addr} {h':Heap},(∃o,s.heap.get? a=some o∧H a=none)→Heap.SameBut a s.heap h'→HOk X.prog X.w H h':=fun {a h'} ha hs b ob e=>by
  obtain ⟨_,_,hfree⟩:=ha
  refine (I.hok b ob e).stay (fun c w' hc q=>(hs.2 c ?_).trans q) (fun _ q=>q) fun _ _ q=>q
  rintro rfl
  rcases hc with rfl |hc
  ·rw [hfree] at e;cases e
  ·rw [hfree] at hc;cases hc
 rcases hx with hk |hk
 ·refine wpAny_storeName_local hk hn (fun h' hn' hs=>?_) hcls
  obtain ⟨oL,_,_,hoL,_⟩:=id hn
  refine h _ ⟨I.ok,I.os,I.bare,⟨fun b o e n hb hx=>?_,fun b o e n hb hx=>?_,I.base.free,fun b o e hx=>?_,I.base.tups,I.base.frzs,I.base.tbls⟩,⟨_,hn',fun j y v' e1 e2 e3=>?_⟩,fun y c e=>?_,I.free,I.freeC,fun p hp=>?_,tracked ⟨oL,hoL,I.free⟩ hs,by simpa using I.len⟩ ⟨_,hs,.inl rfl⟩
  ·exact (hs.2 b (Bo (AR (AA e) I.ok.above))).trans (I.base.keep b o e n hb hx)
  ·obtain ⟨sl,e1⟩:=I.base.slot b o e n hb hx
   exact ⟨sl,(hs.2 b (Bo (AR (AA e) I.ok.above))).trans e1⟩
  ·obtain ⟨o',e1⟩:=I.base.there b o e hx
   exact ⟨o',(hs.2 b (Bo (AR (AA e) I.ok.above))).trans e1⟩
  ·by_cases hj:j=i
   ·subst hj
    rw [hi] at e1;cases e1
    rw [BV hiσ] at e2
    cases e2
    exact ⟨u,r,.inl ⟨hk,by simp⟩⟩
   ·rw [BG (Ne.symm hj)] at e2
    obtain ⟨u',r',q⟩:=hl j y v' e1 e2 e3
    refine ⟨u',r',?_⟩
    rcases q with ⟨k,e⟩ |⟨k,c,e,z⟩
    ·refine .inl ⟨k,?_⟩
     have:y≠x:=fun e=>hj (Mp hN e1 (e ▸ hi))
     simp [this,e]
    ·exact .inr ⟨k,c,e,z.sameBut hs (cne y c e)⟩
  ·obtain ⟨w',z⟩:=I.cell y c e
   exact ⟨w',z.sameBut hs (cne y c e)⟩
  ·obtain ⟨e,n,ne,nf,d⟩:=I.pin p hp
   exact ⟨(hs.2 p.1 ne).trans e,n,ne,nf,d⟩
 ·have hfn:X.fn x=true:=by
   rcases hf with z |z
   ·exact z
   ·rw [z] at hk;cases hk
  obtain ⟨c,hc⟩:=I.ok.has x (.inl hk)
  obtain ⟨w',z⟩:=I.cell x c hc
  refine wpAny_storeName_cell I.ok.kind hk hc z (fun h' hc' hs=>?_)
  obtain ⟨oc,hoc,hocd⟩:=id z
  refine h {s with heap:=h'} ⟨I.ok,I.os,I.bare,⟨fun b o e n hb hx=>?_,fun b o e n hb hx=>?_,I.base.free,fun b o e hx=>?_,I.base.tups,I.base.frzs,I.base.tbls⟩,⟨m,hn.sameBut hs (Ne.symm (cne x c hc)),fun j y v' e1 e2 e3=>?_⟩,fun y c' e=>?_,I.free,I.freeC,fun p hp=>?_,tracked ⟨oc,hoc,I.freeC x c hc⟩ hs,by simpa using I.len⟩ ⟨c,hs,.inr hc⟩
  ·exact (hs.2 b (Bo (AR (AA e) (I.ok.cab x c hfn hc)))).trans (I.base.keep b o e n hb hx)
  ·obtain ⟨sl,e1⟩:=I.base.slot b o e n hb hx
   exact ⟨sl,(hs.2 b (Bo (AR (AA e) (I.ok.cab x c hfn hc)))).trans e1⟩
  ·obtain ⟨o',e1⟩:=I.base.there b o e hx
   exact ⟨o',(hs.2 b (Bo (AR (AA e) (I.ok.cab x c hfn hc)))).trans e1⟩
  ·by_cases hj:j=i
   ·subst hj
    rw [hi] at e1;cases e1
    rw [BV hiσ] at e2
    cases e2
    exact ⟨u,r,.inr ⟨.inl hk,c,hc,hc'⟩⟩
   ·rw [BG (Ne.symm hj)] at e2
    obtain ⟨u',r',q⟩:=hl j y v' e1 e2 e3
    refine ⟨u',r',?_⟩
    rcases q with q |⟨k,c',e,z'⟩
    ·exact .inl q
    ·refine .inr ⟨k,c',e,z'.sameBut hs ?_⟩
     rintro rfl
     exact hj (Mp hN e1 (I.ok.inj _ _ _ e hc ▸ hi))
  ·by_cases hcc:c'=c
   ·subst hcc;exact ⟨_,hc'⟩
   ·obtain ⟨w2,z2⟩:=I.cell y c' e
    exact ⟨w2,z2.sameBut hs hcc⟩
  ·obtain ⟨e,n,ne,nf,d⟩:=I.pin p hp
   refine ⟨(hs.2 p.1 ?_).trans e,n,ne,nf,d⟩
   intro q
   rw [q,hoc] at e
   have q':oc=p.2:=Option.some.inj e
   exact d w' (by rw [←q'];exact hocd)
theorem FV {M:Model} {A:Around} {E:Value→Shared→Prop} {i:Nat} {x:Str} {v:V} {u:Value} {Q:Unit→Shared→Prop} (I:Inv X pins σ H s) (hN:X.N.Nodup) (hi:X.N[i]?=some x) (hx:FU X.env.scope x) (r:RelV v u)
 (h:∀s',Inv X pins (σ.set i (some v)) H s'→Q () s') (hf:X.fn x=true∨X.env.scope.names.lookup x=some .local:=by first |exact .inl rfl |exact .inr rfl |assumption):wpAny M A (storeName X.env x u) Q E s:=
 JE I hN hi hx r (fun s' I' _=>h s' I') hf
theorem Inv.call' {s':Shared} {ch:List Addr} (I:Inv X pins σ H s) (ho:s'.os=s.os) (u:Un (frs X.stack) ch H H' s.heap s'.heap) (hok:HOk X.prog X.w H' s'.heap) (hg:AllBare s'.gens)
 (hch:∀b∈ch,(b∈X.ex∨X.s₀.heap.objs.size≤b)∧b≠X.env.locals∧(∀x c,X.env.cells.lookup x=some c→c≠b)∧∀p∈X.pn++pins,p.1≠b):Inv X pins σ H' s':=by
 obtain ⟨h',g',d',t',o'⟩:=s'
 have e:o'=s.os:=ho
 subst e
 exact I.call (g':=g') (t':=t') (d':=d') u hok hg hch
end
abbrev XK:=Value→Option Addr→Hp→Prop
abbrev St:=List (Option V)
abbrev VK:=V→Hp→Prop
abbrev TE:=St→Hp→VK→Prop
abbrev TT:=St→Hp→(Bool→Hp→Prop)→Prop
abbrev TA:=St→Hp→(List V→Hp→Prop)→Prop
structure Dr where
 nx:St→Hp→Prop
 rt:VK
 bk:St→Hp→Prop:=fun _ _=>False
 ct:St→Hp→Prop:=fun _ _=>False
abbrev TS:=Dr→St→Hp→Prop
inductive EP (X:Cx) (pins:List (Addr×Obj)) (σ:St) (Q:VK) (u:Value) (s':Shared):Prop where
 |mk (v:V) (H':Hp) (i:Inv X pins σ H' s') (r:RelV v u) (q:Q v H'):EP X pins σ Q u s'
inductive TP (X:Cx) (pins:List (Addr×Obj)) (σ:St) (Q:Bool→Hp→Prop) (b:Bool) (s':Shared):Prop where
 |mk (H':Hp) (i:Inv X pins σ H' s') (q:Q b H'):TP X pins σ Q b s'
inductive AP (X:Cx) (pins:List (Addr×Obj)) (σ:St) (Q:List V→Hp→Prop) (us:List Value) (s':Shared):Prop where
 |mk (vs:List V) (H':Hp) (i:Inv X pins σ H' s') (r:Vals vs us) (q:Q vs H'):AP X pins σ Q us s'
inductive SN (X:Cx) (pins:List (Addr×Obj)) (q:St→Hp→Prop) (s':Shared):Prop where
 |mk (σ':St) (H':Hp) (i:Inv X pins σ' H' s') (p:q σ' H'):SN X pins q s'
inductive SR (X:Cx) (pins:List (Addr×Obj)) (q:V→Hp→Prop) (u:Value) (s':Shared):Prop where
 |mk (v:V) (σ':St) (H':Hp) (i:Inv X pins σ' H' s') (r:RelV v u) (p:q v H'):SR X pins q u s'
def SP (X:Cx) (pins:List (Addr×Obj)) (D:Dr) (f:Flow) (s':Shared):Prop:=
 match f with
 |.next=>SN X pins D.nx s'
 |.brk=>SN X pins D.bk s'
 |.cont=>SN X pins D.ct s'
 |.ret u=>SR X pins D.rt u s'
def PE (X:Cx) (e:Expr) (t:TE):Prop:=
 ∀(pins:List (Addr×Obj)) (s:Shared) (σ:St) (H:Hp) (Q:VK),Inv X pins σ H s→t σ H Q→wpAny (model X.prog X.w) X.A (eval e X.env) (EP X pins σ Q) X.xe s
def PT (X:Cx) (e:Expr) (t:TT):Prop:=
 ∀(pins:List (Addr×Obj)) (s:Shared) (σ:St) (H:Hp) (Q:Bool→Hp→Prop),Inv X pins σ H s→t σ H Q→wpAny (model X.prog X.w) X.A (isTrue e X.env (eval e X.env)) (TP X pins σ Q) X.xe s
def PW (X:Cx) (e:Expr) (t:TT):Prop:=
 ∀(Es:Sem Value) (pins:List (Addr×Obj)) (s:Shared) (σ:St) (H:Hp) (Q:Bool→Hp→Prop),Inv X pins σ H s→t σ H Q→wpAny (model X.prog X.w) X.A (isTrue e X.env Es) (TP X pins σ Q) X.xe s
theorem PW.pt {X:Cx} {e:Expr} {t:TT} (h:PW X e t):PT X e t:=h _
def PA (X:Cx) (es:List Expr) (t:TA):Prop:=
 ∀(pos:Pos) (pins:List (Addr×Obj)) (s:Shared) (σ:St) (H:Hp) (Q:List V→Hp→Prop),Inv X pins σ H s→t σ H Q→wpAny (model X.prog X.w) X.A (spliced (backTo pos (starEach es X.env))) (AP X pins σ Q) X.xe s
def PS (X:Cx) (st:Stmt) (t:TS):Prop:=
 ∀(pins:List (Addr×Obj)) (s:Shared) (σ:St) (H:Hp) (D:Dr),Inv X pins σ H s→t D σ H→wpAny (model X.prog X.w) X.A (exec st X.env) (SP X pins D) X.xe s
def CP (X:Cx) (st:List Stmt) (t:TS):Prop:=
 ∀(pins:List (Addr×Obj)) (s:Shared) (σ:St) (H:Hp) (D:Dr),Inv X pins σ H s→t D σ H→wpAny (model X.prog X.w) X.A (execs st X.env) (SP X pins D) X.xe s
theorem Ap {α:Type} {t:Sem α} {Q Q':α→Shared→Prop} {M:Model} {A:Around} {E:Value→Shared→Prop} {s:Shared} (h:wpAny M A t Q E s) (hQ:∀a s,Q a s→Q' a s):wpAny M A t Q' E s:=wpAny_mono h hQ fun _ _ x=>x
section
variable {X:Cx}
def O9 (i:Nat):TE:=fun σ H Q=>∃v,σ[i]?=some (some v)∧Q v H
def tC (v:V):TE:=fun _ H Q=>Q v H
theorem Mq {i:Nat} {x:Str} {pos:Pos} (hN:X.N[i]?=some x) (hv:JD X.env.scope x) (hd:(x==("__debug__":Str))=false:=by decide) (hcd:(x==("__classdict__":Str))=false:=by decide):PE X (.Name x pos) (O9 i):=by
 intro pins s σ H Q I h
 obtain ⟨v,e,h⟩:=h
 obtain ⟨m,hn,hl⟩:=I.loc
 obtain ⟨u,r,l⟩:=hl i x v hN e hv
 have AQ:EP X pins σ Q u s:=⟨v,H,I,r,h⟩
 rcases l with ⟨hk,hm⟩ |⟨hk,c,hc,hcell⟩
 ·exact wpAny_Name (wpAny_loadName_local I.ok.kind hk hn hm AQ) hd
 ·rcases hk with hk |hk
  ·exact wpAny_Name (wpAny_loadName_cell I.ok.kind hk hc hcell AQ) hd
  ·exact wpAny_Name (wpAny_loadName_free I.ok.kind hk hc hcell AQ hcd) hd
theorem VY {i j pos}:PE X (.Constant (.int i) j pos) (tC (.int i)):=fun _ _ _ H _ I h=>wpAny_Constant_int ⟨.int i,H,I.tok _,⟨_,rfl⟩,h⟩
theorem VZ {b j pos}:PE X (.Constant (.bool b) j pos) (tC (.bl b)):=fun _ _ _ H _ I h=>Constant_bool ⟨.bl b,H,I,rfl,h⟩
theorem V0 {j pos}:PE X (.Constant .none j pos) (tC .non):=fun _ _ _ H _ I h=>Constant_none ⟨.non,H,I,rfl,h⟩
theorem V1 {x j pos}:PE X (.Constant (.str x) j pos) (tC (.str x)):=fun _ _ _ H _ I h=>Calls.Constant_str ⟨.str x,H,I.tok _,⟨_,rfl⟩,h⟩
def Gl (X:Cx) (x:Str):Prop:=X.env.kindOf x=some .globalImplicit
theorem Fc {E:Value→Shared→Prop} {pins:List (Addr×Obj)} {s:Shared} {σ:St} {H:Hp} {x:Str} {u:Value} {pos:Pos} {Q:Value→Shared→Prop} (I:Inv X pins σ H s) (hg:Gl X x) (hm:X.mg x=some u) (h:Q u s)
 (hd:(x==("__debug__":Str))=false:=by decide):wpAny (model X.prog X.w) X.A (eval (.Name x pos) X.env) Q E s:=
 Calls.Name_function_global I.ok.kind hg (Calls.loadGlobal_global (by rw [I.ok.glob];exact I.mod.glob.keeps I.bk) hm h) hd
theorem FW {E:Value→Shared→Prop} {pins:List (Addr×Obj)} {s:Shared} {σ:St} {H:Hp} {x:Str} {u:Value} {pos:Pos} {Q:Value→Shared→Prop} (I:Inv X pins σ H s) (hg:Gl X x) (hm:X.mg x=none) (hv:bootBuiltins x=some u) (h:Q u s)
 (hn:x≠"__name__":=by decide) (hd:(x==("__debug__":Str))=false:=by decide):wpAny (model X.prog X.w) X.A (eval (.Name x pos) X.env) Q E s:=by
 obtain ⟨mb,h1,h2⟩:=I.mod.blt
 exact Calls.Name_function_global I.ok.kind hg (Calls.loadGlobal_builtin (by rw [I.ok.glob];exact I.mod.glob.keeps I.bk) hm (by rw [I.ok.blt];exact h1.keeps I.bk) ((h2 x hn).trans hv) h) hd
theorem V2 {x:Str} {v:V} {u:Value} {pos:Pos} (hg:Gl X x) (hm:X.mg x=some u) (r:RelV v u) (hd:(x==("__debug__":Str))=false:=by decide):PE X (.Name x pos) (tC v):=
 fun _ _ _ H _ I h=>Fc I hg hm ⟨v,H,I,r,h⟩ hd
theorem V3 {x:Str} {v:V} {u:Value} {pos:Pos} (hg:Gl X x) (hm:X.mg x=none) (hv:bootBuiltins x=some u) (r:RelV v u) (hn:x≠"__name__":=by decide) (hd:(x==("__debug__":Str))=false:=by decide):PE X (.Name x pos) (tC v):=
 fun _ _ _ H _ I h=>FW I hg hm hv ⟨v,H,I,r,h⟩ hn hd
variable {a b:Expr} {ta tb:TE} {pos:Pos}
variable {tA tB':TT} {rest:List Expr}
def V4 (t u:TT):TT:=fun σ H Q=>t σ H fun c H1=>if c=true then Q true H1 else u σ H1 Q
def V5 (t:TT):TT:=fun σ H Q=>t σ H fun c H1=>Q (!c) H1
theorem V6 (ha:PT X a tA):PW X (.BoolOp .Or [a] pos) tA:=by
 intro wh pins s σ H Q I h
 refine isTrue_or (Ap (ha pins s σ H Q I h) fun c s1 e=>?_)
 cases c with
 |false=>exact isTrue_or_nil e
 |true=>exact e
theorem V7 (ha:PT X a tA) (hb:PW X (.BoolOp .Or (b::rest) pos) tB'):PW X (.BoolOp .Or (a::b::rest) pos) (V4 tA tB'):=by
 intro wh pins s σ H Q I h
 refine isTrue_or (Ap (ha pins s σ H _ I h) fun c s1 z9_=>?_)
 obtain ⟨H1,I1,q1⟩:=z9_
 cases c with
 |true=>exact ⟨H1,I1,q1⟩
 |false=>exact hb wh pins s1 σ H1 Q I1 q1
theorem V8 (ha:PT X a tA):PT X (.UnaryOp .Not a pos) (V5 tA):=by
 intro pins s σ H Q I h
 exact isTrue_not (Ap (ha pins s σ H (fun c H1=>Q (!c) H1) I h) fun c s1 z=>by cases z with |mk H1 I1 q=>exact ⟨H1,I1,q⟩)
def V9 (ta tb:TE):TE:=fun σ H Q=>ta σ H fun x H1=>∃c,x=.bl c∧if c=true then tb σ H1 Q else Q (.bl false) H1
def Zfn (ta tb:TE):TE:=fun σ H Q=>ta σ H fun x H1=>∃c,x=.bl c∧if c=true then Q (.bl true) H1 else tb σ H1 Q
def Wa (ta:TE):TE:=fun σ H Q=>ta σ H fun x H1=>∃c,x=.bl c∧Q (.bl (!c)) H1
theorem Wb {op} {t:TE} (h:PE X a t):PE X (.BoolOp op [a] pos) t:=fun pins s σ H Q I hw=>BoolOp_one (h pins s σ H Q I hw)
theorem Wc (ha:PE X a ta) (hb:PE X (.BoolOp .And (b::rest) pos) tb):PE X (.BoolOp .And (a::b::rest) pos) (V9 ta tb):=by
 intro pins s σ H Q I h
 refine BoolOp_and (Ap (ha pins s σ H _ I h) fun v s1 z10_=>?_)
 obtain ⟨x,H1,I1,r1,q1⟩:=z10_
 obtain ⟨c,rfl,q1⟩:=q1
 cases r1
 refine wpAny_truthy_bool ?_
 cases c with
 |true=>exact hb pins s1 σ H1 Q I1 q1
 |false=>exact ⟨.bl false,H1,I1,rfl,q1⟩
theorem Wd (ha:PE X a ta):PE X (.UnaryOp .Not a pos) (Wa ta):=by
 intro pins s σ H Q I h
 refine UnaryOp_ (Ap (ha pins s σ H _ I h) fun v s1 z12_=>?_)
 obtain ⟨x,H1,I1,r1,q1⟩:=z12_
 obtain ⟨c,rfl,q1⟩:=q1
 cases r1
 exact not_of (wpAny_truthy_bool ⟨.bl (!c),H1,I1,rfl,q1⟩)
def Wf (t:TT) (ta tb:TE):TE:=fun σ H Q=>t σ H fun c H1=>if c=true then ta σ H1 Q else tb σ H1 Q
theorem Wg {c:Expr} (hc:PT X c tA) (ha:PE X a ta) (hb:PE X b tb):PE X (.IfExp c a b pos) (Wf tA ta tb):=by
 intro pins s σ H Q I h
 refine wpAny_IfExp (Ap (hc pins s σ H _ I h) fun d s1 z13_=>?_)
 obtain ⟨H1,I1,q1⟩:=z13_
 cases d with
 |true=>exact ha pins s1 σ H1 Q I1 q1
 |false=>exact hb pins s1 σ H1 Q I1 q1
end
def SqL (K:PySem.W.Frag) (H:Hp) (a:Addr) (xs:List V):Prop:=
 Rd H a (.lst xs)∨
  ∃(o:Obj) (its:Array Value) (n:Nat),K.lookup a=some o∧o.cls=.type "list"∧o.dict=none∧o.data=.seq its n∧its.size≤sizeLine∧Vals xs its.toList
def SqT (K:PySem.W.Frag) (H:Hp) (a:Addr) (xs:List V):Prop:=
 Rd H a (.tup xs)∨
  ∃(o:Obj) (its:Array Value) (n:Nat),K.lookup a=some o∧o.cls=.type "tuple"∧o.data=.seq its n∧its.size≤sizeLine∧Vals xs its.toList
def Wh:Value→Option V
 |.none=>some .non
 |.bool b=>some (.bl b)
 |.int i _=>some (.int i)
 |.str x _=>some (.str x)
 |.bytes b _=>some (.byt b)
 |.float b _=>some (.flt b)
 |.ref a=>some (.ref a)
 |.type n=>some (.ty n)
 |_=>none
theorem RelV.abs {x:V} {u:Value} (r:RelV x u):Wh u=some x:=by
 cases x with
 |non=>cases r;rfl
 |bl _=>cases r;rfl
 |int _=>obtain ⟨t,rfl⟩:=r;rfl
 |str _=>obtain ⟨t,rfl⟩:=r;rfl
 |byt _=>obtain ⟨t,rfl⟩:=r;rfl
 |flt _=>obtain ⟨t,rfl⟩:=r;rfl
 |ref _=>cases r;rfl
 |ty _=>cases r;rfl
theorem RelV.inj {x y:V} {u:Value} (r:RelV x u) (q:RelV y u):x=y:=Option.some.inj (r.abs.symm.trans q.abs)
theorem Vals.inj {xs ys:List V} {us:List Value} (h:Vals xs us) (g:Vals ys us):xs=ys:=by
 induction h generalizing ys with
 |nil=>cases g;rfl
 |cons r t ih=>cases g with |cons r' t'=>rw [r.inj r',ih t']
section
variable {X:Cx} {pins:List (Addr×Obj)} {σ:St} {H:Hp} {s:Shared} {a:Addr} {xs ys:List V}
theorem SqL.of {K:PySem.W.Frag} (h:H a=some (.lst xs)):SqL K H a xs:=.inl (.inl h)
theorem SqT.of {K:PySem.W.Frag} (h:H a=some (.tup xs)):SqT K H a xs:=.inl (.inl h)
theorem Inv.list (I:Inv X pins σ H s) (h:SqL X.K H a xs):∃its:List Value,Vals xs its∧PlainL s.heap a its.toArray∧xs.length≤sizeLine:=by
 rcases h with h |⟨o,its,n,hk,hc,hd,hs,hz,r⟩
 ·obtain ⟨z,its,n,r,e⟩:=h.ok I.hok
  exact ⟨its,r,⟨_,n,e,rfl,rfl,rfl⟩,z⟩
 ·refine ⟨its.toList,r,⟨o,n,I.kIn a o hk,hc,hd,by simpa using hs⟩,?_⟩
  have e:=r.length
  simp only [Array.length_toList] at e
  omega
theorem Inv.tuple (I:Inv X pins σ H s) (h:SqT X.K H a xs):∃its:List Value,Vals xs its∧IsTup s.heap a its.toArray∧xs.length≤sizeLine:=by
 rcases h with h |⟨o,its,n,hk,hc,hs,hz,r⟩
 ·obtain ⟨z,its,r,p,_⟩:=h.ok I.hok
  exact ⟨its,r,p,z⟩
 ·refine ⟨its.toList,r,⟨o,I.kIn a o hk,hc,n,by simpa using hs⟩,?_⟩
  have e:=r.length
  simp only [Array.length_toList] at e
  omega
theorem Inv.list_inj (I:Inv X pins σ H s) (h:SqL X.K H a xs) (h':SqL X.K H a ys):xs=ys:=by
 obtain ⟨its,r,⟨o,n,e,_,_,d⟩,_⟩:=I.list h
 obtain ⟨its',r',⟨o',n',e',_,_,d'⟩,_⟩:=I.list h'
 rw [e] at e';cases e'
 rw [d] at d'
 injection d' with d1 _
 have:its=its':=by simpa using congrArg Array.toList d1
 subst this
 exact r.inj r'
theorem Inv.tuple_inj (I:Inv X pins σ H s) (h:SqT X.K H a xs) (h':SqT X.K H a ys):xs=ys:=by
 obtain ⟨its,r,⟨o,e,_,n,d⟩,_⟩:=I.tuple h
 obtain ⟨its',r',⟨o',e',_,n',d'⟩,_⟩:=I.tuple h'
 rw [e] at e';cases e'
 rw [d] at d'
 injection d' with d1 _
 have:its=its':=by simpa using congrArg Array.toList d1
 subst this
 exact r.inj r'
end
section
variable {X:Cx} {pins:List (Addr×Obj)} {σ:St} {H:Hp} {s:Shared} {E:Value→Shared→Prop}
end
section
variable {X:Cx} {st:Stmt} {rest:List Stmt} {t u:TS} {e:Expr} {te:TE} {pos:Pos}
def Wi:TS:=fun D σ H=>D.nx σ H
def Wj (t u:TS):TS:=fun D σ H=>t {D with nx:=u D} σ H
theorem Wk:CP X [] Wi:=fun _ _ σ H _ I h=>wpAny_execs_nil ⟨σ,H,I,h⟩
theorem Wl (h1:PS X st t) (h2:CP X rest u):CP X (st::rest) (Wj t u):=by
 intro pins s σ H D I h
 refine wpAny_execs_cons (Ap (h1 pins s σ H {D with nx:=u D} I h) fun f s1 q=>?_)
 cases f with
 |next=>
  obtain ⟨σ',H',I',q⟩:=q
  exact h2 pins s1 σ' H' D I' q
 |ret v=>exact q
 |brk=>exact q
 |cont=>exact q
theorem Wm (h1:PS X st t):CP X [st] t:=by
 intro pins s σ H D I h
 refine wpAny_execs_cons (Ap (h1 pins s σ H D I h) fun f s1 q=>?_)
 cases f with
 |next=>exact wpAny_execs_nil q
 |ret v=>exact q
 |brk=>exact q
 |cont=>exact q
theorem Inv.quiet {pins:List (Addr×Obj)} {σ:St} {H:Hp} {s:Shared} (I:Inv X pins σ H s):interactive X.env=false:=by simp [interactive,I.ok.kind]
def Wn (te:TE):TS:=fun D σ H=>te σ H fun _ H1=>D.nx σ H1
theorem Wo (he:PE X e te) (hs:swapsWith e none pos.line X.env=pure false:=by rfl):PS X (.Expr e pos) (Wn te):=by
 intro pins s σ H D I h
 exact wpAny_Expr_any (Ap (he pins s σ H _ I h) fun v s1 z16_=>by obtain ⟨x,H1,I1,r1,q1⟩:=z16_;exact (⟨σ,H1,I1,q1⟩)) I.quiet hs
def Wq (te:TE):TS:=fun D σ H=>te σ H D.rt
theorem Wr (he:PE X e te):PS X (.Return (some e) pos) (Wq te):=by
 intro pins s σ H D I h
 exact wpAny_Return_some (Ap (he pins s σ H _ I h) fun v s1 z17_=>by obtain ⟨x,H1,I1,r1,q1⟩:=z17_;exact (⟨x,σ,H1,I1,r1,q1⟩))
def Ws (c:TT) (t u:TS):TS:=fun D σ H=>c σ H fun b H1=>if b=true then t D σ H1 else u D σ H1
theorem Wt {c:Expr} {a b:List Stmt} {tc:TT} (hc:PT X c tc) (ha:CP X a t) (hb:CP X b u):PS X (.If c a b pos) (Ws tc t u):=by
 intro pins s σ H D I h
 refine wpAny_If (Ap (hc pins s σ H _ I h) fun d s1 z18_=>?_)
 obtain ⟨H1,I1,q1⟩:=z18_
 cases d with
 |true=>exact ha pins s1 σ H1 D I1 q1
 |false=>exact hb pins s1 σ H1 D I1 q1
def Wu:TS:=fun _ _ _=>False
theorem Wv {sts:List Stmt}:CP X sts Wu:=fun _ _ _ _ _ _ h=>h.elim
end
abbrev TG:=V→St→Hp→(St→Hp→Prop)→Prop
abbrev Ec:=List V→St→Hp→(St→Hp→Prop)→Prop
def PG (X:Cx) (target:Expr) (t:TG):Prop:=
 ∀(pins:List (Addr×Obj)) (s:Shared) (σ:St) (H:Hp) (v:V) (u:Value) (Q:St→Hp→Prop),Inv X pins σ H s→RelV v u→t v σ H Q→
  wpAny (model X.prog X.w) X.A (assign target X.env u) (fun _ s'=>SN X pins Q s') X.xe s
def HH (X:Cx) (ts:List Expr) (t:Ec):Prop:=
 ∀(pins:List (Addr×Obj)) (s:Shared) (σ:St) (H:Hp) (vs:List V) (us:List Value) (Q:St→Hp→Prop),Inv X pins σ H s→Vals vs us→t vs σ H Q→
  wpAny (model X.prog X.w) X.A (assignInOrder ((assignEach ts X.env).map (·.2)) us) (fun _ s'=>SN X pins Q s') X.xe s
abbrev Mr:=V→V→V→Hp→(Hp→Prop)→Prop
def Pa (X:Cx) (t:Mr):Prop:=
 ∀(pins:List (Addr×Obj)) (s:Shared) (σ:St) (H:Hp) (o i v:V) (ov iv u:Value) (Q:Hp→Prop),Inv X pins σ H s→RelV o ov→RelV i iv→RelV v u→t o i v H Q→
  wpAny (model X.prog X.w) X.A (setItem ov iv u) (fun _ s'=>∃H',Inv X pins σ H' s'∧Q H') X.xe s
section
variable {X:Cx} {pos:Pos}
def BP (i:Nat):TG:=fun v σ H Q=>Q (σ.set i (some v)) H
theorem Df {i:Nat} {x:Str} (hN:X.N.Nodup) (hi:X.N[i]?=some x) (hx:FU X.env.scope x) (hf:X.fn x=true∨X.env.scope.names.lookup x=some .local:=by first |exact .inl rfl |exact .inr rfl |assumption):PG X (.Name x pos) (BP i):=by
 intro pins s σ H v u Q I r h
 exact wpAny_assign_Name (FV I hN hi hx r (fun s' I'=>⟨_,H,I',h⟩) hf)
def Ed:Ec:=fun vs σ H Q=>vs=[]∧Q σ H
def Cg (t:TG) (u:Ec):Ec:=fun vs σ H Q=>∃v r,vs=v::r∧t v σ H fun σ' H'=>u r σ' H' Q
theorem JF:HH X [] Ed:=by
 intro pins s σ H vs us Q I r h
 obtain ⟨e,h⟩:=h
 subst e
 cases r
 exact assignInOrder_nil ⟨σ,H,I,h⟩
theorem EH {e:Expr} {es:List Expr} {t:TG} {u:Ec} (h1:PG X e t) (h2:HH X es u)
 (hs:(assignEach (e::es) X.env).map (·.2)=assign e X.env::(assignEach es X.env).map (·.2):=by rfl):HH X (e::es) (Cg t u):=by
 intro pins s σ H vs us Q I r h
 obtain ⟨v,vr,e1,h⟩:=h
 subst e1
 cases r with
 |cons r rr=>
  rw [hs]
  refine assignInOrder_cons (Ap (h1 pins s σ H _ _ _ I r h) fun _ s1 z19_=>?_)
  obtain ⟨σ1,H1,I1,q1⟩:=z19_
  exact h2 pins s1 σ1 H1 _ _ Q I1 rr q1
def EI (K:PySem.W.Frag) (n:Nat) (t:Ec):TG:=fun v σ H Q=>∃a xs,v=.ref a∧SqT K H a xs∧xs.length=n∧t xs σ H Q
theorem Ms {es:List Expr} {k:Nat} {t:Ec} {n:Nat} (hc:X.calm=true) (h:HH X es t)
 (hn:(assignEach es X.env).length=n:=by rfl) (hst:(assignEach es X.env).findIdx? (·.1)=none:=by rfl):PG X (.Tuple es k pos) (EI X.K n t):=by
 intro pins s σ H v u Q I r hw
 obtain ⟨a,xs,e1,hq,hl,hw⟩:=hw
 subst e1
 cases r
 obtain ⟨its,rv,ht,hz⟩:=I.tuple hq
 refine assign_Tuple_tuple (I.ok.hd hc) ht (by simp [hn,←hl,rv.length]) hst fun h' hx=>?_
 have I1:Inv X pins σ H {s with heap:=h'}:=I.kept (t':=s.toks) fun b o e=>hx b o (Bo (AA e)) e
 exact h pins _ σ H xs _ Q I1 (by simpa using rv) hw
def Ww (to ti:TE) (t:Mr):TG:=fun v σ H Q=>to σ H fun o H1=>ti σ H1 fun i H2=>t o i v H2 fun H3=>Q σ H3
theorem Wx {o i:Expr} {to ti:TE} {t:Mr} (ho:PE X o to) (hi:PE X i ti) (hs:Pa X t)
 (ha:∀v,assign (.Subscript o i pos) X.env v=(do
  let ov ←holding [v] (eval o X.env)
  let iv ←holding [v,ov] (eval i X.env)
  standAt pos
  holding [v,ov,iv] (setItem ov iv v)
  release [v,ov,iv] []):=by intro _;rfl):PG X (.Subscript o i pos) (Ww to ti t):=by
 intro pins s σ H v u Q I r h
 rw [ha]
 refine wpAny_bind (wpAny_holding (Ap (ho pins s σ H _ I h) fun ov s1 z20_=>?_))
 obtain ⟨x,H1,I1,r1,q1⟩:=z20_
 refine wpAny_bind (wpAny_holding (Ap (hi pins s1 σ H1 _ I1 q1) fun iv s2 z21_=>?_))
 obtain ⟨y,H2,I2,r2,q2⟩:=z21_
 refine wpAny_bind (wpAny_standAt (wpAny_bind (wpAny_holding (Ap (hs pins s2 σ H2 x y v ov iv u _ I2 r1 r2 r q2) fun _ s3 z22_=>?_))))
 obtain ⟨H3,I3,q3⟩:=z22_
 exact wpAny_release ⟨σ,H3,I3,q3⟩
def Pb (te:TE) (g:TG):TS:=fun D σ H=>te σ H fun x H1=>g x σ H1 D.nx
theorem Mt {tg e:Expr} {te:TE} {g:TG} (he:PE X e te) (hg:PG X tg g) (hs:swapsWithSole [tg] e pos.line X.env=pure false:=by rfl) (hw:swappedStores [tg] e X.env=pure none:=by rfl)
 (h1:(assignEach [tg] X.env).map (·.2)=[assign tg X.env]:=by rfl):PS X (.Assign [tg] e pos) (Pb te g):=by
 intro pins s σ H D I h
 refine wpAny_Assign_stores (Ap (he pins s σ H _ I h) fun v s1 z23_=>?_) hs hw
 obtain ⟨x,H1,I1,r1,q1⟩:=z23_
 rw [h1]
 exact Ap (hg pins s1 σ H1 x v _ I1 r1 q1) fun _ s2 q=>q
theorem Wy {i:Nat} {x:Str} {e:Expr} {te:TE} {pos':Pos} (hN:X.N.Nodup) (hi:X.N[i]?=some x) (hx:FU X.env.scope x) (he:PE X e te) (hs:swapsWith e (some (.Name x pos')) pos.line X.env=pure false:=by rfl) (hf:X.fn x=true∨X.env.scope.names.lookup x=some .local:=by first |exact .inl rfl |exact .inr rfl |assumption):
 PS X (.Assign [.Name x pos'] e pos) (Pb te (BP i)):=by
 intro pins s σ H D I h
 refine wpAny_Assign_Name (Ap (he pins s σ H _ I h) fun v s1 z24_=>?_) hs
 obtain ⟨y,H1,I1,r1,q1⟩:=z24_
 exact FV I1 hN hi hx r1 (fun s2 I2=>⟨_,H1,I2,q1⟩) hf
def Wz (i j:Nat) (ta:TA):TS:=fun D σ H=>ta σ H fun vs H1=>∃v w,vs=[v,w]∧D.nx ((σ.set i (some v)).set j (some w)) H1
theorem WA {i j:Nat} {x y:Str} {a b:Expr} {ta:TA} {px py pt:Pos} {kt k2 pt2} (hc:X.calm=true) (hN:X.N.Nodup) (hi:X.N[i]?=some x) (hj:X.N[j]?=some y) (hij:i≠j)
 (hx:X.env.scope.names.lookup x=some .local) (hy:X.env.scope.names.lookup y=some .local) (ha:PA X [a,b] ta)
 (hw:swappedStores [.Tuple [.Name x px,.Name y py] kt pt] (.Tuple [a,b] k2 pt2) X.env=pure (some [x,y]))
 (hs:swapsWithSole [.Tuple [.Name x px,.Name y py] kt pt] (.Tuple [a,b] k2 pt2) pos.line X.env=pure false:=by rfl):
 PS X (.Assign [.Tuple [.Name x px,.Name y py] kt pt] (.Tuple [a,b] k2 pt2) pos) (Wz i j ta):=by
 intro pins s σ H D I h
 rw [exec_Assign_arm]
 refine wpAny_bind (wpAny_standAt ?_)
 rw [hs]
 refine wpAny_bind (wpAny_pure ?_)
 rw [if_neg (by decide)]
 refine wpAny_bind (Tuple_ (Ap (ha _ pins s σ H _ I h) fun us s1 z25_=>?_))
 obtain ⟨vs,H1,I1,r1,q1⟩:=z25_
 obtain ⟨v,w,e1,q1⟩:=q1
 subst e1
 obtain ⟨u1,u2,rfl,rv,rw'⟩:∃u1 u2,us=[u1,u2]∧RelV v u1∧RelV w u2:=by
  cases r1 with
  |cons p q=>
   cases q with
   |cons p' q'=>
    cases q'
    exact ⟨_,_,rfl,p,p'⟩
 refine wpAny_newObj_type ?_ (by show 2≤sizeLine;decide)
 have I2:Inv X pins σ H1 {s1 with heap:=s1.heap.push {cls:=.type "tuple",data:=.seq [u1,u2].toArray}}:=I1.kept (t':=s1.toks) fun b o e=>AB _ e
 rw [hw]
 refine wpAny_bind (wpAny_pure ?_)
 show wpAny (model X.prog X.w) X.A (do rule "assign.swapped-stores";let items ←unpackItems (.ref s1.heap.objs.size) 2 none;assignInOrder [fun v=>bindName X.env y v,fun v=>bindName X.env x v] items.reverse;pure Flow.next) _ _ _
 refine wpAny_bind (wpAny_rule (wpAny_bind (unpackItems_tuple (items:=#[u1,u2]) (I.ok.hd hc) (IsTup.new s1.heap _) fun h' hx'=>?_)))
 have I3:=I2.kept (h':=h') (t':=s1.toks) fun b o e=>hx' b o (Bo (AA e)) e
 show wpAny _ _ (assignInOrder [fun v=>bindName X.env y v,fun v=>bindName X.env x v] [u2,u1] >>=fun _=>pure Flow.next) _ _ _
 refine wpAny_bind (assignInOrder_cons (wpAny_bindName (FV I3 hN hj (.inl hy) rw' (fun s2 I4=>?_) (.inr hy))))
 refine assignInOrder_cons (wpAny_bindName (FV I4 hN hi (.inl hx) rv (fun s3 I5=>assignInOrder_nil (wpAny_pure ?_)) (.inr hx)))
 rw [List.set_comm _ _ (Ne.symm hij)] at I5
 exact ⟨_,H1,I5,q1⟩
end
section
variable {X:Cx} {pos:Pos}
def WB (c:TT) (tb:TS):TS:=fun D σ H=>∃W:Nat→St→Hp→Prop,(∃m,W m σ H)∧∀m σ H,W m σ H→
 c σ H fun b H1=>if b=true then ∃N:St→Hp→Prop,(∀σ' H',N σ' H'→∃m',m' < m∧W m' σ' H')∧tb {D with nx:=N,ct:=N,bk:=D.nx} σ H1 else D.nx σ H1
theorem WC {c:Expr} {body:List Stmt} {tc:TT} {tb:TS} (hp:PassesOwn (model X.prog X.w) X.A X.env X.xe) (hc:PT X c tc) (hb:CP X body tb):PS X (.While c body [] pos) (WB tc tb):=by
 intro pins s σ H D I h
 obtain ⟨W,⟨m0,w0⟩,turn⟩:=h
 refine wpAny_While (codeAny_whileLoop (fun n s'=>SN X pins (W n) s') ?_ m0 ⟨σ,H,I,w0⟩)
 rintro n s1 ⟨σ1,H1,I1,w1⟩
 refine wpAny_passesOwn hp (Ap (hc pins s1 σ1 H1 _ I1 (turn n σ1 H1 w1)) fun b s2 z34_=>?_)
 obtain ⟨H2,I2,q2⟩:=z34_
 cases b with
 |true=>
  obtain ⟨N,hN,q2⟩:=q2
  rw [if_pos rfl]
  refine wpAny_passesOwn hp (Ap (hb pins s2 σ1 H2 _ I2 q2) fun f s3 q3=>?_)
  cases f with
  |next=>
   obtain ⟨σ3,H3,I3,n3⟩:=q3
   obtain ⟨m',hm,w3⟩:=hN σ3 H3 n3
   exact ⟨m',hm,σ3,H3,I3,w3⟩
  |cont=>
   obtain ⟨σ3,H3,I3,n3⟩:=q3
   obtain ⟨m',hm,w3⟩:=hN σ3 H3 n3
   exact ⟨m',hm,σ3,H3,I3,w3⟩
  |brk=>exact q3
  |ret v=>exact q3
 |false=>
  rw [if_neg Bl]
  exact wpAny_execs_nil ⟨σ1,H2,I2,q2⟩
end
structure It where
 go:Nat→Hp→Prop
 yld:Nat→Hp→V→Hp→Prop
 stop:Nat→Hp→Prop
def Ee (X:Cx) (pins:List (Addr×Obj)) (H:Hp) (b:Addr):Prop:=
 H b=none∧b≠X.env.locals∧b∉X.fs∧(b∈X.ex∨X.s₀.heap.objs.size≤b)∧(∀x c,X.env.cells.lookup x=some c→c≠b)∧∀p∈X.pn++pins,p.1≠b
theorem Inv.fpOk {X:Cx} {pins:List (Addr×Obj)} {σ:St} {H H':Hp} {s:Shared} {b:Addr} (I:Inv X pins σ H s) (hb:s.heap.objs.size≤b) (hn:H' b=none):Ee X pins H' b:=by
 refine ⟨hn,Cf (AR I.lt hb),I.nofs hb,.inr (BW I.sz hb),fun x c e z=>?_,fun p hp z=>?_⟩
 ·obtain ⟨v,q⟩:=I.cell x c e
  exact absurd (AR q.lt (by rw [z];exact hb)) (CO _)
 ·exact absurd (AR (AA (I.pin p hp).1) (by rw [z];exact hb)) (CO _)
structure FX (P:Program) (w:World) (K:PySem.W.Frag) (tg:Expr) (J:It) (fp:List Addr) (it:Addr) (tn:Nat→Heap→Prop):Prop where
 mem:it∈fp
 obj:∀i h,tn i h→∀b∈fp,∃o,h.get? b=some o∧∀v,o.data≠.cell v
 keep:∀i h h',tn i h→(∀b∈fp,∀o,h.get? b=some o→h'.get? b=some o)→tn i h'
 item:∀(X:Cx),X.prog=P→X.w=w→X.K=K→X.calm=true→∀(i:Nat) (pins:List (Addr×Obj)) (s:Shared) (σ:St) (H:Hp) (E:Value→Shared→Prop),Inv X pins σ H s→(∀b∈fp,Ee X pins H b)→tn i s.heap→J.go i H→
  wpAny (model P w) X.A (pyNext (.ref it)) (fun r s1=>∃u,r=some u∧
   wpAny (model P w) X.A (letOwnedTupleGo tg (.ref it) u) (fun _ s2=>∃x H',Inv X pins σ H' s2∧RelV x u∧J.yld i H x H'∧tn (i+1) s2.heap∧∀b∈fp,H' b=none) E s1) E s
 done:∀(X:Cx),X.prog=P→X.w=w→X.K=K→X.calm=true→∀(i:Nat) (pins:List (Addr×Obj)) (s:Shared) (σ:St) (H:Hp) (E:Value→Shared→Prop),Inv X pins σ H s→(∀b∈fp,Ee X pins H b)→tn i s.heap→J.stop i H→
  wpAny (model P w) X.A (pyNext (.ref it)) (fun r s1=>r=none∧Inv X pins σ H s1) E s
 self:∀(A:Around) (i:Nat) (s:Shared) (Q:Value→Shared→Prop) (E:Value→Shared→Prop),tn i s.heap→Q (.ref it) s→wpAny (model P w) A (pyIter (.ref it)) Q E s
abbrev TI:=St→Hp→(It→Hp→Prop)→Prop
inductive Mu (X:Cx) (pins:List (Addr×Obj)) (σ:St) (tg:Expr) (R:It→Hp→Prop) (itv:Value) (s2:Shared):Prop where
 |mk (it:Addr) (fp:List Addr) (tn:Nat→Heap→Prop) (J:It) (H':Hp) (e:itv=.ref it) (i:Inv X pins σ H' s2) (t:FX X.prog X.w X.K tg J fp it tn) (st:tn 0 s2.heap) (f:∀b∈fp,Ee X pins H' b) (r:R J H'):Mu X pins σ tg R itv s2
def PI (X:Cx) (tg iter:Expr) (wi:TI):Prop:=
 ∀(pins:List (Addr×Obj)) (s:Shared) (σ:St) (H:Hp) (R:It→Hp→Prop),Inv X pins σ H s→wi σ H R→
  wpAny (model X.prog X.w) X.A (eval iter X.env) (fun v s1=>wpAny (model X.prog X.w) X.A (pyIter v) (Mu X pins σ tg R) X.xe s1) X.xe s
theorem Mv {M:Model} {A:Around} {E:Value→Shared→Prop} {s:Shared} {tg:Expr} {it:Addr} {u:Value} {o:Obj} {n:String} {vs:Array Value} {Q:Unit→Shared→Prop} (ho:s.heap.get? it=some o) (hc:o.cls=.type n) (hd:o.data=.fields vs)
 (hn:["enumerate","zip","dict_itemiterator","dict_reverseitemiterator","odict_iterator","itertools.zip_longest","itertools.pairwise"].contains n=false) (hQ:Q () s):wpAny M A (letOwnedTupleGo tg (.ref it) u) Q E s:=by
 unfold letOwnedTupleGo
 cases tg<;>first
  |exact wpAny_pure hQ
  |(cases u<;>first
   |exact wpAny_pure hQ
   |(refine wpAny_bind (wpAny_load ho ?_)
     rw [hc,hd]
     show wpAny M A (if (["enumerate","zip","dict_itemiterator","dict_reverseitemiterator","odict_iterator","itertools.zip_longest","itertools.pairwise"].contains n&&vs[0]?==some (rawInt _))=true then _ else _) Q E s
     rw [if_neg (by intro h;rw [hn,Bool.false_and] at h;cases h)]
     exact wpAny_pure hQ))
def HI (K:PySem.W.Frag) (a:Addr):It:=
 ⟨fun i H=>∃xs x,SqL K H a xs∧xs[i]?=some x,fun i H x H'=>H'=H∧∀xs,SqL K H a xs→xs[i]?=some x,fun i H=>∃xs,SqL K H a xs∧xs.length≤i⟩
def HJ (K:PySem.W.Frag) (a:Addr):It:=
 ⟨fun i H=>∃xs x,SqT K H a xs∧xs[i]?=some x,fun i H x H'=>H'=H∧∀xs,SqT K H a xs→xs[i]?=some x,fun i H=>∃xs,SqT K H a xs∧xs.length≤i⟩
def HK (lo:Int) (n:Nat):It:=⟨fun i _=>i<n,fun i H x H'=>H'=H∧x=.int (lo+i),fun i _=>n≤i⟩
theorem WD {P:Program} {w:World} {K:PySem.W.Frag} {tg:Expr} (a it:Addr):FX P w K tg (HI K a) [it] it (fun i h=>h.IsListIter it a i) where
 mem:=by simp
 obj:=fun i h st b hb=>by
  have e:b=it:=by simpa using hb
  subst e
  obtain ⟨o,e,c,d⟩:=st
  exact ⟨o,e,fun v z=>by rw [d] at z;cases z⟩
 keep:=fun i h h' st k=>st.at fun o e=>k it (by simp) o e
 item:=by
  intro X hP hw hK hc i pins s σ H E I hf st hg
  subst hP hw hK
  obtain ⟨xs,x,hq,hx⟩:=hg
  obtain ⟨its,rv,p,hz⟩:=I.list hq
  obtain ⟨u,hu,ru⟩:=rv.get hx
  obtain ⟨f0,f1,f2,f3,f4,f5⟩:=hf it (by simp)
  refine wpAny_pyNext_list_item st p.isList (x:=u) (by simpa using hu) fun h' st' sb=>?_
  have I1:Inv X pins σ H {s with heap:=h'}:=I.turned (t':=s.toks) (fun b o hb e=>(sb.2 b hb).trans e) f0 f1 f3 f4 f5
  obtain ⟨o,e,c,d⟩:=id st'
  exact ⟨u,rfl,Mv (s:={s with heap:=h'}) e c d (by decide) ⟨x,H,I1,ru,⟨rfl,fun ys hy=>by rw [I.list_inj hy hq];exact hx⟩,st',fun b hb=>(hf b hb).1⟩⟩
 done:=by
  intro X hP hw hK hc i pins s σ H E I hf st hg
  subst hP hw hK
  obtain ⟨xs,hq,hx⟩:=hg
  obtain ⟨its,rv,p,hz⟩:=I.list hq
  obtain ⟨f0,f1,f2,f3,f4,f5⟩:=hf it (by simp)
  have hl:=rv.length
  exact wpAny_pyNext_list_end (I.ok.hd hc) st p.isList (by simp;omega) fun h' eb=>⟨rfl,I.turned (t':=s.toks) (fun b o hb e=>eb b o hb e) f0 f1 f3 f4 f5⟩
 self:=fun _ _ _ _ _ st h=>wpAny_pyIter_listiter st h
theorem WE {P:Program} {w:World} {K:PySem.W.Frag} {tg:Expr} (a it:Addr):FX P w K tg (HJ K a) [it] it (fun i h=>h.IsTupleIter it a i) where
 mem:=by simp
 obj:=fun i h st b hb=>by
  have e:b=it:=by simpa using hb
  subst e
  obtain ⟨o,e,c,d⟩:=st
  exact ⟨o,e,fun v z=>by rw [d] at z;cases z⟩
 keep:=fun i h h' st k=>st.at fun o e=>k it (by simp) o e
 item:=by
  intro X hP hw hK hc i pins s σ H E I hf st hg
  subst hP hw hK
  obtain ⟨xs,x,hq,hx⟩:=hg
  obtain ⟨its,rv,p,hz⟩:=I.tuple hq
  obtain ⟨u,hu,ru⟩:=rv.get hx
  obtain ⟨f0,f1,f2,f3,f4,f5⟩:=hf it (by simp)
  refine wpAny_pyNext_tuple_item st (show s.heap.IsTuple a its.toArray from p) (x:=u) (by simpa using hu) fun h' st' sb=>?_
  have I1:Inv X pins σ H {s with heap:=h'}:=I.turned (t':=s.toks) (fun b o hb e=>(sb.2 b hb).trans e) f0 f1 f3 f4 f5
  obtain ⟨o,e,c,d⟩:=id st'
  exact ⟨u,rfl,Mv (s:={s with heap:=h'}) e c d (by decide) ⟨x,H,I1,ru,⟨rfl,fun ys hy=>by rw [I.tuple_inj hy hq];exact hx⟩,st',fun b hb=>(hf b hb).1⟩⟩
 done:=by
  intro X hP hw hK hc i pins s σ H E I hf st hg
  subst hP hw hK
  obtain ⟨xs,hq,hx⟩:=hg
  obtain ⟨its,rv,p,hz⟩:=I.tuple hq
  obtain ⟨f0,f1,f2,f3,f4,f5⟩:=hf it (by simp)
  have hl:=rv.length
  exact wpAny_pyNext_tuple_end (I.ok.hd hc) st (show s.heap.IsTuple a its.toArray from p) (by simp;omega) fun h' eb=>⟨rfl,I.turned (t':=s.toks) (fun b o hb e=>eb b o hb e) f0 f1 f3 f4 f5⟩
 self:=fun _ _ _ _ _ st h=>wpAny_pyIter_tupleiter st h
theorem WG {P:Program} {w:World} {K:PySem.W.Frag} {tg:Expr} (it:Addr) (lo:Int) (n:Nat):FX P w K tg (HK lo n) [it] it (fun i h=>IsRangeIter h it (lo+(i:Nat)*1) ((n:Int) - (i:Nat)) 1) where
 mem:=by simp
 obj:=fun i h st b hb=>by
  have e:b=it:=by simpa using hb
  subst e
  exact ⟨_,st,fun v z=>by
   have z':Data.fields _=Data.cell v:=z
   cases z'⟩
 keep:=fun i h h' st k=>k it (by simp) _ st
 item:=by
  intro X hP hw hK hc i pins s σ H E I hf st hg
  subst hP hw hK
  obtain ⟨f0,f1,f2,f3,f4,f5⟩:=hf it (by simp)
  have W:=Walks.range (prog:=X.prog) (w:=X.w) (I.ok.hd hc) it lo 1 n
  refine W.item i s _ _ hg st fun v h' tk hv st' kk=>?_
  obtain ⟨t,rfl⟩:=hv
  have I1:Inv X pins σ H {s with heap:=h',toks:=tk}:=I.turned (fun b o hb e=>kk b o (by simpa using hb) e) f0 f1 f3 f4 f5
  refine ⟨_,rfl,Mv (s:={s with heap:=h',toks:=tk}) (n:="range_iterator") st' rfl rfl (by decide) ⟨.int (lo+i),H,I1,⟨t,?_⟩,⟨rfl,rfl⟩,st',fun b hb=>(hf b hb).1⟩⟩
  rw [Int.mul_one]
 done:=by
  intro X hP hw hK hc i pins s σ H E I hf st hg
  subst hP hw hK
  obtain ⟨f0,f1,f2,f3,f4,f5⟩:=hf it (by simp)
  exact wpAny_pyNext_range_end (I.ok.hd hc) st (by have:n≤i:=hg;omega) fun h' eb=>⟨rfl,I.turned (t':=s.toks) (fun b o hb e=>eb b o hb e) f0 f1 f3 f4 f5⟩
 self:=fun _ _ _ _ _ st h=>wpAny_pyIter_rangeiter st h
section
variable {X:Cx} {tg:Expr}
theorem Pc {pins:List (Addr×Obj)} {σ:St} {H:Hp} {s:Shared} {R:It→Hp→Prop} {E:Value→Shared→Prop} {lo hi:Int} {t u v:Tok} {tk:Nat} (I:Inv X pins σ H s) (h1:-(2^62)≤lo) (h2:lo<2^62) (h3:-(2^62)≤hi) (h4:hi<2^62)
 (q:R (HK lo (hi - lo).toNat) H):wpAny (model X.prog X.w) X.A (pyIter (.ref s.heap.objs.size)) (Mu X pins σ tg R) E {s with heap:=s.heap.push {cls:=.type "range",data:=.fields #[.int lo t,.int hi u,.int 1 v]},toks:=tk}:=by
 refine wpAny_pyIter_range (IsRange.new ..) (small_one h1 h2 h3 h4) ?_
 have I1:Inv X pins σ H {s with heap:=s.heap.push {cls:=.type "range",data:=.fields #[.int lo t,.int hi u,.int 1 v]},toks:=tk}:=I.kept fun b o e=>AB _ e
 refine ⟨(s.heap.push {cls:=.type "range",data:=.fields #[.int lo t,.int hi u,.int 1 v]}).objs.size,[(s.heap.push {cls:=.type "range",data:=.fields #[.int lo t,.int hi u,.int 1 v]}).objs.size],_,_,H,rfl,
  I1.kept (t':=tk) fun b o e=>AB _ e,WG _ lo (hi - lo).toNat,?_,fun b hb=>?_,q⟩
 ·have e1:lo+((0:Nat):Int)*1=lo:=by simp
  have e2:(((hi - lo).toNat:Nat):Int) - ((0:Nat):Int)=Builtin.Range.rangeSize lo hi 1:=by rw [rangeSize_one];split<;>omega
  show IsRangeIter _ _ (lo+((0:Nat):Int)*1) ((((hi - lo).toNat:Nat):Int) - ((0:Nat):Int)) 1
  rw [e1,e2]
  exact Bf _ rfl
 ·have e:b=(s.heap.push {cls:=.type "range",data:=.fields #[.int lo t,.int hi u,.int 1 v]}).objs.size:=by simpa using hb
  subst e
  exact I1.fpOk (AG _) (I1.hok.fresh (AG _))
def WH (ta:TA):TI:=fun σ H R=>ta σ H fun vs H1=>∃j:Int,vs=[.int j]∧-(2^62)≤j∧j<2^62∧R (HK 0 j.toNat) H1
def WI (ta:TA):TI:=fun σ H R=>ta σ H fun vs H1=>∃i j:Int,vs=[.int i,.int j]∧(-(2^62)≤i∧i<2^62∧-(2^62)≤j∧j<2^62)∧R (HK i (j - i).toNat) H1
theorem WJ {a:Expr} {ta:TA} {p pos:Pos} (hg:Gl X "range") (hm:X.mg "range"=none) (ha:PA X [a] ta) (hs:starEach [a] X.env=[(false,eval a X.env)]:=by rfl):PI X tg (.Call (.Name "range" p) [a] [] pos) (WH ta):=by
 intro pins s σ H R I h
 refine Call_ (FW I hg hm boot_range (PyProof.Rows.callWith_type1 (Ap (ha pos pins s σ H _ I h) fun us s1 z37_=>?_) hs rfl))
 obtain ⟨vs,H1,I1,r1,q1⟩:=z37_
 obtain ⟨j,e,q1,q2,q⟩:=q1
 subst e
 cases r1 with
 |cons r rr=>
  cases rr
  obtain ⟨t,rfl⟩:=r
  exact call_range_1 (Pc I1 (by omega) (by omega) q1 q2 (by simpa using q))
theorem WK {a b:Expr} {ta:TA} {p pos:Pos} (hg:Gl X "range") (hm:X.mg "range"=none) (ha:PA X [a,b] ta) (hs:starEach [a,b] X.env=[(false,eval a X.env),(false,eval b X.env)]:=by rfl) (hs2:starEach [b] X.env=[(false,eval b X.env)]:=by rfl):
 PI X tg (.Call (.Name "range" p) [a,b] [] pos) (WI ta):=by
 intro pins s σ H R I h
 refine Call_ (FW I hg hm boot_range (PyProof.Rows.callWith_type1 (Ap (ha pos pins s σ H _ I h) fun us s1 ⟨vs,H1,I1,r1,q1⟩=>?_) (by rw [hs,hs2]) (by rw [hs2];rfl)))
 obtain ⟨i,j,e,⟨q1,q2,q3,q4⟩,q⟩:=q1
 subst e
 cases r1 with
 |cons r rr=>
  cases rr with
  |cons r' rr=>
   cases rr
   obtain ⟨t,rfl⟩:=r
   obtain ⟨t',rfl⟩:=r'
   exact call_range_2 (Pc I1 q1 q2 q3 q4 q)
def WL (wi:TI) (g:TG) (tb:TS):TS:=fun D σ H=>wi σ H fun J H1=>∃W:Nat→Nat→St→Hp→Prop,(∃m,W 0 m σ H1)∧∀i m σ H,W i m σ H→
 (J.stop i H∧D.nx σ H)∨(J.go i H∧∃N:St→Hp→Prop,(∀σ' H',N σ' H'→∃m',m' < m∧W (i+1) m' σ' H')∧∀x H',J.yld i H x H'→g x σ H' fun σ2 H2=>tb {D with nx:=N,ct:=N,bk:=D.nx} σ2 H2)
def HL (fp:List Addr) (h:Heap):List (Addr×Obj):=fp.filterMap fun b=>(h.get? b).map fun o=>(b,o)
theorem JG {fp:List Addr} {h:Heap} {b:Addr} {o:Obj} (hb:b∈fp) (e:h.get? b=some o):(b,o)∈HL fp h:=List.mem_filterMap.mpr ⟨b,hb,by rw [e];rfl⟩
theorem WM {fp:List Addr} {h:Heap} {p:Addr×Obj} (hp:p∈HL fp h):p.1∈fp∧h.get? p.1=some p.2:=by
 obtain ⟨b,hb,e⟩:=List.mem_filterMap.mp hp
 cases q:h.get? b with
 |none=>rw [q] at e;cases e
 |some o=>
  rw [q] at e
  have e':(b,o)=p:=Option.some.inj e
  subst e'
  exact ⟨hb,q⟩
theorem Inv.pinned {pins:List (Addr×Obj)} {σ:St} {H:Hp} {s:Shared} {fp:List Addr} (I:Inv X pins σ H s) (hf:∀b∈fp,Ee X pins H b) (ho:∀b∈fp,∃o,s.heap.get? b=some o∧∀v,o.data≠.cell v):Inv X (pins++HL fp s.heap) σ H s:=
 I.pins_of fun p hp=>(qaZ.mp hp).elim (fun z=>I.pin p (CH _ z)) fun z=>by
  obtain ⟨hb,e⟩:=WM z
  obtain ⟨f0,f1,f2,_⟩:=hf p.1 hb
  obtain ⟨o,e',d⟩:=ho p.1 hb
  rw [e] at e';cases e'
  exact ⟨e,f0,f1,f2,d⟩
theorem Inv.unpinned {pins pl:List (Addr×Obj)} {σ:St} {H:Hp} {s:Shared} (I:Inv X (pins++pl) σ H s):Inv X pins σ H s:=I.pins_of fun p hp=>I.pin p (CH _ (Hz _ hp))
inductive Mw (X:Cx) (pins:List (Addr×Obj)) (tn:Nat→Heap→Prop) (fp:List Addr) (W:Nat→Nat→St→Hp→Prop) (n:Nat) (s':Shared):Prop where
 |mk (i:Nat) (σ':St) (H':Hp) (ii:Inv X pins σ' H' s') (st:tn i s'.heap) (fr:∀b∈fp,H' b=none) (w:W i n σ' H'):Mw X pins tn fp W n s'
theorem WN {iter:Expr} {body:List Stmt} {wi:TI} {g:TG} {tb:TS} {pos:Pos} (hp:PassesOwn (model X.prog X.w) X.A X.env X.xe) (hc:X.calm=true) (hi:PI X tg iter wi) (hg:PG X tg g) (hb:CP X body tb)
 (hs:∀x,foldedSetIterable iter X.env x=pure x:=by intro _;rfl):PS X (.For tg iter body [] pos) (WL wi g tb):=by
 intro pins s σ H D I h
 refine wpAny_For (Ap (hi pins s σ H _ I h) fun v s1 h1=>Ap h1 fun itv s2 h2=>?_) hs
 obtain ⟨it,fp,tn,J,H2,e,I2,T,st2,f2,W,⟨m0,w0⟩,turn⟩:=h2
 subst e
 have stat:∀{H':Hp},(∀b∈fp,H' b=none)→∀b∈fp,Ee X pins H' b:=fun hn b hb=>⟨hn b hb,(f2 b hb).2⟩
 refine codeAny_forLoop_any (Mw X pins tn fp W) ?_ m0 ⟨0,σ,H2,I2,st2,fun b hb=>(f2 b hb).1,w0⟩
 rintro n s3 ⟨i,σ3,H3,I3,st3,fr3,w3⟩
 rcases turn i n σ3 H3 w3 with ⟨stop,qn⟩ |⟨go,N,hN,step⟩
 ·refine wpAny_passesOwn hp (Ap (T.done X rfl rfl rfl hc i pins s3 σ3 H3 X.xe I3 (stat fr3) st3 stop) fun r s4 z39_=>?_)
  obtain ⟨hr,I4⟩:=z39_
  subst hr
  exact wpAny_execs_nil ⟨σ3,H3,I4,qn⟩
 ·refine wpAny_passesOwn hp (Ap (T.item X rfl rfl rfl hc i pins s3 σ3 H3 X.xe I3 (stat fr3) st3 go) fun r s4 z40_=>?_)
  obtain ⟨u,hr,h4⟩:=z40_
  subst hr
  refine wpAny_passesOwn hp (Ap h4 fun _ s5 z41_=>?_)
  obtain ⟨x,H5,I5,r5,y5,st5,fr5⟩:=z41_
  have I5':=I5.pinned (stat fr5) (T.obj _ _ st5)
  refine wpAny_passesOwn hp (Ap (hg _ s5 σ3 H5 x u _ I5' r5 (step x H5 y5)) fun _ s6 z42_=>?_)
  obtain ⟨σ6,H6,I6,q6⟩:=z42_
  refine wpAny_passesOwn hp (Ap (hb _ s6 σ6 H6 _ I6 q6) fun f s7 q7=>?_)
  have again:∀{σ7:St} {H7:Hp},Inv X (pins++HL fp s5.heap) σ7 H7 s7→N σ7 H7→∃m,m<n∧Mw X pins tn fp W m s7:=fun {σ7 H7} I7 n7=>by
   obtain ⟨m',hm,w7⟩:=hN σ7 H7 n7
   refine ⟨m',hm,i+1,σ7,H7,I7.unpinned,T.keep _ _ _ st5 fun b hb o e=>(I7.pin (b,o) (CH _ (CH _ (JG hb e)))).1,fun b hb=>?_,w7⟩
   obtain ⟨o,e,d⟩:=T.obj _ _ st5 b hb
   exact (I7.pin (b,o) (CH _ (CH _ (JG hb e)))).2.1
  cases f with
  |next=>obtain ⟨σ7,H7,I7,n7⟩:=q7;exact again I7 n7
  |cont=>obtain ⟨σ7,H7,I7,n7⟩:=q7;exact again I7 n7
  |brk=>obtain ⟨σ7,H7,I7,q7⟩:=q7;exact ⟨σ7,H7,I7.unpinned,q7⟩
  |ret v=>obtain ⟨x7,σ7,H7,I7,r7,q7⟩:=q7;exact ⟨x7,σ7,H7,I7.unpinned,r7,q7⟩
end
abbrev R2:=V→V→Hp→VK→Prop
def OpR (X:Cx) (f:Value→Value→Sem Value) (r:R2):Prop:=
 ∀(pins:List (Addr×Obj)) (s:Shared) (σ:St) (H:Hp) (x y:V) (v u:Value) (Q:VK),Inv X pins σ H s→RelV x v→RelV y u→r x y H Q→
  wpAny (model X.prog X.w) X.A (f v u) (EP X pins σ Q) X.xe s
def Mx (X:Cx) (f:Value→Sem Value) (r:V→Hp→VK→Prop):Prop:=
 ∀(pins:List (Addr×Obj)) (s:Shared) (σ:St) (H:Hp) (x:V) (v:Value) (Q:VK),Inv X pins σ H s→RelV x v→r x H Q→
  wpAny (model X.prog X.w) X.A (f v) (EP X pins σ Q) X.xe s
def Dg (X:Cx) (f:Value) (r:List V→Hp→VK→Prop):Prop:=
 ∀(pins:List (Addr×Obj)) (s:Shared) (σ:St) (H:Hp) (xs:List V) (us:List Value) (Q:VK),Inv X pins σ H s→Vals xs us→r xs H Q→
  wpAny (model X.prog X.w) X.A (call f us) (EP X pins σ Q) X.xe s
def WO (X:Cx) (r:V→Hp→(Bool→Hp→Prop)→Prop):Prop:=
 ∀(pins:List (Addr×Obj)) (s:Shared) (σ:St) (H:Hp) (x:V) (v:Value) (Q:Bool→Hp→Prop),Inv X pins σ H s→RelV x v→r x H Q→
  wpAny (model X.prog X.w) X.A (truthy v) (TP X pins σ Q) X.xe s
def JH (r:R2) (ta tb:TE):TE:=fun σ H Q=>ta σ H fun x H1=>tb σ H1 fun y H2=>r x y H2 Q
def WQ (r:V→Hp→VK→Prop) (ta:TE):TE:=fun σ H Q=>ta σ H fun x H1=>r x H1 Q
def rI (C:Int→Int→Prop) (g:Int→Int→V):R2:=fun x y H Q=>∃i j,x=.int i∧y=.int j∧C i j∧Q (g i j) H
def EJ (g:Int→Int→V):R2:=fun x y H Q=>∃i j,x=.int i∧y=.int j∧Q (g i j) H
def rU (g:Int→V):V→Hp→VK→Prop:=fun x H Q=>∃i,x=.int i∧Q (g i) H
section
variable {X:Cx} {a b c:Expr} {ta tb tc:TE} {pos:Pos}
theorem My (ha:PE X a ta) (hb:PE X b tb) {pins:List (Addr×Obj)} {s:Shared} {σ:St} {H:Hp} {R:V→V→Hp→Prop} (I:Inv X pins σ H s)
 (h:ta σ H fun x H1=>tb σ H1 fun y H2=>R x y H2) {Q:Value→Shared→Prop} {f:Value→Value→Sem Value}
 (hf:∀v u s2 x y H2,Inv X pins σ H2 s2→RelV x v→RelV y u→R x y H2→wpAny (model X.prog X.w) X.A (f v u) Q X.xe s2):
 wpAny (model X.prog X.w) X.A (eval a X.env) (fun v s₁=>wpAny (model X.prog X.w) X.A (eval b X.env) (fun u s₂=>wpAny (model X.prog X.w) X.A (f v u) Q X.xe s₂) X.xe s₁) X.xe s:=by
 refine Ap (ha pins s σ H _ I h) fun v s1 z44_=>?_
 obtain ⟨x,H1,I1,r1,q1⟩:=z44_
 refine Ap (hb pins s1 σ H1 _ I1 q1) fun u s2 z45_=>?_
 obtain ⟨y,H2,I2,r2,q2⟩:=z45_
 exact hf v u s2 x y H2 I2 r1 r2 q2
theorem WR {op:Operator} {r:R2} (ho:OpR X (binaryOp op) r) (ha:PE X a ta) (hb:PE X b tb):PE X (.BinOp a op b pos) (JH r ta tb):=by
 intro pins s σ H Q I h
 exact wpAny_BinOp (My ha hb I h fun v u s2 x y H2 I2 rx ry q=>ho pins s2 σ H2 x y v u Q I2 rx ry q)
theorem WS {op:UnaryOp} {r:V→Hp→VK→Prop} (ho:Mx X (unaryOp op) r) (ha:PE X a ta):PE X (.UnaryOp op a pos) (WQ r ta):=by
 intro pins s σ H Q I h
 exact UnaryOp_ (Ap (ha pins s σ H _ I h) fun v s1 z46_=>by obtain ⟨x,H1,I1,r1,q1⟩:=z46_;exact (ho pins s1 σ H1 x v Q I1 r1 q1))
theorem HM {f:Value→Value→Sem Value} {C:Int→Int→Prop} {g:Int→Int→Int}
 (rule:∀(i j:Int) (t u:Tok) (s:Shared) (Q:Value→Shared→Prop) (E:Value→Shared→Prop),C i j→Q (.int (g i j) s.toks) {s with toks:=s.toks+1}→wpAny (model X.prog X.w) X.A (f (.int i t) (.int j u)) Q E s):
 OpR X f (rI C fun i j=>.int (g i j)):=by
 intro pins s σ H x y v u Q I rx ry h
 obtain ⟨i,j,rfl,rfl,hc,q⟩:=h
 obtain ⟨t,rfl⟩:=rx
 obtain ⟨t',rfl⟩:=ry
 exact rule i j t t' s _ _ hc ⟨.int (g i j),H,I.tok _,⟨_,rfl⟩,q⟩
theorem Mz {f:Value→Value→Sem Value} {g:Int→Int→Int}
 (rule:∀(i j:Int) (t u:Tok) (s:Shared) (Q:Value→Shared→Prop) (E:Value→Shared→Prop),Q (.int (g i j) s.toks) {s with toks:=s.toks+1}→wpAny (model X.prog X.w) X.A (f (.int i t) (.int j u)) Q E s):
 OpR X f (EJ fun i j=>.int (g i j)):=by
 intro pins s σ H x y v u Q I rx ry h
 obtain ⟨i,j,rfl,rfl,q⟩:=h
 obtain ⟨t,rfl⟩:=rx
 obtain ⟨t',rfl⟩:=ry
 exact rule i j t t' s _ _ ⟨.int (g i j),H,I.tok _,⟨_,rfl⟩,q⟩
theorem MB {f:Value→Value→Sem Value} {g:Int→Int→Bool}
 (rule:∀(i j:Int) (t u:Tok) (s:Shared) (Q:Value→Shared→Prop) (E:Value→Shared→Prop),Q (.bool (g i j)) s→wpAny (model X.prog X.w) X.A (f (.int i t) (.int j u)) Q E s):
 OpR X f (EJ fun i j=>.bl (g i j)):=by
 intro pins s σ H x y v u Q I rx ry h
 obtain ⟨i,j,rfl,rfl,q⟩:=h
 obtain ⟨t,rfl⟩:=rx
 obtain ⟨t',rfl⟩:=ry
 exact rule i j t t' s _ _ ⟨.bl (g i j),H,I,rfl,q⟩
def Pd (i j:Int):Prop:=0<j∧j<1073741824
def FY (i j:Int):Prop:=0≤j∧j≤1000000∧i.natAbs<2^64
def CMul (i j:Int):Prop:=(-(2^64)<i∧i<2^64)∨(-(2^64)<j∧j<2^64)
theorem CMul.ok {i j:Int} (h:CMul i j):IntMulOk i j:=by
 rcases h with ⟨h1,h2⟩ |⟨h1,h2⟩
 ·exact .of_left (intBits_le_64 h1 h2)
 ·exact .of_right (intBits_le_64 h1 h2)
theorem op_add:OpR X (binaryOp .Add) (EJ fun i j=>.int (i+j)):=Mz fun _ _ _ _ _ _ _ q=>add_int q
theorem WT:OpR X (binaryOp .Sub) (EJ fun i j=>.int (i - j)):=Mz fun _ _ _ _ _ _ _ q=>sub_int q
theorem WU:OpR X (binaryOp .Mod) (rI (fun _ j=>0<j) fun i j=>.int (i % j)):=HM fun i j _ _ _ _ _ hc q=>by
 have h1:(0:Int)<j:=hc
 exact mod_int' (by omega) (by rw [Int.fmod_eq_emod_of_nonneg i (by omega)];exact q)
theorem WV:OpR X (binaryOp .Pow) (rI FY fun i j=>.int (i^j.toNat)):=HM fun _ _ _ _ _ _ _ hc q=>pow_int_small hc.1 hc.2.1 hc.2.2 q
theorem WW:OpR X (binaryOp .LShift) (rI FY fun i j=>.int (i*2^j.toNat)):=HM fun _ _ _ _ _ _ _ hc q=>lshift_int_small hc.1 hc.2.1 hc.2.2 q
theorem WX:OpR X (binaryOp .BitXor) (EJ fun i j=>.int (Builtin.bitXor i j)):=Mz fun _ _ _ _ _ _ _ q=>xor_int q
theorem WY {f:Value→Sem Value} {g:Int→Int}
 (rule:∀(i:Int) (t:Tok) (s:Shared) (Q:Value→Shared→Prop) (E:Value→Shared→Prop),Q (.int (g i) s.toks) {s with toks:=s.toks+1}→wpAny (model X.prog X.w) X.A (f (.int i t)) Q E s):
 Mx X f (rU fun i=>.int (g i)):=by
 intro pins s σ H x v Q I rx h
 obtain ⟨i,rfl,q⟩:=h
 obtain ⟨t,rfl⟩:=rx
 exact rule i t s _ _ ⟨.int (g i),H,I.tok _,⟨_,rfl⟩,q⟩
theorem WZ:Mx X (unaryOp .USub) (rU fun i=>.int (-i)):=WY fun _ _ _ _ _ q=>neg_int q
end
def Pe:V→V→Bool
 |.non,.non=>true |.non,.int _=>true |.int _,.non=>true |.non,.bl _=>true |.bl _,.non=>true |.non,.str _=>true |.str _,.non=>true
 |.int _,.int _=>true |.bl _,.bl _=>true |.str _,.str _=>true |.byt _,.byt _=>true
 |.int _,.str _=>true |.str _,.int _=>true |.bl _,.str _=>true |.str _,.bl _=>true
 |_,_=>false
def W0:R2:=fun x y H Q=>Pe x y=true∧Q (.bl (decide (x=y))) H
def W1:R2:=fun x y H Q=>Pe x y=true∧Q (.bl (!decide (x=y))) H
theorem Pf {i j:Int}:decide (V.int i=V.int j)=(i==j):=by
 rw [qbD]
 simp
theorem Pg {i j:Bool}:decide (V.bl i=V.bl j)=(i==j):=by
 rw [qbD]
 simp
theorem JI {i j:Str}:decide (V.str i=V.str j)=(i==j):=by
 rw [qbD]
 simp
theorem Ph {i j:Array UInt8}:decide (V.byt i=V.byt j)=(i.toList==j.toList):=by
 rw [qbD]
 cases i
 cases j
 simp
section
variable {X:Cx} {a b c:Expr} {ta tb tc:TE} {pos:Pos}
theorem Bb {pins:List (Addr×Obj)} {σ:St} {H:Hp} {s:Shared} {Q:VK} {k k':Bool} (I:Inv X pins σ H s) (q:Q (.bl k) H) (e:k=k'):EP X pins σ Q (.bool k') s:=by
 subst e
 exact ⟨.bl k,H,I,rfl,q⟩
theorem op_eq:OpR X (compareOp .Eq) W0:=by
 intro pins s σ H x y v u Q I rx ry h
 obtain ⟨hs,q⟩:=h
 cases x with
 |non=>
  cases rx
  cases y with
  |non=>cases ry;exact PySem.EqNone.eq_none_none (Bb I q (by simp))
  |bl j=>cases ry;exact PySem.EqNone.eq_none_bool (Bb I q (by simp))
  |int j=>obtain ⟨t',rfl⟩:=ry;exact PySem.EqNone.eq_none_int (Bb I q (by simp))
  |str j=>obtain ⟨t',rfl⟩:=ry;exact PySem.EqNone.eq_none_str (Bb I q (by simp))
  |_=>exact absurd (show false=true from hs) Bl
 |bl i=>
  cases rx
  cases y with
  |non=>cases ry;exact PySem.EqNone.eq_bool_none (Bb I q (by simp))
  |bl j=>cases ry;exact eq_bool (Bb I q Pg)
  |str j=>obtain ⟨t',rfl⟩:=ry;exact PySem.EqMixed.eq_bool_str (Bb I q (by simp))
  |_=>exact absurd (show false=true from hs) Bl
 |int i=>
  obtain ⟨t,rfl⟩:=rx
  cases y with
  |non=>cases ry;exact PySem.EqNone.eq_int_none (Bb I q (by simp))
  |int j=>obtain ⟨t',rfl⟩:=ry;exact eq_int (Bb I q Pf)
  |str j=>obtain ⟨t',rfl⟩:=ry;exact PySem.EqMixed.eq_int_str (Bb I q (by simp))
  |_=>exact absurd (show false=true from hs) Bl
 |str i=>
  obtain ⟨t,rfl⟩:=rx
  cases y with
  |non=>cases ry;exact PySem.EqNone.eq_str_none (Bb I q (by simp))
  |bl j=>cases ry;exact PySem.EqMixed.eq_str_bool (Bb I q (by simp))
  |int j=>obtain ⟨t',rfl⟩:=ry;exact PySem.EqMixed.eq_str_int (Bb I q (by simp))
  |str j=>obtain ⟨t',rfl⟩:=ry;exact eq_str (Bb I q JI)
  |_=>exact absurd (show false=true from hs) Bl
 |byt i=>
  obtain ⟨t,rfl⟩:=rx
  cases y with
  |byt j=>obtain ⟨t',rfl⟩:=ry;exact PySem.W.eq_bytes (Bb I q Ph)
  |_=>exact absurd (show false=true from hs) Bl
 |_=>cases y<;>exact absurd (show false=true from hs) Bl
theorem op_ne:OpR X (compareOp .NotEq) W1:=by
 intro pins s σ H x y v u Q I rx ry h
 obtain ⟨hs,q⟩:=h
 cases x with
 |non=>
  cases rx
  cases y with
  |non=>cases ry;exact PySem.EqNone.ne_none_none (Bb I q (by simp))
  |bl j=>cases ry;exact PySem.EqNone.ne_none_bool (Bb I q (by simp))
  |int j=>obtain ⟨t',rfl⟩:=ry;exact PySem.EqNone.ne_none_int (Bb I q (by simp))
  |str j=>obtain ⟨t',rfl⟩:=ry;exact PySem.EqNone.ne_none_str (Bb I q (by simp))
  |_=>exact absurd (show false=true from hs) Bl
 |bl i=>
  cases rx
  cases y with
  |non=>cases ry;exact PySem.EqNone.ne_bool_none (Bb I q (by simp))
  |bl j=>cases ry;exact ne_bool (Bb I q (congrArg not Pg))
  |str j=>obtain ⟨t',rfl⟩:=ry;exact PySem.EqMixed.ne_bool_str (Bb I q (by simp))
  |_=>exact absurd (show false=true from hs) Bl
 |int i=>
  obtain ⟨t,rfl⟩:=rx
  cases y with
  |non=>cases ry;exact PySem.EqNone.ne_int_none (Bb I q (by simp))
  |int j=>obtain ⟨t',rfl⟩:=ry;exact ne_int (Bb I q (congrArg not Pf))
  |str j=>obtain ⟨t',rfl⟩:=ry;exact PySem.EqMixed.ne_int_str (Bb I q (by simp))
  |_=>exact absurd (show false=true from hs) Bl
 |str i=>
  obtain ⟨t,rfl⟩:=rx
  cases y with
  |non=>cases ry;exact PySem.EqNone.ne_str_none (Bb I q (by simp))
  |bl j=>cases ry;exact PySem.EqMixed.ne_str_bool (Bb I q (by simp))
  |int j=>obtain ⟨t',rfl⟩:=ry;exact PySem.EqMixed.ne_str_int (Bb I q (by simp))
  |str j=>obtain ⟨t',rfl⟩:=ry;exact ne_str (Bb I q (congrArg not JI))
  |_=>exact absurd (show false=true from hs) Bl
 |byt i=>
  obtain ⟨t,rfl⟩:=rx
  cases y with
  |byt j=>obtain ⟨t',rfl⟩:=ry;exact PySem.W.ne_bytes (Bb I q (congrArg not Ph))
  |_=>exact absurd (show false=true from hs) Bl
 |_=>cases y<;>exact absurd (show false=true from hs) Bl
theorem W2:OpR X (compareOp .Lt) (EJ fun i j=>.bl (decide (i<j))):=MB fun _ _ _ _ _ _ _ q=>lt_int q
theorem W3:OpR X (compareOp .LtE) (EJ fun i j=>.bl (decide (i≤j))):=MB fun _ _ _ _ _ _ _ q=>le_int q
theorem W4:OpR X (compareOp .Gt) (EJ fun i j=>.bl (decide (j<i))):=MB fun _ _ _ _ _ _ _ q=>gt_int q
theorem W5:OpR X (compareOp .Is) (fun x y H Q=>y=.non∧Q (.bl (decide (x=.non))) H):=by
 intro pins s σ H x y v u Q I rx ry h
 obtain ⟨rfl,q⟩:=h
 cases ry
 refine is_none_gen (Bb I q ?_)
 cases x<;>first
  |(cases rx;rfl)
  |(obtain ⟨t,rfl⟩:=rx;rfl)
theorem W6:OpR X (compareOp .IsNot) (fun x y H Q=>y=.non∧Q (.bl (!decide (x=.non))) H):=by
 intro pins s σ H x y v u Q I rx ry h
 obtain ⟨rfl,q⟩:=h
 cases ry
 refine isnot_none_gen (Bb I q ?_)
 cases x<;>first
  |(cases rx;rfl)
  |(obtain ⟨t,rfl⟩:=rx;rfl)
theorem OpR.or {f:Value→Value→Sem Value} {r r':R2} (h:OpR X f r) (h':OpR X f r'):OpR X f (fun x y H Q=>r x y H Q∨r' x y H Q):=by
 intro pins s σ H x y v u Q I rx ry q
 rcases q with q |q
 ·exact h pins s σ H x y v u Q I rx ry q
 ·exact h' pins s σ H x y v u Q I rx ry q
theorem Fd (b:Expr) {op:CmpOp} (h:op≠.In:=by decide) (h2:op≠.NotIn:=by decide):behindInMarks op b=false:=by
 have e1:(op==CmpOp.In)=false:=by cases op<;>first |rfl |exact absurd rfl h
 have e2:(op==CmpOp.NotIn)=false:=by cases op<;>first |rfl |exact absurd rfl h2
 cases b with
 |Set elts k p=>
  show (k==0&&(op==.In||op==.NotIn)&&elts.all (constantsAlone 8))=false
  rw [e1,e2,Bool.or_self,Bool.and_false,Bool.false_and]
 |_=>rfl
theorem W7 {op:CmpOp} {r:R2} (ho:OpR X (compareOp op) r) (ha:PE X a ta) (hb:PE X b tb) (hm:behindInMarks op b=false):PE X (.Compare a [op] [b] pos) (JH r ta tb):=by
 intro pins s σ H Q I h
 exact wpAny_Compare1 (My ha hb I h fun v u s2 x y H2 I2 rx ry q=>ho pins s2 σ H2 x y v u Q I2 rx ry q) hm
def Pi (t:TE):TT:=fun σ H Q=>t σ H fun x H'=>∃k,x=.bl k∧Q k H'
theorem W8 {op:CmpOp} {r:R2} (ho:OpR X (compareOp op) r) (ha:PE X a ta) (hb:PE X b tb) (hm:behindInMarks op b=false):PT X (.Compare a [op] [b] pos) (Pi (JH r ta tb)):=by
 intro pins s σ H Q I h
 refine wpAny_isTrue_Compare1 (Ap (ha pins s σ H _ I h) fun v s1 ⟨x,H1,I1,r1,q1⟩=>Ap (hb pins s1 σ H1 _ I1 q1) ?_) hm
 rintro u s2 ⟨y,H2,I2,r2,q2⟩
 refine Ap (ho pins s2 σ H2 x y v u _ I2 r1 r2 q2) fun c s3 z49_=>?_
 obtain ⟨z,H3,I3,r3,k,e,q3⟩:=z49_
 subst e
 cases r3
 exact wpAny_truthy_bool ⟨H3,I3,q3⟩
def MC (r r':R2) (ta tb tc:TE):TE:=fun σ H Q=>ta σ H fun x H1=>tb σ H1 fun y H2=>r x y H2 fun z H3=>∃k,z=.bl k∧
 (if k=true then tc σ H3 fun w' H4=>r' y w' H4 Q else Q (.bl false) H3)
theorem W9 {op op':CmpOp} {r r':R2} (ho:OpR X (compareOp op) r) (ho':OpR X (compareOp op') r') (ha:PE X a ta) (hb:PE X b tb) (hc:PE X c tc)
 (hm:lastMarks [op,op'] [b,c]=false:=by with_unfolding_all rfl):PE X (.Compare a [op,op'] [b,c] pos) (MC r r' ta tb tc):=by
 intro pins s σ H Q I h
 refine Compare_chain (Ap (ha pins s σ H _ I h) fun v s1 ⟨x,H1,I1,r1,q1⟩=>chain_link (Ap (hb pins s1 σ H1 _ I1 q1) ?_)) hm
 rintro u s2 ⟨y,H2,I2,r2,q2⟩
 refine Ap (ho pins s2 σ H2 x y v u _ I2 r1 r2 q2) fun d s3 z52_=>?_
 obtain ⟨z,H3,I3,r3,k,e,q3⟩:=z52_
 subst e
 cases r3
 refine wpAny_truthy_bool ?_
 cases k with
 |false=>exact ite_ff ⟨.bl false,H3,I3,rfl,q3⟩
 |true=>exact ite_tt (chain_last (Ap (hc pins s3 σ H3 _ I3 q3) fun w' s4 z53_=>by obtain ⟨z',H4,I4,r4,q4⟩:=z53_;exact (ho' pins s4 σ H4 y z' u w' Q I4 r2 r4 q4)))
theorem Xa {op op':CmpOp} {r r':R2} (ho:OpR X (compareOp op) r) (ho':OpR X (compareOp op') r') (ha:PE X a ta) (hb:PE X b tb) (hc:PE X c tc)
 (hm:lastMarks [op,op'] [b,c]=false:=by with_unfolding_all rfl):PT X (.Compare a [op,op'] [b,c] pos) (Pi (MC r r' ta tb tc)):=by
 intro pins s σ H Q I h
 refine isTrue_chain (Ap (ha pins s σ H _ I h) fun v s1 ⟨x,H1,I1,r1,q1⟩=>test_link (Ap (hb pins s1 σ H1 _ I1 q1) ?_)) hm
 rintro u s2 ⟨y,H2,I2,r2,q2⟩
 refine Ap (ho pins s2 σ H2 x y v u _ I2 r1 r2 q2) fun d s3 z56_=>?_
 obtain ⟨z,H3,I3,r3,k,e,q3⟩:=z56_
 subst e
 cases r3
 refine wpAny_truthy_bool ?_
 cases k with
 |false=>
  obtain ⟨k',e',q'⟩:=q3
  cases e'
  exact ite_ff ⟨H3,I3,q'⟩
 |true=>
  refine ite_tt (test_last (Ap (hc pins s3 σ H3 _ I3 q3) ?_))
  rintro w' s4 ⟨z',H4,I4,r4,q4⟩
  refine Ap (ho' pins s4 σ H4 y z' u w' _ I4 r2 r4 q4) fun d' s5 z58_=>?_
  obtain ⟨z2,H5,I5,r5,k2,e2,q5⟩:=z58_
  subst e2
  cases r5
  exact wpAny_truthy_bool ⟨H5,I5,q5⟩
def MD (K:PySem.W.Frag) (x:V) (H:Hp) (k:Bool):Prop:=
 match x with
 |.non=>k=false
 |.bl b=>k=b
 |.int i=>k=(i != 0)
 |.str y=>y.length≤sizeLine∧k=((y.length:Int) != 0)
 |.byt y=>y.size≤sizeLine∧k=((y.size:Int) != 0)
 |.ref p=>(∃xs,SqL K H p xs∧k=!xs.isEmpty)∨(∃xs,SqT K H p xs∧k=!xs.isEmpty)
 |_=>False
theorem Pj {xs:List V} {its:List Value} (r:Vals xs its):(!its.toArray.isEmpty)=!xs.isEmpty:=by
 cases r<;>simp
theorem GG:(sizeLine:Nat)<2^63:=by rw [sizeLine_eq];decide
theorem Xb:WO X (fun x H Q=>∃k,MD X.K x H k∧Q k H):=by
 intro pins s σ H x v Q I rx h
 obtain ⟨k,e,q⟩:=h
 have hl:=GG
 have hs:sizeLine=16777216:=sizeLine_eq
 cases x with
 |non=>
  cases rx
  have e':k=false:=e
  subst e'
  exact truthy_none ⟨H,I,q⟩
 |bl b=>
  cases rx
  have e':k=b:=e
  subst e'
  exact wpAny_truthy_bool ⟨H,I,q⟩
 |int i=>
  obtain ⟨t,rfl⟩:=rx
  have e':k=(i != 0):=e
  subst e'
  exact PySem.P.truthy_int ⟨H,I,q⟩
 |str y=>
  obtain ⟨t,rfl⟩:=rx
  obtain ⟨hy,e'⟩:y.length≤sizeLine∧k=((y.length:Int) != 0):=e
  subst e'
  exact PySem.P.truthy_str (by omega) ⟨H,I.tok _,q⟩
 |byt y=>
  obtain ⟨t,rfl⟩:=rx
  obtain ⟨hy,e'⟩:y.size≤sizeLine∧k=((y.size:Int) != 0):=e
  subst e'
  exact PySem.W.truthy_bytes (by omega) ⟨H,I.tok _,q⟩
 |ref p=>
  cases rx
  have e':(∃xs,SqL X.K H p xs∧k=!xs.isEmpty)∨(∃xs,SqT X.K H p xs∧k=!xs.isEmpty):=e
  rcases e' with ⟨xs,hx,e'⟩ |⟨xs,hx,e'⟩
  ·subst e'
   obtain ⟨its,r,pl,hz⟩:=I.list hx
   have hlen:=r.length
   exact wpAny_truthy_list pl.isList (by simp only [AW];omega) ⟨H,I.tok _,by rw [Pj r];exact q⟩
  ·subst e'
   obtain ⟨its,r,pl,hz⟩:=I.tuple hx
   have hlen:=r.length
   exact truthy_tuple pl (by simp only [AW];omega) ⟨H,I.tok _,by rw [Pj r];exact q⟩
 |_=>exact (show False from e).elim
theorem Xd (ha:PE X a ta) (he:∀Es,isTrue a X.env Es=(do let v ←Es;standAt a.pos;holding [v] (truthy v))):
 PT X a (fun σ H Q=>ta σ H fun x H'=>∃k,MD X.K x H' k∧Q k H'):=by
 intro pins s σ H Q I h
 exact isTrue_plain (Ap (ha pins s σ H _ I h) fun v s1 z59_=>by obtain ⟨x,H1,I1,r1,q1⟩:=z59_;exact (Xb pins s1 σ H1 x v Q I1 r1 q1)) (he _)
theorem Xe:OpR X (binaryOp .Add) (fun x y H Q=>∃i j,x=.str i∧y=.str j∧i.length+j.length≤sizeLine∧Q (.str (i++j)) H):=by
 intro pins s σ H x y v u Q I rx ry h
 obtain ⟨i,j,rfl,rfl,hz,q⟩:=h
 obtain ⟨t,rfl⟩:=rx
 obtain ⟨t',rfl⟩:=ry
 exact add_str (fun t' tk=>⟨.str (i++j),H,I.tok _,⟨_,rfl⟩,q⟩) hz
theorem Ef {x:V} {us:List Value} (r:Vals [x] us):∃u,us=[u]∧RelV x u:=by
 cases r with
 |cons r1 r2=>cases r2;exact ⟨_,rfl,r1⟩
theorem JJ {x y:V} {us:List Value} (r:Vals [x,y] us):∃u w',us=[u,w']∧RelV x u∧RelV y w':=by
 cases r with
 |cons r1 r2=>
  cases r2 with
  |cons r3 r4=>cases r4;exact ⟨_,_,rfl,r1,r3⟩
theorem Xf (hc:X.calm=true):Dg X (.builtin "max") (fun xs H Q=>∃i j,xs=[.int i,.int j]∧Q (.int (if j>i then j else i)) H):=by
 intro pins s σ H xs us Q I r h
 obtain ⟨i,j,rfl,q⟩:=h
 obtain ⟨u,w',rfl,⟨t,rfl⟩,⟨t',rfl⟩⟩:=JJ r
 refine max_two_ints (I.ok.hd hc) fun h' tk k=>⟨_,H,I.kept k,?_,q⟩
 by_cases hj:j>i
 ·rw [if_pos hj,if_pos hj];exact ⟨_,rfl⟩
 ·rw [if_neg hj,if_neg hj];exact ⟨_,rfl⟩
theorem Xg (hc:X.calm=true):Dg X (.builtin "min") (fun xs H Q=>∃i j,xs=[.int i,.int j]∧Q (.int (if j<i then j else i)) H):=by
 intro pins s σ H xs us Q I r h
 obtain ⟨i,j,rfl,q⟩:=h
 obtain ⟨u,w',rfl,⟨t,rfl⟩,⟨t',rfl⟩⟩:=JJ r
 refine min_two_ints (I.ok.hd hc) fun h' tk k=>⟨_,H,I.kept k,?_,q⟩
 by_cases hj:j<i
 ·rw [if_pos hj,if_pos hj];exact ⟨_,rfl⟩
 ·rw [if_neg hj,if_neg hj];exact ⟨_,rfl⟩
theorem Xh:Dg X (.type "int") (fun xs H Q=>(∃i,xs=[.int i]∧Q (.int i) H)∨∃k,xs=[.bl k]∧Q (.int (if k then 1 else 0)) H):=by
 intro pins s σ H xs us Q I r h
 rcases h with ⟨i,rfl,q⟩ |⟨k,rfl,q⟩
 ·obtain ⟨u,rfl,t,rfl⟩:=Ef r
  exact call_int_int ⟨.int i,H,I,⟨_,rfl⟩,q⟩
 ·obtain ⟨u,rfl,r1⟩:=Ef r
  cases r1
  exact call_int_bool ⟨.int (if k then 1 else 0),H,I.tok _,⟨_,rfl⟩,q⟩
end
structure ObjM (h:Heap) (x dx C:Addr) (mA:Str→Option Value):Prop where
 obj:h.get? x=some (PySem.W.instObj C dx)
 ns:h.Ns1 dx mA
 ne:dx≠x
theorem Xi {h:Heap} {dx:Addr} {mA:Str→Option Value} (n:h.Ns1 dx mA):∃od,h.get? dx=some od∧∀name,PySem.W.lookIn name od=some (mA name):=by
 obtain ⟨o,es,ep,ho,hd,hk,_,hm⟩:=n
 refine ⟨o,ho,fun name=>?_⟩
 have e:=hm name
 unfold nsFind findBy at e
 rw [←Array.find?_toList] at e
 unfold PySem.W.lookIn
 rw [hd]
 dsimp only
 split
 ·rename_i y q
  rw [q] at e
  exact congrArg some e
 ·rename_i q
  rw [q] at e
  have a:es.toList.any (·.refKey)=false:=by
   rw [List.any_eq_false]
   intro y hy
   obtain ⟨z,t,hkey⟩:=hk y (Array.mem_toList_iff.mp hy)
   simp [DictEntry.refKey,hkey]
  have a':¬es.toList.any (·.refKey)=true:=by rw [a];exact Bl
  rw [if_neg a']
  exact congrArg some e
theorem ObjM.look {h:Heap} {x dx C:Addr} {mA:Str→Option Value} (I:ObjM h x dx C mA):∃od,PySem.W.InstAt h x (PySem.W.instObj C dx) C (some od)∧∀name,PySem.W.lookIn name od=some (mA name):=
 let ⟨od,ho,hl⟩:=Xi I.ns
 ⟨od,⟨I.obj,rfl,rfl,ho⟩,hl⟩
section
variable {prog:Program} {w:World} {A:Around} {E:Value→Shared→Prop} {s:Shared} {K:PySem.W.Frag} {x dx C f:Addr} {mA:Str→Option Value} {name:Str} {v:Value}
theorem Xj {expr:Bool} {Q:Value→Shared→Prop} (X:K.In s.heap) (I:ObjM s.heap x dx C mA) (hg:PySem.W.plainGet K C name=true) (hh:PySem.W.hasDictIn K C=true)
 (ha:PySem.W.findIn K (.ref C) name=some none) (hv:mA name=some v) (hv':PySem.W.handedIn v=true) (h:Q v {s with toks:=s.toks+1}):
 wpAny (model prog w) A (getAttr (.ref x) name expr) Q E s:=by
 obtain ⟨od,J,hl⟩:=I.look
 exact PySem.W.get_value X J (PySem.W.plainGet_of hg).1 (PySem.W.findObj_own hh ha rfl (by rw [hl,hv])) hv' h
theorem Xk {pl:Sem Bool} {Q:Value×List Value→Shared→Prop} (X:K.In s.heap) (I:ObjM s.heap x dx C mA) (hg:PySem.W.plainGet K C name=true)
 (hf:PySem.W.findIn K (.ref C) name=some (some (.ref f))) (ht:PySem.W.isFn K (.ref f)=true) (hv:mA name=none) (h:Q (.ref f,[.ref x]) s):
 wpAny (model prog w) A (getMethod (.ref x) name pl) Q E s:=by
 obtain ⟨od,J,hl⟩:=I.look
 exact PySem.W.method_fn X J (PySem.W.plainGet_of hg).1 (PySem.W.plainGet_of hg).2 hf (beq_iff_eq.mp ht) (by show (PySem.W.lookIn name od).map (·.isSome)=some false;rw [hl,hv];rfl) h
theorem Xl {ns:List Str} {Q:Unit→Shared→Prop} (X:K.In s.heap) (I:ObjM s.heap x dx C mA)
 (hs:PySem.W.findIn K (.ref C) "__setattr__"=some (some (.builtin "object.__setattr__"))) (hp:PySem.W.plainOver K C=true) (ht:PySem.W.takerIn K C name=some none) (hh:PySem.W.hasDictIn K C=true)
 (hw:PySem.Within mA ns) (hsz:ns.length≤sizeLine)
 (h:∀h',ObjM h' x dx C (fun y=>if y=name then some v else mA y)→Heap.SameBut dx s.heap h'→Q () {s with heap:=h',toks:=s.toks+2}):
 wpAny (model prog w) A (setAttr (.ref x) name v) Q E s:=by
 obtain ⟨od,J,hl⟩:=I.look
 refine PySem.W.set_plain X J hs (PySem.W.osa_open (s:={s with toks:=s.toks+1}) (r:=none) X J hp ht fun b=>?_)
 obtain ⟨cd,hc,hd'⟩:=PySem.W.any_some hh
 have hx:s.heap.get? x=some ⟨.ref C,some dx,.plain,#[]⟩:=I.obj
 refine wpAny_bind (wpAny_pure (wpAny_bind (wpAny_bind (wpAny_loadPart hx (wpAny_bind (PySem.W.Looks.here (s:={s with toks:=s.toks+1}) (PySem.W.looks_clsIn X hc) ?_))))))
 rw [hd']
 refine wpAny_pure (a:=some dx) (wpAny_bind (wpAny_pure (wpAny_bind ?_)))
 refine wpAny_nsSet1 (s:={s with toks:=s.toks+1}) I.ns fun h' hn2 hs2=>?_
 obtain ⟨oD,esD,epD,hoD,hdD,hcD⟩:=hn2.count (PySem.Within.cons name v hw)
 refine wpAny_bind (wpAny_lookBehind hoD (by rw [hdD];exact pastItsLine_dict (BW hcD (by rw [D7];omega))) ?_)
 exact wpAny_pure (h _ ⟨(hs2.2 _ (Ne.symm I.ne)).trans I.obj,hn2,I.ne⟩ hs2)
theorem Xm {R:Result→Shared→Prop} {vs:List Value} {kw:List (Str×Value)} (X:K.In s.heap) (hm:PySem.W.makesIn K C=true)
 (hi:PySem.W.findIn K (.ref C) "__init__"=some (some (.ref f))) (hf:PySem.W.typeIn K (.ref f)=some (.type "function"))
 (h:codeAny (model prog w) (A.under (.builtin "type.__call__" ⟨.ref C::vs,kw⟩)) (.call (.ref f) ⟨.ref (s.heap.objs.size+1)::vs,kw⟩) (PySem.W.InitBack (s.heap.objs.size+1) R)
  {s with heap:=(s.heap.push PySem.W.emptyDict).push (PySem.W.instObj C s.heap.objs.size)}):
 codeAny (model prog w) A (.call (.ref C) ⟨vs,kw⟩) R s:=by
 obtain ⟨hh,g,d,t,os⟩:=s
 exact PySem.W.make_core (PySem.W.makes_of X hm) (PySem.W.looks_findIn X hi) (fun self=>PySem.W.bind_fn X self hf) (.inl rfl) h
end
def B6 (f:Str) (v:V):List (Str×V)→List (Str×V)
 |[]=>[(f,v)]
 |(g,x)::r=>if g=f then (g,v)::r else (g,x)::B6 f v r
theorem Pk (f g:Str) (v:V):∀fs:List (Str×V),(B6 f v fs).lookup g=if g=f then some v else fs.lookup g
 |[]=>by
  show List.lookup g [(f,v)]=_
  by_cases h:g=f
  ·have hb:(g==f)=true:=beq_iff_eq.mpr h
   simp only [List.lookup,hb,if_pos h]
  ·have hb:(g==f)=false:=beq_eq_false_iff_ne.mpr h
   simp only [List.lookup,hb,if_neg h]
 |(k,x)::r=>by
  have ih:=Pk f g v r
  rw [show B6 f v ((k,x)::r)=(if k=f then (k,v)::r else (k,x)::B6 f v r) from rfl]
  by_cases hk:k=f
  ·rw [if_pos hk]
   by_cases h:g=k
   ·have hb:(g==k)=true:=beq_iff_eq.mpr h
    simp only [List.lookup,hb,if_pos (h.trans hk)]
   ·have hb:(g==k)=false:=beq_eq_false_iff_ne.mpr h
    simp only [List.lookup,hb,if_neg (fun e:g=f=>h (e.trans hk.symm))]
  ·rw [if_neg hk]
   by_cases h:g=k
   ·have hb:(g==k)=true:=beq_iff_eq.mpr h
    simp only [List.lookup,hb,if_neg (fun e:g=f=>hk (h.symm.trans e))]
   ·have hb:(g==k)=false:=beq_eq_false_iff_ne.mpr h
    simp only [List.lookup,hb]
    exact ih
theorem MF (f:Str) (v:V):∀fs:List (Str×V),f∈(B6 f v fs).map (·.1)∧∀g,g∈fs.map (·.1)→g∈(B6 f v fs).map (·.1)
 |[]=>⟨by simp [B6],fun g h=>by simp at h⟩
 |(k,x)::r=>by
  obtain ⟨i1,i2⟩:=MF f v r
  rw [show B6 f v ((k,x)::r)=(if k=f then (k,v)::r else (k,x)::B6 f v r) from rfl]
  by_cases hk:k=f
  ·rw [if_pos hk]
   subst hk
   exact ⟨by simp,fun g h=>by simpa using h⟩
  ·rw [if_neg hk]
   refine ⟨?_,fun g h=>?_⟩
   ·rw [BD]
    exact A5 _ i1
   ·rw [BD] at h ⊢
    rcases qa4.mp h with e |e
    ·exact qa4.mpr (.inl e)
    ·exact A5 _ (i2 g e)
theorem Pl (f:Str) (v:V):∀fs:List (Str×V),(B6 f v fs).length≤fs.length+1
 |[]=>by simp [B6]
 |(k,x)::r=>by
  have ih:=Pl f v r
  rw [show B6 f v ((k,x)::r)=(if k=f then (k,v)::r else (k,x)::B6 f v r) from rfl]
  by_cases hk:k=f
  ·rw [if_pos hk,D7,D7];omega
  ·rw [if_neg hk,D7,D7];omega
theorem RelO.some_of {v:V} {o:Option Value} (r:RelO (some v) o):∃u,o=some u∧RelV v u:=by
 cases o with
 |none=>exact (show False from r).elim
 |some u=>exact ⟨u,rfl,r⟩
theorem RelO.none_of {o:Option Value} (r:RelO none o):o=none:=by
 cases o with
 |none=>rfl
 |some u=>exact (show False from r).elim
theorem Xn {v:V} {u:Value} (r:RelV v u):PySem.W.handedIn u=true:=by
 cases v with
 |non=>cases (show u=Value.none from r);rfl
 |bl b=>cases (show u=Value.bool b from r);rfl
 |int i=>obtain ⟨t,e⟩:=(show ∃t,u=Value.int i t from r);cases e;rfl
 |str x=>obtain ⟨t,e⟩:=(show ∃t,u=Value.str x t from r);cases e;rfl
 |byt b=>obtain ⟨t,e⟩:=(show ∃t,u=Value.bytes b t from r);cases e;rfl
 |flt b=>obtain ⟨t,e⟩:=(show ∃t,u=Value.float b t from r);cases e;rfl
 |ref a=>cases (show u=Value.ref a from r);rfl
 |ty n=>cases (show u=Value.type n from r);rfl
section
variable {P:Program} {w:World} {H H':Hp} {h h':Heap} {a C dx:Addr} {fs fs':List (Str×V)}
theorem MH (hok:HOk P w H h) (e:H a=some (.ins C dx fs)):∃mA,ObjM h a dx C mA∧(∀f,RelO (fs.lookup f) (mA f))∧PySem.Within mA (fs.map (·.1))∧fs.length≤1000∧H dx=some (.own a):=by
 obtain ⟨d,z,ne,ob,mA,n,r,q⟩:=(show ObjOk P w H h a (.ins C dx fs) from hok a _ e)
 exact ⟨mA,⟨ob,n,ne⟩,r,q,z,d⟩
end
structure Cls (K:PySem.W.Frag) (C:Addr):Prop where
 pg:PySem.W.plainGet K C Str.empty=true
 hd:PySem.W.hasDictIn K C=true
 po:PySem.W.plainOver K C=true
 sa:PySem.W.findIn K (.ref C) "__setattr__"=some (some (.builtin "object.__setattr__"))
theorem Cls.get {K:PySem.W.Frag} {C:Addr} (c:Cls K C) (f:Str):PySem.W.plainGet K C f=true:=c.pg
def NoAttr (K:PySem.W.Frag) (C:Addr) (f:Str):Prop:=PySem.W.findIn K (.ref C) f=some none
theorem NoAttr.taker {K:PySem.W.Frag} {C:Addr} {f:Str} (n:NoAttr K C f):PySem.W.takerIn K C f=some none:=by
 unfold PySem.W.takerIn
 rw [show PySem.W.findIn K (.ref C) f=some none from n]
 rfl
structure JK (K:PySem.W.Frag) (C:Addr) (m:Str) (f:Addr):Prop where
 at_:PySem.W.findIn K (.ref C) m=some (some (.ref f))
 fn:PySem.W.isFn K (.ref f)=true
 kp:PySem.W.keepIn K (.ref f)=true
section
variable {X:Cx} {pins:List (Addr×Obj)} {σ:St} {H:Hp} {s:Shared} {a C dx:Addr} {fs:List (Str×V)} {f:Str} {v:V} {A:Around} {E:Value→Shared→Prop}
theorem Xo {b:Bool} {Q:Value→Shared→Prop} (I:Inv X pins σ H s) (e:H a=some (.ins C dx fs)) (c:Cls X.K C) (n:NoAttr X.K C f) (l:fs.lookup f=some v)
 (h:∀u s',Inv X pins σ H s'→RelV v u→Q u s'):wpAny (model X.prog X.w) A (getAttr (.ref a) f b) Q E s:=by
 obtain ⟨mA,O,r,_,_,_⟩:=MH I.hok e
 obtain ⟨u,hu,ru⟩:=RelO.some_of (v:=v) (o:=mA f) (by rw [←l];exact r f)
 exact Xj I.kIn O (c.get f) c.hd n hu (Xn ru) (h u _ (I.tok _) ru)
theorem Pm {m:Str} {g:Addr} {pl:Sem Bool} {Q:Value×List Value→Shared→Prop} (I:Inv X pins σ H s) (e:H a=some (.ins C dx fs)) (c:Cls X.K C) (k:JK X.K C m g) (l:fs.lookup m=none)
 (h:Q (.ref g,[.ref a]) s):wpAny (model X.prog X.w) A (getMethod (.ref a) m pl) Q E s:=by
 obtain ⟨mA,O,r,_,_,_⟩:=MH I.hok e
 have hn:mA m=none:=RelO.none_of (by rw [←l];exact r m)
 exact Xk I.kIn O (c.get m) k.at_ k.fn hn h
theorem Xp {y:V} {u:Value} {Q:Unit→Shared→Prop} (I:Inv X pins σ H s) (e:H a=some (.ins C dx fs)) (c:Cls X.K C) (n:NoAttr X.K C f) (hl:fs.length<1000) (ry:RelV y u)
 (h:∀s',Inv X pins σ (Ak H a (.ins C dx (B6 f y fs))) s'→Q () s'):wpAny (model X.prog X.w) A (setAttr (.ref a) f u) Q E s:=by
 obtain ⟨mA,O,r,wi,_,ho⟩:=MH I.hok e
 have hz:(fs.map (·.1)).length≤sizeLine:=by rw [CC,sizeLine_eq];omega
 refine Xl I.kIn O c.sa c.po n.taker c.hd wi hz fun h' O' sb=>h _ ?_
 have hd:∃o,h'.get? dx=some o:=let ⟨o,_,_,e',_⟩:=O'.ns;⟨o,e'⟩
 refine I.write (x:=a) (e:=dx) (by rw [e];exact True.intro) (.inr ho) (fun b q hb z=>(sb.2 b hb).trans z) hd ?_
 refine ⟨by rw [Ao O.ne];exact ho,?_,O.ne,O'.obj,_,O'.ns,fun g=>?_,fun g hg=>?_⟩
 ·have:=Pl f y fs;omega
 ·show RelO ((B6 f y fs).lookup g) (if g=f then some u else mA g)
  rw [Pk]
  by_cases q:g=f
  ·rw [if_pos q,if_pos q];exact ry
  ·rw [if_neg q,if_neg q];exact r g
 ·by_cases q:g=f
  ·rw [q];exact (MF f y fs).1
  ·refine (MF f y fs).2 g (wi g fun z=>hg ?_)
   show (if g=f then some u else mA g)=none
   rw [if_neg q];exact z
theorem Inv.made (I:Inv X pins σ H s):Inv X pins σ (Ak (Ak H s.heap.objs.size (.own (s.heap.objs.size+1))) (s.heap.objs.size+1) (.ins C s.heap.objs.size []))
 {s with heap:=(s.heap.push PySem.W.emptyDict).push (PySem.W.instObj C s.heap.objs.size)}:=by
 have e1:(s.heap.push PySem.W.emptyDict).get? s.heap.objs.size=some PySem.W.emptyDict:=Bf s.heap rfl
 have e2:((s.heap.push PySem.W.emptyDict).push (PySem.W.instObj C s.heap.objs.size)).get? (s.heap.objs.size+1)=some (PySem.W.instObj C s.heap.objs.size):=by
  have:=Bf (s.heap.push PySem.W.emptyDict) (o:=PySem.W.instObj C s.heap.objs.size) rfl
  rwa [Cz] at this
 have e3:(s.heap.push PySem.W.emptyDict).Ns s.heap.objs.size (fun _=>none):=⟨PySem.W.emptyDict,#[],_,e1,rfl,(fun e he=>absurd he (by simp)),fun _=>rfl⟩
 have I1:=I.laid (a:=s.heap.objs.size) (o:=.own (s.heap.objs.size+1)) (h':=s.heap.push PySem.W.emptyDict) (t':=s.toks) (fun b u q=>AB _ q) (AG _) ⟨_,e1⟩
 refine I1.laid (a:=s.heap.objs.size+1) (o:=.ins C s.heap.objs.size []) (t':=s.toks) (fun b u q=>AB _ q) (Nat.le_of_eq (Cz _ _)) ?_
 have ne:s.heap.objs.size≠s.heap.objs.size+1:=Bo (GD _)
 refine ⟨by rw [Ao ne,BN],Dq _,ne,e2,fun _=>none,(Heap.Ns1.of_empty e3).at fun o q=>AB _ q,fun _=>True.intro,fun y hy=>absurd rfl hy⟩
theorem Xq {prog:Program} {w:World} {env:Env} {e:Expr} {f:Str} {pos:Pos} {s:Shared} {Q:Value→Shared→Prop} (hb:attributeBase e f env (eval e env)=eval e env)
 (h:wpAny (model prog w) A (eval e env) (fun o s₁=>wpAny (model prog w) A (getAttr o f true) Q E s₁) E s):wpAny (model prog w) A (eval (.Attribute e f pos) env) Q E s:=
 Attribute_any_ h (by rw [arm_eval_Attribute,hb])
end
def Xr (K:PySem.W.Frag) (ta:TE) (f:Str):TE:=fun σ H Q=>ta σ H fun x H1=>∃a C dx fs v,x=.ref a∧H1 a=some (.ins C dx fs)∧Cls K C∧NoAttr K C f∧fs.lookup f=some v∧Q v H1
def Xs (K:PySem.W.Frag) (ta tv:TE) (f:Str):TS:=fun D σ H=>tv σ H fun y H1=>ta σ H1 fun x H2=>∃a C dx fs,x=.ref a∧H2 a=some (.ins C dx fs)∧Cls K C∧NoAttr K C f∧fs.length<1000∧
 D.nx σ (Ak H2 a (.ins C dx (B6 f y fs)))
section
variable {X:Cx} {o e value:Expr} {f:Str} {pos pos' tpos:Pos} {ta tv:TE}
theorem Xu (he:PE X e ta) (hb:attributeBase e f X.env (eval e X.env)=eval e X.env):PE X (.Attribute e f pos) (Xr X.K ta f):=by
 intro pins s σ H Q I h
 refine Xq hb (Ap (he pins s σ H _ I h) fun u s1 z60_=>?_)
 obtain ⟨x,H1,I1,rx,a,C,dx,fs,v,ex,ea,c,n,l,q⟩:=z60_
 subst ex
 obtain rfl:u=Value.ref a:=rx
 exact Xo I1 ea c n l fun u' s2 I2 ru=>⟨v,H1,I2,ru,q⟩
theorem Xv (ha:PE X o ta) (hv:PE X value tv) (hs:swapsWith value (some (.Attribute o f pos')) pos.line X.env=pure false):PS X (.Assign [.Attribute o f pos'] value pos) (Xs X.K ta tv f):=by
 intro pins s σ H D I h
 refine plainObj_wpAny_Assign_Attribute (Ap (hv pins s σ H _ I h) ?_) hs
 rintro u s1 ⟨y,H1,I1,ry,q⟩
 refine Ap (ha pins s1 σ H1 _ I1 q) fun ov s2 z63_=>?_
 obtain ⟨x,H2,I2,rx,a,C,dx,fs,ex,ea,c,n,l,q2⟩:=z63_
 subst ex
 obtain rfl:ov=Value.ref a:=rx
 exact Xp I2 ea c n l ry fun s3 I3=>⟨σ,_,I3,q2⟩
end
section
variable {X:Cx} {pins:List (Addr×Obj)} {σ:St} {H:Hp} {s:Shared} {A:Around} {E:Value→Shared→Prop} {Q:Value→Shared→Prop} {c:Value} {b:Bool}
inductive Eg (K:PySem.W.Frag) (H:Hp):V→Value→Prop where
 |non:Eg K H .non (.type "NoneType")
 |bl (x:Bool):Eg K H (.bl x) (.type "bool")
 |int (i:Int):Eg K H (.int i) (.type "int")
 |str (x:Str):Eg K H (.str x) (.type "str")
 |flt (x:UInt64):Eg K H (.flt x) (.type "float")
 |lst {a:Addr} {xs:List V} (e:H a=some (.lst xs)):Eg K H (.ref a) (.type "list")
 |frz {a:Addr} {o:Obj} {xs:List V} (e:H a=some (.frz o (.lst xs))):Eg K H (.ref a) (.type "list")
 |tup {a:Addr} {xs:List V} (e:H a=some (.tup xs)):Eg K H (.ref a) (.type "tuple")
theorem Xw {x:V} {u t:Value} (I:Inv X pins σ H s) (rx:RelV x u) (ty:Eg X.K H x t) (e:PySem.W.kitOne X.K t c=some b) (h:∀tk,Q (.bool b) {s with toks:=tk}):
 wpAny (model X.prog X.w) A (call (.builtin "isinstance") [u,c]) Q E s:=by
 cases ty with
 |non=>cases (show u=Value.none from rx);exact PySem.W.kia_one PySem.W.kitx_none I.kIn True.intro e (fun z=>nomatch z) h
 |bl y=>cases (show u=Value.bool y from rx);exact PySem.W.kia_one PySem.W.kitx_bool I.kIn True.intro e (fun z=>nomatch z) h
 |int i=>obtain ⟨t,q⟩:=(show ∃t,u=Value.int i t from rx);cases q;exact PySem.W.kia_one PySem.W.kitx_int I.kIn True.intro e (fun z=>nomatch z) h
 |str y=>obtain ⟨t,q⟩:=(show ∃t,u=Value.str y t from rx);cases q;exact PySem.W.kia_one PySem.W.kitx_str I.kIn True.intro e (fun z=>nomatch z) h
 |flt y=>obtain ⟨t,q⟩:=(show ∃t,u=Value.float y t from rx);cases q;exact PySem.W.kia_one PySem.W.kitx_float I.kIn True.intro e (fun z=>nomatch z) h
 |@lst a xs ea=>
  cases (show u=Value.ref a from rx)
  obtain ⟨_,_,n,_,h1⟩:=(show ObjOk X.prog X.w H s.heap a (.lst xs) from I.hok a _ ea)
  exact PySem.W.kia_one PySem.W.kitx_list I.kIn ⟨_,h1,rfl⟩ e (fun z=>nomatch z) h
 |@frz a ob xs ea=>
  cases (show u=Value.ref a from rx)
  obtain ⟨_,_,_,n,_,h1⟩:=(show ObjOk X.prog X.w H s.heap a (.frz ob (.lst xs)) from I.hok a _ ea)
  exact PySem.W.kia_one PySem.W.kitx_list I.kIn ⟨_,h1,rfl⟩ e (fun z=>nomatch z) h
 |@tup a xs ea=>
  cases (show u=Value.ref a from rx)
  obtain ⟨_,_,_,p,_⟩:=(show ObjOk X.prog X.w H s.heap a (.tup xs) from I.hok a _ ea)
  obtain ⟨o,h1,h2,_⟩:=p
  exact PySem.W.kia_one PySem.W.kitx_tuple I.kIn ⟨o,h1,h2⟩ e (fun z=>nomatch z) h
end
structure Room (k:Nat) (A:Around):Prop where
 hd:A.handled=none
 dp:A.depth+3*k+5<recursionLimit
 un:A.units+16*k+200<cLine
 gd:A.guards=some []
theorem Room.mono {j k:Nat} {A:Around} (r:Room k A) (h:j≤k):Room j A:=⟨r.hd,by have:=r.dp;omega,by have:=r.un;omega,r.gd⟩
theorem Room.deeper {k:Nat} {A:Around} (r:Room (k+1) A) (env:Env):Room k (A.deeper env):=
 ⟨r.hd,by have:=r.dp;show A.depth+1+3*k+5<_;omega,by have:=r.un;show A.units+3+16*k+200<_;omega,r.gd⟩
theorem Xx {A:Around} {C:Addr} {us:List Value} {kw:List (Str×Value)}:(A.under (.builtin "type.__call__" ⟨.ref C::us,kw⟩)).depth=A.depth+1:=by
 first |rfl |simp [Around.under,Code.weight,Code.isCreation,Code.isGuard,Code.isCaller,Code.frames,Code.isFrame,guardIds]
theorem Xy {A:Around} {C:Addr} {us:List Value} {kw:List (Str×Value)}:(A.under (.builtin "type.__call__" ⟨.ref C::us,kw⟩)).units=A.units+1:=by
 first |rfl |simp [Around.under,Code.cUnits,Code.frames,Code.isFrame]
theorem Room.make {k:Nat} {A:Around} (r:Room (k+1) A) (C:Addr) (us:List Value) (kw:List (Str×Value)):Room k (A.under (.builtin "type.__call__" ⟨.ref C::us,kw⟩)):=
 ⟨r.hd,by have:=r.dp;rw [Xx];omega,by have:=r.un;rw [Xy];omega,by first |exact r.gd |(show pushGuards _ _=_;rw [r.gd];rfl)⟩
theorem Room.depth {k:Nat} {A:Around} (r:Room k A):A.depth<recursionLimit:=by have:=r.dp;omega
theorem Room.units {k:Nat} {A:Around} (r:Room k A):A.units+64<cLine:=by have:=r.un;omega
def MK:TA:=fun _ H Q=>Q [] H
def Xz (ta:TE) (tr:TA):TA:=fun σ H Q=>ta σ H fun x H1=>tr σ H1 fun xs H2=>Q (x::xs) H2
section
variable {X:Cx} {e:Expr} {es:List Expr} {te:TE} {t:TA} {pos:Pos}
theorem XA:PA X [] MK:=fun _ _ _ _ H Q I h=>Calls.spliced_nil ⟨[],H,I,.nil,h⟩
theorem XB (ha:PE X e te) (hr:PA X es t) (hs:starEach (e::es) X.env=(false,eval e X.env)::starEach es X.env:=by rfl):PA X (e::es) (Xz te t):=by
 intro pos pins s σ H Q I h
 rw [hs]
 show wpAny _ _ (spliced ((false,eval e X.env)::backTo pos (starEach es X.env))) _ _ s
 refine Calls.spliced_cons (Ap (ha pins s σ H _ I h) fun u s1 z68_=>?_)
 obtain ⟨x,H1,I1,r1,q1⟩:=z68_
 exact Ap (hr pos pins s1 σ H1 _ I1 q1) fun us s2 z69_=>by obtain ⟨xs,H2,I2,r2,q2⟩:=z69_;exact (⟨x::xs,H2,I2,.cons r1 r2,q2⟩)
def XC (t:TA):TE:=fun σ H Q=>t σ H fun xs H1=>xs.length≤sizeLine∧∀p,H1 p=none→Q (.ref p) (Ak H1 p (.tup xs))
def XE (t:TA):TE:=fun σ H Q=>t σ H fun xs H1=>xs.length≤sizeLine∧∀p,H1 p=none→Q (.ref p) (Ak H1 p (.lst xs))
theorem XF {x1} (h:PA X es t):PE X (.Tuple es x1 pos) (XC t):=by
 intro pins s σ H Q I hq
 refine wpAny_Tuple_spliced (Ap (h pos pins s σ H _ I hq) fun us s1 ⟨xs,H1,I1,r,z,q⟩=>⟨by rw [←r.length];exact z,?_⟩)
 have hf:H1 s1.heap.objs.size=none:=I1.hok.fresh (AG _)
 refine ⟨.ref s1.heap.objs.size,Ak H1 s1.heap.objs.size (.tup xs),I1.laid (t':=s1.toks) (fun b u e=>AB _ e) (AG _) ?_,rfl,q _ hf⟩
 exact ⟨z,us,r,⟨_,Bf _ rfl,rfl,_,rfl⟩,NoDict.new⟩
theorem XG (h:PA X es t):PE X (.List es pos) (XE t):=by
 intro pins s σ H Q I hq
 refine wpAny_List_spliced (Ap (h pos pins s σ H _ I hq) fun us s1 ⟨xs,H1,I1,r,z,q⟩=>⟨by rw [←r.length];exact z,?_⟩)
 have hf:H1 s1.heap.objs.size=none:=I1.hok.fresh (AG _)
 refine ⟨.ref s1.heap.objs.size,Ak H1 s1.heap.objs.size (.lst xs),I1.laid (t':=s1.toks) (fun b u e=>AB _ e) (AG _) ?_,rfl,q _ hf⟩
 exact ⟨z,us,0,r,Bf _ rfl⟩
end
abbrev Sp:=List V→Hp→VK→XK→Prop
abbrev Eh:=List Env→Hp→Shared→XK→Value→Shared→Prop
structure Env0 (P:Program) (w:World) (K:PySem.W.Frag) (mg:Str→Option Value) (base:Heap) (A:Around) (outer:List Env) (s:Shared) (H:Hp):Prop where
 frames:A.frames=some outer
 mod:Mod K mg base
 bs:∀b o,base.get? b=some o→s.heap.get? b=some o∧H b=none
 bsz:base.objs.size≤s.heap.objs.size
 funs:s.heap.FunFrames base outer
 frf:∀b∈frs outer,H b=none
 hok:HOk P w H s.heap
 bare:AllBare s.gens
inductive CE (outer:List Env) (P:Program) (w:World) (H:Hp) (s:Shared) (Q:VK) (u:Value) (s':Shared):Prop where
 |mk (v:V) (H':Hp) (os:s'.os=s.os) (bare:AllBare s'.gens) (un:Un (frs outer) [] H H' s.heap s'.heap) (hok:HOk P w H' s'.heap) (r:RelV v u) (q:Q v H'):CE outer P w H s Q u s'
def CR (CX:Eh) (outer:List Env) (P:Program) (w:World) (H:Hp) (s:Shared) (Q:VK) (E:XK) (r:Result) (s':Shared):Prop:=
 match r with
 |.ok (.ret u)=>CE outer P w H s Q u s'
 |.ok _=>False
 |.error e=>CX outer H s E e s'
structure FnOk (P:Program) (w:World) (K:PySem.W.Frag) (mg:Str→Option Value) (base:Heap) (CX:Eh) (k:Nat) (f:Addr) (fd:FuncData) (ps:List Str) (sp:Sp):Prop where
 len:∀vs H Q E,sp vs H Q E→vs.length=ps.length
 run:∀(A:Around) (outer:List Env) (s:Shared) (H:Hp) (args:Args) (us:List Value) (vs:List V) (Q:VK) (E:XK),Room k A→Env0 P w K mg base A outer s H→BindsTo s fd args (ps.zip us)→Vals vs us→sp vs H Q E→
  codeAny (model P w) A (.call (.ref f) args) (CR CX outer P w H s Q E) s
theorem FnOk.mono {P:Program} {w:World} {K:PySem.W.Frag} {mg:Str→Option Value} {base:Heap} {CX:Eh} {j k:Nat} {f:Addr} {fd:FuncData} {ps:List Str} {sp:Sp} (F:FnOk P w K mg base CX j f fd ps sp) (h:j≤k):
 FnOk P w K mg base CX k f fd ps sp:=⟨F.len,fun A outer s H args us vs Q E hr=>F.run A outer s H args us vs Q E (hr.mono h)⟩
theorem Env0.make {P:Program} {w:World} {K:PySem.W.Frag} {mg:Str→Option Value} {base:Heap} {A:Around} {outer:List Env} {s:Shared} {H:Hp} (e:Env0 P w K mg base A outer s H) (C:Addr) (us:List Value) (kw:List (Str×Value)):
 Env0 P w K mg base (A.under (.builtin "type.__call__" ⟨.ref C::us,kw⟩)) outer s H:=⟨by first |exact e.frames |(simpa [Around.under,Code.envs,Code.isFrame,pushEnvs] using e.frames),e.mod,e.bs,e.bsz,e.funs,e.frf,e.hok,e.bare⟩
section
variable {X:Cx} {pins:List (Addr×Obj)} {σ:St} {H:Hp} {s s':Shared}
theorem Inv.env0 (I:Inv X pins σ H s):Env0 X.prog X.w X.K X.mg X.base X.A X.stack s H:=
 ⟨I.ok.frames,I.ok.mod,I.bs,BW I.ok.bsz I.sz,I.stack,I.stkFree,I.hok,I.bare⟩
theorem Inv.after {Q:VK} {u:Value} (I:Inv X pins σ H s) (h:CE X.stack X.prog X.w H s Q u s'):EP X pins σ Q u s':=by
 obtain ⟨v,H',os,bare,un,hok,r,q⟩:=h
 obtain ⟨hh,g,d,t,os'⟩:=s'
 obtain rfl:os'=s.os:=os
 exact ⟨v,H',I.call (h':=hh) (g':=g) (d':=d) (t':=t) (ch:=[]) un hok bare (fun b z=>absurd z (by simp)),r,q⟩
end
def Pn (sp:Sp) (dvs:List V) (E:XK) (t:TA):TE:=fun σ H Q=>t σ H fun vs H1=>sp (vs++dvs) H1 Q E
def Po (C:Addr) (m:Str) (sp:Sp) (dvs:List V) (E:XK) (ta:TE) (t:TA):TE:=fun σ H Q=>ta σ H fun x H1=>∃a dx fs,x=.ref a∧H1 a=some (.ins C dx fs)∧fs.lookup m=none∧
 t σ H1 fun vs H2=>sp (x::(vs++dvs)) H2 Q E
def XH (C:Addr) (sp:Sp) (dvs:List V) (E:XK) (t:TA):TE:=fun σ H Q=>t σ H fun vs H1=>∀x dx,H1 x=none→H1 dx=none→dx≠x→
 sp (.ref x::(vs++dvs)) (Ak (Ak H1 dx (.own x)) x (.ins C dx [])) (fun v H2=>v=.non∧Q (.ref x) H2) E
def Binds (K:PySem.W.Frag) (fd:FuncData) (ps:List Str) (ds:List Value):Prop:=
 ∀(s:Shared) (us:List Value),K.In s.heap→(us++ds).length=ps.length→BindsTo s fd ⟨us,[]⟩ (ps.zip (us++ds))
theorem Binds.all {K:PySem.W.Frag} {fd:FuncData} {ps:List Str} (h:∀us:List Value,us.length=ps.length→bindArgs fd ⟨us,[]⟩=pure (ps.zip us)):Binds K fd ps []:=fun s us _ hl=>by
 rw [D9] at hl ⊢
 exact .of_eq (h us hl)
def CD (CX:Eh) (X:Cx) (E:XK):Prop:=∀(pins:List (Addr×Obj)) (σ:St) (H:Hp) (s:Shared) (e:Value) (s':Shared),Inv X pins σ H s→CX X.stack H s E e s'→X.xe e s'
section
variable {X:Cx} {CX:Eh} {k:Nat} {f C:Addr} {fd:FuncData} {ps:List Str} {sp:Sp} {dvs:List V} {ds:List Value} {E:XK} {x m:Str} {p pos apos:Pos} {e o:Expr} {es:List Expr} {ta:TE} {t:TA}
theorem JL {pins:List (Addr×Obj)} {σ:St} {H:Hp} {s:Shared} {Q:VK} {us:List Value} {vs:List V} (F:FnOk X.prog X.w X.K X.mg X.base CX k f fd ps sp) (hr:Room k X.A) (hb:Binds X.K fd ps ds) (hd:Vals dvs ds) (hx:CD CX X E)
 (I:Inv X pins σ H s) (r:Vals vs us) (h:sp (vs++dvs) H Q E):wpAny (model X.prog X.w) X.A (call (.ref f) us) (EP X pins σ Q) X.xe s:=by
 have r2:Vals (vs++dvs) (us++ds):=r.append hd
 have hl:(us++ds).length=ps.length:=by rw [←r2.length];exact F.len _ _ _ _ h
 refine wpAny_call (codeAny_mono (F.run X.A X.stack s H ⟨us,[]⟩ (us++ds) (vs++dvs) Q E hr I.env0 (hb s us I.kIn hl) r2 h) fun r s' hq=>?_)
 cases r with
 |error e=>exact hx pins σ H s e s' I hq
 |ok fl=>
  cases fl with
  |ret u=>exact I.after hq
  |next=>exact False.elim hq
  |brk=>exact False.elim hq
  |cont=>exact False.elim hq
theorem XI (F:FnOk X.prog X.w X.K X.mg X.base CX k f fd ps sp) (hr:Room k X.A) (hg:Gl X x) (hm:X.mg x=some (.ref f)) (hk:PySem.W.keepIn X.K (.ref f)=true) (hb:Binds X.K fd ps ds) (hd:Vals dvs ds) (hx:CD CX X E)
 (ha:PA X (e::es) t) (hdb:(x==("__debug__":Str))=false:=by decide) (he:starEach (e::es) X.env=(false,eval e X.env)::starEach es X.env:=by rfl) (hpl:(backTo pos (starEach es X.env)).any (·.1)=false:=by rfl):
 PE X (.Call (.Name x p) (e::es) [] pos) (Pn sp dvs E t):=by
 intro pins s σ H Q I h
 refine wpAny_Call_Name_kw (Fc I hg hm ?_ hdb)
 refine PySem.W.callWith_K (h₀:=X.base) I.ok.mod.kin hk (Ap (ha pos pins s σ H _ I h) ?_) he hpl
 rintro us s1 ⟨vs,H1,I1,r,q⟩
 refine ⟨I1.kIn,?_⟩
 exact JL F hr hb hd hx I1 r q
theorem XJ (F:FnOk X.prog X.w X.K X.mg X.base CX k f fd ps sp) (hr:Room k X.A) (hg:Gl X x) (hm:X.mg x=some (.ref f)) (hk:PySem.W.keepIn X.K (.ref f)=true) (hb:Binds X.K fd ps ds) (hd:Vals dvs ds) (hx:CD CX X E)
 (hdb:(x==("__debug__":Str))=false:=by decide):PE X (.Call (.Name x p) [] [] pos) (Pn sp dvs E MK):=by
 intro pins s σ H Q I h
 refine wpAny_Call_Name_kw (Fc I hg hm ?_ hdb)
 exact PySem.W.callWith_K0 I.kIn hk (JL (us:=[]) F hr hb hd hx I .nil h)
theorem XM {pl:Sem Bool} (he:PE X o ta) (c:Cls X.K C) (hm:JK X.K C m f) (F:FnOk X.prog X.w X.K X.mg X.base CX k f fd ps sp) (hr:Room k X.A) (hb:Binds X.K fd ps ds) (hd:Vals dvs ds) (hx:CD CX X E) (ha:PA X (e::es) t)
 (hst:starEach (e::es) X.env=(false,eval e X.env)::starEach es X.env:=by rfl) (hpl:(backTo pos (starEach es X.env)).any (·.1)=false:=by rfl)
 (ht:eval (.Call (.Attribute o m apos) (e::es) [] pos) X.env=(do
  let ov ←eval o X.env
  standAt apos.atName
  let (f,first) ←holding [ov] (getMethod ov m pl)
  callWith pos f first (backTo pos (starEach (e::es) X.env)) (backToKw pos (keywordEach [] X.env))):=by rfl):
 PE X (.Call (.Attribute o m apos) (e::es) [] pos) (Po C m sp dvs E ta t):=by
 intro pins s σ H Q I h
 refine PySem.W.methodCall_KW (pl:=pl) (Ap (he pins s σ H _ I h) fun u s1 z73_=>?_) ht
 obtain ⟨x,H1,I1,rx,a,dx,fs,ex,ea,l,q⟩:=z73_
 subst ex
 obtain rfl:u=Value.ref a:=rx
 refine Pm I1 ea c hm l ?_
 refine PySem.W.callWith_K (first:=[.ref a]) (h₀:=X.base) I.ok.mod.kin hm.kp (Ap (ha pos pins s1 σ H1 _ I1 q) ?_) hst hpl
 rintro us s2 ⟨vs,H2,I2,r,q2⟩
 refine ⟨I2.kIn,?_⟩
 exact JL (us:=.ref a::us) (vs:=.ref a::vs) F hr hb hd hx I2 (.cons rfl r) q2
theorem XN {pl:Sem Bool} (he:PE X o ta) (c:Cls X.K C) (hm:JK X.K C m f) (F:FnOk X.prog X.w X.K X.mg X.base CX k f fd ps sp) (hr:Room k X.A) (hb:Binds X.K fd ps ds) (hd:Vals dvs ds) (hx:CD CX X E)
 (ht:eval (.Call (.Attribute o m apos) [] [] pos) X.env=(do
  let ov ←eval o X.env
  standAt apos.atName
  let (f,first) ←holding [ov] (getMethod ov m pl)
  callWith pos f first (backTo pos (starEach [] X.env)) (backToKw pos (keywordEach [] X.env))):=by rfl):
 PE X (.Call (.Attribute o m apos) [] [] pos) (Po C m sp dvs E ta MK):=by
 intro pins s σ H Q I h
 refine PySem.W.methodCall_KW (pl:=pl) (Ap (he pins s σ H _ I h) fun u s1 z75_=>?_) ht
 obtain ⟨x,H1,I1,rx,a,dx,fs,ex,ea,l,q⟩:=z75_
 subst ex
 obtain rfl:u=Value.ref a:=rx
 refine Pm I1 ea c hm l ?_
 exact PySem.W.callWith_K0 (first:=[.ref a]) I1.kIn hm.kp (JL (us:=[.ref a]) (vs:=[.ref a]) F hr hb hd hx I1 (.cons rfl .nil) q)
structure Mk (K:PySem.W.Frag) (C f:Addr):Prop where
 makes:PySem.W.makesIn K C=true
 init:PySem.W.findIn K (.ref C) "__init__"=some (some (.ref f))
 fn:PySem.W.isFn K (.ref f)=true
 kp:PySem.W.keepIn K (.ref C)=true
theorem XO {pins:List (Addr×Obj)} {σ:St} {H:Hp} {s:Shared} {Q:VK} {us:List Value} {vs:List V} (M:Mk X.K C f) (F:FnOk X.prog X.w X.K X.mg X.base CX k f fd ps sp) (hr:Room (k+1) X.A) (hb:Binds X.K fd ps ds) (hd:Vals dvs ds)
 (hx:CD CX X E) (I:Inv X pins σ H s) (r:Vals vs us)
 (h:∀x dx,H x=none→H dx=none→dx≠x→sp (.ref x::(vs++dvs)) (Ak (Ak H dx (.own x)) x (.ins C dx [])) (fun v H2=>v=.non∧Q (.ref x) H2) E):
 wpAny (model X.prog X.w) X.A (call (.ref C) us) (EP X pins σ Q) X.xe s:=by
 have hq:=h (s.heap.objs.size+1) s.heap.objs.size (I.hok.fresh (GF _)) (I.hok.fresh (AG _)) (Bo (GD _))
 have I2:=Inv.made (C:=C) I
 have r2:Vals (V.ref (s.heap.objs.size+1)::(vs++dvs)) (Value.ref (s.heap.objs.size+1)::(us++ds)):=.cons rfl (r.append hd)
 have hl:(Value.ref (s.heap.objs.size+1)::us++ds).length=ps.length:=by
  have e:=r2.length
  rw [F.len _ _ _ _ hq] at e
  exact e.symm
 refine wpAny_call (Xm (f:=f) I.kIn M.makes M.init (beq_iff_eq.mp M.fn) (codeAny_mono (F.run _ X.stack _ _ ⟨Value.ref (s.heap.objs.size+1)::us,[]⟩ (Value.ref (s.heap.objs.size+1)::(us++ds)) _ _ E (hr.make C us [])
  (I2.env0.make C us []) (hb _ (Value.ref (s.heap.objs.size+1)::us) I2.kIn hl) r2 hq) fun r s' hq'=>?_))
 cases r with
 |error e=>exact hx pins σ _ _ e s' I2 hq'
 |ok fl=>
  cases fl with
  |ret u=>
   obtain ⟨v,H',I3,rv,ev,q3⟩:=I2.after hq'
   subst ev
   exact ⟨rv,⟨V.ref (s.heap.objs.size+1),H',I3,rfl,q3⟩⟩
  |next=>exact False.elim hq'
  |brk=>exact False.elim hq'
  |cont=>exact False.elim hq'
theorem XQ (M:Mk X.K C f) (F:FnOk X.prog X.w X.K X.mg X.base CX k f fd ps sp) (hr:Room (k+1) X.A) (hg:Gl X x) (hm:X.mg x=some (.ref C)) (hb:Binds X.K fd ps ds) (hd:Vals dvs ds) (hx:CD CX X E)
 (ha:PA X (e::es) t) (hdb:(x==("__debug__":Str))=false:=by decide) (he:starEach (e::es) X.env=(false,eval e X.env)::starEach es X.env:=by rfl) (hpl:(backTo pos (starEach es X.env)).any (·.1)=false:=by rfl):
 PE X (.Call (.Name x p) (e::es) [] pos) (XH C sp dvs E t):=by
 intro pins s σ H Q I h
 refine wpAny_Call_Name_kw (Fc I hg hm ?_ hdb)
 refine PySem.W.callWith_K (h₀:=X.base) I.ok.mod.kin M.kp (Ap (ha pos pins s σ H _ I h) ?_) he hpl
 rintro us s1 ⟨vs,H1,I1,r,q⟩
 refine ⟨I1.kIn,?_⟩
 exact XO M F hr hb hd hx I1 r q
end
section
variable {X:Cx} {CX:Eh} {k:Nat} {f C:Addr} {fd:FuncData} {ps ks:List Str} {sp:Sp} {E:XK} {x m:Str} {p pos apos kpos:Pos} {e o:Expr} {es:List Expr} {kws:List Keyword} {te ta:TE} {t tk:TA} {nm:Option Str}
variable {g:List Value→List Value→List Value} {gV:List V→List V→List V}
end
structure CQ (N P:List Str) (sc:Scope):Prop where
 kind:sc.kind=.function
 co:sc.isCoroutine=false
 gen:sc.isGenerator=false
 nd:N.Nodup
 pre:N.take P.length=P
 par:∀x∈P,sc.names.lookup x=some .local∨sc.names.lookup x=some .cell
 nofree:∀y∈sc.names,y.2≠.free
theorem Pp {kindOf:Str→Option NameKind} {x:Str}:∀{binds:List (Str×Value)} {m:Str→Option Value},(∀v,(x,v)∉binds)→bindL kindOf binds m x=m x
 |[],_,_=>rfl
 |(n,v)::r,m,h=>by
  unfold bindL
  rw [Pp fun w hw=>h w (A5 _ hw)]
  split
  ·have:x≠n:=by rintro rfl;exact h v A1
   simp [this]
  ·rfl
theorem Pq {kindOf:Str→Option NameKind} {x:Str}:∀{binds:List (Str×Value)} {m:Str→Option Value},(∀v,(x,v)∉binds)→bindC kindOf binds m x=m x
 |[],_,_=>rfl
 |(n,v)::r,m,h=>by
  unfold bindC
  rw [Pq fun w hw=>h w (A5 _ hw)]
  split
  ·rfl
  ·have:x≠n:=by rintro rfl;exact h v A1
   simp [this]
theorem ML {kindOf:Str→Option NameKind} {x:Str} {v:Value}:∀{P:List Str} {vs:List Value} {i:Nat} {m:Str→Option Value},P.Nodup→P[i]?=some x→vs[i]?=some v→kindOf x=some .local→
 bindL kindOf (P.zip vs) m x=some v
 |[],_,_,_,_,h,_,_=>by simp at h
 |_::_,[],_,_,_,_,h,_=>by simp at h
 |p::P,w::vs,0,m,nd,h1,h2,hk=>by
  simp at h1 h2;subst h1;subst h2
  show bindL kindOf ((p,w)::P.zip vs) m p=_
  unfold bindL
  rw [Pp fun v hv=>(qbM.mp nd).1 (Jy hv).1,if_pos hk]
  simp
 |p::P,w::vs,i+1,m,nd,h1,h2,hk=>by
  show bindL kindOf ((p,w)::P.zip vs) m x=_
  unfold bindL
  exact ML (i:=i) (qbM.mp nd).2 (by simpa using h1) (by simpa using h2) hk
theorem MM {kindOf:Str→Option NameKind} {x:Str} {v:Value}:∀{P:List Str} {vs:List Value} {i:Nat} {m:Str→Option Value},P.Nodup→P[i]?=some x→vs[i]?=some v→kindOf x≠some .local→
 bindC kindOf (P.zip vs) m x=some v
 |[],_,_,_,_,h,_,_=>by simp at h
 |_::_,[],_,_,_,_,h,_=>by simp at h
 |p::P,w::vs,0,m,nd,h1,h2,hk=>by
  simp at h1 h2;subst h1;subst h2
  show bindC kindOf ((p,w)::P.zip vs) m p=_
  unfold bindC
  rw [Pq fun v hv=>(qbM.mp nd).1 (Jy hv).1,if_neg hk]
  simp
 |p::P,w::vs,i+1,m,nd,h1,h2,hk=>by
  show bindC kindOf ((p,w)::P.zip vs) m x=_
  unfold bindC
  exact MM (i:=i) (qbM.mp nd).2 (by simpa using h1) (by simpa using h2) hk
def start (N:List Str) (vs:List V):St:=vs.map some++List.replicate (N.length - vs.length) none
def Bx (CX:Eh) (P:Program) (w:World) (K:PySem.W.Frag) (mg:Str→Option Value) (base:Heap) (N:List Str) (qual:Str) (scope:Scope) (f:Addr) (cd:Value) (A:Around) (outer:List Env) (s:Shared) (H:Hp) (E:XK):Cx where
 prog:=P
 w:=w
 K:=K
 mg:=mg
 base:=base
 A:=A.deeper (envOfC qual scope s.heap.objs.size f cd)
 N:=N
 s₀:=s
 H₀:=H
 env:=envOfC qual scope s.heap.objs.size f cd
 outer:=outer
 stack:=envOfC qual scope s.heap.objs.size f cd::outer
 ex:=[]
 calm:=true
 fn:=fun _=>true
 pn:=[]
 xe:=fun e s'=>wpAny (model P w) (A.deeper (envOfC qual scope s.heap.objs.size f cd)) (leaving (envOfC qual scope s.heap.objs.size f cd) e) (fun _ s''=>CX outer H s E e s'') (fun e' s''=>CX outer H s E e' s'') s'
theorem JM {sc:Scope} {n:Nat} {x:Str} (h:sc.names.lookup x=some .cell):∃c,(cellsFrom n sc.names []).lookup x=some c:=by
 have q:=PySem.W.cellsFrom_some sc.names n [] (.inl h)
 exact qbS.mp q
theorem Pt {CX:Eh} {P:Program} {w:World} {K:PySem.W.Frag} {mg:Str→Option Value} {base:Heap} {N ps:List Str} {qual:Str} {scope:Scope} {f:Addr} {cd:Value} {A:Around} {outer:List Env} {s s1:Shared} {H:Hp} {E:XK} {us:List Value} {vs:List V}
 (S:CQ N ps scope) (hd:A.handled=none) (e0:Env0 P w K mg base A outer s H) (hl:vs.length=ps.length) (r:Vals vs us)
 (x:InCallC s s.heap.objs.size (bindL (envOfC qual scope s.heap.objs.size f cd).kindOf (ps.zip us) fun _=>none) (cellsFrom (s.heap.objs.size+1) scope.names []) (bindC (envOfC qual scope s.heap.objs.size f cd).kindOf (ps.zip us) fun _=>none) s1):
 Inv (Bx CX P w K mg base N qual scope f cd A outer s H E) [] (start N vs) H s1:=by
 have hpl:ps.length≤N.length:=by have:=congrArg List.length S.pre;rw [Jw] at this;omega
 obtain ⟨h1,tk,rfl,hk⟩:=x.done
 have noA:∀b:Addr,b∉(Bx CX P w K mg base N qual scope f cd A outer s H E).ex:=fun b z=>absurd (show b∈([]:List Addr) from z) (by simp)
 refine ⟨⟨e0.mod,S.kind,rfl,rfl,AG _,fun y z c h1 h2=>?_,fun y hy=>?_,fun y c _ h=>?_,fun _=>hd,Around.frames_deeper e0.frames,.inr ⟨rfl,rfl⟩,fun b z=>absurd z (noA b),e0.bs,e0.bsz,fun b _ _=>noA b,fun b z=>absurd z (noA b),e0.funs,e0.frf⟩,
  rfl,e0.bare,Un.kept hk,⟨_,x.toInCall.ns,fun i y v h1 h2 h3=>?_⟩,fun y c h=>⟨_,x.cell y c h⟩,e0.hok.fresh (AG _),fun y c h=>?_,fun p hp=>absurd (show p∈([]:List (Addr×Obj)) from hp) (by simp),e0.hok.kept hk,?_⟩
 ·exact name_of_addr x.apart (PySem.mem_of_lookup h1) (PySem.mem_of_lookup h2)
 ·have hy:scope.names.lookup y=some .cell∨scope.names.lookup y=some .free:=hy
  rcases hy with hy |hy
  ·exact JM hy
  ·exact absurd rfl (S.nofree _ (PySem.mem_of_lookup hy))
 ·exact FT (x.above y c (PySem.mem_of_lookup h))
 ·have hi:i<vs.length:=by
   unfold start at h2
   by_cases hi:i<vs.length
   ·exact hi
   ·rw [Gw (by simpa using hi)] at h2
    rw [Mg] at h2
    split at h2<;>cases h2
  have ha:vs[i]?=some v:=by
   unfold start at h2
   rw [D3 (by simpa using hi),Bv] at h2
   cases e:vs[i]? with
   |none=>rw [e] at h2;cases h2
   |some a=>rw [e] at h2;cases h2;rfl
  obtain ⟨u,hu,rv⟩:=r.get ha
  have hp:ps[i]?=some y:=by
   rw [←S.pre,Me (by omega)];exact h1
  have ndP:ps.Nodup:=by rw [←S.pre];exact S.nd.sublist (List.take_sublist _ _)
  refine ⟨u,rv,?_⟩
  rcases S.par y (E8 hp) with k |k
  ·exact .inl ⟨k,ML ndP hp hu k⟩
  ·obtain ⟨c,e⟩:=JM (n:=s.heap.objs.size+1) k
   refine .inr ⟨.inl k,c,e,?_⟩
   have q:=x.cell y c e
   rw [MM ndP hp hu (by show scope.names.lookup y≠_;rw [k];decide)] at q
   exact q
 ·exact e0.hok.fresh (FT (x.above y c (PySem.mem_of_lookup h)))
 ·unfold start
  show _=N.length
  rw [FO,CC,List.length_replicate]
  omega
theorem Pv {CX:Eh} {P:Program} {w:World} {K:PySem.W.Frag} {mg:Str→Option Value} {base:Heap} {k:Nat} {f:Addr} {name qual:Str} {params:Arguments} {body:List Stmt} {scope:Scope} {dV kV doc pm cdv ct oc:Value} {an od:Option Addr}
 {osl:Array (Option Value)} {N ps:List Str} {sp:Sp} (lk:K.lookup f=some ⟨oc,od,.func (PySem.W.fnOf name qual params body scope dV kV doc pm an cdv ct),osl⟩) (hcd:PySem.W.codeIn K cdv qual=true) (S:CQ N ps scope)
 (len:∀vs H Q E,sp vs H Q E→vs.length=ps.length)
 (hbody:∀(A:Around) (outer:List Env) (s:Shared) (H:Hp) (vs:List V) (Q:VK) (E:XK),Room k (A.deeper (envOfC qual scope s.heap.objs.size f cdv))→sp vs H Q E→
  ∃t,CP (Bx CX P w K mg base N qual scope f cdv A outer s H E) body t∧t {nx:=fun _ H'=>Q .non H',rt:=Q} (start N vs) H):
 FnOk P w K mg base CX (k+1) f (PySem.W.fnOf name qual params body scope dV kV doc pm an cdv ct) ps sp:=by
 refine ⟨len,fun A outer s H args us vs Q E hr e0 hb r hsp=>?_⟩
 have hl:=len _ _ _ _ hsp
 have KX:K.In s.heap:=e0.mod.kin.keeps fun b o e=>(e0.bs b o e).1
 have lim:s.heap.NoLimit:=e0.mod.nolimit.keeps fun b o e=>(e0.bs b o e).1
 have hkind:∀y∈ps.zip us,scope.names.lookup y.1=some .local∨(scope.names.lookup y.1=some .cell∧((cellsFrom (s.heap.objs.size+1) scope.names []).lookup y.1).isSome=true):=fun z81_ hy=>by
  obtain ⟨n,v⟩:=z81_
  rcases S.par n (Jy hy).1 with q |q
  ·exact .inl q
  ·exact .inr ⟨q,PySem.W.cellsFrom_some _ _ _ (.inl q)⟩
 refine codeAny_call_function hr.depth (KX _ _ lk) rfl S.co S.gen rfl (PySem.W.codeRec_of KX hcd) (hb _ _ _ _ ?_)
 refine wpAny_newFunctionEnv_cells S.kind hkind fun env he s1 x=>?_
 subst he
 refine ⟨lim.keeps x.toInCall.keep,codeAny_func ?_⟩
 obtain ⟨t,ht,hq⟩:=hbody A outer s H vs Q E (hr.deeper _) hsp
 have I:Inv (Bx CX P w K mg base N qual scope f cdv A outer s H E) [] (start N vs) H s1:=Pt S hr.hd e0 hl r x
 refine wpAny_mono (ht [] s1 (start N vs) H _ I hq) (fun fl s' hs=>?_) fun e s' hs=>hs
 have AQ:∀{σ':St} {H':Hp} {v:V} {u:Value},Inv (Bx CX P w K mg base N qual scope f cdv A outer s H E) [] σ' H' s'→RelV v u→Q v H'→CE outer P w H s Q u s':=
  fun {σ' H' v u} J rv q=>⟨v,H',J.os,J.bare,J.base,J.hok,rv,q⟩
 cases fl with
 |ret u=>
  obtain ⟨v,σ',H',J,rv,q⟩:=hs
  exact AQ J rv q
 |next=>
  obtain ⟨σ',H',J,q⟩:=hs
  exact AQ (v:=V.non) (u:=Value.none) J rfl q
 |brk=>
  obtain ⟨_,_,_,q⟩:=hs
  exact False.elim q
 |cont=>
  obtain ⟨_,_,_,q⟩:=hs
  exact False.elim q
section
variable {X:Cx} {x:Str} {p pos:Pos} {e:Expr} {es:List Expr} {t:TA} {id T:String} {r:List V→Hp→VK→Prop}
def Pw (r:List V→Hp→VK→Prop) (t:TA):TE:=fun σ H Q=>t σ H fun vs H1=>r vs H1 Q
theorem XR (hc:Dg X (.builtin id) r) (hg:Gl X x) (hm:X.mg x=none) (hv:bootBuiltins x=some (.builtin id)) (ha:PA X (e::es) t) (hn:x≠"__name__":=by decide) (hdb:(x==("__debug__":Str))=false:=by decide)
 (he:starEach (e::es) X.env=(false,eval e X.env)::starEach es X.env:=by rfl) (hpl:(backTo pos (starEach es X.env)).any (·.1)=false:=by rfl):PE X (.Call (.Name x p) (e::es) [] pos) (Pw r t):=by
 intro pins s σ H Q I h
 refine wpAny_Call_Name_kw (FW I hg hm hv ?_ hn hdb)
 exact PyProof.Rows.callWith_builtin1 (Ap (ha pos pins s σ H _ I h) fun us s1 z82_=>by obtain ⟨vs,H1,I1,r1,q1⟩:=z82_;exact (hc pins s1 σ H1 vs us Q I1 r1 q1)) he hpl
theorem XS (hc:Dg X (.type T) r) (hg:Gl X x) (hm:X.mg x=none) (hv:bootBuiltins x=some (.type T)) (ha:PA X (e::es) t) (hn:x≠"__name__":=by decide) (hdb:(x==("__debug__":Str))=false:=by decide)
 (he:starEach (e::es) X.env=(false,eval e X.env)::starEach es X.env:=by rfl) (hpl:(backTo pos (starEach es X.env)).any (·.1)=false:=by rfl):PE X (.Call (.Name x p) (e::es) [] pos) (Pw r t):=by
 intro pins s σ H Q I h
 refine wpAny_Call_Name_kw (FW I hg hm hv ?_ hn hdb)
 exact PyProof.Rows.callWith_type1 (Ap (ha pos pins s σ H _ I h) fun us s1 z83_=>by obtain ⟨vs,H1,I1,r1,q1⟩:=z83_;exact (hc pins s1 σ H1 vs us Q I1 r1 q1)) he hpl
end
end L2
namespace HT
open PySem PyProof.Rows
def lexLt:List Int→List Int→Bool
 |[],[]=>false
 |[],_::_=>true
 |_::_,[]=>false
 |x::xs,y::ys=>if x=y then lexLt xs ys else decide (x<y)
section
open PySem.SeqAt
open PySem.AutoSeq1 (wpAny_loadPart')
open PySem.MeetsSeq PySem.MeetsSeq2 PySem.MeetsSeq3
end
section
variable {prog:Program} {w:World} {A:Around} {E:Value→Shared→Prop} {s:Shared}
theorem cat_tup {t b:Addr} {vs ws:List Value} {Q:Value→Shared→Prop} (ht:IsTup s.heap t vs.toArray) (hb:IsTup s.heap b ws.toArray) (hv:vs≠[])
 (h1:ws=[]→Q (.ref t) s) (h2:ws≠[]→Q (.ref s.heap.objs.size) {s with heap:=s.heap.push {cls:=.type "tuple",data:=.seq (vs++ws).toArray}})
 (hsz:vs.length+ws.length≤sizeLine):wpAny (model prog w) A (binaryOp .Add (.ref t) (.ref b)) Q E s:=by
 obtain ⟨⟨cls,dd,data,sl⟩,ho,hc,n,hd⟩:=id ht
 obtain ⟨⟨cls2,dd2,data2,sl2⟩,ho2,hc2,n2,hd2⟩:=id hb
 simp only at hc hd hc2 hd2
 subst hc hd hc2 hd2
 have e:vs.toArray++ws.toArray=(vs++ws).toArray:=by simp
 by_cases hw:ws=[]
 ·exact concat_meets ⟨_,ho,rfl⟩ ⟨_,ho2,rfl⟩ noFill_tuple_add seq_tuple_add PySem.F.slot_tuple_add PySem.F.entry_tuple_add (PySem.F.args_tuple_add_2 _ _)
   (tuple_addW1 t b vs.toArray ws.toArray n n2 dd dd2 sl sl2 (by simpa using hv) (by simp [hw])) ⟨ho,ho2,h1 hw⟩
 ·refine concat_meets ⟨_,ho,rfl⟩ ⟨_,ho2,rfl⟩ noFill_tuple_add seq_tuple_add PySem.F.slot_tuple_add PySem.F.entry_tuple_add (PySem.F.args_tuple_add_2 _ _)
   (tuple_addW2 t b vs.toArray ws.toArray n n2 dd dd2 sl sl2 (by simpa using hv) (by simpa using hw) (by rw [AW,AW];exact hsz)) ⟨ho,ho2,?_⟩
  rw [e]
  exact h2 hw
def sIx (n d:Nat):Option Int→Nat
 |none=>d
 |some v=>if v<0 then (v+(n:Int)).toNat else min v.toNat n
theorem sIx_none (n d:Nat):sIx n d none=d:=rfl
theorem sIx_nat (n d k:Nat):sIx n d (some (k:Int))=min k n:=by
 show (if (k:Int)<0 then ((k:Int)+(n:Int)).toNat else min (k:Int).toNat n)=min k n
 rw [if_neg (by omega),Ju]
theorem XT (n d:Nat) (hd:d≤n) (o:Option Int):sIx n d o≤n:=by
 cases o with
 |none=>exact hd
 |some v=>
  show (if v<0 then (v+(n:Int)).toNat else min v.toNat n)≤n
  by_cases hv:v<0
  ·rw [if_pos hv];omega
  ·rw [if_neg hv];exact Nat.min_le_right _ _
theorem Px (v:Int) (n d:Nat):(if v<0 then max (v+(n:Int)) 0 else min v (n:Int))=((sIx n d (some v):Nat):Int):=by
 show (if v<0 then max (v+(n:Int)) 0 else min v (n:Int))=(((if v<0 then (v+(n:Int)).toNat else min v.toNat n):Nat):Int)
 by_cases hv:v<0
 ·simp only [if_pos hv];omega
 ·simp only [if_neg hv];omega
theorem XU (lo hi:Option Int) (n:Nat):Builtin.Slice.sliceAdjust lo hi 1 (n:Int)=(((sIx n 0 lo:Nat):Int),((sIx n n hi:Nat):Int)):=by
 have h1:¬((1:Int)<0):=by omega
 unfold Builtin.Slice.sliceAdjust
 simp only [h1,if_false]
 refine Prod.ext ?_ ?_
 ·cases lo with
  |none=>rfl
  |some v=>exact Px v n 0
 ·cases hi with
  |none=>rfl
  |some v=>exact Px v n n
theorem XW (i j:Nat):Builtin.Slice.slicePlaces (i:Int) (j:Int) 1=j - i:=by
 unfold Builtin.Slice.slicePlaces
 have h1:(1:Int)>0:=by omega
 simp only [h1,if_true,Int.ediv_one]
 split<;>omega
theorem Pz {v:Value} {o:Option Int} {Q:Option Int→Shared→Prop} (p:IsPart v o) (h:Q o s):wpAny (model prog w) A (Builtin.Slice.slicePartIndex v) Q E s:=by
 cases p with
 |none=>exact slicePart_none h
 |int i t=>exact slicePart_int h
theorem sliceApplied_gen {sl:Addr} {vl vu:Value} {lo hi:Option Int} {n:Nat} {Q:Int×Int×Nat→Shared→Prop} (hs:s.heap.IsSliceOf sl vl vu .none) (pl:IsPart vl lo) (pu:IsPart vu hi)
 (h:Q (((sIx n 0 lo:Nat):Int),1,sIx n n hi - sIx n 0 lo) s):wpAny (model prog w) A (Builtin.Slice.sliceApplied (.ref sl) (pure (n:Int))) Q E s:=by
 obtain ⟨os,hos,hcs,hds⟩:=id hs
 unfold Builtin.Slice.sliceApplied Builtin.Slice.sliceFields
 refine wpAny_bind (wpAny_bind (wpAny_field hos hds (x:=vl) rfl (wpAny_bind (wpAny_field hos hds (x:=vu) rfl (wpAny_bind (wpAny_field hos hds (x:=.none) rfl (wpAny_pure ?_)))))))
 refine wpAny_bind (slicePart_none ?_)
 show wpAny _ _ (if ((1:Int)==0)=true then _ else _) _ _ s
 rw [if_neg (by decide)]
 refine wpAny_bind (Pz pl (wpAny_bind (Pz pu (wpAny_bind (wpAny_pure ?_)))))
 show wpAny _ _ (match Builtin.Slice.sliceAdjust lo hi 1 (n:Int) with |(lo,hi)=>pure (lo,(1:Int),Builtin.Slice.slicePlaces lo hi 1)) _ _ s
 rw [XU lo hi n]
 show wpAny _ _ (pure (((sIx n 0 lo:Nat):Int),(1:Int),Builtin.Slice.slicePlaces ((sIx n 0 lo:Nat):Int) ((sIx n n hi:Nat):Int) 1)) _ _ s
 rw [XW]
 exact wpAny_pure h
theorem XX (xs:Array Value) (i k:Nat):((List.range k).filterMap fun (m:Nat)=>xs[((i:Int)+(m:Int)*1).toNat]?).toArray=((xs.toList.drop i).take k).toArray:=by
 have e:(fun (m:Nat)=>xs[((i:Int)+(m:Int)*1).toNat]?)=fun m=>xs[i+m]?:=by
  funext m
  have:((i:Int)+(m:Int)*1).toNat=i+m:=by omega
  rw [this]
 rw [e]
 have:=pick_run xs i k
 rw [List.filterMap_map] at this
 have e2:((fun x=>xs[x]?)∘fun x=>i+x)=fun m=>xs[i+m]?:=rfl
 rw [e2] at this
 rw [this]
theorem getItem_tuple_cut {t sl:Addr} {items:Array Value} {vl vu:Value} {lo hi:Option Int} {Q:Value→Shared→Prop} (ht:IsTup s.heap t items) (hs:s.heap.IsSliceOf sl vl vu .none) (pl:IsPart vl lo) (pu:IsPart vu hi)
 (hw:¬(sIx items.size 0 lo=0∧sIx items.size items.size hi=items.size))
 (h:Q (.ref s.heap.objs.size) {s with heap:=s.heap.push {cls:=.type "tuple",data:=.seq ((items.toList.drop (sIx items.size 0 lo)).take (sIx items.size items.size hi - sIx items.size 0 lo)).toArray}})
 (hsz:items.size≤sizeLine):wpAny (model prog w) A (getItem (.ref t) (.ref sl)) Q E s:=by
 have htake:sizeOk (.seq ((items.toList.drop (sIx items.size 0 lo)).take (sIx items.size items.size hi - sIx items.size 0 lo)).toArray):=by
  show ((items.toList.drop (sIx items.size 0 lo)).take (sIx items.size items.size hi - sIx items.size 0 lo)).toArray.size≤sizeLine
  rw [AW,Jw,List.length_drop,Array.length_toList]
  omega
 have hj:sIx items.size items.size hi≤items.size:=XT _ _ (AG _) hi
 obtain ⟨os,hos,hcs,hds⟩:=id hs
 have hTs:s.TypeIs (.ref sl) "slice":=⟨os,hos,hcs⟩
 unfold getItem
 try with_reducible refine wpAny_holding ?_
 first |refine wpAny_bind (wpAny_pure ?_) |skip
 refine wpAny_bind (wpAny_sequenceKey ht.typeIs (by decide) ?_)
 refine wpAny_bind (wpAny_callSpecial?_slot (name:=Str.ofString "__getitem__") ht.typeIs PyProof.Rows.slot_tuple_getitem
  (wpAny_call_entry PyProof.Rows.slot_tuple_getitem ht.typeIs entry_tuple_getitem ?_ (args_tuple_getitem _ _)))
 show wpAny _ _ (Builtin.Tuple.tupleItemsOf (.ref t) >>=_) _ _ s
 refine wpAny_bind (tupleItemsOf_ ht ?_)
 refine wpAny_bind (wpAny_typeOf hTs ?_)
 rw [if_pos (by decide)]
 refine wpAny_bind (sliceApplied_gen hs pl pu ?_)
 have hno:¬((((sIx items.size 0 lo:Nat):Int)==0&&(1:Int)==1&&(sIx items.size items.size hi - sIx items.size 0 lo)==items.size)=true):=by
  intro q
  rw [CI,CI] at q
  have q1:((sIx items.size 0 lo:Nat):Int)=0:=eq_of_beq q.1.1
  have q2:sIx items.size items.size hi - sIx items.size 0 lo=items.size:=eq_of_beq q.2
  exact hw ⟨by omega,by omega⟩
 show wpAny _ _ (if (((sIx items.size 0 lo:Nat):Int)==0&&(1:Int)==1&&(sIx items.size items.size hi - sIx items.size 0 lo)==items.size)=true then _ else _) _ _ s
 rw [if_neg hno,XX]
 first
  |exact wpAny_bind (m:=Builtin.Tuple.tupleExact _) (wpAny_newObj_type (wpAny_pure ⟨_,rfl,wpAny_pure h⟩) htake)
  |exact wpAny_bind (m:=Builtin.Tuple.tupleExact _) (wpAny_newObj_type (wpAny_bind (wpAny_pure (wpAny_pure ⟨_,rfl,wpAny_pure h⟩))) htake)
  |exact wpAny_bind (wpAny_bind (m:=Builtin.Tuple.tupleExact _) (wpAny_newObj_type (wpAny_pure (wpAny_pure ⟨_,rfl,wpAny_pure h⟩)) htake))
  |exact wpAny_bind (wpAny_bind (m:=Builtin.Tuple.tupleExact _) (wpAny_newObj_type (wpAny_pure ⟨_,rfl,wpAny_pure h⟩) htake))
end
end HT
namespace L2
open PySem PySem.Spec PyProof.Rows
abbrev TO:=St→Hp→(Option Int→Hp→Prop)→Prop
def PO (X:Cx) (e:Option Expr) (t:TO):Prop:=
 ∀(pins:List (Addr×Obj)) (s:Shared) (σ:St) (H:Hp) (Q:Option Int→Hp→Prop),Inv X pins σ H s→t σ H Q→
  wpAny (model X.prog X.w) X.A (evalPart e X.env) (fun u s'=>∃o H',Inv X pins σ H' s'∧IsPart u o∧Q o H') X.xe s
def XY:TO:=fun _ H Q=>Q none H
def XZ (t:TE):TO:=fun σ H Q=>t σ H fun x H1=>∃i,x=.int i∧Q (some i) H1
section
variable {X:Cx} {e:Expr} {te:TE} {lo hi:Option Expr} {tl th:TO} {pos p2:Pos}
theorem X0:PO X none XY:=by
 intro pins s σ H Q I h
 rw [evalPart_none]
 exact wpAny_pure ⟨none,H,I,.none,h⟩
theorem X1 (h:PE X e te):PO X (some e) (XZ te):=by
 intro pins s σ H Q I hw
 rw [evalPart_some]
 refine Ap (h pins s σ H _ I hw) fun u s1 z84_=>?_
 obtain ⟨x,H1,I1,r1,q1⟩:=z84_
 obtain ⟨i,rfl,q⟩:=q1
 obtain ⟨t,rfl⟩:=r1
 exact ⟨some i,H1,I1,.int i t,q⟩
def SlR (X:Cx) (r:V→Option Int→Option Int→Hp→VK→Prop):Prop:=
 ∀(pins:List (Addr×Obj)) (s:Shared) (σ:St) (H:Hp) (x:V) (v vl vu:Value) (lo hi:Option Int) (sl:Addr) (Q:VK),Inv X pins σ H s→RelV x v→s.heap.IsSliceOf sl vl vu .none→IsPart vl lo→IsPart vu hi→r x lo hi H Q→
  ∃T id,typeLookup (.type T) "__getitem__"=pure (some (.builtin id))∧s.TypeIs v T∧wpAny (model X.prog X.w) X.A (getItem v (.ref sl)) (EP X pins σ Q) X.xe s
theorem SlR.or {r r':V→Option Int→Option Int→Hp→VK→Prop} (h:SlR X r) (h':SlR X r'):SlR X (fun x lo hi H Q=>r x lo hi H Q∨r' x lo hi H Q):=by
 intro pins s σ H x v vl vu lo hi sl Q I rx hs pl pu q
 rcases q with q |q
 ·exact h pins s σ H x v vl vu lo hi sl Q I rx hs pl pu q
 ·exact h' pins s σ H x v vl vu lo hi sl Q I rx hs pl pu q
def X2 (r:V→Option Int→Option Int→Hp→VK→Prop) (te:TE) (tl th:TO):TE:=fun σ H Q=>te σ H fun x H1=>tl σ H1 fun l H2=>th σ H2 fun u H3=>r x l u H3 Q
theorem X3 {r:V→Option Int→Option Int→Hp→VK→Prop} (hr:SlR X r) (he:PE X e te) (hl:PO X lo tl) (hu:PO X hi th):PE X (.Subscript e (.Slice lo hi none p2) pos) (X2 r te tl th):=by
 intro pins s σ H Q I h
 refine Subscript_ (Ap (he pins s σ H _ I h) fun v s1 z85_=>?_)
 obtain ⟨x,H1,I1,r1,q1⟩:=z85_
 refine wpAny_Slice (Ap (hl pins s1 σ H1 _ I1 q1) ?_)
 rintro vl s2 ⟨l,H2,I2,pl,q2⟩
 refine Ap (hu pins s2 σ H2 _ I2 q2) fun vu s3 z87_=>?_
 obtain ⟨u,H3,I3,pu,q3⟩:=z87_
 rw [evalPart_none]
 refine wpAny_pure ?_
 have I4:Inv X pins σ H3 {s3 with heap:=s3.heap.push {cls:=.type "slice",data:=.fields #[vl,vu,.none]}}:=I3.kept (t':=s3.toks) fun b ob q=>AB _ q
 obtain ⟨T,id,hT,ht,hg⟩:=hr pins {s3 with heap:=s3.heap.push {cls:=.type "slice",data:=.fields #[vl,vu,.none]}} σ H3 x v vl vu l u s3.heap.objs.size Q I4 r1 (Heap.IsSliceOf.new ..) pl pu q3
 show wpAny (model X.prog X.w) X.A (subscriptTail e (.Slice lo hi none p2) v (.ref s3.heap.objs.size)) (EP X pins σ Q) X.xe {s3 with heap:=s3.heap.push {cls:=.type "slice",data:=.fields #[vl,vu,.none]}}
 exact tail_any (ops:=[.ref s3.heap.objs.size,v]) ht hT hg (by with_unfolding_all rfl)
def GH (xs:List V) (lo hi:Option Int):List V:=(xs.drop (HT.sIx xs.length 0 lo)).take (HT.sIx xs.length xs.length hi - HT.sIx xs.length 0 lo)
theorem X4 (xs:List V) (lo hi:Option Int):(GH xs lo hi).length≤xs.length:=by
 unfold GH
 rw [Jw,List.length_drop]
 omega
def X5 (K:PySem.W.Frag):V→Option Int→Option Int→Hp→VK→Prop:=fun x lo hi H Q=>∃a xs,x=.ref a∧SqT K H a xs∧
 ¬(HT.sIx xs.length 0 lo=0∧HT.sIx xs.length xs.length hi=xs.length)∧∀p,H p=none→Q (.ref p) (Ak H p (.tup (GH xs lo hi)))
theorem X6:SlR X (X5 X.K):=by
 intro pins s σ H x v vl vu lo hi sl Q I rx hs pl pu h
 obtain ⟨a,xs,rfl,hx,hw,q⟩:=h
 cases rx
 obtain ⟨its,r,ht,hz⟩:=I.tuple hx
 have hlen:its.toArray.size=xs.length:=by rw [AW];exact r.length.symm
 refine ⟨"tuple",_,PyProof.Rows.slot_tuple_getitem.lookup,ht.typeIs,?_⟩
 refine HT.getItem_tuple_cut ht hs pl pu (by rw [hlen];exact hw) ?_ (by rw [hlen];exact hz)
 rw [hlen]
 refine ⟨.ref s.heap.objs.size,_,I.laid (t':=s.toks) (o:=.tup (GH xs lo hi)) (fun b ob q=>AB _ q) (AG _) ?_,rfl,q _ (I.hok.fresh (AG _))⟩
 exact ⟨BW (X4 xs lo hi) hz,_,(r.drop (HT.sIx xs.length 0 lo)).take (HT.sIx xs.length xs.length hi - HT.sIx xs.length 0 lo),IsTup.new _ _,NoDict.new⟩
def X7 (K:PySem.W.Frag):R2:=fun x y H Q=>∃a b xs ys,x=.ref a∧y=.ref b∧SqT K H a xs∧SqT K H b ys∧xs≠[]∧xs.length+ys.length≤sizeLine∧
 (ys=[]→Q (.ref a) H)∧(ys≠[]→∀p,H p=none→Q (.ref p) (Ak H p (.tup (xs++ys))))
theorem Vals.nil_iff {xs:List V} {us:List Value} (r:Vals xs us):us=[]↔xs=[]:=by
 cases r with
 |nil=>simp
 |cons _ _=>simp
theorem op_catT:OpR X (binaryOp .Add) (X7 X.K):=by
 intro pins s σ H x y v u Q I rx ry h
 obtain ⟨a,b,xs,ys,rfl,rfl,ha,hb,hx,hz,q1,q2⟩:=h
 cases rx
 cases ry
 obtain ⟨its,r1,p1,_⟩:=I.tuple ha
 obtain ⟨its2,r2,p2,_⟩:=I.tuple hb
 refine HT.cat_tup p1 p2 (fun z=>hx (r1.nil_iff.mp z)) (fun z=>⟨.ref a,H,I,rfl,q1 (r2.nil_iff.mp z)⟩) (fun z=>?_) (by rw [←r1.length,←r2.length];exact hz)
 refine ⟨.ref s.heap.objs.size,_,I.laid (t':=s.toks) (o:=.tup (xs++ys)) (fun b ob q=>AB _ q) (AG _) ?_,rfl,q2 (fun w=>z (r2.nil_iff.mpr w)) _ (I.hok.fresh (AG _))⟩
 exact ⟨by rw [FO];exact hz,_,r1.append r2,IsTup.new _ _,NoDict.new⟩
end
def CF (n:Nat) (i:Int):Option Nat:=if 0≤i then (if i<n then some i.toNat else none) else if -(n:Int)≤i then some (i+n).toNat else none
def Ci {α:Type} (xs:List α) (i:Int):Option α:=(CF xs.length i).bind fun j=>xs[j]?
theorem PB {n:Nat} {i:Int} {j:Nat} (h:CF n i=some j):seqIndex? i n=some j∧j<n∧-(n:Int)≤i∧i<n:=by
 unfold CF at h
 by_cases h0:0≤i
 ·rw [if_pos h0] at h
  by_cases h1:i<n
  ·rw [if_pos h1] at h
   have e:i.toNat=j:=Option.some.inj h
   exact ⟨by rw [seqIndex_of h0 h1,e],by omega,by omega,h1⟩
  ·rw [if_neg h1] at h;cases h
 ·rw [if_neg h0] at h
  by_cases h1:-(n:Int)≤i
  ·rw [if_pos h1] at h
   have e:(i+n).toNat=j:=Option.some.inj h
   exact ⟨by rw [seqIndex_neg (by omega) h1,e],by omega,h1,by omega⟩
  ·rw [if_neg h1] at h;cases h
theorem PC {α:Type} {xs:List α} {i:Int} {v:α} (h:Ci xs i=some v):∃j,seqIndex? i xs.length=some j∧xs[j]?=some v∧j<xs.length∧-(xs.length:Int)≤i∧i<xs.length:=by
 unfold Ci at h
 cases e:CF xs.length i with
 |none=>rw [e] at h;cases h
 |some j=>
  rw [e] at h
  obtain ⟨h1,h2,h3,h4⟩:=PB e
  exact ⟨j,h1,h,h2,h3,h4⟩
def PD (b:Expr):Prop:=∀o i,subscripted b false o i=operate [o,i] (getItem o i)
def IxR (X:Cx) (r:R2):Prop:=
 ∀(value slice:Expr) (pins:List (Addr×Obj)) (s:Shared) (σ:St) (H:Hp) (x y:V) (v u:Value) (Q:VK),Inv X pins σ H s→RelV x v→RelV y u→r x y H Q→
  subscripted slice false v u=operate [v,u] (getItem v u)→wpAny (model X.prog X.w) X.A (subscriptTail value slice v u) (EP X pins σ Q) X.xe s
def JN (X:Cx) (id:String) (r:V→List V→Hp→VK→Prop):Prop:=
 ∀(pins:List (Addr×Obj)) (s:Shared) (σ:St) (H:Hp) (x:V) (xs:List V) (v:Value) (us:List Value) (Q:VK),Inv X pins σ H s→RelV x v→Vals xs us→r x xs H Q→
  wpAny (model X.prog X.w) X.A (call (.builtin id) (v::us)) (EP X pins σ Q) X.xe s
section
variable {X:Cx} {a b:Expr} {ta tb:TE} {pos:Pos}
theorem IxR.or {r r':R2} (h:IxR X r) (h':IxR X r'):IxR X (fun x y H Q=>r x y H Q∨r' x y H Q):=by
 intro value slice pins s σ H x y v u Q I rx ry q hs
 rcases q with q |q
 ·exact h value slice pins s σ H x y v u Q I rx ry q hs
 ·exact h' value slice pins s σ H x y v u Q I rx ry q hs
theorem X8 {r:R2} (hr:IxR X r) (ha:PE X a ta) (hb:PE X b tb) (hs:PD b):PE X (.Subscript a b pos) (JH r ta tb):=by
 intro pins s σ H Q I h
 exact Subscript_ (My ha hb I h fun v u s2 x y H2 I2 rx ry q=>hr a b pins s2 σ H2 x y v u Q I2 rx ry q (hs _ _))
def X9 (K:PySem.W.Frag):R2:=fun x y H Q=>∃p xs i v,x=.ref p∧y=.int i∧SqL K H p xs∧Ci xs i=some v∧Q v H
def Yb (K:PySem.W.Frag):R2:=fun x y H Q=>∃p xs i v,x=.ref p∧y=.int i∧SqT K H p xs∧Ci xs i=some v∧Q v H
theorem ix_list:IxR X (X9 X.K):=by
 intro value slice pins s σ H x y v u Q I rx ry h hs
 obtain ⟨p,xs,i,z,rfl,rfl,hq,he,q⟩:=h
 cases rx
 obtain ⟨t,rfl⟩:=ry
 obtain ⟨its,r,pl,hz⟩:=I.list hq
 obtain ⟨j,h1,h2,h3,h4,h5⟩:=PC he
 obtain ⟨w,ew,rw'⟩:=r.get h2
 have hl:=r.length
 have hn:=GG
 have AQ:EP X pins σ Q w s:=⟨z,H,I,rw',q⟩
 by_cases h0:0≤i
 ·have hj:i.toNat=j:=by
   rw [seqIndex_of h0 h5] at h1
   exact Option.some.inj h1
  exact item_listR pl.isList h0 (by omega) (by rw [hj];simpa using ew) AQ hs
 ·have hj:(i+(its.toArray.size:Int)).toNat=j:=by
   rw [seqIndex_neg (by omega) h4] at h1
   rw [AW,←hl]
   exact Option.some.inj h1
  exact subscriptTail_builtinR (x:=w) pl.isList.typeIs slot_list_getitem.lookup
   (wpAny_getItem_list_neg (Q:=fun r s'=>r=w∧EP X pins σ Q r s') pl.isList (by omega) (by rw [AW]<;>omega) (by omega) (by rw [hj];simpa using ew) ⟨rfl,AQ⟩) hs
theorem ix_tup:IxR X (Yb X.K):=by
 intro value slice pins s σ H x y v u Q I rx ry h hs
 obtain ⟨p,xs,i,z,rfl,rfl,hq,he,q⟩:=h
 cases rx
 obtain ⟨t,rfl⟩:=ry
 obtain ⟨its,r,pl,hz⟩:=I.tuple hq
 obtain ⟨j,h1,h2,h3,h4,h5⟩:=PC he
 obtain ⟨w,ew,rw'⟩:=r.get h2
 have hl:=r.length
 have hn:=GG
 have AQ:EP X pins σ Q w s:=⟨z,H,I,rw',q⟩
 exact subscriptTail_builtinR (x:=w) pl.typeIs slot_tuple_getitem.lookup
  (getItem_tuple (j:=j) (Q:=fun r s'=>r=w∧EP X pins σ Q r s') pl (by omega) (by omega) (by rw [AW,←hl];exact h1) (by simpa using ew) ⟨rfl,AQ⟩) hs
theorem Yc (its:List Value) (n j:Nat) (u:Value):Obj.mapSeq (·.setIfInBounds j u) {cls:=.type "list",data:=.seq its.toArray n}={cls:=.type "list",data:=.seq (its.set j u).toArray n}:=by
 simp [Obj.mapSeq]
theorem Inv.lst {pins:List (Addr×Obj)} {σ:St} {H:Hp} {s:Shared} {p:Addr} {xs:List V} (I:Inv X pins σ H s) (h:H p=some (.lst xs)):
 ∃(its:List Value) (n:Nat),Vals xs its∧s.heap.get? p=some {cls:=.type "list",data:=.seq its.toArray n}∧xs.length≤sizeLine:=by
 obtain ⟨z,its,n,r,e⟩:=I.hok p _ h
 exact ⟨its,n,r,e,z⟩
theorem Inv.lstUpd {pins:List (Addr×Obj)} {σ:St} {H:Hp} {s:Shared} {p:Addr} {xs ys:List V} {its its':List Value} {n n':Nat} {f:Obj→Obj} (I:Inv X pins σ H s) (h:H p=some (.lst xs))
 (ho:s.heap.get? p=some {cls:=.type "list",data:=.seq its.toArray n}) (hf:f {cls:=.type "list",data:=.seq its.toArray n}={cls:=.type "list",data:=.seq its'.toArray n'}) (r:Vals ys its') (hz:ys.length≤sizeLine) (t:Nat):
 Inv X pins σ (Ak H p (.lst ys)) {s with heap:=s.heap.update p f,toks:=t}:=by
 have e:(s.heap.update p f).get? p=some {cls:=.type "list",data:=.seq its'.toArray n'}:=by
  rw [Mi f ho (by rw [hf]<;>rfl),hf]
 refine I.write (x:=p) (e:=p) (by rw [h];trivial) (.inl rfl) (fun b u hb q=>(Mh _ _ (Ne.symm hb)).trans q) ⟨_,e⟩ ?_
 exact ⟨hz,its',n',r,e⟩
def Yd:V→V→V→Hp→(Hp→Prop)→Prop:=fun o i v H Q=>∃p xs k j,o=.ref p∧i=.int k∧H p=some (.lst xs)∧CF xs.length k=some j∧Q (Ak H p (.lst (xs.set j v)))
theorem Ye:Pa X Yd:=by
 intro pins s σ H o i v ov iv u Q I ro ri rv h
 obtain ⟨p,xs,k,j,rfl,rfl,hp,hj,q⟩:=h
 cases ro
 obtain ⟨t,rfl⟩:=ri
 obtain ⟨its,n,r,ho,hz⟩:=I.lst hp
 obtain ⟨h1,h2,h3,h4⟩:=PB hj
 have hl:=r.length
 have hn:=GG
 have I':Inv X pins σ (Ak H p (.lst (xs.set j v))) {s with heap:=s.heap.update p (Obj.mapSeq (·.setIfInBounds j u))}:=
  I.lstUpd hp ho (Yc its n j u) (r.set rv j) (by rw [Jz];exact hz) s.toks
 by_cases h0:0≤k
 ·have hk:k.toNat=j:=by
   rw [seqIndex_of h0 h4] at h1
   exact Option.some.inj h1
  exact PySem.W.ki_setAt ho h0 (by omega) (by rw [AW,←hl];exact h4) (by rw [hk];exact ⟨_,I',q⟩)
 ·have hk:(k+(its.toArray.size:Int)).toNat=j:=by
   rw [seqIndex_neg (by omega) h3] at h1
   rw [AW,←hl]
   exact Option.some.inj h1
  exact PySem.W.ki_setBack ho (by omega) (by rw [AW,←hl];exact h3) (by omega) (by rw [hk];exact ⟨_,I',q⟩)
def Ds:V→Bool
 |.non=>true
 |.bl _=>true
 |.int _=>true
 |.str _=>true
 |_=>false
def Dh:V→V→Bool
 |.non,.non=>true
 |.bl a,.bl b=>a==b
 |.bl a,.int b=>(if a then 1 else 0)==b
 |.int a,.bl b=>a==(if b then 1 else 0)
 |.int a,.int b=>a==b
 |.str a,.str b=>a==b
 |_,_=>false
theorem Yg {A:Around} {s:Shared} {y x:V} {u v:Value} (ry:RelV y u) (rx:RelV x v) (fy:Ds y=true) (fx:Ds x=true):SeqAt.EqAt A s u v (Dh y x):=by
 cases y with
 |non=>
  cases ry
  cases x with
  |non=>cases rx;exact SeqAt.EqAt.same _
  |bl b=>cases rx;exact SeqAt.EqAt.none_bool b
  |int b=>obtain ⟨t,rfl⟩:=rx;exact SeqAt.EqAt.none_int b t
  |str b=>obtain ⟨t,rfl⟩:=rx;exact SeqAt.EqAt.none_str b t
  |_=>exact absurd (show false=true from fx) Bl
 |bl a=>
  cases ry
  cases x with
  |non=>cases rx;exact SeqAt.EqAt.bool_none a
  |bl b=>cases rx;exact SeqAt.EqAt.bool_bool a b
  |int b=>obtain ⟨t,rfl⟩:=rx;exact SeqAt.EqAt.bool_int a b t
  |str b=>obtain ⟨t,rfl⟩:=rx;exact SeqAt.EqAt.bool_str a b t
  |_=>exact absurd (show false=true from fx) Bl
 |int a=>
  obtain ⟨t',rfl⟩:=ry
  cases x with
  |non=>cases rx;exact SeqAt.EqAt.int_none a t'
  |bl b=>cases rx;exact SeqAt.EqAt.int_bool a t' b
  |int b=>obtain ⟨t,rfl⟩:=rx;exact SeqAt.EqAt.int_int a t' b t
  |str b=>obtain ⟨t,rfl⟩:=rx;exact SeqAt.EqAt.int_str a t' b t
  |_=>exact absurd (show false=true from fx) Bl
 |str a=>
  obtain ⟨t',rfl⟩:=ry
  cases x with
  |non=>cases rx;exact SeqAt.EqAt.str_none a t'
  |bl b=>cases rx;exact SeqAt.EqAt.str_bool a t' b
  |int b=>obtain ⟨t,rfl⟩:=rx;exact SeqAt.EqAt.str_int a t' b t
  |str b=>obtain ⟨t,rfl⟩:=rx;exact SeqAt.EqAt.str_str a t' b t
  |_=>exact absurd (show false=true from fx) Bl
 |_=>exact absurd (show false=true from fy) Bl
def B7 (x:V) (u:Value):Bool:=match u with
 |.none=>Dh .non x
 |.bool b=>Dh (.bl b) x
 |.int i _=>Dh (.int i) x
 |.str z _=>Dh (.str z) x
 |_=>false
theorem JO {x y:V} {u:Value} (r:RelV y u) (f:Ds y=true):B7 x u=Dh y x:=by
 cases y with
 |non=>cases r;rfl
 |bl b=>cases r;rfl
 |int i=>obtain ⟨t,rfl⟩:=r;rfl
 |str z=>obtain ⟨t,rfl⟩:=r;rfl
 |_=>exact absurd (show false=true from f) Bl
theorem HN {x:V}:∀{xs:List V} {us:List Value},Vals xs us→xs.all Ds=true→us.any (B7 x)=xs.any fun y=>Dh y x
 |_,_,.nil,_=>rfl
 |y::xs,u::us,.cons r t,f=>by
  rw [List.all_cons,CI] at f
  rw [List.any_cons,List.any_cons,JO r f.1,HN t f.2]
theorem FZ {A:Around} {s:Shared} {x:V} {v:Value} (rx:RelV x v) (fx:Ds x=true):∀{xs:List V} {us:List Value},Vals xs us→xs.all Ds=true→∀u∈us,SeqAt.EqAt A s u v (B7 x u)
 |_,_,.nil,_=>fun u hu=>by cases hu
 |y::xs,u::us,.cons r t,f=>fun u' hu=>by
  rw [List.all_cons,CI] at f
  rcases qa4.mp hu with rfl |hu
  ·rw [JO r f.1];exact Yg r rx f.1 fx
  ·exact FZ rx fx t f.2 u' hu
def EK (x:V) (xs:List V):Bool:=xs.any fun y=>Dh y x
def MN (K:PySem.W.Frag) (neg:Bool):R2:=fun x y H Q=>∃p xs,y=.ref p∧(SqL K H p xs∨SqT K H p xs)∧Ds x=true∧xs.all Ds=true∧Q (.bl (if neg then !EK x xs else EK x xs)) H
theorem Yh:OpR X (compareOp .In) (MN X.K false):=by
 intro pins s σ H x y v u Q I rx ry h
 obtain ⟨p,xs,rfl,hq,fx,fs,q⟩:=h
 cases ry
 rcases hq with hq |hq
 ·obtain ⟨its,r,pl,hz⟩:=I.list hq
  refine SeqAt.in_listAt (B7 x) pl.isList (fun w hw=>FZ rx fx r fs w (by simpa using hw)) ⟨.bl _,H,I,rfl,?_⟩
  rw [show its.toArray.any (B7 x)=its.any (B7 x) by simp,HN r fs]
  exact q
 ·obtain ⟨its,r,pl,hz⟩:=I.tuple hq
  refine SeqAt.in_tupleAt (B7 x) pl (fun w hw=>FZ rx fx r fs w (by simpa using hw)) ⟨.bl _,H,I,rfl,?_⟩
  rw [show its.toArray.any (B7 x)=its.any (B7 x) by simp,HN r fs]
  exact q
theorem Yi:OpR X (compareOp .NotIn) (MN X.K true):=by
 intro pins s σ H x y v u Q I rx ry h
 obtain ⟨p,xs,rfl,hq,fx,fs,q⟩:=h
 cases ry
 rcases hq with hq |hq
 ·obtain ⟨its,r,pl,hz⟩:=I.list hq
  refine SeqAt.notIn_listAt (B7 x) pl.isList (fun w hw=>FZ rx fx r fs w (by simpa using hw)) ⟨.bl _,H,I,rfl,?_⟩
  rw [show its.toArray.any (B7 x)=its.any (B7 x) by simp,HN r fs]
  exact q
 ·obtain ⟨its,r,pl,hz⟩:=I.tuple hq
  refine SeqAt.notIn_tupleAt (B7 x) pl (fun w hw=>FZ rx fx r fs w (by simpa using hw)) ⟨.bl _,H,I,rfl,?_⟩
  rw [show its.toArray.any (B7 x)=its.any (B7 x) by simp,HN r fs]
  exact q
theorem Yj:Dg X (.builtin "len") (fun xs H Q=>∃p ys,xs=[.ref p]∧(SqL X.K H p ys∨SqT X.K H p ys)∧Q (.int ys.length) H):=by
 intro pins s σ H xs us Q I r h
 obtain ⟨p,ys,rfl,hq,q⟩:=h
 obtain ⟨u,rfl,rx⟩:=Ef r
 cases rx
 have hn:=GG
 rcases hq with hq |hq
 ·obtain ⟨its,r',pl,hz⟩:=I.list hq
  have hlen:=r'.length
  exact Calls.call_len_list pl.isList (by simp only [AW]<;>omega) ⟨.int ys.length,H,I.tok _,⟨s.toks+1,by rw [AW,hlen]⟩,q⟩
 ·obtain ⟨its,r',pl,hz⟩:=I.tuple hq
  have hlen:=r'.length
  exact len_tuple pl (by simp only [AW]<;>omega) ⟨.int ys.length,H,I.tok _,⟨s.toks+1,by rw [AW,hlen]⟩,q⟩
theorem Yk:Dg X (.type "list") (fun xs H Q=>∃p ys,xs=[.ref p]∧(SqL X.K H p ys∨SqT X.K H p ys)∧∀l,H l=none→Q (.ref l) (Ak H l (.lst ys))):=by
 intro pins s σ H xs us Q I r h
 obtain ⟨p,ys,rfl,hq,q⟩:=h
 obtain ⟨u,rfl,rx⟩:=Ef r
 cases rx
 have AQ:∀(its:List Value),Vals ys its→ys.length≤sizeLine→∀(h':Heap) (c':Nat),(∀b o',s.heap.get? b=some o'→h'.get? b=some o')→
  h'.get? s.heap.objs.size=some {cls:=.type "list",dict:=none,data:=.seq its.toArray c',slots:=#[]}→EP X pins σ Q (.ref s.heap.objs.size) {s with heap:=h'}:=fun its r' hz h' c' kp e=>
  ⟨.ref s.heap.objs.size,_,I.laid (t':=s.toks) kp (AG _) (show ObjOk X.prog X.w _ h' _ (.lst ys) from ⟨hz,its,c',r',e⟩),rfl,q _ (I.hok.fresh (AG _))⟩
 rcases hq with hq |hq
 ·obtain ⟨its,r',pl,hz⟩:=I.list hq
  have hlen:=r'.length
  obtain ⟨o,ho,hc,n,hd⟩:=pl.isList
  exact call_list_seq p (.inl rfl) ho hc hd (fun h' c' kp e=>AQ its r' hz h' c' kp e) (by simp only [AW]<;>omega)
 ·obtain ⟨its,r',pl,hz⟩:=I.tuple hq
  have hlen:=r'.length
  obtain ⟨o,ho,hc,n,hd⟩:=pl
  exact call_list_seq p (.inr rfl) ho hc hd (fun h' c' kp e=>AQ its r' hz h' c' kp e) (by simp only [AW]<;>omega)
theorem Yl:Dg X (.type "tuple") (fun xs H Q=>∃p ys,xs=[.ref p]∧((SqL X.K H p ys∧∀l,H l=none→Q (.ref l) (Ak H l (.tup ys)))∨(SqT X.K H p ys∧Q (.ref p) H))):=by
 intro pins s σ H xs us Q I r h
 obtain ⟨p,ys,rfl,h⟩:=h
 obtain ⟨u,rfl,rx⟩:=Ef r
 cases rx
 rcases h with ⟨hq,q⟩ |⟨hq,q⟩
 ·obtain ⟨its,r',pl,hz⟩:=I.list hq
  have hlen:=r'.length
  refine call_tuple_list pl.isList (fun h' kp=>?_) (by simp only [AW]<;>omega)
  have I1:Inv X pins σ H {s with heap:=h'}:=I.kept (t':=s.toks) kp
  have I2:Inv X pins σ (Ak H h'.objs.size (.tup ys)) {s with heap:=h'.push {cls:=.type "tuple",data:=.seq its.toArray}}:=
   I1.laid (t':=s.toks) (fun b o e=>AB _ e) (AG _) (show ObjOk X.prog X.w _ _ _ (.tup ys) from ⟨hz,its,r',IsTup.new _ _,NoDict.new⟩)
  exact ⟨.ref h'.objs.size,_,I2,rfl,q _ (I1.hok.fresh (AG _))⟩
 ·obtain ⟨its,r',pl,hz⟩:=I.tuple hq
  exact call_tuple_same pl ⟨.ref p,H,I,rfl,q⟩
def MP (K:PySem.W.Frag) (T:String) (x:V) (H:Hp):Prop:=match x with
 |.str _=>T="str"
 |.int _=>T="int"
 |.ref p=>(T="list"∧∃xs,SqL K H p xs)∨(T="tuple"∧∃o,K.lookup p=some o∧o.cls=.type "tuple"∧o.dict=none)
 |_=>False
theorem MQ {pins:List (Addr×Obj)} {σ:St} {H:Hp} {s:Shared} {T:String} {x:V} {v:Value} (I:Inv X pins σ H s) (r:RelV x v) (ty:MP X.K T x H):
 s.TypeIs v T∧∀a,v=.ref a→∃ob,s.heap.get? a=some ob∧ob.dict=none:=by
 cases x with
 |str z=>
  obtain ⟨t,rfl⟩:=r
  cases (show T="str" from ty)
  exact ⟨typeIs_str s z t,fun _ e=>nomatch e⟩
 |int i=>
  obtain ⟨t,rfl⟩:=r
  cases (show T="int" from ty)
  exact ⟨typeIs_int s i t,fun _ e=>nomatch e⟩
 |ref p=>
  cases r
  rcases ty with ⟨rfl,xs,hq⟩ |⟨rfl,o,hk,hc,hd⟩
  ·obtain ⟨its,_,pl,_⟩:=I.list hq
   refine ⟨pl.isList.typeIs,fun a e=>?_⟩
   cases e
   obtain ⟨o,n,e,c,hd,_⟩:=pl
   exact ⟨o,e,hd⟩
  ·refine ⟨⟨o,I.kIn p o hk,hc⟩,fun a e=>?_⟩
   cases e
   exact ⟨o,I.kIn _ o hk,hd⟩
 |_=>exact False.elim ty
def Ym (K:PySem.W.Frag) (T:String) (r:V→List V→Hp→VK→Prop) (to:TE):TE:=fun σ H Q=>to σ H fun x H1=>MP K T x H1∧r x [] H1 Q
def Yn (K:PySem.W.Frag) (T:String) (r:V→List V→Hp→VK→Prop) (to:TE) (t:TA):TE:=fun σ H Q=>to σ H fun x H1=>MP K T x H1∧t σ H1 fun xs H2=>r x xs H2 Q
variable {o e:Expr} {es:List Expr} {to:TE} {t:TA} {name:Str} {apos cpos:Pos} {T id:String} {r:V→List V→Hp→VK→Prop}
theorem Yo (pa:PlainAttrs T) (slot:Slot T name id) (hty:typeOf (.builtin id)=pure (.type "method_descriptor")) (hm:JN X id r) (ho:PE X o to)
 (hbase:attributeBase o name X.env (eval o X.env)=eval o X.env:=by rfl) (hline:(apos.endLine==cpos.line)=true:=by rfl):PE X (.Call (.Attribute o name apos) [] [] cpos) (Ym X.K T r to):=by
 intro pins s σ H Q I h
 refine wpAny_Call_method0_late hbase hline (Ap (ho pins s σ H _ I h) fun v s1 z88_=>?_)
 obtain ⟨x,H1,I1,r1,ty,q1⟩:=z88_
 obtain ⟨h1,h2⟩:=MQ I1 r1 ty
 exact ⟨T,id,pa,slot,hty,h1,h2,Calls.callWith_builtin rfl (PySem.evalArgs_none (hm pins s1 σ H1 x [] v [] Q I1 r1 .nil q1))⟩
theorem Yp (pa:PlainAttrs T) (slot:Slot T name id) (hty:typeOf (.builtin id)=pure (.type "method_descriptor")) (hm:JN X id r) (ho:PE X o to) (ha:PA X (e::es) t)
 (hbase:attributeBase o name X.env (eval o X.env)=eval o X.env:=by rfl)
 (hfew:((backTo cpos (starEach (e::es) X.env)).all (fun x=>!x.1)&&(backToKw cpos (keywordEach [] X.env)).all (fun x=>x.1.isSome)
  &&decide ((e::es).length+([]:List Keyword).length+(if ([]:List Keyword).isEmpty then 0 else 1)<30))=true:=by rfl)
 (hline:(apos.endLine==cpos.line)=true:=by rfl) (hs:starEach (e::es) X.env=(false,eval e X.env)::starEach es X.env:=by rfl) (hplain:(backTo cpos (starEach es X.env)).any (·.1)=false:=by rfl):
 PE X (.Call (.Attribute o name apos) (e::es) [] cpos) (Yn X.K T r to t):=by
 intro pins s σ H Q I h
 refine wpAny_Call_method_late hbase hfew hline rfl (Ap (ho pins s σ H _ I h) fun v s1 z89_=>?_)
 obtain ⟨x,H1,I1,r1,ty,q1⟩:=z89_
 obtain ⟨h1,h2⟩:=MQ I1 r1 ty
 refine ⟨T,id,pa,slot,hty,h1,h2,?_⟩
 have hA:=ha cpos pins s1 σ H1 _ I1 q1
 rw [hs] at hA ⊢
 refine Calls.callWith_builtin (by show (false||(backTo cpos (starEach es X.env)).any (·.1))=false;rw [hplain]<;>rfl) (Calls.evalArgs_plain ?_)
 exact Ap hA fun us s2 z90_=>by obtain ⟨vs,H2,I2,r2,q2⟩:=z90_;exact (hm pins s2 σ H2 x vs v us Q I2 r1 r2 q2)
end
def PF (X:Cx) (id:String) (r:V→List V→Hp→VK→Prop):Prop:=
 ∀(pins:List (Addr×Obj)) (s:Shared) (σ:St) (H:Hp) (x:V) (xs:List V) (v:Value) (us:List Value) (Q:VK),Inv X pins σ H s→RelV x v→Vals xs us→r x xs H Q→
  wpAny (model X.prog X.w) X.A (call (.builtin id) (v::us)) (EP X pins σ Q) X.xe s
theorem Vals.one {x:V} {us:List Value} (h:Vals [x] us):∃u,us=[u]∧RelV x u:=by
 cases h with
 |cons r t=>cases t;exact ⟨_,rfl,r⟩
theorem Vals.zero:∀{us:List Value},Vals [] us→us=[]
 |_,.nil=>rfl
theorem Vals.dropLast {xs:List V} {us:List Value} (h:Vals xs us):Vals xs.dropLast us.dropLast:=by
 induction h with
 |nil=>exact .nil
 |cons r t ih=>
  cases t with
  |nil=>exact .nil
  |cons q t'=>exact .cons r ih
theorem Vals.reverse {xs:List V} {us:List Value} (h:Vals xs us):Vals xs.reverse us.reverse:=by
 induction h with
 |nil=>exact .nil
 |cons r t ih=>rw [List.reverse_cons,List.reverse_cons];exact Vals.append ih (.cons r .nil)
theorem Vals.rep {xs:List V} {us:List Value} (h:Vals xs us):∀k:Nat,Vals (List.replicate k xs).flatten (List.replicate k us).flatten
 |0=>.nil
 |k+1=>by
  rw [E9,E9,FP,FP]
  exact Vals.append h (Vals.rep h k)
theorem Yq {α:Type} (l:List α):l.eraseIdx (l.length - 1)=l.dropLast:=by
 induction l with
 |nil=>rfl
 |cons a r ih=>
  cases r with
  |nil=>rfl
  |cons b r=>
   have e:(a::b::r).length - 1=((b::r).length - 1)+1:=by
    have h1:(a::b::r).length=r.length+2:=rfl
    have h2:(b::r).length=r.length+1:=rfl
    omega
   rw [e,List.eraseIdx_cons_succ,ih]
   all_goals rfl
theorem JP (its:List Value):∀(k:Nat) (acc:List Value),
 List.foldl (fun x1 x2=>x1++x2) acc.toArray (List.replicate k its.toArray)=(acc++(List.replicate k its).flatten).toArray
 |0,acc=>by simp
 |k+1,acc=>by
  have e:acc.toArray++its.toArray=(acc++its).toArray:=by simp
  have e2:(acc++its)++(List.replicate k its).flatten=acc++(List.replicate (k+1) its).flatten:=by
   rw [E9,FP,Jv]
  rw [←e2,←JP its k (acc++its),←e,E9,List.foldl_cons]
section
variable {X:Cx} {pins:List (Addr×Obj)} {σ:St} {H:Hp} {s:Shared} {l b:Addr} {xs ys zs:List V}
theorem Inv.lset {its its':List Value} {n:Nat} {f:Array Value→Array Value} {t':Nat} (I:Inv X pins σ H s) (hH:H l=some (.lst xs))
 (e:s.heap.get? l=some {cls:=.type "list",data:=.seq its.toArray n}) (hf:f its.toArray=its'.toArray) (hv:Vals ys its') (hz:ys.length≤sizeLine):
 Inv X pins σ (Ak H l (.lst ys)) {s with heap:=s.heap.update l (Obj.mapSeq f),toks:=t'}:=by
 have q:=PySem.IsL.update e f
 rw [hf] at q
 refine I.write (x:=l) (e:=l) (by rw [hH];exact trivial) (.inl rfl) (fun b' u hb hu=>(Mh s.heap (Obj.mapSeq f) (Ne.symm hb)).trans hu) ⟨_,q⟩ ?_
 exact ⟨hz,its',_,hv,q⟩
theorem Inv.lnew {its:List Value} {t':Nat} (I:Inv X pins σ H s) (hv:Vals ys its) (hz:ys.length≤sizeLine):
 Inv X pins σ (Ak H s.heap.objs.size (.lst ys)) {s with heap:=s.heap.push {cls:=.type "list",data:=.seq its.toArray},toks:=t'}:=
 I.laid (fun _ _ q=>AB _ q) (AG _) ⟨hz,its,0,hv,Bf _ rfl⟩
theorem Inv.fresh (I:Inv X pins σ H s):H s.heap.objs.size=none:=I.hok.fresh (AG _)
theorem Inv.lstM (I:Inv X pins σ H s) (hH:H l=some (.lst xs)):xs.length≤sizeLine∧∃(its:List Value) (n:Nat),Vals xs its∧xs.length=its.length∧s.heap.get? l=some {cls:=.type "list",data:=.seq its.toArray n}:=by
 obtain ⟨z,its,n,r,e⟩:=I.hok l _ hH
 exact ⟨z,its,n,r,r.length,e⟩
theorem Yr {n:Nat} (h:n≤sizeLine):Builtin.List.listTooLong n=false:=by
 unfold Builtin.List.listTooLong
 exact decide_eq_false (by omega)
end
section
variable {X:Cx}
def Ys:V→List V→Hp→VK→Prop:=fun x vs H Q=>∃l xs y,x=.ref l∧vs=[y]∧H l=some (.lst xs)∧xs.length<sizeLine∧Q .non (Ak H l (.lst (xs++[y])))
theorem Yt:PF X "list.append" Ys:=by
 intro pins s σ H x vs v us Q I rx rv h
 obtain ⟨l,xs,y,rfl,rfl,hH,hz,q⟩:=h
 cases rx
 obtain ⟨u,rfl,ru⟩:=rv.one
 obtain ⟨z,its,n,r,hl,e⟩:=I.lstM hH
 refine call_meets F.slot_list_append ⟨_,e,rfl⟩ F.entry_list_append (F.args_list_append_2 _ _) (PySem.list_append l its.toArray n u (by rw [AW];omega)) ⟨e,?_⟩
 refine ⟨.non,_,I.lset (its':=its++[u]) hH e (by simp) (r.append (.cons ru .nil)) ?_,rfl,q⟩
 rw [FO,List.length_singleton]
 omega
def Yu:V→List V→Hp→VK→Prop:=fun x vs H Q=>∃l xs y,x=.ref l∧vs=[]∧H l=some (.lst xs)∧xs[xs.length - 1]?=some y∧Q y (Ak H l (.lst xs.dropLast))
theorem Yv:PF X "list.pop" Yu:=by
 intro pins s σ H x vs v us Q I rx rv h
 obtain ⟨l,xs,y,rfl,rfl,hH,hy,q⟩:=h
 cases rx
 have hus:=rv.zero
 subst hus
 obtain ⟨z,its,n,r,hl,e⟩:=I.lstM hH
 obtain ⟨u,hu,ru⟩:=r.get hy
 have hy':its.toArray[its.toArray.size - 1]?=some u:=by
  show its.toArray[its.length - 1]?=some u
  rw [←Array.getElem?_toList,←hl]
  exact hu
 refine call_meets F.slot_list_pop ⟨_,e,rfl⟩ F.entry_list_pop (F.args_list_pop_1 _) (MeetsSeq.list_pop_last l its.toArray n u hy' (by rw [AW];omega)) ⟨e,?_⟩
 refine ⟨y,_,I.lset (its':=its.dropLast) hH e ?_ r.dropLast ?_,ru,q⟩
 ·show its.toArray.eraseIdxIfInBounds (its.toArray.size - 1)=its.dropLast.toArray
  rw [AW,List.eraseIdxIfInBounds_toArray,Yq]
 ·rw [List.length_dropLast]
  omega
def Yw:R2:=fun x y H Q=>∃l b xs zs,x=.ref l∧y=.ref b∧H l=some (.lst xs)∧H b=some (.lst zs)∧xs.length+zs.length≤sizeLine∧∀p,H p=none→Q (.ref p) (Ak H p (.lst (xs++zs)))
theorem op_cat:OpR X (binaryOp .Add) Yw:=by
 intro pins s σ H x y v u Q I rx ry h
 obtain ⟨l,b,xs,zs,rfl,rfl,hH,hB,hz,q⟩:=h
 cases rx
 cases ry
 obtain ⟨z,its,n,r,hl,e⟩:=I.lstM hH
 obtain ⟨z2,its2,n2,r2,hl2,e2⟩:=I.lstM hB
 refine PySem.P.add_list e e2 ?_ (by rw [AW,AW];omega)
 have ea:its.toArray++its2.toArray=(its++its2).toArray:=by simp
 rw [ea]
 exact ⟨.ref _,_,I.lnew (t':=s.toks) (r.append r2) (by rw [FO];omega),rfl,q _ I.fresh⟩
def Yx:R2:=fun x y H Q=>∃l k xs,x=.ref l∧y=.int k∧H l=some (.lst xs)∧-(2^63)≤k∧k<2^63∧xs.length*k.toNat≤sizeLine∧
 ∀p,H p=none→Q (.ref p) (Ak H p (.lst (List.replicate k.toNat xs).flatten))
theorem JQ {α:Type} (xs:List α) (k:Nat):(List.replicate k xs).flatten.length=k*xs.length:=by
 induction k with
 |zero=>simp
 |succ k ih=>rw [E9,FP,FO,ih,Nat.succ_mul,Nat.add_comm]
theorem Yy:OpR X (binaryOp .Mult) Yx:=by
 intro pins s σ H x y v u Q I rx ry h
 obtain ⟨l,k,xs,rfl,rfl,hH,h1,h2,hz,q⟩:=h
 cases rx
 obtain ⟨t,rfl⟩:=ry
 obtain ⟨z,its,n,r,hl,e⟩:=I.lstM hH
 have hlen:its.toArray.size*k.toNat≤sizeLine:=by rw [AW,←hl];exact hz
 have hcap:¬its.toArray.size*k.toNat>(2^63 - 1) / 8:=by
  have:(sizeLine:Nat)≤(2^63 - 1) / 8:=by decide
  omega
 have hfit:¬(!Builtin.List.listFitsIndex k)=true:=by
  rw [fitsIndex_both h1 h2]
  exact Bl
 have hlong:¬Builtin.List.listTooLong (its.toArray.size*k.toNat)=true:=by
  rw [Yr hlen]
  exact Bl
 have hnew:List.foldl (fun x1 x2=>x1++x2) #[] (List.replicate (if its.toArray.isEmpty=true then 0 else k.toNat) its.toArray)=(List.replicate k.toNat its).flatten.toArray:=by
  have f0:∀m:Nat,List.foldl (fun x1 x2=>x1++x2) #[] (List.replicate m its.toArray)=(List.replicate m its).flatten.toArray:=fun m=>by
   have:=JP its m []
   rw [JA] at this
   exact this
  rw [f0]
  cases its with
  |nil=>simp
  |cons a r'=>rw [if_neg (by simp)]
 refine wpAny_binaryOp_repeat_ref (T:="list") (U:="int") (by decide) ⟨_,e,rfl⟩ (fun s'=>typeIs_int s' k t) noFill_list_mul F.fills_int_mul F.slot_int_rmul repeat_list F.slot_int_index.lookup
  (call_meets F.slot_int_rmul (typeIs_int s k t) F.entry_int_rmul (F.args_int_rmul_2 _ _) (int___rmul___int_list k t l its.toArray n)
   ⟨e,rfl,⟨_,e,rfl⟩,call_meets F.slot_list_mul ⟨_,e,rfl⟩ F.entry_list_mul (F.args_list_mul_2 _ _) (AutoListH.list___mul___list_int_3 l its.toArray n k t hfit hcap hlong) ⟨e,?_⟩⟩)
 rw [hnew]
 exact ⟨.ref _,_,I.lnew (t':=s.toks) (r.rep k.toNat) (by rw [JQ,Nat.mul_comm];exact hz),rfl,q _ I.fresh⟩
end
section
variable {prog:Program} {w:World} {A:Around} {E:Value→Shared→Prop} {s:Shared}
end
section
variable {X:Cx}
end
end L2
namespace Att
open PySem PySem.W PySem.Calls PyProof.Rows
theorem Yz {P:Params} {h:Heap}:∀(ns:List Int) (vs:List Value),WellAll P h vs (ns.map WData.int)→IntsAre vs ns:=by
 intro ns
 induction ns with
 |nil=>
  intro vs w
  rw [List.map_nil] at w
  cases w
  exact .nil
 |cons n ns ih=>
  intro vs w
  rw [BD] at w
  cases w with
  |cons a b=>
   cases a
   exact .cons _ _ (ih _ b)
theorem YA {l:OpenLaw} {n:Nat} (hn:l.most=some n) {P:Params} {h:Heap} {args:List WData} {vals:List Value}
 (hpre:l.row.toRowW.claim.pre args=true) (hwl:WellAll P h vals args):
 ∃a vs ns,vals=[Value.ref a]∧args=[WData.list (ns.map WData.int)]∧h.get? a=some {cls:=.type "list",data:=.seq vs.toArray}∧IntsAre vs ns∧ns.length≤n:=by
 have hsh:WShape.hasAll [] args [.list .int]=true:=(pre_splitW hpre).1
 have hc:l.pre.holds [] {args:=args}=true:=(pre_splitW hpre).2
 obtain ⟨d,r,rfl,h1,h2⟩:=hasAllW_cons hsh
 obtain rfl:=hasAllW_nil h2
 obtain ⟨xs,rfl,h3⟩:=hasW_list h1
 obtain ⟨ns,rfl⟩:=items_int h3
 have hlen:ns.length≤n:=by
  unfold OpenLaw.pre at hc
  have h4:(WTm.not (.lt (.lit (.int (n:Int))) (.len (.arg 0)))).holds [] {args:=[.list (ns.map .int)]}=true:=by
   have h4:=(holds_andW hc).1
   rw [hn] at h4
   exact h4
  have h5:=condW_of h4 (w_not (w_lt w_lit (w_len_list (w_arg rfl))))
  rw [CC] at h5
  refine HB fun q=>?_
  have q':(n:Int)<((ns.length:Nat):Int):=by omega
  first
   |(rw [decide_eq_true q'] at h5;exact absurd h5 (by decide))
   |(simp at h5;omega)
 cases hwl with
 |cons w1 w2=>
  cases w2
  cases w1 with
  |list ho hall=>exact ⟨_,_,ns,rfl,rfl,ho,Yz ns _ hall,hlen⟩
theorem YB (l:OpenLaw) (args:List WData):l.row.toRowW.claim.post args (.bool true) args=true:=
 postW_of (r:=l.row.toRowW) (X:=(true==true))
  (show WShape.has [] (.bool true) .bool=true by first |rfl |decide |simp [WShape.has,WShape.arms,WShape.armsAll])
  (show (WTm.eq .res (.lit (.bool true))).value [] {args:=args,res:=some (.bool true),after:=args}=some (.bool (true==true)) from w_eq_bool (w_res rfl) w_lit) rfl
section
variable {prog:Program} {w:World} {A:Around} {E:Value→Shared→Prop} {s:Shared} {K:Frag}
end
end Att
namespace L2
open PySem PySem.Spec PyProof.Rows
theorem vals_ints:∀{vs:List Value} {ns:List Int},IntsAre vs ns→Vals (ns.map V.int) vs
 |_,_,.nil=>.nil
 |_,_,.cons n t h=>.cons ⟨t,rfl⟩ (vals_ints h)
def defArgs (s:Stmt):Arguments:=match s with
 |.FunctionDef _ a _ _ _ _ _ _ _ _=>a
 |_=>{posonlyargs:=[],args:=[],vararg:=none,kwonlyargs:=[],kw_defaults:=[],kwarg:=none,defaults:=[]}
def defBody (s:Stmt):List Stmt:=match s with
 |.FunctionDef _ _ b _ _ _ _ _ _ _=>b
 |_=>[]
def defScope (s:Stmt):Scope:=match s with
 |.FunctionDef _ _ _ _ _ _ sc _ _ _=>sc
 |_=>{kind:=.function,names:=[],isGenerator:=false,isCoroutine:=false}
abbrev PH:Eh:=fun _ _ _ _ _ _=>False
abbrev E0:XK:=fun _ _ _=>False
inductive PJ (K:PySem.W.Frag) (x qual:Str) (st:Stmt) (f:Addr) (fd:FuncData):Prop where
 |mk (oc:Value) (od:Option Addr) (kV doc pm:Value) (an:Option Addr) (cdv ct:Value) (osl:Array (Option Value)) (f1:fd=PySem.W.fnOf x qual (defArgs st) (defBody st) (defScope st) .none kV doc pm an cdv ct) (f2:K.lookup f=some ⟨oc,od,.func fd,osl⟩) (f3:PySem.W.codeIn K cdv qual=true):PJ K x qual st f fd
structure Fun (K:PySem.W.Frag) (x qual:Str) (st:Stmt) (f:Addr) (fd:FuncData):Prop where
 ex:PJ K x qual st f fd
 kp:PySem.W.keepIn K (.ref f)=true
section
variable {P:Program} {w:World} {K:PySem.W.Frag} {mg:Str→Option Value} {base:Heap}
theorem Fun.binds {x qual:Str} {st:Stmt} {f:Addr} {fd:FuncData} {ps:List Str} (F:Fun K x qual st f fd)
 (h:∀(kV doc pm:Value) (an:Option Addr) (cdv ct:Value) (us:List Value),us.length=ps.length→bindArgs (PySem.W.fnOf x qual (defArgs st) (defBody st) (defScope st) .none kV doc pm an cdv ct) ⟨us,[]⟩=pure (ps.zip us)):Binds K fd ps []:=by
 obtain ⟨oc,od,kV,doc,pm,an,cdv,ct,osl,rfl,lk,hcd⟩:=F.ex
 exact .all (h kV doc pm an cdv ct)
theorem HP {x qual:Str} {st:Stmt} {f:Addr} {oc:Value} {od an:Option Addr} {osl:Array (Option Value)} {kV doc pm cdv ct:Value} (l:K.lookup f=some ⟨oc,od,.func (PySem.W.fnOf x qual (defArgs st) (defBody st) (defScope st) .none kV doc pm an cdv ct),osl⟩)
 (c:PySem.W.codeIn K cdv qual=true) (k:PySem.W.keepIn K (.ref f)=true):Fun K x qual st f (PySem.W.fnOf x qual (defArgs st) (defBody st) (defScope st) .none kV doc pm an cdv ct):=⟨⟨oc,od,kV,doc,pm,an,cdv,ct,osl,rfl,l,c⟩,k⟩
end
section
variable {X:Cx}
end
end L2
namespace LS
open PySem PySem.Spec PyProof.Rows L2
inductive D where
 |non |bl (b:Bool) |int (i:Int) |str (x:Str) |tup (ds:List D) |loc (l:Nat) |scr (ns:List Int) |adr (a:Addr) |ty (n:String) |exc (n:Str) (fs:List (Str×Int)) |edic |glo (n:Str) |clo (a:Addr) (vs:List V) (ds:List D)
inductive AX where
 |i (n:Int) |t (ns:List Int) |b (rs:List (List Int))
 deriving DecidableEq
def kD:AX→D
 |.i n=>.int n
 |.t ns=>.tup (ns.map D.int)
 |.b rs=>.tup (rs.map fun r=>.tup (r.map D.int))
inductive Cell where
 |lst (ds:List D) |tabn (g:Str) |dic (fz:Bool) (kvs:List (AX×D)) |ins (n:Str) (fs:List (Str×D))
abbrev Cell.tab:Cell:=.tabn "law"
def PK (g:Str):Str:=g++(".<locals>.":Str)
def Bg (g:Str):Str:=PK g++("<lambda>":Str)
abbrev HD:=List Cell
abbrev Ag:=List (Option D)
inductive Out (α:Type) where
 |ok (a:α) (h:HD) |err (C:Value) (fs:List (Str×D)) (h:HD) |stuck
def Out.bind {α β:Type} (o:Out α) (k:α→HD→Out β):Out β:=match o with
 |.ok a h=>k a h
 |.err C fs h=>.err C fs h
 |.stuck=>.stuck
@[simp] theorem Out.bind_ok {α β:Type} (a:α) (h:HD) (k:α→HD→Out β):(Out.ok a h).bind k=k a h:=rfl
@[simp] theorem Out.bind_err {α β:Type} (C:Value) (fs:List (Str×D)) (h:HD) (k:α→HD→Out β):(Out.err C fs h:Out α).bind k=.err C fs h:=rfl
@[simp] theorem Out.bind_stuck {α β:Type} (k:α→HD→Out β):(Out.stuck:Out α).bind k=.stuck:=rfl
def MR:HO→Bool
 |.tup _=>true
 |.frz _ _=>true
 |.ext _=>true
 |.xd _=>true
 |_=>false
def Kp (H H':Hp):Prop:=∀b o,H b=some o→MR o=true→H' b=some o
theorem Kp.refl (H:Hp):Kp H H:=fun _ _ e _=>e
theorem Kp.trans {H H1 H2:Hp} (a:Kp H H1) (b:Kp H1 H2):Kp H H2:=fun c o e i=>b c o (a c o e i) i
theorem Kp.new {H:Hp} {p:Addr} {o:HO} (h:H p=none):Kp H (Ak H p o):=fun b u e _=>by rw [Ao (Bw e h)];exact e
theorem Kp.set {H:Hp} {p:Addr} {o u:HO} (h:H p=some o) (i:MR o=false):Kp H (Ak H p u):=fun b w e iw=>by
 rw [Ao]
 ·exact e
 ·intro z
  rw [z,h] at e;cases e;rw [i] at iw;cases iw
def FzL (K:PySem.W.Frag) (H:Hp) (a:Addr) (xs:List V):Prop:=(∃o,H a=some (.frz o (.lst xs)))∨SqL K (fun _=>none) a xs
theorem Kp.fzL {K:PySem.W.Frag} {H H':Hp} {a:Addr} {xs:List V} (k:Kp H H') (h:FzL K H a xs):FzL K H' a xs:=by
 rcases h with ⟨o,h⟩ |h
 ·exact .inl ⟨o,k _ _ h rfl⟩
 ·exact .inr h
theorem FzL.sq {K:PySem.W.Frag} {H:Hp} {a:Addr} {xs:List V} (h:FzL K H a xs):SqL K H a xs:=by
 rcases h with ⟨o,h⟩ |(h |⟨o,h⟩) |h
 ·exact .inl (.inr ⟨o,h⟩)
 ·cases h
 ·cases h
 ·exact .inr h
def Fe (C:Addr) (da:Option Addr) (a:Addr) (h:Heap):Prop:=∃o vs,h.get? a=some o∧o.cls=.ref C∧(∀d,da=some d→o.dict=some d)∧o.data=.fields vs
def MU (a:Addr) (h:Heap):Prop:=a≠sysModules∧∃o ep,h.get? a=some o∧o.ExactDict∧o.data=.dict #[] ep
mutual
def DV (K:PySem.W.Frag) (m:List Addr) (H:Hp):D→V→Prop
 |.non,v=>v=.non
 |.bl b,v=>v=.bl b
 |.int i,v=>v=.int i
 |.str x,v=>v=.str x
 |.tup ds,v=>∃a vs,v=.ref a∧H a=some (.tup vs)∧DVs K m H ds vs
 |.loc l,v=>∃a,v=.ref a∧m[l]?=some a
 |.scr ns,v=>∃a,v=.ref a∧FzL K H a (ns.map V.int)
 |.adr a,v=>v=.ref a
 |.ty n,v=>v=.ty n
 |.exc n fs,v=>∃a C da,v=.ref a∧PySem.W.nsIn K mainGlobals n=some (some (.ref C))∧H a=some (.ext (Fe C da a))∧∀f i,fs.lookup f=some i→∃d fv,da=some d∧H d=some (.xd fv)∧fv.lookup f=some (.int i)
 |.edic,v=>∃a,v=.ref a∧H a=some (.ext (MU a))
 |.glo n,v=>∃a,v=.ref a∧PySem.W.nsIn K mainGlobals n=some (some (.ref a))
 |.clo a vs ds,v=>v=.ref a∧DVs K m H ds vs
def DVs (K:PySem.W.Frag) (m:List Addr) (H:Hp):List D→List V→Prop
 |[],vs=>vs=[]
 |d::ds,vs=>∃v r,vs=v::r∧DV K m H d v∧DVs K m H ds r
end
section
variable {K:PySem.W.Frag} {m m':List Addr} {H H':Hp}
theorem GI {l:Nat} {a:Addr} (p:m <+:m') (h:m[l]?=some a):m'[l]?=some a:=by
 obtain ⟨t,rfl⟩:=p
 have hl:l<m.length:=(qa2.mp h).1
 rw [D3 hl];exact h
mutual
theorem DV.keep (p:m <+:m') (k:Kp H H'):∀{d:D} {v:V},DV K m H d v→DV K m' H' d v
 |.non,_,h=>by simpa [DV] using h
 |.bl _,_,h=>by simpa [DV] using h
 |.int _,_,h=>by simpa [DV] using h
 |.str _,_,h=>by simpa [DV] using h
 |.tup ds,_,h=>by
  simp only [DV] at h ⊢
  obtain ⟨a,vs,e,q,r⟩:=h
  exact ⟨a,vs,e,k _ _ q rfl,DVs.keep p k r⟩
 |.loc l,_,h=>by
  simp only [DV] at h ⊢
  obtain ⟨a,e,q⟩:=h
  exact ⟨a,e,GI p q⟩
 |.scr ns,_,h=>by
  simp only [DV] at h ⊢
  obtain ⟨a,e,q⟩:=h
  exact ⟨a,e,k.fzL q⟩
 |.adr _,_,h=>by simpa [DV] using h
 |.ty _,_,h=>by simpa [DV] using h
 |.exc _ _,_,h=>by
  simp only [DV] at h ⊢
  obtain ⟨a,C,da,e,q,r,t⟩:=h
  exact ⟨a,C,da,e,q,k _ _ r rfl,fun f i z=>let ⟨d,fv,z1,z2,z3⟩:=t f i z;⟨d,fv,z1,k _ _ z2 rfl,z3⟩⟩
 |.edic,_,h=>by
  simp only [DV] at h ⊢
  obtain ⟨a,e,r⟩:=h
  exact ⟨a,e,k _ _ r rfl⟩
 |.glo _,_,h=>by simpa [DV] using h
 |.clo _ _ ds,_,h=>by
  simp only [DV] at h ⊢
  exact ⟨h.1,DVs.keep p k h.2⟩
theorem DVs.keep (p:m <+:m') (k:Kp H H'):∀{ds:List D} {vs:List V},DVs K m H ds vs→DVs K m' H' ds vs
 |[],_,h=>by simpa [DVs] using h
 |d::ds,_,h=>by
  simp only [DVs] at h ⊢
  obtain ⟨v,r,e,q,t⟩:=h
  exact ⟨v,r,e,DV.keep p k q,DVs.keep p k t⟩
end
theorem DVs.nil:DVs K m H [] []:=by simp [DVs]
theorem DVs.cons {d:D} {v:V} {ds:List D} {vs:List V} (h:DV K m H d v) (t:DVs K m H ds vs):DVs K m H (d::ds) (v::vs):=by
 simp only [DVs];exact ⟨v,vs,rfl,h,t⟩
theorem DVs.len:∀{ds:List D} {vs:List V},DVs K m H ds vs→ds.length=vs.length
 |[],_,h=>by simp only [DVs] at h;subst h;rfl
 |d::ds,_,h=>by
  simp only [DVs] at h
  obtain ⟨v,r,e,_,t⟩:=h
  subst e
  simp [DVs.len t]
theorem DVs.get:∀{ds:List D} {vs:List V} {i:Nat} {d:D},DVs K m H ds vs→ds[i]?=some d→∃v,vs[i]?=some v∧DV K m H d v
 |[],_,_,_,_,e=>by simp at e
 |d::ds,_,i,x,h,e=>by
  simp only [DVs] at h
  obtain ⟨v,r,rfl,q,t⟩:=h
  cases i with
  |zero=>simp at e;subst e;exact ⟨v,rfl,q⟩
  |succ i=>
   obtain ⟨w,h1,h2⟩:=DVs.get (i:=i) t (by simpa using e)
   exact ⟨w,by simpa using h1,h2⟩
theorem DVs.app:∀{ds es:List D} {vs ws:List V},DVs K m H ds vs→DVs K m H es ws→DVs K m H (ds++es) (vs++ws)
 |[],_,_,_,h,t=>by simp only [DVs] at h;subst h;exact t
 |d::ds,_,_,_,h,t=>by
  simp only [DVs] at h
  obtain ⟨v,r,rfl,q,u⟩:=h
  exact .cons q (DVs.app u t)
theorem DVs.set:∀{ds:List D} {vs:List V} {d:D} {v:V} (i:Nat),DVs K m H ds vs→DV K m H d v→DVs K m H (ds.set i d) (vs.set i v)
 |[],_,_,_,_,h,_=>by simp only [DVs] at h;subst h;exact .nil
 |d::ds,_,_,_,i,h,q'=>by
  simp only [DVs] at h
  obtain ⟨v,r,rfl,q,u⟩:=h
  cases i with
  |zero=>exact .cons q' u
  |succ i=>exact .cons q (DVs.set i u q')
theorem DVs.take:∀{ds:List D} {vs:List V} (n:Nat),DVs K m H ds vs→DVs K m H (ds.take n) (vs.take n)
 |_,_,0,_=>by simpa using (DVs.nil:DVs K m H [] [])
 |[],_,n+1,h=>by simp only [DVs] at h;subst h;exact .nil
 |d::ds,_,n+1,h=>by
  simp only [DVs] at h
  obtain ⟨v,r,rfl,q,u⟩:=h
  exact .cons q (DVs.take n u)
theorem DVs.drop:∀{ds:List D} {vs:List V} (n:Nat),DVs K m H ds vs→DVs K m H (ds.drop n) (vs.drop n)
 |_,_,0,h=>by simpa using h
 |[],_,n+1,h=>by simp only [DVs] at h;subst h;exact .nil
 |d::ds,_,n+1,h=>by
  simp only [DVs] at h
  obtain ⟨v,r,rfl,q,u⟩:=h
  simpa using DVs.drop n u
theorem DVs.rep {ds:List D} {vs:List V} (h:DVs K m H ds vs):∀n,DVs K m H (List.replicate n ds).flatten (List.replicate n vs).flatten
 |0=>by simpa using (DVs.nil:DVs K m H [] [])
 |n+1=>by
  rw [E9,FP,E9,FP]
  exact h.app (DVs.rep h n)
def GJ (q:Str) (c:Addr) (h:Heap):Prop:=h.CodeRec (.ref c) q
def tabP (K:PySem.W.Frag) (g:Str):Option (Addr×Addr):=match PySem.W.nsIn K mainGlobals g with
 |some (some (.ref f))=>(match K.lookup f with
  |some ⟨_,_,.func fd,_⟩=>(match fd.code with
   |.ref c=>(match K.lookup c with
    |some ⟨_,_,.fields vs,_⟩=>(match (vs[11]?:Option Value) with
     |some (.ref P)=>some (c,P)
     |_=>none)
    |_=>none)
   |_=>none)
  |_=>none)
 |_=>none
def TabIs (K:PySem.W.Frag) (g:Str) (H:Hp) (a:Addr):Prop:=(∃c,tabP K g=some (c,a))∧∃ps,H a=some (.tbl ps)∧TriplesOk ps.toList∧∀pos cv,codeAmong pos ps.toList=some cv→∃c,cv=.ref c∧H c=some (.ext (GJ (Bg g) c))
theorem TabIs.keep {K:PySem.W.Frag} {g:Str} {H H':Hp} {a:Addr} (t:TabIs K g H a) (k:Kp H H') (e:H' a=H a):TabIs K g H' a:=by
 obtain ⟨z,ps,h1,h2,h3⟩:=t
 exact ⟨z,ps,e.trans h1,h2,fun pos cv q=>let ⟨c,q1,q2⟩:=h3 pos cv q;⟨c,q1,k _ _ q2 rfl⟩⟩
def MV (hs:List Int):Int:=reduceHash (Builtin.Tuple.tupleHashOf hs)
def YC:AX→Int
 |.i n=>hashInt n
 |.t ns=>MV (ns.map hashInt)
 |.b rs=>MV (rs.map fun r=>MV (r.map hashInt))
def YD (p:AX×V×V) (e:DictEntry):Prop:=e.hash=YC p.1∧RelV p.2.1 e.key∧RelV p.2.2 e.val
def Di (a:Addr) (es:List (AX×V×V)) (h:Heap):Prop:=(a==sysModules)=false∧es.length≤sizeLine∧(es.map (·.1)).Nodup∧∃o us ep,h.get? a=some o∧o.ExactDict∧o.data=.dict us ep∧Paired YD es us.toList
def EntD (K:PySem.W.Frag) (m:List Addr) (H:Hp):List (AX×D)→List (AX×V×V)→Prop
 |[],es=>es=[]
 |p::r,es=>∃kv vv r',es=(p.1,kv,vv)::r'∧DV K m H (kD p.1) kv∧DV K m H p.2 vv∧EntD K m H r r'
theorem EntD.keep {K:PySem.W.Frag} {m m':List Addr} {H H':Hp} (p:m <+:m') (k:Kp H H'):∀{kvs:List (AX×D)} {es:List (AX×V×V)},EntD K m H kvs es→EntD K m' H' kvs es
 |[],_,h=>h
 |_::_,_,h=>by
  obtain ⟨kv,vv,r',e,d1,d2,t⟩:=h
  exact ⟨kv,vv,r',e,d1.keep p k,d2.keep p k,t.keep p k⟩
def DicH (fz:Bool) (H:Hp) (a:Addr) (es:List (AX×V×V)):Prop:=match fz with
 |true=>∃o,H a=some (.frz o (.dct (Di a es)))
 |false=>H a=some (.dct (Di a es))
theorem DicH.some {fz:Bool} {H:Hp} {a:Addr} {es:List (AX×V×V)} (d:DicH fz H a es):∃o,H a=some o:=by
 cases fz with
 |true=>obtain ⟨o,e⟩:=d;exact ⟨_,e⟩
 |false=>exact ⟨_,d⟩
theorem DicH.same {fz:Bool} {H H':Hp} {a:Addr} {es:List (AX×V×V)} (d:DicH fz H a es) (e:H' a=H a):DicH fz H' a es:=by
 cases fz with
 |true=>obtain ⟨o,z⟩:=d;exact ⟨o,e.trans z⟩
 |false=>exact e.trans d
theorem DicH.rd {fz:Bool} {H:Hp} {a:Addr} {es:List (AX×V×V)} (d:DicH fz H a es):Rd H a (.dct (Di a es)):=by
 cases fz with
 |true=>obtain ⟨o,z⟩:=d;exact .inr ⟨o,z⟩
 |false=>exact .inl d
def FDs (K:PySem.W.Frag) (m:List Addr) (H:Hp):List (Str×D)→List (Str×V)→Prop
 |[],vs=>vs=[]
 |p::r,vs=>∃v r',vs=(p.1,v)::r'∧DV K m H p.2 v∧FDs K m H r r'
theorem FDs.keep {K:PySem.W.Frag} {m m':List Addr} {H H':Hp} (p:m <+:m') (k:Kp H H'):∀{fs:List (Str×D)} {vs:List (Str×V)},FDs K m H fs vs→FDs K m' H' fs vs
 |[],_,h=>h
 |_::_,_,h=>by
  obtain ⟨v,r',e,d,t⟩:=h
  exact ⟨v,r',e,d.keep p k,t.keep p k⟩
inductive InsR (K:PySem.W.Frag) (m:List Addr) (H:Hp) (n:Str) (fs:List (Str×D)) (a:Addr):Prop where
 |mk (C dx:Addr) (fv:List (Str×V)) (f1:PySem.W.nsIn K mainGlobals n=some (some (.ref C))) (f2:H a=some (.ins C dx fv)) (f3:FDs K m H fs fv):InsR K m H n fs a
theorem InsR.keep {K:PySem.W.Frag} {m m':List Addr} {H H':Hp} {n:Str} {fs:List (Str×D)} {a:Addr} (x:InsR K m H n fs a) (p:m <+:m') (k:Kp H H') (e:H' a=H a):InsR K m' H' n fs a:=by
 obtain ⟨C,dx,fv,h1,h2,h3⟩:=x
 exact ⟨C,dx,fv,h1,e.trans h2,h3.keep p k⟩
def JR (K:PySem.W.Frag) (m:List Addr) (H:Hp):Cell→Addr→Prop
 |.lst ds,a=>∃vs,H a=some (.lst vs)∧DVs K m H ds vs
 |.tabn g,a=>TabIs K g H a
 |.ins n fs,a=>InsR K m H n fs a
 |.dic fz kvs,a=>∃es,DicH fz H a es∧EntD K m H kvs es
structure HR (K:PySem.W.Frag) (m:List Addr) (h:HD) (H:Hp):Prop where
 len:m.length=h.length
 nd:m.Nodup
 cells:∀(l:Nat) (c:Cell) (a:Addr),h[l]?=some c→m[l]?=some a→JR K m H c a
theorem HR.at {h:HD} {l:Nat} {c:Cell} (r:HR K m h H) (e:h[l]?=some c):∃a,m[l]?=some a∧JR K m H c a:=by
 have hl:l<h.length:=(qa2.mp e).1
 have:l<m.length:=by rw [r.len];exact hl
 exact ⟨m[l],A2 this,r.cells l c _ e (A2 this)⟩
theorem HR.mem {h:HD} {a:Addr} (r:HR K m h H) (ha:a∈m):H a≠none:=by
 obtain ⟨l,hl,rfl⟩:=Gz ha
 have hl':l<h.length:=by rw [←r.len];exact hl
 have:=r.cells l h[l] m[l] (A2 hl') (A2 hl)
 cases hc:h[l] with
 |lst ds=>
  rw [hc] at this
  obtain ⟨vs,e,_⟩:=this
  rw [e];simp
 |ins n fs=>
  rw [hc] at this
  obtain ⟨_,_,_,_,e,_⟩:=this
  rw [e];simp
 |tabn g=>
  rw [hc] at this
  obtain ⟨_,ps,e,_⟩:=this
  rw [e];simp
 |dic fz kvs=>
  rw [hc] at this
  obtain ⟨es,e,_⟩:=this
  obtain ⟨o,e⟩:=e.some
  rw [e];simp
theorem HR.same {h:HD} (r:HR K m h H) (k:Kp H H') (s:∀a∈m,H' a=H a):HR K m h H':=by
 refine ⟨r.len,r.nd,fun l c a e q=>?_⟩
 have hm:a∈m:=E8 q
 have:=r.cells l c a e q
 cases c with
 |lst ds=>
  obtain ⟨vs,e1,e2⟩:=this
  exact ⟨vs,by rw [s a hm];exact e1,e2.keep (Az _) k⟩
 |tabn g=>exact TabIs.keep this k (s a hm)
 |ins n fs=>exact InsR.keep this (Az _) k (s a hm)
 |dic fz kvs=>
  obtain ⟨es,e1,e2⟩:=this
  exact ⟨es,e1.same (s a hm),e2.keep (Az _) k⟩
theorem HR.new {h:HD} {p:Addr} {o:HO} (r:HR K m h H) (hp:H p=none):HR K m h (Ak H p o):=
 r.same (.new hp) fun a ha=>Ao fun z=>r.mem ha (z ▸ hp)
theorem HR.newCell {h:HD} {p:Addr} {o:HO} {c:Cell} (r:HR K m h H) (hp:H p=none) (hc:JR K (m++[p]) (Ak H p o) c p):HR K (m++[p]) (h++[c]) (Ak H p o):=by
 have hpm:p∉m:=fun z=>r.mem z hp
 refine ⟨by simp [r.len],?_,fun l c' a e q=>?_⟩
 ·rw [List.nodup_append]
  refine ⟨r.nd,by simp,fun a ha b hb=>?_⟩
  rw [qaH] at hb
  subst hb
  intro z;subst z;exact hpm ha
 ·by_cases hl:l<m.length
  ·rw [D3 hl] at q
   rw [D3 (by rw [←r.len];exact hl)] at e
   have:=r.cells l c' a e q
   have hne:a≠p:=fun z=>hpm (z ▸ E8 q)
   cases c' with
   |lst ds=>
    obtain ⟨vs,e1,e2⟩:=this
    exact ⟨vs,by rw [Ao hne];exact e1,e2.keep (GA _ _) (.new hp)⟩
   |tabn g=>exact TabIs.keep this (.new hp) (Ao hne)
   |ins n fs=>exact InsR.keep this (GA _ _) (.new hp) (Ao hne)
   |dic fz kvs=>
    obtain ⟨es,e1,e2⟩:=this
    exact ⟨es,e1.same (Ao hne),e2.keep (GA _ _) (.new hp)⟩
  ·have h1:m.length≤l:=HB hl
   rw [Gw h1] at q
   rw [Gw (by rw [←r.len];exact h1)] at e
   have e0:l - m.length=0:=by
    cases hz:l - m.length with
    |zero=>rfl
    |succ n=>rw [hz] at q;simp at q
   rw [←r.len] at e
   rw [e0] at q e
   simp at q e
   subst q e
   exact hc
theorem HR.setCell {h:HD} {p:Addr} {l:Nat} {o u:HO} {c:Cell} (r:HR K m h H) (hl:m[l]?=some p) (ho:H p=some o) (i:MR o=false) (hc:JR K m (Ak H p u) c p):HR K m (h.set l c) (Ak H p u):=by
 refine ⟨by simp [r.len],r.nd,fun j c' a e q=>?_⟩
 by_cases hj:j=l
 ·subst hj
  rw [hl] at q;cases q
  have hlt:j<h.length:=by rw [←r.len];exact (qa2.mp hl).1
  rw [BV hlt] at e
  cases e
  exact hc
 ·rw [BG (Ne.symm hj)] at e
  have:=r.cells j c' a e q
  have hne:a≠p:=by
   intro z
   subst z
   obtain ⟨h1,e1⟩:=qa2.mp q
   obtain ⟨h2,e2⟩:=qa2.mp hl
   exact hj ((List.getElem_inj r.nd).mp (e1.trans e2.symm))
  cases c' with
  |lst ds=>
   obtain ⟨vs,e1,e2⟩:=this
   exact ⟨vs,by rw [Ao hne];exact e1,e2.keep (Az _) (.set ho i)⟩
  |tabn g=>exact TabIs.keep this (.set ho i) (Ao hne)
  |ins n fs=>exact InsR.keep this (Az _) (.set ho i) (Ao hne)
  |dic fz kvs=>
   obtain ⟨es,e1,e2⟩:=this
   exact ⟨es,e1.same (Ao hne),e2.keep (Az _) (.set ho i)⟩
def ER (K:PySem.W.Frag) (m:List Addr) (H:Hp) (ρ:Ag) (σ:L2.St):Prop:=ρ.length=σ.length∧∀(i:Nat) (d:D),ρ[i]?=some (some d)→∃v,σ[i]?=some (some v)∧DV K m H d v
theorem ER.keep {ρ:Ag} {σ:L2.St} (p:m <+:m') (k:Kp H H') (e:ER K m H ρ σ):ER K m' H' ρ σ:=⟨e.1,fun i d h=>let ⟨v,a,b⟩:=e.2 i d h;⟨v,a,b.keep p k⟩⟩
theorem ER.set {ρ:Ag} {σ:L2.St} {i:Nat} {d:D} {v:V} (e:ER K m H ρ σ) (r:DV K m H d v):ER K m H (ρ.set i (some d)) (σ.set i (some v)):=by
 refine ⟨by simp [e.1],fun j d' h=>?_⟩
 by_cases hj:i=j
 ·subst hj
  by_cases hl:i < ρ.length
  ·rw [BV hl] at h
   cases h
   exact ⟨v,by rw [BV (by rw [←e.1];exact hl)],r⟩
  ·rw [Mj (by simp;omega)] at h;cases h
 ·rw [BG hj] at h
  obtain ⟨w,a,b⟩:=e.2 j d' h
  exact ⟨w,by rw [BG hj];exact a,b⟩
theorem ER.start {N:List Str} {ds:List D} {vs:List V} (h:DVs K m H ds vs):ER K m H (ds.map some++List.replicate (N.length - ds.length) none) (L2.start N vs):=by
 refine ⟨by simp [L2.start,h.len],fun i d e=>?_⟩
 by_cases hl:i<ds.length
 ·rw [D3 (by simpa using hl),Bv] at e
  obtain ⟨d',e1⟩:∃d',ds[i]?=some d':=⟨ds[i],A2 hl⟩
  rw [e1] at e
  simp at e
  subst e
  obtain ⟨v,q,r⟩:=h.get e1
  refine ⟨v,?_,r⟩
  unfold L2.start
  rw [D3 (by simpa [←h.len] using hl),Bv,q]
  rfl
 ·rw [Gw (by simpa using HB hl)] at e
  rw [Mg] at e
  split at e<;>cases e
def XD (K:PySem.W.Frag) (m:List Addr) (H:Hp) (fs:List (Str×D)) (da:Option Addr):Prop:=
 ∀f d,fs.lookup f=some d→∃a fv v,da=some a∧H a=some (.xd fv)∧fv.lookup f=some v∧DV K m H d v
def Post {α β:Type} (K:PySem.W.Frag) (R:List Addr→Hp→α→β→Prop) (m:List Addr) (H:Hp) (E:XK) (Q:β→Hp→Prop):Out α→Prop
 |.ok a h'=>∀v m' H',m <+:m'→Kp H H'→HR K m' h' H'→R m' H' a v→Q v H'
 |.err C fs h'=>∀da m' H',m <+:m'→Kp H H'→HR K m' h' H'→XD K m' H' fs da→E C da H'
 |.stuck=>False
theorem Post.ahead {α β:Type} {R:List Addr→Hp→α→β→Prop} {E:XK} {Q:β→Hp→Prop} {o:Out α} (p:m <+:m') (k:Kp H H') (h:Post K R m H E Q o):Post K R m' H' E Q o:=by
 cases o with
 |ok a h'=>exact fun v m2 H2 p2 k2=>h v m2 H2 (p.trans p2) (k.trans k2)
 |err C fs h'=>exact fun da m2 H2 p2 k2=>h da m2 H2 (p.trans p2) (k.trans k2)
 |stuck=>exact h
theorem Post.bind {α β γ δ:Type} {R:List Addr→Hp→α→β→Prop} {R':List Addr→Hp→γ→δ→Prop} {E:XK} {Q:δ→Hp→Prop} {Q':β→Hp→Prop} {o:Out α} {k:α→HD→Out γ}
 (h:Post K R' m H E Q (o.bind k)) (f:∀a h1 v m1 H1,o=.ok a h1→m <+:m1→Kp H H1→HR K m1 h1 H1→R m1 H1 a v→Post K R' m1 H1 E Q (k a h1)→Q' v H1):Post K R m H E Q' o:=by
 cases o with
 |ok a h1=>exact fun v m1 H1 p kk hr r=>f a h1 v m1 H1 rfl p kk hr r (h.ahead p kk)
 |err C fs h1=>exact h
 |stuck=>exact h
theorem Post.mono {α β:Type} {R:List Addr→Hp→α→β→Prop} {E:XK} {Q Q':β→Hp→Prop} {o:Out α} (h:Post K R m H E Q o) (f:∀v H',Q v H'→Q' v H'):Post K R m H E Q' o:=by
 cases o with
 |ok a h1=>exact fun v m1 H1 p k hr r=>f _ _ (h v m1 H1 p k hr r)
 |err C fs h1=>exact h
 |stuck=>exact h
end
abbrev ME:=Ag→HD→Out D
abbrev MT:=Ag→HD→Out Bool
abbrev MA:=Ag→HD→Out (List D)
inductive Fl where
 |nx |bk |ct |rt (d:D)
abbrev MS:=Ag→HD→Out (Fl×Ag)
def rD (K:PySem.W.Frag):List Addr→Hp→D→V→Prop:=fun m H d v=>DV K m H d v
def rB:List Addr→Hp→Bool→Bool→Prop:=fun _ _ a b=>a=b
def DN (K:PySem.W.Frag):List Addr→Hp→List D→List V→Prop:=fun m H d v=>DVs K m H d v
inductive tM {α β:Type} (K:PySem.W.Frag) (R:List Addr→Hp→α→β→Prop) (E:XK) (f:Ag→HD→Out α) (σ:L2.St) (H:Hp) (Q:β→Hp→Prop):Prop where
 |mk (m:List Addr) (ρ:Ag) (h:HD) (hr:HR K m h H) (er:ER K m H ρ σ) (p:Post K R m H E Q (f ρ h)):tM K R E f σ H Q
abbrev tD (K:PySem.W.Frag) (E:XK) (f:ME):TE:=tM K (rD K) E f
abbrev GK (K:PySem.W.Frag) (E:XK) (f:MT):TT:=tM K rB E f
abbrev PL (K:PySem.W.Frag) (E:XK) (f:MA):TA:=tM K (DN K) E f
def PM (K:PySem.W.Frag) (m:List Addr) (H:Hp) (D:Dr):Fl×Ag→Prop
 |(.nx,ρ)=>∀σ,ER K m H ρ σ→D.nx σ H
 |(.bk,ρ)=>∀σ,ER K m H ρ σ→D.bk σ H
 |(.ct,ρ)=>∀σ,ER K m H ρ σ→D.ct σ H
 |(.rt d,_)=>∀v,DV K m H d v→D.rt v H
def PostS (K:PySem.W.Frag) (m:List Addr) (H:Hp) (E:XK) (D:Dr):Out (Fl×Ag)→Prop
 |.ok a h'=>∀m' H',m <+:m'→Kp H H'→HR K m' h' H'→PM K m' H' D a
 |.err C fs h'=>∀da m' H',m <+:m'→Kp H H'→HR K m' h' H'→XD K m' H' fs da→E C da H'
 |.stuck=>False
inductive GL (K:PySem.W.Frag) (E:XK) (g:MS) (D:Dr) (σ:L2.St) (H:Hp):Prop where
 |mk (m:List Addr) (ρ:Ag) (h:HD) (hr:HR K m h H) (er:ER K m H ρ σ) (p:PostS K m H E D (g ρ h)):GL K E g D σ H
theorem PostS.ahead {K:PySem.W.Frag} {m m':List Addr} {H H':Hp} {E:XK} {D:Dr} {o:Out (Fl×Ag)} (p:m <+:m') (k:Kp H H') (h:PostS K m H E D o):PostS K m' H' E D o:=by
 cases o with
 |ok a h'=>exact fun m2 H2 p2 k2=>h m2 H2 (p.trans p2) (k.trans k2)
 |err C fs h'=>exact fun da m2 H2 p2 k2=>h da m2 H2 (p.trans p2) (k.trans k2)
 |stuck=>exact h
abbrev Ev (X:Cx) (E:XK) (e:Expr) (f:ME):Prop:=PE X e (tD X.K E f)
abbrev Du (X:Cx) (E:XK) (e:Expr) (f:MT):Prop:=PT X e (GK X.K E f)
abbrev Cj (X:Cx) (E:XK) (es:List Expr) (f:MA):Prop:=PA X es (PL X.K E f)
abbrev Ex (X:Cx) (E:XK) (st:Stmt) (g:MS):Prop:=PS X st (GL X.K E g)
abbrev Cn (X:Cx) (E:XK) (sts:List Stmt) (g:MS):Prop:=CP X sts (GL X.K E g)
section
variable {X:Cx}
theorem BH {e:Expr} {t t':TE} (h:PE X e t) (i:∀σ H Q,t' σ H Q→t σ H Q):PE X e t':=fun pins s σ H Q I q=>h pins s σ H Q I (i σ H Q q)
theorem JS {e:Expr} {t t':TT} (h:PT X e t) (i:∀σ H Q,t' σ H Q→t σ H Q):PT X e t':=fun pins s σ H Q I q=>h pins s σ H Q I (i σ H Q q)
theorem PN {e:List Expr} {t t':TA} (h:PA X e t) (i:∀σ H Q,t' σ H Q→t σ H Q):PA X e t':=fun pos pins s σ H Q I q=>h pos pins s σ H Q I (i σ H Q q)
theorem Dv {e:Stmt} {t t':TS} (h:PS X e t) (i:∀D σ H,t' D σ H→t D σ H):PS X e t':=fun pins s σ H D I q=>h pins s σ H D I (i D σ H q)
theorem MW {e:List Stmt} {t t':TS} (h:CP X e t) (i:∀D σ H,t' D σ H→t D σ H):CP X e t':=fun pins s σ H D I q=>h pins s σ H D I (i D σ H q)
end
end LS
namespace LS
open PySem PySem.Spec PyProof.Rows L2
section
variable {X:Cx} {E:XK} {a b c:Expr} {pos:Pos} {f g k:ME}
def Ab (i:Nat):ME:=fun ρ h=>match ρ[i]? with
 |some (some d)=>.ok d h
 |_=>.stuck
theorem MX {i:Nat} (h:PE X a (O9 i)):Ev X E a (Ab i):=BH h fun σ H Q z1_=>by
 obtain ⟨m,ρ,hd,hr,er,p⟩:=z1_
 unfold Ab at p
 split at p
 ·rename_i d e
  obtain ⟨v,e1,r⟩:=er.2 i d e
  exact ⟨v,e1,p v m H (Az _) (.refl _) hr r⟩
 ·exact p.elim
def mC (d:D):ME:=fun _ h=>.ok d h
theorem GM {d:D} {v:V} (h:PE X a (tC v)) (r:∀m H,DV X.K m H d v):Ev X E a (mC d):=BH h fun σ H Q z2_=>by obtain ⟨m,ρ,hd,hr,er,p⟩:=z2_;exact (p v m H (Az _) (.refl _) hr (r m H))
theorem YE {i:Int} {j:Nat}:Ev X E (.Constant (.int i) j pos) (mC (.int i)):=GM VY fun _ _=>by simp [DV]
theorem YF {i:Bool} {j:Nat}:Ev X E (.Constant (.bool i) j pos) (mC (.bl i)):=GM VZ fun _ _=>by simp [DV]
theorem YG {j:Nat}:Ev X E (.Constant .none j pos) (mC .non):=GM V0 fun _ _=>by simp [DV]
theorem PP {x:Str} {j:Nat}:Ev X E (.Constant (.str x) j pos) (mC (.str x)):=GM V1 fun _ _=>by simp [DV]
theorem YH {x:Str} {i:Int} {t:Tok} {pos:Pos} (hg:Gl X x) (hm:X.mg x=some (.int i t)) (hd:(x==("__debug__":Str))=false:=by decide):Ev X E (.Name x pos) (mC (.int i)):=
 GM (V2 (v:=.int i) hg hm ⟨t,rfl⟩ hd) fun _ _=>by simp [DV]
def Ad (op:D→D→HD→Out D) (f g:ME):ME:=fun ρ h=>(f ρ h).bind fun x h1=>(g ρ h1).bind fun y h2=>op x y h2
theorem JT {op:D→D→HD→Out D} {Q:VK} {R:V→V→Hp→Prop} {σ:L2.St} {H:Hp} (h:tD X.K E (Ad op f g) σ H Q)
 (i:∀m H2 h2 x y v u,HR X.K m h2 H2→DV X.K m H2 x v→DV X.K m H2 y u→Post X.K (rD X.K) m H2 E Q (op x y h2)→R v u H2):tD X.K E f σ H fun v H1=>tD X.K E g σ H1 fun u H2=>R v u H2:=by
 obtain ⟨m,ρ,hd,hr,er,p⟩:=h
 refine ⟨m,ρ,hd,hr,er,Post.bind p fun x h1 v m1 H1 _ p1 k1 hr1 r1 q1=>?_⟩
 refine ⟨m1,ρ,h1,hr1,er.keep p1 k1,Post.bind q1 fun y h2 u m2 H2 _ p2 k2 hr2 r2 q2=>?_⟩
 exact i m2 H2 h2 x y v u hr2 (DV.keep p2 k2 r1) r2 q2
def Bh (X:Cx) (f:Value→Value→Sem Value) (op:D→D→HD→Out D):Prop:=
 ∃r:R2,OpR X f r∧∀m H h E x y v u Q,HR X.K m h H→DV X.K m H x v→DV X.K m H y u→Post X.K (rD X.K) m H E Q (op x y h)→r v u H Q
theorem Ff {o:Operator} {op:D→D→HD→Out D} (ho:Bh X (binaryOp o) op) (ha:Ev X E a f) (hb:Ev X E b g):Ev X E (.BinOp a o b pos) (Ad op f g):=by
 obtain ⟨r,ho,i⟩:=ho
 exact BH (WR ho ha hb) fun σ H Q h=>JT h fun m H2 h2 x y v u hr rx ry q=>i m H2 h2 E x y v u Q hr rx ry q
theorem JU {o:CmpOp} {op:D→D→HD→Out D} (ho:Bh X (compareOp o) op) (ha:Ev X E a f) (hb:Ev X E b g) (hm:behindInMarks o b=false):Ev X E (.Compare a [o] [b] pos) (Ad op f g):=by
 obtain ⟨r,ho,i⟩:=ho
 exact BH (W7 ho ha hb hm) fun σ H Q h=>JT h fun m H2 h2 x y v u hr rx ry q=>i m H2 h2 E x y v u Q hr rx ry q
def F0:D→HD→Out Bool
 |.bl b,h=>.ok b h
 |_,_=>.stuck
def Aw (f:ME):MT:=fun ρ h=>(f ρ h).bind F0
theorem PQ {m:List Addr} {H:Hp} {x:D} {v:V} {h:HD} {Q:Bool→Hp→Prop} (hr:HR X.K m h H) (r:DV X.K m H x v) (q:Post X.K rB m H E Q (F0 x h)):∃k,v=.bl k∧Q k H:=by
 cases x with
 |bl b=>
  simp only [DV] at r
  exact ⟨b,r,q b m H (Az _) (.refl _) hr rfl⟩
 |_=>exact q.elim
theorem F4 {o:CmpOp} {op:D→D→HD→Out D} (ho:Bh X (compareOp o) op) (ha:Ev X E a f) (hb:Ev X E b g) (hm:behindInMarks o b=false):Du X E (.Compare a [o] [b] pos) (Aw (Ad op f g)):=by
 obtain ⟨r,ho,i⟩:=ho
 refine JS (W8 ho ha hb hm) fun σ H Q h=>?_
 obtain ⟨m,ρ,hd,hr,er,p⟩:=h
 have h':tD X.K E (Ad op f g) σ H fun x H'=>∃k,x=.bl k∧Q k H':=
  ⟨m,ρ,hd,hr,er,Post.bind p fun x h1 v m1 H1 _ p1 k1 hr1 r1 q1=>PQ hr1 r1 q1⟩
 exact JT h' fun m H2 h2 x y v u hr rx ry q=>i m H2 h2 E x y v u _ hr rx ry q
def Co:D→HD→Out Bool
 |.non,h=>.ok false h
 |.bl b,h=>.ok b h
 |.int i,h=>.ok (i != 0) h
 |.tup ds,h=>.ok (!ds.isEmpty) h
 |.loc l,h=>match h[l]? with
  |some (.lst ds)=>.ok (!ds.isEmpty) h
  |_=>.stuck
 |_,_=>.stuck
def Bm (f:ME):MT:=fun ρ h=>(f ρ h).bind Co
theorem PR {α β:Type} {xs:List α} {ys:List β} (h:xs.length=ys.length):xs.isEmpty=ys.isEmpty:=by
 cases xs<;>cases ys<;>simp_all
theorem YI {m:List Addr} {H:Hp} {x:D} {v:V} {h:HD} {Q:Bool→Hp→Prop} (hr:HR X.K m h H) (r:DV X.K m H x v) (q:Post X.K rB m H E Q (Co x h)):∃k,MD X.K v H k∧Q k H:=by
 have go:∀k,Co x h=.ok k h→Q k H:=fun k e=>by rw [e] at q;exact q k m H (Az _) (.refl _) hr rfl
 cases x with
 |non=>simp only [DV] at r;subst r;exact ⟨false,rfl,go _ rfl⟩
 |bl b=>simp only [DV] at r;subst r;exact ⟨b,rfl,go _ rfl⟩
 |int i=>simp only [DV] at r;subst r;exact ⟨_,rfl,go _ rfl⟩
 |str x=>exact q.elim
 |tup ds=>
  simp only [DV] at r
  obtain ⟨p,vs,rfl,hp,dv⟩:=r
  exact ⟨_,.inr ⟨vs,SqT.of hp,rfl⟩,by rw [←PR dv.len];exact go _ rfl⟩
 |loc l=>
  simp only [DV] at r
  obtain ⟨p,rfl,hp⟩:=r
  simp only [Co] at q
  split at q
  ·rename_i ds e
   obtain ⟨vs,e1,dv⟩:=hr.cells l _ p e hp
   exact ⟨_,.inl ⟨vs,SqL.of e1,rfl⟩,by rw [←PR dv.len];exact q _ m H (Az _) (.refl _) hr rfl⟩
  ·exact q.elim
 |scr ns=>exact q.elim
 |adr a=>exact q.elim
 |ty a=>exact q.elim
 |exc n fs=>exact q.elim
 |edic=>exact q.elim
 |glo n=>exact q.elim
 |clo a vs ds=>exact q.elim
theorem YJ (ha:Ev X E a f) (he:∀Es,isTrue a X.env Es=(do let v ←Es;standAt a.pos;holding [v] (truthy v)):=by intro _;rfl):Du X E a (Bm f):=
 JS (Xd ha he) fun σ H Q z3_=>by obtain ⟨m,ρ,hd,hr,er,p⟩:=z3_;exact (⟨m,ρ,hd,hr,er,Post.bind p fun x h1 v m1 H1 _ p1 k1 hr1 r1 q1=>YI hr1 r1 q1⟩)
variable {tf tg:MT} {rest:List Expr}
def JV (f g:MT):MT:=fun ρ h=>(f ρ h).bind fun b h1=>if b=true then g ρ h1 else .ok false h1
def B8 (f g:MT):MT:=fun ρ h=>(f ρ h).bind fun b h1=>if b=true then .ok true h1 else g ρ h1
def Bn (f:MT):MT:=fun ρ h=>(f ρ h).bind fun b h1=>.ok (!b) h1
abbrev JW (X:Cx) (E:XK) (e:Expr) (f:MT):Prop:=PW X e (GK X.K E f)
theorem YK {e:Expr} {t t':TT} (h:PW X e t) (i:∀σ H Q,t' σ H Q→t σ H Q):PW X e t':=fun wh pins s σ H Q I q=>h wh pins s σ H Q I (i σ H Q q)
theorem YL (ha:Du X E a tf):JW X E (.BoolOp .Or [a] pos) tf:=V6 ha
theorem PU (ha:Du X E a tf) (hb:JW X E (.BoolOp .Or (b::rest) pos) tg):JW X E (.BoolOp .Or (a::b::rest) pos) (B8 tf tg):=
 YK (V7 ha hb) fun σ H Q z5_=>by obtain ⟨m,ρ,hd,hr,er,p⟩:=z5_;exact (⟨m,ρ,hd,hr,er,Post.bind p fun x h1 v m1 H1 _ p1 k1 hr1 r1 q1=>by
  cases r1
  cases x with
  |false=>exact ⟨m1,ρ,h1,hr1,er.keep p1 k1,q1⟩
  |true=>exact q1 true m1 H1 (Az _) (.refl _) hr1 rfl⟩)
theorem YM (h:JW X E a tf):Du X E a tf:=PW.pt h
theorem YN (ha:Du X E a tf):Du X E (.UnaryOp .Not a pos) (Bn tf):=
 JS (V8 ha) fun σ H Q z6_=>by obtain ⟨m,ρ,hd,hr,er,p⟩:=z6_;exact (⟨m,ρ,hd,hr,er,Post.bind p fun x h1 v m1 H1 _ p1 k1 hr1 r1 q1=>by
  cases r1
  exact q1 _ m1 H1 (Az _) (.refl _) hr1 rfl⟩)
def Fg (f g:ME):ME:=fun ρ h=>(f ρ h).bind fun x h1=>match x with
 |.bl true=>g ρ h1
 |.bl false=>.ok (.bl false) h1
 |_=>.stuck
def PV (f g:ME):ME:=fun ρ h=>(f ρ h).bind fun x h1=>match x with
 |.bl true=>.ok (.bl true) h1
 |.bl false=>g ρ h1
 |_=>.stuck
def JX (f:ME):ME:=fun ρ h=>(f ρ h).bind fun x h1=>match x with
 |.bl b=>.ok (.bl (!b)) h1
 |_=>.stuck
theorem YO {o:BoolOp} (h:Ev X E a f):Ev X E (.BoolOp o [a] pos) f:=Wb h
theorem YQ (ha:Ev X E a f) (hb:Ev X E (.BoolOp .And (b::rest) pos) g):Ev X E (.BoolOp .And (a::b::rest) pos) (Fg f g):=
 BH (Wc ha hb) fun σ H Q ⟨m,ρ,hd,hr,er,p⟩=>⟨m,ρ,hd,hr,er,Post.bind p fun x h1 v m1 H1 _ p1 k1 hr1 r1 q1=>by
  cases x with
  |bl b=>
   refine ⟨b,by simpa [rD,DV] using r1,?_⟩
   cases b with
   |true=>exact ⟨m1,ρ,h1,hr1,er.keep p1 k1,q1⟩
   |false=>exact q1 _ m1 H1 (Az _) (.refl _) hr1 (by simp [rD,DV])
  |_=>exact q1.elim⟩
theorem YR (ha:Ev X E a f):Ev X E (.UnaryOp .Not a pos) (JX f):=
 BH (Wd ha) fun σ H Q z9_=>by obtain ⟨m,ρ,hd,hr,er,p⟩:=z9_;exact (⟨m,ρ,hd,hr,er,Post.bind p fun x h1 v m1 H1 _ p1 k1 hr1 r1 q1=>by
  cases x with
  |bl b=>exact ⟨b,by simpa [rD,DV] using r1,q1 _ m1 H1 (Az _) (.refl _) hr1 (by simp [rD,DV])⟩
  |_=>exact q1.elim⟩)
def GN (t:MT) (f g:ME):ME:=fun ρ h=>(t ρ h).bind fun b h1=>if b=true then f ρ h1 else g ρ h1
theorem YS (hc:Du X E c tf) (ha:Ev X E a f) (hb:Ev X E b g):Ev X E (.IfExp c a b pos) (GN tf f g):=
 BH (Wg hc ha hb) fun σ H Q z10_=>by obtain ⟨m,ρ,hd,hr,er,p⟩:=z10_;exact (⟨m,ρ,hd,hr,er,Post.bind p fun x h1 v m1 H1 _ p1 k1 hr1 r1 q1=>by
  cases r1
  cases x with
  |true=>exact ⟨m1,ρ,h1,hr1,er.keep p1 k1,q1⟩
  |false=>exact ⟨m1,ρ,h1,hr1,er.keep p1 k1,q1⟩⟩)
def Fh (op op':D→D→HD→Out D) (f g k:ME):ME:=fun ρ h=>(f ρ h).bind fun x h1=>(g ρ h1).bind fun y h2=>(op x y h2).bind fun z h3=>match z with
 |.bl true=>(k ρ h3).bind fun w h4=>op' y w h4
 |.bl false=>.ok (.bl false) h3
 |_=>.stuck
theorem PX {r r':R2} {op op':D→D→HD→Out D} {o o':Value→Value→Sem Value} (i:∀m H h E x y v u Q,HR X.K m h H→DV X.K m H x v→DV X.K m H y u→Post X.K (rD X.K) m H E Q (op x y h)→r v u H Q)
 (i':∀m H h E x y v u Q,HR X.K m h H→DV X.K m H x v→DV X.K m H y u→Post X.K (rD X.K) m H E Q (op' x y h)→r' v u H Q) {σ:L2.St} {H:Hp} {Q:VK} (h:tD X.K E (Fh op op' f g k) σ H Q):
 MC r r' (tD X.K E f) (tD X.K E g) (tD X.K E k) σ H Q:=by
 obtain ⟨m,ρ,hd,hr,er,p⟩:=h
 refine ⟨m,ρ,hd,hr,er,Post.bind p fun x h1 v m1 H1 _ p1 k1 hr1 r1 q1=>?_⟩
 refine ⟨m1,ρ,h1,hr1,er.keep p1 k1,Post.bind q1 fun y h2 u m2 H2 _ p2 k2 hr2 r2 q2=>?_⟩
 refine i m2 H2 h2 E x y v u _ hr2 (DV.keep p2 k2 r1) r2 (Post.bind q2 fun z h3 w m3 H3 _ p3 k3 hr3 r3 q3=>?_)
 cases z with
 |bl b=>
  refine ⟨b,by simpa [rD,DV] using r3,?_⟩
  cases b with
  |false=>exact q3 _ m3 H3 (Az _) (.refl _) hr3 (by simp [rD,DV])
  |true=>
   refine ⟨m3,ρ,h3,hr3,((er.keep p1 k1).keep p2 k2).keep p3 k3,Post.bind q3 fun z h4 w' m4 H4 _ p4 k4 hr4 r4 q4=>?_⟩
   exact i' m4 H4 h4 E y z u w' Q hr4 (DV.keep p4 k4 (DV.keep p3 k3 r2)) r4 q4
 |_=>exact q3.elim
theorem YT {o o':CmpOp} {op op':D→D→HD→Out D} (ho:Bh X (compareOp o) op) (ho':Bh X (compareOp o') op') (ha:Ev X E a f) (hb:Ev X E b g) (hc:Ev X E c k)
 (hm:lastMarks [o,o'] [b,c]=false:=by with_unfolding_all rfl):Ev X E (.Compare a [o,o'] [b,c] pos) (Fh op op' f g k):=by
 obtain ⟨r,ho,i⟩:=ho
 obtain ⟨r',ho',i'⟩:=ho'
 exact BH (W9 ho ho' ha hb hc hm) fun σ H Q h=>PX (o:=compareOp o) (o':=compareOp o') i i' h
theorem YU {o o':CmpOp} {op op':D→D→HD→Out D} (ho:Bh X (compareOp o) op) (ho':Bh X (compareOp o') op') (ha:Ev X E a f) (hb:Ev X E b g) (hc:Ev X E c k)
 (hm:lastMarks [o,o'] [b,c]=false:=by with_unfolding_all rfl):Du X E (.Compare a [o,o'] [b,c] pos) (Aw (Fh op op' f g k)):=by
 obtain ⟨r,ho,i⟩:=ho
 obtain ⟨r',ho',i'⟩:=ho'
 refine JS (Xa ho ho' ha hb hc hm) fun σ H Q h=>?_
 obtain ⟨m,ρ,hd,hr,er,p⟩:=h
 exact PX (o:=compareOp o) (o':=compareOp o') i i' ⟨m,ρ,hd,hr,er,Post.bind p fun x h1 v m1 H1 _ p1 k1 hr1 r1 q1=>PQ hr1 r1 q1⟩
variable {es:List Expr} {fa:MA}
def Ac:MA:=fun _ h=>.ok [] h
def Aa (f:ME) (r:MA):MA:=fun ρ h=>(f ρ h).bind fun x h1=>(r ρ h1).bind fun xs h2=>.ok (x::xs) h2
theorem JY:Cj X E [] Ac:=PN XA fun σ H Q z11_=>by obtain ⟨m,ρ,hd,hr,er,p⟩:=z11_;exact (p [] m H (Az _) (.refl _) hr .nil)
theorem JZ (ha:Ev X E a f) (hr:Cj X E es fa) (hs:starEach (a::es) X.env=(false,eval a X.env)::starEach es X.env:=by rfl):Cj X E (a::es) (Aa f fa):=
 PN (XB ha hr hs) fun σ H Q z12_=>by obtain ⟨m,ρ,hd,hr,er,p⟩:=z12_;exact (⟨m,ρ,hd,hr,er,Post.bind p fun x h1 v m1 H1 _ p1 k1 hr1 r1 q1=>
  ⟨m1,ρ,h1,hr1,er.keep p1 k1,Post.bind q1 fun xs h2 vs m2 H2 _ p2 k2 hr2 r2 q2=>q2 _ m2 H2 (Az _) (.refl _) hr2 (DVs.cons (DV.keep p2 k2 r1) r2)⟩⟩)
def Am (fa:MA):ME:=fun ρ h=>(fa ρ h).bind fun xs h1=>if xs.length≤sizeLine then .ok (.tup xs) h1 else .stuck
def B9 (xs:List D) (h:HD):Out D:=if xs.length≤sizeLine then .ok (.loc h.length) (h++[.lst xs]) else .stuck
def AN (fa:MA):ME:=fun ρ h=>(fa ρ h).bind B9
theorem GO {m:List Addr} {H:Hp} {h:HD} {xs:List D} {vs:List V} {Q:VK} (hr:HR X.K m h H) (r:DVs X.K m H xs vs) (q:Post X.K (rD X.K) m H E Q (.ok (.tup xs) h)):∀p,H p=none→Q (.ref p) (Ak H p (.tup vs)):=fun p hp=>
 q (.ref p) m _ (Az _) (.new hp) (hr.new hp) (by simp only [rD,DV];exact ⟨p,vs,rfl,BN,r.keep (Az _) (.new hp)⟩)
theorem HQ {m:List Addr} {H:Hp} {h:HD} {xs:List D} {vs:List V} {Q:VK} (hr:HR X.K m h H) (r:DVs X.K m H xs vs) (q:Post X.K (rD X.K) m H E Q (B9 xs h)):vs.length≤sizeLine∧∀p,H p=none→Q (.ref p) (Ak H p (.lst vs)):=by
 unfold B9 at q
 by_cases hz:xs.length≤sizeLine
 ·rw [if_pos hz] at q
  refine ⟨by rw [←r.len];exact hz,fun p hp=>?_⟩
  refine q (.ref p) (m++[p]) _ (GA _ _) (.new hp) (hr.newCell hp ⟨vs,BN,r.keep (GA _ _) (.new hp)⟩) ?_
  simp only [rD,DV]
  exact ⟨p,rfl,by rw [←hr.len];simp⟩
 ·rw [if_neg hz] at q;exact q.elim
theorem YV {x1:Nat} (h:Cj X E es fa):Ev X E (.Tuple es x1 pos) (Am fa):=
 BH (XF h) fun σ H Q z13_=>by obtain ⟨m,ρ,hd,hr,er,p⟩:=z13_;exact (⟨m,ρ,hd,hr,er,Post.bind p fun xs h1 vs m1 H1 _ p1 k1 hr1 r1 q1=>by
  by_cases hz:xs.length≤sizeLine
  ·rw [if_pos hz] at q1
   exact ⟨by rw [←DVs.len r1];exact hz,GO hr1 r1 q1⟩
  ·rw [if_neg hz] at q1;exact q1.elim⟩)
theorem YW (h:Cj X E es fa):Ev X E (.List es pos) (AN fa):=
 BH (XG h) fun σ H Q z14_=>by obtain ⟨m,ρ,hd,hr,er,p⟩:=z14_;exact (⟨m,ρ,hd,hr,er,Post.bind p fun xs h1 vs m1 H1 _ p1 k1 hr1 r1 q1=>HQ hr1 r1 q1⟩)
inductive J0 (K:PySem.W.Frag) (F:List D→HD→Out D) (vs:List V) (H:Hp) (Q:VK) (E:XK):Prop where
 |mk (m:List Addr) (ds:List D) (h:HD) (hr:HR K m h H) (r:DVs K m H ds vs) (p:Post K (rD K) m H E0 Q (F ds h)):J0 K F vs H Q E
def Ar (n:Nat) (F:List D→HD→Out D):Prop:=∀ds h,ds.length≠n→F ds h=.stuck
theorem Ar.len {K:PySem.W.Frag} {n:Nat} {F:List D→HD→Out D} (ar:Ar n F) {vs:List V} {H:Hp} {Q:VK} {E':XK} (h:J0 K F vs H Q E'):vs.length=n:=by
 obtain ⟨m,ds,hd,hr,r,p⟩:=h
 rw [←r.len]
 by_cases e:ds.length=n
 ·exact e
 ·rw [ar ds hd e] at p;exact p.elim
def ar0 (F:HD→Out D):List D→HD→Out D:=fun ds h=>match ds with
 |[]=>F h
 |_=>.stuck
def Ai (F:D→HD→Out D):List D→HD→Out D:=fun ds h=>match ds with
 |[a]=>F a h
 |_=>.stuck
def Bc (F:D→D→HD→Out D):List D→HD→Out D:=fun ds h=>match ds with
 |[a,b]=>F a b h
 |_=>.stuck
def YX (F:D→D→D→HD→Out D):List D→HD→Out D:=fun ds h=>match ds with
 |[a,b,c]=>F a b c h
 |_=>.stuck
def Ae (F:List D→HD→Out D) (fa:MA):ME:=fun ρ h=>(fa ρ h).bind F
def CJ (X:Cx) (f:Value) (F:List D→HD→Out D):Prop:=
 ∃r:List V→Hp→VK→Prop,Dg X f r∧∀m H h E ds vs Q,HR X.K m h H→DVs X.K m H ds vs→Post X.K (rD X.K) m H E Q (F ds h)→r vs H Q
theorem YY {id:String} {F:List D→HD→Out D} {x:Str} {p pos:Pos} {e:Expr} (hc:CJ X (.builtin id) F) (hg:Gl X x) (hm:X.mg x=none) (hv:bootBuiltins x=some (.builtin id)) (ha:Cj X E (e::es) fa) (hn:x≠"__name__":=by decide) (hdb:(x==("__debug__":Str))=false:=by decide)
 (hs:starEach (e::es) X.env=(false,eval e X.env)::starEach es X.env:=by rfl) (hpl:(backTo pos (starEach es X.env)).any (·.1)=false:=by rfl):Ev X E (.Call (.Name x p) (e::es) [] pos) (Ae F fa):=by
 obtain ⟨r,hc,i⟩:=hc
 exact BH (XR hc hg hm hv ha hn hdb hs hpl) fun σ H Q z17_=>by obtain ⟨m,ρ,hd,hr,er,p⟩:=z17_;exact (⟨m,ρ,hd,hr,er,Post.bind p fun xs h1 vs m1 H1 e1 p1 k1 hr1 r1 q1=>i m1 H1 h1 E xs vs Q hr1 r1 q1⟩)
theorem YZ {id:String} {F:List D→HD→Out D} {x:Str} {p pos:Pos} {e:Expr} (hc:CJ X (.type id) F) (hg:Gl X x) (hm:X.mg x=none) (hv:bootBuiltins x=some (.type id)) (ha:Cj X E (e::es) fa) (hn:x≠"__name__":=by decide) (hdb:(x==("__debug__":Str))=false:=by decide)
 (hs:starEach (e::es) X.env=(false,eval e X.env)::starEach es X.env:=by rfl) (hpl:(backTo pos (starEach es X.env)).any (·.1)=false:=by rfl):Ev X E (.Call (.Name x p) (e::es) [] pos) (Ae F fa):=by
 obtain ⟨r,hc,i⟩:=hc
 exact BH (XS hc hg hm hv ha hn hdb hs hpl) fun σ H Q z18_=>by obtain ⟨m,ρ,hd,hr,er,p⟩:=z18_;exact (⟨m,ρ,hd,hr,er,Post.bind p fun xs h1 vs m1 H1 e1 p1 k1 hr1 r1 q1=>i m1 H1 h1 E xs vs Q hr1 r1 q1⟩)
end
section
variable {X:Cx} {E:XK}
theorem A3 {K:PySem.W.Frag} {m:List Addr} {H:Hp} {h:HD} {d:D} {v:V} {Q:VK} (hr:HR K m h H) (q:Post K (rD K) m H E Q (.ok d h)) (r:DV K m H d v):Q v H:=q v m H (Az _) (.refl _) hr r
theorem op_catT0:OpR X (binaryOp .Add) (fun x y H Q=>∃a b ys,x=.ref a∧y=.ref b∧SqT X.K H a []∧SqT X.K H b ys∧Q (.ref b) H):=by
 intro pins s σ H x y v u Q I rx ry h
 obtain ⟨a,b,ys,rfl,rfl,ha,hb,q⟩:=h
 cases rx
 cases ry
 obtain ⟨its,r1,p1,_⟩:=I.tuple ha
 obtain ⟨its2,r2,p2,_⟩:=I.tuple hb
 cases r1
 obtain ⟨⟨cls,dd,data,sl⟩,ho,hc,n,hd⟩:=id p1
 obtain ⟨⟨cls2,dd2,data2,sl2⟩,ho2,hc2,n2,hd2⟩:=id p2
 simp only at hc hd hc2 hd2
 subst hc hd hc2 hd2
 exact concat_meets ⟨_,ho,rfl⟩ ⟨_,ho2,rfl⟩ noFill_tuple_add seq_tuple_add PySem.F.slot_tuple_add PySem.F.entry_tuple_add (PySem.F.args_tuple_add_2 _ _)
  (tuple_addW0 a b _ its2.toArray n n2 dd dd2 sl sl2 (by simp)) ⟨ho,ho2,⟨.ref b,H,I,rfl,q⟩⟩
def Av:D→D→HD→Out D
 |.int i,.int j,h=>.ok (.int (i+j)) h
 |.str x,.str y,h=>if x.length+y.length≤sizeLine then .ok (.str (x++y)) h else .stuck
 |.tup xs,.tup ys,h=>if xs.length+ys.length≤sizeLine then .ok (.tup (xs++ys)) h else .stuck
 |.loc l,.loc k,h=>match h[l]?,h[k]? with
  |some (.lst xs),some (.lst ys)=>B9 (xs++ys) h
  |_,_=>.stuck
 |_,_,_=>.stuck
theorem Y0:Bh X (binaryOp .Add) Av:=by
 refine ⟨_,op_add.or (op_catT0.or (op_catT.or (op_cat.or Xe))),fun m H h E x y v u Q hr rx ry q=>?_⟩
 unfold Av at q
 split at q
 ·simp only [DV] at rx ry
  subst rx ry
  exact .inl ⟨_,_,rfl,rfl,A3 hr q (by simp [DV])⟩
 ·simp only [DV] at rx ry
  subst rx ry
  split at q
  ·rename_i hz
   exact .inr (.inr (.inr (.inr ⟨_,_,rfl,rfl,hz,A3 hr q (by simp [DV])⟩)))
  ·exact q.elim
 ·rename_i xs ys
  simp only [DV] at rx ry
  obtain ⟨a,vs,rfl,ha,dx⟩:=rx
  obtain ⟨b,ws,rfl,hb,dy⟩:=ry
  split at q
  ·rename_i hz
   cases xs with
   |nil=>
    simp only [DVs] at dx
    subst dx
    exact .inr (.inl ⟨a,b,ws,rfl,rfl,SqT.of ha,SqT.of hb,A3 hr q (by simp only [DV];exact ⟨b,ws,rfl,hb,dy⟩)⟩)
   |cons x xs=>
    refine .inr (.inr (.inl ⟨a,b,vs,ws,rfl,rfl,SqT.of ha,SqT.of hb,?_,by rw [←dx.len,←dy.len];exact hz,fun e=>?_,fun e=>?_⟩))
    ·intro e;have:=dx.len;rw [e] at this;simp at this
    ·subst e
     have:ys=[]:=by have:=dy.len;simpa using this
     subst this
     exact A3 hr q (by simp only [DV];exact ⟨a,vs,rfl,ha,by simpa using dx⟩)
    ·exact GO hr (dx.app dy) q
  ·exact q.elim
 ·simp only [DV] at rx ry
  obtain ⟨a,rfl,ha⟩:=rx
  obtain ⟨b,rfl,hb⟩:=ry
  split at q
  ·rename_i xs ys e1 e2
   obtain ⟨vs,h1,d1⟩:=hr.cells _ _ a e1 ha
   obtain ⟨ws,h2,d2⟩:=hr.cells _ _ b e2 hb
   obtain ⟨z,q'⟩:=HQ hr (d1.app d2) q
   exact .inr (.inr (.inr (.inl ⟨a,b,vs,ws,rfl,rfl,h1,h2,by simpa using z,q'⟩)))
  ·exact q.elim
 ·exact q.elim
def intD (f:Int→Int→D) (c:Int→Int→Prop) [∀i j,Decidable (c i j)]:D→D→HD→Out D
 |.int i,.int j,h=>if c i j then .ok (f i j) h else .stuck
 |_,_,_=>.stuck
theorem J1 {o:Value→Value→Sem Value} {f:Int→Int→V} {g:Int→Int→D} {c c':Int→Int→Prop} [∀i j,Decidable (c' i j)] (h:OpR X o (rI c f)) (hc:∀i j,c' i j→c i j) (hg:∀m H i j,DV X.K m H (g i j) (f i j)):Bh X o (intD g c'):=by
 refine ⟨_,h,fun m H h E x y v u Q hr rx ry q=>?_⟩
 unfold intD at q
 split at q
 ·simp only [DV] at rx ry
  subst rx ry
  split at q
  ·rename_i hc'
   exact ⟨_,_,rfl,rfl,hc _ _ hc',A3 hr q (hg _ _ _ _)⟩
  ·exact q.elim
 ·exact q.elim
def Fi (f:Int→Int→D):D→D→HD→Out D
 |.int i,.int j,h=>.ok (f i j) h
 |_,_,_=>.stuck
theorem HU {o:Value→Value→Sem Value} {f:Int→Int→V} {g:Int→Int→D} (h:OpR X o (EJ f)) (hg:∀m H i j,DV X.K m H (g i j) (f i j)):Bh X o (Fi g):=by
 refine ⟨_,h,fun m H h E x y v u Q hr rx ry q=>?_⟩
 unfold Fi at q
 split at q
 ·simp only [DV] at rx ry
  subst rx ry
  exact ⟨_,_,rfl,rfl,A3 hr q (hg _ _ _ _)⟩
 ·exact q.elim
abbrev DO:=Fi fun i j=>.int (i - j)
theorem Y1:Bh X (binaryOp .Sub) DO:=HU WT fun _ _ _ _=>by simp [DV]
abbrev EL:=Fi fun i j=>.bl (decide (i<j))
abbrev HV:=Fi fun i j=>.bl (decide (i≤j))
abbrev GP:=Fi fun i j=>.bl (decide (j<i))
theorem J2:Bh X (compareOp .Lt) EL:=HU W2 fun _ _ _ _=>by simp [DV]
theorem PY:Bh X (compareOp .LtE) HV:=HU W3 fun _ _ _ _=>by simp [DV]
theorem Y2:Bh X (compareOp .Gt) GP:=HU W4 fun _ _ _ _=>by simp [DV]
instance (i j:Int):Decidable (CMul i j):=by unfold CMul;infer_instance
instance (i j:Int):Decidable (Pd i j):=by unfold Pd;infer_instance
instance (i j:Int):Decidable (FY i j):=by unfold FY;infer_instance
abbrev DP:=intD (fun i j=>.int (i % j)) fun _ j=>0<j
theorem Y3:Bh X (binaryOp .Mod) DP:=J1 WU (fun _ _ h=>h) fun _ _ _ _=>by simp [DV]
abbrev GQ:=intD (fun i j=>.int (i^j.toNat)) FY
theorem Y4:Bh X (binaryOp .Pow) GQ:=J1 WV (fun _ _ h=>h) fun _ _ _ _=>by simp [DV]
abbrev Fj:=intD (fun i j=>.int (i*2^j.toNat)) FY
theorem Y5:Bh X (binaryOp .LShift) Fj:=J1 WW (fun _ _ h=>h) fun _ _ _ _=>by simp [DV]
def Zfo:D→D→HD→Out D
 |.int i,.int j,h=>if CMul i j then .ok (.int (i*j)) h else .stuck
 |.loc l,.int k,h=>match h[l]? with
  |some (.lst xs)=>if -(2^63)≤k∧k<2^63 then B9 (List.replicate k.toNat xs).flatten h else .stuck
  |_=>.stuck
 |_,_,_=>.stuck
theorem op_isB:OpR X (compareOp .Is) (fun x y H Q=>∃b c,x=.bl b∧y=.bl c∧Q (.bl (b==c)) H):=by
 intro pins s σ H x y v u Q I rx ry h
 obtain ⟨b,c,rfl,rfl,q⟩:=h
 cases rx
 cases ry
 exact wpAny_is_plain rfl ⟨.bl _,H,I,by cases b<;>cases c<;>rfl,q⟩
theorem op_isnotB:OpR X (compareOp .IsNot) (fun x y H Q=>∃b c,x=.bl b∧y=.bl c∧Q (.bl (!(b==c))) H):=by
 intro pins s σ H x y v u Q I rx ry h
 obtain ⟨b,c,rfl,rfl,q⟩:=h
 cases rx
 cases ry
 exact wpAny_isNot_plain rfl ⟨.bl _,H,I,by cases b<;>cases c<;>rfl,q⟩
def MY:D→Bool
 |.non=>true
 |_=>false
def Fm:D→D→HD→Out D
 |.bl b,.bl c,h=>.ok (.bl (b==c)) h
 |x,.non,h=>.ok (.bl (MY x)) h
 |_,_,_=>.stuck
def CS:D→D→HD→Out D
 |.bl b,.bl c,h=>.ok (.bl (!(b==c))) h
 |x,.non,h=>.ok (.bl (!MY x)) h
 |_,_,_=>.stuck
theorem PZ {m:List Addr} {H:Hp} {x:D} {v:V} (r:DV X.K m H x v):decide (v=.non)=MY x:=by
 cases x<;>simp only [DV] at r<;>first |(subst r;rfl) |(obtain ⟨_,rfl,_⟩:=r;rfl) |(obtain ⟨_,_,rfl,_⟩:=r;rfl) |(obtain ⟨_,_,_,rfl,_⟩:=r;rfl) |(obtain ⟨rfl,_⟩:=r;rfl)
theorem Y6:Bh X (compareOp .Is) Fm:=by
 refine ⟨_,op_isB.or W5,fun m H h E x y v u Q hr rx ry q=>?_⟩
 unfold Fm at q
 split at q
 ·simp only [DV] at rx ry
  subst rx ry
  exact .inl ⟨_,_,rfl,rfl,A3 hr q (by simp [DV])⟩
 ·simp only [DV] at ry
  subst ry
  exact .inr ⟨rfl,A3 hr q (by simp [DV,PZ rx])⟩
 ·exact q.elim
theorem Y7:Bh X (compareOp .IsNot) CS:=by
 refine ⟨_,op_isnotB.or W6,fun m H h E x y v u Q hr rx ry q=>?_⟩
 unfold CS at q
 split at q
 ·simp only [DV] at rx ry
  subst rx ry
  exact .inl ⟨_,_,rfl,rfl,A3 hr q (by simp [DV])⟩
 ·simp only [DV] at ry
  subst ry
  exact .inr ⟨rfl,A3 hr q (by simp [DV,PZ rx])⟩
 ·exact q.elim
end
def AC {α:Type}:List (Option α)→Option (List α)
 |[]=>some []
 |none::_=>none
 |some a::r=>(AC r).map (a::·)
def AL (h:HD):Nat→D→Option PyData
 |_,.non=>some .none
 |_,.bl b=>some (.bool b)
 |_,.int i=>some (.int i)
 |_,.str x=>some (.str x)
 |n+1,.tup ds=>(AC (ds.map (AL h n))).map .tuple
 |n+1,.loc l=>match h[l]? with
  |some (.lst ds)=>(AC (ds.map (AL h n))).map .list
  |_=>none
 |_,_=>none
section
variable {X:Cx} {E:XK} {pins:List (Addr×Obj)} {σ:L2.St} {H:Hp} {s:Shared} {m:List Addr} {h:HD}
theorem MZ {n:Nat} (ih:∀(d:D) (v:V) (u:Value) (p:PyData),DV X.K m H d v→RelV v u→AL h n d=some p→∃as,Reads s.heap u p as):
 ∀(ds:List D) (vs:List V) (us:List Value) (ps:List PyData),DVs X.K m H ds vs→Vals vs us→AC (ds.map (AL h n))=some ps→∃as,ReadsAll s.heap us ps as
 |[],vs,us,ps,r,q,e=>by
  simp only [DVs] at r
  subst r
  cases q
  simp [AC] at e
  subst e
  exact ⟨[],.nil⟩
 |d::ds,vs,us,ps,r,q,e=>by
  simp only [DVs] at r
  obtain ⟨v,w,rfl,rv,rw'⟩:=r
  cases q with
  |cons q1 q2=>
   rw [BD] at e
   cases ed:AL h n d with
   |none=>rw [ed] at e;simp [AC] at e
   |some p=>
    rw [ed] at e
    simp only [AC,qaW] at e
    obtain ⟨ps',e1,rfl⟩:=e
    obtain ⟨as,h1⟩:=ih d v _ p rv q1 ed
    obtain ⟨bs,h2⟩:=MZ ih ds w _ ps' rw' q2 e1
    exact ⟨as++bs,.cons h1 h2⟩
theorem M0 (hok:HOk X.prog X.w H s.heap) (hr:HR X.K m h H):∀(n:Nat) (d:D) (v:V) (u:Value) (p:PyData),DV X.K m H d v→RelV v u→AL h n d=some p→∃as,Reads s.heap u p as:=by
 intro n
 induction n with
 |zero=>
  intro d v u p r q e
  cases d<;>simp only [AL,DV,Option.some.injEq] at e r<;>try (cases e;done)
  ·subst e r;cases q;exact ⟨[],.none⟩
  ·subst e r;cases q;exact ⟨[],.bool _⟩
  ·subst e r;obtain ⟨t,rfl⟩:=q;exact ⟨[],.int _ _⟩
  ·subst e r;obtain ⟨t,rfl⟩:=q;exact ⟨[],.str _ _⟩
 |succ n ih=>
  intro d v u p r q e
  cases d with
  |non=>simp only [AL,DV,Option.some.injEq] at e r;subst e r;cases q;exact ⟨[],.none⟩
  |bl b=>simp only [AL,DV,Option.some.injEq] at e r;subst e r;cases q;exact ⟨[],.bool _⟩
  |int i=>simp only [AL,DV,Option.some.injEq] at e r;subst e r;obtain ⟨t,rfl⟩:=q;exact ⟨[],.int _ _⟩
  |str x=>simp only [AL,DV,Option.some.injEq] at e r;subst e r;obtain ⟨t,rfl⟩:=q;exact ⟨[],.str _ _⟩
  |tup ds=>
   simp only [AL,DV,qaW] at e r
   obtain ⟨a,vs,rfl,ha,dv⟩:=r
   obtain ⟨ps,e1,rfl⟩:=e
   cases q
   obtain ⟨_,its,rv,⟨o,ho,hc,k,hd⟩,_⟩:=hok a _ ha
   obtain ⟨as,h1⟩:=MZ ih ds vs its ps dv rv e1
   exact ⟨as,.tuple ho hc hd (by simpa using h1)⟩
  |loc l=>
   simp only [DV] at r
   obtain ⟨a,rfl,ha⟩:=r
   cases q
   simp only [AL] at e
   split at e
   ·rename_i ds el
    simp only [qaW] at e
    obtain ⟨ps,e1,rfl⟩:=e
    obtain ⟨vs,hv,dv⟩:=hr.cells l _ a el ha
    obtain ⟨_,its,k,rv,ho⟩:=hok a _ hv
    obtain ⟨as,h1⟩:=MZ ih ds vs its ps dv rv e1
    exact ⟨_,.list ho rfl rfl (by simpa using h1)⟩
   ·cases e
  |scr ns=>simp [AL] at e
  |adr a=>simp [AL] at e
  |ty a=>simp [AL] at e
  |exc n fs=>simp [AL] at e
  |edic=>simp [AL] at e
  |glo n=>simp [AL] at e
  |clo a vs ds=>simp [AL] at e
def F5 (f:PyData→PyData→Bool):D→D→HD→Out D:=fun x y h=>match AL h 8 x,AL h 8 y with
 |some p,some q=>if SeqAt.shaped p=true∧SeqAt.shaped q=true then .ok (.bl (f p q)) h else .stuck
 |_,_=>.stuck
abbrev HW:=F5 PyData.eqv
abbrev DQ:=F5 fun p q=>!PyData.eqv p q
theorem P0 {o:CmpOp} {f:PyData→PyData→Bool}
 (rule:∀{s:Shared} {a b:Value} {p q:PyData} {as bs:List Addr} {Q:Value→Shared→Prop},Reads s.heap a p as→Reads s.heap b q bs→SeqAt.shaped p=true→SeqAt.shaped q=true→Q (.bool (f p q)) s→wpAny (model X.prog X.w) X.A (compareOp o a b) Q X.xe s):
 Bh X (compareOp o) (F5 f):=by
 refine ⟨fun v u H Q=>∃m h x y,HR X.K m h H∧DV X.K m H x v∧DV X.K m H y u∧Post X.K (rD X.K) m H E0 Q (F5 f x y h),?_,fun m H h E x y v u Q hr rx ry q=>⟨m,h,x,y,hr,rx,ry,?_⟩⟩
 ·intro pins s σ H x y v u Q I rx ry hq
  obtain ⟨m,h,dx,dy,hr,r1,r2,q⟩:=hq
  unfold F5 at q
  split at q
  ·rename_i p p' e1 e2
   split at q
   ·rename_i hs
    obtain ⟨as,h1⟩:=M0 I.hok hr 8 dx x v p r1 rx e1
    obtain ⟨bs,h2⟩:=M0 I.hok hr 8 dy y u p' r2 ry e2
    exact rule h1 h2 hs.1 hs.2 ⟨.bl _,H,I,rfl,A3 hr q (by simp [DV])⟩
   ·exact q.elim
  ·exact q.elim
 ·unfold F5 at q ⊢
  split
  ·split
   ·rename_i e1 e2 hs
    rw [e1,e2] at q
    simp only [hs] at q
    exact q
   ·rename_i e1 e2 hs
    rw [e1,e2] at q
    simp only [hs] at q
    exact q.elim
  ·rename_i hn
   split at q
   ·rename_i e1 e2
    exact (hn _ _ e1 e2).elim
   ·exact q.elim
theorem Y8 (hu:X.A.units+64<cLine):Bh X (compareOp .Eq) HW:=P0 fun ra rb ha hb h=>eq_dataH ra rb ha hb hu h
theorem Y9 (hu:X.A.units+64<cLine):Bh X (compareOp .NotEq) DQ:=P0 fun ra rb ha hb h=>ne_dataH ra rb ha hb hu h
def BX:D→Option V
 |.non=>some .non
 |.bl b=>some (.bl b)
 |.int i=>some (.int i)
 |.str x=>some (.str x)
 |_=>none
theorem J3 {d:D} {v w:V} (r:DV X.K m H d v) (e:BX d=some w):v=w∧Ds v=true:=by
 cases d<;>simp only [BX,Option.some.injEq,DV] at e r<;>first |(subst e r;exact ⟨rfl,rfl⟩) |cases e
theorem J4:∀{ds:List D} {vs ws:List V},DVs X.K m H ds vs→AC (ds.map BX)=some ws→vs=ws∧vs.all Ds=true
 |[],vs,ws,r,e=>by
  simp only [DVs] at r
  simp [AC] at e
  subst r e
  exact ⟨rfl,rfl⟩
 |d::ds,vs,ws,r,e=>by
  simp only [DVs] at r
  obtain ⟨v,w,rfl,rv,rw'⟩:=r
  rw [BD] at e
  cases ed:BX d with
  |none=>rw [ed] at e;simp [AC] at e
  |some p=>
   rw [ed] at e
   simp only [AC,qaW] at e
   obtain ⟨ps',e1,rfl⟩:=e
   obtain ⟨h1,h2⟩:=J3 rv ed
   obtain ⟨h3,h4⟩:=J4 rw' e1
   subst h1 h3
   exact ⟨rfl,by simp [h2,h4]⟩
def Bd:D→HD→Option (List D)
 |.tup ds,_=>some ds
 |.loc l,h=>match h[l]? with
  |some (.lst ds)=>some ds
  |_=>none
 |.scr ns,_=>some (ns.map .int)
 |_,_=>none
theorem P3 {ns:List Int}:DVs X.K m H (ns.map .int) (ns.map V.int):=by
 induction ns with
 |nil=>exact .nil
 |cons n ns ih=>exact .cons (by simp [DV]) ih
theorem HX {d:D} {v:V} {ds:List D} (hr:HR X.K m h H) (r:DV X.K m H d v) (e:Bd d h=some ds):∃p vs,v=.ref p∧(SqL X.K H p vs∨SqT X.K H p vs)∧DVs X.K m H ds vs:=by
 cases d with
 |tup xs=>
  simp only [DV,Bd,Option.some.injEq] at r e
  subst e
  obtain ⟨a,vs,rfl,ha,dv⟩:=r
  exact ⟨a,vs,rfl,.inr (SqT.of ha),dv⟩
 |loc l=>
  simp only [DV] at r
  obtain ⟨a,rfl,ha⟩:=r
  simp only [Bd] at e
  split at e
  ·rename_i xs el
   cases e
   obtain ⟨vs,hv,dv⟩:=hr.cells l _ a el ha
   exact ⟨a,vs,rfl,.inl (SqL.of hv),dv⟩
  ·cases e
 |scr ns=>
  simp only [DV,Bd,Option.some.injEq] at r e
  subst e
  obtain ⟨a,rfl,ha⟩:=r
  exact ⟨a,_,rfl,.inl ha.sq,P3⟩
 |_=>simp [Bd] at e
def Ca (neg:Bool):D→D→HD→Out D:=fun x y h=>match Bd y h with
 |none=>.stuck
 |some ds=>match BX x,AC (ds.map BX) with
  |some v,some vs=>.ok (.bl (if neg then !EK v vs else EK v vs)) h
  |_,_=>.stuck
theorem P4 {neg:Bool}:∀m H h E x y v u Q,HR X.K m h H→DV X.K m H x v→DV X.K m H y u→Post X.K (rD X.K) m H E Q (Ca neg x y h)→MN X.K neg v u H Q:=fun m H h E x y v u Q hr rx ry q=>by
 unfold Ca at q
 split at q
 ·exact q.elim
 ·rename_i ds e
  split at q
  ·rename_i w ws e1 e2
   obtain ⟨p,vs,rfl,hs,dv⟩:=HX hr ry e
   obtain ⟨h1,h2⟩:=J3 rx e1
   obtain ⟨h3,h4⟩:=J4 dv e2
   subst h1 h3
   exact ⟨p,vs,rfl,hs,h2,h4,A3 hr q (by simp [DV])⟩
  ·exact q.elim
theorem P5:Bh X (compareOp .In) (Ca false):=⟨_,Yh,P4⟩
theorem Za:Bh X (compareOp .NotIn) (Ca true):=⟨_,Yi,P4⟩
def Aj:D→D→HD→Out D:=fun x y h=>match Bd x h,y with
 |some ds,.int i=>match Ci ds i with
  |some d=>.ok d h
  |none=>.stuck
 |_,_=>.stuck
theorem Zb {ds:List D} {vs:List V} {i:Int} {d:D} (r:DVs X.K m H ds vs) (e:Ci ds i=some d):∃v,Ci vs i=some v∧DV X.K m H d v:=by
 unfold Ci at e ⊢
 rw [r.len] at e
 cases k:CF vs.length i with
 |none=>rw [k] at e;cases e
 |some j=>
  rw [k] at e
  exact r.get e
theorem Zc {a b:Expr} {pos:Pos} {f g:ME} (ha:Ev X E a f) (hb:Ev X E b g) (hs:PD b):Ev X E (.Subscript a b pos) (Ad Aj f g):=
 BH (X8 (ix_list.or ix_tup) ha hb hs) fun σ H Q hq=>JT hq fun m H2 h2 x y v u hr rx ry q=>by
  unfold Aj at q
  split at q
  ·rename_i ds i e
   split at q
   ·rename_i d ed
    simp only [DV] at ry
    subst ry
    obtain ⟨p,vs,rfl,hsq,dv⟩:=HX hr rx e
    obtain ⟨w,e1,r1⟩:=Zb dv ed
    rcases hsq with hsq |hsq
    ·exact .inl ⟨p,vs,i,w,rfl,rfl,hsq,e1,A3 hr q r1⟩
    ·exact .inr ⟨p,vs,i,w,rfl,rfl,hsq,e1,A3 hr q r1⟩
   ·exact q.elim
  ·exact q.elim
def AJ:D→HD→Out D:=fun x h=>match Bd x h with
 |some ds=>.ok (.int ds.length) h
 |none=>.stuck
theorem Fo {F:D→HD→Out D} {ds:List D} {vs:List V} {Q:VK} {C:Prop} (r:DVs X.K m H ds vs) (q:Post X.K (rD X.K) m H E Q (Ai F ds h)) (k:∀d v,vs=[v]→DV X.K m H d v→Post X.K (rD X.K) m H E Q (F d h)→C):C:=by
 unfold Ai at q
 split at q
 ·simp only [DVs] at r
  obtain ⟨v,w,rfl,rv,rfl⟩:=r
  exact k _ v rfl rv q
 ·exact q.elim
theorem J5 {F:D→D→HD→Out D} {ds:List D} {vs:List V} {Q:VK} {C:Prop} (r:DVs X.K m H ds vs) (q:Post X.K (rD X.K) m H E Q (Bc F ds h)) (k:∀d d' v v',vs=[v,v']→DV X.K m H d v→DV X.K m H d' v'→Post X.K (rD X.K) m H E Q (F d d' h)→C):C:=by
 unfold Bc at q
 split at q
 ·simp only [DVs] at r
  obtain ⟨v,w,rfl,rv,v',w',rfl,rv',rfl⟩:=r
  exact k _ _ v v' rfl rv rv' q
 ·exact q.elim
theorem Zd:CJ X (.builtin "len") (Ai AJ):=by
 refine ⟨_,Yj,fun m H h E ds vs Q hr r q=>Fo r q fun d v ev rv q=>?_⟩
 unfold AJ at q
 split at q
 ·rename_i xs e
  obtain ⟨p,ws,rfl,hs,dv⟩:=HX hr rv e
  exact ⟨p,ws,ev,hs,by rw [←dv.len];exact A3 hr q (by simp [DV])⟩
 ·exact q.elim
def CDv (i j:Int):Prop:=0<j∧j<18446744073709551616
instance (i j:Int):Decidable (CDv i j):=by unfold CDv;infer_instance
theorem CDv.no {i j:Int} (h:CDv i j):Builtin.divisionGoesByPylong i j=false:=by
 refine PyProof.noPylong_of_log2 ?_
 have h0:j.natAbs≠0:=by have:=h.1;omega
 have h1:j.natAbs<2^64:=by have:=h.2;have:=h.1;omega
 exact Nat.lt_trans ((Nat.log2_lt h0).mpr h1) (by decide)
theorem Ze:Dg X (.builtin "divmod") (fun xs H Q=>∃i j,xs=[.int i,.int j]∧CDv i j∧∀p,H p=none→Q (.ref p) (Ak H p (.tup [.int (i / j),.int (i % j)]))):=by
 intro pins s σ H xs us Q I r h
 obtain ⟨i,j,rfl,hc,q⟩:=h
 obtain ⟨u,w',rfl,⟨t,rfl⟩,⟨t',rfl⟩⟩:=JJ r
 have h1:=hc.1
 refine divmod_int (by omega) ?_ (.inl hc.no)
 rw [Int.fdiv_eq_ediv_of_nonneg i (by omega),Int.fmod_eq_emod_of_nonneg i (by omega)]
 have hn:H s.heap.objs.size=none:=I.hok.fresh (AG _)
 refine ⟨.ref s.heap.objs.size,_,?_,rfl,q _ hn⟩
 refine I.laid (fun b o e=>AB _ e) (AG _) ⟨by simp only [D7,HC];rw [sizeLine_eq];decide,[.int (i / j) s.toks,.int (i % j) (s.toks+1)],.cons ⟨_,rfl⟩ (.cons ⟨_,rfl⟩ .nil),?_,NoDict.new⟩
 exact ⟨_,Bf s.heap rfl,rfl,0,rfl⟩
def HY:D→D→HD→Out D
 |.int i,.int j,h=>if CDv i j then .ok (.tup [.int (i / j),.int (i % j)]) h else .stuck
 |_,_,_=>.stuck
theorem Zf:CJ X (.builtin "divmod") (Bc HY):=by
 refine ⟨_,Ze,fun m H h E ds vs Q hr r q=>J5 r q fun d d' v v' ev rv rv' q=>?_⟩
 unfold HY at q
 split at q
 ·split at q
  ·rename_i i j hc
   simp only [DV] at rv rv'
   subst rv rv'
   exact ⟨i,j,ev,hc,GO hr (.cons (by simp [DV]) (.cons (by simp [DV]) .nil)) q⟩
  ·exact q.elim
 ·exact q.elim
theorem Zg:OpR X (binaryOp .FloorDiv) (rI CDv fun i j=>.int (i / j)):=HM fun i j _ _ _ _ _ hc q=>by
 have h1:=hc.1
 exact floordiv_int (by omega) (by rw [Int.fdiv_eq_ediv_of_nonneg i (by omega)];exact q) (.inl hc.no)
abbrev EN:=intD (fun i j=>.int (i / j)) CDv
theorem Zh:Bh X (binaryOp .FloorDiv) EN:=J1 Zg (fun _ _ h=>h) fun _ _ _ _=>by simp [DV]
def HZ:D→D→HD→Out D
 |.int i,.int j,h=>.ok (.int (if j>i then j else i)) h
 |_,_,_=>.stuck
def Fp:D→D→HD→Out D
 |.int i,.int j,h=>.ok (.int (if j<i then j else i)) h
 |_,_,_=>.stuck
theorem Zi (hc:X.calm=true):CJ X (.builtin "max") (Bc HZ):=by
 refine ⟨_,Xf hc,fun m H h E ds vs Q hr r q=>J5 r q fun d d' v v' ev rv rv' q=>?_⟩
 unfold HZ at q
 split at q
 ·simp only [DV] at rv rv'
  subst rv rv'
  exact ⟨_,_,ev,A3 hr q (by simp [DV])⟩
 ·exact q.elim
theorem Zj (hc:X.calm=true):CJ X (.builtin "min") (Bc Fp):=by
 refine ⟨_,Xg hc,fun m H h E ds vs Q hr r q=>J5 r q fun d d' v v' ev rv rv' q=>?_⟩
 unfold Fp at q
 split at q
 ·simp only [DV] at rv rv'
  subst rv rv'
  exact ⟨_,_,ev,A3 hr q (by simp [DV])⟩
 ·exact q.elim
def Ei:D→HD→Out D
 |.int i,h=>.ok (.int i) h
 |.bl b,h=>.ok (.int (if b then 1 else 0)) h
 |_,_=>.stuck
theorem Zk:CJ X (.type "int") (Ai Ei):=by
 refine ⟨_,Xh,fun m H h E ds vs Q hr r q=>Fo r q fun d v ev rv q=>?_⟩
 unfold Ei at q
 split at q
 ·simp only [DV] at rv;subst rv
  exact .inl ⟨_,ev,A3 hr q (by simp [DV])⟩
 ·simp only [DV] at rv;subst rv
  exact .inr ⟨_,ev,A3 hr q (by simp [DV])⟩
 ·exact q.elim
def Be:D→HD→Out D:=fun x h=>match x with
 |.tup ds=>.ok (.tup ds) h
 |.loc l=>match h[l]? with
  |some (.lst ds)=>.ok (.tup ds) h
  |_=>.stuck
 |_=>.stuck
theorem Zl:CJ X (.type "tuple") (Ai Be):=by
 refine ⟨_,Yl,fun m H h E ds vs Q hr r q=>Fo r q fun d v ev rv q=>?_⟩
 unfold Be at q
 split at q
 ·simp only [DV] at rv
  obtain ⟨a,ws,rfl,ha,dv⟩:=rv
  exact ⟨a,ws,ev,.inr ⟨SqT.of ha,A3 hr q (by simp only [DV];exact ⟨a,ws,rfl,ha,dv⟩)⟩⟩
 ·split at q
  ·rename_i ds' el
   simp only [DV] at rv
   obtain ⟨a,rfl,ha⟩:=rv
   obtain ⟨ws,hv,dv⟩:=hr.cells _ _ a el ha
   exact ⟨a,ws,ev,.inl ⟨SqL.of hv,GO hr dv q⟩⟩
  ·exact q.elim
 ·exact q.elim
end
theorem PostS.bind {α β:Type} {K:PySem.W.Frag} {m:List Addr} {H:Hp} {R:List Addr→Hp→α→β→Prop} {E:XK} {Q':β→Hp→Prop} {Dn:Dr} {o:Out α} {k:α→HD→Out (Fl×Ag)}
 (h:PostS K m H E Dn (o.bind k)) (f:∀a h1 v m1 H1,o=.ok a h1→m <+:m1→Kp H H1→HR K m1 h1 H1→R m1 H1 a v→PostS K m1 H1 E Dn (k a h1)→Q' v H1):Post K R m H E Q' o:=by
 cases o with
 |ok a h1=>exact fun v m1 H1 p kk hr r=>f a h1 v m1 H1 rfl p kk hr r (h.ahead p kk)
 |err C fs h1=>exact h
 |stuck=>exact h
theorem PostS.here {K:PySem.W.Frag} {m:List Addr} {H:Hp} {E:XK} {Dn:Dr} {a:Fl×Ag} {h:HD} (hr:HR K m h H) (p:PostS K m H E Dn (.ok a h)):PM K m H Dn a:=p m H (Az _) (.refl _) hr
section
variable {X:Cx} {E:XK} {st:Stmt} {sts b1 b2:List Stmt} {g g1 g2:MS} {e:Expr} {f:ME} {pos:Pos} {t:MT}
def AD:MS:=fun ρ h=>.ok (.nx,ρ) h
def Af (g1 g2:MS):MS:=fun ρ h=>(g1 ρ h).bind fun x h1=>match x with
 |(.nx,ρ1)=>g2 ρ1 h1
 |y=>.ok y h1
theorem Zm:Cn X E [] AD:=MW Wk fun Dn σ H z1_=>by obtain ⟨m,ρ,h,hr,er,p⟩:=z1_;exact ((p.here hr) σ er)
theorem J6 (h:Ex X E st g):Cn X E [st] g:=Wm h
theorem J7 (h1:Ex X E st g1) (h2:Cn X E sts g2):Cn X E (st::sts) (Af g1 g2):=
 MW (Wl h1 h2) fun Dn σ H z2_=>by
  obtain ⟨m,ρ,h,hr,er,p⟩:=z2_
  refine ⟨m,ρ,h,hr,er,?_⟩
  unfold Af at p
  cases o:g1 ρ h with
  |stuck=>rw [o] at p;exact p
  |err C fs h1=>rw [o] at p;exact p
  |ok x h1=>
   rw [o] at p
   obtain ⟨fl,ρ1⟩:=x
   intro m1 H1 p1 k1 hr1
   cases fl with
   |nx=>exact fun σ1 er1=>⟨m1,ρ1,h1,hr1,er1,PostS.ahead p1 k1 p⟩
   |bk=>exact p m1 H1 p1 k1 hr1
   |ct=>exact p m1 H1 p1 k1 hr1
   |rt d=>exact p m1 H1 p1 k1 hr1
def AY (f:ME):MS:=fun ρ h=>(f ρ h).bind fun _ h1=>.ok (.nx,ρ) h1
theorem Zn (he:Ev X E e f) (hs:swapsWith e none pos.line X.env=pure false:=by rfl):Ex X E (.Expr e pos) (AY f):=
 Dv (Wo he hs) fun Dn σ H z3_=>by obtain ⟨m,ρ,h,hr,er,p⟩:=z3_;exact (⟨m,ρ,h,hr,er,PostS.bind p fun x h1 v m1 H1 _ p1 k1 hr1 r1 q1=>(q1.here hr1) σ (er.keep p1 k1)⟩)
def Al (f:ME):MS:=fun ρ h=>(f ρ h).bind fun d h1=>.ok (.rt d,ρ) h1
theorem P6 (he:Ev X E e f):Ex X E (.Return (some e) pos) (Al f):=
 Dv (Wr he) fun Dn σ H z4_=>by obtain ⟨m,ρ,h,hr,er,p⟩:=z4_;exact (⟨m,ρ,h,hr,er,PostS.bind p fun x h1 v m1 H1 _ p1 k1 hr1 r1 q1=>(q1.here hr1) v r1⟩)
def Ay (t:MT) (g1 g2:MS):MS:=fun ρ h=>(t ρ h).bind fun b h1=>if b=true then g1 ρ h1 else g2 ρ h1
theorem Zo {c:Expr} (hc:Du X E c t) (ha:Cn X E b1 g1) (hb:Cn X E b2 g2):Ex X E (.If c b1 b2 pos) (Ay t g1 g2):=
 Dv (Wt hc ha hb) fun Dn σ H z5_=>by obtain ⟨m,ρ,h,hr,er,p⟩:=z5_;exact (⟨m,ρ,h,hr,er,PostS.bind p fun x h1 v m1 H1 _ p1 k1 hr1 r1 q1=>by
  cases r1
  cases x with
  |true=>exact ⟨m1,ρ,h1,hr1,er.keep p1 k1,q1⟩
  |false=>exact ⟨m1,ρ,h1,hr1,er.keep p1 k1,q1⟩⟩)
def P7:MS:=fun _ _=>.stuck
theorem Zp:Cn X E sts P7:=MW Wv fun Dn σ H z7_=>by obtain ⟨m,ρ,h,hr,er,p⟩:=z7_;exact (p)
def An (i:Nat) (f:ME):MS:=fun ρ h=>(f ρ h).bind fun d h1=>.ok (.nx,ρ.set i (some d)) h1
theorem M1 {i:Nat} {x:Str} {pos':Pos} (hN:X.N.Nodup) (hi:X.N[i]?=some x) (hx:FU X.env.scope x) (he:Ev X E e f) (hs:swapsWith e (some (.Name x pos')) pos.line X.env=pure false:=by rfl) (hf:X.fn x=true∨X.env.scope.names.lookup x=some .local:=by first |exact .inl rfl |exact .inr rfl |assumption):
 Ex X E (.Assign [.Name x pos'] e pos) (An i f):=
 Dv (Wy hN hi hx he hs hf) fun Dn σ H z9_=>by obtain ⟨m,ρ,h,hr,er,p⟩:=z9_;exact (⟨m,ρ,h,hr,er,PostS.bind p fun x h1 v m1 H1 _ p1 k1 hr1 r1 q1=>(q1.here hr1) _ ((er.keep p1 k1).set r1)⟩)
def Fq (i j:Nat) (fa:MA):MS:=fun ρ h=>(fa ρ h).bind fun ds h1=>match ds with
 |[x,y]=>.ok (.nx,(ρ.set i (some x)).set j (some y)) h1
 |_=>.stuck
theorem Zq {i j:Nat} {x y:Str} {a b:Expr} {fa:MA} {px py pt:Pos} {kt k2:Nat} {pt2:Pos} (hc:X.calm=true) (hN:X.N.Nodup) (hi:X.N[i]?=some x) (hj:X.N[j]?=some y) (hij:i≠j)
 (hx:X.env.scope.names.lookup x=some .local) (hy:X.env.scope.names.lookup y=some .local) (ha:Cj X E [a,b] fa)
 (hw:swappedStores [.Tuple [.Name x px,.Name y py] kt pt] (.Tuple [a,b] k2 pt2) X.env=pure (some [x,y]))
 (hs:swapsWithSole [.Tuple [.Name x px,.Name y py] kt pt] (.Tuple [a,b] k2 pt2) pos.line X.env=pure false:=by rfl):
 Ex X E (.Assign [.Tuple [.Name x px,.Name y py] kt pt] (.Tuple [a,b] k2 pt2) pos) (Fq i j fa):=
 Dv (WA hc hN hi hj hij hx hy ha hw hs) fun Dn σ H z10_=>by obtain ⟨m,ρ,h,hr,er,p⟩:=z10_;exact (⟨m,ρ,h,hr,er,PostS.bind p fun x h1 v m1 H1 _ p1 k1 hr1 r1 q1=>by
  split at q1
  ·simp only [DN,DVs] at r1
   obtain ⟨v,w,rfl,rv,v',w',rfl,rv',rfl⟩:=r1
   exact ⟨v,v',rfl,(q1.here hr1) _ (((er.keep p1 k1).set rv).set rv')⟩
  ·exact q1.elim⟩)
abbrev MG:=D→Ag→Option Ag
def Fs (X:Cx) (tg:Expr) (sg:MG):Prop:=
 ∃gg:TG,PG X tg gg∧∀m H d v ρ σ ρ' Q,DV X.K m H d v→ER X.K m H ρ σ→sg d ρ=some ρ'→(∀σ',ER X.K m H ρ' σ'→Q σ' H)→gg v σ H Q
def AV (i:Nat):MG:=fun d ρ=>some (ρ.set i (some d))
def BQ (i j:Nat):MG:=fun d ρ=>match d with
 |.tup [x,y]=>some ((ρ.set i (some x)).set j (some y))
 |_=>none
theorem Zr {i:Nat} {x:Str} (h:PG X (.Name x pos) (BP i)):Fs X (.Name x pos) (AV i):=⟨_,h,fun m H d v ρ σ ρ' Q r er e q=>by
 simp only [AV,Option.some.injEq] at e
 subst e
 exact q _ (er.set r)⟩
theorem Zs {i j:Nat} {x y:Str} {px py:Pos} {kt:Nat} (h:PG X (.Tuple [.Name x px,.Name y py] kt pos) (EI X.K 2 (Cg (BP i) (Cg (BP j) Ed)))):Fs X (.Tuple [.Name x px,.Name y py] kt pos) (BQ i j):=⟨_,h,fun m H d v ρ σ ρ' Q r er e q=>by
 unfold BQ at e
 split at e
 ·rename_i a b
  cases e
  simp only [DV,DVs] at r
  obtain ⟨p,vs,rfl,hp,v1,w1,rfl,r1,v2,w2,rfl,r2,rfl⟩:=r
  exact ⟨p,_,rfl,SqT.of hp,rfl,v1,_,rfl,v2,_,rfl,rfl,q _ ((er.set r1).set r2)⟩
 ·cases e⟩
def CG (sg:MG) (f:ME):MS:=fun ρ h=>(f ρ h).bind fun d h1=>match sg d ρ with
 |some ρ1=>.ok (.nx,ρ1) h1
 |none=>.stuck
theorem Zt {tg:Expr} {sg:MG} (he:Ev X E e f) (hg:Fs X tg sg) (hs:swapsWithSole [tg] e pos.line X.env=pure false:=by rfl) (hw:swappedStores [tg] e X.env=pure none:=by rfl)
 (h1:(assignEach [tg] X.env).map (·.2)=[assign tg X.env]:=by rfl):Ex X E (.Assign [tg] e pos) (CG sg f):=by
 obtain ⟨gg,hg,i⟩:=hg
 exact Dv (Mt he hg hs hw h1) fun Dn σ H z11_=>by obtain ⟨m,ρ,h,hr,er,p⟩:=z11_;exact (⟨m,ρ,h,hr,er,PostS.bind p fun x h1 v m1 H1 _ p1 k1 hr1 r1 q1=>by
  split at q1
  ·rename_i ρ1 es
   exact i m1 H1 x v ρ σ ρ1 _ r1 (er.keep p1 k1) es fun σ' er'=>(q1.here hr1) σ' er'
  ·exact q1.elim⟩)
abbrev AS:=List (Nat×List D)
def Bj (src:AS) (items:List D) (h:HD):Prop:=∀p∈src,h[p.1]?=some (.lst p.2)
theorem Dj {items:List D} {h:HD}:Bj [] items h:=fun p z=>nomatch z
theorem GR {items ds:List D} {h:HD} {l:Nat} (e:h[l]?=some (.lst ds)):Bj [(l,ds)] items h:=fun p z=>by
 rw [qaH] at z
 subst z
 exact e
def J8 (K:PySem.W.Frag):List Addr→Hp→(List D×AS)→It→Prop:=fun m1 H1 x J=>
 ∀i m2 h2 H2,m1 <+:m2→Kp H1 H2→HR K m2 h2 H2→Bj x.2 x.1 h2→
  (i<x.1.length→J.go i H2∧∀y H3,J.yld i H2 y H3→Kp H2 H3∧HR K m2 h2 H3∧∃d,x.1[i]?=some d∧DV K m2 H3 d y)∧(i=x.1.length→J.stop i H2)
abbrev MI:=Ag→HD→Out (List D×AS)
abbrev Ej (X:Cx) (E:XK) (tg iter:Expr) (it:MI):Prop:=PI X tg iter (tM X.K (J8 X.K) E it)
theorem H0 {tg iter:Expr} {w w':TI} (h:PI X tg iter w) (i:∀σ H R,w' σ H R→w σ H R):PI X tg iter w':=fun pins s σ H R I q=>h pins s σ H R I (i σ H R q)
theorem Zu {tg l:Expr} {tl:TE} (hl:PE X l tl):PI X tg l (fun σ H R=>tl σ H fun x H1=>∃a,x=.ref a∧(((∃xs,SqL X.K H1 a xs)∧R (HI X.K a) H1)∨((∃xs,SqT X.K H1 a xs)∧R (HJ X.K a) H1))):=by
 intro pins s σ H R I h
 refine Ap (hl pins s σ H _ I h) fun v s1 z12_=>?_
 obtain ⟨x,H1,I1,r1,q1⟩:=z12_
 obtain ⟨a,e,q⟩:=q1
 subst e
 cases r1
 rcases q with ⟨⟨xs,hq⟩,q⟩ |⟨⟨xs,hq⟩,q⟩
 ·obtain ⟨its,rv,p,hz⟩:=I1.list hq
  refine wpAny_pyIter_list p.isList ?_
  refine ⟨s1.heap.objs.size,[s1.heap.objs.size],_,_,H1,rfl,I1.kept (t':=s1.toks) fun b o e=>AB _ e,WD a _,⟨_,Bf _ rfl,rfl,rfl⟩,fun b hb=>?_,q⟩
  have e:b=s1.heap.objs.size:=by simpa using hb
  subst e
  exact I1.fpOk (AG _) (I1.hok.fresh (AG _))
 ·obtain ⟨its,rv,p,hz⟩:=I1.tuple hq
  refine wpAny_pyIter_tuple (show s1.heap.IsTuple a its.toArray from p) ?_
  refine ⟨s1.heap.objs.size,[s1.heap.objs.size],_,_,H1,rfl,I1.kept (t':=s1.toks) fun b o e=>AB _ e,WE a _,⟨_,Bf _ rfl,rfl,rfl⟩,fun b hb=>?_,q⟩
  have e:b=s1.heap.objs.size:=by simpa using hb
  subst e
  exact I1.fpOk (AG _) (I1.hok.fresh (AG _))
def P8:D→List D→AS
 |.loc l,ds=>[(l,ds)]
 |_,_=>[]
def Ft (d:D) (h:HD):Out (List D×AS):=match Bd d h with
 |some ds=>.ok (ds,P8 d ds) h
 |none=>.stuck
def By (f:ME):MI:=fun ρ h=>(f ρ h).bind Ft
theorem Kp.lget {H H':Hp} {a:Addr} {K:PySem.W.Frag} {xs:List V} (k:Kp H H') (h:FzL K H a xs):SqL K H' a xs:=(k.fzL h).sq
theorem P9 {K:PySem.W.Frag} {a:Addr} {m:List Addr} {H:Hp} {h:HD} {i:Nat} {items:List D} {vs:List V} (hr:HR K m h H) (hs:SqL K H a vs) (dv:DVs K m H items vs) (uniq:∀ys,SqL K H a ys→ys=vs∨True):
 (i<items.length→(HI K a).go i H∧∀y H3,(HI K a).yld i H y H3→Kp H H3∧HR K m h H3∧∃d,items[i]?=some d∧DV K m H3 d y)∧(i=items.length→(HI K a).stop i H):=by
 refine ⟨fun hi=>?_,fun hi=>⟨vs,hs,by rw [←dv.len];exact Nat.le_of_eq hi.symm⟩⟩
 have hd:items[i]?=some items[i]:=A2 hi
 obtain ⟨v,e1,r1⟩:=dv.get hd
 refine ⟨⟨vs,v,hs,e1⟩,fun y H3 z13_=>?_⟩
 obtain ⟨e3,hy⟩:=z13_
 subst e3
 have:=hy vs hs
 rw [e1] at this
 cases this
 exact ⟨.refl _,hr,_,hd,r1⟩
theorem Zv {K:PySem.W.Frag} {a:Addr} {m:List Addr} {H:Hp} {h:HD} {i:Nat} {items:List D} {vs:List V} (hr:HR K m h H) (hs:SqT K H a vs) (dv:DVs K m H items vs):
 (i<items.length→(HJ K a).go i H∧∀y H3,(HJ K a).yld i H y H3→Kp H H3∧HR K m h H3∧∃d,items[i]?=some d∧DV K m H3 d y)∧(i=items.length→(HJ K a).stop i H):=by
 refine ⟨fun hi=>?_,fun hi=>⟨vs,hs,by rw [←dv.len];exact Nat.le_of_eq hi.symm⟩⟩
 have hd:items[i]?=some items[i]:=A2 hi
 obtain ⟨v,e1,r1⟩:=dv.get hd
 refine ⟨⟨vs,v,hs,e1⟩,fun y H3 z14_=>?_⟩
 obtain ⟨e3,hy⟩:=z14_
 subst e3
 have:=hy vs hs
 rw [e1] at this
 cases this
 exact ⟨.refl _,hr,_,hd,r1⟩
theorem Zw {tg a:Expr} (ha:Ev X E a f):Ej X E tg a (By f):=
 H0 (Zu ha) fun σ H R ⟨m,ρ,h,hr,er,p⟩=>⟨m,ρ,h,hr,er,Post.bind p fun x h1 v m1 H1 _ p1 k1 hr1 r1 q1=>by
  unfold Ft at q1
  split at q1
  ·rename_i ds eds
   cases x with
   |tup xs=>
    simp only [Bd,Option.some.injEq] at eds
    subst eds
    simp only [rD,DV] at r1
    obtain ⟨a,vs,rfl,ha,dv⟩:=r1
    refine ⟨a,rfl,.inr ⟨⟨vs,SqT.of ha⟩,q1 _ m1 H1 (Az _) (.refl _) hr1 fun i m2 h2 H2 p2 k2 hr2 _=>?_⟩⟩
    exact Zv hr2 (SqT.of (k2 _ _ ha rfl)) (dv.keep p2 k2)
   |loc l=>
    simp only [rD,DV] at r1
    obtain ⟨a,rfl,ha⟩:=r1
    simp only [Bd] at eds
    split at eds
    ·rename_i xs el
     cases eds
     obtain ⟨vs,hv,dv⟩:=hr1.cells l _ a el ha
     refine ⟨a,rfl,.inl ⟨⟨vs,SqL.of hv⟩,q1 _ m1 H1 (Az _) (.refl _) hr1 fun i m2 h2 H2 p2 k2 hr2 hs=>?_⟩⟩
     obtain ⟨ws,hw,dw⟩:=hr2.cells l _ a (hs _ A1) (GI p2 ha)
     exact P9 hr2 (SqL.of hw) dw fun _ _=>.inr trivial
    ·cases eds
   |scr ns=>
    simp only [Bd,Option.some.injEq] at eds
    subst eds
    simp only [rD,DV] at r1
    obtain ⟨a,rfl,ha⟩:=r1
    refine ⟨a,rfl,.inl ⟨⟨_,ha.sq⟩,q1 _ m1 H1 (Az _) (.refl _) hr1 fun i m2 h2 H2 p2 k2 hr2 _=>?_⟩⟩
    exact P9 hr2 (k2.lget ha) P3 fun _ _=>.inr trivial
   |_=>simp [Bd] at eds
  ·exact q1.elim⟩
def Fu (lo:Int) (n:Nat):List D:=(List.range n).map fun k=>.int (lo+(k:Nat))
theorem Qa {K:PySem.W.Frag} {m1:List Addr} {H1:Hp} (lo:Int) (n:Nat):J8 K m1 H1 (Fu lo n,[]) (HK lo n):=fun i m2 h2 H2 p2 k2 hr2 _=>by
 refine ⟨fun hi=>?_,fun hi=>?_⟩
 ·have hi':i<n:=by simpa [Fu] using hi
  refine ⟨hi',fun y H3 z16_=>?_⟩
  obtain ⟨e3,ey⟩:=z16_
  subst e3 ey
  refine ⟨.refl _,hr2,.int (lo+i),?_,by simp [DV]⟩
  simp [Fu,Dc,hi']
 ·show n≤i
  have hi':i=n:=by simpa [Fu] using hi
  omega
@[irreducible] noncomputable def F6:List D→HD→Out (List D×AS):=fun ds h=>match ds with
  |[.int j]=>@ite _ (-(2^62)≤j∧j<2^62) (Classical.propDecidable _) (.ok (Fu 0 j.toNat,[]) h) .stuck
  |_=>.stuck
@[irreducible] noncomputable def Ia:List D→HD→Out (List D×AS):=fun ds h=>match ds with
  |[.int i,.int j]=>@ite _ ((-(2^62)≤i∧i<2^62)∧-(2^62)≤j∧j<2^62) (Classical.propDecidable _) (.ok (Fu i (j - i).toNat,[]) h) .stuck
  |_=>.stuck
noncomputable def BY (fa:MA):MI:=fun ρ h=>(fa ρ h).bind F6
noncomputable def Ib (fa:MA):MI:=fun ρ h=>(fa ρ h).bind Ia
theorem Zx {tg a:Expr} {fa:MA} {p pos:Pos} (hg:Gl X "range") (hm:X.mg "range"=none) (ha:Cj X E [a] fa) (hs:starEach [a] X.env=[(false,eval a X.env)]:=by rfl):Ej X E tg (.Call (.Name "range" p) [a] [] pos) (BY fa):=
 H0 (WJ hg hm ha hs) fun σ H R z17_=>by obtain ⟨m,ρ,h,hr,er,p⟩:=z17_;exact (⟨m,ρ,h,hr,er,Post.bind p fun x h1 v m1 H1 _ p1 k1 hr1 r1 q1=>by
  unfold F6 at q1
  split at q1
  ·split at q1
   ·rename_i hj
    simp only [DN,DVs,DV] at r1
    obtain ⟨v,w,rfl,rfl,rfl⟩:=r1
    exact ⟨_,rfl,hj.1,hj.2,q1 _ m1 H1 (Az _) (.refl _) hr1 (Qa 0 _)⟩
   ·exact q1.elim
  ·exact q1.elim⟩)
theorem Zy {tg a b:Expr} {fa:MA} {p pos:Pos} (hg:Gl X "range") (hm:X.mg "range"=none) (ha:Cj X E [a,b] fa) (hs:starEach [a,b] X.env=[(false,eval a X.env),(false,eval b X.env)]:=by rfl) (hs2:starEach [b] X.env=[(false,eval b X.env)]:=by rfl):Ej X E tg (.Call (.Name "range" p) [a,b] [] pos) (Ib fa):=
 H0 (WK hg hm ha hs hs2) fun σ H R z18_=>by obtain ⟨m,ρ,h,hr,er,p⟩:=z18_;exact (⟨m,ρ,h,hr,er,Post.bind p fun x h1 v m1 H1 _ p1 k1 hr1 r1 q1=>by
  unfold Ia at q1
  split at q1
  ·split at q1
   ·rename_i hj
    simp only [DN,DVs,DV] at r1
    obtain ⟨v,w,rfl,rfl,v',w',rfl,rfl,rfl⟩:=r1
    exact ⟨_,_,rfl,⟨hj.1.1,hj.1.2,hj.2.1,hj.2.2⟩,q1 _ m1 H1 (Az _) (.refl _) hr1 (Qa _ _)⟩
   ·exact q1.elim
  ·exact q1.elim⟩)
open Classical in
noncomputable def Ek (src:AS) (items:List D) (sg:MG) (body:MS):List D→MS
 |[]=>fun ρ h=>if Bj src items h then .ok (.nx,ρ) h else .stuck
 |d::ds=>fun ρ h=>if Bj src items h then match sg d ρ with
   |none=>.stuck
   |some ρ1=>(body ρ1 h).bind fun x h2=>match x with
    |(.nx,ρ2)=>Ek src items sg body ds ρ2 h2
    |(.ct,ρ2)=>Ek src items sg body ds ρ2 h2
    |(.bk,ρ2)=>.ok (.nx,ρ2) h2
    |(.rt d,ρ2)=>.ok (.rt d,ρ2) h2
  else .stuck
noncomputable def BI (it:MI) (sg:MG) (body:MS):MS:=fun ρ h=>(it ρ h).bind fun x h1=>Ek x.2 x.1 sg body x.1 ρ h1
inductive Qb (K:PySem.W.Frag) (E:XK) (Dn:Dr) (src:AS) (items:List D) (sg:MG) (g:MS) (m1:List Addr) (H1:Hp) (i n:Nat) (σ2:L2.St) (H2:Hp):Prop where
 |mk (e:n=items.length - i) (l:i≤items.length) (m2:List Addr) (ρ2:Ag) (h2:HD) (p:m1 <+:m2) (k:Kp H1 H2) (hr:HR K m2 h2 H2) (er:ER K m2 H2 ρ2 σ2) (q:PostS K m2 H2 E Dn (Ek src items sg g (items.drop i) ρ2 h2)):Qb K E Dn src items sg g m1 H1 i n σ2 H2
inductive Qc (K:PySem.W.Frag) (E:XK) (Dn:Dr) (src:AS) (items:List D) (sg:MG) (g:MS) (m1:List Addr) (H1:Hp) (i:Nat) (σ2:L2.St) (H2:Hp):Prop where
 |mk (m2:List Addr) (ρ2:Ag) (h2:HD) (p:m1 <+:m2) (k:Kp H1 H2) (hr:HR K m2 h2 H2) (er:ER K m2 H2 ρ2 σ2) (q:PostS K m2 H2 E Dn (Ek src items sg g (items.drop i) ρ2 h2)):Qc K E Dn src items sg g m1 H1 i σ2 H2
theorem Zz {tg iter:Expr} {body:List Stmt} {it:MI} {sg:MG} {g:MS} (hp:PassesOwn (model X.prog X.w) X.A X.env X.xe) (hc:X.calm=true) (hi:Ej X E tg iter it) (hg:Fs X tg sg) (hb:Cn X E body g)
 (hs:∀x,foldedSetIterable iter X.env x=pure x:=by intro _;rfl):Ex X E (.For tg iter body [] pos) (BI it sg g):=by
 obtain ⟨gg,hg,ig⟩:=hg
 refine Dv (WN hp hc hi hg hb hs) ?_
 rintro Dn σ H ⟨m,ρ,h,hr,er,p⟩
 refine ⟨m,ρ,h,hr,er,PostS.bind p fun x h1 J m1 H1 _ p1 k1 hr1 r1 q1=>?_⟩
 obtain ⟨items,src⟩:=x
 refine ⟨Qb X.K E Dn src items sg g m1 H1,⟨items.length,rfl,Dq _,m1,ρ,h1,Az _,.refl _,hr1,er.keep p1 k1,by simpa using q1⟩,?_⟩
 rintro i n σ2 H2 ⟨rfl,hi,m2,ρ2,h2,p2,k2,hr2,er2,q2⟩
 by_cases hlt:i<items.length
 ·rw [Jr hlt] at q2
  unfold Ek at q2
  split at q2
  ·rename_i hs
   obtain ⟨hgo,hy⟩:=(r1 i m2 h2 H2 p2 k2 hr2 hs).1 hlt
   refine .inr ⟨hgo,Qc X.K E Dn src items sg g m1 H1 (i+1),fun σ5 H5 z20_=>by obtain ⟨m5,ρ5,h5,a1,a2,a3,a4,a5⟩:=z20_;exact (⟨items.length - (i+1),by omega,rfl,hlt,m5,ρ5,h5,a1,a2,a3,a4,a5⟩),fun y H3 hyl=>?_⟩
   obtain ⟨k3,hr3,d,ed,rd⟩:=hy y H3 hyl
   have ed':d=items[i]:=by rw [A2 hlt] at ed;exact (Option.some.inj ed).symm
   subst ed'
   split at q2
   ·exact q2.elim
   ·rename_i ρ3 es
    refine ig m2 H3 _ y ρ2 σ2 ρ3 _ rd (er2.keep (Az _) k3) es fun σ4 er4=>?_
    refine ⟨m2,ρ3,h2,hr3,er4,?_⟩
    have q3:=PostS.ahead (Az _) k3 q2
    cases o:g ρ3 h2 with
    |stuck=>rw [o] at q3;exact q3
    |err C fs h5=>rw [o] at q3;exact q3
    |ok z h5=>
     rw [o] at q3
     obtain ⟨fl,ρ5⟩:=z
     intro m5 H5 p5 k5 hr5
     have pk:m1 <+:m5:=p2.trans p5
     have kk:Kp H1 H5:=(k2.trans k3).trans k5
     cases fl with
     |nx=>exact fun σ5 er5=>⟨m5,ρ5,h5,pk,kk,hr5,er5,PostS.ahead p5 k5 q3⟩
     |ct=>exact fun σ5 er5=>⟨m5,ρ5,h5,pk,kk,hr5,er5,PostS.ahead p5 k5 q3⟩
     |bk=>exact fun σ5 er5=>q3 m5 H5 p5 k5 hr5 σ5 er5
     |rt d=>exact fun v rv=>q3 m5 H5 p5 k5 hr5 v rv
  ·exact q2.elim
 ·have he:i=items.length:=Nat.le_antisymm hi (HB hlt)
  subst he
  rw [List.drop_length] at q2
  unfold Ek at q2
  split at q2
  ·rename_i hs
   exact .inl ⟨(r1 _ m2 h2 H2 p2 k2 hr2 hs).2 rfl,(q2.here hr2) σ2 er2⟩
  ·exact q2.elim
end
section
variable {M:Model} {A:Around} {E:Value→Shared→Prop} {s:Shared}
theorem M3 {env:Env}:∀(names:List (Str×NameKind)) (acc:List (Str×Addr)),(∀y∈names,y.2=.free→∃c,env.cells.lookup y.1=some c)→
 ∃cl:List (Str×Addr),(forIn names acc (fun (x:Str×NameKind) (cs:List (Str×Addr))=>match x with
  |(name,kind)=>if (kind==NameKind.free)=true then do let y ←cellOf env name;pure (ForInStep.yield ((name,y)::cs)) else pure (ForInStep.yield cs)):Sem (List (Str×Addr)))=pure cl∧
  (∀x c,(x,c)∈cl→(x,c)∈acc∨(env.cells.lookup x=some c∧(x,NameKind.free)∈names))∧(∀y∈names,y.2=.free→∃c,(y.1,c)∈cl)∧(∀p∈acc,p∈cl)
 |[],acc,_=>⟨acc,rfl,fun x c h=>.inl h,fun y hy=>absurd hy (by simp),fun p h=>h⟩
 |(name,kind)::r,acc,h=>by
  rw [HE]
  by_cases hk:kind=.free
  ·subst hk
   obtain ⟨c,hc⟩:=h (name,.free) A1 rfl
   obtain ⟨cl,e,h1,h2,h3⟩:=M3 (env:=env) r ((name,c)::acc) (fun y hy=>h y (A5 _ hy))
   refine ⟨cl,?_,fun x c' hm=>?_,fun y hy hf=>?_,fun p hp=>h3 p (A5 _ hp)⟩
   ·rw [←e]
    have:cellOf env name=pure c:=by unfold cellOf;rw [hc]
    simp only [this,beq_self_eq_true,if_true,pure_bind]
   ·rcases h1 x c' hm with q |⟨q1,q2⟩
    ·rcases qa4.mp q with q |q
     ·cases q;exact .inr ⟨hc,A1⟩
     ·exact .inl q
    ·exact .inr ⟨q1,A5 _ q2⟩
   ·rcases qa4.mp hy with q |q
    ·subst q;exact ⟨c,h3 _ A1⟩
    ·exact h2 y q hf
  ·obtain ⟨cl,e,h1,h2,h3⟩:=M3 (env:=env) r acc (fun y hy=>h y (A5 _ hy))
   refine ⟨cl,?_,fun x c' hm=>?_,fun y hy hf=>?_,h3⟩
   ·rw [←e]
    have hk':(kind==NameKind.free)=false:=by simpa using hk
    simp only [hk',Bu,if_false,pure_bind]
   ·rcases h1 x c' hm with q |⟨q1,q2⟩
    ·exact .inl q
    ·exact .inr ⟨q1,A5 _ q2⟩
   ·rcases qa4.mp hy with q |q
    ·subst q;exact absurd hf hk
    ·exact h2 y q hf
theorem Qd {scope:Scope} {env:Env} (h:∀y∈scope.names,y.2=.free→∃c,env.cells.lookup y.1=some c):
 ∃cl:List (Str×Addr),closureFor scope env=pure cl∧(∀x c,(x,c)∈cl→env.cells.lookup x=some c∧(x,NameKind.free)∈scope.names)∧(∀y∈scope.names,y.2=.free→∃c,(y.1,c)∈cl):=by
 obtain ⟨cl,e,h1,h2,h3⟩:=M3 (env:=env) scope.names [] h
 refine ⟨cl,?_,fun x c hm=>?_,h2⟩
 ·unfold closureFor
  simp only [bind_pure]
  exact e
 ·rcases h1 x c hm with q |q
  ·exact nomatch q
  ·exact q
theorem ZA {scope:Scope} {globals:Addr} {cl:List (Str×Addr)} {qual:Str} {around:Env} {Q:Env→Shared→Prop}
 (h:Q (newEnv scope s.heap.objs.size globals (cellsFrom (s.heap.objs.size+1) scope.names cl) qual none .none (some around) builtinsNs) {s with heap:=pushCells (s.heap.push {cls:=.type "dict",data:=.dict #[]}) scope.names}):
 wpAny M A (newFunctionEnv scope globals cl [] qual none .none (some around)) Q E s:=by
 simp only [newFunctionEnv,Option.isSome_some,if_true]
 refine wpAny_bind (wpAny_alloc ?_)
 refine wpAny_bind (wpAny_layCells _ (fun name kind cells=>by cases hkc:kind==NameKind.cell<;>simp [hkc]) _ _ _ _ ?_)
 simp only [HF,pure_bind]
 refine wpAny_pure ?_
 rw [show ({s with heap:=s.heap.push {cls:=.type "dict",data:=.dict #[]}}:Shared).heap.objs.size=s.heap.objs.size+1 from Cz ..]
 exact h
end
section
variable {prog:Program} {w:World} {A:Around} {R:Result→Shared→Prop} {s:Shared}
theorem ZC {elt target iter:Expr} {ifs:List Expr} {scope:Scope} {pos:Pos} {it acc:Value} {env:Env} (I:Nat→Shared→Prop)
 (turn:∀n s,I n s→wpAny (model prog w) A (pyNext it) (fun r s₁=>match r with
  |none=>R (.ok .next) s₁
  |some v=>wpAny (model prog w) A (letOwnedTupleGo target it v) (fun _ s₁'=>wpAny (model prog w) A (assign target env v) (fun _ s₂=>
   wpAny (model prog w) A (forIn ifs true fun c r=>if r=true then do let ok ←isTrue c env (eval c env);pure (ForInStep.yield ok) else pure (ForInStep.yield r)) (fun ok s₃=>
    if ok=true then wpAny (model prog w) A (eval elt env) (fun x s₄=>
     wpAny (model prog w) A (call (.builtin "list.append") [acc,x]) (fun _ s₅=>∃m,m<n∧I m s₅) (notedBy (model prog w) A env fun e s'=>R (.error e) s') s₄) (notedBy (model prog w) A env fun e s'=>R (.error e) s') s₃
    else ∃m,m<n∧I m s₃) (notedBy (model prog w) A env fun e s'=>R (.error e) s') s₂) (notedBy (model prog w) A env fun e s'=>R (.error e) s') s₁') (notedBy (model prog w) A env fun e s'=>R (.error e) s') s₁) (notedBy (model prog w) A env fun e s'=>R (.error e) s') s)
 (n:Nat) (h:I n s):
 codeAny (model prog w) A (.compLoop (.ListComp elt [⟨target,iter,ifs,0⟩] scope pos) 0 it acc env) R s:=by
 refine codeAny_loop rfl I (fun n s hI=>?_) n h
 show wpAny _ A ((compTurn (.ListComp elt [⟨target,iter,ifs,0⟩] scope pos) 0 it acc env).onRaise (fun x=>do noteFrame x env;theTreesLotGoes x)) _ _ s
 refine wpAny_noted ?_
 rw [compTurn_list]
 refine wpAny_bind (wpAny_standAt (wpAny_bind (wpAny_mono (turn n s hI) (fun r s₁ h₁=>?_) fun _ _ h'=>h')))
 cases r with
 |none=>exact wpAny_pure h₁
 |some v=>
  refine wpAny_bind (wpAny_mono h₁ (fun _ s₁' h₁'=>?_) fun _ _ h'=>h')
  refine wpAny_bind (wpAny_mono h₁' (fun _ s₂ h₂=>wpAny_bind (wpAny_mono h₂ (fun ok s₃ h₃=>?_) fun _ _ h'=>h')) fun _ _ h'=>h')
  cases ok with
  |false=>exact wpAny_pure ⟨rfl,h₃⟩
  |true=>
   exact wpAny_bind (wpAny_bind (wpAny_mono h₃ (fun x s₄ h₄=>wpAny_bind (wpAny_mono h₄ (fun _ s₅ h₅=>wpAny_pure (wpAny_pure ⟨rfl,h₅⟩)) fun _ _ h'=>h')) fun _ _ h'=>h'))
end
def Ic (X:Cx) (ifs:List Expr) (t:TT):Prop:=∀(pins:List (Addr×Obj)) (s:Shared) (σ:L2.St) (H:Hp) (Q:Bool→Hp→Prop),Inv X pins σ H s→t σ H Q→
 wpAny (model X.prog X.w) X.A (forIn ifs true fun c r=>if r=true then do let ok ←isTrue c X.env (eval c X.env);pure (ForInStep.yield ok) else pure (ForInStep.yield r)) (TP X pins σ Q) X.xe s
theorem ZD {X:Cx}:Ic X [] (fun _ H Q=>Q true H):=fun _ _ _ H _ I h=>wpAny_tests_nil ⟨H,I,h⟩
theorem ZE {X:Cx} {c:Expr} {t:TT} (h:PT X c t):Ic X [c] t:=fun pins s σ H Q I q=>wpAny_tests_one (h pins s σ H Q I q)
def Qe (env:Env) (scope:Scope) (C:Addr) (cells:List (Str×Addr)):Env:=
 {scope:=relabel scope env,locals:=C,globals:=env.globals,cells:=cells,qual:=env.qual,func:=none,code:=env.code,frame:=env.frame,builtins:=env.builtins}
def BJ (X:Cx) (Nc:List Str) (scope:Scope) (C D:Addr) (cells:List (Str×Addr)) (fp:List Addr) (s₀:Shared) (H₀:Hp) (pins:List (Addr×Obj)):Cx:=
 {X with N:=Nc,s₀:=s₀,H₀:=H₀,env:=Qe X.env scope C cells,outer:=X.stack,stack:=X.stack,ex:=D::fp,fn:=fun x=>scope.names.lookup x==some .cell,pn:=X.pn++pins,xe:=fun _ _=>False}
def Bz (cs:List (Option Nat)) (σ:L2.St):L2.St:=cs.map fun o=>o.bind fun j=>(σ[j]?).join
def Sub (σ σ':L2.St):Prop:=σ.length=σ'.length∧∀(i:Nat) v,σ[i]?=some (some v)→σ'[i]?=some (some v)
def J9 (cs:List (Option Nat)) (wi:TI) (g:TG) (tc:TT) (te:TE):TE:=fun σ H Q=>wi σ H fun J H1=>∃W:Nat→Nat→List V→Hp→Prop,(∃n,W 0 n [] H1)∧∀i n acc H,W i n acc H→
 (J.stop i H∧acc.length≤sizeLine∧∀p,H p=none→Q (.ref p) (Ak H p (.lst acc)))∨
 (J.go i H∧acc.length<sizeLine∧∀x H',J.yld i H x H'→g x (Bz cs σ) H' fun σ2 H2=>Sub (Bz cs σ) σ2∧tc σ2 H2 fun b H3=>if b=true then te σ2 H3 fun y H4=>∃n',n' < n∧W (i+1) n' (acc++[y]) H4 else ∃n',n' < n∧W (i+1) n' acc H3)
theorem M4:∀(names:List (Str×NameKind)) (h:Heap) (acc:List (Str×Addr)) (x:Str) (c:Addr),(x,c)∈cellsFrom h.objs.size names acc→(x,c)∈acc∨(h.objs.size≤c∧(x,NameKind.cell)∈names∧(pushCells h names).IsCell c none)
 |[],_,_,_,_,m=>.inl m
 |(name,kind)::r,h,acc,x,c,m=>by
  unfold cellsFrom at m
  unfold pushCells
  split at m
  ·rename_i hk
   rw [if_pos hk]
   have hk':kind=.cell:=by simpa using hk
   have e:h.objs.size+1=(h.push {cls:=.type "cell",data:=.cell none}).objs.size:=(Cz ..).symm
   rw [e] at m
   rcases M4 r _ _ x c m with q |⟨q1,q2,q3⟩
   ·rcases qa4.mp q with q |q
    ·cases q
     refine .inr ⟨AG _,by rw [hk'];exact A1,?_⟩
     exact (show (h.push {cls:=.type "cell",data:=.cell none}).IsCell h.objs.size none from ⟨_,Bf _ rfl,rfl⟩).keeps fun b o e=>pushCells_keeps _ _ b o e
    ·exact .inl q
   ·exact .inr ⟨by rw [←e] at q1;exact Nat.le_of_succ_le q1,A5 _ q2,q3⟩
  ·rename_i hk
   rw [if_neg hk]
   rcases M4 r h acc x c m with q |⟨q1,q2,q3⟩
   ·exact .inl q
   ·exact .inr ⟨q1,A5 _ q2,q3⟩
theorem M5:∀(names:List (Str×NameKind)) (h:Heap) (acc:List (Str×Addr)),(∀x c,(x,c)∈acc→c<h.objs.size)→(∀x y c,(x,c)∈acc→(y,c)∈acc→x=y)→
 ∀x y c,(x,c)∈cellsFrom h.objs.size names acc→(y,c)∈cellsFrom h.objs.size names acc→x=y
 |[],_,_,_,i=>i
 |(name,kind)::r,h,acc,lt,i=>by
  unfold cellsFrom
  split
  ·have e:h.objs.size+1=(h.push {cls:=.type "cell",data:=.cell none}).objs.size:=(Cz ..).symm
   rw [e]
   refine M5 r _ _ (fun x c m=>?_) (fun x y c m m'=>?_)
   ·rw [←e]
    rcases qa4.mp m with q |q
    ·cases q;exact GD _
    ·exact GC (lt x c q)
   ·rcases qa4.mp m with q |q<;>rcases qa4.mp m' with q' |q'
    ·cases q;cases q';rfl
    ·cases q;exact absurd (lt y _ q') (CO _)
    ·cases q';exact absurd (lt x _ q) (CO _)
    ·exact i x y c q q'
  ·exact M5 r h acc lt i
theorem lookup_mem {α:Type} {l:List (Str×α)} {x:Str} {k:α} (nd:(l.map (·.1)).Nodup) (h:(x,k)∈l):l.lookup x=some k:=by
 induction l with
 |nil=>cases h
 |cons p r ih=>
  obtain ⟨y,j⟩:=p
  rw [BD,qbM] at nd
  rw [D8]
  rcases qa4.mp h with e |e
  ·cases e;simp
  ·have:x≠y:=by
    rintro rfl
    exact nd.1 (qaL.mpr ⟨(x,k),e,rfl⟩)
   have hb:(x==y)=false:=by simpa using this
   rw [hb]
   exact ih nd.2 e
theorem ZF {env:Env} {x n:Str} {j:NameKind} {r:List (Str×NameKind)} {k:NameKind} (h:List.lookup x ((if (j==NameKind.free&&env.scope.kind==.function&&env.kindOf n==some .cell)=true then (n,NameKind.cell) else (n,j))::r)=some k):
 (x=n∧(k=j∨(j=.free∧k=.cell)))∨(x≠n∧List.lookup x r=some k):=by
 by_cases hx:x=n
 ·subst hx
  refine .inl ⟨rfl,?_⟩
  split at h
  ·rename_i hc
   rw [D8] at h
   simp only [beq_self_eq_true] at h
   cases h
   simp only [CI] at hc
   exact .inr ⟨by simpa using hc.1.1,rfl⟩
  ·rw [D8] at h
   simp only [beq_self_eq_true] at h
   cases h
   exact .inl rfl
 ·have hb:(x==n)=false:=by simpa using hx
  refine .inr ⟨hx,?_⟩
  split at h<;>(rw [D8] at h;simp only [hb] at h;exact h)
theorem Qf {scope:Scope} {env:Env} {x:Str} {k:NameKind}:(relabel scope env).names.lookup x=some k→∃k0,scope.names.lookup x=some k0∧(k=k0∨(k0=.free∧k=.cell)):=by
 show (scope.names.map _).lookup x=some k→_
 induction scope.names with
 |nil=>intro h;cases h
 |cons p r ih=>
  obtain ⟨n,j⟩:=p
  intro h
  rw [BD] at h
  rw [D8]
  rcases ZF h with ⟨hx,hk⟩ |⟨hx,hr⟩
  ·subst hx
   simp only [beq_self_eq_true]
   exact ⟨j,rfl,hk⟩
  ·have hb:(x==n)=false:=by simpa using hx
   rw [hb]
   exact ih hr
structure GS (X:Cx) (scope:Scope) (Nc:List Str) (cs:List (Option Nat)):Prop where
 kind:scope.kind=.function
 loc:∀y∈scope.names,y.2=.local→scope.names.lookup y.1=some .local
 free:∀y∈scope.names,y.2=.free→X.env.kindOf y.1=some .cell∨X.env.kindOf y.1=some .free
 nd:(scope.names.map (·.1)).Nodup
 len:cs.length=Nc.length
 out:∀(i:Nat) (x:Str) (j:Nat),Nc[i]?=some x→cs[i]?=some (some j)→X.N[j]?=some x∧scope.names.lookup x=some .free
theorem ZG {a b:Addr} (h:a<b):@LT.lt Nat instLTNat a b:=h
theorem BK {a b:Addr} (h:@LT.lt Nat instLTNat a b):a≠b:=Bo h
theorem Fv {a b:Addr} (h:@LT.lt Nat instLTNat a b):b≠a:=Ne.symm (Bo h)
section
variable {X:Cx} {pins:List (Addr×Obj)} {σ:L2.St} {H:Hp} {s:Shared}
theorem ZH {scope:Scope} {Nc:List Str} {cs:List (Option Nat)} {fp:List Addr} {cl:List (Str×Addr)} (S:GS X scope Nc cs) (I:Inv X pins σ H s) (f:∀b∈fp,Ee X pins H b) (ob:∀b∈fp,∃o,s.heap.get? b=some o)
 (hcl:∀x c,(x,c)∈cl→X.env.cells.lookup x=some c∧(x,NameKind.free)∈scope.names) (hcl2:∀y∈scope.names,y.2=.free→∃c,(y.1,c)∈cl) {s3:Shared} (e3:s3={s with heap:=s.heap.push {cls:=.type "list",data:=.seq ([]:List Value).toArray}}):
 Inv (BJ X Nc scope s3.heap.objs.size s.heap.objs.size (cellsFrom (s3.heap.objs.size+1) scope.names cl) fp s3 H pins) [] (Bz cs σ) H
  {s3 with heap:=pushCells (s3.heap.push {cls:=.type "dict",data:=.dict #[]}) scope.names}:=by
 have k3:∀b o,s.heap.get? b=some o→s3.heap.get? b=some o:=fun b o e=>by subst e3;exact AB _ e
 have Kf:s3.heap.objs.size=s.heap.objs.size+1:=by subst e3;exact Cz ..
 have szd:(s3.heap.push {cls:=.type "dict",data:=.dict #[]}).objs.size=s3.heap.objs.size+1:=Cz ..
 have k34:∀b o,s3.heap.get? b=some o→(pushCells (s3.heap.push {cls:=.type "dict",data:=.dict #[]}) scope.names).get? b=some o:=fun b o e=>pushCells_keeps _ _ b o (AB _ e)
 have k4:∀b o,s.heap.get? b=some o→(pushCells (s3.heap.push {cls:=.type "dict",data:=.dict #[]}) scope.names).get? b=some o:=fun b o e=>k34 b o (k3 b o e)
 have cllt:∀x c,(x,c)∈cl→c<s.heap.objs.size:=fun x c m=>by
  obtain ⟨v,q⟩:=I.cell x c (hcl x c m).1
  exact q.lt
 have cm:∀x c,(cellsFrom (s3.heap.objs.size+1) scope.names cl).lookup x=some c→(x,c)∈cl∨(s3.heap.objs.size+1≤c∧(x,NameKind.cell)∈scope.names∧(pushCells (s3.heap.push {cls:=.type "dict",data:=.dict #[]}) scope.names).IsCell c none):=fun x c e=>by
  have m:=mem_of_lookup e
  rw [←szd] at m
  have:=M4 scope.names _ cl x c m
  rw [szd] at this
  exact this
 have frs_lt:∀b∈frs X.stack,b<s.heap.objs.size:=fun b hb=>by
  obtain ⟨_,o,ho,_⟩:=I.stack.mem hb
  exact AA ho
 have nfs:∀b,b≠X.env.locals→b∉X.fs→b∉frs X.stack:=fun b h1 h2 hb=>by
  rcases qa4.mp (I.stkSub b hb) with q |q
  ·exact h1 q
  ·exact h2 q
 have ok:(BJ X Nc scope s3.heap.objs.size s.heap.objs.size (cellsFrom (s3.heap.objs.size+1) scope.names cl) fp s3 H pins).Ok:=by
  refine ⟨I.ok.mod,S.kind,I.ok.glob,I.ok.blt,AG _,fun x y c e1 e2=>?_,fun x hx=>?_,fun x c hf e=>?_,I.ok.hd,I.ok.frames,.inl rfl,fun b hb=>?_,fun b o e=>?_,?_,fun b o e hb=>?_,fun b hb=>?_,?_,I.stkFree⟩
  ·have m1:=mem_of_lookup e1
   have m2:=mem_of_lookup e2
   have m1':(x,c)∈cellsFrom (s3.heap.push {cls:=.type "dict",data:=.dict #[]}).objs.size scope.names cl:=by rw [szd];exact m1
   have m2':(y,c)∈cellsFrom (s3.heap.push {cls:=.type "dict",data:=.dict #[]}).objs.size scope.names cl:=by rw [szd];exact m2
   exact M5 scope.names (s3.heap.push {cls:=.type "dict",data:=.dict #[]}) cl (fun x c m=>by rw [szd,Kf];exact AR (cllt x c m) (by omega))
    (fun x y c a b=>I.ok.inj x y c (hcl x c a).1 (hcl y c b).1) x y c m1' m2'
  ·have:∃k,(relabel scope X.env).names.lookup x=some k∧(k=.cell∨k=.free):=by
    rcases hx with q |q
    ·exact ⟨_,q,.inl rfl⟩
    ·exact ⟨_,q,.inr rfl⟩
   obtain ⟨k,e1,hk⟩:=this
   obtain ⟨k0,e0,hk0⟩:=Qf e1
   refine qbS.mp (PySem.W.cellsFrom_some _ _ _ ?_)
   have:k0=.cell∨k0=.free:=by
    rcases hk0 with q |⟨q,_⟩
    ·rw [←q];exact hk
    ·exact .inr q
   rcases this with q |q
   ·subst q;exact .inl e0
   ·subst q
    obtain ⟨c,hc⟩:=hcl2 _ (mem_of_lookup e0) rfl
    refine .inr ?_
    cases hl:cl.lookup x with
    |some c'=>rfl
    |none=>
     exfalso
     have:∀p∈cl,p.1≠x:=fun p hp e=>by
      have h2:=List.lookup_eq_none_iff.mp hl p hp
      rw [e] at h2
      simp at h2
     exact this _ hc rfl
  ·have hk:scope.names.lookup x=some .cell:=by
    have:(scope.names.lookup x==some NameKind.cell)=true:=hf
    simpa using this
   rcases cm x c e with q |⟨q1,_,_⟩
   ·have:=lookup_mem S.nd (hcl x c q).2
    rw [hk] at this
    cases this
   ·exact Nat.le_of_succ_le q1
  ·rcases qa4.mp hb with q |q
   ·subst q
    refine ⟨BK (show _<s3.heap.objs.size by omega),fun x c e=>?_⟩
    rcases cm x c e with q |⟨q1,_,_⟩
    ·exact Bo (cllt x c q)
    ·exact Fv (AR (by omega) q1)
   ·obtain ⟨o,ho⟩:=ob b q
    have hlt:=ZG (AA ho)
    refine ⟨BK (show _<s3.heap.objs.size by omega),fun x c e=>?_⟩
    rcases cm x c e with q2 |⟨q1,_,_⟩
    ·exact (f b q).2.2.2.2.1 x c (hcl x c q2).1
    ·exact Fv (AR (by omega) q1)
  ·obtain ⟨h1,h2⟩:=I.bs b o e
   exact ⟨k3 b o h1,h2⟩
  ·show X.base.objs.size≤s3.heap.objs.size
   have:=BW I.ok.bsz I.sz
   omega
  ·obtain ⟨h1,h2⟩:=I.bs b o e
   rcases qa4.mp hb with q |q
   ·exact absurd q (BK (AA h1))
   ·rcases (f b q).2.2.2.1 with z |z
    ·exact I.ok.noex b o e z
    ·exact absurd (AR (AA (I.ok.bs b o e).1) z) (CO _)
  ·rcases qa4.mp hb with q |q
   ·subst q
    intro z
    exact absurd (frs_lt _ z) (CO _)
   ·exact nfs b (f b q).2.1 (f b q).2.2.1
  ·exact I.stack.of_keeps fun b o e _=>⟨o,k3 b o e,rfl⟩
 refine ⟨ok,rfl,?_,?_,?_,fun x c e=>?_,?_,fun x c e=>?_,fun p hp=>?_,I.hok.kept k4,?_⟩
 ·show AllBare s3.gens
  subst e3;exact I.bare
 ·exact Un.kept k34
 ·refine ⟨fun _=>none,(Heap.Ns.new s3.heap (.type "dict")).keeps (pushCells_keeps _ _),fun i x v e1 e2 e3'=>?_⟩
  unfold Bz at e2
  rw [Bv] at e2
  cases ec:cs[i]? with
  |none=>rw [ec] at e2;cases e2
  |some o=>
   rw [ec] at e2
   cases o with
   |none=>cases e2
   |some j=>
    simp only [FR,Option.bind_some,Option.some.injEq] at e2
    have e2':σ[j]?=some (some v):=by
     cases ej:σ[j]? with
     |none=>rw [ej] at e2;cases e2
     |some w=>rw [ej] at e2;simp at e2;rw [e2]
    obtain ⟨hN,hfr⟩:=S.out i x j e1 ec
    have hfm:=mem_of_lookup hfr
    have hkind:=S.free _ hfm rfl
    obtain ⟨m,hn,hl⟩:=I.loc
    obtain ⟨u,r,look⟩:=hl j x v hN e2' (by
     rcases hkind with q |q
     ·exact .inr (.inl q)
     ·exact .inr (.inr q))
    refine ⟨u,r,.inr ?_⟩
    rcases look with ⟨q,_⟩ |⟨_,c,ec',hc⟩
    ·rcases hkind with z |z<;>(rw [q] at z;cases z)
    ·obtain ⟨c',hc'⟩:=hcl2 _ hfm rfl
     have hv:(BJ X Nc scope s3.heap.objs.size s.heap.objs.size (cellsFrom (s3.heap.objs.size+1) scope.names cl) fp s3 H pins).env.kindOf x=some .cell∨(BJ X Nc scope s3.heap.objs.size s.heap.objs.size (cellsFrom (s3.heap.objs.size+1) scope.names cl) fp s3 H pins).env.kindOf x=some .free:=by
      rcases e3' with z |z |z
      ·obtain ⟨k0,a1,a2⟩:=Qf z
       rw [hfr] at a1
       cases a1
       rcases a2 with a2 |⟨_,a2⟩<;>cases a2
      ·exact .inl z
      ·exact .inr z
     refine ⟨hv,c,?_,hc.keeps k4⟩
     obtain ⟨c2,h2⟩:=ok.has x hv
     rw [h2]
     rcases cm x c2 h2 with q |⟨_,q,_⟩
     ·rw [←ec',(hcl x c2 q).1]
     ·have:=lookup_mem S.nd q
      rw [hfr] at this
      cases this
 ·rcases cm x c e with q |⟨_,_,q⟩
  ·obtain ⟨v,z⟩:=I.cell x c (hcl x c q).1
   exact ⟨v,z.keeps k4⟩
  ·exact ⟨none,q⟩
 ·exact I.hok.fresh (show s.heap.objs.size≤s3.heap.objs.size by omega)
 ·rcases cm x c e with q |⟨q,_,_⟩
  ·exact I.freeC x c (hcl x c q).1
  ·exact I.hok.fresh (by omega)
 ·have hp':p∈X.pn++pins:=by
   rcases qaZ.mp hp with q |q
   ·exact q
   ·exact absurd q (by simp)
  obtain ⟨a1,a2,a3,a4,a5⟩:=I.pin p hp'
  refine ⟨k4 _ _ a1,a2,?_,nfs p.1 a3 a4,a5⟩
  show p.1≠s3.heap.objs.size
  exact BK (AR (AA a1) (by omega))
 ·show (Bz cs σ).length=Nc.length
  simp [Bz,S.len]
end
section
variable {X:Cx} {elt tg iter:Expr} {ifs:List Expr} {scope:Scope} {pos:Pos} {Nc:List Str} {cs:List (Option Nat)} {wi:TI} {g:TG} {tc:TT} {te:TE}
theorem ZI {pins:List (Addr×Obj)} {σ:L2.St} {H H':Hp} {s s3 s':Shared} {fp:List Addr} {C:Addr} {cells:List (Str×Addr)} {po:List (Addr×Obj)} {σc:L2.St} {acc:List V} {its:List Value} {n:Nat}
 (I:Inv X pins σ H s) (f:∀b∈fp,Ee X pins H b) (e3:s3={s with heap:=s.heap.push {cls:=.type "list",data:=.seq ([]:List Value).toArray}}) (hC:C=s3.heap.objs.size)
 (I':Inv (BJ X Nc scope C s.heap.objs.size cells fp s3 H pins) po σc H' s') (hD:H' s.heap.objs.size=none) (hl:acc.length≤sizeLine) (rv:Vals acc its) (ho:s'.heap.get? s.heap.objs.size=some {cls:=.type "list",data:=.seq its.toArray n})
 {h':Heap} (sb:Heap.SameBut C s'.heap h'):Inv X pins σ (Ak H' s.heap.objs.size (.lst acc)) {s' with heap:=h'}:=by
 have k3:∀b o,s.heap.get? b=some o→s3.heap.get? b=some o:=fun b o e=>by subst e3;exact AB _ e
 have Kf:s3.heap.objs.size=s.heap.objs.size+1:=by subst e3;exact Cz ..
 have DQ:∀b o,s.heap.get? b=some o→b≠s.heap.objs.size:=fun b o e=>BK (AA e)
 have neC:∀b o,s.heap.get? b=some o→b≠C:=fun b o e=>by rw [hC];exact BK (AR (AA e) (by omega))
 have DC:s.heap.objs.size≠C:=by rw [hC];exact BK (by omega)
 have U:Un (frs X.stack) (s.heap.objs.size::fp) H H' s3.heap s'.heap:=I'.base
 have exn:∀b o,s.heap.get? b=some o→b∉fp→b∉s.heap.objs.size::fp:=fun b o e hx hb=>by
  rcases qa4.mp hb with z |z
  ·exact DQ b o e z
  ·exact hx z
 have neT:∀b u,H' b=some u→b≠s.heap.objs.size:=fun b u e=>Bw e hD
 have hCn:H' C=none:=I'.free
 refine I.call' (s':={s' with heap:=h'}) (ch:=fp) ?_ ?_ ?_ I'.bare ?_
 ·show s'.os=s.os
  have:=I'.os
  rw [this]
  show s3.os=s.os
  subst e3;rfl
 ·refine ⟨fun b o e nn hb hx=>?_,fun b o e nn hb hx=>?_,fun b o e nn hx=>?_,fun b o e hx=>?_,fun b xs e=>?_,fun b o u e=>?_,fun b ps e=>?_⟩
  ·exact (sb.2 b (neC b o e)).trans (U.keep b o (k3 b o e) nn hb (exn b o e hx))
  ·obtain ⟨sl,z⟩:=U.slot b o (k3 b o e) nn hb (exn b o e hx)
   exact ⟨sl,(sb.2 b (neC b o e)).trans z⟩
  ·rw [Ao (DQ b o e)]
   exact U.free b o (k3 b o e) nn (exn b o e hx)
  ·obtain ⟨o',z⟩:=U.there b o (k3 b o e) (exn b o e hx)
   exact ⟨o',(sb.2 b (neC b o e)).trans z⟩
  ·have z:=U.tups b xs e
   rw [Ao (neT b _ z)]
   exact z
  ·have z:=U.frzs b o u e
   rw [Ao (neT b _ z)]
   exact z
  ·obtain ⟨more,z⟩:=U.tbls b ps e
   exact ⟨more,by rw [Ao (neT b _ z)];exact z⟩
 ·intro b u e
  by_cases hb:b=s.heap.objs.size
  ·subst hb
   rw [BN] at e
   cases e
   exact ⟨hl,its,n,rv,(sb.2 _ DC).trans ho⟩
  ·rw [Ao hb] at e
   refine (I'.hok b u e).stay (fun c v hc z=>(sb.2 c ?_).trans z) (fun c z=>by rw [Ao (neT c _ z)];exact z) fun c xs z=>by rw [Ao (neT c _ z)];exact z
   rcases hc with rfl |hc
   ·exact Bw e hCn
   ·exact Bw hc hCn
 ·intro b hb
  obtain ⟨_,f1,_,f3,f4,f5⟩:=f b hb
  exact ⟨f3,f1,f4,f5⟩
inductive Qg (W:Nat→Nat→List V→Hp→Prop) (Xc:Cx) (σc:L2.St) (tn:Nat→Heap→Prop) (fp:List Addr) (Da:Addr) (n:Nat) (s':Shared):Prop where
 |mk (i:Nat) (acc:List V) (H':Hp) (its:List Value) (k:Nat) (w:W i n acc H') (ii:Inv Xc [] σc H' s') (st:tn i s'.heap) (fr:∀b∈fp,H' b=none) (hD:H' Da=none) (rv:Vals acc its) (ho:s'.heap.get? Da=some {cls:=.type "list",data:=.seq its.toArray k}):Qg W Xc σc tn fp Da n s'
theorem Qh {use:Option (Value→Sem Unit)} {QQ:Value→Shared→Prop} {ppos:Pos} {pins:List (Addr×Obj)} {s:Shared} {σ:L2.St} {H:Hp} {Q:VK} (hcalm:X.calm=true) (S:GS X scope Nc cs) (hi:PI X tg iter wi)
 (hb:∀(C D:Addr) (cells:List (Str×Addr)) (fp:List Addr) (s₀:Shared) (H₀:Hp) (pins:List (Addr×Obj)),PG (BJ X Nc scope C D cells fp s₀ H₀ pins) tg g∧Ic (BJ X Nc scope C D cells fp s₀ H₀ pins) ifs tc∧PE (BJ X Nc scope C D cells fp s₀ H₀ pins) elt te)
 (hsf:∀x,foldedSetIterable iter X.env x=pure x) (I:Inv X pins σ H s) (h:J9 cs wi g tc te σ H Q)
 (AQ:∀(s6:Shared) (C D:Addr) (H7:Hp) (m6:Str→Option Value),s6.heap.Ns C m6→H7 C=none→X.s₀.heap.objs.size≤C→C≠X.env.locals→(∀x c,X.env.cells.lookup x=some c→c≠C)→(∀p∈X.pn++pins,p.1≠C)→
  (∀h',Heap.SameBut C s6.heap h'→Inv X pins σ H7 {s6 with heap:=h'})→Q (.ref D) H7→compPost (model X.prog X.w) X.A X.xe use QQ (.ref D) C (.ok .next) s6):
 wpAny (model X.prog X.w) X.A (comprehension (.ListComp elt [⟨tg,iter,ifs,0⟩] scope pos) scope X.env ppos (newList []) false (eval iter X.env) use) QQ X.xe s:=by
 obtain ⟨cl,hclos,hcl,hcl2⟩:=Qd (scope:=scope) (env:=X.env) fun y hy hf=>I.ok.has y.1 (S.free y hy hf)
 refine wpAny_comprehension_free (use:=use) rfl hsf hclos S.kind S.loc (Ap (hi pins s σ H _ I h) fun xv s1 h1=>Ap h1 fun itv s2 h2=>?_)
 obtain ⟨it,fp,tn,J,H2,e,I2,T,st2,f2,W,⟨n0,w0⟩,turn⟩:=h2
 subst e
 refine wpAny_newObj_type ?_
 generalize e3:({s2 with heap:=s2.heap.push {cls:=.type "list",data:=.seq ([]:List Value).toArray}}:Shared)=s3
 refine ZA ?_
 have ob2:∀b∈fp,∃o,s2.heap.get? b=some o:=fun b hb=>let ⟨o,e,_⟩:=T.obj _ _ st2 b hb;⟨o,e⟩
 have I4:=ZH (fp:=fp) (cl:=cl) S I2 f2 ob2 hcl hcl2 e3.symm
 generalize e4:({s3 with heap:=pushCells (s3.heap.push {cls:=.type "dict",data:=.dict #[]}) scope.names}:Shared)=s4 at I4
 generalize ecl:cellsFrom (s3.heap.objs.size+1) scope.names cl=cells at I4
 obtain ⟨pg,pt,pe⟩:=hb s3.heap.objs.size s2.heap.objs.size cells fp s3 H2 pins
 generalize eX:BJ X Nc scope s3.heap.objs.size s2.heap.objs.size cells fp s3 H2 pins=Xc at I4 pg pt pe
 have xP:Xc.prog=X.prog:=by subst eX;rfl
 have xw:Xc.w=X.w:=by subst eX;rfl
 have xK:Xc.K=X.K:=by subst eX;rfl
 have xA:Xc.A=X.A:=by subst eX;rfl
 have xE:Xc.env=Qe X.env scope s3.heap.objs.size cells:=by subst eX;rfl
 have xL:Xc.env.locals=s3.heap.objs.size:=by subst eX;rfl
 have xe:Xc.xe=fun _ _=>False:=by subst eX;rfl
 have xc:Xc.calm=true:=by subst eX;exact hcalm
 have xex:Xc.ex=s2.heap.objs.size::fp:=by subst eX;rfl
 have okc:=I4.ok
 have k3:∀b o,s2.heap.get? b=some o→s3.heap.get? b=some o:=fun b o e=>by subst e3;exact AB _ e
 have Kf:s3.heap.objs.size=s2.heap.objs.size+1:=by subst e3;exact Cz ..
 have k34:∀b o,s3.heap.get? b=some o→s4.heap.get? b=some o:=fun b o e=>by subst e4;exact pushCells_keeps _ _ b o (AB _ e)
 have hDC:s2.heap.objs.size≠Xc.env.locals:=by rw [xL];exact BK (by omega)
 have hDcell:∀x c,Xc.env.cells.lookup x=some c→c≠s2.heap.objs.size:=fun x c e=>(okc.exf _ (by rw [xex];exact A1)).2 x c e
 have hDpin:∀p∈Xc.pn,p.1≠s2.heap.objs.size:=fun p hp=>by
  have hp':p∈X.pn++pins:=by subst eX;exact hp
  exact BK (AA (I2.pin p hp').1)
 have hDfp:s2.heap.objs.size∉fp:=fun hm=>by
  obtain ⟨o,e⟩:=ob2 _ hm
  exact absurd (AA e) (CO _)
 have hDex:s2.heap.objs.size∈Xc.ex:=by rw [xex];exact A1
 have hDfs:s2.heap.objs.size∉Xc.fs:=okc.exfs _ hDex
 have fpC:∀{po:List (Addr×Obj)} {H':Hp},(∀b∈fp,H' b=none)→(∀p∈po,p.1=s2.heap.objs.size)→∀b∈fp,Ee Xc po H' b:=fun {po H'} hn hp b hb=>by
  have hbx:b∈Xc.ex:=by rw [xex];exact A5 _ hb
  refine ⟨hn b hb,(okc.exf b hbx).1,okc.exfs b hbx,.inl hbx,(okc.exf b hbx).2,fun p hpp=>?_⟩
  rcases qaZ.mp hpp with z |z
  ·have hp':p∈X.pn++pins:=by subst eX;exact z
   exact (f2 b hb).2.2.2.2.2 p hp'
  ·rw [hp p z]
   intro e
   exact hDfp (e ▸ hb)
 have loop:∀sx,sx=s4→codeAny (model X.prog X.w) X.A (.compLoop (.ListComp elt [⟨tg,iter,ifs,0⟩] scope pos) 0 (.ref it) (.ref s2.heap.objs.size) Xc.env)
  (compPost (model X.prog X.w) X.A X.xe use QQ (.ref s2.heap.objs.size) s3.heap.objs.size) sx:=by
  rintro sx rfl
  refine ZC (Qg W Xc (Bz cs σ) tn fp s2.heap.objs.size) ?_ n0
   ⟨0,[],H2,[],0,w0,I4,?_,fun b hb=>(f2 b hb).1,I2.hok.fresh (AG _),.nil,?_⟩
  ·rintro n s5 ⟨i,acc,H5,its,k,w5,I5,st5,fr5,hD5,rv5,ho5⟩
   have pin1:Inv Xc [(s2.heap.objs.size,{cls:=.type "list",data:=.seq its.toArray k})] (Bz cs σ) H5 s5:=I5.pins_of fun p hp=>by
    rw [qaH] at hp
    subst hp
    exact ⟨ho5,hD5,hDC,hDfs,fun v z=>by cases z⟩
   have pone:∀p∈[((s2.heap.objs.size:Addr),({cls:=.type "list",data:=.seq its.toArray k}:Obj))],p.1=s2.heap.objs.size:=fun p hp=>by
    rw [qaH] at hp;subst hp;rfl
   rcases turn i n acc H5 w5 with ⟨stop,hlen,qn⟩ |⟨go,hlen,step⟩
   ·have z1:=T.done Xc xP xw xK xc i _ s5 (Bz cs σ) H5 (fun _ _=>False) pin1 (fpC fr5 pone) st5 stop
    rw [xA] at z1
    refine wpAny_mono z1 (fun r s6 z1_=>?_) fun _ _ z=>False.elim z
    obtain ⟨hr,I6⟩:=z1_
    subst hr
    obtain ⟨m6,hn6,_⟩:=I6.loc
    obtain ⟨ho6,hD6,_⟩:=I6.pin _ (CH _ A1)
    rw [xL] at hn6
    have lt2:∀b,b<s2.heap.objs.size→b≠s3.heap.objs.size:=fun b hb=>BK (AR hb (by omega))
    refine AQ s6 s3.heap.objs.size s2.heap.objs.size (Ak H5 s2.heap.objs.size (.lst acc)) m6 hn6 ?_ (BW I2.sz (by omega)) ?_ ?_ ?_ ?_ (qn _ hD6)
    ·rw [Ao (Fv (by omega))]
     have:=I6.free
     rw [xL] at this
     exact this
    ·obtain ⟨m2,hn2,_⟩:=I2.loc
     exact Ne.symm (lt2 _ hn2.lt)
    ·intro x c hx
     obtain ⟨v,hv⟩:=I2.cell x c hx
     obtain ⟨o,ho,_⟩:=hv
     exact lt2 _ (AA ho)
    ·intro p hp
     exact lt2 _ (AA (I2.pin p hp).1)
    ·intro h' sb
     subst eX
     exact ZI I2 f2 e3.symm rfl I6 hD6 hlen rv5 ho6 sb
   ·have z1:=T.item Xc xP xw xK xc i _ s5 (Bz cs σ) H5 (fun _ _=>False) pin1 (fpC fr5 pone) st5 go
    rw [xA] at z1
    refine wpAny_mono z1 (fun r s6 z2_=>?_) fun _ _ z=>False.elim z
    obtain ⟨u,hr,h6⟩:=z2_
    subst hr
    refine wpAny_mono h6 (fun _ s7 z3_=>?_) fun _ _ z=>False.elim z
    obtain ⟨x,H7,I7,r7,y7,st7,fr7⟩:=z3_
    have I7':=I7.pinned (fp:=fp) (fpC fr7 pone) (T.obj _ _ st7)
    have z2:=pg _ s7 (Bz cs σ) H7 x u _ I7' r7 (step x H7 y7)
    rw [xP,xw,xA,xe] at z2
    refine wpAny_mono z2 (fun _ s8 z4_=>?_) fun _ _ z=>False.elim z
    obtain ⟨σ8,H8,I8,sub8,q8⟩:=z4_
    have z3:=pt _ s8 σ8 H8 _ I8 q8
    rw [xP,xw,xA,xe] at z3
    refine wpAny_mono z3 (fun ok s9 z5_=>?_) fun _ _ z=>False.elim z
    obtain ⟨H9,I9,q9⟩:=z5_
    have back:∀{sy:Shared} {Hy:Hp},Inv Xc ([(s2.heap.objs.size,{cls:=.type "list",data:=.seq its.toArray k})]++HL fp s7.heap) σ8 Hy sy→
     Inv Xc [] (Bz cs σ) Hy sy∧tn (i+1) sy.heap∧(∀b∈fp,Hy b=none)∧Hy s2.heap.objs.size=none∧sy.heap.get? s2.heap.objs.size=some {cls:=.type "list",data:=.seq its.toArray k}:=fun {sy Hy} Iy=>by
     obtain ⟨ho,hD,_⟩:=Iy.pin _ (CH _ (Hz _ A1))
     refine ⟨(Iy.pins_of fun p hp=>absurd hp (by simp)).weak (sub8.1) (fun j v z=>sub8.2 j v z),T.keep _ _ _ st7 fun b hb o e=>(Iy.pin (b,o) (CH _ (CH _ (JG hb e)))).1,fun b hb=>?_,hD,ho⟩
     obtain ⟨o,e,_⟩:=T.obj _ _ st7 b hb
     exact (Iy.pin (b,o) (CH _ (CH _ (JG hb e)))).2.1
    cases ok with
    |false=>
     simp only [Bu,if_false] at q9 ⊢
     obtain ⟨n',hn',w'⟩:=q9
     obtain ⟨a1,a2,a3,a4,a5⟩:=back I9
     exact ⟨n',hn',i+1,acc,H9,its,k,w',a1,a2,a3,a4,rv5,a5⟩
    |true=>
     simp only [if_true] at q9 ⊢
     have z4:=pe _ s9 σ8 H9 _ I9 q9
     rw [xP,xw,xA,xe] at z4
     refine wpAny_mono z4 (fun y s10 z6_=>?_) fun _ _ z=>False.elim z
     obtain ⟨yv,H10,I10,r10,n',hn',w'⟩:=z6_
     obtain ⟨a1,a2,a3,a4,a5⟩:=back I10
     have hlen':=rv5.length
     refine wpAny_list_append_plain ⟨k,a5⟩ (fun h' ⟨k',hl'⟩ sb=>?_) (by rw [AW];omega)
     have tu:Inv Xc [] (Bz cs σ) H10 {s10 with heap:=h'}:=a1.turned (t':=s10.toks) (it:=s2.heap.objs.size) (fun b o hb e=>(sb.2 b hb).trans e) a4 hDC (.inl hDex) hDcell (fun p hp=>by
      rcases qaZ.mp hp with z |z
      ·exact hDpin p z
      ·exact absurd z (by simp))
     refine ⟨n',hn',i+1,acc++[yv],H10,its++[y],k',w',tu,T.keep _ _ _ a2 (fun b hb o e=>(sb.2 b (fun z=>hDfp (z ▸ hb))).trans e),a3,a4,rv5.append (.cons r10 .nil),?_⟩
     rw [hl']
     simp
  ·exact T.keep _ _ _ st2 fun b hb o e=>k34 b o (k3 b o e)
  ·refine k34 _ _ ?_
   subst e3
   exact Bf _ rfl
 have AQ:=loop s4 rfl
 have hst4:tn 0 s4.heap:=T.keep _ _ _ st2 fun b hb o e=>k34 b o (k3 b o e)
 rw [xE] at AQ
 have:=codeAny_compStart_list AQ (T.self X.A 0 s4 _ _ hst4 AQ)
 exact this
theorem ZJ (hcalm:X.calm=true) (S:GS X scope Nc cs) (hi:PI X tg iter wi)
 (hb:∀(C D:Addr) (cells:List (Str×Addr)) (fp:List Addr) (s₀:Shared) (H₀:Hp) (pins:List (Addr×Obj)),PG (BJ X Nc scope C D cells fp s₀ H₀ pins) tg g∧Ic (BJ X Nc scope C D cells fp s₀ H₀ pins) ifs tc∧PE (BJ X Nc scope C D cells fp s₀ H₀ pins) elt te)
 (hsf:∀x,foldedSetIterable iter X.env x=pure x:=by intro _;rfl):PE X (.ListComp elt [⟨tg,iter,ifs,0⟩] scope pos) (J9 cs wi g tc te):=by
 intro pins s σ H Q I h
 rw [eval_ListComp]
 exact Qh (use:=none) hcalm S hi hb hsf I h fun s6 C D H7 m6 hn _ _ _ _ _ inv q=>⟨m6,hn,fun h' sb=>⟨.ref D,H7,inv h' sb,rfl,q⟩⟩
end
def noErr {α:Type}:Out α→Out α
 |.ok a h=>.ok a h
 |_=>.stuck
@[simp] theorem Zfp {α:Type} (a:α) (h:HD):noErr (.ok a h)=.ok a h:=rfl
theorem Qi {α β γ δ:Type} {K:PySem.W.Frag} {R:List Addr→Hp→α→β→Prop} {R':List Addr→Hp→γ→δ→Prop} {m:List Addr} {H:Hp} {E:XK} {Q:δ→Hp→Prop} {Q':β→Hp→Prop} {o:Out α} {k:α→HD→Out γ}
 (h:Post K R' m H E Q ((noErr o).bind k)) (f:∀a h1 v m1 H1,o=.ok a h1→m <+:m1→Kp H H1→HR K m1 h1 H1→R m1 H1 a v→Post K R' m1 H1 E Q (k a h1)→Q' v H1):Post K R m H E0 Q' o:=by
 cases o with
 |ok a h1=>exact fun v m1 H1 p kk hr r=>f a h1 v m1 H1 rfl p kk hr r (Post.ahead p kk h)
 |err C fs h1=>exact False.elim h
 |stuck=>exact False.elim h
def Cp (cs:List (Option Nat)) (ρ:Ag):Ag:=cs.map fun o=>o.bind fun j=>(ρ[j]?).join
theorem join_some {α:Type} {l:List (Option α)} {j:Nat} {a:α}:(l[j]?).join=some a↔l[j]?=some (some a):=by
 cases h:l[j]? with
 |none=>simp
 |some o=>simp
theorem ER.comp {K:PySem.W.Frag} {m:List Addr} {H:Hp} {ρ:Ag} {σ:L2.St} (cs:List (Option Nat)) (er:ER K m H ρ σ):ER K m H (Cp cs ρ) (Bz cs σ):=by
 refine ⟨by simp [Cp,Bz],fun i d e=>?_⟩
 unfold Cp at e
 rw [Bv] at e
 cases ec:cs[i]? with
 |none=>rw [ec] at e;cases e
 |some o=>
  rw [ec] at e
  cases o with
  |none=>cases e
  |some j=>
   simp only [FR,Option.bind_some,Option.some.injEq] at e
   obtain ⟨v,e1,r⟩:=er.2 j d (join_some.mp e)
   refine ⟨v,?_,r⟩
   unfold Bz
   rw [Bv,ec]
   simp only [FR,Option.bind_some,Option.some.injEq]
   exact join_some.mpr e1
theorem Sub.set {cs:List (Option Nat)} {σ:L2.St} {σ':L2.St} {i:Nat} {v:V} (h:cs[i]?=some none) (s:Sub (Bz cs σ) σ'):Sub (Bz cs σ) (σ'.set i (some v)):=by
 refine ⟨by rw [s.1];simp,fun j w e=>?_⟩
 have hj:i≠j:=by
  rintro rfl
  unfold Bz at e
  rw [Bv,h] at e
  cases e
 rw [BG hj]
 exact s.2 j w e
theorem Sub.refl (σ:L2.St):Sub σ σ:=⟨rfl,fun _ _ h=>h⟩
def F7 (K:PySem.W.Frag) (cs:List (Option Nat)) (gg:TG) (sg:MG):Prop:=
 ∀m H d v ρ σ0 ρ' Q,DV K m H d v→ER K m H ρ (Bz cs σ0)→sg d ρ=some ρ'→(∀σ',Sub (Bz cs σ0) σ'→ER K m H ρ' σ'→Q σ' H)→gg v (Bz cs σ0) H Q
theorem Qj {K:PySem.W.Frag} {cs:List (Option Nat)} {i:Nat} (h:cs[i]?=some none):F7 K cs (BP i) (AV i):=fun m H d v ρ σ0 ρ' Q r er e q=>by
 simp only [AV,Option.some.injEq] at e
 subst e
 exact q _ ((Sub.refl _).set h) (er.set r)
theorem Qk {K:PySem.W.Frag} {cs:List (Option Nat)} {i j:Nat} (h:cs[i]?=some none) (h':cs[j]?=some none):F7 K cs (EI K 2 (Cg (BP i) (Cg (BP j) Ed))) (BQ i j):=fun m H d v ρ σ0 ρ' Q r er e q=>by
 unfold BQ at e
 split at e
 ·rename_i a b
  cases e
  simp only [DV,DVs] at r
  obtain ⟨p,vs,rfl,hp,v1,w1,rfl,r1,v2,w2,rfl,r2,rfl⟩:=r
  exact ⟨p,_,rfl,SqT.of hp,rfl,v1,_,rfl,v2,_,rfl,rfl,q _ (((Sub.refl _).set h).set h') ((er.set r1).set r2)⟩
 ·cases e
abbrev GT (X:Cx) (E:XK) (ifs:List Expr) (t:MT):Prop:=Ic X ifs (GK X.K E t)
def A7:MT:=fun _ h=>.ok true h
theorem ZK {X:Cx} {E:XK}:GT X E [] A7:=fun pins s σ H Q I z1_=>by obtain ⟨m,ρ,h,hr,er,p⟩:=z1_;exact (ZD pins s σ H Q I (p true m H (Az _) (.refl _) hr rfl))
theorem ZL {X:Cx} {E:XK} {c:Expr} {t:MT} (h:Du X E c t):GT X E [c] t:=ZE h
open Classical in
noncomputable def Dk (src:AS) (items:List D) (sg:MG) (t:MT) (f:ME) (ρc:Ag):List D→HD→Out (List D)
 |[],h=>if Bj src items h then .ok [] h else .stuck
 |d::ds,h=>if Bj src items h then match sg d ρc with
   |none=>.stuck
   |some ρ1=>(noErr (t ρ1 h)).bind fun b h1=>if b=true then (noErr (f ρ1 h1)).bind fun y h2=>(Dk src items sg t f ρc ds h2).bind fun ys h3=>.ok (y::ys) h3 else Dk src items sg t f ρc ds h1
  else .stuck
noncomputable def AI (cs:List (Option Nat)) (it:MI) (sg:MG) (t:MT) (f:ME):ME:=fun ρ h=>(it ρ h).bind fun x h1=>if x.1.length≤sizeLine then (Dk x.2 x.1 sg t f (Cp cs ρ) x.1 h1).bind B9 else .stuck
theorem Out.bind_assoc {α β γ:Type} (o:Out α) (k:α→HD→Out β) (l:β→HD→Out γ):(o.bind k).bind l=o.bind fun a h=>(k a h).bind l:=by cases o<;>rfl
section
variable {X:Cx} {E:XK} {elt tg iter:Expr} {ifs:List Expr} {scope:Scope} {pos:Pos} {Nc:List Str} {cs:List (Option Nat)} {it:MI} {gg:TG} {sg:MG} {t:MT} {f:ME}
inductive Ql (K:PySem.W.Frag) (E:XK) (Q:VK) (src:AS) (items:List D) (sg:MG) (t:MT) (f:ME) (ρc:Ag) (m1:List Addr) (H1:Hp) (i n:Nat) (acc:List V) (H2:Hp):Prop where
 |mk (e:n=items.length - i) (l:i≤items.length) (a:acc.length≤i) (m2:List Addr) (h2:HD) (dacc:List D) (p:m1 <+:m2) (k:Kp H1 H2) (hr:HR K m2 h2 H2) (da:DVs K m2 H2 dacc acc) (q:Post K (rD K) m2 H2 E Q ((Dk src items sg t f ρc (items.drop i) h2).bind fun ys h3=>B9 (dacc++ys) h3)):Ql K E Q src items sg t f ρc m1 H1 i n acc H2
theorem Qm (hg:F7 X.K cs gg sg):∀σ H Q,tD X.K E (AI cs it sg t f) σ H Q→J9 cs (tM X.K (J8 X.K) E it) gg (GK X.K E0 t) (tD X.K E0 f) σ H Q:=by
 refine ?_
 rintro σ H Q ⟨m,ρ,h,hr,er,p⟩
 refine ⟨m,ρ,h,hr,er,Post.bind p fun x h1 J m1 H1 _ p1 k1 hr1 r1 q1=>?_⟩
 obtain ⟨items,src⟩:=x
 dsimp only at q1
 split at q1
 ·rename_i hz
  have er1:ER X.K m1 H1 (Cp cs ρ) (Bz cs σ):=(er.keep p1 k1).comp cs
  refine ⟨Ql X.K E Q src items sg t f (Cp cs ρ) m1 H1,
   ⟨items.length,rfl,Dq _,AG _,m1,h1,[],Az _,.refl _,hr1,.nil,by simpa using q1⟩,?_⟩
  rintro i n acc H2 ⟨rfl,hi',ha,m2,h2,dacc,p2,k2,hr2,da,q2⟩
  by_cases hlt:i<items.length
  ·rw [Jr hlt] at q2
   unfold Dk at q2
   split at q2
   ·rename_i hs
    obtain ⟨hgo,hy⟩:=(r1 i m2 h2 H2 p2 k2 hr2 hs).1 hlt
    refine .inr ⟨hgo,by omega,fun y H3 hyl=>?_⟩
    obtain ⟨k3,hr3,d,ed,rd⟩:=hy y H3 hyl
    have ed':d=items[i]:=by rw [A2 hlt] at ed;exact (Option.some.inj ed).symm
    subst ed'
    split at q2
    ·exact q2.elim
    ·rename_i ρ3 es
     have er3:ER X.K m2 H3 (Cp cs ρ) (Bz cs σ):=er1.keep p2 (k2.trans k3)
     refine hg m2 H3 _ y (Cp cs ρ) σ ρ3 _ rd er3 es fun σ4 sub4 er4=>⟨sub4,m2,ρ3,h2,hr3,er4,?_⟩
     rw [Out.bind_assoc] at q2
     refine Qi (Post.ahead (Az _) k3 q2) fun b h5 v m5 H5 _ p5 k5 hr5 r5 q5=>?_
     cases r5
     cases b with
     |false=>
      simp only [Bu,if_false] at q5 ⊢
      exact ⟨items.length - (i+1),by omega,rfl,hlt,by omega,m5,h5,dacc,p2.trans p5,(k2.trans k3).trans k5,hr5,DVs.keep p5 (k3.trans k5) da,q5⟩
     |true=>
      simp only [if_true] at q5 ⊢
      rw [Out.bind_assoc] at q5
      refine ⟨m5,ρ3,h5,hr5,er4.keep p5 k5,Qi q5 fun z h6 w m6 H6 _ p6 k6 hr6 r6 q6=>?_⟩
      refine ⟨items.length - (i+1),by omega,rfl,hlt,by simp;omega,m6,h6,dacc++[z],(p2.trans p5).trans p6,((k2.trans k3).trans k5).trans k6,hr6,(DVs.keep (p5.trans p6) ((k3.trans k5).trans k6) da).app (.cons r6 .nil),?_⟩
      rw [Out.bind_assoc] at q6
      simp only [Out.bind_ok] at q6
      simpa using q6
   ·exact q2.elim
  ·have he:i=items.length:=Nat.le_antisymm hi' (HB hlt)
   subst he
   rw [List.drop_length] at q2
   unfold Dk at q2
   split at q2
   ·rename_i hs
    simp only [Out.bind_ok,D9] at q2
    obtain ⟨z1,z2⟩:=HQ hr2 da q2
    exact .inl ⟨(r1 _ m2 h2 H2 p2 k2 hr2 hs).2 rfl,z1,z2⟩
   ·exact q2.elim
 ·exact q1.elim
theorem ZM (hcalm:X.calm=true) (S:GS X scope Nc cs) (hi:Ej X E tg iter it) (hg:F7 X.K cs gg sg)
 (hb:∀(C D:Addr) (cells:List (Str×Addr)) (fp:List Addr) (s₀:Shared) (H₀:Hp) (pins:List (Addr×Obj)),PG (BJ X Nc scope C D cells fp s₀ H₀ pins) tg gg∧GT (BJ X Nc scope C D cells fp s₀ H₀ pins) E0 ifs t∧Ev (BJ X Nc scope C D cells fp s₀ H₀ pins) E0 elt f)
 (hsf:∀x,foldedSetIterable iter X.env x=pure x:=by intro _;rfl):Ev X E (.ListComp elt [⟨tg,iter,ifs,0⟩] scope pos) (AI cs it sg t f):=by
 exact BH (ZJ (g:=gg) (tc:=GK X.K E0 t) (te:=tD X.K E0 f) hcalm S hi hb hsf) (Qm hg)
theorem ZN {i:Nat} {x:Str} {pos' pos2:Pos} (hcalm:X.calm=true) (hN:X.N.Nodup) (hix:X.N[i]?=some x) (hx:FU X.env.scope x) (S:GS X scope Nc cs) (hi:Ej X E tg iter it) (hg:F7 X.K cs gg sg)
 (hb:∀(C D:Addr) (cells:List (Str×Addr)) (fp:List Addr) (s₀:Shared) (H₀:Hp) (pins:List (Addr×Obj)),PG (BJ X Nc scope C D cells fp s₀ H₀ pins) tg gg∧GT (BJ X Nc scope C D cells fp s₀ H₀ pins) E0 ifs t∧Ev (BJ X Nc scope C D cells fp s₀ H₀ pins) E0 elt f)
 (hsf:∀x,foldedSetIterable iter X.env x=pure x:=by intro _;rfl) (hsw:swapsWith (.ListComp elt [⟨tg,iter,ifs,0⟩] scope pos) (some (.Name x pos')) pos2.line X.env=pure true:=by rfl)
 (hf:X.fn x=true∨X.env.scope.names.lookup x=some .local:=by first |exact .inl rfl |exact .inr rfl |assumption):Ex X E (.Assign [.Name x pos'] (.ListComp elt [⟨tg,iter,ifs,0⟩] scope pos) pos2) (An i (AI cs it sg t f)):=by
 rintro pins s σ H D I ⟨m,ρ,h,hr,er,p⟩
 have hq:J9 cs (tM X.K (J8 X.K) E it) gg (GK X.K E0 t) (tD X.K E0 f) σ H (fun v H1=>D.nx (σ.set i (some v)) H1):=Qm hg σ H _ ⟨m,ρ,h,hr,er,PostS.bind p fun y h1 v m1 H1 _ p1 k1 hr1 r1 q1=>(q1.here hr1) _ ((er.keep p1 k1).set r1)⟩
 rw [exec_Assign_Name_used _ _ _ _ hsw]
 refine wpAny_bind (wpAny_standAt (wpAny_bind ?_))
 show wpAny _ X.A (do let _ ←comprehension (.ListComp elt [⟨tg,iter,ifs,0⟩] scope pos) scope X.env _ (newList []) false (eval iter X.env) (some (assign (.Name x pos') X.env))) _ _ s
 refine wpAny_bind (wpAny_mono (Qh (QQ:=fun _ s'=>SP X pins D .next s') hcalm S hi hb hsf I hq fun s6 C Dd H7 m6 hn hC h0 hL hc hp inv q=>?_) (fun _ s' z=>wpAny_pure (wpAny_pure z)) fun _ _ z=>z)
 have I6:Inv X pins σ H7 s6:=inv s6.heap ⟨rfl,fun _ _=>rfl⟩
 refine wpAny_assign_Name (JE I6 hN hix hx (v:=.ref Dd) rfl (fun s7 I7 z3_=>?_) hf)
 obtain ⟨a,sb7,ha⟩:=z3_
 have nCa:C≠a:=by
  rcases ha with z |z
  ·rw [z];exact hL
  ·exact Ne.symm (hc x a z)
 obtain ⟨o,es,ep,e1,e2⟩:=hn
 refine ⟨m6,⟨o,es,ep,(sb7.2 C nCa).trans e1,e2⟩,fun h' sb=>?_⟩
 exact ⟨_,H7,I7.turned (t':=s7.toks) (it:=C) (fun b o hb e=>(sb.2 b hb).trans e) hC hL (.inr h0) hc hp,q⟩
end
section
variable {X:Cx} {E:XK}
def DR:D→HD→Option String
 |.non,_=>some "NoneType"
 |.bl _,_=>some "bool"
 |.int _,_=>some "int"
 |.str _,_=>some "str"
 |.tup _,_=>some "tuple"
 |.loc l,h=>match h[l]? with
  |some (.lst _)=>some "list"
  |_=>none
 |_,_=>none
theorem ZO {m:List Addr} {H:Hp} {h:HD} {d:D} {v:V} {t:String} (hr:HR X.K m h H) (r:DV X.K m H d v) (e:DR d h=some t):Eg X.K H v (.type t):=by
 cases d with
 |non=>simp only [DR,Option.some.injEq,DV] at e r;subst e r;exact .non
 |bl b=>simp only [DR,Option.some.injEq,DV] at e r;subst e r;exact .bl _
 |int i=>simp only [DR,Option.some.injEq,DV] at e r;subst e r;exact .int _
 |str x=>simp only [DR,Option.some.injEq,DV] at e r;subst e r;exact .str _
 |tup ds=>simp only [DR,Option.some.injEq,DV] at e r;subst e;obtain ⟨a,vs,rfl,ha,_⟩:=r;exact .tup ha
 |loc l=>
  simp only [DV] at r
  obtain ⟨a,rfl,ha⟩:=r
  simp only [DR] at e
  split at e
  ·rename_i ds el
   cases e
   obtain ⟨vs,hv,_⟩:=hr.cells l _ a el ha
   exact .lst hv
  ·cases e
 |_=>simp [DR] at e
def subL:List (String×String×Bool):=[("NoneType","int",false),("bool","int",true),("int","int",true),("str","int",false),("tuple","int",false),("list","int",false),("NoneType","bool",false),("bool","bool",true),("int","bool",false),("str","bool",false),("tuple","bool",false),("list","bool",false),("NoneType","tuple",false),("bool","tuple",false),("int","tuple",false),("str","tuple",false),("tuple","tuple",true),("list","tuple",false),("NoneType","str",false),("bool","str",false),("int","str",false),("str","str",true),("tuple","str",false),("list","str",false),("NoneType","list",false),("bool","list",false),("int","list",false),("str","list",false),("tuple","list",false),("list","list",true),("dict","int",false),("dict","bool",false),("dict","tuple",false),("dict","str",false),("dict","list",false)]
def Ka (t c:String):Option Bool:=(subL.find? fun p=>p.1==t&&p.2.1==c).map fun p=>p.2.2
theorem ZP {K:PySem.W.Frag}:∀p∈subL,PySem.W.kitOne K (.type p.1) (.type p.2.1)=some p.2.2:=by
 unfold subL
 simp only [List.forall_mem_cons]
 exact ⟨rfl,rfl,rfl,rfl,rfl,rfl,rfl,rfl,rfl,rfl,rfl,rfl,rfl,rfl,rfl,rfl,rfl,rfl,rfl,rfl,rfl,rfl,rfl,rfl,rfl,rfl,rfl,rfl,rfl,rfl,rfl,rfl,rfl,rfl,rfl,fun _ h=>nomatch h⟩
theorem Qn {K:PySem.W.Frag} {t c:String} {b:Bool} (h:Ka t c=some b):PySem.W.kitOne K (.type t) (.type c)=some b:=by
 unfold Ka at h
 rw [qaW] at h
 obtain ⟨p,hp,rfl⟩:=h
 have e:=List.find?_some hp
 rw [CI,beq_iff_eq,beq_iff_eq] at e
 rw [←e.1,←e.2]
 exact ZP p (List.mem_of_find?_eq_some hp)
def BA:D→D→HD→Out D:=fun x y h=>match y,DR x h with
 |.ty T,some t=>match Ka t T with
  |some b=>.ok (.bl b) h
  |none=>.stuck
 |_,_=>.stuck
theorem ZQ {x:Str} {T:String} {pos:Pos} (hg:Gl X x) (hm:X.mg x=none) (hv:bootBuiltins x=some (.type T)) (hn:x≠"__name__":=by decide) (hd:(x==("__debug__":Str))=false:=by decide):Ev X E (.Name x pos) (mC (.ty T)):=
 GM (V3 (v:=.ty T) hg hm hv rfl hn hd) fun _ _=>by simp [DV]
theorem M6 (ns:List Int):∀j,j≤ns.length→preSum (fun i=>ns.getD i 0) j=(ns.take j).sum
 |0,_=>by simp [preSum]
 |j+1,h=>by
  rw [preSum,M6 ns j (by omega),List.take_succ_eq_append_getElem (by omega),Fb]
  simp [D0,A2 (show j<ns.length by omega)]
theorem M7 {h h2 h':Heap} {it:Addr} (k:∀b o,h.get? b=some o→h2.get? b=some o) (hit:h.objs.size≤it) (hk:∀b o,b∉[it]→h2.get? b=some o→h'.get? b=some o):∀b o,h.get? b=some o→h'.get? b=some o:=fun b o e=>
 hk b o (by rw [qaH];exact BK (AR (AA e) hit)) (k b o e)
theorem Qo {ns:List Int} {its:List Value} (r:Vals (ns.map V.int) its) {i:Nat} {v:Value} (e:its.toArray[i]?=some v):∃t,v=.int (ns.getD i 0) t:=by
 have e':its[i]?=some v:=by simpa using e
 have hi:i<its.length:=(qa2.mp e').1
 have hl:ns.length=its.length:=by have:=r.length;simpa using this
 have hn:(ns.map V.int)[i]?=some (V.int (ns.getD i 0)):=by
  rw [Bv,A2 (by omega)]
  simp [D0,A2 (show i<ns.length by omega)]
 obtain ⟨u,h1,t,h2⟩:=r.get hn
 rw [e'] at h1
 cases h1
 exact ⟨t,h2⟩
theorem ZR (hc:X.calm=true):Dg X (.builtin "sum") (fun xs H Q=>∃(p:Addr) (ns:List Int),xs=[.ref p]∧(SqL X.K H p (ns.map V.int)∨SqT X.K H p (ns.map V.int))∧Q (.int ns.sum) H):=by
 intro pins s σ H xs us Q I r h
 obtain ⟨p,ns,rfl,hs,q⟩:=h
 obtain ⟨u,rfl,rx⟩:=Ef r
 cases rx
 have hh:X.A.in1.handled=none:=I.ok.hd hc
 rcases hs with hs |hs
 ·obtain ⟨its,rv,pl,hz⟩:=I.list hs
  have hl:=rv.length
  rw [CC] at hl
  have hlt:p<s.heap.objs.size:=by obtain ⟨_,e,_⟩:=pl.isList;exact AA e
  refine call_sum_walkG (wpAny_pyIter_list pl.isList ?_)
  refine ⟨s.heap.objs.size,[s.heap.objs.size,p],[s.heap.objs.size],its.toArray.size,_,_,fun i=>ns.getD i 0,rfl,Walks.list (A:=X.A.in1) hh _ p (BK hlt) its.toArray,⟨⟨_,Bf _ rfl,rfl,rfl⟩,pl.isList.push _⟩,fun b hb=>?_,fun i v e=>Qo rv e,fun h' tk t' hk=>?_⟩
  ·show b<(s.heap.push _).objs.size
   rw [Cz]
   rcases qa4.mp hb with z |z
   ·rw [z];exact GD _
   ·rw [qaH.mp z];exact GC hlt
  ·have e:preSum (fun i=>ns.getD i 0) its.toArray.size=ns.sum:=by
    rw [AW,←hl,M6 ns _ (AG _),List.take_length]
   rw [e]
   exact ⟨.int ns.sum,H,I.kept (M7 (fun b o e=>AB _ e) (AG _) hk),⟨t',rfl⟩,q⟩
 ·obtain ⟨its,rv,pl,hz⟩:=I.tuple hs
  have hl:=rv.length
  rw [CC] at hl
  have hT:s.heap.IsTuple p its.toArray:=pl
  have hlt:p<s.heap.objs.size:=pl.lt
  refine call_sum_walkG (wpAny_pyIter_tuple hT ?_)
  refine ⟨s.heap.objs.size,[s.heap.objs.size,p],[s.heap.objs.size],its.toArray.size,_,_,fun i=>ns.getD i 0,rfl,Walks.tuple (A:=X.A.in1) hh _ p (BK hlt) its.toArray,⟨⟨_,Bf _ rfl,rfl,rfl⟩,hT.push _⟩,fun b hb=>?_,fun i v e=>Qo rv e,fun h' tk t' hk=>?_⟩
  ·show b<(s.heap.push _).objs.size
   rw [Cz]
   rcases qa4.mp hb with z |z
   ·rw [z];exact GD _
   ·rw [qaH.mp z];exact GC hlt
  ·have e:preSum (fun i=>ns.getD i 0) its.toArray.size=ns.sum:=by
    rw [AW,←hl,M6 ns _ (AG _),List.take_length]
   rw [e]
   exact ⟨.int ns.sum,H,I.kept (M7 (fun b o e=>AB _ e) (AG _) hk),⟨t',rfl⟩,q⟩
def EO:D→Option Int
 |.int i=>some i
 |_=>none
def Cw:D→HD→Out D:=fun x h=>match Bd x h with
 |some ds=>match AC (ds.map EO) with
  |some ns=>.ok (.int ns.sum) h
  |none=>.stuck
 |none=>.stuck
theorem M8 {m:List Addr} {H:Hp}:∀{ds:List D} {vs:List V} {ns:List Int},DVs X.K m H ds vs→AC (ds.map EO)=some ns→vs=ns.map V.int
 |[],vs,ns,r,e=>by
  simp only [DVs] at r
  simp [AC] at e
  subst r e
  rfl
 |d::ds,vs,ns,r,e=>by
  simp only [DVs] at r
  obtain ⟨v,w,rfl,rv,rw'⟩:=r
  rw [BD] at e
  cases d with
  |int i=>
   simp only [EO,AC,qaW] at e
   obtain ⟨ns',e1,rfl⟩:=e
   simp only [DV] at rv
   subst rv
   rw [M8 rw' e1]
   rfl
  |_=>simp [EO,AC] at e
theorem ZS (hc:X.calm=true):CJ X (.builtin "sum") (Ai Cw):=by
 refine ⟨_,ZR hc,fun m H h E ds vs Q hr r q=>Fo r q fun d v ev rv q=>?_⟩
 unfold Cw at q
 split at q
 ·rename_i xs e
  split at q
  ·rename_i ns en
   obtain ⟨p,ws,rfl,hs,dv⟩:=HX hr rv e
   have:=M8 dv en
   subst this
   exact ⟨p,ns,ev,hs,A3 hr q (by simp [DV])⟩
  ·exact q.elim
 ·exact q.elim
theorem ZT (hc:X.calm=true):Dg X (.builtin "all") (fun xs H Q=>∃(p:Addr) (bs:List Bool),xs=[.ref p]∧SqL X.K H p (bs.map V.bl)∧Q (.bl (bs.all id)) H):=by
 intro pins s σ H xs us Q I r h
 obtain ⟨p,bs,rfl,hs,q⟩:=h
 obtain ⟨u,rfl,rx⟩:=Ef r
 cases rx
 have hh:X.A.in1.handled=none:=I.ok.hd hc
 obtain ⟨its,rv,pl,hz⟩:=I.list hs
 have hl:=rv.length
 rw [CC] at hl
 have hlt:p<s.heap.objs.size:=by obtain ⟨_,e,_⟩:=pl.isList;exact AA e
 have item:∀(i:Nat) (v:Value),its.toArray[i]?=some v→v=.bool (bs.getD i true):=fun i v e=>by
  have e':its[i]?=some v:=by simpa using e
  have hi:i<its.length:=(qa2.mp e').1
  have hn:(bs.map V.bl)[i]?=some (V.bl (bs.getD i true)):=by
   rw [Bv,A2 (by omega)]
   simp [D0,A2 (show i<bs.length by omega)]
  obtain ⟨u,h1,h2⟩:=rv.get hn
  rw [e'] at h1
  cases h1
  exact h2
 refine call_all_walk (wpAny_pyIter_list pl.isList ?_)
 refine ⟨s.heap.objs.size,[s.heap.objs.size,p],[s.heap.objs.size],its.toArray.size,_,_,fun i=>bs.getD i true,rfl,Walks.list (A:=X.A.in1) hh _ p (BK hlt) its.toArray,⟨⟨_,Bf _ rfl,rfl,rfl⟩,pl.isList.push _⟩,fun i v s' Q' E' e hQ=>?_,fun h' tk hk=>?_⟩
 ·rw [item i v e]
  exact wpAny_truthy_bool hQ
 ·have e:(List.range its.toArray.size).all (fun i=>bs.getD i true)=bs.all id:=by
   rw [AW,←hl]
   apply qbD.mpr
   simp only [qaN,qb8,id]
   constructor
   ·intro h b hb
    obtain ⟨i,hi,rfl⟩:=Gz hb
    have:=h i hi
    simpa [D0,A2 hi] using this
   ·intro h i hi
    have:=h bs[i] (GE hi)
    simpa [D0,A2 hi] using this
  rw [e]
  exact ⟨.bl _,H,I.kept (M7 (fun b o e=>AB _ e) (AG _) hk),rfl,q⟩
def GU:D→Option Bool
 |.bl b=>some b
 |_=>none
def DS:D→HD→Out D:=fun x h=>match x with
 |.loc l=>match h[l]? with
  |some (.lst ds)=>match AC (ds.map GU) with
   |some bs=>.ok (.bl (bs.all id)) h
   |none=>.stuck
  |_=>.stuck
 |_=>.stuck
theorem Qp {m:List Addr} {H:Hp}:∀{ds:List D} {vs:List V} {bs:List Bool},DVs X.K m H ds vs→AC (ds.map GU)=some bs→vs=bs.map V.bl
 |[],vs,ns,r,e=>by
  simp only [DVs] at r
  simp [AC] at e
  subst r e
  rfl
 |d::ds,vs,ns,r,e=>by
  simp only [DVs] at r
  obtain ⟨v,w,rfl,rv,rw'⟩:=r
  rw [BD] at e
  cases d with
  |bl i=>
   simp only [GU,AC,qaW] at e
   obtain ⟨ns',e1,rfl⟩:=e
   simp only [DV] at rv
   subst rv
   rw [Qp rw' e1]
   rfl
  |_=>simp [GU,AC] at e
theorem ZU (hc:X.calm=true):CJ X (.builtin "all") (Ai DS):=by
 refine ⟨_,ZT hc,fun m H h E ds vs Q hr r q=>Fo r q fun d v ev rv q=>?_⟩
 unfold DS at q
 split at q
 ·rename_i l
  split at q
  ·rename_i xs el
   split at q
   ·rename_i bs eb
    simp only [DV] at rv
    obtain ⟨a,rfl,ha⟩:=rv
    obtain ⟨ws,hv,dv⟩:=hr.cells _ _ a el ha
    have:=Qp dv eb
    subst this
    exact ⟨a,bs,ev,SqL.of hv,A3 hr q (by simp [DV])⟩
   ·exact q.elim
  ·exact q.elim
 ·exact q.elim
def GV:D→D→HD→Out D:=fun x y h=>match x with
 |.loc l=>match h[l]? with
  |some (.lst ds)=>if ds.length<sizeLine then .ok .non (h.set l (.lst (ds++[y]))) else .stuck
  |_=>.stuck
 |_=>.stuck
def BZ:D→HD→Out D:=fun x h=>match x with
 |.loc l=>match h[l]? with
  |some (.lst _)=>.ok x h
  |_=>.stuck
 |_=>.stuck
def BS (f g:ME):ME:=fun ρ h=>((f ρ h).bind BZ).bind fun x h1=>(g ρ h1).bind fun y h2=>GV x y h2
theorem ZV {o e:Expr} {f g:ME} {apos cpos:Pos} (ho:Ev X E o f) (he:Ev X E e g)
 (hbase:attributeBase o "append" X.env (eval o X.env)=eval o X.env:=by rfl)
 (hfew:((backTo cpos (starEach [e] X.env)).all (fun x=>!x.1)&&(backToKw cpos (keywordEach [] X.env)).all (fun x=>x.1.isSome)
  &&decide ([e].length+([]:List Keyword).length+(if ([]:List Keyword).isEmpty then 0 else 1)<30))=true:=by rfl)
 (hline:(apos.endLine==cpos.line)=true:=by rfl) (hs:starEach [e] X.env=(false,eval e X.env)::starEach [] X.env:=by rfl) (hplain:(backTo cpos (starEach [] X.env)).any (·.1)=false:=by rfl):
 Ev X E (.Call (.Attribute o "append" apos) [e] [] cpos) (BS f g):=
 BH (Yp PySem.F.plainAttrs_list PySem.F.slot_list_append PySem.F.type_list_append Yt ho (JZ he JY hs) hbase hfew hline hs hplain) fun σ H Q z1_=>by
  obtain ⟨m,ρ,h,hr,er,p⟩:=z1_
  refine ⟨m,ρ,h,hr,er,?_⟩
  unfold BS at p
  rw [Out.bind_assoc] at p
  refine Post.bind p fun x h1 v m1 H1 eo p1 k1 hr1 r1 q1=>?_
  clear eo
  unfold BZ at q1
  split at q1
  ·rename_i l
   split at q1
   ·rename_i ds el
    simp only [Out.bind_ok] at q1
    have r1':=r1
    simp only [rD,DV] at r1'
    obtain ⟨a,rfl,ha⟩:=r1'
    obtain ⟨ws,hv,dv⟩:=hr1.cells l _ a el ha
    refine ⟨.inl ⟨rfl,ws,SqL.of hv⟩,m1,ρ,h1,hr1,er.keep p1 k1,?_⟩
    have q2:Post X.K (rD X.K) m1 H1 E Q ((Aa g Ac ρ h1).bind fun ys h2=>match ys with
     |[y]=>GV (.loc l) y h2
     |_=>.stuck):=by
     unfold Aa Ac
     rw [Out.bind_assoc]
     exact q1
    refine Post.bind q2 fun ys h2 vs m2 H2 eo p2 k2 hr2 r2 q3=>?_
    clear eo
    split at q3
    ·rename_i y
     simp only [DN,DVs] at r2
     obtain ⟨yv,w,rfl,ry,rfl⟩:=r2
     unfold GV at q3
     simp only at q3
     split at q3
     ·rename_i ds2 el2
      split at q3
      ·rename_i hz
       have ha2:=GI p2 ha
       obtain ⟨ws2,hv2,dv2⟩:=hr2.cells l _ a el2 ha2
       refine ⟨a,ws2,yv,rfl,rfl,hv2,by rw [←dv2.len];exact hz,?_⟩
       refine q3 .non m2 _ (Az _) (.set hv2 rfl) (hr2.setCell ha2 hv2 rfl ⟨_,BN,?_⟩) (by simp [rD,DV])
       exact (dv2.app (.cons ry .nil)).keep (Az _) (.set hv2 rfl)
      ·exact q3.elim
     ·exact q3.elim
    ·exact q3.elim
   ·exact q1.elim
  ·exact q1.elim
def GW:D→D→D→HD→Out (Fl×Ag)→Out (Fl×Ag):=fun o i v h k=>match o,i with
 |.loc l,.int n=>match h[l]? with
  |some (.lst ds)=>match CF ds.length n with
   |some j=>match k with
    |.ok a _=>.ok a (h.set l (.lst (ds.set j v)))
    |_=>.stuck
   |none=>.stuck
  |_=>.stuck
 |_,_=>.stuck
def Ie (fo fi fv:ME):MS:=fun ρ h=>(fv ρ h).bind fun v h1=>(fo ρ h1).bind fun o h2=>(fi ρ h2).bind fun i h3=>GW o i v h3 (.ok (.nx,ρ) h3)
theorem ZW {o i e:Expr} {fo fi fv:ME} {pos pos':Pos} (ho:Ev X E o fo) (hi:Ev X E i fi) (he:Ev X E e fv)
 (ha:∀v,assign (.Subscript o i pos') X.env v=(do
  let ov ←holding [v] (eval o X.env)
  let iv ←holding [v,ov] (eval i X.env)
  standAt pos'
  holding [v,ov,iv] (setItem ov iv v)
  release [v,ov,iv] []):=by intro _;rfl)
 (hs:swapsWithSole [.Subscript o i pos'] e pos.line X.env=pure false:=by rfl) (hw:swappedStores [.Subscript o i pos'] e X.env=pure none:=by rfl)
 (h1:(assignEach [.Subscript o i pos'] X.env).map (·.2)=[assign (.Subscript o i pos') X.env]:=by rfl):Ex X E (.Assign [.Subscript o i pos'] e pos) (Ie fo fi fv):=
 Dv (Mt he (Wx ho hi Ye ha) hs hw h1) fun Dn σ H ⟨m,ρ,h,hr,er,p⟩=>⟨m,ρ,h,hr,er,PostS.bind p fun v h1 vv m1 H1 eo1 p1 k1 hr1 r1 q1=>by
  refine ⟨m1,ρ,h1,hr1,er.keep p1 k1,PostS.bind q1 fun ov h2 vo m2 H2 eo2 p2 k2 hr2 r2 q2=>?_⟩
  refine ⟨m2,ρ,h2,hr2,(er.keep p1 k1).keep p2 k2,PostS.bind q2 fun iv h3 vi m3 H3 eo3 p3 k3 hr3 r3 q3=>?_⟩
  clear eo1 eo2 eo3
  unfold GW at q3
  split at q3
  ·rename_i l n
   split at q3
   ·rename_i ds el
    split at q3
    ·rename_i j ej
     have ro:=DV.keep p3 k3 r2
     simp only [DV] at ro
     obtain ⟨a,rfl,ha⟩:=ro
     have ri:=r3
     simp only [rD,DV] at ri
     subst ri
     obtain ⟨ws,hv,dv⟩:=hr3.cells l _ a el ha
     refine ⟨a,ws,n,j,rfl,rfl,hv,by rw [←dv.len];exact ej,?_⟩
     have rvv:=DV.keep p3 k3 (DV.keep p2 k2 r1)
     have hr4:HR X.K m3 (h3.set l (.lst (ds.set j v))) (Ak H3 a (.lst (ws.set j vv))):=hr3.setCell ha hv rfl ⟨_,BN,(dv.set j rvv).keep (Az _) (.set hv rfl)⟩
     exact q3 m3 _ (Az _) (.set hv rfl) hr4 σ ((((er.keep p1 k1).keep p2 k2).keep p3 k3).keep (Az _) (.set hv rfl))
    ·exact q3.elim
   ·exact q3.elim
  ·exact q3.elim⟩
end
def As (n:Nat) (g:MS):List D→HD→Out D:=fun ds h=>(g (ds.map some++List.replicate (n - ds.length) none) h).bind fun x h1=>match x with
 |(.nx,_)=>.ok .non h1
 |(.rt d,_)=>.ok d h1
 |_=>.stuck
open AutoSeq1 (wpAny_loadPart')
section
variable {prog:Program} {w:World} {A:Around} {E:Value→Shared→Prop} {s:Shared}
theorem ZX {it l:Addr} {i:Nat} {items:Array Value} {x:Value} {Q:Value→Shared→Prop} (hit:s.heap.IsTupleIter it l i)
 (hl:s.heap.IsTuple l items) (hx:items[i]?=some x)
 (hQ:∀h',h'.IsTupleIter it l (i+1)→Heap.SameBut it s.heap h'→Q x {s with heap:=h'}):
 wpAny (model prog w) A (Builtin.SmallTypes.nextOf (.ref it)) Q E s:=by
 obtain ⟨o,ho,hc,hd⟩:=id hit
 obtain ⟨ol,hol,_,nl,hdl⟩:=hl
 unfold Builtin.SmallTypes.nextOf
 refine wpAny_bind (wpAny_callSpecial?_slot (name:=Str.ofString "__next__") hit.typeIs F.slot_tuple_iterator_next
  (wpAny_call_entry F.slot_tuple_iterator_next hit.typeIs F.entry_tuple_iterator_next ?_ (F.args_tuple_iterator_next_1 _)))
 show wpAny _ _ (field (.ref it) 0 >>=_) _ _ s
 refine wpAny_bind (wpAny_field ho hd (x:=.ref l) rfl ?_)
 show wpAny _ _ (if (Value.ref l==Value.none)=true then _ else _) _ _ s
 rw [if_neg (show ¬((Value.ref l==Value.none)=true) from Bl)]
 show wpAny _ _ (field (.ref it) 1 >>=_) _ _ s
 refine wpAny_bind (wpAny_field ho hd (x:=.int i 0) rfl ?_)
 show wpAny _ _ (seqItems? (.ref l) >>=_) _ _ s
 refine wpAny_bind (wpAny_seqItems hol hdl ?_)
 simp only [Ju,hx]
 refine wpAny_bind (wpAny_setField ho hd (by simp) (wpAny_pure ⟨x,rfl,wpAny_pure (hQ _ ?_ (Heap.SameBut.update ..))⟩))
 exact ⟨_,Mi _ ho (Obj.isFreed_of_fields (Obj.data_mapFields hd _)),(Obj.cls_mapFields ..).trans hc,by
  rw [Obj.data_mapFields hd];simp [rawInt]⟩
theorem ZY {it l:Addr} {i:Nat} {items:Array Value} {Q:Value→Shared→Prop} (hh:A.handled=none)
 (hit:s.heap.IsTupleIter it l i) (hl:s.heap.IsTuple l items) (hx:items[i]?=none)
 (hE:∀h' e,Heap.ExtBut it s.heap h'→(∃o,h'.get? e=some o∧o.cls=.type "StopIteration")→E (.ref e) {s with heap:=h'}):
 wpAny (model prog w) A (Builtin.SmallTypes.nextOf (.ref it)) Q E s:=by
 obtain ⟨o,ho,hc,hd⟩:=id hit
 obtain ⟨ol,hol,_,nl,hdl⟩:=hl
 unfold Builtin.SmallTypes.nextOf
 refine wpAny_bind (wpAny_callSpecial?_slot (name:=Str.ofString "__next__") hit.typeIs F.slot_tuple_iterator_next
  (wpAny_call_entry F.slot_tuple_iterator_next hit.typeIs F.entry_tuple_iterator_next ?_ (F.args_tuple_iterator_next_1 _)))
 show wpAny _ _ (field (.ref it) 0 >>=_) _ _ s
 refine wpAny_bind (wpAny_field ho hd (x:=.ref l) rfl ?_)
 show wpAny _ _ (if (Value.ref l==Value.none)=true then _ else _) _ _ s
 rw [if_neg (show ¬((Value.ref l==Value.none)=true) from Bl)]
 show wpAny _ _ (field (.ref it) 1 >>=_) _ _ s
 refine wpAny_bind (wpAny_field ho hd (x:=.int i 0) rfl ?_)
 show wpAny _ _ (seqItems? (.ref l) >>=_) _ _ s
 refine wpAny_bind (wpAny_seqItems hol hdl ?_)
 simp only [Ju,hx]
 refine wpAny_bind (wpAny_rule (wpAny_bind (wpAny_setField ho hd (by simp) ?_)))
 show wpAny _ _ (newExc (.type "StopIteration") [] >>=_) _ _ _
 refine wpAny_bind ?_
 simp only [newExc,newTuple]
 refine wpAny_bind (wpAny_newObj_type ?_ (by size_fits))
 refine wpAny_bind (m:=firstArgMember _ _) (wpAny_of_eq (a:=Value.none) (by first |rfl |(simp only [firstArgMember];rfl)) ?_)
 refine wpAny_newObj_type ?_ (by size_fits)
 simp only [raiseNew]
 refine wpAny_bind (wpAny_handled ?_)
 first |rw [show A.in1.handled=none from hh] |rw [hh]
 refine wpAny_bind (wpAny_pure (wpAny_throw ?_))
 exact hE _ _ (((Heap.SameBut.update ..).extBut.push _).push _) ⟨_,Bf _ rfl,rfl⟩
end
theorem M9 {prog:Program} {w:World} {A:Around} (hh:A.handled=none) (it l:Addr) (hne:l≠it) (items:Array Value):
 Draws prog w A it [it,l] items.size (fun i v=>items[i]?=some v) (fun i h=>h.IsTupleIter it l i∧h.IsTuple l items) where
 live:=fun _ _ st=>let ⟨o,ho,_⟩:=st.1;⟨o,ho⟩
 frame:=fun _ _ _ st hk=>⟨st.1.at fun o e=>hk it (by simp) o e,st.2.at fun o e=>hk l (by simp) o e⟩
 item:=fun i s Q E hi st hQ=>by
  refine ZX st.1 st.2 (x:=items[i]) (by simp [hi]) fun h' hit' hs'=>?_
  exact hQ _ h' s.toks (by simp [hi]) ⟨hit',st.2.extBut hs'.extBut hne⟩ hs'
 done:=fun s Q E st hE=>ZY hh st.1 st.2 (by simp) hE
theorem ZZ (l:Addr) (items:Array Value) (n:Nat) (dct:Option Addr) (sl:Array (Option Value)):
 Meets (Builtin.«enumerate.__new__» ⟨[.type "enumerate",.ref l],[]⟩) (fun _ R s=>s.heap.get? l=some {cls:=.type "tuple",dict:=dct,data:=.seq items n,slots:=sl}∧
  R (.ok (.ret (.ref (s.heap.push {cls:=.type "tuple_iterator",data:=.fields #[.ref l,.int 0 0]}).objs.size)))
    {s with heap:=(s.heap.push {cls:=.type "tuple_iterator",data:=.fields #[.ref l,.int 0 0]}).push {cls:=.type "enumerate",data:=.fields #[.none,.bool false,.ref s.heap.objs.size,rawInt 0,.none,.none]}}):=
 .of_wp fun prog w A R s h=>by
  obtain ⟨hp,g,d,tk,os⟩:=s;obtain ⟨hl,h⟩:=h
  have hsub:=sub_enumerate
  have hL:Heap.IsTuple (Shared.heap ⟨hp,g,d,tk,os⟩) l items:=⟨_,hl,rfl,n,rfl⟩
  wp_walk using wpAny_loadPart' hl
  refine wpAny_stack_any fun st=>wpAny_pure ?_
  split
  ·rename_i c _ _ _ _ _
   cases (c==Value.type "enumerate")
   ·wp_walk using wpAny_loadPart' hl,wpAny_pyIter_tuple hL
    exact ⟨_,rfl,h⟩
   ·wp_walk using wpAny_loadPart' hl,wpAny_pyIter_tuple hL
    exact ⟨_,rfl,h⟩
  ·wp_walk using wpAny_loadPart' hl,wpAny_pyIter_tuple hL
   exact ⟨_,rfl,h⟩
section
variable {prog:Program} {w:World} {A:Around} {E:Value→Shared→Prop} {s:Shared}
theorem Z0 {l:Addr} {items:Array Value} {Q:Value→Shared→Prop} (hL:s.heap.IsTuple l items)
 (h:∀h',IsEnum h' (s.heap.objs.size+1) s.heap.objs.size 0 .none→h'.IsTupleIter s.heap.objs.size l 0→h'.objs.size=s.heap.objs.size+2→
  (∀b o,s.heap.get? b=some o→h'.get? b=some o)→Q (.ref (s.heap.objs.size+1)) {s with heap:=h'}):
 wpAny (model prog w) A (call (.type "enumerate") [.ref l]) Q E s:=by
 obtain ⟨⟨c,dct,dt,sl⟩,hl,hc,n,hd⟩:=hL
 replace hc:c=.type "tuple":=hc
 replace hd:dt=.seq items n:=hd
 subst hc hd
 refine callType_new F.called_enumerate (by decide) (F.typeCall_enumerate_1 _) (F.newCall_enumerate_1 _) (fun obj=>F.args_object_init_2 obj _) F.entry_enumerate_new
  (ZZ l items n dct sl) ⟨hl,?_⟩
 have hz:(s.heap.push {cls:=.type "tuple_iterator",data:=.fields #[.ref l,.int 0 0]}).objs.size=s.heap.objs.size+1:=Cz ..
 show _∧_
 rw [hz]
 have he:IsEnum ((s.heap.push {cls:=.type "tuple_iterator",data:=.fields #[.ref l,.int 0 0]}).push
  {cls:=.type "enumerate",data:=.fields #[.none,.bool false,.ref s.heap.objs.size,rawInt 0,.none,.none]}) (s.heap.objs.size+1) s.heap.objs.size 0 .none:=by
  have:=Bf (s.heap.push {cls:=.type "tuple_iterator",data:=.fields #[.ref l,.int 0 0]})
   (o:={cls:=.type "enumerate",data:=.fields #[.none,.bool false,.ref s.heap.objs.size,rawInt 0,.none,.none]}) rfl
  rw [hz] at this;exact this
 refine ⟨⟨_,he,rfl⟩,h _ he ⟨_,AB _ (Bf _ rfl),rfl,rfl⟩ (by rw [Cz,hz]) fun b o x=>AB _ (AB _ x)⟩
end
def Qq (K:PySem.W.Frag) (t:Addr) (xs:List V):It:=⟨fun i H=>i<xs.length∧SqT K H t xs,fun i H x H'=>∃p v,H p=none∧x=.ref p∧xs[i]?=some v∧H'=Ak H p (.tup [.int i,v]),fun i H=>i=xs.length∧SqT K H t xs⟩
theorem Z1 {P:Program} {w:World} {K:PySem.W.Frag} {elts:List Expr} {kt:Nat} {tpos:Pos} (e it t:Addr) (hei:e≠it) (hte:t≠e) (hti:t≠it) (xs:List V):
 FX P w K (.Tuple elts kt tpos) (Qq K t xs) [e,it] e (fun i h=>(∃old,IsEnum h e it i old)∧h.IsTupleIter it t i) where
 mem:=by simp
 obj:=fun i h st b hb=>by
  obtain ⟨⟨old,h1⟩,o,h2,hc,hd⟩:=st
  rcases qa4.mp hb with z |z
  ·subst z;exact ⟨_,h1,fun v z=>by cases z⟩
  ·rw [qaH] at z
   subst z
   exact ⟨o,h2,fun v z=>by rw [hd] at z;cases z⟩
 keep:=fun i h h' st k=>by
  obtain ⟨⟨old,h1⟩,h2⟩:=st
  exact ⟨⟨old,k e (by simp) _ h1⟩,h2.at fun o z=>k it (by simp) o z⟩
 item:=by
  intro X hP hw hK hc i pins s σ H E I hf st hg
  subst hP hw hK
  obtain ⟨⟨old,he⟩,hit⟩:=st
  obtain ⟨hi,hq⟩:=hg
  obtain ⟨its,rv,p,hz⟩:=I.tuple hq
  have hT:s.heap.IsTuple t its.toArray:=p
  have hl:=rv.length
  obtain ⟨e0,e1,e2,e3,e4,e5⟩:=hf e (by simp)
  obtain ⟨i0,i1,i2,i3,i4,i5⟩:=hf it (by simp)
  have hx:xs[i]?=some xs[i]:=A2 hi
  refine wpAny_pyNext_enum_itemD (M9 (A:=X.A.in1) (I.ok.hd hc) it t hti its.toArray) he ⟨hit,hT⟩ (by rw [AW];omega) hei (by simp [hei,Ne.symm hte]) fun x h1 tk hPx ho hs1 hTup hsz hk=>?_
  obtain ⟨u,hu,ru⟩:=rv.get hx
  have hux:u=x:=by
   have:its[i]?=some x:=by simpa using hPx
   rw [hu] at this
   exact Option.some.inj this
  subst hux
  refine ⟨.ref s.heap.objs.size,rfl,wpAny_letOwnedTupleGo_enum ho fun h2 he2 sb=>?_⟩
  have hfr:H s.heap.objs.size=none:=I.hok.fresh (AG _)
  have kk:∀b o,b∉[e,it]→s.heap.get? b=some o→h2.get? b=some o:=fun b o hb z=>by
   have n1:b≠e:=fun q=>hb (by simp [q])
   have n2:b≠it:=fun q=>hb (by simp [q])
   exact (sb.2 b n1).trans (hk b o n1 n2 z)
  have na:s.heap.objs.size≠e:=Fv (AA he)
  have hnew:h2.get? s.heap.objs.size=some {cls:=.type "tuple",data:=.seq #[.int i tk,u]}:=(sb.2 _ na).trans hTup
  have ntr:∀b w,H b=some w→b∉[e,it]:=fun b w z hb=>by
   rcases qa4.mp hb with q |q
   ·rw [q,e0] at z;cases z
   ·rw [qaH.mp q,i0] at z;cases z
  have nal:∀b o,s.heap.get? b=some o→b≠s.heap.objs.size:=fun b o z=>BK (AA z)
  have it2:h2.IsTupleIter it t (i+1):=by
   obtain ⟨o,q,r⟩:=hs1.1
   exact ⟨o,(sb.2 it (Ne.symm hei)).trans q,r⟩
  refine ⟨.ref s.heap.objs.size,Ak H s.heap.objs.size (.tup [.int i,xs[i]]),?_,rfl,⟨s.heap.objs.size,xs[i],hfr,rfl,hx,rfl⟩,⟨⟨u,he2⟩,it2⟩,fun b hb=>?_⟩
  ·show Inv X pins σ _ {s with heap:=h2,gens:=s.gens,drawn:=s.drawn,toks:=tk+1}
   refine I.step (g':=s.gens) (d':=s.drawn) (t':=tk+1) (h':=h2) (ch:=[e,it]) (fun b hb=>?_) (fun b o _ _ hc z _=>kk b o hc z) (fun b o _ _ hc z _=>⟨o.slots,kk b o hc z⟩) (fun b o _ z n=>by rw [Ao (nal b o z)];exact n)
    (fun b o hc z=>⟨o,kk b o hc z⟩) (fun b ys z=>by rw [Ao (Bw z hfr)];exact z) (fun b o u z=>by rw [Ao (Bw z hfr)];exact z) (fun b ps z=>⟨#[],by rw [Ao (Bw z hfr),z];simp⟩) (fun m hm=>?_) (fun b w z=>?_) I.bare
   ·rcases qa4.mp hb with q |q
    ·subst q;exact ⟨e3,e1,e4,e5⟩
    ·rw [qaH] at q;subst q;exact ⟨i3,i1,i4,i5⟩
   ·obtain ⟨o,es,ep,q,r⟩:=hm
    exact ⟨o,es,ep,kk _ o (by simp [Ne.symm e1,Ne.symm i1]) q,r⟩
   ·by_cases hb:b=s.heap.objs.size
    ·subst hb
     rw [BN] at z
     cases z
     exact ⟨by simp only [D7,HC];rw [sizeLine_eq];decide,[.int i tk,u],.cons ⟨tk,rfl⟩ (.cons ru .nil),⟨_,hnew,rfl,0,rfl⟩,fun o e=>by rw [hnew] at e;cases e;rfl⟩
    ·rw [Ao hb] at z
     refine (I.hok b w z).stay (fun c v hc q=>kk c v ?_ q) (fun c q=>by rw [Ao (Bw q hfr)];exact q) fun c ys q=>by rw [Ao (Bw q hfr)];exact q
     rcases hc with rfl |hc
     ·exact ntr c _ z
     ·exact ntr c _ hc
  ·have nb:b≠s.heap.objs.size:=by
    rcases qa4.mp hb with q |q
    ·rw [q];exact na.symm
    ·rw [qaH.mp q]
     obtain ⟨o,z,_⟩:=hit
     exact nal _ _ z
   rw [Ao nb]
   exact (hf b hb).1
 done:=by
  intro X hP hw hK hc i pins s σ H E I hf st hg
  subst hP hw hK
  obtain ⟨⟨old,he⟩,hit⟩:=st
  obtain ⟨hi,hq⟩:=hg
  obtain ⟨its,rv,p,hz⟩:=I.tuple hq
  have hT:s.heap.IsTuple t its.toArray:=p
  have hl:=rv.length
  obtain ⟨i0,i1,i2,i3,i4,i5⟩:=hf it (by simp)
  have hin:i=its.toArray.size:=by rw [AW];omega
  refine wpAny_pyNext_enum_endD (M9 (A:=X.A.in1) (I.ok.hd hc) it t hti its.toArray) he (hin ▸ ⟨hit,hT⟩) fun h' eb=>⟨rfl,I.turned (t':=s.toks) (fun b o hb z=>eb b o hb z) i0 i1 i3 i4 i5⟩
 self:=fun A i s Q E st h=>by
  obtain ⟨⟨old,he⟩,_⟩:=st
  exact wpAny_pyIter_enum he h
section
variable {X:Cx} {E:XK}
def DT (ds:List D):List D:=ds.mapIdx fun i d=>.tup [.int (i:Nat),d]
def Qr:List D→HD→Out (List D×AS):=fun ds h=>match ds with
 |[.tup xs]=>.ok (DT xs,[]) h
 |_=>.stuck
def Qs (fa:MA):MI:=fun ρ h=>(fa ρ h).bind Qr
end
end LS
namespace LS
open PySem PySem.Spec PyProof.Rows L2
section
variable {prog:Program} {w:World} {A:Around} {E:Value→Shared→Prop} {s:Shared}
end
section
variable {X:Cx} {E:XK} {e:Expr} {f:ME}
def Na:D→HD→Out D:=fun x h=>match x with
 |.tup [a,b]=>.ok (.tup [b,a]) h
 |_=>.stuck
def Qt (f:ME):ME:=fun ρ h=>(f ρ h).bind Na
end
structure CSc (X:Cx) (scope:Scope) (Nc:List Str) (cs:List (Option Nat)):Prop where
 kind:scope.kind=.function
 loc:(scope.names.all fun y=>y.2 != .local||scope.names.lookup y.1==some .local)=true
 free:(scope.names.all fun y=>y.2 != .free||(X.env.kindOf y.1==some .cell||X.env.kindOf y.1==some .free))=true
 nd:(scope.names.map (·.1)).Nodup
 len:cs.length=Nc.length
 out:((Nc.zip cs).all fun p=>match p.2 with
  |none=>true
  |some j=>X.N[j]?==some p.1&&scope.names.lookup p.1==some .free)=true
theorem CSc.ok {X:Cx} {scope:Scope} {Nc:List Str} {cs:List (Option Nat)} (S:CSc X scope Nc cs):GS X scope Nc cs:=by
 refine ⟨S.kind,fun y hy e=>?_,fun y hy e=>?_,S.nd,S.len,fun i x j h1 h2=>?_⟩
 ·have:=qaN.mp S.loc y hy
  rw [e] at this
  simpa using this
 ·have:=qaN.mp S.free y hy
  rw [e] at this
  simpa using this
 ·have hz:(Nc.zip cs)[i]?=some (x,some j):=by
   rw [List.getElem?_zip_eq_some]
   exact ⟨h1,h2⟩
  have:=qaN.mp S.out (x,some j) (E8 hz)
  simpa using this
structure Dn (K:PySem.W.Frag) (mg:Str→Option Value) (x:Str) (ps:List Str) (st:Stmt) (f:Addr) (fd:FuncData):Prop where
 fn:Fun K x x st f fd
 bd:Binds K fd ps []
 mg:mg x=some (.ref f)
section
variable {X:Cx} {E:XK}
theorem Z2 {a:Expr} {f:ME} {pos:Pos} (ha:Ev X E a f):Ev X E (.UnaryOp .USub a pos) (fun ρ h=>(f ρ h).bind fun x h1=>match x with
 |.int i=>.ok (.int (-i)) h1
 |_=>.stuck):=
 BH (WS WZ ha) fun σ H Q z1_=>by obtain ⟨m,ρ,h,hr,er,p⟩:=z1_;exact (⟨m,ρ,h,hr,er,Post.bind p fun x h1 v m1 H1 eo p1 k1 hr1 r1 q1=>by
  clear eo
  split at q1
  ·simp only [rD,DV] at r1
   subst r1
   exact ⟨_,rfl,A3 hr1 q1 (by simp [DV])⟩
  ·exact q1.elim⟩)
def CK (f:ME):ME:=fun ρ h=>(f ρ h).bind fun x h1=>match x with
    |.int i=>.ok (.int (-i)) h1
    |_=>.stuck
theorem Qu {i j:Nat} {x y:Str} {px py tp:Pos} {kt:Nat} (hc:X.calm=true) (h1:PG X (.Name x px) (BP i)) (h2:PG X (.Name y py) (BP j)):PG X (.Tuple [.Name x px,.Name y py] kt tp) (EI X.K 2 (Cg (BP i) (Cg (BP j) Ed))):=
 Ms hc (EH h1 (EH h2 JF))
end
def CMl (i j:Int):Prop:=CMul i j∨(Builtin.Int.intBits i≤16777216∧Builtin.Int.intBits j≤16777216)
instance (i j:Int):Decidable (CMl i j):=by unfold CMl;infer_instance
theorem CMl.ok {i j:Int} (h:CMl i j):IntMulOk i j:=by
 rcases h with h |⟨h1,h2⟩
 ·exact h.ok
 ·unfold IntMulOk
  intro z
  simp only [CI,decide_eq_true_eq] at z
  have:=z.2
  unfold Builtin.Int.intTooBig at this
  simp only [decide_eq_true_eq] at this
  have hb:(bitsLine:Int)=134217728:=by first |rfl |decide
  omega
variable {X:Cx}
theorem op_mul':OpR X (binaryOp .Mult) (rI CMl fun i j=>.int (i*j)):=HM fun _ _ _ _ _ _ _ hc q=>mul_int q hc.ok
def Dl:D→D→HD→Out D
 |.int i,.int j,h=>if CMl i j then .ok (.int (i*j)) h else .stuck
 |.loc l,.int k,h=>match h[l]? with
  |some (.lst xs)=>if -(2^63)≤k∧k<2^63 then B9 (List.replicate k.toNat xs).flatten h else .stuck
  |_=>.stuck
 |_,_,_=>.stuck
theorem Z3:Bh X (binaryOp .Mult) Dl:=by
 refine ⟨_,op_mul'.or Yy,fun m H h E x y v u Q hr rx ry q=>?_⟩
 unfold Dl at q
 split at q
 ·simp only [DV] at rx ry
  subst rx ry
  split at q
  ·rename_i hc
   exact .inl ⟨_,_,rfl,rfl,hc,A3 hr q (by simp [DV])⟩
  ·exact q.elim
 ·simp only [DV] at rx ry
  obtain ⟨a,rfl,ha⟩:=rx
  subst ry
  split at q
  ·rename_i k _ xs e
   split at q
   ·rename_i hk
    obtain ⟨vs,h1,d1⟩:=hr.cells _ _ a e ha
    obtain ⟨z,q'⟩:=HQ hr (d1.rep k.toNat) q
    refine .inr ⟨a,k,vs,rfl,rfl,h1,hk.1,hk.2,?_,q'⟩
    rw [JQ] at z
    rw [Nat.mul_comm];exact z
   ·exact q.elim
  ·exact q.elim
 ·exact q.elim
end LS
namespace Att
open PySem PySem.W PySem.Calls PyProof.Rows
theorem Z4 {ns:List Int} (h:WData.layable (.list (ns.map WData.int))=true):∀n∈ns,Builtin.Int.intBits n≤2^20:=by
 have hw:WData.weight (.list (ns.map WData.int))≤2^20:=(layableW_iff.mp h).2.2
 have key:∀(ns:List Int) (b:Nat),WData.weightAll (ns.map WData.int)≤b→∀n∈ns,Builtin.Int.intBits n≤b:=by
  intro ns
  induction ns with
  |nil=>intro b _ n hn;cases hn
  |cons m r ih=>
   intro b hb n hn
   have e:WData.weightAll ((m::r).map WData.int)=Builtin.Int.intBits m+1+WData.weightAll (r.map WData.int):=by
    simp only [BD,WData.weightAll,WData.weight]
    rfl
   rw [e] at hb
   rcases qa4.mp hn with z |z
   ·subst z;omega
   ·exact ih b (by omega) n z
 exact key ns _ (by simpa only [WData.weight] using hw)
theorem attach_bits {l:OpenLaw} {n:Nat} {q:Program} {loose:List Str} {XP:(Str→Option Value)→Heap→Prop} {YP:World→Heap→Prop} {d:DefRec}
 (hn:l.most=some n) (hdf:d.params.defaults=[])
 (call:∀(w:World) (s₀ s₁:Shared) (mg mb:Str→Option Value) (fa:Addr) (o:Obj) (pm cd doc:Value) (a:Addr) (vs:List Value) (ns:List Int),(∀n∈ns,Builtin.Int.intBits n≤2^20)→
  Ground q loose [] XP w s₀ mg mb s₁.heap→YP w s₁.heap→
  s₁.heap.get? fa=some o→o.data=.func (docDef d.name d.params d.body d.scope pm cd doc)→s₁.heap.CodeRec cd d.name→mg d.name=some (.ref fa)→
  s₁.heap.get? a=some {cls:=.type "list",data:=.seq vs.toArray}→IntsAre vs ns→ns.length≤n→s₁.gens=#[]→
  codeAny (model l.prog w) callerA (.call (.ref fa) ⟨[.ref a],[]⟩) (fun r s'=>r=.ok (.ret (.bool true))∧OldK s₁.heap s'.heap∧s'.os=s₁.os∧AllBare s'.gens) s₁):
 WalkO q loose XP YP l.row.toRowW d [] (fun f vs=>PySem.call f vs):=by
 intro w s₀ s₁ mg mb G Y fa o pm cd doc dV kV ho hd hcd hD hmg hg args vals as hpre hlay hrd hwl hlo
 obtain rfl:dV=.none:=Dflts.none hD hdf
 obtain rfl:kV=.none:=Dflts.noKw hD
 obtain ⟨a,vs,ns,rfl,rfl,hobj,hints,hlen⟩:=YA hn hpre hwl
 have hb:=Z4 (layableW_arg hlay _ A1)
 refine enter_call (codeAny_mono (call w s₀ s₁ mg mb fa o pm cd doc a vs ns hb G Y ho (fd_plain hd) hcd hmg hobj hints hlen hg) fun r s' hq=>?_)
 obtain ⟨rfl,h2,h3,h4⟩:=hq
 exact ⟨.inl ⟨.bool true,.bool true,[],rfl,fun _=>rfl,.bool true,YB l _,fun _=>⟨List.Pairwise.nil,fun _ hm=>(nomatch hm)⟩⟩,h2,h3,h4⟩
end Att
namespace LS
open PySem PySem.Spec PyProof.Rows L2
def Wp {α:Type} (o:Out α) (Q:α→HD→Prop):Prop:=match o with
 |.ok a h=>Q a h
 |_=>False
section
variable {α β:Type} {o:Out α} {Q Q':α→HD→Prop}
@[simp] theorem B0 (a:α) (h:HD):Wp (.ok a h) Q=Q a h:=rfl
@[simp] theorem Zfq:Wp .stuck Q=False:=rfl
theorem AE {o':Out α} (e:o=o') (h:Wp o' Q):Wp o Q:=e ▸ h
theorem Aq {k:α→HD→Out β} {Q:β→HD→Prop}:Wp (o.bind k) Q=Wp o fun a h=>Wp (k a h) Q:=by cases o<;>rfl
theorem Wp.mono (h:Wp o Q) (f:∀a h,Q a h→Q' a h):Wp o Q':=by
 cases o with
 |ok a h'=>exact f _ _ h
 |_=>exact h.elim
theorem Wp.ex (h:Wp o Q):∃a h',o=.ok a h'∧Q a h':=by
 cases o with
 |ok a h'=>exact ⟨a,h',rfl,h⟩
 |_=>exact h.elim
end
def Sm (h h':HD):Prop:=∀(l:Nat) (c:Cell),h[l]?=some c→h'[l]?=some c
theorem Sm.refl (h:HD):Sm h h:=fun _ _ e=>e
theorem Sm.trans {h h1 h2:HD} (a:Sm h h1) (b:Sm h1 h2):Sm h h2:=fun l c e=>b l c (a l c e)
theorem Sm.app (h t:HD):Sm h (h++t):=fun l c e=>by
 rw [D3 (qa2.mp e).1];exact e
def Pu {α:Type} (o:Out α) (h:HD) (a:α):Prop:=Wp o fun x h'=>x=a∧Sm h h'
section
variable {α β:Type} {o:Out α} {h:HD} {a:α}
theorem Pu.wp {Q:α→HD→Prop} (p:Pu o h a) (k:∀h',Sm h h'→Q a h'):Wp o Q:=Wp.mono p fun x h' z1_=>by obtain ⟨e,s⟩:=z1_;subst e;exact k h' s
theorem Pu.ok:Pu (.ok a h) h a:=⟨rfl,.refl _⟩
theorem Pu.bind {k:α→HD→Out β} {b:β} (p:Pu o h a) (q:∀h',Sm h h'→Pu (k a h') h' b):Pu (o.bind k) h b:=by
 unfold Pu
 rw [Aq]
 exact p.wp fun h' s=>Wp.mono (q h' s) fun x h2 z2_=>by obtain ⟨e,s2⟩:=z2_;exact (⟨e,s.trans s2⟩)
theorem Pu.noErr (p:Pu o h a):Pu (noErr o) h a:=by
 obtain ⟨x,h',e,q⟩:=Wp.ex p
 rw [e];exact q
end
def Qv (i j:Nat) (ρ:Ag) (ds:List D) (h:HD):Out (Fl×Ag):=match ds with
 |[x,y]=>.ok (.nx,(ρ.set i (some x)).set j (some y)) h
 |_=>.stuck
def Qw (o:Option Ag) (h:HD):Out (Fl×Ag):=match o with
 |some ρ1=>.ok (.nx,ρ1) h
 |none=>.stuck
def Kb (g:HD→Out D) (x:D) (h:HD):Out D:=match x with
 |.bl true=>g h
 |.bl false=>.ok (.bl false) h
 |_=>.stuck
def Nb (g:HD→Out D) (x:D) (h:HD):Out D:=match x with
 |.bl true=>.ok (.bl true) h
 |.bl false=>g h
 |_=>.stuck
def Qx (x:D) (h:HD):Out D:=match x with
 |.bl b=>.ok (.bl (!b)) h
 |_=>.stuck
def Qy (x:D) (h:HD):Out D:=match x with
 |.int i=>.ok (.int (-i)) h
 |_=>.stuck
@[simp] theorem Zfr {i j:Nat} {ρ:Ag} {x y:D} {h:HD} {Q:Fl×Ag→HD→Prop}:Wp (Qv i j ρ [x,y] h) Q=Q (.nx,(ρ.set i (some x)).set j (some y)) h:=rfl
@[simp] theorem Zfs {ρ:Ag} {h:HD} {Q:Fl×Ag→HD→Prop}:Wp (Qw (some ρ) h) Q=Q (.nx,ρ) h:=rfl
@[simp] theorem Zft {g:HD→Out D} {h:HD}:Kb g (.bl true) h=g h:=rfl
@[simp] theorem Zfu {g:HD→Out D} {h:HD}:Kb g (.bl false) h=.ok (.bl false) h:=rfl
@[simp] theorem Zfv {g:HD→Out D} {h:HD}:Nb g (.bl true) h=.ok (.bl true) h:=rfl
@[simp] theorem Zfw {g:HD→Out D} {h:HD}:Nb g (.bl false) h=g h:=rfl
@[simp] theorem Zfx {b:Bool} {h:HD}:Qx (.bl b) h=.ok (.bl (!b)) h:=rfl
@[simp] theorem Zfy {i:Int} {h:HD}:Qy (.int i) h=.ok (.int (-i)) h:=rfl
def Nd (g:MS) (Q:Fl×Ag→HD→Prop):Fl×Ag→HD→Prop
 |(.nx,ρ),h=>Wp (g ρ h) Q
 |y,h=>Q y h
def GX (Q:D→HD→Prop):Fl×Ag→HD→Prop
 |(.nx,_),h=>Q .non h
 |(.rt d,_),h=>Q d h
 |_,_=>False
section
variable {ρ:Ag} {h:HD} {Q:Fl×Ag→HD→Prop} {QB:D→HD→Prop} {g g1 g2:MS} {f:ME} {t:MT}
@[simp] theorem Ah:Nd g Q (.nx,ρ) h=Wp (g ρ h) Q:=rfl
@[simp] theorem Zfz {d:D}:Nd g Q (.rt d,ρ) h=Q (.rt d,ρ) h:=rfl
@[simp] theorem ZfA:GX QB (.nx,ρ) h=QB .non h:=rfl
@[simp] theorem ZfB {d:D}:GX QB (.rt d,ρ) h=QB d h:=rfl
@[simp] theorem A8:Wp (Af g1 g2 ρ h) Q=Wp (g1 ρ h) (Nd g2 Q):=by
  unfold Af
  rw [Aq]
  congr 1
  funext x h'
  obtain ⟨fl,ρ1⟩:=x
  cases fl<;>rfl
theorem AH {n:Nat} {ds:List D}:Wp (As n g ds h) QB=Wp (g (ds.map some++List.replicate (n - ds.length) none) h) (GX QB):=by
 unfold As
 rw [Aq]
 congr 1
 funext x h'
 obtain ⟨fl,ρ1⟩:=x
 cases fl<;>rfl
@[simp] theorem ZfC:Wp (AD ρ h) Q=Q (.nx,ρ) h:=rfl
@[simp] theorem ZfD:Wp (AY f ρ h) Q=Wp (f ρ h) fun _ h1=>Q (.nx,ρ) h1:=by unfold AY;rw [Aq];rfl
@[simp] theorem ZfE:Wp (Al f ρ h) Q=Wp (f ρ h) fun d h1=>Q (.rt d,ρ) h1:=by unfold Al;rw [Aq];rfl
@[simp] theorem Nf {i:Nat}:Wp (An i f ρ h) Q=Wp (f ρ h) fun d h1=>Q (.nx,ρ.set i (some d)) h1:=by unfold An;rw [Aq];rfl
@[simp] theorem ZfF:Wp (Ay t g1 g2 ρ h) Q=Wp (t ρ h) fun b h1=>Wp (if b=true then g1 ρ h1 else g2 ρ h1) Q:=by unfold Ay;rw [Aq]
@[simp] theorem ZfG {i j:Nat} {fa:MA}:Wp (Fq i j fa ρ h) Q=Wp (fa ρ h) fun ds h1=>Wp (Qv i j ρ ds h1) Q:=by unfold Fq;rw [Aq];rfl
@[simp] theorem ZfH {sg:MG}:Wp (CG sg f ρ h) Q=Wp (f ρ h) fun d h1=>Wp (Qw (sg d ρ) h1) Q:=by unfold CG;rw [Aq];rfl
@[simp] theorem ZfI {fo fi fv:ME}:Wp (Ie fo fi fv ρ h) Q=Wp (fv ρ h) fun v h1=>Wp (fo ρ h1) fun o h2=>Wp (fi ρ h2) fun i h3=>Wp (GW o i v h3 (.ok (.nx,ρ) h3)) Q:=by
  unfold Ie;simp only [Aq]
end
section
variable {ρ:Ag} {h:HD} {Q:D→HD→Prop} {QB:Bool→HD→Prop} {QA:List D→HD→Prop} {f g k:ME} {t u:MT} {fa:MA} {op op':D→D→HD→Out D} {F:List D→HD→Out D}
@[simp] theorem Kc {d:D} {r:Ag}:Wp (Ab 0 (some d::r) h) Q=Q d h:=rfl
@[simp] theorem Kd {i:Nat} {x:Option D} {r:Ag}:Wp (Ab (i+1) (x::r) h) Q=Wp (Ab i r h) Q:=rfl
@[simp] theorem ZfJ {d:D}:Wp (mC d ρ h) Q=Q d h:=rfl
@[simp] theorem Ng:Wp (Ad op f g ρ h) Q=Wp (f ρ h) fun x h1=>Wp (g ρ h1) fun y h2=>Wp (op x y h2) Q:=by unfold Ad;simp only [Aq]
@[simp] theorem GY:Wp (Ae F fa ρ h) Q=Wp (fa ρ h) fun ds h1=>Wp (F ds h1) Q:=by unfold Ae;rw [Aq]
@[simp] theorem F8:Wp (Ac ρ h) QA=QA [] h:=rfl
@[simp] theorem GZ:Wp (Aa f fa ρ h) QA=Wp (f ρ h) fun x h1=>Wp (fa ρ h1) fun xs h2=>QA (x::xs) h2:=by unfold Aa;simp only [Aq];rfl
@[simp] theorem ZfK:Wp (Am fa ρ h) Q=Wp (fa ρ h) fun xs h1=>Wp (if xs.length≤sizeLine then .ok (.tup xs) h1 else .stuck) Q:=by unfold Am;simp only [Aq]
@[simp] theorem ZfL:Wp (AN fa ρ h) Q=Wp (fa ρ h) fun xs h1=>Wp (B9 xs h1) Q:=by unfold AN;simp only [Aq]
@[simp] theorem ZfM:Wp (Aw f ρ h) QB=Wp (f ρ h) fun x h1=>Wp (F0 x h1) QB:=by unfold Aw;rw [Aq]
@[simp] theorem ZfN:Wp (Bm f ρ h) QB=Wp (f ρ h) fun x h1=>Wp (Co x h1) QB:=by unfold Bm;rw [Aq]
@[simp] theorem ZfO:Wp (Bn t ρ h) QB=Wp (t ρ h) fun b h1=>QB (!b) h1:=by unfold Bn;rw [Aq];rfl
@[simp] theorem ZfP:Wp (JV t u ρ h) QB=Wp (t ρ h) fun b h1=>Wp (if b=true then u ρ h1 else .ok false h1) QB:=by unfold JV;rw [Aq]
@[simp] theorem ZfQ:Wp (B8 t u ρ h) QB=Wp (t ρ h) fun b h1=>Wp (if b=true then .ok true h1 else u ρ h1) QB:=by unfold B8;rw [Aq]
@[simp] theorem ZfR:Wp (Fg f g ρ h) Q=Wp (f ρ h) fun x h1=>Wp (Kb (g ρ) x h1) Q:=by unfold Fg;rw [Aq];rfl
@[simp] theorem ZfS:Wp (PV f g ρ h) Q=Wp (f ρ h) fun x h1=>Wp (Nb (g ρ) x h1) Q:=by unfold PV;rw [Aq];rfl
@[simp] theorem ZfT:Wp (JX f ρ h) Q=Wp (f ρ h) fun x h1=>Wp (Qx x h1) Q:=by unfold JX;rw [Aq];rfl
@[simp] theorem ZfU:Wp (CK f ρ h) Q=Wp (f ρ h) fun x h1=>Wp (Qy x h1) Q:=by unfold CK;rw [Aq];rfl
@[simp] theorem ZfV:Wp (GN t f g ρ h) Q=Wp (t ρ h) fun b h1=>Wp (if b=true then f ρ h1 else g ρ h1) Q:=by unfold GN;rw [Aq]
@[simp] theorem ZfW:Wp (Fh op op' f g k ρ h) Q=Wp (f ρ h) fun x h1=>Wp (g ρ h1) fun y h2=>Wp (op x y h2) fun z h3=>Wp (Kb (fun h=>(k ρ h).bind fun w h4=>op' y w h4) z h3) Q:=by unfold Fh;simp only [Aq];rfl
@[simp] theorem ZfX:Wp (Qt f ρ h) Q=Wp (f ρ h) fun x h1=>Wp (Na x h1) Q:=by unfold Qt;rw [Aq]
@[simp] theorem ZfY:Wp (BS f g ρ h) Q=Wp (f ρ h) fun x h1=>Wp (BZ x h1) fun x h1=>Wp (g ρ h1) fun y h2=>Wp (GV x y h2) Q:=by unfold BS;simp only [Aq]
@[simp] theorem ZfZ:Wp (A7 ρ h) QB=QB true h:=rfl
theorem AU {xs:List D} (hn:xs.length≤sizeLine) (q:∀l h',Sm h h'→h'[l]?=some (.lst xs)→l=h.length→h'=h++[.lst xs]→Q (.loc l) h'):Wp (B9 xs h) Q:=by
 unfold B9
 rw [if_pos hn]
 exact q h.length _ (.app _ _) (by simp) rfl rfl
end
section
variable {ρ:Ag} {h:HD} {QI:(List D×AS)→HD→Prop} {f:ME} {fa:MA}
@[simp] theorem Zf0:Wp (By f ρ h) QI=Wp (f ρ h) fun d h1=>Wp (Ft d h1) QI:=by unfold By;rw [Aq]
@[simp] theorem Zf1:Wp (BY fa ρ h) QI=Wp (fa ρ h) fun d h1=>Wp (F6 d h1) QI:=by unfold BY;rw [Aq]
@[simp] theorem Zf2:Wp (Ib fa ρ h) QI=Wp (fa ρ h) fun d h1=>Wp (Ia d h1) QI:=by unfold Ib;rw [Aq]
@[simp] theorem Zf3:Wp (Qs fa ρ h) QI=Wp (fa ρ h) fun d h1=>Wp (Qr d h1) QI:=by unfold Qs;rw [Aq]
theorem ES {n:Nat} (hn:n≤1000):F6 [.int (n:Int)] h=.ok ((List.range n).map fun k=>D.int ((k:Nat):Int),[]) h:=by
 have:(-(2^62):Int)≤(n:Int)∧(n:Int)<2^62:=by omega
 unfold F6
 simp only
 rw [if_pos this]
 simp [Fu]
end
theorem Qz {α:Type} {src:AS} {items:List D} {sg:MG} {t:MT} {f:ME} {ρc:Ag} (φ:α→D) (g:α→Bool) (e:α→D) (ρ1:α→Ag):
 ∀(xs:List α) (h:HD),(∀h',Sm h h'→Bj src items h')→(∀x∈xs,sg (φ x) ρc=some (ρ1 x))→(∀x∈xs,∀h',Sm h h'→Pu (t (ρ1 x) h') h' (g x))→(∀x∈xs,g x=true→∀h',Sm h h'→Pu (f (ρ1 x) h') h' (e x))→
  Pu (Dk src items sg t f ρc (xs.map φ) h) h ((xs.filter g).map e)
 |[],h,hs,_,_,_=>by
  simp only [List.map_nil,List.filter_nil,Dk]
  rw [if_pos (hs h (.refl _))]
  exact .ok
 |x::xs,h,hs,hg,ht,hf=>by
  simp only [BD,Dk]
  rw [if_pos (hs h (.refl _)),hg x A1]
  simp only
  refine Pu.bind (ht x A1 h (.refl _)).noErr fun h1 s1=>?_
  have ih:∀h2,Sm h h2→Pu (Dk src items sg t f ρc (xs.map φ) h2) h2 ((xs.filter g).map e):=fun h2 s2=>Qz φ g e ρ1 xs h2 (fun h' s'=>hs h' (s2.trans s'))
   (fun y hy=>hg y (A5 _ hy)) (fun y hy h' s'=>ht y (A5 _ hy) h' (s2.trans s')) (fun y hy gy h' s'=>hf y (A5 _ hy) gy h' (s2.trans s'))
  cases hgx:g x with
  |false=>
   rw [if_neg Bl,List.filter_cons_of_neg (by simp [hgx])]
   exact ih h1 s1
  |true=>
   rw [if_pos rfl,List.filter_cons_of_pos hgx]
   refine Pu.bind (hf x A1 hgx h1 s1).noErr fun h2 s2=>?_
   exact Pu.bind (ih h2 (s1.trans s2)) fun h3 _=>.ok
theorem Fw {α:Type} {xs:List α}:xs.filter (fun _=>true)=xs:=List.filter_eq_self.mpr fun _ _=>rfl
section
variable {α:Type} {cs:List (Option Nat)} {it:MI} {sg:MG} {t:MT} {f:ME} {ρ:Ag} {h:HD} {src:AS} {xs:List α} {φ:α→D}
theorem EU {Q:D→HD→Prop} (g:α→Bool) (e:α→D) (ρ1:α→Ag) (hi:Wp (it ρ h) fun x h'=>x=(xs.map φ,src)∧Sm h h'∧∀h2,Sm h' h2→Bj src (xs.map φ) h2) (hn:xs.length≤sizeLine)
 (hg:∀x∈xs,sg (φ x) (Cp cs ρ)=some (ρ1 x)) (ht:∀x∈xs,∀h',Sm h h'→Pu (t (ρ1 x) h') h' (g x)) (hf:∀x∈xs,g x=true→∀h',Sm h h'→Pu (f (ρ1 x) h') h' (e x))
 (q:∀l h',Sm h h'→h'[l]?=some (.lst ((xs.filter g).map e))→Q (.loc l) h'):Wp (AI cs it sg t f ρ h) Q:=by
 unfold AI
 rw [Aq]
 refine Wp.mono hi fun x h1 z4_=>?_
 obtain ⟨ex,s1,hs⟩:=z4_
 subst ex
 rw [if_pos (by simpa using hn),Aq]
 refine (Qz φ g e ρ1 xs h1 hs hg (fun x hx h' s'=>ht x hx h' (s1.trans s')) (fun x hx gx h' s'=>hf x hx gx h' (s1.trans s'))).wp fun h2 s2=>?_
 refine AU ?_ fun l h3 s3 e3 _ _=>q l h3 ((s1.trans s2).trans s3) e3
 rw [CC]
 exact BW (Js _ _) hn
theorem QC (g:α→Bool) (e:α→D) (ρ1:α→Ag) (hi:Wp (it ρ h) fun x h'=>x=(xs.map φ,src)∧Sm h h'∧∀h2,Sm h' h2→Bj src (xs.map φ) h2) (hn:xs.length≤sizeLine)
 (hg:∀x∈xs,sg (φ x) (Cp cs ρ)=some (ρ1 x)) (ht:∀x∈xs,∀h',Sm h h'→Pu (t (ρ1 x) h') h' (g x)) (hf:∀x∈xs,g x=true→∀h',Sm h h'→Pu (f (ρ1 x) h') h' (e x)):
 Pu (Ae (Ai Be) (Aa (AI cs it sg t f) Ac) ρ h) h (.tup ((xs.filter g).map e)):=by
 unfold Pu
 rw [GY,GZ]
 refine EU g e ρ1 hi hn hg ht hf fun l h' s' e'=>?_
 rw [F8]
 simp only [Ai,Be,e']
 exact ⟨rfl,s'⟩
theorem Z5 (e:α→D) (ρ1:α→Ag) (hi:Wp (it ρ h) fun x h'=>x=(xs.map φ,src)∧Sm h h'∧∀h2,Sm h' h2→Bj src (xs.map φ) h2) (hn:xs.length≤sizeLine)
 (hg:∀x∈xs,sg (φ x) (Cp cs ρ)=some (ρ1 x)) (hf:∀x∈xs,∀h',Sm h h'→Pu (f (ρ1 x) h') h' (e x)):
 Pu (Ae (Ai Be) (Aa (AI cs it sg A7 f) Ac) ρ h) h (.tup (xs.map e)):=by
 have:=QC (t:=A7) (f:=f) (fun _=>true) e ρ1 hi hn hg (fun x hx h' s'=>(.ok:Pu (.ok true h') h' true)) (fun x hx _ h' s'=>hf x hx h' s')
 rw [Fw] at this
 exact this
theorem F9 {β γ:Type} {f:β→Option γ} {g:β→γ}:∀{xs:List β},(∀x∈xs,f x=some (g x))→AC (xs.map f)=some (xs.map g)
 |[],_=>rfl
 |x::xs,hf=>by
  simp only [BD,hf x A1,AC,F9 (fun y hy=>hf y (A5 _ hy)),FR]
theorem Z6 (b:α→Bool) (ρ1:α→Ag) (hi:Wp (it ρ h) fun x h'=>x=(xs.map φ,src)∧Sm h h'∧∀h2,Sm h' h2→Bj src (xs.map φ) h2) (hn:xs.length≤sizeLine)
 (hg:∀x∈xs,sg (φ x) (Cp cs ρ)=some (ρ1 x)) (hf:∀x∈xs,∀h',Sm h h'→Pu (f (ρ1 x) h') h' (.bl (b x))):
 Pu (Ae (Ai DS) (Aa (AI cs it sg A7 f) Ac) ρ h) h (.bl (xs.all b)):=by
 unfold Pu
 rw [GY,GZ]
 refine EU (fun _=>true) (fun x=>.bl (b x)) ρ1 hi hn hg (fun x hx h' s'=>(.ok:Pu (.ok true h') h' true)) (fun x hx _ h' s'=>hf x hx h' s') fun l h' s' e'=>?_
 rw [F8]
 rw [Fw] at e'
 simp only [Ai,DS,e',DM]
 rw [F9 (f:=GU∘fun x=>D.bl (b x)) (g:=b) (fun x _=>rfl)]
 refine ⟨?_,s'⟩
 simp [List.all_map]
end
def B1 (I:Ag→HD→Prop) (Q:Fl×Ag→HD→Prop):Fl×Ag→HD→Prop
 |(.nx,ρ),h=>I ρ h
 |(.ct,ρ),h=>I ρ h
 |(.bk,ρ),h=>Q (.nx,ρ) h
 |(.rt d,ρ),h=>Q (.rt d,ρ) h
theorem Ke {α:Type} {src:AS} {items:List D} {sg:MG} {body:MS} {Q:Fl×Ag→HD→Prop} (φ:α→D) (I:List α→Ag→HD→Prop) (ho:∀xs ρ h,I xs ρ h→Bj src items h)
 (step:∀x xs ρ h,I (x::xs) ρ h→∃ρ1,sg (φ x) ρ=some ρ1∧Wp (body ρ1 h) (B1 (I xs) Q)) (done:∀ρ h,I [] ρ h→Q (.nx,ρ) h):∀(xs:List α) (ρ:Ag) (h:HD),I xs ρ h→Wp (Ek src items sg body (xs.map φ) ρ h) Q
 |[],ρ,h,i=>by
  simp only [List.map_nil,Ek]
  rw [if_pos (ho _ _ _ i)]
  exact done ρ h i
 |x::xs,ρ,h,i=>by
  simp only [BD,Ek]
  rw [if_pos (ho _ _ _ i)]
  obtain ⟨ρ1,e,w⟩:=step x xs ρ h i
  rw [e]
  simp only
  rw [Aq]
  refine Wp.mono w fun y h' k=>?_
  obtain ⟨fl,ρ2⟩:=y
  cases fl with
  |nx=>exact Ke φ I ho step done xs ρ2 h' k
  |ct=>exact Ke φ I ho step done xs ρ2 h' k
  |bk=>exact k
  |rt d=>exact k
theorem Dw {α:Type} {src:AS} {it:MI} {sg:MG} {body:MS} {Q:Fl×Ag→HD→Prop} {ρ:Ag} {h:HD} {xs:List α} (φ:α→D) (I:List α→Ag→HD→Prop) (hi:Wp (it ρ h) fun x h'=>x=(xs.map φ,src)∧I xs ρ h') (ho:∀ys ρ h,I ys ρ h→Bj src (xs.map φ) h)
 (step:∀x xs ρ h,I (x::xs) ρ h→∃ρ1,sg (φ x) ρ=some ρ1∧Wp (body ρ1 h) (B1 (I xs) Q)) (done:∀ρ h,I [] ρ h→Q (.nx,ρ) h):Wp (BI it sg body ρ h) Q:=by
 unfold BI
 rw [Aq]
 refine Wp.mono hi fun x h1 z5_=>?_
 obtain ⟨e,i⟩:=z5_
 subst e
 exact Ke φ I ho step done xs ρ h1 i
theorem Z7 {α β:Type} {f:α→Option β} {ys:List β}:∀{xs:List α},AC (xs.map f)=some ys→∀{g:α→Option β},(∀x∈xs,∀y,f x=some y→g x=some y)→AC (xs.map g)=some ys:=by
 intro xs
 induction xs generalizing ys with
 |nil=>intro e g _;exact e
 |cons x xs ih=>
  intro e g hg
  simp only [BD] at e ⊢
  cases hx:f x with
  |none=>rw [hx] at e;simp [AC] at e
  |some y=>
   rw [hx] at e
   rw [hg x A1 y hx]
   simp only [AC] at e ⊢
   cases hr:AC (xs.map f) with
   |none=>rw [hr] at e;cases e
   |some zs=>rw [hr] at e;rw [ih hr (fun z hz=>hg z (A5 _ hz))];exact e
theorem Nh {h:HD}:∀{n:Nat} {d:D} {p:PyData},AL [] n d=some p→AL h n d=some p
 |n,.non,p,e=>by simpa [AL] using e
 |n,.bl _,p,e=>by simpa [AL] using e
 |n,.int _,p,e=>by simpa [AL] using e
 |n,.str _,p,e=>by simpa [AL] using e
 |n+1,.tup ds,p,e=>by
  simp only [AL] at e ⊢
  cases hr:AC (ds.map (AL [] n)) with
  |none=>rw [hr] at e;cases e
  |some zs=>rw [hr] at e;rw [Z7 hr (fun x _ y hy=>Nh hy)];exact e
 |0,.tup ds,p,e=>by simp [AL] at e
 |n+1,.loc l,p,e=>by simp [AL] at e
 |0,.loc l,p,e=>by simp [AL] at e
 |n,.scr _,p,e=>by cases n<;>simp [AL] at e
 |n,.adr _,p,e=>by cases n<;>simp [AL] at e
 |n,.ty _,p,e=>by cases n<;>simp [AL] at e
 |n,.exc _ _,p,e=>by cases n<;>simp [AL] at e
 |n,.edic,p,e=>by cases n<;>simp [AL] at e
 |n,.glo _,p,e=>by cases n<;>simp [AL] at e
 |n,.clo _ _ _,p,e=>by cases n<;>simp [AL] at e
def Py (d:D) (p:PyData):Prop:=AL [] 8 d=some p∧SeqAt.shaped p=true
theorem Z8 {x y:D} {p q:PyData} {h:HD} (hx:Py x p) (hy:Py y q):DQ x y h=.ok (.bl (!PyData.eqv p q)) h:=by
 simp only [DQ,F5,Nh hx.1,Nh hy.1]
 rw [if_pos ⟨hx.2,hy.2⟩]
@[simp] theorem sz0:(0≤sizeLine)=True:=eq_true (Dq _)
@[simp] theorem sz1:(1≤sizeLine)=True:=eq_true (by unfold sizeLine;omega)
@[simp] theorem sz2:(2≤sizeLine)=True:=eq_true (by unfold sizeLine;omega)
@[simp] theorem Kf:(3≤sizeLine)=True:=eq_true (by unfold sizeLine;omega)
@[simp] theorem sz4:(4≤sizeLine)=True:=eq_true (by unfold sizeLine;omega)
@[simp] theorem sz5:(5≤sizeLine)=True:=eq_true (by unfold sizeLine;omega)
section
variable {h:HD} {a b c:D} {ds es:List D} {i j:Int} {F1:D→HD→Out D} {F2:D→D→HD→Out D} {F3:D→D→D→HD→Out D}
@[simp] theorem QE:Ai F1 [a] h=F1 a h:=rfl
@[simp] theorem Zf4:Bc F2 [a,b] h=F2 a b h:=rfl
@[simp] theorem Zf5:YX F3 [a,b,c] h=F3 a b c h:=rfl
@[simp] theorem Zf6 {b:Bool}:F0 (.bl b) h=.ok b h:=rfl
@[simp] theorem Zf7 {b:Bool}:Co (.bl b) h=.ok b h:=rfl
@[simp] theorem Zf8:Co .non h=.ok false h:=rfl
@[simp] theorem Zf9:Co (.int i) h=.ok (i != 0) h:=rfl
@[simp] theorem Zga:Co (.tup ds) h=.ok (!ds.isEmpty) h:=rfl
@[simp] theorem Zgb:BA (.int i) (.ty "int") h=.ok (.bl true) h:=rfl
@[simp] theorem Zgc:BA (.int i) (.ty "bool") h=.ok (.bl false) h:=rfl
@[simp] theorem Zgd:BA (.int i) (.ty "tuple") h=.ok (.bl false) h:=rfl
@[simp] theorem Zge:BA (.tup ds) (.ty "tuple") h=.ok (.bl true) h:=rfl
@[simp] theorem Zgf:BA (.tup ds) (.ty "int") h=.ok (.bl false) h:=rfl
@[simp] theorem Zgg:Av (.int i) (.int j) h=.ok (.int (i+j)) h:=rfl
@[simp] theorem QF {f:Int→Int→D}:Fi f (.int i) (.int j) h=.ok (f i j) h:=rfl
@[simp] theorem Zgh {b c:Bool}:Fm (.bl b) (.bl c) h=.ok (.bl (b==c)) h:=rfl
@[simp] theorem Zgi {b c:Bool}:CS (.bl b) (.bl c) h=.ok (.bl (!(b==c))) h:=rfl
@[simp] theorem Zgj:AJ (.tup ds) h=.ok (.int ds.length) h:=rfl
@[simp] theorem Zgk {ns:List Int}:AJ (.scr ns) h=.ok (.int ns.length) h:=by simp [AJ,Bd]
@[simp] theorem Zgl:Ft (.tup ds) h=.ok (ds,[]) h:=rfl
@[simp] theorem Zgm:Be (.tup ds) h=.ok (.tup ds) h:=rfl
@[simp] theorem Zgn:Na (.tup [a,b]) h=.ok (.tup [b,a]) h:=rfl
@[simp] theorem Zgo:HZ (.int i) (.int j) h=.ok (.int (if j>i then j else i)) h:=rfl
@[simp] theorem Zgp:Fp (.int i) (.int j) h=.ok (.int (if j<i then j else i)) h:=rfl
@[simp] theorem Z9 {b:Bool}:Ei (.bl b) h=.ok (.int (if b then 1 else 0)) h:=rfl
@[simp] theorem Zgq:Ei (.int i) h=.ok (.int i) h:=rfl
@[simp] theorem Zgr {ρ:Ag} {k:Nat}:AV k a ρ=some (ρ.set k (some a)):=rfl
@[simp] theorem Zgs {ρ:Ag} {k l:Nat}:BQ k l (.tup [a,b]) ρ=some ((ρ.set k (some a)).set l (some b)):=rfl
@[simp] theorem Zgt {b c:Bool}:HW (.bl b) (.bl c) h=.ok (.bl (b==c)) h:=rfl
@[simp] theorem Zgu {b c:Bool}:DQ (.bl b) (.bl c) h=.ok (.bl (!(b==c))) h:=rfl
@[simp] theorem Zgv:HW (.int i) (.int j) h=.ok (.bl (i==j)) h:=rfl
@[simp] theorem Zgw:DQ (.int i) (.int j) h=.ok (.bl (!(i==j))) h:=rfl
theorem Kg {l:Nat} (e:h[l]?=some (.lst ds)):Be (.loc l) h=.ok (.tup ds) h:=by simp only [Be,e]
theorem CL {l:Nat} (e:h[l]?=some (.lst ds)):BZ (.loc l) h=.ok (.loc l) h:=by simp only [BZ,e]
theorem El {l:Nat} (e:h[l]?=some (.lst ds)) (hn:ds.length<sizeLine):GV (.loc l) a h=.ok .non (h.set l (.lst (ds++[a]))):=by simp only [GV,e];rw [if_pos hn]
theorem ix_tup {k:Nat} (e:ds[k]?=some a):Aj (.tup ds) (.int (k:Nat)) h=.ok a h:=by
 have hk:k<ds.length:=(qa2.mp e).1
 have e1:Ci ds ((k:Nat):Int)=some a:=by
  unfold Ci CF
  rw [if_pos (by omega),if_pos (by omega)]
  simpa using e
 simp only [Aj,Bd,e1]
theorem Ig {n k:Nat} {e:Nat→D} (hk:k<n):Aj (.tup ((List.range n).map e)) (.int (k:Nat)) h=.ok (e k) h:=ix_tup (by simp [Dc,hk])
theorem QG {n:Nat} {e:Nat→D} (hk:0<n):Aj (.tup ((List.range n).map e)) (.int 0) h=.ok (e 0) h:=Ig (k:=0) hk
@[simp] theorem Zgx:Aj (.tup [a,b]) (.int 0) h=.ok a h:=rfl
@[simp] theorem Zgy:Aj (.tup [a,b]) (.int 1) h=.ok b h:=rfl
theorem Zaa {ns:List Int} {k:Nat} (e:ns[k]?=some i):Aj (.scr ns) (.int (k:Nat)) h=.ok (.int i) h:=by
 have hk:k<ns.length:=(qa2.mp e).1
 have e1:Ci (ns.map D.int) ((k:Nat):Int)=some (.int i):=by
  unfold Ci CF
  rw [if_pos (by omega),if_pos (by simpa using hk)]
  simp [e]
 simp only [Aj,Bd,e1]
theorem B2 {l k:Nat} (el:h[l]?=some (.lst ds)) (e:ds[k]?=some a):Aj (.loc l) (.int (k:Nat)) h=.ok a h:=by
 have hk:k<ds.length:=(qa2.mp e).1
 have e1:Ci ds ((k:Nat):Int)=some a:=by
  unfold Ci CF
  rw [if_pos (by omega),if_pos (by omega)]
  simpa using e
 simp only [Aj,Bd,el,e1]
theorem QH {l k:Nat} {ρ:Ag} (el:h[l]?=some (.lst ds)) (hk:k<ds.length):GW (.loc l) (.int (k:Nat)) a h (.ok (.nx,ρ) h)=.ok (.nx,ρ) (h.set l (.lst (ds.set k a))):=by
 have:CF ds.length ((k:Nat):Int)=some k:=by
  unfold CF
  rw [if_pos (by omega),if_pos (by omega)]
  simp
 simp only [GW,el,this]
theorem Zab {neg:Bool} {k:Nat} {ks:List Nat}:Ca neg (.int (k:Nat)) (.tup (ks.map fun i=>.int ((i:Nat):Int))) h=.ok (.bl (if neg then !ks.contains k else ks.contains k)) h:=by
 have e:AC ((ks.map fun i=>D.int ((i:Nat):Int)).map BX)=some (ks.map fun i=>V.int ((i:Nat):Int)):=by
  rw [DM]
  exact F9 (f:=BX∘fun i=>D.int ((i:Nat):Int)) (fun x _=>rfl)
 have e2:EK (V.int ((k:Nat):Int)) (ks.map fun i=>V.int ((i:Nat):Int))=ks.contains k:=by
  unfold EK
  rw [List.any_map,List.contains_eq_any_beq]
  congr 1
  funext i
  change (((i:Nat):Int)==((k:Nat):Int))=_
  rw [qbD]
  simp
  omega
 simp only [Ca,Bd,e,BX,e2]
end
noncomputable def Ih (cs:List (Option Nat)) (it:MI) (sg:MG) (t:MT) (f:ME):ME:=Ae (Ai Be) (Aa (AI cs it sg t f) Ac)
noncomputable def QJ (cs:List (Option Nat)) (it:MI) (sg:MG) (t:MT) (f:ME):ME:=Ae (Ai DS) (Aa (AI cs it sg t f) Ac)
section
variable {α:Type} {cs:List (Option Nat)} {it:MI} {sg:MG} {t:MT} {f:ME} {ρ:Ag} {h:HD} {src:AS} {xs:List α} {φ:α→D}
@[simp] theorem Zgz:Ae (Ai Be) (Aa (AI cs it sg t f) Ac) ρ h=Ih cs it sg t f ρ h:=rfl
@[simp] theorem ZgA:Ae (Ai DS) (Aa (AI cs it sg t f) Ac) ρ h=QJ cs it sg t f ρ h:=rfl
def B3 (o:Out (List D×AS)) (h:HD) (ds:List D) (src:AS):Prop:=Wp o fun x h'=>x=(ds,src)∧Sm h h'∧∀h2,Sm h' h2→Bj src ds h2
theorem QK (g:α→Bool) (e:α→D) (ρ1:α→Ag) (hi:B3 (it ρ h) h (xs.map φ) src) (hg:∀x∈xs,sg (φ x) (Cp cs ρ)=some (ρ1 x)) (ht:∀x∈xs,∀h',Sm h h'→Pu (t (ρ1 x) h') h' (g x)) (hf:∀x∈xs,g x=true→∀h',Sm h h'→Pu (f (ρ1 x) h') h' (e x)) (hn:xs.length≤sizeLine):
 Pu (Ih cs it sg t f ρ h) h (.tup ((xs.filter g).map e)):=QC g e ρ1 hi hn hg ht hf
theorem G0 (e:α→D) (ρ1:α→Ag) (hi:B3 (it ρ h) h (xs.map φ) src) (hg:∀x∈xs,sg (φ x) (Cp cs ρ)=some (ρ1 x)) (hf:∀x∈xs,∀h',Sm h h'→Pu (f (ρ1 x) h') h' (e x)) (hn:xs.length≤sizeLine):
 Pu (Ih cs it sg A7 f ρ h) h (.tup (xs.map e)):=Z5 e ρ1 hi hn hg hf
theorem Ni (b:α→Bool) (ρ1:α→Ag) (hi:B3 (it ρ h) h (xs.map φ) src) (hg:∀x∈xs,sg (φ x) (Cp cs ρ)=some (ρ1 x)) (hf:∀x∈xs,∀h',Sm h h'→Pu (f (ρ1 x) h') h' (.bl (b x))) (hn:xs.length≤sizeLine):
 Pu (QJ cs it sg A7 f ρ h) h (.bl (xs.all b)):=Z6 b ρ1 hi hn hg hf
theorem Ii {ds:List D}:B3 (By (Ab 0) (some (.tup ds)::ρ) h) h ds []:=by
 simp [B3,Sm.refl,Bj]
theorem Zac {ds:List D} {o:Out (List D×AS)} (e:o=.ok (ds,[]) h):B3 o h ds []:=by
 rw [e];simp [B3,Sm.refl,Bj]
end
theorem Zad {α:Type} {xs:List α} {n:α→Int} {h:HD}:Cw (.tup (xs.map fun x=>.int (n x))) h=.ok (.int (xs.map n).sum) h:=by
 simp only [Cw,Bd,DM]
 rw [F9 (f:=EO∘fun x=>D.int (n x)) (g:=n) (fun x _=>rfl)]
section
variable {h:HD} {i j:Int}
theorem Kh (h1:-18446744073709551616<j) (h2:j<18446744073709551616):Dl (.int i) (.int j) h=.ok (.int (i*j)) h:=by
 have:CMl i j:=.inl (.inr ⟨by omega,by omega⟩)
 simp only [Dl];rw [if_pos this]
theorem Ij (h1:-18446744073709551616<i) (h2:i<18446744073709551616):Dl (.int i) (.int j) h=.ok (.int (i*j)) h:=by
 have:CMl i j:=.inl (.inl ⟨by omega,by omega⟩)
 simp only [Dl];rw [if_pos this]
theorem Zae (h1:Builtin.Int.intBits i≤16777216) (h2:Builtin.Int.intBits j≤16777216):Dl (.int i) (.int j) h=.ok (.int (i*j)) h:=by
 have:CMl i j:=.inr ⟨h1,h2⟩
 simp only [Dl];rw [if_pos this]
theorem G1 (h1:0<j):DP (.int i) (.int j) h=.ok (.int (i % j)) h:=by
 simp only [DP,intD];rw [if_pos h1]
theorem QL (h1:0<j) (h2:j<18446744073709551616):EN (.int i) (.int j) h=.ok (.int (i / j)) h:=by
 have:CDv i j:=⟨h1,h2⟩
 simp only [EN,intD];rw [if_pos this]
theorem Zaf (h1:0<j) (h2:j<18446744073709551616):HY (.int i) (.int j) h=.ok (.tup [.int (i / j),.int (i % j)]) h:=by
 have:CDv i j:=⟨h1,h2⟩
 simp only [HY];rw [if_pos this]
end
theorem QM {α:Type} {o:Out α} {Q:α→HD→Prop}:Wp (noErr o) Q=Wp o Q:=by cases o<;>rfl
theorem QN {src:AS} {items:List D} {sg:MG} {t:MT} {f:ME} {ρc:Ag} (φ:Nat→D) (I:HD→Prop) (T:Nat→Bool→Prop) (R:Nat→D→Prop) (ρ1:Nat→Ag) (hs:∀h,I h→Bj src items h):
 ∀(xs:List Nat) (h:HD),xs.Nodup→I h→(∀x∈xs,sg (φ x) ρc=some (ρ1 x))→(∀x∈xs,∀h,I h→Wp (t (ρ1 x) h) fun b h1=>T x b∧if b=true then Wp (f (ρ1 x) h1) (fun y h2=>I h2∧R x y) else I h1)→
  Wp (Dk src items sg t f ρc (xs.map φ) h) fun ys h'=>I h'∧∃(g:Nat→Bool) (e:Nat→D),ys=(xs.filter g).map e∧(∀x∈xs,g x=true→R x (e x))∧∀x∈xs,T x (g x)
 |[],h,_,i,_,_=>by
  simp only [List.map_nil,Dk]
  rw [if_pos (hs h i)]
  exact ⟨i,fun _=>true,fun _=>.non,rfl,by simp,by simp⟩
 |x::xs,h,hd,i,hg,ht=>by
  simp only [BD,Dk]
  rw [if_pos (hs h i),hg x A1]
  simp only
  rw [Aq,QM]
  rw [qbM] at hd
  refine Wp.mono (ht x A1 h i) fun b h1 z1_=>?_
  obtain ⟨tb,w⟩:=z1_
  have ih:∀h2,I h2→_:=fun h2 i2=>QN φ I T R ρ1 hs xs h2 hd.2 i2 (fun y hy=>hg y (A5 _ hy)) (fun y hy=>ht y (A5 _ hy))
  cases b with
  |false=>
   rw [if_neg Bl] at w ⊢
   refine Wp.mono (ih h1 w) ?_
   rintro ys h' ⟨i',g,e,ey,hr,tr⟩
   refine ⟨i',fun y=>if y=x then false else g y,e,?_,?_,?_⟩
   ·rw [List.filter_cons_of_neg (by simp),ey]
    congr 1
    refine List.filter_congr fun y hy=>?_
    rw [if_neg]
    intro z;subst z;exact hd.1 hy
   ·intro y hy gy
    rcases qa4.mp hy with z |z
    ·subst z;simp at gy
    ·refine hr y z ?_
     by_cases hz:y=x
     ·subst hz;exact absurd z hd.1
     ·simpa [hz] using gy
   ·intro y hy
    by_cases hz:y=x
    ·subst hz;simpa using tb
    ·simp only [if_neg hz]
     exact tr y (by rcases qa4.mp hy with z |z;exact absurd z hz;exact z)
  |true=>
   rw [if_pos rfl] at w ⊢
   rw [Aq,QM]
   refine Wp.mono w fun y h2 z3_=>?_
   obtain ⟨i2,ry⟩:=z3_
   rw [Aq]
   refine Wp.mono (ih h2 i2) ?_
   rintro ys h' ⟨i',g,e,ey,hr,tr⟩
   refine ⟨i',fun z=>if z=x then true else g z,fun z=>if z=x then y else e z,?_,?_,?_⟩
   ·rw [List.filter_cons_of_pos (by simp),BD,if_pos rfl,ey]
    congr 1
    rw [show xs.filter (fun z=>if z=x then true else g z)=xs.filter g from List.filter_congr fun z hz=>by
     rw [if_neg]
     intro q;subst q;exact hd.1 hz]
    refine FN fun z hz=>?_
    rw [if_neg]
    intro q;subst q;exact hd.1 (qbV.mp hz).1
   ·intro z hz gz
    by_cases q:z=x
    ·subst q;simpa using ry
    ·rcases qa4.mp hz with w |w
     ·exact absurd w q
     ·simp only [if_neg q] at gz ⊢
      exact hr z w gz
   ·intro z hz
    by_cases q:z=x
    ·subst q;simpa using tb
    ·simp only [if_neg q]
     exact tr z (by rcases qa4.mp hz with w |w;exact absurd w q;exact w)
theorem Zag {cs:List (Option Nat)} {it:MI} {sg:MG} {t:MT} {f:ME} {ρ:Ag} {h:HD} {src:AS} {xs:List Nat} {Q:D→HD→Prop} (φ:Nat→D) (I:HD→Prop) (T:Nat→Bool→Prop) (R:Nat→D→Prop) (ρ1:Nat→Ag) (hi:Wp (it ρ h) fun x h'=>x=(xs.map φ,src)∧I h') (hs:∀h,I h→Bj src (xs.map φ) h)
 (hnew:∀h c,I h→I (h++[c])) (hd:xs.Nodup) (hn:xs.length≤sizeLine) (hg:∀x∈xs,sg (φ x) (Cp cs ρ)=some (ρ1 x)) (ht:∀x∈xs,∀h,I h→Wp (t (ρ1 x) h) fun b h1=>T x b∧if b=true then Wp (f (ρ1 x) h1) (fun y h2=>I h2∧R x y) else I h1)
 (q:∀h' (g:Nat→Bool) (e:Nat→D),I h'→(∀x∈xs,g x=true→R x (e x))→(∀x∈xs,T x (g x))→Q (.tup ((xs.filter g).map e)) h'):Wp (Ih cs it sg t f ρ h) Q:=by
 unfold Ih
 rw [GY,GZ]
 unfold AI
 rw [Aq]
 refine Wp.mono hi fun x h1 z5_=>?_
 obtain ⟨ex,i1⟩:=z5_
 subst ex
 rw [if_pos (by simpa using hn),Aq]
 refine Wp.mono (QN φ I T R ρ1 hs xs h1 hd i1 hg ht) fun ys h2 z6_=>?_
 obtain ⟨i2,g,e,ey,hr,tr⟩:=z6_
 subst ey
 refine AU ?_ fun l h3 s3 e3 _ eh=>?_
 ·rw [CC]
  exact BW (Js _ _) hn
 ·rw [F8]
  simp only [Ai,Be,e3]
  refine q h3 g e ?_ hr tr
  rw [eh]
  exact hnew _ _ i2
theorem QP {α:Type} {g:α→PyData}:∀{xs:List α},(∀x∈xs,(g x).canLay0=true)→PyData.canLayAll0 (xs.map g)=true
 |[],_=>rfl
 |x::xs,hx=>by
  rw [BD,PyData.canLayAll0,hx x A1,QP fun y hy=>hx y (A5 _ hy)];rfl
theorem QR {α:Type} {g:α→PyData} {n:Nat}:∀{xs:List α},(∀x∈xs,(g x).depth≤n)→PyData.depthAll (xs.map g)≤n
 |[],_=>Dq _
 |x::xs,hx=>by
  rw [BD,PyData.depthAll]
  exact Nat.max_le.mpr ⟨hx x A1,QR fun y hy=>hx y (A5 _ hy)⟩
structure PyN (n:Nat) (d:D) (p:PyData):Prop where
 rd:∀k,n≤k→AL [] k d=some p
 ly:p.canLay0=true
 dp:p.depth≤n
theorem PyN.py {n:Nat} {d:D} {p:PyData} (h:PyN n d p) (hn:n≤8):Py d p:=⟨h.rd 8 hn,by
 unfold SeqAt.shaped
 rw [h.ly]
 have:=h.dp
 simp
 omega⟩
theorem Nj {i:Int}:PyN 0 (.int i) (.int i):=⟨fun k _=>by cases k<;>rfl,rfl,AG _⟩
theorem G2 {α:Type} {n:Nat} {xs:List α} {e:α→D} {g:α→PyData} (hx:∀x∈xs,PyN n (e x) (g x)):PyN (n+1) (.tup (xs.map e)) (.tuple (xs.map g)):=by
 refine ⟨fun k hk=>?_,?_,?_⟩
 ·obtain ⟨k,rfl⟩:∃m,k=m+1:=⟨k - 1,by omega⟩
  simp only [AL,DM]
  rw [F9 (f:=AL [] k∘e) (g:=g) (fun x h=>(hx x h).rd k (by omega))]
  rfl
 ·rw [PyData.canLay0];exact QP fun x h=>(hx x h).ly
 ·rw [PyData.depth]
  exact Nat.succ_le_succ (QR fun x h=>(hx x h).dp)
def KD {α:Type}:Sem α→Prop
 |.pure _=>True
 |.raise _=>True
 |.unsupported _=>True
 |.finish _=>True
 |.rule _ k=>KD (k ())
 |.at _ k=>KD (k ())
 |.load _ _ k=>∀o,KD (k o)
 |.update _ _ f k=>(∀o,(f o).dict=o.dict∧(o.isFreed=false→(f o).isFreed=false))∧KD (k ())
 |.loadIfAlive _ k=>∀o,KD (k o)
 |.point _ k=>KD (k ())
 |.register _ _=>True
 |.alloc _ k=>∀a,KD (k a)
 |.fresh k=>∀a,KD (k a)
 |.ask k=>∀a,KD (k a)
 |.choose _ _ k=>∀a,KD (k a)
 |.os _ _ k=>∀a,KD (k a)
 |.call ..=>False
 |.handled _ k=>∀a,KD (k a)
 |.genState _ k=>∀a,KD (k a)
 |.newGen _ k=>∀a,KD (k a)
 |.resume ..=>False
 |.yield ..=>True
 |.stack k=>∀a,KD (k a)
 |.fork ..=>True
 |.thread k=>∀a,KD (k a)
 |.await ..=>True
def Dicts (h h':Heap):Prop:=∀b o,h.get? b=some o→∃o',h'.get? b=some o'∧o'.dict=o.dict
theorem Dicts.refl (h:Heap):Dicts h h:=fun _ o e=>⟨o,e,rfl⟩
theorem Dicts.trans {h h1 h2:Heap} (a:Dicts h h1) (b:Dicts h1 h2):Dicts h h2:=fun c o e=>by
 obtain ⟨o1,e1,d1⟩:=a c o e
 obtain ⟨o2,e2,d2⟩:=b c o1 e1
 exact ⟨o2,e2,d2.trans d1⟩
theorem Zah {α:Type} {M:Model} {Γ:PySem.Ctx} {Q:α→Pos→Shared→Prop} {E:Value→Pos→Shared→Prop}:∀(t:Sem α) (p:Pos) (s:Shared),KD t→Sem.wp M Γ t Q E p s→Sem.wp M Γ t (fun a p s'=>Q a p s'∧Dicts s.heap s'.heap) (fun a p s'=>E a p s'∧Dicts s.heap s'.heap) p s:=by
 have lift:∀(t:Sem α) (p:Pos) (h0:Heap) (s:Shared),Dicts h0 s.heap→Sem.wp M Γ t (fun a p s'=>Q a p s'∧Dicts s.heap s'.heap) (fun a p s'=>E a p s'∧Dicts s.heap s'.heap) p s→Sem.wp M Γ t (fun a p s'=>Q a p s'∧Dicts h0 s'.heap) (fun a p s'=>E a p s'∧Dicts h0 s'.heap) p s:=
  fun t p h0 s d w=>Sem.wp_mono M Γ t (fun a p s' z=>⟨z.1,d.trans z.2⟩) (fun a p s' z=>⟨z.1,d.trans z.2⟩) p s w
 intro t
 induction t with
 |pure a=>exact fun p s _ w=>⟨w,.refl _⟩
 |raise e=>exact fun p s _ w=>⟨w,.refl _⟩
 |unsupported w=>exact fun p s _ w=>w.elim
 |finish w=>exact fun p s _ w=>w.elim
 |rule t k ih=>exact fun p s kd w=>ih () p s kd w
 |«at» t k ih=>exact fun p s kd w=>ih () t s kd w
 |load a x k ih=>exact fun p s kd ⟨o,e,w⟩=>⟨o,e,ih o p s (kd o) w⟩
 |update a x f k ih=>
  refine fun p s kd ⟨e,w⟩=>⟨e,lift _ p s.heap {s with heap:=s.heap.update a f} (fun b o eb=>?_) (ih () p _ kd.2 w)⟩
  by_cases hb:b=a
  ·subst hb
   obtain ⟨d1,d2⟩:=kd.1 o
   exact ⟨f o,Mi f eb (d2 (Heap.get?_some_iff.mp eb).2),d1⟩
  ·exact ⟨o,(Mh s.heap f (Ne.symm hb)).trans eb,rfl⟩
 |alloc o k ih=>exact fun p s kd w=>lift _ p s.heap {s with heap:=s.heap.push o} (fun b ob eb=>⟨ob,AB _ eb,rfl⟩) (ih _ p {s with heap:=s.heap.push o} (kd _) w)
 |loadIfAlive a k ih=>exact fun p s kd w=>ih _ p s (kd _) w
 |point l k ih=>exact fun p s kd w=>ih () p s kd w
 |register a k ih=>exact fun p s kd w=>w.elim
 |fresh k ih=>exact fun p s kd w=>ih _ p {s with toks:=s.toks+1} (kd _) w
 |ask k ih=>exact fun p s kd w=>ih _ p s (kd _) w
 |choose src n k ih=>exact fun p s kd ⟨z,w⟩=>⟨z,ih _ p {s with drawn:=s.drawn.bump src} (kd _) w⟩
 |os q l k ih=>exact fun p s kd w=>ih _ p {s with os:=(Os.step s.os q).1} (kd _) w
 |call c h g l k ih=>exact fun p s kd w=>kd.elim
 |handled o k ih=>exact fun p s kd w=>ih _ p s (kd _) w
 |newGen c k ih=>exact fun p s kd w=>ih _ p {s with gens:=s.gens.push (.fresh c)} (kd _) w
 |genState g k ih=>exact fun p s kd ⟨st,e,w⟩=>⟨st,e,ih _ p s (kd _) w⟩
 |resume g r l k ih=>exact fun p s kd w=>kd.elim
 |yield v g l k ih=>exact fun p s kd w=>w.elim
 |stack k ih=>exact fun p s kd w=>ih _ p s (kd _) w
 |fork c k ih=>exact fun p s kd w=>w.elim
 |thread k ih=>exact fun p s kd w=>ih _ p s (kd _) w
 |await a t b l k ih=>exact fun p s kd w=>w.elim
theorem Ik {α:Type} {M:Model} {A:Around} {t:Sem α} {Q:α→Shared→Prop} {E:Value→Shared→Prop} {s:Shared} (kd:KD t) (h:wpAny M A t Q E s):wpAny M A t (fun a s'=>Q a s'∧Dicts s.heap s'.heap) (fun a s'=>E a s'∧Dicts s.heap s'.heap) s:=
 fun Γ p hΓ=>Zah t p s kd (h Γ p hΓ)
theorem KD.bind {α β:Type} {f:α→Sem β}:∀{t:Sem α},KD t→(∀a,KD (f a))→KD (t >>=f):=by
 intro t
 induction t with
 |pure a=>exact fun _ h=>h a
 |raise e=>exact fun _ _=>True.intro
 |unsupported w=>exact fun _ _=>True.intro
 |finish w=>exact fun _ _=>True.intro
 |rule t k ih=>exact fun kd h=>ih () kd h
 |«at» t k ih=>exact fun kd h=>ih () kd h
 |load a x k ih=>exact fun kd h o=>ih o (kd o) h
 |update a x g k ih=>exact fun kd h=>⟨kd.1,ih () kd.2 h⟩
 |alloc o k ih=>exact fun kd h a=>ih a (kd a) h
 |loadIfAlive a k ih=>exact fun kd h a=>ih a (kd a) h
 |point l k ih=>exact fun kd h=>ih () kd h
 |register a k ih=>exact fun kd h=>True.intro
 |fresh k ih=>exact fun kd h a=>ih a (kd a) h
 |ask k ih=>exact fun kd h a=>ih a (kd a) h
 |choose src n k ih=>exact fun kd h a=>ih a (kd a) h
 |os q l k ih=>exact fun kd h a=>ih a (kd a) h
 |call c h g l k ih=>exact fun kd h=>kd.elim
 |handled o k ih=>exact fun kd h a=>ih a (kd a) h
 |newGen c k ih=>exact fun kd h a=>ih a (kd a) h
 |genState g k ih=>exact fun kd h a=>ih a (kd a) h
 |resume g r l k ih=>exact fun kd h=>kd.elim
 |yield v g l k ih=>exact fun kd h=>True.intro
 |stack k ih=>exact fun kd h a=>ih a (kd a) h
 |fork c k ih=>exact fun kd h=>True.intro
 |thread k ih=>exact fun kd h a=>ih a (kd a) h
 |await a t b l k ih=>exact fun kd h=>True.intro
theorem Fx {α:Type} {c:Prop} [Decidable c] {a b:Sem α} (ha:KD a) (hb:KD b):KD (if c then a else b):=by split<;>assumption
theorem Nk {a:Addr}:KD (load a):=fun _=>True.intro
theorem Zai {f:Array Value→Array Value} (o:Obj):(Obj.mapFields f o).dict=o.dict∧(o.isFreed=false→(Obj.mapFields f o).isFreed=false):=by
 obtain ⟨c,d,dt,sl⟩:=o
 cases dt<;>exact ⟨rfl,fun h=>h⟩
theorem Zaj {v:Value}:KD (fieldsOf v):=by
 unfold fieldsOf
 split
 ·exact KD.bind Nk fun o=>by split<;>exact True.intro
 ·exact True.intro
theorem Ki {v:Value} {i:Nat}:KD (field v i):=by
 unfold field
 exact KD.bind Zaj fun o=>by split<;>exact True.intro
theorem Nl {v x:Value} {i:Nat}:KD (setField v i x):=by
 unfold setField
 split
 ·unfold updateField
  refine KD.bind Nk fun o=>?_
  split
  ·exact Fx ⟨Zai,True.intro⟩ True.intro
  ·exact True.intro
 ·exact True.intro
theorem Nm {v:Value} {o:Option Addr}:KD (setFlight v o):=by
 unfold setFlight
 exact KD.bind Ki fun o=>Fx Nl True.intro
theorem Zak {n:String} {vs:List Value}:KD (newFields n vs):=by
 unfold newFields newObj
 unfold newObjAsIs
 dsimp only
 split
 ·exact True.intro
 ·exact fun a=>True.intro
theorem QT:∀{l:List Env},KD (readyFrames l)
 |[]=>True.intro
 |env::outer=>by
  unfold readyFrames
  split
  ·refine KD.bind Nk fun o=>Fx True.intro (KD.bind ?_ fun b=>KD.bind ?_ fun v=>KD.bind ⟨fun o=>⟨rfl,fun h=>?_⟩,True.intro⟩ fun _=>QT)
   ·unfold behindIsImport
    exact Fx True.intro (Fx True.intro (KD.bind Ki fun _=>True.intro))
   ·unfold keptBack
    split
    ·exact Fx True.intro fun _=>True.intro
    ·exact True.intro
   ·obtain ⟨c,d,dt,sl⟩:=o
    cases dt<;>exact h
  ·exact True.intro
theorem Zal {env:Env}:KD (PySem.frameOf env):=by
 unfold PySem.frameOf
 refine KD.bind (fun _=>True.intro) fun l=>KD.bind ?_ fun o=>?_
 ·unfold frameObject
  split
  ·exact True.intro
  ·exact KD.bind QT fun _=>True.intro
 ·split<;>exact True.intro
theorem Zam {f:Addr} {b:Bool}:KD (entryPlaceOf f b):=by
 unfold entryPlaceOf
 intro l
 show KD (match l.find? _ with |some (_,pos)=>_ |none=>_)
 split<;>exact True.intro
theorem QU {e:Value} {env:Env}:KD (noteFrame e env):=by
 unfold noteFrame
 split
 ·refine KD.bind Ki fun hd=>?_
  have AQ:∀f:Addr,KD (do setField e 1 (←EntryCells.newEntry hd (←PySem.frameOf env) .none (rawInt f) .none (←entryPlaceOf f (hd != .none)))):=fun f=>
   KD.bind Zal fun _=>KD.bind Zam fun _=>KD.bind Zak fun _=>Nl
  refine Fx (KD.bind Ki fun x=>Fx True.intro (KD.bind Nl fun _=>?_)) ?_
  ·exact AQ _
  ·exact AQ _
 ·exact True.intro
theorem QV {e:Value} {env:Env}:KD (leaving env e):=by
 unfold leaving
 exact KD.bind QU fun _=>Nm
open Classical in
noncomputable def blank (p:Addr→Prop) (h:Heap):Heap:=⟨h.objs.mapIdx fun i o=>if p i then {o with data:=.freed} else o,h.life⟩
theorem Ga {p:Addr→Prop} {h:Heap} {b:Addr} (hp:p b):(blank p h).get? b=none:=by
 unfold blank Heap.get?
 simp only [Array.getElem?_mapIdx]
 cases e:h.objs[b]? with
 |none=>rfl
 |some o=>simp [hp]
theorem Gb {p:Addr→Prop} {h:Heap} {b:Addr} (hp:¬p b):(blank p h).get? b=h.get? b:=by
 unfold blank Heap.get?
 simp only [Array.getElem?_mapIdx]
 cases e:h.objs[b]? with
 |none=>rfl
 |some o=>simp [hp]
theorem Nn {p:Addr→Prop} {h:Heap}:(blank p h).StaysIn h:=fun b o e=>by
 by_cases hp:p b
 ·rw [Ga hp] at e;cases e
 ·rw [Gb hp] at e;exact e
inductive Kj (h0 h:Heap) (H:Hp) (a:Addr) (C:Value) (da:Option Addr):Prop where
 |mk (new:h0.get? a=none) (no:H a=none) (oe:Obj) (vs:Array Value) (a0:Value) (T:Addr) (oT:Obj) (ts:Array Value) (e1:h.get? a=some oe) (e2:oe.cls=C∧vs[0]?=some a0) (e3:oe.data=.fields vs) (e4:vs[1]?=some (.ref T)) (e5:h0.get? T=none) (e6:H T=none) (e7:T≠a) (e8:h.get? T=some oT) (e9:oT.data=.fields ts) (e10:ts[3]?=some .none) (e11:oe.dict=da):Kj h0 h H a C da
abbrev Dx (n:Str):Value:=.str n 0
inductive AO (P:Program) (w:World) (K:PySem.W.Frag) (outer:List Env) (H:Hp) (s:Shared) (E:XK) (e:Value) (s':Shared):Prop where
 |mk (a C:Addr) (n:Str) (da:Option Addr) (H':Hp) (ee:e=.ref a) (os:s'.os=s.os) (bare:AllBare s'.gens) (un:Un (frs outer) [] H H' s.heap s'.heap) (hok:HOk P w H' s'.heap) (fly:Kj s.heap s'.heap H' a (.ref C) da) (nm:PySem.W.nsIn K mainGlobals n=some (some (.ref C))) (q:E (Dx n) da H'):AO P w K outer H s E e s'
theorem Kk {h base:Heap} {p:Addr→Prop}:∀{l:List Env},h.FunFrames base l→(∀b∈frs l,p b)→h.FunFrames (blank p h) l
 |[],_,_=>trivial
 |env::rest,⟨k,⟨L,o,hf,_,ho,hd⟩,r⟩,hp=>⟨k,⟨L,o,hf,Ga (hp L (by unfold frs;rw [Gy,hf];exact A1)),ho,hd⟩,
  Kk r fun b hb=>hp b (by
   unfold frs at hb ⊢
   rw [Gy,hf]
   exact A5 _ hb)⟩
theorem Np {P:Program} {w:World} {H:Hp} {h:Heap} {a:Addr} {o:HO} (x:ObjOk P w H h a o):∃ob,h.get? a=some ob:=by
 cases o with
 |lst xs=>obtain ⟨_,_,_,_,e⟩:=x;exact ⟨_,e⟩
 |tup xs=>obtain ⟨_,_,_,⟨_,e,_⟩,_⟩:=x;exact ⟨_,e⟩
 |own y=>exact x
 |ins C dx fs=>obtain ⟨_,_,_,e,_⟩:=x;exact ⟨_,e⟩
 |xd fs=>obtain ⟨_,⟨_,_,_,e,_⟩,_⟩:=x;exact ⟨_,e⟩
 |frz ob u=>obtain ⟨e,_⟩:=x;exact ⟨_,e⟩
 |tbl ps=>exact ⟨_,x⟩
 |ext φ=>exact x.2.1
 |mex φ=>exact x.2.1
 |dct φ=>exact x.2.1
structure Lv (X:Cx) (E:XK):Prop where
 xe:∀e s',wpAny (model X.prog X.w) X.A (leaving X.env e) (fun _ s''=>AO X.prog X.w X.K X.outer X.H₀ X.s₀ E e s'') (fun e' s''=>AO X.prog X.w X.K X.outer X.H₀ X.s₀ E e' s'') s'→X.xe e s'
 stk:X.stack=X.env::X.outer
 fr:X.env.frame=some X.env.locals
 ex:X.ex=[]
theorem Kl {P:Program} {w:World} {K:PySem.W.Frag} {mg:Str→Option Value} {base:Heap} {N:List Str} {qual:Str} {scope:Scope} {f:Addr} {cd:Value} {A:Around} {outer:List Env} {s:Shared} {H:Hp} {E:XK}:Lv (Bx (AO P w K) P w K mg base N qual scope f cd A outer s H E) E:=
 ⟨fun _ _ h=>h,rfl,rfl,rfl⟩
section
variable {X:Cx} {E:XK}
theorem Lv.frs (lv:Lv X E):L2.frs X.stack=X.env.locals::X.fs:=by
 rw [lv.stk];unfold L2.frs;rw [Gy,lv.fr];rfl
theorem QW {pins:List (Addr×Obj)} {σ:L2.St} {H':Hp} {s':Shared} {h':Heap} {a T:Addr} {C:Value} (lv:Lv X E)
 (I:Inv X pins σ H' s')
 (na:X.s₀.heap.get? a=none) (nT:X.s₀.heap.get? T=none) (ha:H' a=none) (hT:H' T=none) {a0:Value}
 (L:Heap.LeftW (blank (fun b=>b=a∨b=T∨b∈frs X.stack) s'.heap) X.stack a C a0 s'.heap h') {da:Option Addr} {oa:Obj} (ea:s'.heap.get? a=some oa) (ed:oa.dict=da) (dd:Dicts s'.heap h'):
 Un X.fs [] X.H₀ H' X.s₀.heap h'∧HOk X.prog X.w H' h'∧Kj X.s₀.heap h' H' a C da:=by
 obtain ⟨stay,ff,⟨oe,vs,T2,oT,ts,e1,e2,e3,e4,e5,e6,e7,e8,e9⟩,ups⟩:=L
 have e11:oe.dict=da:=by
  obtain ⟨o',q1,q2⟩:=dd a oa ea
  rw [e1] at q1
  cases q1
  exact q2.trans ed
 have B:Un X.fs [] X.H₀ H' X.s₀.heap s'.heap:=by have:=I.base;rw [lv.ex] at this;exact this
 have stk:=I.stack
 have frNone:∀b∈frs X.stack,H' b=none:=fun b hb=>I.stkFree b hb
 have keepOf:∀b o,¬(b=a∨b=T∨b∈frs X.stack)→s'.heap.get? b=some o→h'.get? b=some o:=fun b o hb e=>stay b o (by rw [Gb hb];exact e)
 have notL:∀b o,X.s₀.heap.get? b=some o→b∉X.fs→b∉frs X.stack:=fun b o e hb z=>by
  rw [lv.frs] at z
  rcases qa4.mp z with z |z
  ·have:=AA e
   rw [z] at this
   exact absurd (AR this I.ok.above) (CO _)
  ·exact hb z
 have old:∀b o,X.s₀.heap.get? b=some o→b≠a∧b≠T:=fun b o e=>⟨fun z=>(by rw [z,na] at e;cases e),fun z=>(by rw [z,nT] at e;cases e)⟩
 have noFields:∀b,b∈frs X.stack→∃o,s'.heap.get? b=some o∧∀vs,o.data≠.fields vs:=fun b hb=>(stk.mem hb).2
 have any:∀b o,X.s₀.heap.get? b=some o→s'.heap.get? b≠none→∃o',h'.get? b=some o':=fun b o e hn=>by
  cases e':s'.heap.get? b with
  |none=>exact absurd e' hn
  |some o'=>
   by_cases hb:b∈frs X.stack
   ·obtain ⟨o2,h2,d2⟩:=noFields b hb
    obtain ⟨sl,h3⟩:=ups b o2 h2 d2
    exact ⟨_,h3⟩
   ·exact ⟨o',keepOf b o' (fun z=>by rcases z with z |z |z;exact (old b o e).1 z;exact (old b o e).2 z;exact hb z) e'⟩
 refine ⟨⟨fun b o e n hb hx=>?_,fun b o e n hb hx=>?_,B.free,fun b o e hx=>?_,B.tups,B.frzs,B.tbls⟩,fun b o e=>?_,na,ha,oe,vs,a0,T2,oT,ts,e1,e2,e3,e4,?_,?_,e6,e7,e8,e9,e11⟩
 ·exact keepOf b o (fun z=>by rcases z with z |z |z;exact (old b o e).1 z;exact (old b o e).2 z;exact notL b o e hb z) (B.keep b o e n hb hx)
 ·obtain ⟨sl,h1⟩:=B.slot b o e n hb hx
  have hb':b∈frs X.stack:=by rw [lv.frs];exact A5 _ hb
  obtain ⟨o2,h2,d2⟩:=noFields b hb'
  rw [h1] at h2
  cases h2
  obtain ⟨sl2,h3⟩:=ups b _ h1 d2
  exact ⟨sl2,h3⟩
 ·obtain ⟨o',h1⟩:=B.there b o e hx
  exact any b o e (by rw [h1];simp)
 ·refine (I.hok b o e).stay (fun c u hc q=>keepOf c u (fun z=>?_) q) (fun _ q=>q) fun _ _ q=>q
  have hc':H' c≠none:=by
   rcases hc with rfl |hc
   ·rw [e];simp
   ·rw [hc];simp
  rcases z with z |z |z
  ·exact hc' (z ▸ ha)
  ·exact hc' (z ▸ hT)
  ·exact hc' (frNone c z)
 ·cases q:X.s₀.heap.get? T2 with
  |none=>rfl
  |some o=>
   exfalso
   obtain ⟨o',h1⟩:=B.there T2 o q (by simp)
   by_cases hb:T2∈frs X.stack
   ·obtain ⟨o2,h2,d2⟩:=noFields T2 hb
    obtain ⟨sl,h3⟩:=ups T2 o2 h2 d2
    rw [h3] at e7
    cases e7
    exact d2 _ e8
   ·rw [Gb (fun z=>by rcases z with z |z |z;exact (old T2 o q).1 z;exact (old T2 o q).2 z;exact hb z),h1] at e5
    cases e5
 ·cases q:H' T2 with
  |none=>rfl
  |some o=>
   exfalso
   by_cases hb:T2=a∨T2=T∨T2∈frs X.stack
   ·rcases hb with z |z |z
    ·rw [z,ha] at q;cases q
    ·rw [z,hT] at q;cases q
    ·rw [frNone T2 z] at q;cases q
   ·rw [Gb hb] at e5
    obtain ⟨ob,eb⟩:=Np (I.hok T2 o q)
    rw [eb] at e5
    cases e5
theorem Lv.older (lv:Lv X E) {pins:List (Addr×Obj)} {σ:L2.St} {H1:Hp} {s1:Shared} (I:Inv X pins σ H1 s1):∀b,s1.heap.get? b=none→X.s₀.heap.get? b=none:=fun b hb=>by
 cases q:X.s₀.heap.get? b with
 |none=>rfl
 |some o=>
  obtain ⟨o',h1⟩:=I.base.there b o q (by rw [lv.ex];simp)
  rw [hb] at h1;cases h1
theorem Nq (lv:Lv X E):CD (AO X.prog X.w X.K) X E:=by
 rintro pins σ H1 s1 e s' I ⟨a,C,n,da,H',ee,os,bare,un,hok,fly,nm,q⟩
 subst ee
 have I':Inv X pins σ H' s':=I.call' os un hok bare (fun b hb=>absurd hb (by simp))
 obtain ⟨fnew,fno,oe,vs,a0,T,oT,ts,e1,e2,e3,e4,e5,e6,e7,e8,e9,e10,e11⟩:=fly
 have fro:X.A.frames=some (X.env::X.outer):=by rw [←lv.stk];exact I'.ok.frames
 have stk:s'.heap.FunFrames X.base (X.env::X.outer):=by have:=I'.stack;rw [lv.stk] at this;exact this
 have run:=Ik QV (wpAny_leaving_nextW (M:=model X.prog X.w) (E:=fun _ _=>False) (Q:=fun _ s''=>∃h',s''={s' with heap:=h'}∧Heap.LeftW (blank (fun b=>b=a∨b=T∨b∈frs X.stack) s'.heap) (X.env::X.outer) a (.ref C) a0 s'.heap h') (base:=blank (fun b=>b=a∨b=T∨b∈frs X.stack) s'.heap) (cls:=.ref C) (a0:=a0) fro (Kk stk fun b hb=>.inr (.inr (by rw [lv.stk];exact hb))) lv.fr
  ⟨oe,vs,T,oT,ts,e1,e2,e3,e4,Ga (.inr (.inl rfl)),e7,e8,e9,e10⟩ Nn (Ga (.inl rfl)) fun h' L=>⟨h',rfl,L⟩)
 refine lv.xe _ _ (wpAny_mono run (fun _ s'' z=>?_) fun _ _ z=>z.1.elim)
 obtain ⟨⟨h',rfl,L⟩,D⟩:=z
 obtain ⟨u1,u2,u3⟩:=QW lv I' (lv.older I a fnew) (lv.older I T e5) fno e6 (by rw [lv.stk] at *;exact L) e1 e11 D
 exact ⟨a,C,n,da,H',rfl,I'.os,bare,u1,u2,u3,nm,q⟩
theorem Zan (lv:Lv X E) {pins:List (Addr×Obj)} {σ:L2.St} {H1:Hp} {s1:Shared} {a C:Addr} {n:Str} {da:Option Addr} {oe:Obj} {vs:Array Value} {a0:Value} (I':Inv X pins σ H1 s1)
 (e1:s1.heap.get? a=some oe) (ec:oe.cls=.ref C) (e3:oe.data=.fields vs) (v0:vs[0]?=some a0) (v1:vs[1]?=some .none) (ed:oe.dict=da) (new:X.s₀.heap.get? a=none) (fresh:H1 a=none) (nm:PySem.W.nsIn X.K mainGlobals n=some (some (.ref C))) (q:E (Dx n) da H1):X.xe (.ref a) s1:=by
 have fro:X.A.frames=some (X.env::X.outer):=by rw [←lv.stk];exact I'.ok.frames
 have stk:s1.heap.FunFrames X.base (X.env::X.outer):=by have:=I'.stack;rw [lv.stk] at this;exact this
 have run:=Ik QV (wpAny_leaving_firstW (M:=model X.prog X.w) (E:=fun _ _=>False) (Q:=fun _ s''=>∃h',s''={s1 with heap:=h'}∧Heap.LeftW (blank (fun b=>b=a∨b=a∨b∈frs X.stack) s1.heap) (X.env::X.outer) a oe.cls a0 s1.heap h') (base:=blank (fun b=>b=a∨b=a∨b∈frs X.stack) s1.heap) (a0:=a0) fro (Kk stk fun b hb=>.inr (.inr (by rw [lv.stk];exact hb))) lv.fr
  e1 Nn (Ga (.inl rfl)) e3 v1 v0 fun h2 L=>⟨h2,rfl,L⟩)
 refine lv.xe _ _ (wpAny_mono run (fun _ s'' z=>?_) fun _ _ z=>z.1.elim)
 obtain ⟨⟨h',rfl,L⟩,D⟩:=z
 obtain ⟨u1,u2,u3⟩:=QW lv I' new new fresh fresh (by rw [lv.stk] at *;exact L) e1 ed D
 rw [ec] at u3
 exact ⟨a,C,n,da,H1,rfl,I'.os,I'.bare,u1,u2,u3,nm,q⟩
theorem Zao (lv:Lv X E) {pins:List (Addr×Obj)} {σ:L2.St} {H1:Hp} {s1:Shared} {h':Heap} {a C:Addr} {n:Str} {vs:List Value} (I:Inv X pins σ H1 s1)
 (m:Heap.MadeExcOf s1.heap h' a (.ref C) vs) (nm:PySem.W.nsIn X.K mainGlobals n=some (some (.ref C))) (q:E (Dx n) none H1):X.xe (.ref a) {s1 with heap:=h'}:=by
 have I':Inv X pins σ H1 {s1 with heap:=h'}:=I.kept m.keeps
 obtain ⟨t,e1,e2,e3⟩:=m.there
 have fresh:H1 a=none:=by
  cases q:H1 a with
  |none=>rfl
  |some o=>
   obtain ⟨ob,eb⟩:=Np (I.hok a o q)
   rw [m.new] at eb;cases eb
 exact Zan lv I' e1 rfl rfl rfl rfl rfl (lv.older I a m.new) fresh nm q
end
section
variable {P:Program} {w:World} {K:PySem.W.Frag} {mg:Str→Option Value} {base:Heap} {N:List Str} {qual:Str} {scope:Scope} {f:Addr} {cd:Value} {A:Around} {outer:List Env} {s:Shared} {H:Hp} {E:XK}
theorem Il:CD (AO P w K) (Bx (AO P w K) P w K mg base N qual scope f cd A outer s H E) E:=Nq Kl
theorem Zap {pins:List (Addr×Obj)} {σ:L2.St} {H1:Hp} {s1:Shared} {h':Heap} {a C:Addr} {n:Str} {vs:List Value} (I:Inv (Bx (AO P w K) P w K mg base N qual scope f cd A outer s H E) pins σ H1 s1)
 (m:Heap.MadeExcOf s1.heap h' a (.ref C) vs) (nm:PySem.W.nsIn K mainGlobals n=some (some (.ref C))) (q:E (Dx n) none H1):(Bx (AO P w K) P w K mg base N qual scope f cd A outer s H E).xe (.ref a) {s1 with heap:=h'}:=Zao Kl I m nm q
end
inductive QX (h:Heap) (C:Addr) (bmB:List Value) (newId:String):Prop where
 |mk (bm:List Value) (N:Addr) (nm q:Str) (bs:List Value) (hdct:Bool) (sn:List Str) (sub:List Value) (ab:Bool) (col:Option Bool) (dd:Option Addr) (k0 k1 k2 k3 k5:Option Value) (mN:Str→Option Value)
  (hC:h.get? C=some (excClassObj nm q C N bs bm hdct sn sub ab col dd k0 k1 k2 k3 k5 newId)) (hN:h.Ns N mN) (hni:mN "__init__"=none) (T:OwnTail h bmB bm):QX h C bmB newId
def Nr (K:PySem.W.Frag) (C:Addr) (bmB:List Value) (newId:String):Prop:=∀h:Heap,K.In h→QX h C bmB newId
def clsOf:Data→Option ClassData
 |.cls c=>some c
 |_=>none
theorem Zaq {d:Data} {c:ClassData} (h:clsOf d=some c):d=.cls c:=by
 cases d<;>first |(cases h;rfl) |cases h
inductive QY {α:Type} (l:List α):Prop where
 |mk (a b c d e f:α) (q:l=[a,b,c,d,e,f]):QY l
theorem six {α:Type} {l:List α} (h:l.length=6):QY l:=by
 cases l with
 |nil=>cases h
 |cons a l=>cases l with
  |nil=>cases h
  |cons b l=>cases l with
   |nil=>cases h
   |cons c l=>cases l with
    |nil=>cases h
    |cons d l=>cases l with
     |nil=>cases h
     |cons e l=>cases l with
      |nil=>cases h
      |cons f l=>cases l with
       |nil=>exact ⟨a,b,c,d,e,f,rfl⟩
       |cons g l=>cases h
def Km (K:PySem.W.Frag) (C:Addr) (bmB:List Value) (newId:String) (o:Obj) (cd:ClassData):Bool:=
 decide (o.cls=.type "type")&&(decide (cd.mro=.ref C::cd.mro.tail)&&(!cd.hasDel&&(PySem.W.tailIn K bmB cd.mro.tail&&(PySem.W.nsOkIn K cd.ns&&(PySem.W.nsIn K cd.ns "__init__"==some none&&(decide (o.slots.toList.length=6)&&decide (o.slots.toList[4]?=some (some (.builtin newId)))))))))
def Nt (K:PySem.W.Frag) (C:Addr) (bmB:List Value) (newId:String):Bool:=match K.lookup C with
 |some o=>(match clsOf o.data with
  |some cd=>Km K C bmB newId o cd
  |none=>false)
 |none=>false
theorem Zar {K:PySem.W.Frag} {C:Addr} {bmB:List Value} {newId:String} (q:Nt K C bmB newId=true):Nr K C bmB newId:=by
 intro h X
 unfold Nt at q
 cases lk:K.lookup C with
 |none=>rw [lk] at q;cases q
 |some o=>
  rw [lk] at q
  replace q:(match clsOf o.data with |some cd=>Km K C bmB newId o cd |none=>false)=true:=q
  cases ec:clsOf o.data with
  |none=>rw [ec] at q;cases q
  |some cd=>
   rw [ec] at q
   replace q:Km K C bmB newId o cd=true:=q
   unfold Km at q
   simp only [CI,decide_eq_true_eq,Bool.not_eq_true',beq_iff_eq] at q
   obtain ⟨e1,e2,e3,e4,e5,e6,e7,e8⟩:=q
   obtain ⟨cls,od,dt,⟨sl⟩⟩:=o
   obtain ⟨nm,bs,mro,ns,qn,hd,sn,sub,ab,col,del⟩:=cd
   replace ec:=Zaq ec
   simp only at ec e1 e2 e3 e4 e5 e6 e7 e8
   obtain ⟨k0,k1,k2,k3,k4,k5,rfl⟩:=six e7
   cases mro with
   |nil=>cases e2
   |cons c bm=>
    cases e2
    cases Option.some.inj e8
    subst ec e1 e3
    exact ⟨_,_,_,_,_,_,_,_,_,_,_,_,_,_,_,_,h.nsMap ns,X _ _ lk,.of_isNs (PySem.W.isNs_of_in X e5),PySem.W.nsMap_none_of_in X e5 e6,PySem.W.tail_of_in X e4⟩
abbrev Im:List Value:=[.type "ValueError",.type "Exception",.type "BaseException",.type "object"]
def Nu (X:Cx) (E:XK):Prop:=∀(pins:List (Addr×Obj)) (σ:L2.St) (H1:Hp) (s1:Shared) (h':Heap) (a C:Addr) (n:Str) (vs:List Value),Inv X pins σ H1 s1→Heap.MadeExcOf s1.heap h' a (.ref C) vs→PySem.W.nsIn X.K mainGlobals n=some (some (.ref C))→E (Dx n) none H1→X.xe (.ref a) {s1 with heap:=h'}
theorem Zas {P:Program} {w:World} {K:PySem.W.Frag} {mg:Str→Option Value} {base:Heap} {N:List Str} {qual:Str} {scope:Scope} {f:Addr} {cd:Value} {A:Around} {outer:List Env} {s:Shared} {H:Hp} {E:XK}:
 Nu (Bx (AO P w K) P w K mg base N qual scope f cd A outer s H E) E:=fun pins σ H1 s1 h' a C n vs I m nm q=>Zap I m nm q
section
variable {X:Cx} {E:XK}
def Fy (n:Str) (fa:MA):MS:=fun ρ h=>(fa ρ h).bind fun xs h1=>if xs.length≤sizeLine then .err (Dx n) [] h1 else .stuck
theorem Zat {x:Str} {C:Addr} {e:Expr} {es:List Expr} {fa:MA} {np cpos pos:Pos} (O:Nr X.K C Im "ValueError.__new__") (nmC:PySem.W.nsIn X.K mainGlobals x=some (some (.ref C))) (hg:Gl X x) (hc:X.calm=true) (th:Nu X E) (ha:Cj X E (e::es) fa)
 (hdb:(x==("__debug__":Str))=false:=by decide) (he:starEach (e::es) X.env=(false,eval e X.env)::starEach es X.env:=by rfl) (hpl:(backTo cpos (starEach (e::es) X.env)).any (·.1)=false:=by rfl):
 Ex X E (.Raise (some (.Call (.Name x np) (e::es) [] cpos)) none pos) (Fy x fa):=by
 rintro pins s σ H D I ⟨m,ρ,h,hr,er,p⟩
 have hm:X.mg x=some (.ref C):=PySem.W.mg_of I.mod.kin I.mod.glob nmC
 obtain ⟨bm,NN,nm,q,bs,hdct,sn,sub,ab,col,dd,k0,k1,k2,k3,k5,mN,hC,hN,hni,T⟩:=O X.base I.mod.kin
 refine wpAny_Raise_call_subT (C:=C) (nm:=nm) (q:=q) (N:=NN) (bs:=bs) (bm:=bm) (hdct:=hdct) (sn:=sn) (sub:=sub) (ab:=ab) (col:=col) (dd:=dd) (k0:=k0) (k1:=k1) (k2:=k2) (k3:=k3) (k5:=k5)
  PySem.F.excBase_ValueError (mN:=mN) (T.hasType PySem.F.excBase_ValueError.hasBase) (I.ok.hd hc) hpl hni (Fc I hg hm ⟨rfl,?_⟩ hdb)
 have hh:=ha cpos pins s σ H (fun vs H1=>vs.length≤sizeLine∧E (Dx x) none H1) I ⟨m,ρ,h,hr,er,PostS.bind p fun xs h1 vs m1 H1 _ p1 k1 hr1 r1 q1=>by
  split at q1
  ·rename_i hz
   exact ⟨by rw [←DVs.len r1];exact hz,q1 none m1 H1 (Az _) (.refl _) hr1 (fun f d z=>by cases z)⟩
  ·exact q1.elim⟩
 rw [he] at hh ⊢
 exact Calls.evalArgs_plain (Ap hh fun us s1 z1_=>by obtain ⟨vs,H1,I1,r,hl,q1⟩:=z1_;exact (⟨rfl,by rw [←r.length];exact hl,I1.bk _ _ hC,hN.keeps I1.bk,T.keeps I1.bk,fun h' a z=>th pins σ H1 s1 h' a C x us I1 z nmC q1⟩))
inductive Dy (K:PySem.W.Frag) (F:List D→HD→Out D) (vs:List V) (H:Hp) (Q:VK) (E:XK):Prop where
 |mk (m:List Addr) (ds:List D) (h:HD) (hr:HR K m h H) (r:DVs K m H ds vs) (p:Post K (rD K) m H E Q (F ds h)):Dy K F vs H Q E
theorem Io {P:Program} {w:World} {K:PySem.W.Frag} {X:Cx}:CD (AO P w K) X E0:=fun _ _ _ _ _ _ _ z2_=>by obtain ⟨_,_,_,_,_,_,_,_,_,_,_,_,q⟩:=z2_;exact (q.elim)
theorem Kn {K:PySem.W.Frag} {n:Nat} {F:List D→HD→Out D} (ar:Ar n F) {vs:List V} {H:Hp} {Q:VK} {E':XK} (h:Dy K F vs H Q E'):vs.length=n:=by
 obtain ⟨m,ds,hd,hr,r,p⟩:=h
 rw [←r.len]
 by_cases e:ds.length=n
 ·exact e
 ·rw [ar ds hd e] at p;exact p.elim
structure CaE (P:Program) (w:World) (K:PySem.W.Frag) (mg:Str→Option Value) (base:Heap) (x:Str) (k:Nat) (F:List D→HD→Out D):Prop where
 ex:∃(f:Addr) (fd:FuncData) (ps:List Str),FnOk P w K mg base (AO P w K) k f fd ps (Dy K F)∧Binds K fd ps []∧mg x=some (.ref f)∧PySem.W.keepIn K (.ref f)=true
theorem Zau {k k':Nat} {F:List D→HD→Out D} {fa:MA} {x:Str} {p pos:Pos} {e:Expr} {es:List Expr} (C:CaE X.prog X.w X.K X.mg X.base x k F) (hr:Room k' X.A) (hx:CD (AO X.prog X.w X.K) X E) (ha:Cj X E (e::es) fa) (hk:k≤k':=by decide) (hg:Gl X x:=by rfl)
 (hdb:(x==("__debug__":Str))=false:=by decide) (he:starEach (e::es) X.env=(false,eval e X.env)::starEach es X.env:=by rfl) (hpl:(backTo pos (starEach es X.env)).any (·.1)=false:=by rfl):
 Ev X E (.Call (.Name x p) (e::es) [] pos) (Ae F fa):=by
 obtain ⟨f,fd,ps,G,hb,hm,hkp⟩:=C.ex
 exact BH (XI (E:=E) G (hr.mono hk) hg hm hkp hb .nil hx ha hdb he hpl) fun σ H Q z3_=>by obtain ⟨m,ρ,hd,hr,er,p⟩:=z3_;exact (⟨m,ρ,hd,hr,er,Post.bind p fun xs h1 vs m1 H1 e1 p1 k1 hr1 r1 q1=>by
  rw [D9]
  exact ⟨m1,xs,h1,hr1,r1,q1⟩⟩)
theorem Nv {P:Program} {w:World} {K:PySem.W.Frag} {mg:Str→Option Value} {base:Heap} {x qual:Str} {st:Stmt} {f:Addr} {fd:FuncData} {N ps:List Str} {k:Nat} {F:List D→HD→Out D} {g:MS} (Fn:Fun K x qual st f fd) (S:CQ N ps (defScope st)) (ar:Ar ps.length F)
 (hg:∀ds h,ds.length=ps.length→F ds h=As N.length g ds h)
 (hbody:∀(cdv:Value) (A:Around) (outer:List Env) (s:Shared) (H:Hp) (E:XK),Room k (A.deeper (envOfC qual (defScope st) s.heap.objs.size f cdv))→Cn (Bx (AO P w K) P w K mg base N qual (defScope st) f cdv A outer s H E) E (defBody st) g):FnOk P w K mg base (AO P w K) (k+1) f fd ps (Dy K F):=by
 obtain ⟨oc,od,kV,doc,pm,an,cdv,ct,osl,rfl,lk,hcd⟩:=Fn.ex
 refine Pv lk hcd S (fun vs H Q E h=>Kn ar h) fun A outer s H vs Q E hr h=>?_
 refine ⟨_,hbody cdv A outer s H E hr,?_⟩
 have hl:=Kn ar h
 obtain ⟨m,ds,hd,hr1,r,p⟩:=h
 have hld:ds.length=ps.length:=by rw [r.len];exact hl
 refine ⟨m,ds.map some++List.replicate (N.length - ds.length) none,hd,hr1,ER.start r,?_⟩
 rw [hg ds hd hld] at p
 unfold As at p
 cases o:g (ds.map some++List.replicate (N.length - ds.length) none) hd with
 |stuck=>rw [o] at p;exact p
 |err C fs h1=>rw [o] at p;exact p
 |ok a h1=>
  rw [o] at p
  obtain ⟨fl,ρ1⟩:=a
  intro m1 H1 p1 k1 hr1
  cases fl with
  |nx=>exact fun σ er=>p .non m1 H1 p1 k1 hr1 (by simp [rD,DV])
  |bk=>exact False.elim p
  |ct=>exact False.elim p
  |rt d=>exact fun v rv=>p v m1 H1 p1 k1 hr1 rv
end
theorem QZ {P:Program} {w:World} {K:PySem.W.Frag} {mg:Str→Option Value} {base:Heap} {N:List Str} {qual:Str} {scope:Scope} {f:Addr} {cd:Value} {A:Around} {outer:List Env} {s:Shared} {H:Hp} {E:XK}:
 PassesOwn (model P w) (Bx (AO P w K) P w K mg base N qual scope f cd A outer s H E).A (Bx (AO P w K) P w K mg base N qual scope f cd A outer s H E).env (Bx (AO P w K) P w K mg base N qual scope f cd A outer s H E).xe:=by
 passes_own
section
variable {X:Cx} {E:XK}
abbrev MO:=Ag→HD→Out (Option Int)
abbrev Ko (X:Cx) (E:XK) (e:Option Expr) (f:MO):Prop:=PO X e (tM X.K (fun _ _ a b=>a=b) E f)
def Cq:MO:=fun _ h=>.ok none h
def Cb (f:ME):MO:=fun ρ h=>(f ρ h).bind fun x h1=>match x with
 |.int i=>.ok (some i) h1
 |_=>.stuck
theorem Q0 {e:Option Expr} {t t':TO} (h:PO X e t) (i:∀σ H Q,t' σ H Q→t σ H Q):PO X e t':=fun pins s σ H Q I q=>h pins s σ H Q I (i σ H Q q)
theorem Zav:Ko X E none Cq:=Q0 X0 fun σ H Q z1_=>by obtain ⟨m,ρ,h,hr,er,p⟩:=z1_;exact (p none m H (Az _) (.refl _) hr rfl)
theorem Zaw {e:Expr} {f:ME} (he:Ev X E e f):Ko X E (some e) (Cb f):=Q0 (X1 he) fun σ H Q z2_=>by obtain ⟨m,ρ,h,hr,er,p⟩:=z2_;exact (⟨m,ρ,h,hr,er,Post.bind p fun x h1 v m1 H1 eo p1 k1 hr1 r1 q1=>by
 clear eo
 split at q1
 ·rename_i i
  simp only [rD,DV] at r1
  exact ⟨i,r1,q1 (some i) m1 H1 (Az _) (.refl _) hr1 rfl⟩
 ·exact q1.elim⟩)
def Fz (xs:List D) (lo hi:Option Int):List D:=(xs.drop (HT.sIx xs.length 0 lo)).take (HT.sIx xs.length xs.length hi - HT.sIx xs.length 0 lo)
def Q1 (x:D) (lo hi:Option Int) (h:HD):Out D:=match x with
 |.tup xs=>if HT.sIx xs.length 0 lo=0∧HT.sIx xs.length xs.length hi=xs.length then .stuck else .ok (.tup (Fz xs lo hi)) h
 |_=>.stuck
def Q2 (f:ME) (lo hi:MO):ME:=fun ρ h=>(f ρ h).bind fun x h1=>(lo ρ h1).bind fun l h2=>(hi ρ h2).bind fun u h3=>Q1 x l u h3
theorem DVs.cut {K:PySem.W.Frag} {m:List Addr} {H:Hp} {ds:List D} {vs:List V} (r:DVs K m H ds vs) (lo hi:Option Int):DVs K m H (Fz ds lo hi) (GH vs lo hi):=by
 unfold Fz GH
 rw [r.len]
 exact (r.drop _).take _
def Q3 (o i x y:D) (ρ:Ag) (h:HD):Out (Fl×Ag):=match x,y with
 |.int a,.int b=>GW o i (.int (a+b)) h (.ok (.nx,ρ) h)
 |_,_=>.stuck
def Q4 (o i:D) (h:HD):Out D:=match o,i with
 |.loc l,.int n=>if 0≤n then (match h[l]? with
  |some (.lst ds)=>(match ds[n.toNat]? with
   |some d=>.ok d h
   |none=>.stuck)
  |_=>.stuck) else .stuck
 |_,_=>.stuck
def Q5 (fo fi fv:ME):MS:=fun ρ h=>(fo ρ h).bind fun o h1=>(fi ρ h1).bind fun i h2=>(Q4 o i h2).bind fun x h3=>(fv ρ h3).bind fun y h4=>Q3 o i x y ρ h4
end
theorem vals_ints:∀{ns:List Int} {its:List Value},Vals (ns.map V.int) its→∃ys:List (Int×Tok),its=ys.map (fun p=>Value.int p.1 p.2)∧ys.map (·.1)=ns
 |[],its,r=>by cases r;exact ⟨[],rfl,rfl⟩
 |n::ns,its,r=>by
  cases r with
  |cons r1 r2=>
   obtain ⟨t,rfl⟩:=r1
   obtain ⟨ys,rfl,e⟩:=vals_ints r2
   exact ⟨(n,t)::ys,rfl,by simp [e]⟩
section
variable {X:Cx}
theorem Zax (hc:X.calm=true):Dg X (.builtin "min") (fun xs H Q=>∃(p:Addr) (ns:List Int),xs=[.ref p]∧SqL X.K H p (ns.map V.int)∧ns≠[]∧∀M,M∈ns→(∀a∈ns,M≤a)→Q (.int M) H):=by
 intro pins s σ H xs us Q I r h
 obtain ⟨p,ns,rfl,hs,hne,q⟩:=h
 obtain ⟨u,rfl,rx⟩:=Ef r
 cases rx
 obtain ⟨its,rv,pl,hz⟩:=I.list hs
 obtain ⟨ys,rfl,en⟩:=vals_ints rv
 have hlen:ys.length=ns.length:=by rw [←en];simp
 have hpos:0<ys.length:=by rw [hlen];exact List.length_pos_iff.mpr hne
 have hl:s.heap.IsList p (intItems ys.toArray):=by
  have:=pl.isList
  simpa [intItems] using this
 refine min_intList (I.ok.hd hc) hl (by simpa using hpos) fun v h' tk hv hk=>?_
 obtain ⟨t,rfl⟩:=intItems_at hv
 obtain ⟨h1,h2⟩:=argBest_lt (numAt ys.toArray) (ys.toArray.size - 1)
 have hsz:ys.toArray.size=ys.length:=by simp
 have at':∀j,j<ys.length→numAt ys.toArray j∈ns:=fun j hj=>by
  rw [numAt_eq]
  simp only [D0]
  rw [←en,A2 (by simpa using hj)]
  simp only [Option.getD_some]
  exact GE _
 refine ⟨.int (numAt ys.toArray (argBest _ (ys.toArray.size - 1))),H,I.kept hk,⟨t,rfl⟩,q _ (at' _ (by omega)) fun a ha=>?_⟩
 rw [←en] at ha
 obtain ⟨j,hj,rfl⟩:=Gz ha
 have hj':j<ys.length:=by simpa using hj
 have:=h2 j (by omega)
 rw [numAt_eq ys.toArray j] at this
 simpa [D0,A2 hj'] using this
def EV:List Int→Int
 |[]=>0
 |n::ns=>ns.foldl min n
theorem Nw:∀(ns:List Int) (n:Int),(ns.foldl min n∈n::ns)∧∀a∈n::ns,ns.foldl min n≤a
 |[],n=>by simp
 |m::ns,n=>by
  obtain ⟨h1,h2⟩:=Nw ns (min n m)
  rw [List.foldl_cons]
  refine ⟨?_,fun a ha=>?_⟩
  ·rcases qa4.mp h1 with z |z
   ·rw [z]
    rcases Int.le_total n m with q |q
    ·rw [Int.min_eq_left q];simp
    ·rw [Int.min_eq_right q];simp
   ·exact A5 _ (A5 _ z)
  ·have h0:=h2 (min n m) A1
   rcases qa4.mp ha with z |z
   ·subst z;omega
   ·rcases qa4.mp z with z |z
    ·subst z;omega
    ·exact h2 a (A5 _ z)
theorem Nx {ns:List Int} (h:ns≠[]):EV ns∈ns:=by
 cases ns with
 |nil=>exact absurd rfl h
 |cons n ns=>exact (Nw ns n).1
theorem Ny {ns:List Int} {a:Int} (h:a∈ns):EV ns≤a:=by
 cases ns with
 |nil=>cases h
 |cons n ns=>exact (Nw ns n).2 a h
def EW (f:List Int→Int):D→HD→Out D:=fun x h=>match x with
 |.loc l=>match h[l]? with
  |some (.lst ds)=>match AC (ds.map EO) with
   |some ns=>if ns=[] then .stuck else .ok (.int (f ns)) h
   |none=>.stuck
  |_=>.stuck
 |_=>.stuck
theorem Zay (hc:X.calm=true):CJ X (.builtin "min") (Ai (EW EV)):=by
 refine ⟨_,Zax hc,fun m H h E ds vs Q hr r q=>Fo r q fun d v ev rv q=>?_⟩
 unfold EW at q
 split at q
 ·rename_i l
  split at q
  ·rename_i ds el
   split at q
   ·rename_i ns en
    split at q
    ·exact q.elim
    ·rename_i hne
     simp only [DV] at rv
     obtain ⟨a,rfl,ha⟩:=rv
     obtain ⟨ws,hv,dv⟩:=hr.cells l _ a el ha
     have ew:=M8 dv en
     subst ew
     refine ⟨a,ns,ev,SqL.of hv,hne,fun M h1 h2=>?_⟩
     have:M=EV ns:=Int.le_antisymm (h2 _ (Nx hne)) (Ny h1)
     subst this
     exact A3 hr q (by simp [DV])
   ·exact q.elim
  ·exact q.elim
 ·exact q.elim
end
def Q6 (K:PySem.W.Frag) (t:Addr):It:=⟨fun i H=>∃xs,SqL K H t xs∧i<xs.length,fun i H x H'=>∃p v,H p=none∧x=.ref p∧(∀xs:List V,SqL K H t xs→xs[i]?=some v)∧H'=Ak H p (.tup [.int i,v]),fun i H=>∃xs,SqL K H t xs∧i=xs.length⟩
theorem Zaz {P:Program} {w:World} {K:PySem.W.Frag} {elts:List Expr} {kt:Nat} {tpos:Pos} (e it t:Addr) (hei:e≠it) (hte:t≠e) (hti:t≠it):
 FX P w K (.Tuple elts kt tpos) (Q6 K t) [e,it] e (fun i h=>(∃old,IsEnum h e it i old)∧h.IsListIter it t i) where
 mem:=by simp
 obj:=fun i h st b hb=>by
  obtain ⟨⟨old,h1⟩,o,h2,hc,hd⟩:=st
  rcases qa4.mp hb with z |z
  ·subst z;exact ⟨_,h1,fun v z=>by cases z⟩
  ·rw [qaH] at z
   subst z
   exact ⟨o,h2,fun v z=>by rw [hd] at z;cases z⟩
 keep:=fun i h h' st k=>by
  obtain ⟨⟨old,h1⟩,h2⟩:=st
  exact ⟨⟨old,k e (by simp) _ h1⟩,h2.at fun o z=>k it (by simp) o z⟩
 item:=by
  intro X hP hw hK hc i pins s σ H E I hf st hg
  subst hP hw hK
  obtain ⟨⟨old,he⟩,hit⟩:=st
  obtain ⟨xs,hq,hi⟩:=hg
  obtain ⟨its,rv,p,hz⟩:=I.list hq
  have hT:s.heap.IsList t its.toArray:=p.isList
  have hl:=rv.length
  obtain ⟨e0,e1,e2,e3,e4,e5⟩:=hf e (by simp)
  obtain ⟨i0,i1,i2,i3,i4,i5⟩:=hf it (by simp)
  have hx:xs[i]?=some xs[i]:=A2 hi
  refine wpAny_pyNext_enum_itemD (Draws.list (A:=X.A.in1) (I.ok.hd hc) it t hti its.toArray) he ⟨hit,hT⟩ (by rw [AW];omega) hei (by simp [hei,Ne.symm hte]) fun x h1 tk hPx ho hs1 hTup hsz hk=>?_
  obtain ⟨u,hu,ru⟩:=rv.get hx
  have hux:u=x:=by
   have:its[i]?=some x:=by simpa using hPx
   rw [hu] at this
   exact Option.some.inj this
  subst hux
  refine ⟨.ref s.heap.objs.size,rfl,wpAny_letOwnedTupleGo_enum ho fun h2 he2 sb=>?_⟩
  have hfr:H s.heap.objs.size=none:=I.hok.fresh (AG _)
  have kk:∀b o,b∉[e,it]→s.heap.get? b=some o→h2.get? b=some o:=fun b o hb z=>by
   have n1:b≠e:=fun q=>hb (by simp [q])
   have n2:b≠it:=fun q=>hb (by simp [q])
   exact (sb.2 b n1).trans (hk b o n1 n2 z)
  have na:s.heap.objs.size≠e:=Fv (AA he)
  have hnew:h2.get? s.heap.objs.size=some {cls:=.type "tuple",data:=.seq #[.int i tk,u]}:=(sb.2 _ na).trans hTup
  have ntr:∀b w,H b=some w→b∉[e,it]:=fun b w z hb=>by
   rcases qa4.mp hb with q |q
   ·rw [q,e0] at z;cases z
   ·rw [qaH.mp q,i0] at z;cases z
  have nal:∀b o,s.heap.get? b=some o→b≠s.heap.objs.size:=fun b o z=>BK (AA z)
  have it2:h2.IsListIter it t (i+1):=by
   obtain ⟨o,q,r⟩:=hs1.1
   exact ⟨o,(sb.2 it (Ne.symm hei)).trans q,r⟩
  refine ⟨.ref s.heap.objs.size,Ak H s.heap.objs.size (.tup [.int i,xs[i]]),?_,rfl,⟨s.heap.objs.size,xs[i],hfr,rfl,fun ys hy=>by rw [I.list_inj hy hq];exact hx,rfl⟩,⟨⟨u,he2⟩,it2⟩,fun b hb=>?_⟩
  ·show Inv X pins σ _ {s with heap:=h2,gens:=s.gens,drawn:=s.drawn,toks:=tk+1}
   refine I.step (g':=s.gens) (d':=s.drawn) (t':=tk+1) (h':=h2) (ch:=[e,it]) (fun b hb=>?_) (fun b o _ _ hc z _=>kk b o hc z) (fun b o _ _ hc z _=>⟨o.slots,kk b o hc z⟩) (fun b o _ z n=>by rw [Ao (nal b o z)];exact n)
    (fun b o hc z=>⟨o,kk b o hc z⟩) (fun b ys z=>by rw [Ao (Bw z hfr)];exact z) (fun b o u z=>by rw [Ao (Bw z hfr)];exact z) (fun b ps z=>⟨#[],by rw [Ao (Bw z hfr),z];simp⟩) (fun m hm=>?_) (fun b w z=>?_) I.bare
   ·rcases qa4.mp hb with q |q
    ·subst q;exact ⟨e3,e1,e4,e5⟩
    ·rw [qaH] at q;subst q;exact ⟨i3,i1,i4,i5⟩
   ·obtain ⟨o,es,ep,q,r⟩:=hm
    exact ⟨o,es,ep,kk _ o (by simp [Ne.symm e1,Ne.symm i1]) q,r⟩
   ·by_cases hb:b=s.heap.objs.size
    ·subst hb
     rw [BN] at z
     cases z
     exact ⟨by simp only [D7,HC];rw [sizeLine_eq];decide,[.int i tk,u],.cons ⟨tk,rfl⟩ (.cons ru .nil),⟨_,hnew,rfl,0,rfl⟩,fun o e=>by rw [hnew] at e;cases e;rfl⟩
    ·rw [Ao hb] at z
     refine (I.hok b w z).stay (fun c v hc q=>kk c v ?_ q) (fun c q=>by rw [Ao (Bw q hfr)];exact q) fun c ys q=>by rw [Ao (Bw q hfr)];exact q
     rcases hc with rfl |hc
     ·exact ntr c _ z
     ·exact ntr c _ hc
  ·have nb:b≠s.heap.objs.size:=by
    rcases qa4.mp hb with q |q
    ·rw [q];exact na.symm
    ·rw [qaH.mp q]
     obtain ⟨o,z,_⟩:=hit
     exact nal _ _ z
   rw [Ao nb]
   exact (hf b hb).1
 done:=by
  intro X hP hw hK hc i pins s σ H E I hf st hg
  subst hP hw hK
  obtain ⟨⟨old,he⟩,hit⟩:=st
  obtain ⟨xs,hq,hi⟩:=hg
  obtain ⟨its,rv,p,hz⟩:=I.list hq
  have hT:s.heap.IsList t its.toArray:=p.isList
  have hl:=rv.length
  obtain ⟨i0,i1,i2,i3,i4,i5⟩:=hf it (by simp)
  have hin:i=its.toArray.size:=by rw [AW];omega
  refine wpAny_pyNext_enum_endD (Draws.list (A:=X.A.in1) (I.ok.hd hc) it t hti its.toArray) he (hin ▸ ⟨hit,hT⟩) fun h' eb=>⟨rfl,I.turned (t':=s.toks) (fun b o hb z=>eb b o hb z) i0 i1 i3 i4 i5⟩
 self:=fun A i s Q E st h=>by
  obtain ⟨⟨old,he⟩,_⟩:=st
  exact wpAny_pyIter_enum he h
section
variable {X:Cx} {E:XK}
theorem ZaA {elts:List Expr} {kt:Nat} {tpos p pos:Pos} {a:Expr} {ta:TA} (hg:Gl X "enumerate") (hm:X.mg "enumerate"=none) (ha:PA X [a] ta) (hs:starEach [a] X.env=[(false,eval a X.env)]:=by rfl):
 PI X (.Tuple elts kt tpos) (.Call (.Name "enumerate" p) [a] [] pos) (fun σ H R=>ta σ H fun vs H1=>(∃t xs,vs=[.ref t]∧SqT X.K H1 t xs∧R (Qq X.K t xs) H1)∨∃t xs,vs=[.ref t]∧SqL X.K H1 t xs∧R (Q6 X.K t) H1):=by
 intro pins s σ H R I h
 refine Call_ (FW I hg hm boot_enumerate (PyProof.Rows.callWith_type1 (Ap (ha pos pins s σ H _ I h) fun us s1 z1_=>?_) hs rfl))
 obtain ⟨vs,H1,I1,r1,q1⟩:=z1_
 rcases q1 with ⟨t,xs,e,hq,q⟩ |⟨t,xs,e,hq,q⟩
 ·subst e
  cases r1 with
  |cons r rr=>
   cases rr
   cases r
   obtain ⟨its,rv,p,hz⟩:=I1.tuple hq
   have hT:s1.heap.IsTuple t its.toArray:=p
   have hlt:t<s1.heap.objs.size:=p.lt
   refine Z0 hT fun h' he hit hsz hk=>wpAny_pyIter_enum (s:={s1 with heap:=h'}) he ?_
   have I2:Inv X pins σ H1 {s1 with heap:=h'}:=I1.kept (t':=s1.toks) hk
   refine ⟨s1.heap.objs.size+1,[s1.heap.objs.size+1,s1.heap.objs.size],_,_,H1,rfl,I2,Z1 (s1.heap.objs.size+1) s1.heap.objs.size t (Nat.succ_ne_self _) (BK (GC hlt)) (BK hlt) xs,⟨⟨.none,he⟩,hit⟩,fun b hb=>?_,q⟩
   rcases qa4.mp hb with z |z
   ·subst z;exact I1.fpOk (GF _) (I1.hok.fresh (GF _))
   ·rw [qaH] at z;subst z;exact I1.fpOk (AG _) (I1.hok.fresh (AG _))
 ·subst e
  cases r1 with
  |cons r rr=>
   cases rr
   cases r
   obtain ⟨its,rv,p,hz⟩:=I1.list hq
   have hT:s1.heap.IsList t its.toArray:=p.isList
   have hlt:t<s1.heap.objs.size:=by obtain ⟨_,z,_⟩:=hT;exact AA z
   refine call_enumerate_list hT fun h' he hit hsz hk=>wpAny_pyIter_enum (s:={s1 with heap:=h'}) he ?_
   have I2:Inv X pins σ H1 {s1 with heap:=h'}:=I1.kept (t':=s1.toks) hk
   refine ⟨s1.heap.objs.size+1,[s1.heap.objs.size+1,s1.heap.objs.size],_,_,H1,rfl,I2,Zaz (s1.heap.objs.size+1) s1.heap.objs.size t (Nat.succ_ne_self _) (BK (GC hlt)) (BK hlt),⟨⟨.none,he⟩,hit⟩,fun b hb=>?_,q⟩
   rcases qa4.mp hb with z |z
   ·subst z;exact I1.fpOk (GF _) (I1.hok.fresh (GF _))
   ·rw [qaH] at z;subst z;exact I1.fpOk (AG _) (I1.hok.fresh (AG _))
def Ip:List D→HD→Out (List D×AS):=fun ds h=>match ds with
 |[.tup xs]=>.ok (DT xs,[]) h
 |[.loc l]=>match h[l]? with
  |some (.lst xs)=>.ok (DT xs,[(l,xs)]) h
  |_=>.stuck
 |_=>.stuck
def Em (fa:MA):MI:=fun ρ h=>(fa ρ h).bind Ip
theorem ZaB {elts:List Expr} {kt:Nat} {tpos p pos:Pos} {a:Expr} {fa:MA} (hg:Gl X "enumerate") (hm:X.mg "enumerate"=none) (ha:Cj X E [a] fa) (hs:starEach [a] X.env=[(false,eval a X.env)]:=by rfl):
 Ej X E (.Tuple elts kt tpos) (.Call (.Name "enumerate" p) [a] [] pos) (Em fa):=
 H0 (ZaA hg hm ha hs) fun σ H R ⟨m,ρ,h,hr,er,p⟩=>⟨m,ρ,h,hr,er,Post.bind p fun x h1 v m1 H1 eo p1 k1 hr1 r1 q1=>by
  clear eo
  unfold Ip at q1
  split at q1
  ·rename_i xs
   simp only [DN,DVs,DV] at r1
   obtain ⟨v,w,rfl,⟨a,vs,rfl,ha,dv⟩,rfl⟩:=r1
   refine .inl ⟨a,vs,rfl,SqT.of ha,q1 _ m1 H1 (Az _) (.refl _) hr1 fun i m2 h2 H2 p2 k2 hr2 _=>⟨fun hi=>?_,fun hi=>?_⟩⟩
   ·have hi':i<xs.length:=by simpa [DT] using hi
    refine ⟨⟨by rw [←dv.len];exact hi',SqT.of (k2 _ _ ha rfl)⟩,fun y H3 ⟨pp,vv,hp,ey,ev,eH⟩=>?_⟩
    subst ey eH
    have hd:xs[i]?=some xs[i]:=A2 hi'
    obtain ⟨v2,e2,r2⟩:=dv.get hd
    rw [ev] at e2
    cases e2
    refine ⟨.new hp,hr2.new hp,.tup [.int i,xs[i]],?_,?_⟩
    ·simp [DT,hd]
    ·simp only [DV]
     exact ⟨pp,_,rfl,BN,.cons (by simp [DV]) (.cons (DV.keep p2 (k2.trans (.new hp)) r2) .nil)⟩
   ·exact ⟨by rw [←dv.len];simpa [DT] using hi,SqT.of (k2 _ _ ha rfl)⟩
  ·rename_i l
   split at q1
   ·rename_i xs el
    simp only [DN,DVs,DV] at r1
    obtain ⟨v,w,rfl,⟨a,rfl,ha⟩,rfl⟩:=r1
    obtain ⟨vs,hv,dv⟩:=hr1.cells l _ a el ha
    refine .inr ⟨a,vs,rfl,SqL.of hv,q1 _ m1 H1 (Az _) (.refl _) hr1 fun i m2 h2 H2 p2 k2 hr2 hsr=>?_⟩
    obtain ⟨ws,hw,dw⟩:=hr2.cells l _ a (hsr _ A1) (GI p2 ha)
    refine ⟨fun hi=>?_,fun hi=>⟨ws,SqL.of hw,by rw [←dw.len];simpa [DT] using hi⟩⟩
    have hi':i<xs.length:=by simpa [DT] using hi
    refine ⟨⟨ws,SqL.of hw,by rw [←dw.len];exact hi'⟩,fun y H3 ⟨pp,vv,hp,ey,ev,eH⟩=>?_⟩
    subst ey eH
    have hd:xs[i]?=some xs[i]:=A2 hi'
    obtain ⟨v2,e2,r2⟩:=dw.get hd
    rw [ev ws (SqL.of hw)] at e2
    cases e2
    refine ⟨.new hp,hr2.new hp,.tup [.int i,xs[i]],?_,?_⟩
    ·simp [DT,hd]
    ·simp only [DV]
     exact ⟨pp,_,rfl,BN,.cons (by simp [DV]) (.cons (DV.keep (Az _) (.new hp) r2) .nil)⟩
   ·exact q1.elim
  ·exact q1.elim⟩
end
structure G3 (z TI TO p q:Addr) (f g:List Addr):Prop where
 a1:TI≠z
 a2:TO≠z
 a3:p≠z
 a4:q≠z
 a5:TI≠TO
 a6:TI≠p
 a7:TI≠q
 a8:TO≠p
 a9:TO≠q
 b1:p≠q
 b2:z∉f
 b3:z∉g
 b4:TO∉f
 b5:TO∉g
 b6:p∉g
 b7:q∉f
section
variable {prog:Program} {w:World} {A:Around} {E:Value→Shared→Prop} {s:Shared} {z TI TO p q:Addr} {f g:List Addr} {n1 n2 k:Nat} {P1 P2:Nat→Value→Prop} {S1 S2:Nat→Heap→Prop} {a b:Value}
end
open AutoSeq1 (wpAny_loadPart')
def ItAt:Bool→Heap→Addr→Addr→Nat→Prop
 |true,h,it,l,i=>h.IsTupleIter it l i
 |false,h,it,l,i=>h.IsListIter it l i
def SqA:Bool→Heap→Addr→Array Value→Prop
 |true,h,l,xs=>h.IsTuple l xs
 |false,h,l,xs=>h.IsList l xs
def Dz:Bool→PySem.W.Frag→Hp→Addr→List V→Prop
 |true,K,H,a,xs=>SqT K H a xs
 |false,K,H,a,xs=>SqL K H a xs
def Gc (k:Bool) (l:Addr):Obj:={cls:=.type (if k then "tuple_iterator" else "list_iterator"),data:=.fields #[.ref l,.int 0 0]}
theorem Kq {prog:Program} {w:World} {A:Around} (k:Bool) (hh:A.handled=none) (it l:Addr) (hne:l≠it) (items:Array Value):
 Draws prog w A it [it,l] items.size (fun i v=>items[i]?=some v) (fun i h=>ItAt k h it l i∧SqA k h l items):=by
 cases k
 ·exact Draws.list hh it l hne items
 ·exact M9 hh it l hne items
theorem ItAt.obj {k:Bool} {h:Heap} {it l:Addr} {i:Nat} (x:ItAt k h it l i):∃o,h.get? it=some o∧∀v,o.data≠.cell v:=by
 cases k
 ·obtain ⟨o,e,c,d⟩:=x
  exact ⟨o,e,fun v z=>by rw [d] at z;cases z⟩
 ·obtain ⟨o,e,c,d⟩:=x
  exact ⟨o,e,fun v z=>by rw [d] at z;cases z⟩
theorem ItAt.at {k:Bool} {h h':Heap} {it l:Addr} {i:Nat} (x:ItAt k h it l i) (f:∀o,h.get? it=some o→h'.get? it=some o):ItAt k h' it l i:=by
 cases k
 ·exact Heap.IsListIter.at x f
 ·exact Heap.IsTupleIter.at x f
section
variable {X:Cx} {pins:List (Addr×Obj)} {σ:L2.St} {H:Hp} {s:Shared}
theorem G4 {k:Bool} {a:Addr} {xs:List V} (I:Inv X pins σ H s) (h:Dz k X.K H a xs):∃its:List Value,Vals xs its∧SqA k s.heap a its.toArray∧a<s.heap.objs.size:=by
 cases k
 ·obtain ⟨its,r,p,_⟩:=I.list h
  have q:=p.isList
  exact ⟨its,r,q,by obtain ⟨_,e,_⟩:=q;exact AA e⟩
 ·obtain ⟨its,r,p,_⟩:=I.tuple h
  exact ⟨its,r,p,p.lt⟩
theorem Q7 {k:Bool} {a:Addr} {xs ys:List V} (I:Inv X pins σ H s) (h:Dz k X.K H a xs) (h':Dz k X.K H a ys):xs=ys:=by
 cases k
 ·exact I.list_inj h h'
 ·exact I.tuple_inj h h'
end
def Q8 (K:PySem.W.Frag) (k1 k2:Bool) (t u:Addr):It:=⟨fun i H=>∃xs ys,Dz k1 K H t xs∧Dz k2 K H u ys∧i<xs.length∧i<ys.length,
 fun i H x H'=>∃p v v',H p=none∧x=.ref p∧(∀xs:List V,Dz k1 K H t xs→xs[i]?=some v)∧(∀ys:List V,Dz k2 K H u ys→ys[i]?=some v')∧H'=Ak H p (.tup [v,v']),
 fun i H=>∃xs ys,Dz k1 K H t xs∧Dz k2 K H u ys∧(i=xs.length∨(i<xs.length∧i=ys.length))⟩
abbrev zA (h:Heap) (k1:Bool) (t:Addr):Heap:=h.push (Gc k1 t)
abbrev zB (h:Heap) (k1 k2:Bool) (t u:Addr):Heap:=(zA h k1 t).push (Gc k2 u)
abbrev zC (h:Heap) (k1 k2:Bool) (t u:Addr):Heap:=(zB h k1 k2 t u).push {cls:=.type "tuple",data:=.seq #[.ref h.objs.size,.ref (zA h k1 t).objs.size]}
abbrev zD (h:Heap) (k1 k2:Bool) (t u:Addr):Heap:=(zC h k1 k2 t u).push {cls:=.type "tuple",data:=.seq #[.none,.none]}
abbrev zE (h:Heap) (k1 k2:Bool) (t u:Addr):Heap:=(zD h k1 k2 t u).push {cls:=.type "zip",data:=.fields #[.none,.bool false,.bool false,.ref (zB h k1 k2 t u).objs.size,.ref (zC h k1 k2 t u).objs.size]}
theorem SqA.push {k:Bool} {h:Heap} {l:Addr} {xs:Array Value} (x:SqA k h l xs) (o:Obj):SqA k (h.push o) l xs:=by
 cases k
 ·exact Heap.IsList.push x o
 ·exact Heap.IsTuple.push x o
theorem Q9 {prog:Program} {w:World} {A:Around} {E:Value→Shared→Prop} {s:Shared} {k:Bool} {l:Addr} {xs:Array Value} {Q:Value→Shared→Prop} (x:SqA k s.heap l xs) (hQ:Q (.ref s.heap.objs.size) {s with heap:=s.heap.push (Gc k l)}):
 wpAny (model prog w) A (pyIter (.ref l)) Q E s:=by
 cases k
 ·exact wpAny_pyIter_list x hQ
 ·exact wpAny_pyIter_tuple x hQ
theorem ZaC (k1 k2:Bool) (t u:Addr) (xs ys:Array Value):
 Meets (Builtin.«zip.__new__» ⟨[.type "zip",.ref t,.ref u],[]⟩) (fun _ R s=>SqA k1 s.heap t xs∧SqA k2 s.heap u ys∧
  R (.ok (.ret (.ref (zD s.heap k1 k2 t u).objs.size))) {s with heap:=zE s.heap k1 k2 t u}):=
 .of_wp fun prog w A R s h=>by
  obtain ⟨hp,g,d,tk,os⟩:=s;obtain ⟨hl1,hl2,h⟩:=h
  have hsub:=sub_zip
  have hL1:SqA k1 (Shared.heap ⟨hp,g,d,tk,os⟩) t xs:=hl1
  have hL2:SqA k2 (Shared.heap ⟨hp.push (Gc k1 t),g,d,tk,os⟩) u ys:=SqA.push hl2 _
  wp_walk using Q9 hL1,Q9 hL2
  exact ⟨_,rfl,h⟩
theorem ItAt.new {k:Bool} {h:Heap} {it l:Addr} (e:h.get? it=some (Gc k l)):ItAt k h it l 0:=by
 cases k
 ·exact ⟨_,e,rfl,rfl⟩
 ·exact ⟨_,e,rfl,rfl⟩
theorem ZaD {prog:Program} {w:World} {A:Around} {E:Value→Shared→Prop} {s:Shared} {k1 k2:Bool} {t u:Addr} {xs ys:Array Value} {Q:Value→Shared→Prop} (h1:SqA k1 s.heap t xs) (h2:SqA k2 s.heap u ys)
 (h:∀h',IsZip h' (s.heap.objs.size+4) (s.heap.objs.size+2) (s.heap.objs.size+3) .none→IsPair h' (s.heap.objs.size+2) (.ref s.heap.objs.size) (.ref (s.heap.objs.size+1))→
  IsPair h' (s.heap.objs.size+3) .none .none→ItAt k1 h' s.heap.objs.size t 0→ItAt k2 h' (s.heap.objs.size+1) u 0→(∀c o,s.heap.get? c=some o→h'.get? c=some o)→Q (.ref (s.heap.objs.size+4)) {s with heap:=h'}):
 wpAny (model prog w) A (call (.type "zip") [.ref t,.ref u]) Q E s:=by
 refine callType_new F.called_zip (by decide) (F.typeCall_zip_2 _ _) (F.newCall_zip_2 _ _) (fun obj=>F.args_object_init_3 obj _ _) F.entry_zip_new
  (ZaC k1 k2 t u xs ys) ⟨h1,h2,?_⟩
 have y1:(zA s.heap k1 t).objs.size=s.heap.objs.size+1:=Cz ..
 have y2:(zB s.heap k1 k2 t u).objs.size=s.heap.objs.size+2:=by rw [Cz,y1]
 have y3:(zC s.heap k1 k2 t u).objs.size=s.heap.objs.size+3:=by rw [Cz,y2]
 have y4:(zD s.heap k1 k2 t u).objs.size=s.heap.objs.size+4:=by rw [Cz,y3]
 have g5:(zE s.heap k1 k2 t u).get? (zD s.heap k1 k2 t u).objs.size=some _:=Bf _ rfl
 have g4:(zE s.heap k1 k2 t u).get? (zC s.heap k1 k2 t u).objs.size=some _:=AB _ (Bf _ rfl)
 have g3:(zE s.heap k1 k2 t u).get? (zB s.heap k1 k2 t u).objs.size=some _:=AB _ (AB _ (Bf _ rfl))
 have g2:(zE s.heap k1 k2 t u).get? (zA s.heap k1 t).objs.size=some (Gc k2 u):=AB _ (AB _ (AB _ (Bf _ rfl)))
 have g1:(zE s.heap k1 k2 t u).get? s.heap.objs.size=some (Gc k1 t):=AB _ (AB _ (AB _ (AB _ (Bf _ rfl))))
 show _∧_
 rw [y2,y3,y4] at g5
 rw [y1,y2] at g3
 rw [y3] at g4
 rw [y1] at g2
 rw [y4]
 exact ⟨⟨_,g5,rfl⟩,h _ g5 g3 g4 (.new g1) (.new g2) fun c o x=>AB _ (AB _ (AB _ (AB _ (AB _ x))))⟩
section
variable {X:Cx} {E:XK}
def G5 (xs ys:List D):List D:=List.zipWith (fun a b=>.tup [a,b]) xs ys
def CM:D→HD→Option (List D×AS)
 |.tup xs,_=>some (xs,[])
 |.loc l,h=>match h[l]? with
  |some (.lst xs)=>some (xs,[(l,xs)])
  |_=>none
 |_,_=>none
def Gd:List D→HD→Out (List D×AS):=fun ds h=>match ds with
 |[x,y]=>match CM x h,CM y h with
  |some (xs,s1),some (ys,s2)=>.ok (G5 xs ys,s1++s2) h
  |_,_=>.stuck
 |_=>.stuck
def G6 (fa:MA):MI:=fun ρ h=>(fa ρ h).bind Gd
theorem Ra {m:List Addr} {h:HD} {d:D} {v:V} {H:Hp} {xs:List D} {sr:AS} (hr:HR X.K m h H) (r:DV X.K m H d v) (e:CM d h=some (xs,sr)):
 ∃k t,v=.ref t∧∀m2 h2 H2,m <+:m2→Kp H H2→HR X.K m2 h2 H2→(∀p∈sr,h2[p.1]?=some (.lst p.2))→∃vs,Dz k X.K H2 t vs∧DVs X.K m2 H2 xs vs:=by
 cases d with
 |tup zs=>
  simp only [CM,Option.some.injEq,Prod.mk.injEq] at e
  obtain ⟨rfl,rfl⟩:=e
  simp only [DV] at r
  obtain ⟨a,vs,rfl,ha,dv⟩:=r
  exact ⟨true,a,rfl,fun m2 h2 H2 p2 k2 hr2 _=>⟨vs,SqT.of (k2 _ _ ha rfl),dv.keep p2 k2⟩⟩
 |loc l=>
  simp only [CM] at e
  split at e
  ·rename_i zs el
   simp only [Option.some.injEq,Prod.mk.injEq] at e
   obtain ⟨rfl,rfl⟩:=e
   simp only [DV] at r
   obtain ⟨a,rfl,ha⟩:=r
   refine ⟨false,a,rfl,fun m2 h2 H2 p2 k2 hr2 hs=>?_⟩
   obtain ⟨ws,hw,dw⟩:=hr2.cells l _ a (hs _ A1) (GI p2 ha)
   exact ⟨ws,SqL.of hw,dw⟩
  ·cases e
 |_=>simp [CM] at e
theorem Rb {h:HD} {d:D} {xs:List D} {sr:AS} (e:CM d h=some (xs,sr)):∀p∈sr,h[p.1]?=some (.lst p.2):=by
 cases d with
 |tup zs=>
  simp only [CM,Option.some.injEq,Prod.mk.injEq] at e
  obtain ⟨rfl,rfl⟩:=e
  exact fun p hp=>nomatch hp
 |loc l=>
  simp only [CM] at e
  split at e
  ·rename_i zs el
   simp only [Option.some.injEq,Prod.mk.injEq] at e
   obtain ⟨rfl,rfl⟩:=e
   intro p hp
   rw [qaH] at hp
   subst hp
   exact el
  ·cases e
 |_=>simp [CM] at e
end
end LS
namespace LS
open PySem PySem.Spec PyProof.Rows L2
section
variable {ρ:Ag} {h:HD} {QI:(List D×AS)→HD→Prop} {Q:D→HD→Prop} {QO:Option Int→HD→Prop} {QS:Fl×Ag→HD→Prop} {f fo fi fv:ME} {lo hi:MO} {fa:MA}
@[simp] theorem ZgB:Wp (Em fa ρ h) QI=Wp (fa ρ h) fun d h1=>Wp (Ip d h1) QI:=by unfold Em;rw [Aq]
@[simp] theorem ZgC:Wp (G6 fa ρ h) QI=Wp (fa ρ h) fun d h1=>Wp (Gd d h1) QI:=by unfold G6;rw [Aq]
@[simp] theorem ZgD:Wp (Q2 f lo hi ρ h) Q=Wp (f ρ h) fun x h1=>Wp (lo ρ h1) fun l h2=>Wp (hi ρ h2) fun u h3=>Wp (Q1 x l u h3) Q:=by unfold Q2;simp only [Aq]
@[simp] theorem ZgE:Wp (Cq ρ h) QO=QO none h:=id rfl
@[simp] theorem ZgF:Wp (Cb f ρ h) QO=Wp (f ρ h) fun x h1=>Wp (match x with
  |.int i=>(.ok (some i) h1:Out (Option Int))
  |_=>.stuck) QO:=by unfold Cb;rw [Aq]<;>rfl
@[simp] theorem ZgG:Wp (Q5 fo fi fv ρ h) QS=Wp (fo ρ h) fun o h1=>Wp (fi ρ h1) fun i h2=>Wp (Q4 o i h2) fun x h3=>Wp (fv ρ h3) fun y h4=>Wp (Q3 o i x y ρ h4) QS:=by unfold Q5;simp only [Aq]
theorem ZaE {n:Nat} {e:Nat→D}:DT ((List.range n).map e)=(List.range n).map fun k=>D.tup [.int ((k:Nat):Int),e k]:=by
 unfold DT
 apply Jx
 ·simp
 ·intro i h1 h2;simp
theorem G7 {n:Nat} {e:Nat→D}:Ip [.tup ((List.range n).map e)] h=.ok ((List.range n).map fun k=>D.tup [.int ((k:Nat):Int),e k],[]) h:=by
 simp only [Ip,ZaE]
theorem ZaF {n:Nat} {e e':Nat→D}:G5 ((List.range n).map e) ((List.range n).map e')=(List.range n).map fun k=>D.tup [e k,e' k]:=by
 unfold G5
 apply Jx
 ·simp
 ·intro i h1 h2;simp
theorem ZaG {n:Nat} {e e':Nat→D} {x y:D} {s1 s2:AS} (hx:CM x h=some ((List.range n).map e,s1)) (hy:CM y h=some ((List.range n).map e',s2)):
 Gd [x,y] h=.ok ((List.range n).map fun k=>D.tup [e k,e' k],s1++s2) h:=by
 simp only [Gd,hx,hy,ZaF]
theorem Rc {ds:List D}:CM (.tup ds) h=some (ds,[]):=rfl
theorem ZaH {l:Nat} {ds:List D} (e:h[l]?=some (.lst ds)):CM (.loc l) h=some (ds,[(l,ds)]):=by simp only [CM,e]
theorem Re {l:Nat} {F:List Int→Int} {ns:List Int} (e:h[l]?=some (.lst (ns.map D.int))) (hn:ns≠[]):EW F (.loc l) h=.ok (.int (F ns)) h:=by
 simp only [EW,e,DM]
 rw [F9 (f:=EO∘D.int) (g:=id) (fun x _=>rfl)]
 simp only [List.map_id,if_neg hn]
theorem Iq {l:Nat} {ds:List D} (e:h[l]?=some (.lst ds)):Ft (.loc l) h=.ok (ds,[(l,ds)]) h:=by
 simp only [Ft,Bd,e,P8]
theorem ZaI {l k:Nat} {xs ys:List D} (e:h[l]?=some (.lst xs)) (e':h[k]?=some (.lst ys)):Av (.loc l) (.loc k) h=B9 (xs++ys) h:=by
 simp only [Av,e,e']
theorem ZaJ {xs ys:List D} (hn:xs.length+ys.length≤sizeLine):Av (.tup xs) (.tup ys) h=.ok (.tup (xs++ys)) h:=by
 simp only [Av];rw [if_pos hn]
theorem Kr {l:Nat} {ds:List D} (e:h[l]?=some (.lst ds)):AJ (.loc l) h=.ok (.int ds.length) h:=by
 simp only [AJ,Bd,e]
theorem Rf {a:D}:∀n:Nat,(List.replicate n [a]).flatten=List.replicate n a
 |0=>rfl
 |n+1=>by rw [E9,FP,Rf n];rfl
theorem ZaK {l n:Nat} {a:D} (e:h[l]?=some (.lst [a])) (hn:n≤1000):Dl (.loc l) (.int (n:Nat)) h=B9 (List.replicate n a) h:=by
 have:(-(2^63):Int)≤(n:Int)∧(n:Int)<2^63:=by omega
 simp only [Dl,e]
 rw [if_pos this]
 simp [Rf]
end
noncomputable def Nz (cs:List (Option Nat)) (it:MI) (sg:MG) (t:MT) (f:ME):ME:=Ae (Ai Cw) (Aa (AI cs it sg t f) Ac)
noncomputable def NA (F:List Int→Int) (cs:List (Option Nat)) (it:MI) (sg:MG) (t:MT) (f:ME):ME:=Ae (Ai (EW F)) (Aa (AI cs it sg t f) Ac)
section
variable {α:Type} {cs:List (Option Nat)} {it:MI} {sg:MG} {t:MT} {f:ME} {ρ:Ag} {h:HD} {src:AS} {xs:List α} {φ:α→D} {F:List Int→Int}
@[simp] theorem ZgH:Ae (Ai Cw) (Aa (AI cs it sg t f) Ac) ρ h=Nz cs it sg t f ρ h:=rfl
@[simp] theorem ZgI:Ae (Ai (EW F)) (Aa (AI cs it sg t f) Ac) ρ h=NA F cs it sg t f ρ h:=rfl
theorem Ks (n:α→Int) (ρ1:α→Ag) (hi:B3 (it ρ h) h (xs.map φ) src) (hg:∀x∈xs,sg (φ x) (Cp cs ρ)=some (ρ1 x)) (hf:∀x∈xs,∀h',Sm h h'→Pu (f (ρ1 x) h') h' (.int (n x))) (hn:xs.length≤sizeLine):
 Pu (Nz cs it sg A7 f ρ h) h (.int (xs.map n).sum):=by
 unfold Pu Nz
 rw [GY,GZ]
 refine EU (fun _=>true) (fun x=>.int (n x)) ρ1 hi hn hg (fun x hx h' s'=>(.ok:Pu (.ok true h') h' true)) (fun x hx _ h' s'=>hf x hx h' s') fun l h' s' e'=>?_
 rw [Fw] at e'
 rw [F8]
 simp only [Ai,Cw,Bd,e',DM]
 rw [F9 (f:=EO∘fun x=>D.int (n x)) (g:=n) (fun x _=>rfl)]
 exact ⟨rfl,s'⟩
theorem ZaL (n:α→Int) (ρ1:α→Ag) (hi:B3 (it ρ h) h (xs.map φ) src) (hg:∀x∈xs,sg (φ x) (Cp cs ρ)=some (ρ1 x)) (hf:∀x∈xs,∀h',Sm h h'→Pu (f (ρ1 x) h') h' (.int (n x))) (hn:xs.length≤sizeLine) (hne:xs≠[]):
 Pu (NA F cs it sg A7 f ρ h) h (.int (F (xs.map n))):=by
 unfold Pu NA
 rw [GY,GZ]
 refine EU (fun _=>true) (fun x=>.int (n x)) ρ1 hi hn hg (fun x hx h' s'=>(.ok:Pu (.ok true h') h' true)) (fun x hx _ h' s'=>hf x hx h' s') fun l h' s' e'=>?_
 rw [Fw] at e'
 rw [F8,QE,Re (ns:=xs.map n) (by rw [e',DM];rfl) (by simpa using hne)]
 exact ⟨rfl,s'⟩
theorem ZaM {l:Nat} {ds:List D} {o:Out D} {h1:HD} (e:o=.ok (.loc l) h1) (s:Sm h h1) (el:h1[l]?=some (.lst ds)):B3 (o.bind Ft) h ds [(l,ds)]:=by
 subst e
 simp only [Out.bind_ok,Iq el,B3,B0]
 exact ⟨trivial,s,fun h2 s2=>GR (s2 _ _ el)⟩
end
def FA (t:MT) (g:MS):Nat→MS
 |0=>fun _ _=>.stuck
 |n+1=>fun ρ h=>(t ρ h).bind fun b h1=>if b=true then (g ρ h1).bind (fun x h2=>match x with
   |(.nx,ρ2)=>FA t g n ρ2 h2
   |(.ct,ρ2)=>FA t g n ρ2 h2
   |(.bk,ρ2)=>.ok (.nx,ρ2) h2
   |(.rt d,ρ2)=>.ok (.rt d,ρ2) h2) else .ok (.nx,ρ) h1
def Ir (t:MT) (g:MS):MS:=FA t g 100000
section
variable {X:Cx} {E:XK}
theorem ZaN {c:Expr} {body:List Stmt} {t:MT} {g:MS} {pos:Pos} (hp:PassesOwn (model X.prog X.w) X.A X.env X.xe) (hc:Du X E c t) (hb:Cn X E body g):Ex X E (.While c body [] pos) (Ir t g):=by
 refine Dv (WC hp hc hb) fun Dn σ H z1_=>?_
 obtain ⟨m,ρ,h,hr,er,p⟩:=z1_
 unfold Ir at p
 generalize (100000:Nat)=N at p
 refine ⟨fun n σ H=>∃m ρ h,HR X.K m h H∧ER X.K m H ρ σ∧PostS X.K m H E Dn (FA t g n ρ h),⟨N,m,ρ,h,hr,er,p⟩,?_⟩
 rintro n σ H ⟨m,ρ,h,hr,er,p⟩
 cases n with
 |zero=>exact p.elim
 |succ n=>
  unfold FA at p
  refine ⟨m,ρ,h,hr,er,PostS.bind p fun b h1 v m1 H1 eo p1 k1 hr1 r1 q1=>?_⟩
  clear eo
  cases r1
  cases b with
  |false=>
   rw [if_neg Bl] at q1 ⊢
   exact (q1.here hr1) σ (er.keep p1 k1)
  |true=>
   rw [if_pos rfl] at q1 ⊢
   refine ⟨fun σ' H'=>∃m ρ h,HR X.K m h H'∧ER X.K m H' ρ σ'∧PostS X.K m H' E Dn (FA t g n ρ h),fun σ' H' z=>⟨n,GD _,z⟩,m1,ρ,h1,hr1,er.keep p1 k1,?_⟩
   cases o:g ρ h1 with
   |stuck=>rw [o] at q1;exact q1
   |err C fs h5=>rw [o] at q1;exact q1
   |ok z h5=>
    rw [o] at q1
    obtain ⟨fl,ρ5⟩:=z
    intro m5 H5 p5 k5 hr5
    cases fl with
    |nx=>exact fun σ5 er5=>⟨m5,ρ5,h5,hr5,er5,PostS.ahead p5 k5 q1⟩
    |ct=>exact fun σ5 er5=>⟨m5,ρ5,h5,hr5,er5,PostS.ahead p5 k5 q1⟩
    |bk=>exact fun σ5 er5=>q1 m5 H5 p5 k5 hr5 σ5 er5
    |rt d=>exact fun v rv=>q1 m5 H5 p5 k5 hr5 v rv
end
theorem NB {t:MT} {g:MS} {Q:Fl×Ag→HD→Prop} (I:Nat→Ag→HD→Prop)
 (step:∀m ρ h,I m ρ h→Wp (t ρ h) fun b h1=>if b=true then Wp (g ρ h1) (B1 (fun ρ2 h2=>∃m',m' < m∧I m' ρ2 h2) Q) else Q (.nx,ρ) h1):∀(n m:Nat) (ρ:Ag) (h:HD),m<n→I m ρ h→Wp (FA t g n ρ h) Q
 |0,m,ρ,h,hm,_=>by omega
 |n+1,m,ρ,h,hm,i=>by
  unfold FA
  rw [Aq]
  refine Wp.mono (step m ρ h i) fun b h1 w=>?_
  cases b with
  |false=>rw [if_neg Bl] at w ⊢;exact w
  |true=>
   rw [if_pos rfl] at w ⊢
   rw [Aq]
   refine Wp.mono w fun x h2 k=>?_
   obtain ⟨fl,ρ2⟩:=x
   cases fl with
   |nx=>obtain ⟨m',h1,h2⟩:=k;exact NB I step n m' _ _ (by omega) h2
   |ct=>obtain ⟨m',h1,h2⟩:=k;exact NB I step n m' _ _ (by omega) h2
   |bk=>exact k
   |rt d=>exact k
theorem ZaO {t:MT} {g:MS} {ρ:Ag} {h:HD} {Q:Fl×Ag→HD→Prop} (I:Nat→Ag→HD→Prop) (m:Nat) (hm:m<100000) (i:I m ρ h)
 (step:∀m ρ h,I m ρ h→Wp (t ρ h) fun b h1=>if b=true then Wp (g ρ h1) (B1 (fun ρ2 h2=>∃m',m' < m∧I m' ρ2 h2) Q) else Q (.nx,ρ) h1):Wp (Ir t g ρ h) Q:=
 NB I step _ m ρ h hm i
section
variable {X:Cx}
def Rg:D→HD→Out D:=fun x h=>match x with
 |.loc l=>match h[l]? with
  |some (.lst ds)=>match AC (ds.map GU) with
   |some bs=>.ok (.bl (bs.any id)) h
   |none=>.stuck
  |_=>.stuck
 |_=>.stuck
end
noncomputable def ZaP (cs:List (Option Nat)) (it:MI) (sg:MG) (t:MT) (f:ME):ME:=Ae (Ai Rg) (Aa (AI cs it sg t f) Ac)
section
variable {α:Type} {cs:List (Option Nat)} {it:MI} {sg:MG} {t:MT} {f:ME} {ρ:Ag} {h:HD} {src:AS} {xs:List α} {φ:α→D}
@[simp] theorem ZgJ:Ae (Ai Rg) (Aa (AI cs it sg t f) Ac) ρ h=ZaP cs it sg t f ρ h:=rfl
end
end LS
namespace LK
open LS
def A9 (n:Nat) (r:Nat→Bool):Int:=((List.range n).map fun j=>if r j then (1:Int) else 0).sum
theorem NC {α:Type} {f g:α→Int}:∀{xs:List α},(xs.map fun x=>f x+g x).sum=(xs.map f).sum+(xs.map g).sum
 |[]=>rfl
 |x::xs=>by simp only [BD,List.sum_cons,NC (xs:=xs)];omega
theorem ND {α:Type}:∀{xs:List α},(xs.map fun _=>(0:Int)).sum=0
 |[]=>rfl
 |x::xs=>by simp only [BD,List.sum_cons,ND (xs:=xs)];rfl
theorem Rh {α β:Type} {f:α→β→Int} {ys:List β}:∀{xs:List α},(xs.map fun x=>(ys.map fun y=>f x y).sum).sum=(ys.map fun y=>(xs.map fun x=>f x y).sum).sum
 |[]=>by simp [ND]
 |x::xs=>by
  simp only [BD,List.sum_cons,Rh (xs:=xs)]
  rw [←NC]
theorem Kt {α:Type} {f g:α→Int}:∀{xs:List α},(∀x∈xs,f x≤g x)→(xs.map f).sum≤(xs.map g).sum
 |[],_=>Int.le_refl _
 |x::xs,h=>by
  simp only [BD,List.sum_cons]
  have:=h x A1
  have:=Kt (xs:=xs) fun y hy=>h y (A5 _ hy)
  omega
theorem Ge {α:Type} {f g:α→Int} {xs:List α} (h:∀x∈xs,f x=g x):(xs.map f).sum=(xs.map g).sum:=by
 rw [FN h]
theorem G8 {n:Nat} {r r':Nat→Bool} (h:∀i,i<n→r i=r' i):A9 n r=A9 n r':=
 Ge fun i hi=>by rw [h i (by simpa using hi)]
theorem ZaQ {n:Nat} {r:Nat→Bool}:A9 n (fun i=>!r i)=n - A9 n r:=by
 have:A9 n (fun i=>!r i)+A9 n r=n:=by
  unfold A9
  rw [←NC]
  have:∀m:Nat,((List.range m).map fun i=>(if (!r i)=true then (1:Int) else 0)+if r i=true then 1 else 0).sum=m:=fun m=>by
   induction m with
   |zero=>rfl
   |succ m ih=>
    rw [De,Ea,Fb,ih]
    cases e:r m<;>simp [e]
  exact this n
 omega
theorem Ri {n:Nat} {r:Nat→Bool}:0≤A9 n r∧A9 n r≤n:=by
 unfold A9
 induction n with
 |zero=>simp
 |succ n ih=>
  rw [De,Ea,Fb]
  cases r n<;>simp<;>omega
def cc (H:Nat) (f:Nat→Nat→Bool) (R:Nat→Bool) (j:Nat):Int:=A9 H fun i=>Bool.xor (f i j) (R i)
def NF (W:Nat) (H:Int) (c:Nat→Int) (C:Nat→Bool):Int:=((List.range W).map fun j=>if C j then H - c j else c j).sum
def B4 (W:Nat) (H:Int) (c:Nat→Int):Int:=((List.range W).map fun j=>if H - c j<c j then H - c j else c j).sum
def TT (H W:Nat) (f:Nat→Nat→Bool) (R C:Nat→Bool):Int:=NF W H (cc H f R) C
theorem Rj {H:Nat} {f:Nat→Nat→Bool} {R R':Nat→Bool} {j:Nat} (h:∀i,i<H→R i=R' i):cc H f R j=cc H f R' j:=G8 fun i hi=>by rw [h i hi]
theorem ZaR {H W:Nat} {f:Nat→Nat→Bool} {R R' C C':Nat→Bool} (h:∀i,i<H→R i=R' i) (h':∀j,j<W→C j=C' j):TT H W f R C=TT H W f R' C':=
 Ge fun j hj=>by rw [Rj h,h' j (by simpa using hj)]
theorem Ku {H W:Nat} {f:Nat→Nat→Bool} {R C:Nat→Bool}:TT H W f R C=((List.range W).map fun j=>A9 H fun i=>Bool.xor (f i j) (Bool.xor (R i) (C j))).sum:=by
 refine Ge fun j _=>?_
 cases C j
 ·simp only [Bu,if_false,Bool.xor_false];rfl
 ·simp only [if_true,cc]
  rw [←ZaQ]
  exact G8 fun i _=>by cases f i j<;>cases R i<;>rfl
theorem Rk {H W:Nat} {f:Nat→Nat→Bool} {R C:Nat→Bool}:((List.range H).map fun i=>A9 W fun j=>Bool.xor (f i j) (Bool.xor (R i) (C j))).sum=TT H W f R C:=by
 rw [Ku];exact Rh
theorem Rl {H W:Nat} {f:Nat→Nat→Bool} {R C:Nat→Bool}:TT W H (fun i j=>f j i) C R=TT H W f R C:=by
 rw [Ku,←Rk]
 exact Ge fun i _=>G8 fun j _=>by cases f i j<;>cases R i<;>cases C j<;>rfl
theorem ZaS {H W:Nat} {f:Nat→Nat→Bool} {R C:Nat→Bool}:TT H W f (fun i=>!R i) (fun j=>!C j)=TT H W f R C:=by
 rw [Ku,Ku]
 exact Ge fun j _=>G8 fun i _=>by cases f i j<;>cases R i<;>cases C j<;>rfl
theorem ZaT {W:Nat} {H:Int} {c:Nat→Int} {C:Nat→Bool}:B4 W H c≤NF W H c C:=
 Kt fun j _=>by split<;>split<;>omega
def DA (H:Int) (c:Nat→Int) (j:Nat):Bool:=decide (H<2*c j)
theorem NG {W:Nat} {H:Int} {c:Nat→Int}:NF W H c (DA H c)=B4 W H c:=
 Ge fun j _=>by
  unfold DA
  by_cases h:H<2*c j
  ·rw [if_pos (by simpa using h),if_pos (by omega)]
  ·rw [if_neg (by simpa using h),if_neg (by omega)]
def ext (n:Nat) (R:Nat→Bool):Nat→Bool:=fun i=>if i=n then true else R i
def LL (s:Nat):Nat→List (Nat→Bool)
 |0=>[fun _=>false]
 |k+1=>LL s k++(LL s k).map (ext (s+k))
theorem G9 {s:Nat}:∀{k:Nat} {R:Nat→Bool},R∈LL s k→∀i,i<s∨s+k≤i→R i=false
 |0,R,h,i,_=>by
  simp only [LL,qaH] at h
  subst h;rfl
 |k+1,R,h,i,hi=>by
  rcases qaZ.mp h with z |z
  ·exact G9 z i (by omega)
  ·obtain ⟨R',z1,rfl⟩:=qaL.mp z
   unfold ext
   rw [if_neg (by omega)]
   exact G9 z1 i (by omega)
theorem Rm {s:Nat} (R:Nat→Bool):∀k:Nat,∃R'∈LL s k,∀i,s≤i→i<s+k→R' i=R i
 |0=>⟨_,A1,fun i h1 h2=>by omega⟩
 |k+1=>by
  obtain ⟨R',h1,h2⟩:=Rm R k
  cases e:R (s+k) with
  |false=>
   refine ⟨R',Hz _ h1,fun i hi hi2=>?_⟩
   by_cases hz:i=s+k
   ·rw [hz,e];exact G9 h1 _ (by omega)
   ·exact h2 i hi (by omega)
  |true=>
   refine ⟨ext (s+k) R',CH _ (qaL.mpr ⟨R',h1,rfl⟩),fun i hi hi2=>?_⟩
   unfold ext
   by_cases hz:i=s+k
   ·rw [if_pos hz,hz,e]
   ·rw [if_neg hz];exact h2 i hi (by omega)
theorem NH {s:Nat}:∀k,(LL s k).length=2^k
 |0=>rfl
 |k+1=>by simp only [LL,FO,CC,NH k];omega
def A4 (H W:Nat) (f:Nat→Nat→Bool):Int:=EV ((LL 1 (H - 1)).map fun R=>B4 W H (cc H f R))
theorem Rn {s k:Nat}:LL s k≠[]:=fun h=>by
 have:=NH (s:=s) k
 rw [h] at this
 have:0<2^k:=Nat.two_pow_pos k
 simp_all
theorem Iu {H W:Nat} {f:Nat→Nat→Bool}:∃R∈LL 1 (H - 1),B4 W H (cc H f R)=A4 H W f:=by
 have:=Nx (ns:=(LL 1 (H - 1)).map fun R=>B4 W H (cc H f R)) (by simp [Rn])
 obtain ⟨R,h,e⟩:=qaL.mp this
 exact ⟨R,h,e⟩
theorem ZaU {H W:Nat} {f:Nat→Nat→Bool} {R:Nat→Bool} (h:R∈LL 1 (H - 1)):A4 H W f≤B4 W H (cc H f R):=Ny (qaL.mpr ⟨R,h,rfl⟩)
theorem NI {H W:Nat} {f:Nat→Nat→Bool} (hH:1≤H) (R C:Nat→Bool):A4 H W f≤TT H W f R C:=by
 have key:∀R C:Nat→Bool,R 0=false→A4 H W f≤TT H W f R C:=fun R C h0=>by
  obtain ⟨R',h1,h2⟩:=Rm (s:=1) R (H - 1)
  have:∀i,i<H→R i=R' i:=fun i hi=>by
   by_cases hz:i=0
   ·rw [hz,h0];exact (G9 h1 0 (by omega)).symm
   ·exact (h2 i (by omega) (by omega)).symm
  rw [ZaR this (fun _ _=>rfl)]
  exact Int.le_trans (ZaU h1) ZaT
 cases h:R 0 with
 |false=>exact key R C h
 |true=>
  rw [←ZaS]
  exact key _ _ (by simp [h])
theorem Ro {H W:Nat} (f:Nat→Nat→Bool):∃R C,TT H W f R C=A4 H W f:=by
 obtain ⟨R,_,e⟩:=Iu (H:=H) (W:=W) (f:=f)
 exact ⟨R,DA H (cc H f R),by rw [←e];exact NG⟩
theorem ZaV {H W:Nat} {f:Nat→Nat→Bool} (hH:1≤H) (hW:1≤W):A4 W H (fun i j=>f j i)=A4 H W f:=by
 refine Int.le_antisymm ?_ ?_
 ·obtain ⟨R,C,e⟩:=Ro (H:=H) (W:=W) f
  rw [←e,←Rl]
  exact NI hW _ _
 ·obtain ⟨C,R,e⟩:=Ro (H:=W) (W:=H) (fun i j=>f j i)
  rw [←e,Rl]
  exact NI hH _ _
end LK
namespace LS
open PySem PySem.Spec PyProof.Rows L2 PySem.W
structure EC (K:Frag) (C:Addr):Prop where
 ga:findIn K (.ref C) "__getattribute__"=some (some (.builtin "BaseException.__getattribute__"))
 gt:findIn K (.ref C) "__getattr__"=some none
 cl:(clsIn K C).isSome=true
 ac:findIn K (.ref C) "__class__"=some (some (.builtin "object.__class__"))
 sg:specialIn K (.builtin "object.__class__") "__get__"=some (some (.builtin "getset_descriptor.__get__"))
 tk:takesIn K (.builtin "object.__class__")=some true
 mo:mroIn K C (.type "object")=some true
 mb:mroIn K C (.type "BaseException")=some true
section
variable {prog:Program} {w:World} {A:Around} {E:Value→Shared→Prop} {s:Shared} {K:Frag} {x C:Addr} {ox:Obj} {od:Option Obj}
def TyAt (x C:Addr) (h:Heap):Prop:=∃o,h.get? x=some o∧o.cls=.ref C
theorem TyAt.type {M:Model} {h:Heap} (t:TyAt x C h):Looks M h (typeOf (.ref x)) (.ref C):=by
 obtain ⟨o,h1,h2⟩:=t
 exact h2 ▸ (Looks.ld h1).andThen .now
theorem ZaW {M:Model} {h:Heap} (c:EC K C) (X:K.In h):Looks M h (Builtin.ObjectAttr.find (.ref x) (.ref C) "__class__") (.bind (.builtin "getset_descriptor.__get__") (.builtin "object.__class__")):=by
 have L1:=looks_findIn (M:=M) X c.ac
 have L2:Looks M h (Builtin.ObjectAttr.getOf (some (.builtin "object.__class__"))) (some (.builtin "getset_descriptor.__get__")):=looks_specialIn X c.sg
 have L3:=looks_takesIn (M:=M) X c.tk
 refine L1.andThen (L2.andThen ?_)
 exact (show Looks M h (Builtin.ObjectAttr.dataDescriptor? (some (.builtin "object.__class__")) (some (.builtin "getset_descriptor.__get__"))) (some (.builtin "getset_descriptor.__get__",.builtin "object.__class__")) from L3.andThen .now).andThen (Looks.tag .now)
theorem ZaX {R:Result→Shared→Prop} {tp:Value} (X:K.In s.heap) (I:TyAt x C s.heap) (hm:mroIn K C (.type "object")=some true)
 (h:R (.ok (.ret (.ref C))) s):codeAny (model prog w) A (.call (.builtin "getset_descriptor.__get__") ⟨[.builtin "object.__class__",.ref x,tp],[]⟩) R s:=by
 obtain ⟨hh,g,dr,t,os⟩:=s
 have L0:=I.type (M:=model prog w)
 have L1:=looks_mroIn (M:=model prog w) X hm
 refine codeAny_call_builtin KF.slot_gs.plain KF.entry_gs (KF.slot_gs.check _ _ _ _ _ _ _ _ KF.type_class (KF.args_gs _ _ _) ?_)
 unfold Builtin.«getset_descriptor.__get__» Builtin.Getset_descriptor.descrGet
 rw [dga_obj]
 refine wpAny_bind (wpAny_pure ?_)
 unfold Builtin.Getset_descriptor.descrGetter Builtin.Getset_descriptor.descrCheckInstance Builtin.Getset_descriptor.descrNameAndClass isInstance
 simp only [KF.owner_class]
 repeat lk
 refine ⟨Code.quiet_builtin _ (by decide +kernel),codeAny_builtin KF.entry_class ?_⟩
 unfold Builtin.«object.__class__» shownTypeOf
 repeat lk
 exact h
theorem ZaY {Q:Option Value→Shared→Prop} (c:EC K C) (X:K.In s.heap) (I:TyAt x C s.heap) (h:Q (some (.ref C)) {s with toks:=s.toks+1}):wpAny (model prog w) A (getAttr? (.ref x) "__class__") Q E s:=by
 obtain ⟨hh,g,d,t,os⟩:=s
 have L0:=I.type (M:=model prog w)
 have L1:=looks_findIn (M:=model prog w) X c.ga
 have L2:=looks_findIn (M:=model prog w) X c.gt
 have LF:=ZaW (M:=model prog w) (x:=x) c X
 have LB:=looks_mroIn (M:=model prog w) X c.mb
 have ha:=F.args_bexc_ga (.ref x) (.str "__class__" t)
 have hk:builtinKind "BaseException.__getattribute__"=some .slot:=by decide +kernel
 have hsplit:splitId "BaseException.__getattribute__"=some ("BaseException","__getattribute__"):=by decide +kernel
 have hx2:(Value.builtin "BaseException.__getattribute__"==Value.builtin "object.__getattribute__")=false:=by decide +kernel
 have hx1:(onTheHeap (Value.ref C)&&Value.builtin "BaseException.__getattribute__"==Value.builtin "object.__getattribute__")=false:=by rw [hx2];rfl
 unfold getAttr? getAttrBy? getAttrBy
 refine wpAny_bind (wpAny_mkText (wpAny_bind (wpAny_attempt (wpAny_holding (wpAny_bind (L0.at (wpAny_bind (L1.at ?_))))))))
 dsimp only
 rw [hx1]
 simp only [Bu,if_false]
 unfold getAttrByItsOwn hookBefore
 refine wpAny_bind ?_
 show wpAny _ _ (typeLookup (.ref C) "__getattr__") _ _ _
 refine L2.at ?_
 refine wpAny_bind (wpAny_attempt (wpAny_holding ?_))
 unfold callGetattribute boundAndCalled
 simp only [Bool.false_and,Bu,if_false]
 rw [PySem.F.attr_ValueError.ga.bind (.ref x)]
 refine wpAny_bind (wpAny_pure (wpAny_call (codeAny_call_builtin PySem.F.attr_ValueError.ga.plain F.entry_bexc_ga ?_)))
 simp only [checkBuiltinCall,hk,hsplit]
 refine wpAny_bind ?_
 unfold isInstance
 refine wpAny_bind (L0.at (LB.at ?_))
 wp_step
 unfold Builtin.«object.__getattribute__»
 repeat lk
 refine wpAny_run (ZaX (s:=⟨hh,g,d,t+1,os⟩) X I c.mo ?_) (by intro z;cases z)
 refine wpAny_pure (wpAny_pure ?_)
 exact handed_on rfl (wpAny_pure h)
theorem ZaZ (c:EC K C):KitX K (.ref x) (.ref C) (TyAt x C) where
 ty:=fun _ _ _ I=>I.type
 it:=fun _ _ X _=>by
  obtain ⟨cdD,hcD⟩:=qbS.mp c.cl
  unfold clsIn at hcD
  split at hcD
  ·rename_i c' d' cd' sl' ho
   intro A' Q' E' s' k q
   unfold isType loadHead
   exact wpAny_bind (wpAny_loadPart (k _ _ (X _ _ ho)) (wpAny_pure q))
  ·cases hcD
 ne:=fun h tp dd its n sl X htp=>by
  obtain ⟨cdD,hcD⟩:=qbS.mp c.cl
  refine Bool.eq_false_iff.mpr fun q=>?_
  have e:C=tp:=Value.ref.inj (beq_iff_eq.mp q)
  subst e
  unfold clsIn at hcD
  split at hcD
  ·rename_i c' d' cd' sl' ho
   have z:=(X _ _ ho).symm.trans htp
   cases z
  ·cases hcD
 ca:=fun X I k=>ZaY c X I k
end
def excNames:List Str:=["NoBoard","NoLine","NoSwitching","NoNumber","Unlike","NoNet","NoPlace","NoText","NoRow","TooMany","SwitchError"]
def BE (n n':Str):Bool:=n==n'||n'=="SwitchError"
def NJ (K:Frag) (C:Addr):Bool:=
 findIn K (.ref C) "__getattribute__"==some (some (.builtin "BaseException.__getattribute__"))&&findIn K (.ref C) "__getattr__"==some none&&(clsIn K C).isSome&&
 findIn K (.ref C) "__class__"==some (some (.builtin "object.__class__"))&&specialIn K (.builtin "object.__class__") "__get__"==some (some (.builtin "getset_descriptor.__get__"))&&
 takesIn K (.builtin "object.__class__")==some true&&mroIn K C (.type "object")==some true&&mroIn K C (.type "BaseException")==some true
theorem Za0 {K:Frag} {C:Addr} (h:NJ K C=true):EC K C:=by
 unfold NJ at h
 simp only [CI,beq_iff_eq] at h
 obtain ⟨⟨⟨⟨⟨⟨⟨h1,h2⟩,h3⟩,h4⟩,h5⟩,h6⟩,h7⟩,h8⟩:=h
 exact ⟨h1,h2,h3,h4,h5,h6,h7,h8⟩
def En (K:Frag) (n:Str):Option Addr:=match nsIn K mainGlobals n with
 |some (some (.ref C))=>some C
 |_=>none
theorem Rq {K:Frag} {n:Str} {C:Addr} (h:En K n=some C):nsIn K mainGlobals n=some (some (.ref C)):=by
 unfold En at h
 split at h
 ·rename_i e;cases h;exact e
 ·cases h
def NK (K:Frag) (n:Str) (C S:Addr):Bool:=
 NJ K C&&kitOne K (.ref C) (.type "ValueError")==some true&&(n=="TooMany"||Nt K C Im "ValueError.__new__")&&exmOne K (.ref C) (.ref S)==some true&&
  excNames.all fun n'=>match En K n' with
   |some C'=>kitOne K (.ref C) (.ref C')==some (BE n n')
   |none=>false
def etOk (K:Frag):Bool:=match En K "SwitchError" with
 |some S=>excNames.all fun n=>match En K n with
  |some C=>NK K n C S
  |none=>false
 |none=>false
structure ET (K:Frag) (n:Str) (C:Addr):Prop where
 ec:EC K C
 ve:kitOne K (.ref C) (.type "ValueError")=some true
 at_:n≠"TooMany"→Nr K C Im "ValueError.__new__"
 sw:∀S,nsIn K mainGlobals "SwitchError"=some (some (.ref S))→exmOne K (.ref C) (.ref S)=some true
 sub:∀n' C',n'∈excNames→nsIn K mainGlobals n'=some (some (.ref C'))→kitOne K (.ref C) (.ref C')=some (BE n n')
theorem Kv {K:Frag} (h:etOk K=true) {n:Str} {C:Addr} (hn:n∈excNames) (hC:nsIn K mainGlobals n=some (some (.ref C))):ET K n C:=by
 unfold etOk at h
 split at h
 ·rename_i S hS
  have h1:=qaN.mp h n hn
  have e:En K n=some C:=by unfold En;rw [hC]
  rw [e] at h1
  have h1:NK K n C S=true:=h1
  unfold NK at h1
  simp only [CI,beq_iff_eq,Bool.or_eq_true] at h1
  obtain ⟨⟨⟨⟨a1,a2⟩,a3⟩,a4⟩,a5⟩:=h1
  refine ⟨Za0 a1,a2,fun z=>Zar (a3.resolve_left z),fun S' hS'=>?_,fun n' C' hn' hC'=>?_⟩
  ·have:=Rq hS
   rw [this] at hS'
   cases hS'
   exact a4
  ·have z:=qaN.mp a5 n' hn'
   have e':En K n'=some C':=by unfold En;rw [hC']
   rw [e'] at z
   exact beq_iff_eq.mp z
 ·cases h
section
variable {X:Cx} {E:XK}
theorem Za1 {x:Str} {a:Addr} {pos:Pos} (hg:Gl X x) (hn:nsIn X.K mainGlobals x=some (some (.ref a))) (hd:(x==("__debug__":Str))=false:=by decide):Ev X E (.Name x pos) (mC (.glo x)):=
 fun pins s σ H Q I z1_=>by obtain ⟨m,ρ,h,hr,er,p⟩:=z1_;exact (Fc I hg (mg_of I.mod.kin I.mod.glob hn) ⟨.ref a,H,I,rfl,p (.ref a) m H (Az _) (.refl _) hr (by simp only [rD,DV];exact ⟨a,rfl,hn⟩)⟩ hd)
def Ha {α:Type}:Out α→Prop
 |.err _ _ _=>False
 |_=>True
theorem Post.noE {α β:Type} {K:Frag} {R:List Addr→Hp→α→β→Prop} {m:List Addr} {H:Hp} {E E':XK} {Q:β→Hp→Prop} {o:Out α} (n:Ha o) (h:Post K R m H E Q o):Post K R m H E' Q o:=by
 cases o with
 |ok a h1=>exact h
 |err C fs h1=>exact False.elim n
 |stuck=>exact h
theorem Rr {f:Value} {F:List D→HD→Out D} (hF:∀ds h,Ha (F ds h))
 (hc:∀(pins:List (Addr×Obj)) (s:Shared) (σ:L2.St) (H:Hp) (m:List Addr) (h:HD) (ds:List D) (vs:List V) (us:List Value) (Q:VK),Inv X pins σ H s→HR X.K m h H→DVs X.K m H ds vs→Vals vs us→Post X.K (rD X.K) m H E0 Q (F ds h)→
  wpAny (model X.prog X.w) X.A (call f us) (EP X pins σ Q) X.xe s):CJ X f F:=
 ⟨fun vs H Q=>∃m h ds,HR X.K m h H∧DVs X.K m H ds vs∧Post X.K (rD X.K) m H E0 Q (F ds h),fun pins s σ H vs us Q I r z2_=>by obtain ⟨m,h,ds,hr,rd,q⟩:=z2_;exact (hc pins s σ H m h ds vs us Q I hr rd r q),fun m H h E ds vs Q hr rd q=>⟨m,h,ds,hr,rd,Post.noE (hF ds h) q⟩⟩
def AM:D→D→HD→Out D:=fun x y h=>match x with
 |.exc n _=>(match y with
  |.glo n'=>if n∈excNames∧n'∈excNames then .ok (.bl (BE n n')) h else .stuck
  |.ty T=>if n∈excNames∧T="ValueError" then .ok (.bl true) h else .stuck
  |_=>.stuck)
 |.edic=>(match y with
  |.ty T=>(match Ka "dict" T with
   |some b=>.ok (.bl b) h
   |none=>.stuck)
  |_=>.stuck)
 |_=>BA x y h
theorem Za2 (pins:List (Addr×Obj)) (s:Shared) (σ:L2.St) (H:Hp) (m:List Addr) (h:HD) (x y:D) (v v':V) (u u':Value) (Q:VK) (I:Inv X pins σ H s) (hr:HR X.K m h H) (rx:DV X.K m H x v) (ry:DV X.K m H y v') (r:RelV v u) (r':RelV v' u')
 (q:Post X.K (rD X.K) m H E0 Q (BA x y h)):wpAny (model X.prog X.w) X.A (call (.builtin "isinstance") [u,u']) (EP X pins σ Q) X.xe s:=by
 unfold BA at q
 split at q
 ·rename_i T t et
  split at q
  ·rename_i b eb
   simp only [DV] at ry
   subst ry
   cases (show u'=Value.type T from r')
   exact Xw I r (ZO hr rx et) (Qn eb) fun tk=>⟨.bl b,H,I.tok _,rfl,A3 hr q (by simp [DV])⟩
  ·exact q.elim
 ·exact q.elim
theorem Za3 (et:etOk X.K=true):CJ X (.builtin "isinstance") (Bc AM):=by
 refine Rr (fun ds h=>?_) fun pins s σ H m h ds vs us Q I hr rd r q=>J5 rd q fun x y v v' ev rx ry q=>?_
 ·unfold Bc AM BA
  repeat' split
  all_goals trivial
 ·subst ev
  obtain ⟨u,u',rfl,r1,r2⟩:=JJ r
  unfold AM at q
  split at q
  ·rename_i n fs
   simp only [DV] at rx
   obtain ⟨a,C,da,rfl,hC,ha,_⟩:=rx
   cases (show u=Value.ref a from r1)
   obtain ⟨⟨o,ws,ho,hcl,hdi,hdat⟩,_⟩:=(show ObjOk X.prog X.w H s.heap a (.ext (Fe C da a)) from I.hok a _ ha)
   have key:∀(c:Value) (b:Bool),EC X.K C→kitOne X.K (.ref C) c=some b→Q (.bl b) H→wpAny (model X.prog X.w) X.A (call (.builtin "isinstance") [.ref a,c]) (EP X pins σ Q) X.xe s:=by
    intro c b ec e q
    exact kia_one (ZaZ ec) I.kIn ⟨o,ho,hcl⟩ e (fun z=>nomatch z) fun tk=>⟨.bl b,H,I.tok _,rfl,q⟩
   split at q
   ·rename_i n'
    split at q
    ·rename_i hn
     simp only [DV] at ry
     obtain ⟨C',rfl,hC'⟩:=ry
     cases (show u'=Value.ref C' from r2)
     have t:=Kv et hn.1 hC
     exact key _ _ t.ec (t.sub n' C' hn.2 hC') (A3 hr q (by simp [DV]))
    ·exact q.elim
   ·rename_i T
    split at q
    ·rename_i hn
     simp only [DV] at ry
     subst ry
     cases (show u'=Value.type T from r2)
     obtain ⟨hn,rfl⟩:=hn
     have t:=Kv et hn hC
     exact key _ _ t.ec t.ve (A3 hr q (by simp [DV]))
    ·exact q.elim
   ·exact q.elim
  ·split at q
   ·rename_i T
    split at q
    ·rename_i b eb
     simp only [DV] at rx ry
     obtain ⟨a,rfl,ha⟩:=rx
     subst ry
     cases (show u=Value.ref a from r1)
     cases (show u'=Value.type T from r2)
     obtain ⟨⟨_,o,ep,ho,hx,hd⟩,_⟩:=(show ObjOk X.prog X.w H s.heap a (.ext (MU a)) from I.hok a _ ha)
     exact kia_one kitx_dict I.kIn ⟨o,ho,hx.1⟩ (Qn eb) (fun z=>nomatch z) fun tk=>⟨.bl b,H,I.tok _,rfl,A3 hr q (by simp [DV])⟩
    ·exact q.elim
   ·exact q.elim
  ·exact Za2 pins s σ H m h x y v v' u u' Q I hr rx ry r1 r2 q
end
section
variable {X:Cx} {E:XK}
def Gf (chk:D→HD→Out D) (op:D→D→HD→Out D) (f g:ME):ME:=fun ρ h=>((f ρ h).bind chk).bind fun x h1=>(g ρ h1).bind fun y h2=>op x y h2
def Rt (X:Cx) (T:String) (x:V) (H:Hp):Prop:=∀(pins:List (Addr×Obj)) (σ:L2.St) (s:Shared) (u:Value),Inv X pins σ H s→RelV x u→s.TypeIs u T∧∀a,u=.ref a→∃ob,s.heap.get? a=some ob∧ob.dict=none
def Za4 (X:Cx) (T:String) (r:V→List V→Hp→VK→Prop) (to:TE) (t:TA):TE:=fun σ H Q=>to σ H fun x H1=>Rt X T x H1∧t σ H1 fun xs H2=>r x xs H2 Q
theorem Za5 {o e:Expr} {es:List Expr} {to:TE} {t:TA} {name:Str} {apos cpos:Pos} {T id:String} {r:V→List V→Hp→VK→Prop} (pa:PlainAttrs T) (slot:Slot T name id) (hty:typeOf (.builtin id)=pure (.type "method_descriptor")) (hm:JN X id r) (ho:PE X o to) (ha:PA X (e::es) t)
 (hbase:attributeBase o name X.env (eval o X.env)=eval o X.env:=by rfl)
 (hfew:((backTo cpos (starEach (e::es) X.env)).all (fun x=>!x.1)&&(backToKw cpos (keywordEach [] X.env)).all (fun x=>x.1.isSome)
  &&decide ((e::es).length+([]:List Keyword).length+(if ([]:List Keyword).isEmpty then 0 else 1)<30))=true:=by rfl)
 (hline:(apos.endLine==cpos.line)=true:=by rfl) (hs:starEach (e::es) X.env=(false,eval e X.env)::starEach es X.env:=by rfl) (hplain:(backTo cpos (starEach es X.env)).any (·.1)=false:=by rfl):
 PE X (.Call (.Attribute o name apos) (e::es) [] cpos) (Za4 X T r to t):=by
 intro pins s σ H Q I h
 refine wpAny_Call_method_late hbase hfew hline rfl (Ap (ho pins s σ H _ I h) fun v s1 z1_=>?_)
 obtain ⟨x,H1,I1,r1,ty,q1⟩:=z1_
 obtain ⟨h1,h2⟩:=ty pins σ s1 v I1 r1
 refine ⟨T,id,pa,slot,hty,h1,h2,?_⟩
 have hA:=ha cpos pins s1 σ H1 _ I1 q1
 rw [hs] at hA ⊢
 refine Calls.callWith_builtin (by show (false||(backTo cpos (starEach es X.env)).any (·.1))=false;rw [hplain]<;>rfl) (Calls.evalArgs_plain ?_)
 exact Ap hA fun us s2 z2_=>by obtain ⟨vs,H2,I2,r2,q2⟩:=z2_;exact (hm pins s2 σ H2 x vs v us Q I2 r1 r2 q2)
structure Ru (X:Cx) (T:String) (chk:D→HD→Out D):Prop where
 two:∀x h,chk x h=.ok x h∨chk x h=.stuck
 ty:∀m H h x v,HR X.K m h H→DV X.K m H x v→chk x h=.ok x h→Rt X T v H
def NL (X:Cx) (id:String) (op:D→D→HD→Out D):Prop:=
 ∀(pins:List (Addr×Obj)) (s:Shared) (σ:L2.St) (H:Hp) (m:List Addr) (h:HD) (x y:D) (v yv:V) (u uy:Value) (Q:VK),Inv X pins σ H s→HR X.K m h H→DV X.K m H x v→DV X.K m H y yv→RelV v u→RelV yv uy→Post X.K (rD X.K) m H E0 Q (op x y h)→
  wpAny (model X.prog X.w) X.A (call (.builtin id) [u,uy]) (EP X pins σ Q) X.xe s
theorem Rv {o e:Expr} {f g:ME} {name:Str} {T id:String} {chk:D→HD→Out D} {op:D→D→HD→Out D} {apos cpos:Pos} (pa:PlainAttrs T) (slot:Slot T name id) (hty:typeOf (.builtin id)=pure (.type "method_descriptor"))
 (hc:Ru X T chk) (hn:∀x y h,Ha (op x y h)) (hm:NL X id op) (ho:Ev X E o f) (he:Ev X E e g)
 (hbase:attributeBase o name X.env (eval o X.env)=eval o X.env:=by rfl)
 (hfew:((backTo cpos (starEach [e] X.env)).all (fun x=>!x.1)&&(backToKw cpos (keywordEach [] X.env)).all (fun x=>x.1.isSome)
  &&decide ([e].length+([]:List Keyword).length+(if ([]:List Keyword).isEmpty then 0 else 1)<30))=true:=by rfl)
 (hline:(apos.endLine==cpos.line)=true:=by rfl) (hs:starEach [e] X.env=(false,eval e X.env)::starEach [] X.env:=by rfl) (hplain:(backTo cpos (starEach [] X.env)).any (·.1)=false:=by rfl):
 Ev X E (.Call (.Attribute o name apos) [e] [] cpos) (Gf chk op f g):=by
 have hr:JN X id (fun v vs H Q=>∃m h x y yv,vs=[yv]∧HR X.K m h H∧DV X.K m H x v∧DV X.K m H y yv∧Post X.K (rD X.K) m H E0 Q (op x y h)):=by
  rintro pins s σ H v vs u us Q I r rs ⟨m,h,x,y,yv,ev,hr,rx,ry,q⟩
  subst ev
  obtain ⟨uy,rfl,r2⟩:=Ef rs
  exact hm pins s σ H m h x y v yv u uy Q I hr rx ry r r2 q
 refine BH (Za5 pa slot hty hr ho (JZ he JY hs) hbase hfew hline hs hplain) fun σ H Q z3_=>?_
 obtain ⟨m,ρ,h,hr,er,p⟩:=z3_
 refine ⟨m,ρ,h,hr,er,?_⟩
 unfold Gf at p
 rw [Out.bind_assoc] at p
 refine Post.bind p fun x h1 v m1 H1 eo p1 k1 hr1 r1 q1=>?_
 clear eo
 rcases hc.two x h1 with ec |ec
 ·rw [ec] at q1
  simp only [Out.bind_ok] at q1
  refine ⟨hc.ty m1 H1 h1 x v hr1 r1 ec,m1,ρ,h1,hr1,er.keep p1 k1,?_⟩
  have q2:Post X.K (rD X.K) m1 H1 E Q ((Aa g Ac ρ h1).bind fun ys h2=>match ys with
   |[y]=>op x y h2
   |_=>.stuck):=by
   unfold Aa Ac
   rw [Out.bind_assoc]
   exact q1
  refine Post.bind q2 fun ys h2 vs m2 H2 eo p2 k2 hr2 r2 q3=>?_
  clear eo
  split at q3
  ·rename_i y
   simp only [DN,DVs] at r2
   obtain ⟨yv,w,rfl,ry,rfl⟩:=r2
   exact ⟨m2,h2,x,y,yv,rfl,hr2,DV.keep p2 k2 r1,ry,Post.noE (hn x y h2) q3⟩
  ·exact q3.elim
 ·rw [ec] at q1
  exact q1.elim
theorem NM:Ru X "list" BZ where
 two:=fun x h=>by
  unfold BZ
  split
  ·split
   ·exact .inl rfl
   ·exact .inr rfl
  ·exact .inr rfl
 ty:=fun m H h x v hr r e=>by
  unfold BZ at e
  split at e
  ·rename_i l
   split at e
   ·rename_i ds el
    simp only [DV] at r
    obtain ⟨a,rfl,ha⟩:=r
    obtain ⟨ws,hv,dv⟩:=hr.cells l _ a el ha
    exact fun pins σ s u I ru=>MQ I ru (.inl ⟨rfl,ws,SqL.of hv⟩)
   ·cases e
  ·cases e
def Hb (x:V) (xs:List V):Nat:=xs.countP fun y=>Dh y x
theorem Rw {x:V}:∀{xs:List V} {us:List Value},Vals xs us→xs.all Ds=true→us.countP (B7 x)=Hb x xs
 |_,_,.nil,_=>rfl
 |y::xs,u::us,.cons r t,f=>by
  rw [List.all_cons,CI] at f
  unfold Hb
  rw [List.countP_cons,List.countP_cons,JO r f.1,Rw t f.2]
  rfl
def Hc:D→D→HD→Out D:=fun x y h=>match Bd x h with
 |none=>.stuck
 |some ds=>match BX y,AC (ds.map BX) with
  |some v,some vs=>.ok (.int (Hb v vs)) h
  |_,_=>.stuck
theorem Za6 (x y:D) (h:HD):Ha (Hc x y h):=by
 unfold Hc
 repeat' split
 all_goals trivial
def Gg:D→D→HD→Out D:=fun x y h=>(BZ x h).bind fun _ _=>Hc x y h
theorem Za7:NL X "list.count" Gg:=by
 intro pins s σ H m h x y v yv u uy Q I hr rx ry r r2 q
 unfold Gg at q
 rcases (NM (X:=X)).two x h with ec |ec
 ·rw [ec] at q
  simp only [Out.bind_ok] at q
  unfold BZ at ec
  split at ec
  ·rename_i l
   split at ec
   ·rename_i ds el
    unfold Hc Bd at q
    simp only [el] at q
    split at q
    ·rename_i w ws e1 e2
     simp only [DV] at rx
     obtain ⟨a,rfl,ha⟩:=rx
     cases (show u=Value.ref a from r)
     obtain ⟨vs,hv,dv⟩:=hr.cells l _ a el ha
     obtain ⟨h1,h2⟩:=J3 ry e1
     obtain ⟨h3,h4⟩:=J4 dv e2
     subst h1 h3
     obtain ⟨z,its,n,rr,hl,e⟩:=I.lstM hv
     refine call_meets F.slot_list_count ⟨_,e,rfl⟩ F.entry_list_count (F.args_list_count_2 _ _) (PySem.SeqAt.list_countAt a its.toArray n none #[] uy (B7 yv)) ⟨e,fun w hw=>FZ r2 h2 rr h4 w (by simpa using hw),?_⟩
     refine ⟨.int _,H,I.tok _,⟨_,rfl⟩,?_⟩
     rw [show (its.toArray.toList.countP (B7 yv))=Hb yv vs by rw [←Rw rr h4]]
     exact A3 hr q (by simp [DV])
    ·exact q.elim
   ·cases ec
  ·cases ec
 ·rw [ec] at q;exact q.elim
def Kw (x:V) (xs:List V):Option Nat:=xs.findIdx? fun y=>Dh y x
def Gh:D→D→HD→Out D:=fun x y h=>match x with
 |.loc l=>(match h[l]? with
  |some (.lst ds)=>(match BX y,AC (ds.map BX) with
   |some v,some vs=>(match Kw v vs with
    |some j=>.ok (.int j) h
    |none=>.stuck)
   |_,_=>.stuck)
  |_=>.stuck)
 |_=>.stuck
theorem Za8 (x y:D) (h:HD):Ha (Gh x y h):=by
 unfold Gh
 repeat' split
 all_goals trivial
theorem Za9 (x y:D) (h:HD):Ha (Gg x y h):=by
 unfold Gg
 rcases (show BZ x h=.ok x h∨BZ x h=.stuck by
  unfold BZ
  split
  ·split
   ·exact .inl rfl
   ·exact .inr rfl
  ·exact .inr rfl) with e |e
 ·rw [e];exact Za6 x y h
 ·rw [e];trivial
theorem Rx {xs:List V} {us:List Value} (r:Vals xs us) {x:V} (f:xs.all Ds=true) {j:Nat} (hj:j<us.length):B7 x us[j]=Dh (xs[j]'(by rw [r.length];exact hj)) x:=by
 have hx:j<xs.length:=by rw [r.length];exact hj
 obtain ⟨u,e,ru⟩:=r.get (A2 hx)
 rw [A2 hj] at e
 cases e
 exact JO ru (qaN.mp f _ (GE hx))
theorem Zba:NL X "list.index" Gh:=by
 intro pins s σ H m h x y v yv u uy Q I hr rx ry r r2 q
 unfold Gh at q
 split at q
 ·rename_i l
  split at q
  ·rename_i ds el
   split at q
   ·rename_i w ws e1 e2
    split at q
    ·rename_i j ej
     simp only [DV] at rx
     obtain ⟨a,rfl,ha⟩:=rx
     cases (show u=Value.ref a from r)
     obtain ⟨vs,hv,dv⟩:=hr.cells l _ a el ha
     obtain ⟨h1,h2⟩:=J3 ry e1
     obtain ⟨h3,h4⟩:=J4 dv e2
     subst h1 h3
     obtain ⟨z,its,n,rr,hl,e⟩:=I.lstM hv
     unfold Kw at ej
     rw [List.findIdx?_eq_some_iff_getElem] at ej
     obtain ⟨hj,hit,hno⟩:=ej
     have hji:j<its.length:=by rw [←hl];exact hj
     have hsl:(j:Int)<2^63 - 1:=by have:=GG;omega
     refine call_meets F.slot_list_index ⟨_,e,rfl⟩ F.entry_list_index (F.args_list_index_2 _ _) (PySem.SeqAt.list_indexAt a its.toArray n none #[] uy (B7 yv) j (by simpa using hji) hsl ?_ ?_) ⟨e,fun w hw=>FZ r2 h2 rr h4 w (by simpa using hw),?_⟩
     ·have:=Rx rr h4 (x:=yv) hji
      simp only [List.getElem_toArray]
      rw [this];exact hit
     ·intro k hk hkj
      have hk':k<its.length:=by simpa using hk
      have:=Rx rr h4 (x:=yv) hk'
      simp only [List.getElem_toArray]
      rw [this]
      simpa using hno k hkj
     ·exact ⟨.int _,H,I.tok _,⟨_,rfl⟩,A3 hr q (by simp [DV])⟩
    ·exact q.elim
   ·exact q.elim
  ·exact q.elim
 ·exact q.elim
end
variable {g:Str}
theorem Zbb {pos:Pos} {l r:List Value} {cv:Value} (_:TriplesOk l) (e:codeAmong pos l=some cv):codeAmong pos (l++r)=some cv:=by
 rename_i ht
 clear ht
 fun_induction codeAmong pos l with
 |case1 line t col u c rest h=>rw [FQ,FQ,FQ,codeAmong,if_pos h];exact e
 |case2 line t col u c rest h ih=>rw [FQ,FQ,FQ,codeAmong,if_neg h];exact ih e
 |case3=>cases e
theorem Ry {pos p2:Pos} {c cv:Value}:∀{l:List Value},TriplesOk l→codeAmong p2 (l++[rawInt pos.line,rawInt pos.col,c])=some cv→codeAmong p2 l=some cv∨cv=c
 |[],_,e=>by
  simp only [JA,rawInt,codeAmong] at e
  split at e
  ·exact .inr (Option.some.inj e).symm
  ·cases e
 |.int i t::.int j u::c'::l,h,e=>by
  simp only [codeAmong,FQ] at e ⊢
  split at e
  ·rename_i z
   rw [if_pos z];exact .inl e
  ·rename_i z
   rw [if_neg z];exact Ry (by simpa [TriplesOk] using h) e
theorem HR.tab {K:Frag} {m:List Addr} {h:HD} {H H':Hp} {P:Addr} {g:Str} {l0:Nat} (r:HR K m h H) (k:Kp H H') (s:∀b,b≠P→H b≠none→H' b=H b) (t:TabIs K g H' P) (tt:TabIs K g H P) (hl0:h[l0]?=some (.tabn g)) (hm0:m[l0]?=some P):HR K m h H':=by
 refine ⟨r.len,r.nd,fun l c a e q=>?_⟩
 have hm:a∈m:=E8 q
 have hn:H a≠none:=r.mem hm
 have:=r.cells l c a e q
 cases c with
 |lst ds=>
  obtain ⟨vs,e1,e2⟩:=this
  have ha:a≠P:=by
   rintro rfl
   obtain ⟨_,ps,z,_⟩:=tt
   rw [z] at e1;cases e1
  exact ⟨vs,by rw [s a ha hn];exact e1,e2.keep (Az _) k⟩
 |ins n fs=>
  obtain ⟨C,dx,fv,e0,e1,e2⟩:=this
  have ha:a≠P:=by
   rintro rfl
   obtain ⟨_,ps,z,_⟩:=tt
   rw [z] at e1;cases e1
  exact ⟨C,dx,fv,e0,by rw [s a ha hn];exact e1,e2.keep (Az _) k⟩
 |tabn g'=>
  by_cases ha:a=P
  ·subst ha
   have hl:l=l0:=by
    obtain ⟨h1,e1⟩:=qa2.mp q
    obtain ⟨h2,e2⟩:=qa2.mp hm0
    exact (List.getElem_inj r.nd).mp (e1.trans e2.symm)
   subst hl
   rw [hl0] at e
   cases e
   exact t
  ·exact TabIs.keep this k (s a ha hn)
 |dic fz kvs=>
  obtain ⟨es,e1,e2⟩:=this
  have ha:a≠P:=by
   rintro rfl
   obtain ⟨_,ps,z,_⟩:=tt
   cases fz with
   |true=>obtain ⟨o,q⟩:=e1;rw [z] at q;cases q
   |false=>exact absurd (z.symm.trans e1) (by intro w;cases w)
  exact ⟨es,e1.same (s a ha hn),e2.keep (Az _) k⟩
structure LamX (g:Str) (X:Cx) (c P:Addr):Prop where
 code:X.env.code=.ref c
 tp:tabP X.K g=some (c,P)
 hd:codeHdIn X.K c P=true
 qual:X.env.qual=PK g
 bm:∃bm o,X.mg "__builtins__"=some (.ref bm)∧bm≠builtinsNs∧X.base.get? bm=some o∧o.cls=.type "module"∧o.dict=some builtinsNs∧o.data=.plain
section
variable {X:Cx} {E:Value→Shared→Prop} {c P:Addr} {pins:List (Addr×Obj)} {σ:L2.St} {H:Hp} {s:Shared}
theorem LamX.builtins (L:LamX g X c P) (I:Inv X pins σ H s) (t:TabIs X.K g H P):s.heap.BuiltinsAt X.mg P:=by
 obtain ⟨bm,o,h1,h2,h3,h4,h5,h6⟩:=L.bm
 obtain ⟨e,n⟩:=I.bs bm o h3
 refine ⟨bm,o,h1,h2,fun z=>?_,fun z=>?_,e,h4,h5,h6⟩
 ·obtain ⟨og,es,ep,e1,e2,_⟩:=I.mod.glob
  rw [z,e1] at h3
  cases h3
  rw [e2] at h6;cases h6
 ·obtain ⟨_,ps,q,_⟩:=t
  rw [z,q] at n;cases n
theorem Zbc {params:Arguments} {body:Expr} {scope:Scope} {pos:Pos} {clos:List (Str×Addr)} {Q:Value→Shared→Prop} {A:Around} (L:LamX g X c P) (I:Inv X pins σ H s) (t:TabIs X.K g H P) (hdef:defaultsOf params X.env=([],[])) (hcl:closureFor scope X.env=pure clos)
 (k:∀(f' c':Addr) (ctv pm:Value) (h':Heap) (tk:Nat) (H':Hp),Inv X pins σ H' {s with heap:=h',toks:=tk}→Kp H H'→TabIs X.K g H' P→(∀b,b≠P→H b≠none→H' b=H b)→(∀b o,b≠P→s.heap.get? b=some o→h'.get? b=some o)→s.heap.objs.size≤f'→
  H' f'=none→h'.get? f'=some (kla_obj "<lambda>" (Bg g) params body scope clos pm c' ctv)→(∃ps,H' P=some (.tbl ps)∧codeAmong pos ps.toList=some (.ref c'))→Q (.ref f') {s with heap:=h',toks:=tk}):
 wpAny (model X.prog X.w) A (eval (.Lambda params body scope pos) X.env) Q E s:=by
 have hB:=L.builtins I t
 have hg:s.heap.Ns mainGlobals X.mg:=I.mod.glob.keeps I.bk
 have hCd:CodeHd s.heap c P:=codeHd_of_K I.kIn L.hd
 obtain ⟨ht1,ps,hps,htr,hcs⟩:=id t
 have hP:s.heap.get? P=some (tabObj ps):=I.hok P _ hps
 have hgP:mainGlobals≠P:=fun z=>by
  obtain ⟨og,es,ep,e1,e2,_⟩:=I.mod.glob
  have:=(I.bs _ _ e1).2
  rw [z,hps] at this;cases this
 have hq:X.env.qual++"<lambda>"=(Bg g):=by rw [L.qual];rfl
 refine kla_eval hdef ?_
 rw [hq]
 cases hc:codeAmong pos ps.toList with
 |some cv=>
  obtain ⟨c',rfl,hx⟩:=hcs pos cv hc
  refine kla_makeFunctionHit (mg:=X.mg) hcl I.ok.glob hg L.code hCd hP htr hc hB fun ctv h' tk hk hsz=>?_
  have hk2:∀b o,s.heap.get? b=some o→(h'.push (kla_obj "<lambda>" (Bg g) params body scope clos ((X.mg "__name__").getD .none) c' ctv)).get? b=some o:=fun b o e=>AB _ (hk b o e)
  exact k _ c' ctv _ _ tk H (I.kept hk2) (.refl _) t (fun _ _ _=>rfl) (fun b o _ e=>hk2 b o e) hsz (I.hok.fresh hsz) (Bf _ rfl) ⟨ps,hps,hc⟩
 |none=>
  refine kla_makeFunction (mg:=X.mg) hcl I.ok.glob hg L.code hCd hP htr hc hgP hB fun c' ctv h' tk hx hge hlt hrec htb=>?_
  generalize ho:kla_obj "<lambda>" (Bg g) params body scope clos ((X.mg "__name__").getD .none) c' ctv=fo
  have hk2:∀b o,b≠P→s.heap.get? b=some o→(h'.push fo).get? b=some o:=fun b o hb e=>AB _ (hx b o hb e)
  have hPs:P<s.heap.objs.size:=AA hP
  have hc'P:c'≠P:=Fv (AR hPs hge)
  have hc'n:H c'=none:=I.hok.fresh hge
  generalize hps':ps++#[rawInt pos.line,rawInt pos.col,.ref c']=ps' at htb
  have tl:ps'.toList=ps.toList++[rawInt pos.line,rawInt pos.col,.ref c']:=by rw [←hps'];simp
  have hH:∀b,b≠P→H b≠none→Ak (Ak H P (.tbl ps')) c' (.ext (GJ (Bg g) c')) b=H b:=fun b hb hn=>by
   have:b≠c':=fun z=>hn (z ▸ hc'n)
   rw [Ao this,Ao hb]
  have hHP:Ak (Ak H P (.tbl ps')) c' (.ext (GJ (Bg g) c')) P=some (.tbl ps'):=by rw [Ao (Ne.symm hc'P),BN]
  have kp:Kp H (Ak (Ak H P (.tbl ps')) c' (.ext (GJ (Bg g) c'))):=fun b o e i=>by
   have:b≠P:=fun z=>by rw [z,hps] at e;cases e;cases i
   rw [hH b this (by rw [e];simp)];exact e
  have lt':∀b o,s.heap.get? b=some o→b≠c':=fun b o e=>BK (AR (AA e) hge)
  have un:Un X.fs [] H (Ak (Ak H P (.tbl ps')) c' (.ext (GJ (Bg g) c'))) s.heap (h'.push fo):=by
   have neP:∀{b},H b=none→b≠P:=fun {b} n z=>by rw [z,hps] at n;cases n
   refine ⟨fun b o e n _ _=>hk2 b o (neP n) e,fun b o e n _ _=>⟨o.slots,hk2 b o (neP n) e⟩,fun b o e n _=>?_,fun b o e _=>?_,fun b xs e=>?_,fun b o u e=>?_,fun b qs e=>?_⟩
   ·rw [Ao (lt' b o e),Ao (neP n)];exact n
   ·by_cases hb:b=P
    ·subst hb;exact ⟨_,AB _ htb⟩
    ·exact ⟨o,hk2 b o hb e⟩
   ·rw [hH b (fun z=>by rw [z,hps] at e;cases e) (by rw [e];simp)];exact e
   ·rw [hH b (fun z=>by rw [z,hps] at e;cases e) (by rw [e];simp)];exact e
   ·by_cases hb:b=P
    ·subst hb
     rw [hps] at e;cases e
     exact ⟨_,by rw [hHP,←hps']⟩
    ·exact ⟨#[],by rw [hH b hb (by rw [e];simp),e];simp⟩
  have hok:HOk X.prog X.w (Ak (Ak H P (.tbl ps')) c' (.ext (GJ (Bg g) c'))) (h'.push fo):=by
   intro b o e
   by_cases hb:b=c'
   ·subst hb
    rw [BN] at e
    cases e
    have r1:(h'.push fo).CodeRec (.ref b) (Bg g):=hrec.keeps fun b o e=>AB _ e
    refine ⟨r1,?_,fun h1 h2 z1 z2=>?_⟩
    ·obtain ⟨c2,oc,vs,t2,e1,e2,_⟩:=r1
     cases e1
     exact ⟨oc,e2⟩
    ·obtain ⟨c2,oc,vs,t2,e1,e2,e3⟩:=z1
     cases e1
     exact ⟨_,oc,vs,t2,rfl,z2 _ e2,e3⟩
   ·by_cases hbP:b=P
    ·subst hbP
     rw [hHP] at e
     cases e
     exact AB _ htb
    ·rw [Ao hb,Ao hbP] at e
     refine (I.hok b o e).stay (fun d u hd q=>hk2 d u ?_ q) (fun d q=>?_) fun d xs q=>?_
     ·rcases hd with rfl |hd
      ·exact hbP
      ·exact fun z=>by rw [z,hps] at hd;cases hd
     ·rw [hH d (fun z=>by rw [z,hps] at q;cases q) (by rw [q];simp)];exact q
     ·rw [hH d (fun z=>by rw [z,hps] at q;cases q) (by rw [q];simp)];exact q
  have hsz:s.heap.objs.size≤h'.objs.size:=FT (GB hge hlt)
  refine k _ c' ctv ((X.mg "__name__").getD .none) _ tk _ (I.un un hok) kp ⟨ht1,ps',hHP,?_,fun p2 cv e=>?_⟩ hH hk2 hsz ?_ (by rw [←ho];exact Bf _ rfl) ⟨ps',hHP,?_⟩
  ·rw [tl];exact TriplesOk_snoc _ _ _ _ htr
  ·rw [tl] at e
   rcases Ry htr e with z |z
   ·obtain ⟨c2,z1,z2⟩:=hcs p2 cv z
    exact ⟨c2,z1,kp _ _ z2 rfl⟩
   ·exact ⟨c',z,BN⟩
  ·have n1:h'.objs.size≠c':=Fv hlt
   have n2:h'.objs.size≠P:=Fv (AR hPs hsz)
   rw [Ao n1,Ao n2];exact I.hok.fresh hsz
  ·rw [tl];exact codeAmong_snoc _ htr hc
end
end LS
namespace LS
open PySem PySem.Spec PyProof.Rows L2 PySem.W
variable {g:Str}
def Eo (g:Str) (P:Program) (w:World) (K:Frag) (mg:Str→Option Value) (base:Heap) (N:List Str) (scope:Scope) (a:Addr) (cd:Value) (cl:List (Str×Addr)) (A:Around) (outer:List Env) (s:Shared) (H:Hp) (E:XK):Cx where
 prog:=P
 w:=w
 K:=K
 mg:=mg
 base:=base
 A:=A.deeper (envX (Bg g) scope s.heap.objs.size a cd cl)
 N:=N
 s₀:=s
 H₀:=H
 env:=envX (Bg g) scope s.heap.objs.size a cd cl
 outer:=outer
 stack:=envX (Bg g) scope s.heap.objs.size a cd cl::outer
 ex:=[]
 calm:=true
 fn:=fun _=>false
 pn:=[]
 xe:=fun e s'=>wpAny (model P w) (A.deeper (envX (Bg g) scope s.heap.objs.size a cd cl)) (leaving (envX (Bg g) scope s.heap.objs.size a cd cl) e) (fun _ s''=>AO P w K outer H s E e s'') (fun e' s''=>AO P w K outer H s E e' s'') s'
theorem lvL {P:Program} {w:World} {K:Frag} {mg:Str→Option Value} {base:Heap} {N:List Str} {scope:Scope} {a:Addr} {cd:Value} {cl:List (Str×Addr)} {A:Around} {outer:List Env} {s:Shared} {H:Hp} {E:XK}:
 Lv (Eo g P w K mg base N scope a cd cl A outer s H E) E:=⟨fun _ _ h=>h,rfl,rfl,rfl⟩
theorem Iv {P:Program} {w:World} {K:Frag} {mg:Str→Option Value} {base:Heap} {N:List Str} {scope:Scope} {a:Addr} {cd:Value} {cl:List (Str×Addr)} {A:Around} {outer:List Env} {s:Shared} {H:Hp} {E:XK}:
 CD (AO P w K) (Eo g P w K mg base N scope a cd cl A outer s H E) E:=Nq lvL
structure Iw (h:Heap) (H:Hp) (outer:List Env) (N:List Str) (scope:Scope) (cl:List (Str×Addr)) (vs:List V):Prop where
 len:vs.length=N.length
 inj:∀x y c,cl.lookup x=some c→cl.lookup y=some c→x=y
 has:∀x,scope.names.lookup x=some .free→∃c,cl.lookup x=some c
 cell:∀x c,cl.lookup x=some c→(∃v,h.IsCell c v)∧H c=none∧c∉frs outer
 val:∀(i:Nat) (x:Str) (v:V),N[i]?=some x→vs[i]?=some v→scope.names.lookup x=some .free∧∃c u,cl.lookup x=some c∧h.IsCell c (some u)∧RelV v u
structure LamSc (scope:Scope):Prop where
 kind:scope.kind=.function
 co:scope.isCoroutine=false
 gen:scope.isGenerator=false
 only:(scope.names.all fun y=>y.2 != .cell)=true
theorem LamSc.nocell {scope:Scope} (S:LamSc scope):∀x∈scope.names,x.2≠.cell:=fun x hx e=>by
 have:=qaN.mp S.only x hx
 rw [e] at this
 simp at this
section
variable {P:Program} {w:World} {K:Frag} {mg:Str→Option Value} {base:Heap} {N:List Str} {scope:Scope} {a c':Addr} {pm ctv:Value} {params:Arguments} {body:Expr} {cl:List (Str×Addr)} {A:Around} {outer:List Env} {s:Shared} {H:Hp} {E:XK} {vs:List V}
theorem Zbd {cd:Value} {h1:Heap} {t1:Nat} (S:LamSc scope) (hd:A.handled=none) (e0:Env0 P w K mg base A outer s H) (C:Iw s.heap H outer N scope cl vs) (ns:h1.Ns s.heap.objs.size (fun _=>none)) (hk:∀b o,s.heap.get? b=some o→h1.get? b=some o):
 Inv (Eo g P w K mg base N scope a cd cl A outer s H E) [] (vs.map some) H {s with heap:=h1,toks:=t1}:=by
 have noA:∀b:Addr,b∉(Eo g P w K mg base N scope a cd cl A outer s H E).ex:=fun b z=>absurd (show b∈([]:List Addr) from z) (by simp)
 refine ⟨⟨e0.mod,S.kind,rfl,rfl,AG _,C.inj,fun x hx=>?_,fun x c hf=>(by cases hf),fun _=>hd,Around.frames_deeper e0.frames,.inr ⟨rfl,rfl⟩,fun b z=>absurd z (noA b),e0.bs,e0.bsz,fun b _ _=>noA b,fun b z=>absurd z (noA b),e0.funs,e0.frf⟩,
  rfl,e0.bare,Un.kept hk,⟨_,ns,fun i x v e1 e2 _=>?_⟩,fun x c e=>?_,e0.hok.fresh (AG _),fun x c e=>(C.cell x c e).2.1,fun p hp=>absurd (show p∈([]:List (Addr×Obj)) from hp) (by simp),e0.hok.kept hk,?_⟩
 ·have hx':scope.names.lookup x=some .cell∨scope.names.lookup x=some .free:=hx
  rcases hx' with z |z
  ·exact absurd rfl (S.nocell _ (mem_of_lookup z))
  ·exact C.has x z
 ·rw [Bv] at e2
  cases ev:vs[i]? with
  |none=>rw [ev] at e2;cases e2
  |some v'=>
   rw [ev] at e2
   cases e2
   obtain ⟨hf,c,u,e3,e4,r⟩:=C.val i x v e1 ev
   exact ⟨u,r,.inr ⟨.inr hf,c,e3,e4.keeps hk⟩⟩
 ·obtain ⟨⟨v,q⟩,_⟩:=C.cell x c e
  exact ⟨v,q.keeps hk⟩
 ·show (vs.map some).length=N.length
  rw [CC];exact C.len
theorem Zbe {k:Nat} {f:ME} {Q:VK} (S:LamSc scope) (hr:Room (k+1) A) (e0:Env0 P w K mg base A outer s H) (C:Iw s.heap H outer N scope cl vs) (ho:s.heap.get? a=some (kla_obj "<lambda>" (Bg g) params body scope cl pm c' ctv)) (hcd:s.heap.CodeRec (.ref c') (Bg g))
 (hbind:bindArgs (kla_fn "<lambda>" (Bg g) params body scope cl pm (.ref c') ctv) ⟨[],[]⟩=pure [])
 (hb:Room k (A.deeper (envX (Bg g) scope s.heap.objs.size a (.ref c') cl))→Ev (Eo g P w K mg base N scope a (.ref c') cl A outer s H E) E body f)
 (q:∃m ds h,HR K m h H∧DVs K m H ds vs∧Post K (rD K) m H E Q (f (ds.map some) h)):codeAny (model P w) A (.call (.ref a) ⟨[],[]⟩) (CR (AO P w K) outer P w H s Q E) s:=by
 refine kla_callFunE hr.depth ho rfl S.co S.gen rfl hcd ?_
 rw [hbind]
 have lim:s.heap.NoLimit:=e0.mod.nolimit.keeps fun b o e=>(e0.bs b o e).1
 refine wpAny_pure (wpAny_newFunctionEnv S.nocell (fun y hy=>by cases hy) (fun h₁ hns hsb=>⟨lim.fresh _ hsb,?_⟩) S.kind)
 have hk₁:∀b o,s.heap.get? b=some o→h₁.get? b=some o:=fun b o e=>hsb.extBut b o (Bo (AA e)) (AB _ e)
 have I:Inv (Eo g P w K mg base N scope a (.ref c') cl A outer s H E) [] (vs.map some) H {s with heap:=h₁,toks:=s.toks+0}:=Zbd S hr.hd e0 C hns hk₁
 obtain ⟨m,ds,h,hr1,r,p⟩:=q
 have er:ER K m H (ds.map some) (vs.map some):=by
  refine ⟨by simp [r.len],fun i d e=>?_⟩
  rw [Bv] at e
  cases ed:ds[i]? with
  |none=>rw [ed] at e;cases e
  |some d'=>
   rw [ed] at e
   cases e
   obtain ⟨v,e1,r1⟩:=r.get ed
   exact ⟨v,by rw [Bv,e1];rfl,r1⟩
 refine kla_codeExpr (wpAny_mono (hb (hr.deeper _) [] _ _ H Q I ⟨m,ds.map some,h,hr1,er,p⟩) (fun u s' hs=>?_) fun e s' hs=>hs)
 obtain ⟨v,H',J,rv,qv⟩:=hs
 exact ⟨v,H',J.os,J.bare,J.base,J.hok,rv,qv⟩
end
end LS
namespace LS
open PySem PySem.Spec PyProof.Rows L2 PySem.W
variable {g:Str}
structure RoomM (k:Nat) (A:Around):Prop where
 dp:A.depth+3*k+5<recursionLimit
 un:A.units+16*k+200<cLine
 gd:A.guards=some []
theorem RoomM.deeper {k:Nat} {A:Around} (r:RoomM (k+1) A) (env:Env):RoomM k (A.deeper env):=
 ⟨by have:=r.dp;show A.depth+1+3*k+5<_;omega,by have:=r.un;show A.units+3+16*k+200<_;omega,r.gd⟩
theorem RoomM.units {k:Nat} {A:Around} (r:RoomM k A):A.units+64<cLine:=by have:=r.un;omega
theorem RoomM.mono {j k:Nat} {A:Around} (r:RoomM k A) (h:j≤k):RoomM j A:=⟨by have:=r.dp;omega,by have:=r.un;omega,r.gd⟩
theorem RoomM.of {k:Nat} {A:Around} (r:Room k A) (e:Option Value):RoomM k (A.mark e):=⟨r.dp,r.un,r.gd⟩
def Hd (P:Program) (w:World) (K:Frag) (mg:Str→Option Value) (base:Heap) (N:List Str) (qual:Str) (scope:Scope) (f:Addr) (cd:Value) (A:Around) (outer:List Env) (s:Shared) (H:Hp):Cx:=
 {Bx PH P w K mg base N qual scope f cd A outer s H E0 with calm:=false,xe:=fun _ _=>False}
theorem Zbf {P:Program} {w:World} {K:Frag} {mg:Str→Option Value} {base:Heap} {N ps:List Str} {qual:Str} {scope:Scope} {f:Addr} {cd:Value} {A:Around} {outer:List Env} {s s1:Shared} {H:Hp} {us:List Value} {vs:List V}
 (S:CQ N ps scope) (e0:Env0 P w K mg base A outer s H) (hl:vs.length=ps.length) (r:Vals vs us)
 (x:InCallC s s.heap.objs.size (bindL (envOfC qual scope s.heap.objs.size f cd).kindOf (ps.zip us) fun _=>none) (cellsFrom (s.heap.objs.size+1) scope.names []) (bindC (envOfC qual scope s.heap.objs.size f cd).kindOf (ps.zip us) fun _=>none) s1):
 Inv (Hd P w K mg base N qual scope f cd A outer s H) [] (start N vs) H s1:=by
 have hpl:ps.length≤N.length:=by have:=congrArg List.length S.pre;rw [Jw] at this;omega
 obtain ⟨h1,tk,rfl,hk⟩:=x.done
 have noA:∀b:Addr,b∉(Hd P w K mg base N qual scope f cd A outer s H).ex:=fun b z=>absurd (show b∈([]:List Addr) from z) (by simp)
 refine ⟨⟨e0.mod,S.kind,rfl,rfl,AG _,fun y z c h1 h2=>?_,fun y hy=>?_,fun y c _ h=>?_,fun z=>(nomatch z),Around.frames_deeper e0.frames,.inr ⟨rfl,rfl⟩,fun b z=>absurd z (noA b),e0.bs,e0.bsz,fun b _ _=>noA b,fun b z=>absurd z (noA b),e0.funs,e0.frf⟩,
  rfl,e0.bare,Un.kept hk,⟨_,x.toInCall.ns,fun i y v h1 h2 h3=>?_⟩,fun y c h=>⟨_,x.cell y c h⟩,e0.hok.fresh (AG _),fun y c h=>?_,fun p hp=>absurd (show p∈([]:List (Addr×Obj)) from hp) (by simp),e0.hok.kept hk,?_⟩
 ·exact name_of_addr x.apart (PySem.mem_of_lookup h1) (PySem.mem_of_lookup h2)
 ·have hy:scope.names.lookup y=some .cell∨scope.names.lookup y=some .free:=hy
  rcases hy with hy |hy
  ·exact JM hy
  ·exact absurd rfl (S.nofree _ (PySem.mem_of_lookup hy))
 ·exact FT (x.above y c (PySem.mem_of_lookup h))
 ·have hi:i<vs.length:=by
   unfold L2.start at h2
   by_cases hi:i<vs.length
   ·exact hi
   ·rw [Gw (by simpa using hi)] at h2
    rw [Mg] at h2
    split at h2<;>cases h2
  have ha:vs[i]?=some v:=by
   unfold L2.start at h2
   rw [D3 (by simpa using hi),Bv] at h2
   cases e:vs[i]? with
   |none=>rw [e] at h2;cases h2
   |some a=>rw [e] at h2;cases h2;rfl
  obtain ⟨u,hu,rv⟩:=r.get ha
  have hp:ps[i]?=some y:=by
   rw [←S.pre,Me (by omega)];exact h1
  have ndP:ps.Nodup:=by rw [←S.pre];exact S.nd.sublist (List.take_sublist _ _)
  refine ⟨u,rv,?_⟩
  rcases S.par y (E8 hp) with k |k
  ·exact .inl ⟨k,ML ndP hp hu k⟩
  ·obtain ⟨c,e⟩:=JM (n:=s.heap.objs.size+1) k
   refine .inr ⟨.inl k,c,e,?_⟩
   have q:=x.cell y c e
   rw [MM ndP hp hu (by show scope.names.lookup y≠_;rw [k];decide)] at q
   exact q
 ·exact e0.hok.fresh (FT (x.above y c (PySem.mem_of_lookup h)))
 ·unfold L2.start
  show _=N.length
  rw [FO,CC,List.length_replicate]
  omega
structure Rz (P:Program) (w:World) (K:Frag) (mg:Str→Option Value) (base:Heap) (k:Nat) (f:Addr) (fd:FuncData) (ps:List Str) (F:List D→HD→Out D):Prop where
 run:∀(A:Around) (outer:List Env) (s:Shared) (H:Hp) (args:Args) (us:List Value) (vs:List V) (Q:VK),RoomM k A→Env0 P w K mg base A outer s H→BindsTo s fd args (ps.zip us)→Vals vs us→J0 K F vs H Q E0→
  codeAny (model P w) A (.call (.ref f) args) (CR PH outer P w H s Q E0) s
theorem Zbg {P:Program} {w:World} {K:Frag} {mg:Str→Option Value} {base:Heap} {x qual:Str} {st:Stmt} {f:Addr} {fd:FuncData} {N ps:List Str} {k:Nat} {F:List D→HD→Out D} {g:MS} (Fn:Fun K x qual st f fd) (S:CQ N ps (defScope st)) (ar:Ar ps.length F)
 (hg:∀ds h,ds.length=ps.length→F ds h=As N.length g ds h)
 (hbody:∀(cdv:Value) (A:Around) (outer:List Env) (s:Shared) (H:Hp),RoomM k (A.deeper (envOfC qual (defScope st) s.heap.objs.size f cdv))→Cn (Hd P w K mg base N qual (defScope st) f cdv A outer s H) E0 (defBody st) g):Rz P w K mg base (k+1) f fd ps F:=by
 obtain ⟨oc,od,kV,doc,pm,an,cdv,ct,osl,rfl,lk,hcd⟩:=Fn.ex
 refine ⟨fun A outer s H args us vs Q hr e0 hb r hsp=>?_⟩
 have hl:vs.length=ps.length:=ar.len hsp
 have KX:K.In s.heap:=e0.mod.kin.keeps fun b o e=>(e0.bs b o e).1
 have lim:s.heap.NoLimit:=e0.mod.nolimit.keeps fun b o e=>(e0.bs b o e).1
 have hkind:∀y∈ps.zip us,(defScope st).names.lookup y.1=some .local∨((defScope st).names.lookup y.1=some .cell∧((cellsFrom (s.heap.objs.size+1) (defScope st).names []).lookup y.1).isSome=true):=fun z1_ hy=>by
  obtain ⟨n,v⟩:=z1_
  rcases S.par n (Jy hy).1 with q |q
  ·exact .inl q
  ·exact .inr ⟨q,PySem.W.cellsFrom_some _ _ _ (.inl q)⟩
 refine codeAny_call_function (by have:=hr.dp;omega) (KX _ _ lk) rfl S.co S.gen rfl (PySem.W.codeRec_of KX hcd) (hb _ _ _ _ ?_)
 refine wpAny_newFunctionEnv_cells S.kind hkind fun env he s1 x=>?_
 subst he
 refine ⟨lim.keeps x.toInCall.keep,codeAny_func ?_⟩
 have I:Inv (Hd P w K mg base N qual (defScope st) f cdv A outer s H) [] (start N vs) H s1:=Zbf S e0 hl r x
 have AQ:∀{σ':L2.St} {H':Hp} {v:V} {u:Value} {s':Shared},Inv (Hd P w K mg base N qual (defScope st) f cdv A outer s H) [] σ' H' s'→RelV v u→Q v H'→CE outer P w H s Q u s':=
  fun {σ' H' v u s'} J rv q=>⟨v,H',J.os,J.bare,J.base,J.hok,rv,q⟩
 have post:GL K E0 g {nx:=fun _ H'=>Q .non H',rt:=Q} (start N vs) H:=by
  obtain ⟨m,ds,hd,hr1,r,p⟩:=hsp
  have hld:ds.length=ps.length:=by rw [r.len];exact hl
  refine ⟨m,ds.map some++List.replicate (N.length - ds.length) none,hd,hr1,ER.start r,?_⟩
  rw [hg ds hd hld] at p
  unfold As at p
  cases o:g (ds.map some++List.replicate (N.length - ds.length) none) hd with
  |stuck=>rw [o] at p;exact p
  |err C fs h1=>rw [o] at p;exact p
  |ok a h1=>
   rw [o] at p
   obtain ⟨fl,ρ1⟩:=a
   intro m1 H1 p1 k1 hr1
   cases fl with
   |nx=>exact fun σ er=>p .non m1 H1 p1 k1 hr1 (by simp [rD,DV])
   |bk=>exact False.elim p
   |ct=>exact False.elim p
   |rt d=>exact fun v rv=>p v m1 H1 p1 k1 hr1 rv
 refine wpAny_mono (hbody cdv A outer s H (hr.deeper _) [] s1 (start N vs) H _ I post) (fun fl s' hs=>?_) fun e s' hs=>hs.elim
 cases fl with
 |ret u=>
  obtain ⟨v,σ',H',J,rv,q⟩:=hs
  exact AQ J rv q
 |next=>
  obtain ⟨σ',H',J,q⟩:=hs
  exact AQ (v:=V.non) (u:=Value.none) J rfl q
 |brk=>
  obtain ⟨_,_,_,q⟩:=hs
  exact False.elim q
 |cont=>
  obtain ⟨_,_,_,q⟩:=hs
  exact False.elim q
structure CaM (P:Program) (w:World) (K:Frag) (mg:Str→Option Value) (base:Heap) (x:Str) (k:Nat) (F:List D→HD→Out D):Prop where
 ex:∃(f:Addr) (fd:FuncData) (ps:List Str),Rz P w K mg base k f fd ps F∧Binds K fd ps []∧mg x=some (.ref f)∧PySem.W.keepIn K (.ref f)=true∧Ar ps.length F
section
variable {X:Cx} {E:XK}
theorem Zbh {k k':Nat} {F:List D→HD→Out D} {fa:MA} {x:Str} {p pos:Pos} {e:Expr} {es:List Expr} (C:CaM X.prog X.w X.K X.mg X.base x k F) (hr:RoomM k' X.A) (ha:Cj X E0 (e::es) fa) (hk:k≤k':=by decide) (hg:Gl X x:=by rfl)
 (hdb:(x==("__debug__":Str))=false:=by decide) (he:starEach (e::es) X.env=(false,eval e X.env)::starEach es X.env:=by rfl) (hpl:(backTo pos (starEach es X.env)).any (·.1)=false:=by rfl):
 Ev X E0 (.Call (.Name x p) (e::es) [] pos) (Ae F fa):=by
 obtain ⟨f,fd,ps,G,hb,hm,hkp,ar⟩:=C.ex
 rintro pins s σ H Q I ⟨m,ρ,hd,hr1,er,pp⟩
 refine wpAny_Call_Name_kw (Fc I hg hm ?_ hdb)
 have post:PL X.K E0 fa σ H (fun vs H1=>J0 X.K F vs H1 Q E0):=⟨m,ρ,hd,hr1,er,Post.bind pp fun xs h1 vs m1 H1 e1 p1 k1 hr1 r1 q1=>⟨m1,xs,h1,hr1,r1,q1⟩⟩
 refine PySem.W.callWith_K (h₀:=X.base) I.ok.mod.kin hkp (Ap (ha pos pins s σ H _ I post) ?_) he hpl
 rintro us s1 ⟨vs,H1,I1,r,q⟩
 refine ⟨I1.kIn,?_⟩
 have hl:us.length=ps.length:=by rw [←r.length];exact ar.len q
 have hb':=hb s1 us I1.kIn (by rw [D9];exact hl)
 rw [D9] at hb'
 refine wpAny_call (codeAny_mono (G.run X.A X.stack s1 H1 ⟨us,[]⟩ us vs Q (hr.mono hk) I1.env0 hb' r q) fun r s' hq=>?_)
 cases r with
 |error e=>exact False.elim hq
 |ok fl=>
  cases fl with
  |ret u=>exact I1.after hq
  |next=>exact False.elim hq
  |brk=>exact False.elim hq
  |cont=>exact False.elim hq
end
end LS
namespace LS
open PySem PySem.Spec PyProof.Rows L2 PySem.W
variable {g:Str}
theorem RA {P:Program} {w:World} {fs:List Addr} {H H':Hp} {h0 h h':Heap} {a T:Addr} {C a0:Value} (B:Un fs [] H H' h0 h) (hok:HOk P w H' h) (na:h0.get? a=none) (nT:h0.get? T=none) (ha:H' a=none) (hT:H' T=none)
 (frNone:∀b∈fs,H' b=none) (noFields:∀b∈fs,∃o,h.get? b=some o∧∀vs,o.data≠.fields vs) (stay:(blank (fun b=>b=a∨b=T∨b∈fs) h).StaysIn h') (ups:∀b o,h.get? b=some o→(∀vs,o.data≠.fields vs)→∃sl,h'.get? b=some {o with slots:=sl})
 (tr:h'.TracedW (blank (fun b=>b=a∨b=T∨b∈fs) h) a C a0) {da:Option Addr} {oa:Obj} (ea:h.get? a=some oa) (ed:oa.dict=da) (dd:Dicts h h'):Un fs [] H H' h0 h'∧HOk P w H' h'∧Kj h0 h' H' a C da:=by
 obtain ⟨oe,vs,T2,oT,ts,e1,e2,e3,e4,e5,e6,e7,e8,e9⟩:=tr
 have e11:oe.dict=da:=by
  obtain ⟨o',q1,q2⟩:=dd a oa ea
  rw [e1] at q1
  cases q1
  exact q2.trans ed
 have keepOf:∀b o,¬(b=a∨b=T∨b∈fs)→h.get? b=some o→h'.get? b=some o:=fun b o hb e=>stay b o (by rw [Gb hb];exact e)
 have old:∀b o,h0.get? b=some o→b≠a∧b≠T:=fun b o e=>⟨fun z=>(by rw [z,na] at e;cases e),fun z=>(by rw [z,nT] at e;cases e)⟩
 have any:∀b o,h0.get? b=some o→h.get? b≠none→∃o',h'.get? b=some o':=fun b o e hn=>by
  cases e':h.get? b with
  |none=>exact absurd e' hn
  |some o'=>
   by_cases hb:b∈fs
   ·obtain ⟨o2,h2,d2⟩:=noFields b hb
    obtain ⟨sl,h3⟩:=ups b o2 h2 d2
    exact ⟨_,h3⟩
   ·exact ⟨o',keepOf b o' (fun z=>by rcases z with z |z |z;exact (old b o e).1 z;exact (old b o e).2 z;exact hb z) e'⟩
 refine ⟨⟨fun b o e n hb hx=>?_,fun b o e n hb hx=>?_,B.free,fun b o e hx=>?_,B.tups,B.frzs,B.tbls⟩,fun b o e=>?_,na,ha,oe,vs,a0,T2,oT,ts,e1,e2,e3,e4,?_,?_,e6,e7,e8,e9,e11⟩
 ·exact keepOf b o (fun z=>by rcases z with z |z |z;exact (old b o e).1 z;exact (old b o e).2 z;exact hb z) (B.keep b o e n hb hx)
 ·obtain ⟨sl,h1⟩:=B.slot b o e n hb hx
  obtain ⟨o2,h2,d2⟩:=noFields b hb
  rw [h1] at h2
  cases h2
  obtain ⟨sl2,h3⟩:=ups b _ h1 d2
  exact ⟨sl2,h3⟩
 ·obtain ⟨o',h1⟩:=B.there b o e hx
  exact any b o e (by rw [h1];simp)
 ·refine (hok b o e).stay (fun c u hc q=>keepOf c u (fun z=>?_) q) (fun _ q=>q) fun _ _ q=>q
  have hc':H' c≠none:=by
   rcases hc with rfl |hc
   ·rw [e];simp
   ·rw [hc];simp
  rcases z with z |z |z
  ·exact hc' (z ▸ ha)
  ·exact hc' (z ▸ hT)
  ·exact hc' (frNone c z)
 ·cases q:h0.get? T2 with
  |none=>rfl
  |some o=>
   exfalso
   obtain ⟨o',h1⟩:=B.there T2 o q (by simp)
   by_cases hb:T2∈fs
   ·obtain ⟨o2,h2,d2⟩:=noFields T2 hb
    obtain ⟨sl,h3⟩:=ups T2 o2 h2 d2
    rw [h3] at e7
    cases e7
    exact d2 _ e8
   ·rw [Gb (fun z=>by rcases z with z |z |z;exact (old T2 o q).1 z;exact (old T2 o q).2 z;exact hb z),h1] at e5
    cases e5
 ·cases q:H' T2 with
  |none=>rfl
  |some o=>
   exfalso
   by_cases hb:T2=a∨T2=T∨T2∈fs
   ·rcases hb with z |z |z
    ·rw [z,ha] at q;cases q
    ·rw [z,hT] at q;cases q
    ·rw [frNone T2 z] at q;cases q
   ·rw [Gb hb] at e5
    obtain ⟨ob,eb⟩:=Np (hok T2 o q)
    rw [eb] at e5
    cases e5
theorem Zbi {M:Model} {A:Around} {E:Value→Shared→Prop} {s:Shared} {base:Heap} {env:Env} {outer:List Env} {L e:Addr} {C a0:Value} {Q:Unit→Shared→Prop} (fr:A.frames=some (env::outer)) (lo:env.frame=some L) (fl:Heap.FlyingW base (env::outer) e C a0 s.heap)
 (q:∀h',Heap.HeldW base (env::outer) e C a0 L h'→s.heap.UpToSlots h'→Dicts s.heap h'→Q () {s with heap:=h'}):wpAny M A (noteFrame (.ref e) env) Q E s:=by
 refine wpAny_mono (Ik QU (wpAny_looks_onW (M:=M) (A:=A) (E:=fun _ _=>False) (Q:=fun _ s'=>∃h',s'={s with heap:=h'}∧Heap.HeldW base (env::outer) e C a0 L h'∧s.heap.UpToSlots h') fr lo fl fun h' z1 z2=>⟨h',rfl,z1,z2⟩)) (fun _ s' z=>?_) fun _ _ z=>z.1.elim
 obtain ⟨⟨h',rfl,z1,z2⟩,D⟩:=z
 exact q h' z1 z2 D
theorem Zbj {M:Model} {A:Around} {E:Value→Shared→Prop} {s:Shared} {base:Heap} {l:List Env} {e L:Addr} {C a0:Value} {Q:Unit→Shared→Prop} (held:Heap.HeldW base l e C a0 L s.heap)
 (q:∀h',Heap.FlyingW base l e C a0 h'→s.heap.UpToSlots h'→Dicts s.heap h'→Q () {s with heap:=h'}):wpAny M A (setFlight (.ref e) none) Q E s:=by
 refine wpAny_mono (Ik Nm (wpAny_landsW (M:=M) (A:=A) (E:=fun _ _=>False) (Q:=fun _ s'=>∃h',s'={s with heap:=h'}∧Heap.FlyingW base l e C a0 h'∧s.heap.UpToSlots h') held fun h' z1 z2=>⟨h',rfl,z1,z2⟩)) (fun _ s' z=>?_) fun _ _ z=>z.1.elim
 obtain ⟨⟨h',rfl,z1,z2⟩,D⟩:=z
 exact q h' z1 z2 D
theorem Zbk {M:Model} {A:Around} {E:Value→Shared→Prop} {s:Shared} {base:Heap} {l:List Env} {e:Addr} {C a0:Value} {Q:Unit→Shared→Prop} (held:Heap.FlyingW base l e C a0 s.heap)
 (q:∀h',Heap.FlyingW base l e C a0 h'→s.heap.UpToSlots h'→Dicts s.heap h'→Q () {s with heap:=h'}):wpAny M A (setFlight (.ref e) none) Q E s:=by
 refine wpAny_mono (Ik Nm (lands_againW (M:=M) (A:=A) (E:=fun _ _=>False) (Q:=fun _ s'=>∃h',s'={s with heap:=h'}∧Heap.FlyingW base l e C a0 h'∧s.heap.UpToSlots h') held fun h' z1 z2=>⟨h',rfl,z1,z2⟩)) (fun _ s' z=>?_) fun _ _ z=>z.1.elim
 obtain ⟨⟨h',rfl,z1,z2⟩,D⟩:=z
 exact q h' z1 z2 D
section
variable {X:Cx} {pins:List (Addr×Obj)} {σ:L2.St} {H:Hp} {s:Shared}
theorem Inv.track {a:Addr} {o:HO} (I:Inv X pins σ H s) (new:X.s₀.heap.get? a=none) (no:H a=none) (hL:a≠X.env.locals) (hc:∀x c,X.env.cells.lookup x=some c→c≠a) (hp:∀p∈X.pn++pins,p.1≠a) (ok:ObjOk X.prog X.w (Ak H a o) s.heap a o):
 Inv X pins σ (Ak H a o) s:=by
 have ne:∀b u,H b=some u→b≠a:=fun b u e=>Bw e no
 refine ⟨I.ok,I.os,I.bare,⟨I.base.keep,I.base.slot,fun b ob e n hx=>?_,I.base.there,fun b xs e=>?_,fun b ob u e=>?_,fun b ps e=>?_⟩,I.loc,I.cell,?_,fun x c e=>?_,fun p hp'=>?_,fun b u e=>?_,I.len⟩
 ·rw [Ao (fun z=>by rw [z,new] at e;cases e)];exact I.base.free b ob e n hx
 ·have:=I.base.tups b xs e
  rw [Ao (ne _ _ this)];exact this
 ·have:=I.base.frzs b ob u e
  rw [Ao (ne _ _ this)];exact this
 ·obtain ⟨more,this⟩:=I.base.tbls b ps e
  exact ⟨more,by rw [Ao (ne _ _ this)];exact this⟩
 ·rw [Ao (Ne.symm hL)];exact I.free
 ·rw [Ao (hc x c e)];exact I.freeC x c e
 ·obtain ⟨a1,a2,a3⟩:=I.pin p hp'
  exact ⟨a1,by rw [Ao (hp p hp')];exact a2,a3⟩
 ·by_cases hb:b=a
  ·subst hb
   rw [BN] at e
   cases e
   exact ok
  ·rw [Ao hb] at e
   exact (I.hok b u e).stay (fun _ _ _ q=>q) (fun c q=>by rw [Ao (ne _ _ q)];exact q) fun c xs q=>by rw [Ao (ne _ _ q)];exact q
theorem Inv.locals {σ':L2.St} {h':Heap} {m':Str→Option Value} {t':Nat} (I:Inv X pins σ H s) (hn':h'.Ns X.env.locals m') (hs:Heap.SameBut X.env.locals s.heap h')
 (hl:∀(i:Nat) (x:Str) (v:V),X.N[i]?=some x→σ'[i]?=some (some v)→JD X.env.scope x→∃u,RelV v u∧O8 X.env h' m' x u) (len:σ'.length=σ.length):Inv X pins σ' H {s with heap:=h',toks:=t'}:=by
 obtain ⟨m,hn,_⟩:=id I.loc
 obtain ⟨oL,_,_,hoL,_⟩:=id hn
 have neL:∀b o,X.s₀.heap.get? b=some o→b≠X.env.locals:=fun b o e=>Bo (AR (AA e) I.ok.above)
 refine ⟨I.ok,I.os,I.bare,⟨fun b o e n hb hx=>?_,fun b o e n hb hx=>?_,I.base.free,fun b o e hx=>?_,I.base.tups,I.base.frzs,I.base.tbls⟩,⟨_,hn',hl⟩,fun y c e=>?_,I.free,I.freeC,fun p hp=>?_,fun b ob e=>?_,len.trans I.len⟩
 ·exact (hs.2 b (neL b o e)).trans (I.base.keep b o e n hb hx)
 ·obtain ⟨sl,e1⟩:=I.base.slot b o e n hb hx
  exact ⟨sl,(hs.2 b (neL b o e)).trans e1⟩
 ·obtain ⟨o',e1⟩:=I.base.there b o e hx
  exact ⟨o',(hs.2 b (neL b o e)).trans e1⟩
 ·obtain ⟨v,z⟩:=I.cell y c e
  exact ⟨v,z.sameBut hs (I.cne y c e)⟩
 ·obtain ⟨a1,a2,a3,a4⟩:=I.pin p hp
  exact ⟨(hs.2 _ a3).trans a1,a2,a3,a4⟩
 ·refine (I.hok b ob e).stay (fun c w' hc q=>(hs.2 c ?_).trans q) (fun _ q=>q) fun _ _ q=>q
  rintro rfl
  have hfree:=I.free
  rcases hc with rfl |hc
  ·rw [hfree] at e;cases e
  ·rw [hfree] at hc;cases hc
theorem Zbl {M:Model} {A:Around} {E:Value→Shared→Prop} {n:Str} {pos:Pos} {i:Nat} {Q:Unit→Shared→Prop} (I:Inv X pins σ H s) (hN:X.N.Nodup) (hi:X.N[i]?=some n) (hl:X.env.kindOf n=some .local)
 (h:∀s',Inv X pins (σ.set i none) H s'→Q () s'):wpAny M A (do bindName X.env n .none;unbindBehindTheSuite X.env n pos) Q E s:=by
 have hp:(X.env.scope.kind==.class||(X.env.scope.kind==.module&&X.env.locals != X.env.globals))=false:=by rw [I.ok.kind];rfl
 refine wpAny_bind (wpAny_bindName (JE (v:=.non) I hN hi (.inl hl) rfl (fun s1 I1 _=>?_) (.inr hl)))
 unfold unbindBehindTheSuite
 refine wpAny_onRaise ?_
 unfold unbindName
 refine wpAny_bind (wpAny_point (wpAny_bind ?_))
 unfold deleteName
 simp only [hl,hp]
 rw [if_neg (by decide)]
 obtain ⟨m1,hn1,hl1⟩:=I1.loc
 have hin:(m1 n).isSome=true:=by
  have hiσ:i < σ.length:=by rw [I.len];exact (qa2.mp hi).1
  obtain ⟨u,_,lk⟩:=hl1 i n .non hi (by rw [BV hiσ]) (.inl hl)
  rcases lk with ⟨_,z⟩ |⟨z,_⟩
  ·rw [z];rfl
  ·rcases z with z |z<;>(rw [hl] at z;cases z)
 refine wpAny_bind (wpAny_nsDel_keeps hn1 fun h2 v hn2 hs2=>?_)
 simp only [hin,if_true,FS,Bu,if_false]
 refine wpAny_pure (wpAny_point (h _ (Inv.locals (t':=s1.toks) (I1.weak (σ':=σ.set i none) (by simp) fun j v' e=>?_) hn2 hs2 (fun j x v' e1 e2 e3=>?_) rfl)))
 ·by_cases hj:i=j
  ·subst hj
   have hiσ:i < σ.length:=by rw [I.len];exact (qa2.mp hi).1
   rw [BV hiσ] at e;cases e
  ·rw [BG hj] at e ⊢;exact e
 ·have hj:i≠j:=by
   rintro rfl
   have hiσ:i < σ.length:=by rw [I.len];exact (qa2.mp hi).1
   rw [BV hiσ] at e2;cases e2
  rw [BG hj] at e2
  obtain ⟨u,r,lk⟩:=hl1 j x v' e1 (by rw [BG hj];exact e2) e3
  have hx:x≠n:=fun z=>hj (Mp hN hi (z ▸ e1))
  refine ⟨u,r,?_⟩
  rcases lk with ⟨k1,k2⟩ |⟨k1,c,k2,k3⟩
  ·exact .inl ⟨k1,(if_neg hx).trans k2⟩
  ·exact .inr ⟨k1,c,k2,k3.sameBut hs2 (I1.cne x c k2)⟩
end
end LS
namespace LS
open PySem PySem.Spec PyProof.Rows L2 PySem.W
variable {g:Str}
def EX:List (Str×D)→Option (List (Str×Int))
 |[]=>some []
 |(f,.int i)::r=>(EX r).map fun l=>(f,i)::l
 |_=>none
theorem RB:∀{fs:List (Str×D)} {is:List (Str×Int)} {f:Str} {i:Int},EX fs=some is→is.lookup f=some i→fs.lookup f=some (.int i)
 |[],is,f,i,e,l=>by cases e;cases l
 |(g,d)::r,is,f,i,e,l=>by
  cases d with
  |int j=>
   simp only [EX] at e
   cases er:EX r with
   |none=>rw [er] at e;cases e
   |some l2=>
    rw [er] at e
    cases e
    rw [D8] at l ⊢
    cases hb:f==g with
    |true=>rw [hb] at l;cases l;rfl
    |false=>rw [hb] at l;exact RB er l
  |_=>cases e
open Classical in
noncomputable def Kx (j:Nat) (g:Str) (a:Addr) (vs:List V) (Fk:List D→HD→Out D) (f:ME):MS:=fun ρ h=>match (ρ[0]?:Option (Option D)),(h[j]?:Option Cell) with
 |some (some (.clo a' vs' ds)),some (.tabn g')=>if g'=g∧a'=a∧vs'=vs then (match f (ds.map some) h with
  |.ok _ h1=>.ok (.nx,ρ) h1
  |.err (.str n _) fs h1=>if n∈excNames then (match EX fs with
   |some is=>(match Fk [.exc n is] h1 with
    |.ok d h2=>.ok (.nx,(ρ.set 1 (some d)).set 2 none) h2
    |_=>.stuck)
   |none=>.stuck) else .stuck
  |_=>.stuck) else .stuck
 |_,_=>.stuck
structure SaidX (g:Str) (X:Cx) (P a c':Addr) (lpos:Pos) (Nc:List Str) (params:Arguments) (body:Expr) (scope:Scope) (cl:List (Str×Addr)) (pm ctv:Value) (vs:List V):Prop where
 N:X.N=(["_law_call","_law_word","_law_e"]:List Str)
 k0:X.env.kindOf "_law_call"=some .local
 k1:X.env.kindOf "_law_word"=some .local
 k2:X.env.kindOf "_law_e"=some .local
 tp:∃c,tabP X.K g=some (c,P)
 tb:∃ps,X.H₀ P=some (.tbl ps)∧TriplesOk ps.toList∧codeAmong lpos ps.toList=some (.ref c')
 ob:X.s₀.heap.get? a=some (kla_obj "<lambda>" (Bg g) params body scope cl pm c' ctv)
 no:X.H₀ a=none
 nf:a∉X.fs
 clo:Iw X.s₀.heap X.H₀ X.outer Nc scope cl vs
section
variable {X:Cx} {E:XK} {P a c':Addr} {lpos:Pos} {Nc:List Str} {params:Arguments} {body:Expr} {scope:Scope} {cl:List (Str×Addr)} {pm ctv:Value} {vs:List V}
theorem Zbm {M:Model} {A:Around} {E:Value→Shared→Prop} {s:Shared} {a:Addr} {o:Obj} {fd:FuncData} {Q:Value→Shared→Prop} {env:Env} {pos:Pos} (h0:s.heap.get? a=some o) (hd:o.data=.func fd) (h:wpAny M A (call (.ref a) []) Q E s):
 wpAny M A (callWith pos (.ref a) [] (backTo pos (starEach [] env)) []) Q E s:=
 callWith_of (P:=fun h=>h.get? a=some o) rfl (fun h e=>⟨.frame,.inl rfl,(Looks.ld (part:=none) e).andThen (by rw [hd];exact .now)⟩) (evalArgs_nil3 ⟨h0,h⟩)
theorem SaidX.cloNow (S:SaidX g X P a c' lpos Nc params body scope cl pm ctv vs) (lv:Lv X E) {pins:List (Addr×Obj)} {σ:L2.St} {H:Hp} {s:Shared} (I:Inv X pins σ H s):Iw s.heap H X.stack Nc scope cl vs∧s.heap.get? a=some (kla_obj "<lambda>" (Bg g) params body scope cl pm c' ctv):=by
 have B:Un X.fs [] X.H₀ H X.s₀.heap s.heap:=by have:=I.base;rw [lv.ex] at this;exact this
 have keep:∀c v,X.s₀.heap.IsCell c v→X.H₀ c=none→c∉X.fs→s.heap.IsCell c v:=fun c v z1_ n f=>by obtain ⟨o,e,d⟩:=z1_;exact (⟨o,B.keep c o e n f (by simp),d⟩)
 refine ⟨⟨S.clo.len,S.clo.inj,S.clo.has,fun x c e=>?_,fun i x v e1 e2=>?_⟩,B.keep a _ S.ob S.no S.nf (by simp)⟩
 ·obtain ⟨⟨v,q⟩,n,f⟩:=S.clo.cell x c e
  obtain ⟨o,e1,d⟩:=id q
  refine ⟨⟨v,keep c v q n f⟩,B.free c o e1 n (by simp),fun z=>?_⟩
  rw [lv.frs] at z
  rcases qa4.mp z with z |z
  ·exact absurd (AR (AA e1) I.ok.above) (by rw [z];exact CO _)
  ·exact f z
 ·obtain ⟨hf,c,u,e3,e4,r⟩:=S.clo.val i x v e1 e2
  obtain ⟨_,n,f⟩:=S.clo.cell x c e3
  exact ⟨hf,c,u,e3,keep c _ e4 n f,r⟩
def FB (X:Cx) (e:Addr):Cx:={X with A:=X.A.mark (some (.ref e)),calm:=false,xe:=fun _ _=>False}
theorem Inv.marked {pins:List (Addr×Obj)} {σ:L2.St} {H:Hp} {s:Shared} {e:Addr} (I:Inv X pins σ H s):Inv (FB X e) pins σ H s:=
 ⟨⟨I.ok.mod,I.ok.kind,I.ok.glob,I.ok.blt,I.ok.above,I.ok.inj,I.ok.has,I.ok.cab,fun z=>(nomatch z),I.ok.frames,I.ok.stk,I.ok.exf,I.ok.bs,I.ok.bsz,I.ok.noex,I.ok.exfs,I.ok.funs,I.ok.frf⟩,I.os,I.bare,I.base,I.loc,I.cell,I.free,I.freeC,I.pin,I.hok,I.len⟩
theorem Inv.unmarked {pins:List (Addr×Obj)} {σ:L2.St} {H:Hp} {s:Shared} {e:Addr} (ok:X.Ok) (I:Inv (FB X e) pins σ H s):Inv X pins σ H s:=
 ⟨ok,I.os,I.bare,I.base,I.loc,I.cell,I.free,I.freeC,I.pin,I.hok,I.len⟩
theorem Zbn {j:Nat} {k:Nat} {Fk:List D→HD→Out D} {f:ME} {p4 p5 p6 p7 p8 p9 p10 p11 p12 p13 p14:Pos} (lv:Lv X E) (S:SaidX g X P a c' lpos Nc params body scope cl pm ctv vs) (hr:Room (k+1) X.A) (et:etOk X.K=true) (hsw:∃Sw,nsIn X.K mainGlobals "SwitchError"=some (some (.ref Sw)))
 (hgS:X.env.kindOf "SwitchError"=some .globalImplicit) (hgK:X.env.kindOf "_law_kind"=some .globalImplicit)
 (hkind:CaM X.prog X.w X.K X.mg X.base "_law_kind" k Fk) (hL:LamSc scope) (hbind:bindArgs (kla_fn "<lambda>" (Bg g) params body scope cl pm (.ref c') ctv) ⟨[],[]⟩=pure [])
 (hb:∀(s:Shared) (H:Hp) (E':XK),Room k (X.A.deeper (envX (Bg g) scope s.heap.objs.size a (.ref c') cl))→Ev (Eo g X.prog X.w X.K X.mg X.base Nc scope a (.ref c') cl X.A X.stack s H E') E' body f):
 Ex X E (.Try [.Expr (.Call (.Name "_law_call" p4) [] [] p5) p6] [.ExceptHandler (some (.Name "SwitchError" p7)) (some "_law_e") [.Assign [.Name "_law_word" p8] (.Call (.Name "_law_kind" p9) [.Name "_law_e" p10] [] p11) p12] p13] [] [] p14) (Kx j g a vs Fk f):=by
 rintro pins s σ H Dn I ⟨m,ρ,h,hr1,er,p⟩
 refine Classical.byContradiction fun nG=>?_
 have hN0:X.N[0]?=some ("_law_call":Str):=by rw [S.N];rfl
 have hN1:X.N[1]?=some ("_law_word":Str):=by rw [S.N];rfl
 have hN2:X.N[2]?=some ("_law_e":Str):=by rw [S.N];rfl
 have nd:X.N.Nodup:=by rw [S.N];decide +kernel
 obtain ⟨Sw,hSw⟩:=hsw
 unfold Kx at p
 split at p
 ·rename_i a' vs' ds g' e0 et0
  split at p
  ·rename_i hav
   obtain ⟨hgg,rfl,rfl⟩:=hav
   have hgg:=hgg.symm
   subst hgg
   obtain ⟨C,ob⟩:=S.cloNow lv I
   obtain ⟨v0,hv0,rv0⟩:=er.2 0 _ e0
   simp only [DV] at rv0
   obtain ⟨rfl,rds⟩:=rv0
   obtain ⟨aP,haP,tab⟩:=hr1.at et0
   obtain ⟨⟨cc,htp⟩,ps2,hps2,htr2,hcs2⟩:=tab
   obtain ⟨cc',htp'⟩:=S.tp
   rw [htp'] at htp
   cases htp
   obtain ⟨ps,hps,htr,hca⟩:=S.tb
   obtain ⟨more,hmore⟩:=I.base.tbls P ps hps
   have hca2:codeAmong lpos ps2.toList=some (.ref c'):=by
    have e:=hmore.symm.trans hps2
    cases e
    rw [Array.toList_append]
    exact Zbb htr hca
   obtain ⟨c2,e2,hx2⟩:=hcs2 lpos _ hca2
   cases e2
   have hcd:s.heap.CodeRec (.ref c') (Bg g):=(I.hok c' _ hx2).1
   have run:∀(Q:VK) (E':XK),Post X.K (rD X.K) m H E' Q (f (ds.map some) h)→codeAny (model X.prog X.w) X.A (.call (.ref a') ⟨[],[]⟩) (CR (AO X.prog X.w X.K) X.stack X.prog X.w H s Q E') s:=fun Q E' q=>
    Zbe hL hr I.env0 C ob hcd hbind (hb s H E') ⟨m,ds,h,hr1,rds,q⟩
   have start:∀{Q:Flow→Shared→Prop} {EE:Value→Shared→Prop},codeAny (model X.prog X.w) X.A (.call (.ref a') ⟨[],[]⟩) (fun r s'=>match r with |.ok (.ret u)=>Q .next s' |.error e=>EE e s' |_=>False) s→
    wpAny (model X.prog X.w) X.A (execs [.Expr (.Call (.Name "_law_call" p4) [] [] p5) p6] X.env) Q EE s:=fun {Q EE} hc=>by
    refine wpAny_execs_cons (wpAny_Expr_any (wpAny_Call_Name_kw ?_) I.quiet rfl)
    obtain ⟨m0,hn0,hl0⟩:=I.loc
    obtain ⟨u,ru,lk⟩:=hl0 0 "_law_call" (.ref a') hN0 hv0 (.inl S.k0)
    cases (show u=Value.ref a' from ru)
    rcases lk with ⟨hk,hm⟩ |⟨z,_⟩
    ·refine wpAny_Name (wpAny_loadName_local I.ok.kind hk hn0 hm (Zbm ob rfl (wpAny_call (codeAny_mono hc fun r s' hq=>?_)))) (by decide)
     cases r with
     |error e=>exact hq
     |ok fl=>
      cases fl with
      |ret u=>exact wpAny_execs_nil hq
      |next=>exact hq.elim
      |brk=>exact hq.elim
      |cont=>exact hq.elim
    ·rcases z with z |z<;>(rw [S.k0] at z;cases z)
   refine nG (wpAny_Try_except (start ?_))
   clear nG
   refine Classical.byContradiction fun nG=>?_
   cases ho:f (ds.map some) h with
   |stuck=>rw [ho] at p;exact p.elim
   |ok d h1=>
    rw [ho] at p
    refine nG (codeAny_mono (run (fun v H'=>∃m',m <+:m'∧Kp H H'∧HR X.K m' h1 H') E0 (by rw [ho];exact fun v m' H' p1 k1 hr' _=>⟨m',p1,k1,hr'⟩)) fun r s' hq=>?_)
    cases r with
    |error e=>
     obtain ⟨_,_,_,_,_,_,_,_,_,_,_,_,q⟩:=hq
     exact q.elim
    |ok fl=>
     cases fl with
     |ret u=>
      obtain ⟨v,H',os,bare,un,hok,_,m',p1,k1,hr'⟩:=hq
      exact wpAny_execs_nil ⟨σ,H',I.call' os un hok bare (fun b hb=>absurd hb (by simp)),p m' H' p1 k1 hr' σ (er.keep p1 k1)⟩
     |next=>exact hq.elim
     |brk=>exact hq.elim
     |cont=>exact hq.elim
   |err Cv fs h1=>
    rw [ho] at p
    cases Cv with
    |str n t=>
     simp only at p
     split at p
     ·rename_i hn
      refine nG (codeAny_mono (run (fun _ _=>False) (fun C' da H'=>C'=.str n t∧∃m',m <+:m'∧Kp H H'∧HR X.K m' h1 H'∧XD X.K m' H' fs da) (by rw [ho];exact fun da m' H' p1 k1 hr' xd=>⟨rfl,m',p1,k1,hr',xd⟩)) fun r s1 hq=>?_)
      clear nG
      cases r with
      |ok fl=>
       cases fl with
       |ret u=>obtain ⟨_,_,_,_,_,_,_,z⟩:=hq;exact z.elim
       |next=>exact hq.elim
       |brk=>exact hq.elim
       |cont=>exact hq.elim
      |error e=>
       obtain ⟨ae,Cc,n',da,H',rfl,os,bare,un,hok,fly,nm,hE,m',p1,k1,hr',xd⟩:=hq
       refine Classical.byContradiction fun nG=>?_
       have hnn:n'=n:=by cases hE;rfl
       subst hnn
       have I1:Inv X pins σ H' s1:=I.call' os un hok bare (fun b hb=>absurd hb (by simp))
       obtain ⟨fnew,fno,oe,ws,a0,T,oT,ts,e1,e2,e3,e4,e5,e6,e7,e8,e9,e10,e11⟩:=fly
       have fro:X.A.frames=some (X.env::X.outer):=by rw [←lv.stk];exact I1.ok.frames
       have stk:s1.heap.FunFrames X.base (X.env::X.outer):=by have:=I1.stack;rw [lv.stk] at this;exact this
       have frN:∀b∈frs X.stack,H' b=none:=fun b hb=>I1.stkFree b hb
       have frO:∀b∈frs X.stack,∃o,s1.heap.get? b=some o∧∀vs,o.data≠.fields vs:=fun b hb=>(I1.stack.mem hb).2
       have fly0:Heap.FlyingW (blank (fun b=>b=ae∨b=T∨b∈frs X.stack) s1.heap) (X.env::X.outer) ae (.ref Cc) a0 s1.heap:=
        ⟨Nn,Ga (.inl rfl),Kk stk fun b hb=>.inr (.inr (by rw [lv.stk];exact hb)),oe,ws,T,oT,ts,e1,e2,e3,e4,Ga (.inr (.inl rfl)),e7,e8,e9,e10⟩
       refine nG (Zbi fro lv.fr fly0 fun h4 held4 sm4 D4=>?_)
       clear nG
       refine Zbj held4 fun h5 held5 sm5 D5=>?_
       refine Classical.byContradiction fun nG=>?_
       obtain ⟨un5,hok5,fly5⟩:=RA un hok fnew e5 fno e6 frN frO held5.1 (sm4.trans sm5) held5.2.2.2 e1 e11 (D4.trans D5)
       have I5:Inv X pins σ H' {s1 with heap:=h5}:=I.call' (s':={s1 with heap:=h5}) os un5 hok5 bare (fun b hb=>absurd hb (by simp))
       have hmS:X.mg "SwitchError"=some (.ref Sw):=mg_of I.mod.kin I.mod.glob hSw
       have T5:=Kv et hn nm
       obtain ⟨_,_,oe5,ws5,_,_,_,_,f1,f2,f3,_⟩:=id fly5
       refine nG (wpAny_handleBy_cons (codeAny_handlers_test ?_) (by intro q;cases q))
       clear nG
       refine Calls.Name_function_global I5.ok.kind hgS (Calls.loadGlobal_global (by rw [I5.ok.glob];exact I5.mod.glob.keeps I5.bk) hmS ?_) (by decide)
       refine (exm_one (M:=model X.prog X.w) I5.kIn (TyAt.type ⟨oe5,f1,f2.1⟩) (T5.sw Sw hSw)).here ?_
       simp only [if_true]
       refine codeAny_handlers_suite_as (Zbk held5 fun h6 held6 sm6 D6=>?_)
       obtain ⟨un6,hok6,fly6⟩:=RA un hok fnew e5 fno e6 frN frO held6.1 ((sm4.trans sm5).trans sm6) held6.2.2.2 e1 e11 ((D4.trans D5).trans D6)
       have I6:Inv X pins σ H' {s1 with heap:=h6}:=I.call' (s':={s1 with heap:=h6}) os un6 hok6 bare (fun b hb=>absurd hb (by simp))
       obtain ⟨_,_,oe6,ws6,_,_,_,_,g1,g2,g3,_,_,_,_,_,_,_,g11⟩:=id fly6
       have older:∀b,s.heap.get? b=none→X.s₀.heap.get? b=none:=lv.older I
       have xok:ObjOk X.prog X.w (Ak H' ae (.ext (Fe Cc da ae))) h6 ae (.ext (Fe Cc da ae)):=
        ⟨⟨oe6,ws6,g1,g2.1,fun d z=>g11.trans z,g3⟩,⟨oe6,g1⟩,fun ha hb' z2_ k'=>by obtain ⟨o,w',z1,z2,z3,z4⟩:=z2_;exact (⟨o,w',k' o z1,z2,z3,z4⟩)⟩
       have neL:ae≠X.env.locals:=fun z=>by
        obtain ⟨mL,⟨oL,_,_,hoL,_⟩,_⟩:=I.loc
        rw [←z,fnew] at hoL;cases hoL
       have neC:∀x c,X.env.cells.lookup x=some c→c≠ae:=fun x c ex z=>by
        obtain ⟨v,o,hoc,_⟩:=I.cell x c ex
        rw [z,fnew] at hoc;cases hoc
       have neP:∀q∈X.pn++pins,q.1≠ae:=fun q hq z=>by
        have:=(I.pin q hq).1
        rw [z,fnew] at this;cases this
       have I6':=LS.Inv.track I6 (older ae fnew) fno neL neC neP xok
       have kx:Kp H' (Ak H' ae (.ext (Fe Cc da ae))):=.new fno
       refine JE (v:=.ref ae) I6' nd hN2 (.inl S.k2) rfl (fun s7 I7 _=>?_) (.inr S.k2)
       split at p
       rename_i is his
       split at p
       ·rename_i d h2 hk2
        have hr7:HR X.K m' h1 (Ak H' ae (.ext (Fe Cc da ae))):=hr'.new fno
        have er7:ER X.K m' (Ak H' ae (.ext (Fe Cc da ae))) (ρ.set 2 (some (.exc n' is))) (σ.set 2 (some (.ref ae))):=
         ((er.keep p1 k1).keep (Az _) kx).set (by simp only [DV];exact ⟨ae,Cc,da,rfl,nm,BN,fun f i z=>by
           obtain ⟨b,fv,v,q1,q2,q3,q4⟩:=xd f _ (RB his z)
           simp only [DV] at q4
           exact ⟨b,fv,q1,by rw [Ao (Bw q2 fno)];exact q2,by rw [q3,q4]⟩⟩)
        have hρ:2 < ρ.length:=by rw [er.1,I.len,S.N];decide
        have sx:Cn (FB X ae) E0 [.Assign [.Name "_law_word" p8] (.Call (.Name "_law_kind" p9) [.Name "_law_e" p10] [] p11) p12] (An 1 (Ae Fk (Aa (Ab 2) Ac))):=
         J6 (M1 (X:=FB X ae) (i:=1) nd hN1 (Or.inl S.k1) (Zbh (X:=FB X ae) hkind (RoomM.of hr _) (JZ (MX (X:=FB X ae) (Mq (X:=FB X ae) hN2 (.inl S.k2))) JY) (GF _) hgK) (hf:=.inr S.k1))
        have post:GL (FB X ae).K E0 (An 1 (Ae Fk (Aa (Ab 2) Ac))) {nx:=fun σ' H''=>Dn.nx (σ'.set 2 none) H'',rt:=fun _ _=>False} (σ.set 2 (some (.ref ae))) (Ak H' ae (.ext (Fe Cc da ae))):=by
         refine ⟨m',ρ.set 2 (some (.exc n' is)),h1,hr7,er7,?_⟩
         have ev:An 1 (Ae Fk (Aa (Ab 2) Ac)) (ρ.set 2 (some (.exc n' is))) h1=.ok (.nx,(ρ.set 2 (some (.exc n' is))).set 1 (some d)) h2:=by
          unfold An Ae Aa Ac Ab
          rw [BV hρ]
          simp only [Out.bind_ok]
          rw [hk2]
          rfl
         rw [ev]
         intro m2 H2 p2 k2 hr2 σ' er2
         refine p m2 H2 (p1.trans p2) ((k1.trans kx).trans k2) hr2 _ ⟨by simp [er2.1.symm],fun i di e=>?_⟩
         by_cases hi:2=i
         ·subst hi
          rw [BV (by simpa using hρ)] at e
          cases e
         ·rw [BG hi] at e
          obtain ⟨v,z1,z2⟩:=er2.2 i di (by
           by_cases h1i:1=i
           ·subst h1i
            rw [BV (by omega)] at e
            rw [BV (by simp;omega)];exact e
           ·rw [BG h1i] at e
            rw [BG h1i,BG hi];exact e)
          exact ⟨v,by rw [BG hi];exact z1,z2⟩
        refine wpAny_mono (sx pins s7 _ _ _ (Inv.marked I7) post) (fun fl s8 h8=>?_) fun _ _ z=>False.elim z
        cases fl with
        |next=>
         obtain ⟨σ',H'',I8,q8⟩:=h8
         exact Zbl (Inv.unmarked I.ok I8) nd hN2 S.k2 fun s9 I9=>⟨_,H'',I9,q8⟩
        |ret u=>obtain ⟨_,_,_,_,_,z⟩:=h8;exact False.elim z
        |brk=>obtain ⟨_,_,_,z⟩:=h8;exact False.elim z
        |cont=>obtain ⟨_,_,_,z⟩:=h8;exact False.elim z
       ·exact p.elim
       ·exact p.elim
     ·exact p.elim
    |_=>exact p.elim
  ·exact p.elim
 ·exact p.elim
end
end LS
namespace LS
open PySem PySem.Spec PyProof.Rows L2 PySem.W
variable {g:Str}
noncomputable def NO (Fk:List D→HD→Out D):Out D→Out D
 |.ok _ h1=>.ok (.str "told") h1
 |.err (.str n _) fs h1=>if n∈excNames then (match EX fs with
  |some is=>(match Fk [.exc n is] h1 with
   |.ok d h2=>.ok d h2
   |_=>.stuck)
  |none=>.stuck) else .stuck
 |_=>.stuck
noncomputable def DB (j:Nat) (g:Str) (cs:List Nat) (Fk:List D→HD→Out D) (f:ME):ME:=fun ρ h=>match (h[j]?:Option Cell),AC (cs.map fun j=>(ρ[j]?).join) with
 |some (.tabn g'),some ds=>if g'=g then NO Fk (f (ds.map some) h) else .stuck
 |_,_=>.stuck
noncomputable abbrev FC (cs:List Nat) (Fk:List D→HD→Out D) (f:ME):ME:=DB 0 "law" cs Fk f
structure LSc (X:Cx) (scope:Scope) (Nc:List Str) (cs:List Nat):Prop where
 lam:LamSc scope
 nd:(scope.names.map (·.1)).Nodup
 free:(scope.names.all fun y=>y.2 != .free||(X.env.kindOf y.1==some .cell||X.env.kindOf y.1==some .free))=true
 len:cs.length=Nc.length
 out:((Nc.zip cs).all fun p=>X.N[p.2]?==some p.1&&scope.names.lookup p.1==some .free)=true
theorem LSc.at_ {X:Cx} {scope:Scope} {Nc:List Str} {cs:List Nat} (S:LSc X scope Nc cs) {i j:Nat} {x:Str} (h1:Nc[i]?=some x) (h2:cs[i]?=some j):X.N[j]?=some x∧scope.names.lookup x=some .free:=by
 have hz:(Nc.zip cs)[i]?=some (x,j):=by
  rw [List.getElem?_zip_eq_some]
  exact ⟨h1,h2⟩
 have:=qaN.mp S.out (x,j) (E8 hz)
 simpa using this
theorem LSc.fr {X:Cx} {scope:Scope} {Nc:List Str} {cs:List Nat} (S:LSc X scope Nc cs):∀y∈scope.names,y.2=.free→X.env.kindOf y.1=some .cell∨X.env.kindOf y.1=some .free:=fun y hy e=>by
 have:=qaN.mp S.free y hy
 rw [e] at this
 simpa using this
theorem RC {K:Frag} {m:List Addr} {H:Hp} {ρ:Ag} {σ:L2.St} (er:ER K m H ρ σ):∀{cs:List Nat} {ds:List D},AC (cs.map fun j=>(ρ[j]?).join)=some ds→∃vs,DVs K m H ds vs∧vs.length=cs.length∧∀(i:Nat) (v:V),vs[i]?=some v→∃j,cs[i]?=some j∧σ[j]?=some (some v)
 |[],ds,e=>by
  simp [AC] at e
  subst e
  exact ⟨[],.nil,rfl,fun i v z=>by simp at z⟩
 |j::cs,ds,e=>by
  rw [BD] at e
  cases ed:(ρ[j]?).join with
  |none=>rw [ed] at e;simp [AC] at e
  |some d=>
   rw [ed] at e
   simp only [AC,qaW] at e
   obtain ⟨ds',e1,rfl⟩:=e
   obtain ⟨vs,h1,h2,h3⟩:=RC er e1
   obtain ⟨v,e2,r⟩:=er.2 j d (join_some.mp ed)
   refine ⟨v::vs,.cons r h1,by simp [h2],fun i v' z=>?_⟩
   cases i with
   |zero=>simp at z;subst z;exact ⟨j,rfl,e2⟩
   |succ i=>simpa using h3 i v' (by simpa using z)
section
variable {X:Cx} {E:XK} {c P:Addr} {Nc:List Str} {cs:List Nat} {params:Arguments} {body:Expr} {scope:Scope}
theorem Zbo {α:Type} {l:List (Str×α)} {x:Str} {v:α} (h:(x,v)∈l):∃w,l.lookup x=some w:=by
 cases e:l.lookup x with
 |some w=>exact ⟨w,rfl⟩
 |none=>
  have:=List.lookup_eq_none_iff.mp e _ h
  simp at this
theorem Zbp {j:Nat} {k:Nat} {Fk:List D→HD→Out D} {f:ME} {fs:Addr} {fd:FuncData} {st:Stmt} {lpos p pos p1 p2 p3 p4 p5 p6 p7 p8 p9 p10 p11 p12 p13 p14 p15 p16:Pos} {j1:Nat} (L:LamX g X c P) (fna:∀x,X.fn x=true) (hr:Room (k+2) X.A) (lv:Lv X E) (et:etOk X.K=true)
 (hsw:∃Sw,nsIn X.K mainGlobals "SwitchError"=some (some (.ref Sw)))
 (Fn:Fun X.K "_law_said" "_law_said" st fs fd) (hbd:Binds X.K fd ["_law_call"] []) (hm:X.mg "_law_said"=some (.ref fs)) (hkp:keepIn X.K (.ref fs)=true)
 (Sf:CQ ["_law_call","_law_word","_law_e"] ["_law_call"] (defScope st)) (hk0:(defScope st).names.lookup ("_law_call":Str)=some .local) (hk1:(defScope st).names.lookup ("_law_word":Str)=some .local) (hk2:(defScope st).names.lookup ("_law_e":Str)=some .local)
 (hgS:∀L' cd,(envOfC "_law_said" (defScope st) L' fs cd).kindOf "SwitchError"=some .globalImplicit) (hgK:∀L' cd,(envOfC "_law_said" (defScope st) L' fs cd).kindOf "_law_kind"=some .globalImplicit)
 (hst:defBody st=[.Assign [.Name "_law_word" p1] (.Constant (.str "told") j1 p2) p3,.Try [.Expr (.Call (.Name "_law_call" p4) [] [] p5) p6] [.ExceptHandler (some (.Name "SwitchError" p7)) (some "_law_e") [.Assign [.Name "_law_word" p8] (.Call (.Name "_law_kind" p9) [.Name "_law_e" p10] [] p11) p12] p13] [] [] p14,.Return (some (.Name "_law_word" p15)) p16])
 (hkind:CaM X.prog X.w X.K X.mg X.base "_law_kind" k Fk) (hg:Gl X "_law_said") (S:LSc X scope Nc cs) (hdef:defaultsOf params X.env=([],[]))
 (hbind:∀(cl:List (Str×Addr)) (pm cv ctv:Value),bindArgs (kla_fn "<lambda>" (Bg g) params body scope cl pm cv ctv) ⟨[],[]⟩=pure [])
 (hb:∀(a:Addr) (cd:Value) (cl:List (Str×Addr)) (A:Around) (outer:List Env) (s:Shared) (H:Hp) (E':XK),Room k (A.deeper (envX (Bg g) scope s.heap.objs.size a cd cl))→Ev (Eo g X.prog X.w X.K X.mg X.base Nc scope a cd cl A outer s H E') E' body f)
 (he:starEach [.Lambda params body scope lpos] X.env=(false,eval (.Lambda params body scope lpos) X.env)::starEach [] X.env:=by rfl) (hpl:(backTo pos (starEach [] X.env)).any (·.1)=false:=by rfl):
 Ev X E (.Call (.Name "_law_said" p) [.Lambda params body scope lpos] [] pos) (DB j g cs Fk f):=by
 rintro pins s σ H Q I ⟨m,ρ,h,hr1,er,pp⟩
 unfold DB at pp
 split at pp
 ·rename_i g' ds et0 eds
  split at pp
  rotate_left
  ·exact pp.elim
  rename_i hgg
  have hgg:=hgg.symm
  subst hgg
  obtain ⟨aP,haP,tab⟩:=hr1.at et0
  obtain ⟨⟨cc,htp⟩,tabr⟩:=id tab
  rw [L.tp] at htp
  cases htp
  obtain ⟨vs,dvs,vlen,vat⟩:=RC er eds
  obtain ⟨cl,hclos,hcl,hcl2⟩:=Qd (scope:=scope) (env:=X.env) fun y hy hf=>I.ok.has y.1 (S.fr y hy hf)
  refine wpAny_Call_Name_kw (Fc I hg hm ?_ (by decide))
  refine PySem.W.callWith_K (h₀:=X.base) I.ok.mod.kin hkp ?_ he hpl
  rw [he]
  show wpAny _ _ (spliced ((false,eval (.Lambda params body scope lpos) X.env)::[])) _ _ s
  refine Calls.spliced_cons (Zbc L I tab hdef hclos fun a c' ctv pm h' tk H' I' kp tab' same keep hsz no ob code=>?_)
  refine wpAny_pure ⟨I'.kIn,wpAny_call ?_⟩
  generalize hs1:({s with heap:=h',toks:=tk}:Shared)=s1 at I'
  have hh1:s1.heap=h':=by rw [←hs1]
  have hrN:HR X.K m h H':=hr1.tab kp same tab' tab et0 haP
  have frLt:∀b∈frs X.stack,b<s.heap.objs.size:=fun b hb=>by
   obtain ⟨_,o,ho,_⟩:=I.stack.mem hb
   exact AA ho
  have cof:∀x c,cl.lookup x=some c→X.env.cells.lookup x=some c:=fun x c e=>(hcl x c (mem_of_lookup e)).1
  have hasC:∀x,scope.names.lookup x=some .free→∃c,cl.lookup x=some c:=fun x e=>by
   obtain ⟨c,hc⟩:=hcl2 _ (mem_of_lookup e) rfl
   exact Zbo hc
  have C1:Iw s1.heap H' X.stack Nc scope cl vs:=by
   refine ⟨by rw [vlen,S.len],fun x y c e1 e2=>I.ok.inj x y c (cof x c e1) (cof y c e2),hasC,fun x c e=>?_,fun i x v e1 e2=>?_⟩
   ·refine ⟨I'.cell x c (cof x c e),I'.freeC x c (cof x c e),fun z=>?_⟩
    rcases qa4.mp (I.stkSub c z) with z |z
    ·exact I.cne x c (cof x c e) z
    ·obtain ⟨_,o,ho,_⟩:=I.ok.funs.mem z
     exact absurd (AR (AA ho) (I.ok.cab x c (fna x) (cof x c e))) (CO _)
   ·obtain ⟨j,ej,sj⟩:=vat i v e2
    obtain ⟨hN,hf⟩:=S.at_ e1 ej
    have hk:=S.fr _ (mem_of_lookup hf) rfl
    obtain ⟨m0,hn0,hl0⟩:=I'.loc
    obtain ⟨u,r,lk⟩:=hl0 j x v hN sj (by rcases hk with z |z;exact .inr (.inl z);exact .inr (.inr z))
    refine ⟨hf,?_⟩
    rcases lk with ⟨z,_⟩ |⟨_,c,e3,e4⟩
    ·rcases hk with y |y<;>(rw [z] at y;cases y)
    ·obtain ⟨c2,e5⟩:=hasC x hf
     have:=cof x c2 e5
     rw [e3] at this
     cases this
     exact ⟨c,u,e5,e4,r⟩
  obtain ⟨oc,od,kV,doc,pm2,an,cdv,ct,osl,rfl,lk,hcd⟩:=Fn.ex
  have e0:=I'.env0
  have KX:X.K.In s1.heap:=I'.kIn
  have lim:s1.heap.NoLimit:=I'.nolimit
  have hkind2:∀y∈(["_law_call"]:List Str).zip [Value.ref a],(defScope st).names.lookup y.1=some .local∨((defScope st).names.lookup y.1=some .cell∧((cellsFrom (s1.heap.objs.size+1) (defScope st).names []).lookup y.1).isSome=true):=fun y hy=>by
   have:y=(("_law_call":Str),Value.ref a):=by simpa using hy
   subst this
   exact .inl hk0
  have bt:=hbd s1 [.ref a] I'.kIn rfl
  rw [D9] at bt
  refine codeAny_mono (R:=CR (AO X.prog X.w X.K) X.stack X.prog X.w H' s1 Q E) ?_ fun r s' hq=>?_
  ·refine codeAny_call_function hr.depth (KX _ _ lk) rfl Sf.co Sf.gen rfl (PySem.W.codeRec_of KX hcd) (bt _ _ _ _ ?_)
   refine wpAny_newFunctionEnv_cells Sf.kind hkind2 fun env he2 s2 x=>?_
   subst he2
   refine ⟨lim.keeps x.toInCall.keep,codeAny_func ?_⟩
   have I2:Inv (Bx (AO X.prog X.w X.K) X.prog X.w X.K X.mg X.base ["_law_call","_law_word","_law_e"] "_law_said" (defScope st) fs cdv X.A X.stack s1 H' E) [] (L2.start ["_law_call","_law_word","_law_e"] [.ref a]) H' s2:=
    Pt Sf hr.hd e0 rfl (.cons rfl .nil) x
   obtain ⟨ps,hps,hca⟩:=code
   have tri:TriplesOk ps.toList:=by
    obtain ⟨_,ps',z1,z2,_⟩:=tab'
    rw [hps] at z1;cases z1;exact z2
   have SX:SaidX g (Bx (AO X.prog X.w X.K) X.prog X.w X.K X.mg X.base ["_law_call","_law_word","_law_e"] "_law_said" (defScope st) fs cdv X.A X.stack s1 H' E) P a c' lpos Nc params body scope cl pm ctv vs:=
    ⟨rfl,hk0,hk1,hk2,⟨c,L.tp⟩,⟨ps,hps,tri,hca⟩,by show s1.heap.get? a=_;rw [hh1];exact ob,no,fun z=>absurd (AR (frLt a z) hsz) (CO _),C1⟩
   have hrS:Room (k+1) (Bx (AO X.prog X.w X.K) X.prog X.w X.K X.mg X.base ["_law_call","_law_word","_law_e"] "_law_said" (defScope st) fs cdv X.A X.stack s1 H' E).A:=hr.deeper _
   have bx:=J7 (M1 (X:=Bx (AO X.prog X.w X.K) X.prog X.w X.K X.mg X.base ["_law_call","_law_word","_law_e"] "_law_said" (defScope st) fs cdv X.A X.stack s1 H' E) (E:=E) (i:=1) (pos:=p3) (pos':=p1) Sf.nd rfl (Or.inl hk1) (PP (x:="told") (j:=j1) (pos:=p2)))
    (J7 (Zbn (j:=j) (p4:=p4) (p5:=p5) (p6:=p6) (p7:=p7) (p8:=p8) (p9:=p9) (p10:=p10) (p11:=p11) (p12:=p12) (p13:=p13) (p14:=p14) Kl SX hrS et hsw (hgS _ _) (hgK _ _) hkind S.lam (hbind cl pm (.ref c') ctv) (fun s H E'=>hb a (.ref c') cl _ _ s H E'))
     (J6 (P6 (pos:=p16) (MX (Mq (i:=1) (x:="_law_word") (pos:=p15) rfl (.inl hk1))))))
   rw [←hst] at bx
   have post:GL X.K E (Af (An 1 (mC (.str "told"))) (Af (Kx j g a vs Fk f) (Al (Ab 1)))) {nx:=fun _ H''=>Q .non H'',rt:=Q} (L2.start ["_law_call","_law_word","_law_e"] [.ref a]) H':=by
    refine ⟨m,[some (.clo a vs ds),none,none],h,hrN,?_,?_⟩
    ·refine ⟨rfl,fun i d e=>?_⟩
     match i,e with
     |0,e=>cases e;exact ⟨.ref a,rfl,by unfold DV;exact ⟨rfl,DVs.keep (Az _) kp dvs⟩⟩
     |1,e=>cases e
     |2,e=>cases e
     |i+3,e=>cases e
    ·have p2:=Post.ahead (Az m) kp pp
     unfold Af An mC
     simp only [Out.bind_ok]
     unfold Kx
     simp only [List.set_cons_succ,List.set_cons_zero,List.getElem?_cons_zero,et0,and_self,if_true]
     unfold NO at p2
     cases ho:f (ds.map some) h with
     |stuck=>rw [ho] at p2;exact p2.elim
     |ok d h1=>
      rw [ho] at p2
      exact fun m' H'' p1 k1 hr' v rv=>p2 v m' H'' p1 k1 hr' rv
     |err Cv fs h1=>
      rw [ho] at p2
      cases Cv with
      |str n t=>
       simp only at p2 ⊢
       split at p2
       ·rename_i hn
        simp only [hn,if_true]
        cases hi:EX fs with
        |none=>rw [hi] at p2;exact p2.elim
        |some is=>
         rw [hi] at p2
         simp only at p2 ⊢
         cases hk:Fk [.exc n is] h1 with
         |stuck=>rw [hk] at p2;exact p2.elim
         |err _ _ _=>rw [hk] at p2;exact p2.elim
         |ok d h2=>
          rw [hk] at p2
          exact fun m' H'' p1 k1 hr' v rv=>p2 v m' H'' p1 k1 hr' rv
       ·exact p2.elim
      |_=>exact p2.elim
   refine wpAny_mono (bx [] s2 _ H' _ I2 post) (fun fl s' hs=>?_) fun e s' hs=>hs
   cases fl with
   |ret u=>
    obtain ⟨v,σ',H'',J,rv,q⟩:=hs
    exact ⟨v,H'',J.os,J.bare,J.base,J.hok,rv,q⟩
   |next=>
    obtain ⟨σ',H'',J,q⟩:=hs
    exact ⟨V.non,H'',J.os,J.bare,J.base,J.hok,rfl,q⟩
   |brk=>
    obtain ⟨_,_,_,q⟩:=hs
    exact False.elim q
   |cont=>
    obtain ⟨_,_,_,q⟩:=hs
    exact False.elim q
  ·cases r with
   |error e=>exact Nq lv pins σ H' s1 e s' I' hq
   |ok fl=>
    cases fl with
    |ret u=>exact I'.after hq
    |next=>exact False.elim hq
    |brk=>exact False.elim hq
    |cont=>exact False.elim hq
 ·exact pp.elim
end
end LS
namespace LS
open PySem PySem.Spec PyProof.Rows L2 PySem.W
def He (mg:Str→Option Value) (base:Heap):Prop:=∃bm o,mg "__builtins__"=some (.ref bm)∧bm≠builtinsNs∧base.get? bm=some o∧o.cls=.type "module"∧o.dict=some builtinsNs∧o.data=.plain
open AutoSeq1 (wpAny_loadPart')
theorem Zbq:fillsNumberSlot (.type "tuple") "mul"=pure false:=by
 first |exact noFill_tuple_mul' |(unfold fillsNumberSlot;kernel_rfl)
theorem Zbr:seqRepeat? (.type "tuple")=pure (some (.builtin "tuple.__mul__")):=by
 unfold seqRepeat?
 rw [PySem.seqSlot_of (T:="tuple") (name:="__mul__") (id:="tuple.__mul__") F.slot_tuple_mul.lookup (by decide +kernel),PySem.seqSlot_of (T:="tuple") (name:="__rmul__") (id:="tuple.__rmul__") (by rw [typeLookup_type,builtinLookup_eq_fast];kernel_rfl) (by decide +kernel)]
 rfl
theorem Zbs (a:Int) (t:Tok) (l:Addr) (items:Array Value) (n:Nat) (dd:Option Addr) (sl:Array (Option Value)):
 Meets (Builtin.«int.__rmul__» ⟨[.int a t,.ref l],[]⟩) (fun _ R s=>s.heap.get? l=some {cls:=.type "tuple",dict:=dd,data:=.seq items n,slots:=sl}∧R (.ok (.ret Value.notImplemented)) s):=
 .of_wp fun prog w A R s h=>by
  obtain ⟨hp,g,d,tk,os⟩:=s;obtain ⟨hl,h⟩:=h
  wp_walk;exact ⟨_,rfl,h⟩
theorem Zbt (l:Addr) (items:Array Value) (n:Nat) (dd:Option Addr) (sl:Array (Option Value)) (x:Int) (u:Tok) (h1:1<x) (h2:x<2^63) (hne:items.isEmpty=false) (hz:items.size*x.toNat≤sizeLine):
 Meets (Builtin.«tuple.__mul__» ⟨[.ref l,.int x u],[]⟩) (fun _ R s=>s.heap.get? l=some {cls:=.type "tuple",dict:=dd,data:=.seq items n,slots:=sl}∧R (.ok (.ret (Value.ref s.heap.objs.size))) {s with heap:=s.heap.push {cls:=Value.type "tuple",data:=Data.seq (List.foldl (fun x1 x2=>x1++x2) #[] (List.replicate x.toNat items))}}):=
 .of_wp fun prog w A R s h=>by
  obtain ⟨hp,g,d,tk,os⟩:=s;obtain ⟨hl,h⟩:=h
  have c1:(decide (x < -2^63)||decide (x≥2^63))=false:=by simp;omega
  have c2:(items.isEmpty||x==1)=false:=by
   rw [hne,Bool.false_or]
   exact beq_eq_false_iff_ne.mpr (by omega)
  have c3:(decide (x≤0)||items.isEmpty)=false:=by
   rw [hne,Bool.or_false]
   exact decide_eq_false (by omega)
  have hx:(x.toNat:Int)=x:=Int.toNat_of_nonneg (by omega)
  have hz':(items.size:Int)*x≤sizeLine:=by rw [←hx];exact_mod_cast hz
  have c4:¬((items.size:Int)*x>(2^63 - 1) / 8):=by
   have:(sizeLine:Int)≤(2^63 - 1) / 8:=by decide
   omega
  have c5:Builtin.Tuple.tupleTooMany ((items.size:Int)*x)=false:=by
   unfold Builtin.Tuple.tupleTooMany
   exact decide_eq_false (by omega)
  have c6:(List.foldl (fun x1 x2=>x1++x2) #[] (List.replicate x.toNat items)).size≤sizeLine:=by
   have f0:=JP items.toList x.toNat []
   rw [JA] at f0
   have:List.foldl (fun x1 x2=>x1++x2) #[] (List.replicate x.toNat items)=(List.replicate x.toNat items.toList).flatten.toArray:=by simpa using f0
   rw [this,AW,JQ,Nat.mul_comm]
   simpa using hz
  wp_walk using wpAny_loadPart' hl
  rw [c1]
  simp only [Bu,if_false]
  refine wpAny_bind ?_
  unfold Builtin.Tuple.tupleItemsOf
  wp_walk using wpAny_loadPart' hl
  rw [c2]
  simp only [Bu,if_false]
  rw [c3]
  simp only [Bu,if_false]
  rw [if_neg c4,c5]
  simp only [Bu,if_false]
  refine wpAny_bind (wpAny_newObj_type (wpAny_pure ⟨_,rfl,h⟩) c6)
theorem Zbu (l:Addr) (items:Array Value) (n:Nat) (dd:Option Addr) (sl:Array (Option Value)) (u:Tok):
 Meets (Builtin.«tuple.__mul__» ⟨[.ref l,.int 1 u],[]⟩) (fun _ R s=>s.heap.get? l=some {cls:=.type "tuple",dict:=dd,data:=.seq items n,slots:=sl}∧R (.ok (.ret (Value.ref l))) s):=
 .of_wp fun prog w A R s h=>by
  obtain ⟨hp,g,d,tk,os⟩:=s;obtain ⟨hl,h⟩:=h
  have c1:(decide ((1:Int) < -2^63)||decide ((1:Int)≥2^63))=false:=by decide
  have c2:(items.isEmpty||(1:Int)==1)=true:=by simp
  wp_walk using wpAny_loadPart' hl
  exact ⟨_,rfl,h⟩
theorem Zbv (l:Addr) (items:Array Value) (n:Nat) (dd:Option Addr) (sl:Array (Option Value)) (x:Int) (u:Tok) (h1:-(2^63)≤x) (h2:x≤0) (hne:items.isEmpty=false):
 Meets (Builtin.«tuple.__mul__» ⟨[.ref l,.int x u],[]⟩) (fun _ R s=>s.heap.get? l=some {cls:=.type "tuple",dict:=dd,data:=.seq items n,slots:=sl}∧R (.ok (.ret (Value.ref s.heap.objs.size))) {s with heap:=s.heap.push {cls:=Value.type "tuple",data:=Data.seq #[]}}):=
 .of_wp fun prog w A R s h=>by
  obtain ⟨hp,g,d,tk,os⟩:=s;obtain ⟨hl,h⟩:=h
  have c1:(decide (x < -2^63)||decide (x≥2^63))=false:=by simp;omega
  have c2:(items.isEmpty||x==1)=false:=by
   rw [hne,Bool.false_or]
   exact beq_eq_false_iff_ne.mpr (by omega)
  have c3:(decide (x≤0)||items.isEmpty)=true:=by
   rw [hne,Bool.or_false]
   exact decide_eq_true h2
  wp_walk using wpAny_loadPart' hl
  rw [c1]
  simp only [Bu,if_false]
  refine wpAny_bind ?_
  unfold Builtin.Tuple.tupleItemsOf
  wp_walk using wpAny_loadPart' hl
  rw [c2]
  simp only [Bu,if_false]
  rw [c3]
  simp only [if_true]
  refine wpAny_bind (wpAny_newObj_type (wpAny_pure ⟨_,rfl,h⟩) (by show (#[]:Array Value).size≤sizeLine;simp))
section
variable {X:Cx} {E:XK}
def Zbw (K:Frag):R2:=fun x y H Q=>∃l k xs,x=.ref l∧y=.int k∧H l=some (.tup xs)∧xs≠[]∧-(2^63)≤k∧k<2^63∧xs.length*k.toNat≤sizeLine∧(k=1→Q (.ref l) H)∧
 ∀p,H p=none→Q (.ref p) (Ak H p (.tup (List.replicate k.toNat xs).flatten))
theorem Inv.tnew {pins:List (Addr×Obj)} {σ:L2.St} {H:Hp} {s:Shared} {ys:List V} {its:List Value} {t':Nat} (I:Inv X pins σ H s) (hv:Vals ys its) (hz:ys.length≤sizeLine):
 Inv X pins σ (Ak H s.heap.objs.size (.tup ys)) {s with heap:=s.heap.push {cls:=.type "tuple",data:=.seq its.toArray},toks:=t'}:=
 I.laid (fun _ _ q=>AB _ q) (AG _) ⟨hz,its,hv,⟨_,Bf _ rfl,rfl,0,rfl⟩,NoDict.new⟩
theorem op_repT:OpR X (binaryOp .Mult) (Zbw X.K):=by
 intro pins s σ H x y v u Q I rx ry h
 obtain ⟨l,k,xs,rfl,rfl,hH,hne,h1,h2,hz,q1,q⟩:=h
 cases rx
 obtain ⟨t,rfl⟩:=ry
 obtain ⟨z,its,r,⟨o,ho,hc,n,hd⟩,_⟩:=(show ObjOk X.prog X.w H s.heap l (.tup xs) from I.hok l _ hH)
 obtain ⟨oc,dd,dat,sl⟩:=o
 simp only at hc hd
 subst hc hd
 have hl:=r.length
 have hine:its.toArray.isEmpty=false:=by
  cases its with
  |nil=>exfalso;cases xs with
   |nil=>exact hne rfl
   |cons _ _=>simp at hl
  |cons a b=>simp
 have mul:∀{Q':Value→Shared→Prop},wpAny (model X.prog X.w) X.A (call (.builtin "tuple.__mul__") [.ref l,.int k t]) Q' X.xe s→wpAny (model X.prog X.w) X.A (binaryOp .Mult (.ref l) (.int k t)) Q' X.xe s:=fun {Q'} hq=>
  wpAny_binaryOp_repeat_ref (T:="tuple") (U:="int") (by decide) ⟨_,ho,rfl⟩ (fun s'=>typeIs_int s' k t) Zbq F.fills_int_mul F.slot_int_rmul Zbr F.slot_int_index.lookup
   (call_meets F.slot_int_rmul (typeIs_int s k t) F.entry_int_rmul (F.args_int_rmul_2 _ _) (Zbs k t l its.toArray n dd sl) ⟨ho,rfl,⟨_,ho,rfl⟩,hq⟩)
 refine mul ?_
 rcases Int.lt_trichotomy k 1 with hk |hk |hk
 ·refine call_meets F.slot_tuple_mul ⟨_,ho,rfl⟩ F.entry_tuple_mul (F.args_tuple_mul_2 _ _) (Zbv l its.toArray n dd sl k t h1 (by omega) hine) ⟨ho,?_⟩
  have e:(List.replicate k.toNat xs).flatten=[]:=by
   have:k.toNat=0:=by omega
   rw [this];rfl
  have:=q _ I.fresh
  rw [e] at this
  exact ⟨.ref _,_,LS.Inv.tnew (its:=[]) (t':=s.toks) I .nil (Dq _),rfl,this⟩
 ·subst hk
  refine call_meets F.slot_tuple_mul ⟨_,ho,rfl⟩ F.entry_tuple_mul (F.args_tuple_mul_2 _ _) (Zbu l its.toArray n dd sl t) ⟨ho,?_⟩
  exact ⟨.ref l,H,I,rfl,q1 rfl⟩
 ·refine call_meets F.slot_tuple_mul ⟨_,ho,rfl⟩ F.entry_tuple_mul (F.args_tuple_mul_2 _ _) (Zbt l its.toArray n dd sl k t hk h2 hine (by rw [AW,←hl];exact hz)) ⟨ho,?_⟩
  have f0:=JP its k.toNat []
  rw [JA] at f0
  have f1:List.foldl (fun x1 x2=>x1++x2) #[] (List.replicate k.toNat its.toArray)=(List.replicate k.toNat its).flatten.toArray:=f0
  rw [f1]
  exact ⟨.ref _,_,LS.Inv.tnew (t':=s.toks) I (r.rep k.toNat) (by rw [JQ,Nat.mul_comm];exact hz),rfl,q _ I.fresh⟩
noncomputable def Cd:D→D→HD→Out D:=fun x y h=>match x,y with
 |.tup xs,.int k=>@ite _ (xs≠[]∧-(2^63)≤k∧k<2^63∧xs.length*k.toNat≤sizeLine) (Classical.propDecidable _) (.ok (.tup (List.replicate k.toNat xs).flatten) h) .stuck
 |_,_=>Dl x y h
theorem Zbx:Bh X (binaryOp .Mult) Cd:=by
 obtain ⟨r0,hr0,i0⟩:=Z3 (X:=X)
 refine ⟨_,op_repT.or hr0,fun m H h E x y v u Q hr rx ry q=>?_⟩
 unfold Cd at q
 split at q
 ·rename_i xs k
  split at q
  ·rename_i hc
   obtain ⟨hne,h1,h2,hz⟩:=hc
   simp only [DV] at rx ry
   obtain ⟨a,vs,rfl,ha,dv⟩:=rx
   subst ry
   refine .inl ⟨a,k,vs,rfl,rfl,ha,?_,h1,h2,by rw [←dv.len];exact hz,fun e=>?_,?_⟩
   ·intro e;have:=dv.len;rw [e] at this;exact hne (List.length_eq_zero_iff.mp this)
   ·subst e
    refine A3 hr q ?_
    simp only [DV]
    exact ⟨a,vs,rfl,ha,by simpa using dv⟩
   ·exact GO hr (DVs.rep dv k.toNat) q
  ·exact q.elim
 ·exact .inr (i0 m H h E x y v u Q hr rx ry q)
end
end LS
namespace LS
open PySem PySem.Spec PyProof.Rows L2 PySem.W
section
variable {X:Cx} {E:XK}
abbrev MJ:=Str→Ag→HD→Out Str
def Zby:MJ:=fun acc _ h=>if acc.length≤sizeLine then .ok acc h else .stuck
def Zbz (y:Str) (r:MJ):MJ:=fun acc ρ h=>if (acc++y).length≤sizeLine then r (acc++y) ρ h else .stuck
def RD (f:ME) (r:MJ):MJ:=fun acc ρ h=>(f ρ h).bind fun d h1=>match d with
 |.int i=>if i.natAbs.log2<1920∧(acc++(toString i:Str)).length≤sizeLine then r (acc++(toString i:Str)) ρ h1 else .stuck
 |_=>.stuck
def NP (fj:MJ):ME:=fun ρ h=>(fj Str.empty ρ h).bind fun x h1=>.ok (.str x) h1
def Bp:D→HD→Out D:=fun x h=>match AL h 8 x with
 |some p=>if p.showable=true∧p.hasDict=false∧p.depth≤40∧p.shown.length≤sizeLine then .ok (.str p.shown) h else .stuck
 |none=>.stuck
theorem ZbA (hu:X.A.units+64<cLine) (hg:X.A.guards=some []):CJ X (.builtin "repr") (Ai Bp):=by
 refine Rr (fun ds h=>?_) fun pins s σ H m h ds vs us Q I hr rd r q=>Fo rd q fun x v ev rx q=>?_
 ·unfold Ai Bp
  repeat' split
  all_goals trivial
 ·subst ev
  obtain ⟨u,rfl,ru⟩:=Ef r
  unfold Bp at q
  split at q
  ·rename_i p e
   split at q
   ·rename_i hc
    obtain ⟨h1,h2,h3,h4⟩:=hc
    obtain ⟨as,hd⟩:=M0 I.hok hr 8 x v u p rx ru e
    have AQ:∀(h':Heap) (t tk:Tok),(∀b o,s.heap.get? b=some o→h'.get? b=some o)→EP X pins σ Q (.str p.shown t) {s with heap:=h',toks:=tk}:=fun h' t tk hk=>⟨.str p.shown,H,I.kept hk,⟨t,rfl⟩,A3 hr q (by simp [DV])⟩
    cases hd with
    |list a1 a2 a3 a4=>exact repr_of_reads' (.list a1 a2 a3 a4) h1 (fun z=>by rw [h2] at z;cases z) hg (by omega) (fun _ _ e=>e) AQ h4
    |tuple a1 a2 a3 a4=>exact repr_of_reads' (.tuple a1 a2 a3 a4) h1 (fun z=>by rw [h2] at z;cases z) hg (by omega) (fun _ _ e=>e) AQ h4
    |dict a1 a2 a3 a4 a5=>cases h2
    |int i t=>
     have h1':i.natAbs.log2<1920:=by simpa [PyData.showable] using h1
     exact PySem.P.repr_of_int h1' (AQ s.heap _ _ fun _ _ e=>e)
    |none=>exact PySem.P.repr_of_none (AQ s.heap _ _ fun _ _ e=>e)
    |bool b=>exact PySem.P.repr_of_bool (AQ s.heap _ _ fun _ _ e=>e)
    |str x t=>exact PySem.P.repr_of_str (AQ s.heap _ _ fun _ _ e=>e) (by simpa [PyData.shown] using h4)
   ·exact q.elim
  ·exact q.elim
def Bi:D→D→HD→Out D:=fun x y h=>match x,y with
 |.str a,.str b=>.ok (.bl (a==b)) h
 |_,_=>HW x y h
def Br:D→D→HD→Out D:=fun x y h=>match x,y with
 |.str a,.str b=>.ok (.bl (!(a==b))) h
 |_,_=>DQ x y h
theorem RE (hu:X.A.units+64<cLine):Bh X (compareOp .Eq) Bi:=by
 obtain ⟨r0,hr0,i0⟩:=Y8 (X:=X) hu
 refine ⟨_,op_eq.or hr0,fun m H h E x y v u Q hr rx ry q=>?_⟩
 unfold Bi at q
 split at q
 ·simp only [DV] at rx ry
  subst rx ry
  exact .inl ⟨rfl,by rw [JI];exact A3 hr q (by simp [DV])⟩
 ·exact .inr (i0 m H h E x y v u Q hr rx ry q)
theorem ZbB (hu:X.A.units+64<cLine):Bh X (compareOp .NotEq) Br:=by
 obtain ⟨r0,hr0,i0⟩:=Y9 (X:=X) hu
 refine ⟨_,op_ne.or hr0,fun m H h E x y v u Q hr rx ry q=>?_⟩
 unfold Br at q
 split at q
 ·simp only [DV] at rx ry
  subst rx ry
  exact .inl ⟨rfl,by rw [JI];exact A3 hr q (by simp [DV])⟩
 ·exact .inr (i0 m H h E x y v u Q hr rx ry q)
def Ky:List Nat→List D→Ag→Option Ag
 |[],[],ρ=>some ρ
 |i::is,d::ds,ρ=>Ky is ds (ρ.set i (some d))
 |_,_,_=>none
def CT (is:List Nat):MG:=fun d ρ=>match d with
 |.tup ds=>Ky is ds ρ
 |_=>none
def NQ:List Nat→Ec
 |[]=>Ed
 |i::is=>Cg (BP i) (NQ is)
theorem RF:∀{is:List Nat} {ds:List D} {ρ ρ':Ag},Ky is ds ρ=some ρ'→ds.length=is.length
 |[],[],_,_,_=>rfl
 |[],_::_,_,_,e=>by cases e
 |_::_,[],_,_,e=>by cases e
 |_::is,_::ds,_,_,e=>by simpa using RF (is:=is) (ds:=ds) e
theorem RG {K:Frag} {m:List Addr} {H:Hp}:∀{is:List Nat} {ds:List D} {vs:List V} {ρ ρ':Ag} {σ:L2.St} {Q:L2.St→Hp→Prop},DVs K m H ds vs→ER K m H ρ σ→Ky is ds ρ=some ρ'→(∀σ',ER K m H ρ' σ'→Q σ' H)→NQ is vs σ H Q
 |[],[],vs,ρ,ρ',σ,Q,r,er,e,q=>by
  simp only [DVs] at r
  subst r
  cases e
  exact ⟨rfl,q σ er⟩
 |[],_::_,_,_,_,_,_,_,_,e,_=>by cases e
 |_::_,[],_,_,_,_,_,_,_,e,_=>by cases e
 |i::is,d::ds,vs,ρ,ρ',σ,Q,r,er,e,q=>by
  simp only [DVs] at r
  obtain ⟨v,w,rfl,rv,rw'⟩:=r
  exact ⟨v,w,rfl,RG rw' (er.set rv) e q⟩
theorem RH {es:List Expr} {is:List Nat} {kt:Nat} {pos:Pos} (h:PG X (.Tuple es kt pos) (EI X.K is.length (NQ is))):Fs X (.Tuple es kt pos) (CT is):=⟨_,h,fun m H d v ρ σ ρ' Q r er e q=>by
 unfold CT at e
 split at e
 ·rename_i ds
  simp only [DV] at r
  obtain ⟨p,vs,rfl,hp,dv⟩:=r
  exact ⟨p,vs,rfl,SqT.of hp,by rw [←dv.len];exact RF e,RG dv er e q⟩
 ·cases e⟩
end
variable {g:Str}
theorem NR {K:Frag} (h:etOk K=true) {n:Str} (hn:n∈excNames):∃C,nsIn K mainGlobals n=some (some (.ref C)):=by
 unfold etOk at h
 split at h
 ·rename_i S hS
  have h1:=qaN.mp h n hn
  cases e:En K n with
  |none=>rw [e] at h1;cases h1
  |some C=>exact ⟨C,Rq e⟩
 ·cases h
section
variable {X:Cx} {E:XK}
theorem ZbC {x:Str} {pos:Pos} (et:etOk X.K=true) (hn:x∈excNames) (hg:Gl X x:=by rfl) (hd:(x==("__debug__":Str))=false:=by decide):Ev X E (.Name x pos) (mC (.glo x)):=by
 obtain ⟨a,h⟩:=NR et hn
 exact Za1 hg h hd
theorem ZbD {x:Str} {e:Expr} {es:List Expr} {fa:MA} {np cpos pos:Pos} (et:etOk X.K=true) (hn:x∈excNames) (hne:x≠"TooMany") (hg:Gl X x) (hc:X.calm=true) (th:Nu X E) (ha:Cj X E (e::es) fa)
 (hdb:(x==("__debug__":Str))=false:=by decide) (he:starEach (e::es) X.env=(false,eval e X.env)::starEach es X.env:=by rfl) (hpl:(backTo cpos (starEach (e::es) X.env)).any (·.1)=false:=by rfl):
 Ex X E (.Raise (some (.Call (.Name x np) (e::es) [] cpos)) none pos) (Fy x fa):=by
 obtain ⟨C,h⟩:=NR et hn
 exact Zat ((Kv et hn h).at_ hne) h hg hc th ha hdb he hpl
end
theorem CaM.mono {P:Program} {w:World} {K:Frag} {mg:Str→Option Value} {base:Heap} {x:Str} {j k:Nat} {F:List D→HD→Out D} (C:CaM P w K mg base x j F) (h:j≤k):CaM P w K mg base x k F:=by
 obtain ⟨f,fd,ps,G,r⟩:=C.ex
 exact ⟨f,fd,ps,⟨fun A outer s H args us vs Q hr=>G.run A outer s H args us vs Q (hr.mono h)⟩,r⟩
structure SaidD (K:Frag) (mg:Str→Option Value) (st:Stmt) (fs:Addr) (fd:FuncData):Prop where
 fn:Fun K "_law_said" "_law_said" st fs fd
 bd:Binds K fd ["_law_call"] []
 mg:mg "_law_said"=some (.ref fs)
structure NS (st:Stmt):Prop where
 sc:CQ ["_law_call","_law_word","_law_e"] ["_law_call"] (defScope st)
 k0:(defScope st).names.lookup ("_law_call":Str)=some .local
 k1:(defScope st).names.lookup ("_law_word":Str)=some .local
 k2:(defScope st).names.lookup ("_law_e":Str)=some .local
 gS:(defScope st).names.lookup ("SwitchError":Str)=some .globalImplicit
 gK:(defScope st).names.lookup ("_law_kind":Str)=some .globalImplicit
 tx:∃p1 j1 p2 p3 p4 p5 p6 p7 p8 p9 p10 p11 p12 p13 p14 p15 p16,defBody st=[.Assign [.Name "_law_word" p1] (.Constant (.str "told") j1 p2) p3,.Try [.Expr (.Call (.Name "_law_call" p4) [] [] p5) p6] [.ExceptHandler (some (.Name "SwitchError" p7)) (some "_law_e") [.Assign [.Name "_law_word" p8] (.Call (.Name "_law_kind" p9) [.Name "_law_e" p10] [] p11) p12] p13] [] [] p14,.Return (some (.Name "_law_word" p15)) p16]
theorem ZbE {j:Nat} {X:Cx} {E:XK} {c P:Addr} {Nc:List Str} {cs:List Nat} {params:Arguments} {body:Expr} {scope:Scope} {k kk:Nat} {Fk:List D→HD→Out D} {f:ME} {fs:Addr} {fd:FuncData} {st:Stmt} {lpos p pos:Pos}
 (L:LamX g X c P) (fna:∀x,X.fn x=true) (hr:Room kk X.A) (lv:Lv X E) (et:etOk X.K=true) (Sd:SaidD X.K X.mg st fs fd) (St:NS st) (hkind:CaM X.prog X.w X.K X.mg X.base "_law_kind" k Fk) (S:LSc X scope Nc cs)
 (hb:∀(a:Addr) (cd:Value) (cl:List (Str×Addr)) (A:Around) (outer:List Env) (s:Shared) (H:Hp) (E':XK),Room k (A.deeper (envX (Bg g) scope s.heap.objs.size a cd cl))→Ev (Eo g X.prog X.w X.K X.mg X.base Nc scope a cd cl A outer s H E') E' body f)
 (hg:Gl X "_law_said") (hkk:k+2≤kk:=by decide) (hdef:defaultsOf params X.env=([],[]):=by rfl)
 (hbind:∀(cl:List (Str×Addr)) (pm cv ctv:Value),bindArgs (kla_fn "<lambda>" (Bg g) params body scope cl pm cv ctv) ⟨[],[]⟩=pure []:=by exact fun _ _ _ _=>rfl)
 (he:starEach [.Lambda params body scope lpos] X.env=(false,eval (.Lambda params body scope lpos) X.env)::starEach [] X.env:=by rfl) (hpl:(backTo pos (starEach [] X.env)).any (·.1)=false:=by rfl):
 Ev X E (.Call (.Name "_law_said" p) [.Lambda params body scope lpos] [] pos) (DB j g cs Fk f):=by
 obtain ⟨p1,j1,p2,p3,p4,p5,p6,p7,p8,p9,p10,p11,p12,p13,p14,p15,p16,hst⟩:=St.tx
 exact Zbp L fna (hr.mono hkk) lv et (NR et (by decide +kernel)) Sd.fn Sd.bd Sd.mg Sd.fn.kp St.sc St.k0 St.k1 St.k2 (fun _ _=>St.gS) (fun _ _=>St.gK) hst hkind hg S hdef hbind hb he hpl
theorem RI {P:Program} {w:World} {K:Frag} {mg:Str→Option Value} {base:Heap} {x qual:Str} {st:Stmt} {f:Addr} {kV doc pm cdv ct oc:Value} {an od:Option Addr} {osl:Array (Option Value)} {N ps:List Str} {k:Nat} {F:List D→HD→Out D} {g:MS}
 (lk:K.lookup f=some ⟨oc,od,.func (PySem.W.fnOf x qual (defArgs st) (defBody st) (defScope st) .none kV doc pm an cdv ct),osl⟩) (hcd:PySem.W.codeIn K cdv qual=true) (S:CQ N ps (defScope st)) (ar:Ar ps.length F)
 (hg:∀ds h,ds.length=ps.length→F ds h=As N.length g ds h)
 (hbody:∀(A:Around) (outer:List Env) (s:Shared) (H:Hp) (E:XK),Room k (A.deeper (envOfC qual (defScope st) s.heap.objs.size f cdv))→Cn (Bx (AO P w K) P w K mg base N qual (defScope st) f cdv A outer s H E) E (defBody st) g):
 FnOk P w K mg base (AO P w K) (k+1) f (PySem.W.fnOf x qual (defArgs st) (defBody st) (defScope st) .none kV doc pm an cdv ct) ps (Dy K F):=by
 refine Pv lk hcd S (fun vs H Q E h=>Kn ar h) fun A outer s H vs Q E hr h=>?_
 refine ⟨_,hbody A outer s H E hr,?_⟩
 have hl:=Kn ar h
 obtain ⟨m,ds,hd,hr1,r,p⟩:=h
 have hld:ds.length=ps.length:=by rw [r.len];exact hl
 refine ⟨m,ds.map some++List.replicate (N.length - ds.length) none,hd,hr1,ER.start r,?_⟩
 rw [hg ds hd hld] at p
 unfold As at p
 cases o:g (ds.map some++List.replicate (N.length - ds.length) none) hd with
 |stuck=>rw [o] at p;exact p
 |err C fs h1=>rw [o] at p;exact p
 |ok a h1=>
  rw [o] at p
  obtain ⟨fl,ρ1⟩:=a
  intro m1 H1 p1 k1 hr1
  cases fl with
  |nx=>exact fun σ er=>p .non m1 H1 p1 k1 hr1 (by simp [rD,DV])
  |bk=>exact False.elim p
  |ct=>exact False.elim p
  |rt d=>exact fun v rv=>p v m1 H1 p1 k1 hr1 rv
def ZgK (K:Frag) (T:Addr):Bool:=match tabP K "law" with
 |some (c,T')=>T'==T&&codeHdIn K c T
 |none=>false
end LS
namespace LS
open PySem PySem.Spec PyProof.Rows L2
def We {α:Type} (o:Out α) (Q:α→HD→Prop) (R:Str→List (Str×D)→HD→Prop):Prop:=match o with
 |.ok a h=>Q a h
 |.err (.str n _) fs h=>R n fs h
 |_=>False
section
variable {α β:Type} {o:Out α} {Q Q':α→HD→Prop} {R R':Str→List (Str×D)→HD→Prop}
@[simp] theorem ZgL (a:α) (h:HD):We (.ok a h) Q R=Q a h:=rfl
@[simp] theorem ZgM (n:Str) (t:Tok) (fs:List (Str×D)) (h:HD):We (.err (.str n t) fs h:Out α) Q R=R n fs h:=rfl
@[simp] theorem ZgN:We .stuck Q R=False:=rfl
theorem Cr {k:α→HD→Out β} {Q:β→HD→Prop}:We (o.bind k) Q R=We o (fun a h=>We (k a h) Q R) R:=by
 cases o with
 |ok a h=>rfl
 |err C fs h=>cases C<;>rfl
 |stuck=>rfl
theorem Wp.we (h:Wp o Q):We o Q R:=by
 cases o with
 |ok a h'=>exact h
 |_=>exact h.elim
theorem We.mono (h:We o Q R) (f:∀a h,Q a h→Q' a h) (g:∀n fs h,R n fs h→R' n fs h):We o Q' R':=by
 cases o with
 |ok a h'=>exact f _ _ h
 |err C fs h'=>cases C<;>first |exact g _ _ _ h |exact h.elim
 |stuck=>exact h
theorem Pu.we {h:HD} {a:α} (p:Pu o h a) (k:∀h',Sm h h'→Q a h'):We o Q R:=Wp.we (p.wp k)
end
def Er {α:Type} (o:Out α) (h:HD) (n:Str):Prop:=We o (fun _ _=>False) fun n' fs h'=>n'=n∧fs=[]∧Sm h h'
theorem Er.we {α:Type} {o:Out α} {h:HD} {n:Str} {Q:α→HD→Prop} {R:Str→List (Str×D)→HD→Prop} (e:Er o h n) (k:∀h',Sm h h'→R n [] h'):We o Q R:=We.mono e (fun _ _ z=>z.elim) fun n' fs h' z1_=>by obtain ⟨rfl,rfl,s⟩:=z1_;exact k h' s
theorem Er.ahead {α:Type} {o:Out α} {h0 h:HD} {n:Str} (s:Sm h0 h) (e:Er o h n):Er o h0 n:=We.mono e (fun _ _ z=>z) fun _ _ _ z2_=>by obtain ⟨e,e2,s2⟩:=z2_;exact (⟨e,e2,s.trans s2⟩)
theorem DD {N:Nat} {g:MS} {ds:List D} {h:HD} {Q:D→HD→Prop} {R:Str→List (Str×D)→HD→Prop}:We (As N g ds h) Q R=We (g (ds.map some++List.replicate (N - ds.length) none) h) (GX Q) R:=by
 unfold As
 cases o:g (ds.map some++List.replicate (N - ds.length) none) h with
 |ok a h1=>
  obtain ⟨fl,ρ⟩:=a
  cases fl<;>rfl
 |err C fs h1=>cases C<;>rfl
 |stuck=>rfl
section
variable {ρ:Ag} {h:HD} {Q:Fl×Ag→HD→Prop} {QD:D→HD→Prop} {QB:Bool→HD→Prop} {R:Str→List (Str×D)→HD→Prop} {g g1 g2:MS} {f:ME} {t:MT} {fa:MA} {F:List D→HD→Out D}
def NT (g2:MS) (Q:Fl×Ag→HD→Prop) (R:Str→List (Str×D)→HD→Prop):Fl×Ag→HD→Prop
 |(.nx,ρ),h=>We (g2 ρ h) Q R
 |y,h=>Q y h
@[simp] theorem ZgO:NT g2 Q R (.nx,ρ) h=We (g2 ρ h) Q R:=rfl
@[simp] theorem ZgP {d:D}:NT g2 Q R (.rt d,ρ) h=Q (.rt d,ρ) h:=rfl
@[simp] theorem ZgQ:We (Af g1 g2 ρ h) Q R=We (g1 ρ h) (NT g2 Q R) R:=by
  unfold Af
  rw [Cr]
  congr 1
  funext x h1
  obtain ⟨fl,ρ1⟩:=x
  cases fl<;>rfl
@[simp] theorem ZgR:We (AD ρ h) Q R=Q (.nx,ρ) h:=rfl
@[simp] theorem ZgS:We (AY f ρ h) Q R=We (f ρ h) (fun _ h1=>Q (.nx,ρ) h1) R:=by unfold AY;rw [Cr];rfl
@[simp] theorem ZgT:We (Al f ρ h) Q R=We (f ρ h) (fun d h1=>Q (.rt d,ρ) h1) R:=by unfold Al;rw [Cr];rfl
@[simp] theorem ZgU {i:Nat}:We (An i f ρ h) Q R=We (f ρ h) (fun d h1=>Q (.nx,ρ.set i (some d)) h1) R:=by unfold An;rw [Cr];rfl
@[simp] theorem ZgV:We (Ay t g1 g2 ρ h) Q R=We (t ρ h) (fun b h1=>We (if b=true then g1 ρ h1 else g2 ρ h1) Q R) R:=by unfold Ay;rw [Cr]
@[simp] theorem ZgW:We (Ae F fa ρ h) QD R=We (fa ρ h) (fun ds h1=>We (F ds h1) QD R) R:=by unfold Ae;rw [Cr]
@[simp] theorem ZgX {n:Str}:We (Fy n fa ρ h) Q R=We (fa ρ h) (fun xs h1=>We (if xs.length≤sizeLine then (.err (Dx n) [] h1:Out (Fl×Ag)) else .stuck) Q R) R:=by unfold Fy;rw [Cr]
@[simp] theorem ZgY:We (Bn t ρ h) QB R=We (t ρ h) (fun b h1=>QB (!b) h1) R:=by unfold Bn;rw [Cr];rfl
@[simp] theorem ZgZ {u:MT}:We (JV t u ρ h) QB R=We (t ρ h) (fun b h1=>We (if b=true then u ρ h1 else .ok false h1) QB R) R:=by unfold JV;rw [Cr]
@[simp] theorem Zg0 {u:MT}:We (B8 t u ρ h) QB R=We (t ρ h) (fun b h1=>We (if b=true then .ok true h1 else u ρ h1) QB R) R:=by unfold B8;rw [Cr]
@[simp] theorem Zg1:We (Bm f ρ h) QB R=We (f ρ h) (fun x h1=>We (Co x h1) QB R) R:=by unfold Bm;rw [Cr]
@[simp] theorem Zg2:We (Aw f ρ h) QB R=We (f ρ h) (fun x h1=>We (F0 x h1) QB R) R:=by unfold Aw;rw [Cr]
@[simp] theorem Zg3 {QA:List D→HD→Prop}:We (Ac ρ h) QA R=QA [] h:=rfl
@[simp] theorem Zg4 {QA:List D→HD→Prop}:We (Aa f fa ρ h) QA R=We (f ρ h) (fun x h1=>We (fa ρ h1) (fun xs h2=>QA (x::xs) h2) R) R:=by
  unfold Aa;simp only [Cr];rfl
@[simp] theorem Zg5 {d:D} {r:Ag}:We (Ab 0 (some d::r) h) QD R=QD d h:=rfl
@[simp] theorem Zg6 {i:Nat} {x:Option D} {r:Ag}:We (Ab (i+1) (x::r) h) QD R=We (Ab i r h) QD R:=rfl
@[simp] theorem Zg7 {d:D}:We (mC d ρ h) QD R=QD d h:=rfl
@[simp] theorem Zg8 {op:D→D→HD→Out D} {f':ME}:We (Ad op f f' ρ h) QD R=We (f ρ h) (fun x h1=>We (f' ρ h1) (fun y h2=>We (op x y h2) QD R) R) R:=by unfold Ad;simp only [Cr]
@[simp] theorem Zg9 {fj:MJ}:We (NP fj ρ h) QD R=We (fj Str.empty ρ h) (fun x h1=>QD (.str x) h1) R:=by unfold NP;rw [Cr];rfl
end
def Et {α:Type} (o:Out α) (h:HD) (n:Str) (fs:List (Str×D)):Prop:=We o (fun _ _=>False) fun n' fs' h'=>n'=n∧fs'=fs∧Sm h h'
theorem Et.we {α:Type} {o:Out α} {h:HD} {n:Str} {fs:List (Str×D)} {Q:α→HD→Prop} {R:Str→List (Str×D)→HD→Prop} (e:Et o h n fs) (k:∀h',Sm h h'→R n fs h'):We o Q R:=We.mono e (fun _ _ z=>z.elim) fun n' fs h' z1_=>by obtain ⟨rfl,rfl,s⟩:=z1_;exact k h' s
theorem NU {j:Nat} {g:Str} {cs:List Nat} {Fk:List D→HD→Out D} {f:ME} {ρ:Ag} {h:HD} {ds:List D} {Q:D→HD→Prop} (ht:h[j]?=some (.tabn g)) (hd:AC (cs.map fun j=>(ρ[j]?).join)=some ds)
 (q:We (f (ds.map some) h) (fun _ h1=>Q (.str "told") h1) fun n fs h1=>n∈excNames∧∃is,EX fs=some is∧Wp (Fk [.exc n is] h1) Q):Wp (DB j g cs Fk f ρ h) Q:=by
 unfold DB
 rw [ht,hd]
 simp only [if_true]
 unfold NO
 cases o:f (ds.map some) h with
 |ok a h1=>rw [o] at q;exact q
 |stuck=>rw [o] at q;exact q.elim
 |err C fs h1=>
  rw [o] at q
  cases C with
  |str n t=>
   obtain ⟨hn,is,hi,hk⟩:=(show n∈excNames∧∃is,EX fs=some is∧Wp (Fk [.exc n is] h1) Q from q)
   simp only [hn,if_true,hi]
   cases e:Fk [.exc n is] h1 with
   |ok d h2=>rw [e] at hk;exact hk
   |_=>rw [e] at hk;exact hk.elim
  |_=>exact q.elim
def Rp (n L:Nat) (d:D):Prop:=∃p:PyData,(∀(h:HD) (m:Nat),AL h (n+m) d=some p)∧p.showable=true∧p.hasDict=false∧p.depth≤n∧p.shown.length≤L
theorem RJ {n L:Nat}:∀{ds:List D},(∀d∈ds,Rp n L d)→∃ps:List PyData,(∀(h:HD) (m:Nat),AC (ds.map (AL h (n+m)))=some ps)∧PyData.showableAll ps=true∧PyData.hasDictAll ps=false∧PyData.depthAll ps≤n∧ps.length=ds.length∧∀t∈PyData.shownAll ps,t.length≤L
 |[],_=>⟨[],fun _ _=>rfl,rfl,rfl,Dq _,rfl,fun t ht=>by cases ht⟩
 |d::ds,hd=>by
  obtain ⟨p,a1,a2,a3,a4,a5⟩:=hd d A1
  obtain ⟨ps,b1,b2,b3,b4,b5,b6⟩:=RJ (fun x hx=>hd x (A5 _ hx))
  refine ⟨p::ps,fun h m=>?_,by simp [PyData.showableAll,a2,b2],by simp [PyData.hasDictAll,a3,b3],by simp only [PyData.depthAll];omega,by simp [b5],fun t ht=>?_⟩
  ·rw [BD,a1 h m]
   simp only [AC,b1 h m]
   rfl
  ·simp only [PyData.shownAll] at ht
   rcases qa4.mp ht with e |e
   ·rw [e];exact a5
   ·exact b6 t e
theorem RK {L:Nat}:∀{ts:List Str},(∀t∈ts,t.length≤L)→piled ts≤ts.length*(L+2)
 |[],_=>by simp [piled]
 |t::ts,h=>by
  have h1:=h t A1
  have h2:=RK (fun x hx=>h x (A5 _ hx)) (ts:=ts) (L:=L)
  simp only [piled] at *
  simp [Nat.succ_mul]
  omega
theorem RL:∀{ps:List PyData},(PyData.shownAll ps).length=ps.length
 |[]=>rfl
 |p::ps=>by simp [PyData.shownAll,RL (ps:=ps)]
theorem Iz {n L k:Nat} {ds:List D} (h:∀d∈ds,Rp n L d) (hk:ds.length≤k):Rp (n+1) (k*(L+2)+3) (.tup ds):=by
 obtain ⟨ps,b1,b2,b3,b4,b5,b6⟩:=RJ h
 refine ⟨.tuple ps,fun h m=>?_,by simpa [PyData.showable] using b2,by simpa [PyData.hasDict] using b3,by simp only [PyData.depth];omega,?_⟩
 ·rw [show n+1+m=(n+m)+1 by omega]
  simp only [AL,b1 h m]
  rfl
 ·simp only [PyData.shown,tupleText]
  have hl:(PyData.shownAll ps).length=ds.length:=by rw [RL,b5]
  have hj:(Str.join ", " (PyData.shownAll ps)).length≤k*(L+2):=by
   by_cases he:PyData.shownAll ps=[]
   ·rw [he];exact Dq _
   ·have h1:=join_length_add _ he
    have h2:=RK b6
    have h3:(PyData.shownAll ps).length*(L+2)≤k*(L+2):=Nat.mul_le_mul_right _ (by rw [hl];exact hk)
    omega
  rw [strLen_append,strLen_append]
  have e1:((("(":String):Str)).length=1:=rfl
  have e2:(((if (PyData.shownAll ps).length==1 then ",)" else ")":String):Str)).length≤2:=by split<;>decide
  omega
theorem ZbF {n L L':Nat} {d:D} (h:Rp n L d) (hl:L≤L'):Rp n L' d:=by
 obtain ⟨p,a1,a2,a3,a4,a5⟩:=h
 exact ⟨p,a1,a2,a3,a4,BW a5 hl⟩
theorem NV {n L:Nat} {d:D} (h:Rp n L d) (hn:n≤8) (hl:L≤sizeLine):∃x:Str,∀hd,Bp d hd=.ok (.str x) hd:=by
 obtain ⟨p,a1,a2,a3,a4,a5⟩:=h
 refine ⟨p.shown,fun hd=>?_⟩
 have e:=a1 hd (8 - n)
 rw [show n+(8 - n)=8 by omega] at e
 unfold Bp
 rw [e]
 simp only
 rw [if_pos ⟨a2,a3,by omega,BW a5 hl⟩]
theorem rp_int {i:Int} (h1:0≤i) (h2:i<10):Rp 0 2 (.int i):=by
 refine ⟨.int i,fun h m=>by cases m<;>rfl,?_,rfl,by simp [PyData.depth],?_⟩
 ·obtain ⟨k,rfl⟩:∃k:Nat,i=(k:Int):=⟨i.toNat,by omega⟩
  have hk:k<10:=by omega
  match k,hk with
  |0,_=>decide
  |1,_=>decide
  |2,_=>decide
  |3,_=>decide
  |4,_=>decide
  |5,_=>decide
  |6,_=>decide
  |7,_=>decide
  |8,_=>decide
  |9,_=>decide
 ·obtain ⟨k,rfl⟩:∃k:Nat,i=(k:Int):=⟨i.toNat,by omega⟩
  have hk:k<10:=by omega
  match k,hk with
  |0,_=>decide
  |1,_=>decide
  |2,_=>decide
  |3,_=>decide
  |4,_=>decide
  |5,_=>decide
  |6,_=>decide
  |7,_=>decide
  |8,_=>decide
  |9,_=>decide
section
variable {h:HD} {i j:Int} {ds:List D} {a b:D} {l:Nat} {x y:Str}
@[simp] theorem Zha:Br (.str x) (.str y) h=.ok (.bl (!(x==y))) h:=rfl
@[simp] theorem Zhb:Bi (.str x) (.str y) h=.ok (.bl (x==y)) h:=rfl
@[simp] theorem Zhc:Br (.int i) (.int j) h=.ok (.bl (!(i==j))) h:=rfl
@[simp] theorem Zhd:Bi (.int i) (.int j) h=.ok (.bl (i==j)) h:=rfl
@[simp] theorem Zhe {c d:Bool}:Br (.bl c) (.bl d) h=.ok (.bl (!(c==d))) h:=rfl
@[simp] theorem Zhf {c d:Bool}:Bi (.bl c) (.bl d) h=.ok (.bl (c==d)) h:=rfl
@[simp] theorem Zhg {es:List D}:Br (.tup ds) (.tup es) h=DQ (.tup ds) (.tup es) h:=rfl
@[simp] theorem Zhh {es:List D}:Bi (.tup ds) (.tup es) h=HW (.tup ds) (.tup es) h:=rfl
@[simp] theorem Zhi:Cd (.int i) (.int j) h=Dl (.int i) (.int j) h:=rfl
@[simp] theorem ZbG:Cd (.loc l) b h=Dl (.loc l) b h:=rfl
@[simp] theorem Zhj:AM (.int i) b h=BA (.int i) b h:=rfl
@[simp] theorem Zhk {c:Bool}:AM (.bl c) b h=BA (.bl c) b h:=rfl
@[simp] theorem Zhl:AM .non b h=BA .non b h:=rfl
@[simp] theorem Zhm:AM (.str x) b h=BA (.str x) b h:=rfl
@[simp] theorem Zhn:AM (.tup ds) b h=BA (.tup ds) b h:=rfl
@[simp] theorem ZbH:AM (.loc l) b h=BA (.loc l) b h:=rfl
@[simp] theorem Zho {c:Bool}:BA (.bl c) (.ty "int") h=.ok (.bl true) h:=rfl
@[simp] theorem Zhp {c:Bool}:BA (.bl c) (.ty "bool") h=.ok (.bl true) h:=rfl
@[simp] theorem Zhq {c:Bool}:BA (.bl c) (.ty "tuple") h=.ok (.bl false) h:=rfl
@[simp] theorem Zhr:BA .non (.ty "int") h=.ok (.bl false) h:=rfl
@[simp] theorem Zhs:BA .non (.ty "tuple") h=.ok (.bl false) h:=rfl
@[simp] theorem Zht:BA (.str x) (.ty "int") h=.ok (.bl false) h:=rfl
@[simp] theorem Zhu:BA (.str x) (.ty "tuple") h=.ok (.bl false) h:=rfl
theorem ZbI (e:h[l]?=some (.lst ds)):BA (.loc l) (.ty "int") h=.ok (.bl false) h:=by
 simp only [BA,DR,e];rfl
theorem ZbJ (e:h[l]?=some (.lst ds)):BA (.loc l) (.ty "tuple") h=.ok (.bl false) h:=by
 simp only [BA,DR,e];rfl
@[simp] theorem Zhv:AM .edic (.ty "int") h=.ok (.bl false) h:=rfl
@[simp] theorem Zhw:AM .edic (.ty "tuple") h=.ok (.bl false) h:=rfl
theorem Ep {n n':Str} {fs:List (Str×Int)} (h1:n∈excNames) (h2:n'∈excNames):AM (.exc n fs) (.glo n') h=.ok (.bl (BE n n')) h:=if_pos ⟨h1,h2⟩
theorem ZbK {n:Str} {fs:List (Str×Int)} (h1:n∈excNames):AM (.exc n fs) (.ty "ValueError") h=.ok (.bl true) h:=if_pos ⟨h1,rfl⟩
@[simp] theorem Zhx {ρ:Ag} {c d:D} {i j k l:Nat}:CT [i,j,k,l] (.tup [a,b,c,d]) ρ=some ((((ρ.set i (some a)).set j (some b)).set k (some c)).set l (some d)):=rfl
theorem ZbL (hz:x.length+y.length≤1000):Av (.str x) (.str y) h=.ok (.str (x++y)) h:=by
 simp only [Av]
 rw [if_pos (by unfold sizeLine;omega)]
theorem Kz {xs ys:List D} {k:Nat} (e1:h[l]?=some (.lst xs)) (e2:h[k]?=some (.lst ys)):Av (.loc l) (.loc k) h=B9 (xs++ys) h:=by simp only [Av,e1,e2]
theorem ZbM {vs:List V} {w:V} (e:h[l]?=some (.lst ds)) (e1:AC (ds.map BX)=some vs) (e2:BX a=some w):Gg (.loc l) a h=.ok (.int (Hb w vs)) h:=by
 simp only [Gg,BZ,e,Out.bind_ok,Hc,Bd,e1,e2]
theorem ZbN {vs:List V} {w:V} {j:Nat} (e:h[l]?=some (.lst ds)) (e1:AC (ds.map BX)=some vs) (e2:BX a=some w) (e3:Kw w vs=some j):Gh (.loc l) a h=.ok (.int j) h:=by
 simp only [Gh,e,e1,e2,e3]
@[simp] theorem Zhy {chk:D→HD→Out D} {op:D→D→HD→Out D} {f g:ME} {ρ:Ag} {Q:D→HD→Prop}:Wp (Gf chk op f g ρ h) Q=Wp (f ρ h) fun x h1=>Wp (chk x h1) fun x h2=>Wp (g ρ h2) fun y h3=>Wp (op x y h3) Q:=by unfold Gf;simp only [Aq]
@[simp] theorem sz6:(6≤sizeLine)=True:=eq_true (by unfold sizeLine;omega)
@[simp] theorem sz7:(7≤sizeLine)=True:=eq_true (by unfold sizeLine;omega)
@[simp] theorem sz8:(8≤sizeLine)=True:=eq_true (by unfold sizeLine;omega)
@[simp] theorem sz9:(9≤sizeLine)=True:=eq_true (by unfold sizeLine;omega)
@[simp] theorem Zhz:(10≤sizeLine)=True:=eq_true (by unfold sizeLine;omega)
theorem RM {k:Nat} (hne:ds≠[]) (hz:ds.length*k≤1000) (hk:1<k:=by decide):Cd (.tup ds) (.int (k:Nat)) h=.ok (.tup (List.replicate k ds).flatten) h:=by
 simp only [Cd]
 have h1:k≤1000:=by
  have:1≤ds.length:=by
   cases ds with
   |nil=>exact absurd rfl hne
   |cons _ _=>simp
  have:=Nat.mul_le_mul_right k this
  omega
 rw [if_pos ⟨hne,by omega,by omega,by simp;unfold sizeLine;omega⟩]
 simp
end
section
variable {ρ:Ag} {h:HD} {Q:Str→HD→Prop} {R:Str→List (Str×D)→HD→Prop} {acc y:Str} {r:MJ} {f:ME} {n:Nat} {i:Int}
end
end LS
namespace LS
open PySem PySem.Spec PyProof.Rows L2 PySem.W
section
variable {X:Cx} {E:XK}
def Gi:D→HD→Out D:=fun x h=>match Bd x h with
 |some ds=>B9 ds h
 |none=>.stuck
theorem ZbO:CJ X (.type "list") (Ai Gi):=by
 refine ⟨_,Yk,fun m H h E ds vs Q hr r q=>Fo r q fun d v ev rv q=>?_⟩
 unfold Gi at q
 split at q
 ·rename_i ds' e
  obtain ⟨p,ws,rfl,hs,dv⟩:=HX hr rv e
  exact ⟨p,ws,ev,hs,(HQ hr dv q).2⟩
 ·exact q.elim
theorem ZbP {pos:Pos}:Ev X E (.Dict [] [] pos) (mC .edic):=fun pins s σ H Q I z1_=>by
 obtain ⟨m,ρ,h,hr,er,p⟩:=z1_
 have hf:H s.heap.objs.size=none:=I.hok.fresh (AG _)
 refine wpAny_Dict_empty ⟨.ref s.heap.objs.size,Ak H s.heap.objs.size (.ext (MU s.heap.objs.size)),I.laid (t':=s.toks) (fun _ _ q=>AB _ q) (AG _) ?_,rfl,?_⟩
 ·have ne:s.heap.objs.size≠sysModules:=by
   obtain ⟨og,_,_,eg,_⟩:=I.ok.mod.glob
   obtain ⟨ml,⟨ol,_,_,el,_⟩,_⟩:=I.loc
   have h1:(3:Nat)<X.base.objs.size:=AA eg
   have h2:(X.env.locals:Nat)<s.heap.objs.size:=AA el
   have h3:X.base.objs.size≤X.s₀.heap.objs.size:=I.ok.bsz
   have h4:X.s₀.heap.objs.size≤(X.env.locals:Nat):=I.ok.above
   have h5:(1:Nat)<s.heap.objs.size:=AR (AR (show 1<4 by decide) h1) (BW h3 (BW h4 (FT h2)))
   exact fun z=>Cf h5 z
  exact ⟨⟨ne,_,_,Bf _ rfl,⟨rfl,rfl,rfl⟩,rfl⟩,⟨_,Bf _ rfl⟩,fun h1 h2 z2_ k=>by obtain ⟨ne,o,ep,z1,z2⟩:=z2_;exact (⟨ne,o,ep,k o z1,z2⟩)⟩
 ·exact p (.ref s.heap.objs.size) m _ (Az _) (.new hf) (hr.new hf) (by simp only [rD,DV];exact ⟨_,rfl,BN⟩)
def ZhA (T:List (Str×(List D→HD→Out D))) (fv:ME) (fa:MA):ME:=fun ρ h=>(fv ρ h).bind fun d h1=>match d with
 |.glo n=>(match T.lookup n with
  |some F=>(fa ρ h1).bind F
  |none=>.stuck)
 |_=>.stuck
def ZhB (P:Program) (w:World) (K:Frag) (mg:Str→Option Value) (base:Heap) (k:Nat) (T:List (Str×(List D→HD→Out D))):Prop:=∀n F,T.lookup n=some F→CaE P w K mg base n k F
theorem CaE.mono {P:Program} {w:World} {K:Frag} {mg:Str→Option Value} {base:Heap} {x:Str} {j k:Nat} {F:List D→HD→Out D} (C:CaE P w K mg base x j F) (h:j≤k):CaE P w K mg base x k F:=by
 obtain ⟨f,fd,ps,G,r⟩:=C.ex
 exact ⟨f,fd,ps,G.mono h,r⟩
end
def ZhC (K:Frag) (c:Addr):Bool:=match tabP K "law" with
 |some (c',T)=>c'==c&&codeHdIn K c T
 |none=>false
section
variable {prog:Program} {w:World} {A:Around} {E:Str→Value→Shared→Prop}
end
section
variable {X:Cx} {E:XK}
def ZbQ (K:PySem.W.Frag):V→Option Int→Option Int→Hp→VK→Prop:=fun x lo hi H Q=>∃a xs,x=.ref a∧SqT K H a xs∧HT.sIx xs.length 0 lo=0∧HT.sIx xs.length xs.length hi=xs.length∧Q (.ref a) H
theorem sl_whole:SlR X (ZbQ X.K):=by
 rintro pins s σ H x v vl vu lo hi sl Q I rx hs pl pu ⟨a,xs,rfl,hx,w0,w1,q⟩
 cases rx
 obtain ⟨its,r,ht,hz⟩:=I.tuple hx
 have hl:its.toArray.size=xs.length:=by rw [AW];exact r.length.symm
 rw [←hl] at w0 w1
 obtain ⟨os,hos,hcs,hds⟩:=id hs
 refine ⟨"tuple",_,slot_tuple_getitem.lookup,ht.typeIs,?_⟩
 unfold getItem
 try with_reducible refine wpAny_holding ?_
 first |refine wpAny_bind (wpAny_pure ?_) |skip
 refine wpAny_bind (wpAny_sequenceKey ht.typeIs (by decide) (wpAny_bind (wpAny_callSpecial?_slot (name:=Str.ofString "__getitem__") ht.typeIs slot_tuple_getitem
  (wpAny_call_entry slot_tuple_getitem ht.typeIs entry_tuple_getitem ?_ (args_tuple_getitem _ _)))))
 show wpAny _ _ (Builtin.Tuple.tupleItemsOf (.ref a) >>=_) _ _ s
 refine wpAny_bind (tupleItemsOf_ ht (wpAny_bind (wpAny_typeOf (show s.TypeIs (.ref sl) "slice" from ⟨os,hos,hcs⟩) ?_)))
 rw [if_pos (by decide)]
 refine wpAny_bind (HT.sliceApplied_gen hs pl pu ?_)
 have hy:(((HT.sIx its.toArray.size 0 lo:Nat):Int)==0&&(1:Int)==1&&(HT.sIx its.toArray.size its.toArray.size hi - HT.sIx its.toArray.size 0 lo)==its.toArray.size)=true:=by
  rw [w0,w1]
  simp
 show wpAny _ _ (if (((HT.sIx its.toArray.size 0 lo:Nat):Int)==0&&(1:Int)==1&&(HT.sIx its.toArray.size its.toArray.size hi - HT.sIx its.toArray.size 0 lo)==its.toArray.size)=true then _ else _) _ _ s
 rw [if_pos hy]
 unfold Builtin.Tuple.tupleIsExact
 refine wpAny_bind (wpAny_bind (wpAny_typeOf ht.typeIs (wpAny_pure ?_)))
 rw [if_pos (by decide)]
 refine wpAny_bind (wpAny_rule ?_)
 have AQ:EP X pins σ Q (.ref a) s:=⟨.ref a,H,I,rfl,q⟩
 first
  |exact wpAny_pure ⟨_,rfl,wpAny_pure AQ⟩
  |exact wpAny_pure AQ
def Dm (x:D) (lo hi:Option Int) (h:HD):Out D:=match x with
 |.tup xs=>.ok (.tup (Fz xs lo hi)) h
 |_=>.stuck
def Ce (f:ME) (lo hi:MO):ME:=fun ρ h=>(f ρ h).bind fun x h1=>(lo ρ h1).bind fun l h2=>(hi ρ h2).bind fun u h3=>Dm x l u h3
theorem ZbR {α:Type} {xs:List α} {lo hi:Option Int} (h0:HT.sIx xs.length 0 lo=0) (h1:HT.sIx xs.length xs.length hi=xs.length):(xs.drop (HT.sIx xs.length 0 lo)).take (HT.sIx xs.length xs.length hi - HT.sIx xs.length 0 lo)=xs:=by
 rw [h0,h1];simp
theorem ZbS {e:Expr} {lo hi:Option Expr} {f:ME} {fl fh:MO} {p2 pos:Pos} (he:Ev X E e f) (hl:Ko X E lo fl) (hu:Ko X E hi fh):Ev X E (.Subscript e (.Slice lo hi none p2) pos) (Ce f fl fh):=
 BH (X3 (sl_whole.or X6) he hl hu) fun σ H Q ⟨m,ρ,h,hr,er,p⟩=>⟨m,ρ,h,hr,er,Post.bind p fun x h1 v m1 H1 eo1 p1 k1 hr1 r1 q1=>
  ⟨m1,ρ,h1,hr1,er.keep p1 k1,Post.bind q1 fun l h2 l' m2 H2 eo2 p2 k2 hr2 r2 q2=>
   ⟨m2,ρ,h2,hr2,(er.keep p1 k1).keep p2 k2,Post.bind q2 fun u h3 u' m3 H3 eo3 p3 k3 hr3 r3 q3=>by
    clear eo1 eo2 eo3
    subst r2 r3
    have rx:=DV.keep p3 k3 (DV.keep p2 k2 r1)
    unfold Dm at q3
    split at q3
    ·rename_i xs
     have rx0:=rx
     simp only [DV] at rx
     obtain ⟨a,vs,rfl,ha,dv⟩:=rx
     by_cases hz:HT.sIx xs.length 0 l=0∧HT.sIx xs.length xs.length u=xs.length
     ·refine .inl ⟨a,vs,rfl,SqT.of ha,by rw [←dv.len];exact hz.1,by rw [←dv.len];exact hz.2,?_⟩
      have e:Fz xs l u=xs:=ZbR hz.1 hz.2
      rw [e] at q3
      exact q3 (.ref a) m3 H3 (Az _) (.refl _) hr3 rx0
     ·rw [dv.len] at hz
      exact .inr ⟨a,vs,rfl,SqT.of ha,hz,GO hr3 (dv.cut l u) q3⟩
    ·exact q3.elim⟩⟩⟩
theorem IA {xs:List D} {k:Nat} {h:HD} (hk:k≤xs.length):Dm (.tup xs) none (some (k:Int)) h=.ok (.tup (xs.take k)) h:=by
 simp only [Dm]
 unfold Fz
 rw [HT.sIx_nat,HT.sIx_none,List.drop_zero,show min k xs.length - 0=k from by omega]
theorem IB {xs:List D} {k:Nat} {i:Int} {h:HD} (hi:i=((k+1:Nat):Int)) (hk:k<xs.length):Dm (.tup xs) (some i) none h=.ok (.tup (xs.drop (k+1))) h:=by
 subst hi
 simp only [Dm]
 unfold Fz
 rw [HT.sIx_nat,HT.sIx_none,show min (k+1) xs.length=k+1 from by omega]
 congr 2
 exact List.take_of_length_le (by simp)
theorem ZbT {xs:List D} {h:HD} (hk:1≤xs.length):Dm (.tup xs) none (some (-1)) h=.ok (.tup (xs.take (xs.length - 1))) h:=by
 have e:HT.sIx xs.length xs.length (some (-1))=xs.length - 1:=by
  simp only [HT.sIx]
  rw [if_pos (by decide)]
  omega
 simp only [Dm]
 unfold Fz
 rw [e,HT.sIx_none,List.drop_zero,Nat.sub_zero]
end
section
variable {f:ME} {lo hi:MO} {ρ:Ag} {h:HD} {Q:D→HD→Prop}
@[simp] theorem ZhD:Wp (Ce f lo hi ρ h) Q=Wp (f ρ h) fun x h1=>Wp (lo ρ h1) fun l h2=>Wp (hi ρ h2) fun u h3=>Wp (Dm x l u h3) Q:=by unfold Ce;simp only [Aq]
end
section
variable {K:Frag} {mg:Str→Option Value} {h:Heap}
theorem SaidD.of {st:Stmt} {f:Addr} {fd:FuncData} (d:Dn K mg "_law_said" ["_law_call"] st f fd):SaidD K mg st f fd:=⟨d.fn,d.bd,d.mg⟩
end
open AutoSeq1 (wpAny_loadPart')
section
variable {prog:Program} {w:World} {A:Around} {E:Value→Shared→Prop} {s:Shared}
end
def NW (r:Addr) (n:Nat) (h:Heap):Prop:=∃t u v,IsRange h r 0 (n:Int) 1 t u v
section
variable {X:Cx} {E:XK}
inductive ZbU (vs:List V) (H:Hp) (Q:VK):Prop where
 |mk (n:Nat) (e:vs=[.int (n:Int)]) (hn:n≤1000) (q:∀p,H p=none→Q (.ref p) (Ak H p (.ext (NW p n)))):ZbU vs H Q
inductive ZbV (vs:List V) (H:Hp) (Q:VK):Prop where
 |mk (r:Addr) (n:Nat) (e:vs=[.ref r]) (hr:H r=some (.ext (NW r n))) (hn:n≤1000) (q:∀p,H p=none→Q (.ref p) (Ak H p (.tup ((List.range n).map fun i=>V.int ((i:Nat):Int))))):ZbV vs H Q
noncomputable def ZbW:D→HD→Out D:=fun d h=>match d with
 |.int i=>@ite _ (0≤i∧i≤1000) (Classical.propDecidable _) (.ok (.tup ((List.range i.toNat).map fun k=>D.int ((k:Nat):Int))) h) .stuck
 |_=>.stuck
noncomputable def ZhE (f:ME):ME:=fun ρ h=>(f ρ h).bind ZbW
end
end LS
namespace LS
open PySem PySem.Spec PyProof.Rows L2 PySem.W
section
variable {X:Cx} {E:XK}
def ZbX:D→HD→Out D:=fun x h=>match x with
 |.tup _=>.ok x h
 |_=>.stuck
def ZhF:D→D→HD→Out D:=fun x y h=>(ZbX x h).bind fun _ _=>Hc x y h
mutual
def NX:PyData→Bool
 |.list _=>false
 |.tuple xs=>NY xs
 |_=>true
def NY:List PyData→Bool
 |[]=>true
 |x::xs=>NX x&&NY xs
end
def NZ (h:HD):Nat→D→Option PyData
 |_,.non=>some .none
 |_,.bl b=>some (.bool b)
 |_,.int i=>some (.int i)
 |_,.str x=>some (.str x)
 |_,.edic=>some (.dict [])
 |n+1,.tup ds=>(AC (ds.map (NZ h n))).map .tuple
 |n+1,.loc l=>match h[l]? with
  |some (.lst ds)=>(AC (ds.map (NZ h n))).map .list
  |_=>none
 |_,_=>none
inductive RdX (h:Heap) (u:Value) (p:PyData):Prop where
 |mk (as:List Addr) (f1:Reads h u p as) (f2:NX p=true→sysModules∉as):RdX h u p
inductive ZbY (h:Heap) (us:List Value) (ps:List PyData):Prop where
 |mk (as:List Addr) (f1:ReadsAll h us ps as) (f2:NY ps=true→sysModules∉as):ZbY h us ps
variable {pins:List (Addr×Obj)} {σ:L2.St} {H:Hp} {s:Shared} {m:List Addr} {h:HD}
def ZhG:D→HD→Out D:=fun x h=>match NZ h 8 x with
 |some p=>if p.showable=true∧(p.hasDict=false∨NX p=true)∧p.depth≤40∧p.shown.length≤sizeLine then .ok (.str p.shown) h else .stuck
 |none=>.stuck
end
end LS
namespace HT
open PySem PyProof.Rows
def lexLe:List Int→List Int→Bool
 |[],[]=>true
 |[],_::_=>true
 |_::_,[]=>false
 |x::xs,y::ys=>if x=y then lexLe xs ys else decide (x≤y)
section
open PySem.SeqAt
open PySem.AutoSeq1 (wpAny_loadPart')
open PySem.MeetsSeq PySem.MeetsSeq2 PySem.MeetsSeq3
end
section
variable {prog:Program} {w:World} {A:Around} {E:Value→Shared→Prop} {s:Shared}
end
end HT
namespace L2
open PySem PySem.Spec PyProof.Rows
section
variable {X:Cx}
def ZhH (K:PySem.W.Frag):R2:=fun x y H Q=>∃a b ns ms,x=.ref a∧y=.ref b∧SqT K H a (ns.map V.int)∧SqT K H b (ms.map V.int)∧Q (.bl (HT.lexLe ns ms)) H
end
end L2
namespace LS
open PySem PySem.Spec PyProof.Rows L2
section
variable {X:Cx} {E:XK}
def RN:D→Option (List Int)
 |.tup ds=>AC (ds.map EO)
 |_=>none
def ZhI (f:List Int→List Int→Bool):D→D→HD→Out D:=fun x y h=>match RN x,RN y with
 |some ns,some ms=>.ok (.bl (f ns ms)) h
 |_,_=>.stuck
end
section
variable {prog:Program} {w:World} {A:Around} {E:Value→Shared→Prop} {s:Shared}
end
section
variable {X:Cx} {E:XK} {e:Expr} {f:ME}
def ZbZ:D→HD→Out D:=fun x h=>match x with
 |.tup ds=>.ok (.tup ds.reverse) h
 |_=>.stuck
def ZhJ (f:ME):ME:=fun ρ h=>(f ρ h).bind ZbZ
end
end LS
namespace LS
open PySem
section
variable {prog:Program} {w:World} {A:Around} {E:Value→Shared→Prop} {h:Heap} {g:Array GenState} {d:Drawn} {t:Nat} {os:OsState}
variable {nm q:Str} {C N:Addr} {bs bm bmB:List Value} {hdct:Bool} {sn:List Str} {sub:List Value} {ab:Bool} {col:Option Bool} {dd:Option Addr} {k0 k1 k2 k3 k5:Option Value} {B newId initId:String}
end
end LS
namespace LS
open PySem PySem.Spec PyProof.Rows L2
def ZhK (i j k:Nat):MG:=fun d ρ=>match d with
 |.tup [x,.tup [y,z]]=>some (((ρ.set i (some x)).set j (some y)).set k (some z))
 |_=>none
abbrev ZhL (K:PySem.W.Frag) (i j k:Nat):TG:=EI K 2 (Cg (BP i) (Cg (EI K 2 (Cg (BP j) (Cg (BP k) Ed))) Ed))
def emS (elt:Expr) (gens:List Comprehension) (scope:Scope) (pos:Pos) (d:Nat) (acc:Value) (env:Env):Sem Unit:=match gens[d+1]? with
 |some g=>eval g.iter env >>=fun x=>standAt g.iter.pos >>=fun _=>foldedSetIterable g.iter env x >>=fun y=>holding [y] (pyIter y) >>=fun it=>
  runOwn (.compStart (.ListComp elt gens scope pos) (d+1) it acc env) env >>=fun _=>pure ()
 |none=>eval elt env >>=fun x=>call (.builtin "list.append") [acc,x] >>=fun _=>pure ()
section
variable {prog:Program} {w:World} {A:Around} {R:Result→Shared→Prop} {s:Shared} {elt tg iter:Expr} {gens:List Comprehension} {ifs:List Expr} {scope:Scope} {pos:Pos} {d:Nat} {it acc:Value} {env:Env}
end
abbrev N0 (its:List Value) (k:Nat):Obj:={cls:=.type "list",data:=.seq its.toArray k}
structure ZhM (X:Cx) (D:Addr):Prop where
 lo:D≠X.env.locals
 ce:∀x c,X.env.cells.lookup x=some c→c≠D
 pn:∀p∈X.pn,p.1≠D
 ex:D∈X.ex
 fs:D∉X.fs
section
variable {X:Cx} {D:Addr} {its its':List Value} {k k':Nat} {rest:List (Addr×Obj)} {σ:L2.St} {H:Hp} {s:Shared} {h':Heap}
def EM (X:Cx) (D:Addr) (em:Sem Unit) (te:L2.St→Hp→List V→(List V→Hp→Prop)→Prop):Prop:=
 ∀(rest:List (Addr×Obj)) (its:List Value) (k:Nat) (acc:List V) (σ:L2.St) (H:Hp) (s:Shared) (Q:List V→Hp→Prop),Inv X ((D,N0 its k)::rest) σ H s→(∀p∈rest,p.1≠D)→Vals acc its→te σ H acc Q→
  wpAny (model X.prog X.w) X.A em (fun _ s'=>∃its' k' acc' H',Inv X ((D,N0 its' k')::rest) σ H' s'∧Vals acc' its'∧Q acc' H') (fun _ _=>False) s
def ZhN (te:TE):L2.St→Hp→List V→(List V→Hp→Prop)→Prop:=fun σ H acc Q=>acc.length<sizeLine∧te σ H fun y H'=>Q (acc++[y]) H'
def ZhO (wi:TI) (g:TG) (tc:TT) (te:L2.St→Hp→List V→(List V→Hp→Prop)→Prop):L2.St→Hp→List V→(List V→Hp→Prop)→Prop:=fun σ H acc Q=>wi σ H fun J H1=>∃W:Nat→Nat→List V→Hp→Prop,(∃n,W 0 n acc H1)∧∀i n acc H,W i n acc H→
 (J.stop i H∧Q acc H)∨
 (J.go i H∧∀x H',J.yld i H x H'→g x σ H' fun σ2 H2=>Sub σ σ2∧tc σ2 H2 fun b H3=>if b=true then te σ2 H3 acc fun acc' H4=>∃n',n' < n∧W (i+1) n' acc' H4 else ∃n',n' < n∧W (i+1) n' acc H3)
inductive CL2 (X:Cx) (D:Addr) (rest:List (Addr×Obj)) (σ:L2.St) (W:Nat→Nat→List V→Hp→Prop) (tn:Nat→Heap→Prop) (fp:List Addr) (n:Nat) (s':Shared):Prop where
 |mk (i:Nat) (acc:List V) (H':Hp) (its:List Value) (k:Nat) (w:W i n acc H') (ii:Inv X ((D,N0 its k)::rest) σ H' s') (st:tn i s'.heap) (fr:∀b∈fp,H' b=none) (rv:Vals acc its):CL2 X D rest σ W tn fp n s'
end
def ZhP (cs:List (Option Nat)) (wi:TI) (g:TG) (tc:TT) (te:L2.St→Hp→List V→(List V→Hp→Prop)→Prop):TE:=fun σ H Q=>wi σ H fun J H1=>∃W:Nat→Nat→List V→Hp→Prop,(∃n,W 0 n [] H1)∧∀i n acc H,W i n acc H→
 (J.stop i H∧acc.length≤sizeLine∧∀p,H p=none→Q (.ref p) (Ak H p (.lst acc)))∨
 (J.go i H∧∀x H',J.yld i H x H'→g x (Bz cs σ) H' fun σ2 H2=>Sub (Bz cs σ) σ2∧tc σ2 H2 fun b H3=>if b=true then te σ2 H3 acc fun acc' H4=>∃n',n' < n∧W (i+1) n' acc' H4 else ∃n',n' < n∧W (i+1) n' acc H3)
section
variable {X:Cx} {elt tg iter:Expr} {ifs:List Expr} {gs:List Comprehension} {scope:Scope} {pos:Pos} {Nc:List Str} {cs:List (Option Nat)} {wi:TI} {g:TG} {tc:TT} {te:L2.St→Hp→List V→(List V→Hp→Prop)→Prop}
end
abbrev DE:=Ag→HD→List D→Out (List D)
abbrev TEm:=L2.St→Hp→List V→(List V→Hp→Prop)→Prop
def Frs (js:List Nat) (σ:L2.St):Prop:=∀j∈js,σ[j]?=some none
def ZhQ (K:PySem.W.Frag) (is js:List Nat) (gg:TG) (sg:MG):Prop:=
 ∀m H d v ρ σ ρ' Q,DV K m H d v→ER K m H ρ σ→Frs (is++js) σ→sg d ρ=some ρ'→(∀σ',Sub σ σ'→Frs js σ'→ER K m H ρ' σ'→Q σ' H)→gg v σ H Q
theorem Frs.set {js:List Nat} {σ:L2.St} {i:Nat} {v:Option V} (h:Frs js σ) (n:i∉js):Frs js (σ.set i v):=fun j hj=>by
 have hn:i≠j:=by
  rintro rfl
  exact n hj
 rw [BG hn]
 exact h j hj
noncomputable def ZhR (f:ME):DE:=fun ρ h acc=>if acc.length<sizeLine then (noErr (f ρ h)).bind fun y h2=>.ok (acc++[y]) h2 else .stuck
open Classical in
noncomputable def IC (src:AS) (items:List D) (sg:MG) (t:MT) (e:DE) (ρ:Ag):List D→HD→List D→Out (List D)
 |[],h,acc=>if Bj src items h then .ok acc h else .stuck
 |d::ds,h,acc=>if Bj src items h then match sg d ρ with
   |none=>.stuck
   |some ρ1=>(noErr (t ρ1 h)).bind fun b h1=>if b=true then (noErr (e ρ1 h1 acc)).bind fun acc2 h2=>IC src items sg t e ρ ds h2 acc2 else IC src items sg t e ρ ds h1 acc
  else .stuck
noncomputable def ZhS (it:MI) (sg:MG) (t:MT) (e:DE):DE:=fun ρ h acc=>(noErr (it ρ h)).bind fun x h1=>IC x.2 x.1 sg t e ρ x.1 h1 acc
noncomputable def KA (cs:List (Option Nat)) (it:MI) (sg:MG) (t:MT) (e:DE):ME:=fun ρ h=>(it ρ h).bind fun x h1=>(IC x.2 x.1 sg t e (Cp cs ρ) x.1 h1 []).bind B9
def tEm (K:PySem.W.Frag) (js:List Nat) (e:DE):TEm:=fun σ H acc Q=>∃m ρ h dacc,HR K m h H∧ER K m H ρ σ∧DVs K m H dacc acc∧Frs js σ∧Post K (DN K) m H E0 Q (e ρ h dacc)
inductive EmI {β:Type} (K:PySem.W.Frag) (E:XK) (α:Type) (R:List Addr→Hp→α→β→Prop) (Q:β→Hp→Prop) (kk:List D→HD→Out α) (src:AS) (items:List D) (sg:MG) (t:MT) (e:DE) (ρ:Ag) (m1:List Addr) (H1:Hp) (i n:Nat) (acc:List V) (H2:Hp):Prop where
 |mk (en:n=items.length - i) (l:i≤items.length) (m2:List Addr) (h2:HD) (dacc:List D) (p:m1 <+:m2) (k:Kp H1 H2) (hr:HR K m2 h2 H2) (da:DVs K m2 H2 dacc acc) (q:Post K R m2 H2 E Q ((IC src items sg t e ρ (items.drop i) h2 dacc).bind kk)):EmI K E α R Q kk src items sg t e ρ m1 H1 i n acc H2
section
variable {X:Cx} {E:XK} {D:Addr} {elt tg iter:Expr} {ifs:List Expr} {gs gens:List Comprehension} {scope:Scope} {pos:Pos} {Nc:List Str} {cs:List (Option Nat)} {it:MI} {gg:TG} {sg:MG} {t:MT} {f:ME} {e:DE} {d:Nat} {is js:List Nat}
end
section
variable {α β:Type} {cs:List (Option Nat)} {it:MI} {sg:MG} {t:MT} {f:ME} {e:DE} {ρ:Ag} {h:HD} {src:AS} {xs:List α} {φ:α→D} {acc:List D}
noncomputable def Zb0 (cs:List (Option Nat)) (it:MI) (sg:MG) (t:MT) (e:DE):ME:=Ae (Ai Be) (Aa (KA cs it sg t e) Ac)
noncomputable def Zb1 (cs:List (Option Nat)) (it:MI) (sg:MG) (t:MT) (e:DE):ME:=Ae (Ai DS) (Aa (KA cs it sg t e) Ac)
@[simp] theorem ZhT:Ae (Ai Be) (Aa (KA cs it sg t e) Ac) ρ h=Zb0 cs it sg t e ρ h:=rfl
@[simp] theorem ZhU:Ae (Ai DS) (Aa (KA cs it sg t e) Ac) ρ h=Zb1 cs it sg t e ρ h:=rfl
end
end LS
namespace LS
open PySem
inductive TlN (h:Heap) (ns:List Str) (bB:List Value):List Value→Prop
 |base:TlN h ns bB bB
 |own {a:Addr} {c0:Value} {dd:Option Addr} {cd:ClassData} {sl:Array (Option Value)} {m:Str→Option Value} {tl:List Value} (ha:h.get? a=some {cls:=c0,dict:=dd,data:=.cls cd,slots:=sl}) (hm:h.Ns cd.ns m) (no:∀n∈ns,m n=none) (r:TlN h ns bB tl):TlN h ns bB (.ref a::tl)
theorem TlN.keeps {h h':Heap} {ns:List Str} {bB tl:List Value} (T:TlN h ns bB tl) (k:∀b o,h.get? b=some o→h'.get? b=some o):TlN h' ns bB tl:=by
 induction T with
 |base=>exact .base
 |own ha hm no _ ih=>exact .own (k _ _ ha) (hm.keeps k) no ih
theorem TlN.has {h:Heap} {ns:List Str} {bB tl:List Value} {v:Value} (T:TlN h ns bB tl) (hv:bB.contains v=true):tl.contains v=true:=by
 induction T with
 |base=>exact hv
 |own ha hm no _ ih=>rw [List.contains_cons,ih,Bool.or_true]
section
variable {M:Model} {A:Around} {E:Value→Shared→Prop} {h:Heap} {g:Array GenState} {d:Drawn} {t:Nat} {os:OsState}
theorem TlN.look {ns:List Str} {bB tl:List Value} {n:Str} {y:Option Value} {Q:Option Value→Shared→Prop} (T:TlN h ns bB tl) (hn:n∈ns) (e:lookupAlong bB n=pure y) (q:Q y ⟨h,g,d,t,os⟩):wpAny M A (lookupAlong tl n) Q E ⟨h,g,d,t,os⟩:=by
 induction T with
 |base=>rw [e];exact wpAny_pure q
 |own ha hm no _ ih=>
  rw [lookupAlong_cons];refine wpAny_bind (wpAny_classOwn_cls ha hm ?_);rw [no n hn]
  exact ih
variable {nm q:Str} {C N x:Addr} {bs bm bB:List Value} {hd:Bool} {sn:List Str} {sub:List Value} {ab:Bool} {col:Option Bool} {dd:Option Addr} {k0 k1 k2 k3 k5:Option Value} {B newId sa owner:String} {ns:List Str} {mN mA:Str→Option Value} {name:Str} {v:Value}
end
section
variable {prog:Program} {w:World} {A:Around} {E:Value→Shared→Prop} {h:Heap} {g:Array GenState} {d:Drawn} {t:Nat} {os:OsState}
variable {nm q:Str} {C N x:Addr} {bs bm bB:List Value} {sn:List Str} {sub:List Value} {ab:Bool} {col:Option Bool} {dd:Option Addr} {k0 k1 k2 k3 k5:Option Value} {B newId sa owner:String} {ns:List Str} {mN mA:Str→Option Value} {name:Str} {v:Value}
structure ZhV (h h':Heap) (x C:Addr) (name:Str) (v:Value) (mA:Str→Option Value):Prop where
 inst:h'.Inst x C (fun y=>if y=name then some v else mA y)
 keep:∀b o,b≠x→(∀o0 dx,h.get? x=some o0→o0.dict=some dx→b≠dx)→h.get? b=some o→h'.get? b=some o
 new:∀o0,h.get? x=some o0→o0.dict=none→∃o1,h'.get? x=some o1∧o1.dict=some h.objs.size
 same:∀o0,h.get? x=some o0→∃o1,h'.get? x=some o1∧o1.cls=o0.cls∧o1.data=o0.data∧o1.slots=o0.slots∧∀dx,o0.dict=some dx→o1.dict=some dx
end
section
variable {prog:Program} {w:World} {A:Around} {E:Value→Shared→Prop} {h:Heap} {g:Array GenState} {d:Drawn} {t:Nat} {os:OsState}
variable {nm q:Str} {C N x:Addr} {bs bm bB:List Value} {sn:List Str} {sub:List Value} {ab:Bool} {col:Option Bool} {dd:Option Addr} {k0 k1 k2 k3 k5:Option Value} {B newId:String} {ns:List Str} {mN mA:Str→Option Value} {name:Str} {v:Value}
end
end LS
namespace LS
open PySem PySem.Spec PyProof.Rows L2
def tmNames:List Str:=["__init__","__setattr__","__getattribute__","__getattr__","many","most"]
def RO (K:PySem.W.Frag) (ns:List Str) (bB:List Value):List Value→Bool
 |[]=>bB==[]
 |v::r=>(v::r)==bB||match v with
  |.ref a=>(match K.lookup a with
   |some o=>(match clsOf o.data with
    |some cd=>PySem.W.nsOkIn K cd.ns&&(ns.all (fun n=>PySem.W.nsIn K cd.ns n==some none)&&RO K ns bB r)
    |none=>false)
   |none=>false)
  |_=>false
theorem TlN.tail {h:Heap} {ns:List Str} {bB tl:List Value} (T:TlN h ns bB tl) (hi:("__init__":Str)∈ns):OwnTail h bB tl:=by
 induction T with
 |base=>exact .base
 |own ha hm no _ ih=>exact .own ha hm (no _ hi) ih
inductive Zb2 (h:Heap) (C fI:Addr):Prop where
 |mk (bm:List Value) (N:Addr) (nm q:Str) (bs:List Value) (sn:List Str) (sub:List Value) (ab:Bool) (col:Option Bool) (dd:Option Addr) (k0 k1 k2 k3 k5:Option Value) (mN:Str→Option Value)
  (hC:h.get? C=some (excClassObj nm q C N bs bm true sn sub ab col dd k0 k1 k2 k3 k5 "ValueError.__new__")) (hN:h.Ns N mN) (hi:mN "__init__"=some (.ref fI)) (no:∀n∈tmNames.tail,mN n=none) (T:TlN h tmNames Im bm):Zb2 h C fI
def tmY (K:PySem.W.Frag) (C fI:Addr) (o:Obj) (cd:ClassData):Bool:=
 decide (o.cls=.type "type")&&(decide (cd.mro=.ref C::cd.mro.tail)&&(!cd.hasDel&&(RO K tmNames Im cd.mro.tail&&(PySem.W.nsOkIn K cd.ns&&(PySem.W.nsIn K cd.ns "__init__"==some (some (.ref fI))&&(tmNames.tail.all (fun n=>PySem.W.nsIn K cd.ns n==some none)&&(decide (o.slots.toList.length=6)&&(decide (o.slots.toList[4]?=some (some (.builtin "ValueError.__new__")))&&cd.hasDict))))))))
def tmX (K:PySem.W.Frag) (C fI:Addr):Bool:=match K.lookup C with
 |some o=>(match clsOf o.data with
  |some cd=>tmY K C fI o cd
  |none=>false)
 |none=>false
def exO (C t0:Addr) (da:Option Addr):Obj:={cls:=.ref C,dict:=da,data:=.fields #[.ref t0,.none,.none,.none,.bool false,.none]}
def KB (C e:Addr) (da:Option Addr) (h:Heap):Prop:=∃t0,h.get? e=some (exO C t0 da)
def ZhW (d:Addr) (m:Str→Option Value) (h:Heap):Prop:=h.Ns1 d m
def one (n:Str) (u:Value):Str→Option Value:=fun y=>if y=n then some u else none
section
variable {X:Cx} {pins:List (Addr×Obj)} {σ:L2.St} {H:Hp} {s:Shared} {E:Value→Shared→Prop} {A:Around} {C fI e da:Addr} {n:Str} {u:Value}
def del (H:Hp) (a:Addr):Hp:=fun b=>if b=a then none else H b
theorem RP {H:Hp} {a b:Addr} (h:b≠a):del H a b=H b:=by unfold del;rw [if_neg h]
theorem Kp.del {H:Hp} {a:Addr} {φ:Heap→Prop} (h:H a=some (.mex φ)):Kp H (LS.del H a):=fun b o e i=>by
 rw [RP]
 ·exact e
 ·intro z
  rw [z,h] at e;cases e;cases i
theorem HR.del {K:PySem.W.Frag} {m:List Addr} {h:HD} {H:Hp} {a:Addr} {φ:Heap→Prop} (r:HR K m h H) (e:H a=some (.mex φ)):HR K m h (LS.del H a):=r.same (.del e) fun b hb=>RP fun z=>by
 subst z
 obtain ⟨l,hl,el⟩:=Gz hb
 have hl':l<h.length:=by rw [←r.len];exact hl
 have c:=r.cells l h[l] m[l] (A2 hl') (A2 hl)
 rw [el] at c
 cases hc:h[l] with
 |lst ds=>rw [hc] at c;obtain ⟨vs,q,_⟩:=c;rw [e] at q;cases q
 |ins n fs=>
  rw [hc] at c
  obtain ⟨_,_,_,_,q,_⟩:=c
  rw [e] at q;cases q
 |tabn g=>rw [hc] at c;obtain ⟨_,ps,q,_⟩:=c;rw [e] at q;cases q
 |dic fz kvs=>
  rw [hc] at c
  obtain ⟨es,q,_⟩:=c
  cases fz with
  |true=>obtain ⟨o,q⟩:=q;rw [e] at q;cases q
  |false=>exact absurd (e.symm.trans q) (by intro z;cases z)
end
end LS
namespace LS
open PySem PySem.Spec PyProof.Rows L2 PySem.Calls PySem.W
def swX (K:PySem.W.Frag) (S:Addr):Bool:=PySem.W.readsIn K S (.type "type")&&(match PySem.W.findCls K (.ref S) (.type "type") "__init__" with
 |some (.val (.builtin b))=>b=="ValueError.__init__"
 |_=>false)
def ZhX (H₀:Hp) (C:Addr) (ta:TA):TE:=fun σ H Q=>∃e,H₀ e≠none∧H e=some (.mex (KB C e none))∧ta σ (del H e) fun vs H1=>∃x,vs=[.ref e,.str x]∧(H1 e=none→Q .non (Ak H1 e (.mex (KB C e none))))
section
variable {X:Cx} {C fI S:Addr} {ta:TA} {a1 a2:Expr} {p1 p2 p5:Pos}
end
end LS
namespace LS
open PySem PySem.Spec PyProof.Rows L2 PySem.Calls
section
variable {X:Cx} {C fI S:Addr}
end
noncomputable abbrev N1:ME:=NP (RD (Ab 1) (Zbz " are more than " (RD (Ab 2) Zby)))
inductive RQ (K:PySem.W.Frag) (C:Addr) (vs:List V) (H:Hp) (Q:VK) (E:XK):Prop
 |mk (e:Addr) (a b:Int) (m:List Addr) (h h2:HD) (x:Str) (ev:vs=[.ref e,.int a,.int b]) (hr:HR K m h H) (hH:H e=some (.mex (KB C e none))) (hj:N1 [none,some (.int a),some (.int b)] h=.ok (.str x) h2)
  (q:∀m1 H1 da,m <+:m1→Kp (del H e) H1→HR K m1 h2 H1→H1 e=none→H1 da=none→da≠e→Q .non (Ak (Ak H1 e (.mex (KB C e (some da)))) da (.xd [("many",.int a),("most",.int b)]))):RQ K C vs H Q E
section
variable {P:Program} {w:World} {K:PySem.W.Frag} {mg:Str→Option Value} {base:Heap} {C f S:Addr} {k:Nat} {qual:Str} {scope:Scope} {p1 p2 p3 p4 p5 p6 q1 q2 q3 q4 r1 r2 r3 r4:Pos} {js:Expr}
abbrev ZhY (js:Expr) (p1 p2 p3 p5 p6 q1 q2 q3 q4 r1 r2 r3 r4:Pos):List Stmt:=[.Expr (.Call (.Attribute (.Name "SwitchError" p1) "__init__" p2) [.Name "self" p3,js] [] p5) p6,.Assign [.Attribute (.Name "self" q1) "many" q2] (.Name "many" q3) q4,.Assign [.Attribute (.Name "self" r1) "most" r2] (.Name "most" r3) r4]
end
noncomputable def ZhZ (fa:MA):MS:=fun ρ h=>(fa ρ h).bind fun xs h1=>match xs with
 |[.int a,.int b]=>(match N1 [none,some (.int a),some (.int b)] h1 with
  |.ok (.str _) h2=>.err (Dx "TooMany") [("many",.int a),("most",.int b)] h2
  |_=>.stuck)
 |_=>.stuck
section
variable {X:Cx} {E:XK} {C fI:Addr} {fd:FuncData} {k:Nat}
end
def RR (nm:Str):D→HD→Out D
 |.exc n fs,h=>if n="TooMany" then (match fs.lookup nm with
  |some i=>.ok (.int i) h
  |none=>.stuck) else .stuck
 |_,_=>.stuck
noncomputable def RS (f:ME) (nm:Str):ME:=fun ρ h=>(f ρ h).bind fun d h1=>RR nm d h1
section
variable {X:Cx} {E:XK} {C fI:Addr}
end
end LS
namespace Tp
open PySem PySem.W PySem.Spec PySem.Calls PyProof.Rows
section
variable {α β:Type}
noncomputable def fN (n:Nat) (k:Nat→α):α:=@Nat.rec (fun _=>α) (k 0) (fun m _=>k (Nat.succ m)) n
theorem KC (n:Nat) (k:Nat→α):fN n k=k n:=by cases n<;>rfl
noncomputable def fL (l:List β):(List β→α)→α:=@List.rec β (fun _=>(List β→α)→α) (fun k=>k []) (fun a _ ih k=>ih fun l'=>k (a::l')) l
theorem ID:∀(l:List β) (k:List β→α),fL l k=k l
 |[],_=>rfl
 |a::l,k=>ID l fun l'=>k (a::l')
noncomputable def fE (l:List DictEntry):(List DictEntry→α)→α:=@List.rec DictEntry (fun _=>(List DictEntry→α)→α) (fun k=>k []) (fun a _ ih k=>ih fun l'=>@DictEntry.rec (fun _=>α) (fun x y z=>k (⟨x,y,z⟩::l')) a) l
theorem RT:∀(l:List DictEntry) (k:List DictEntry→α),fE l k=k l
 |[],_=>rfl
 |⟨_,_,_⟩::l,k=>RT l fun l'=>k (_::l')
noncomputable def fD (d:Data) (k:Data→α):α:=@Data.rec (fun _=>α) (k .plain) (fun v=>k (.prim v)) (fun x n=>@Array.rec Value (fun _=>α) (fun l=>fL l fun l=>fN n fun n=>k (.seq ⟨l⟩ n)) x)
 (fun x n=>@Array.rec DictEntry (fun _=>α) (fun l=>fE l fun l=>fN n fun n=>k (.dict ⟨l⟩ n)) x) (fun x n t=>k (.set x n t)) (fun b n=>k (.bytearray b n)) (fun v=>k (.cell v)) (fun f=>k (.func f)) (fun c=>k (.cls c))
 (fun x=>@Array.rec Value (fun _=>α) (fun l=>fL l fun l=>k (.fields ⟨l⟩)) x) (k .freed) d
theorem Zb3 (d:Data) (k:Data→α):fD d k=k d:=by
 cases d with
 |seq x n=>cases x;simp only [fD,ID,KC]
 |dict x n=>cases x;simp only [fD,RT,KC]
 |fields x=>cases x;simp only [fD,ID]
 |_=>rfl
noncomputable def fO (o:Obj) (k:Obj→α):α:=@Obj.rec (fun _=>α) (fun c d da sl=>fD da fun da=>k ⟨c,d,da,sl⟩) o
theorem RU (o:Obj) (k:Obj→α):fO o k=k o:=by cases o;simp only [fO,Zb3]
noncomputable def fT (t:BT):(BT→α)→α:=@BT.rec (fun _=>(BT→α)→α) (fun k=>k .nil) (fun v _ _ il ir k=>fO v fun v=>il fun l=>ir fun r=>k (.node v l r)) t
theorem N2:∀(t:BT) (k:BT→α),fT t k=k t
 |.nil,_=>rfl
 |.node v l r,k=>by
  show fO v (fun v=>fT l fun l=>fT r fun r=>k (.node v l r))=_
  rw [RU,N2 l,N2 r]
noncomputable def fS (s:SharedT) (k:SharedT→α):α:=@SharedT.rec (fun _=>α) (fun t n li g d tk os=>fT t fun t=>fN n fun n=>fN tk fun tk=>@Drawn.rec (fun _=>α) (fun a b c e=>@Array.rec GenState (fun _=>α) (fun g=>fL g fun g=>k ⟨t,n,li,⟨g⟩,⟨a,b,c,e⟩,tk,os⟩) g) d) s
theorem N3 (s:SharedT) (k:SharedT→α):fS s k=k s:=by
 obtain ⟨t,n,li,⟨g⟩,⟨a,b,c,e⟩,tk,os⟩:=s
 simp only [fS,N2,KC,ID]
noncomputable def fP (p:Pos) (k:Pos→α):α:=@Pos.rec (fun _=>α) (fun a b c d=>fN a fun a=>fN b fun b=>fN c fun c=>fN d fun d=>k ⟨a,b,c,d⟩) p
theorem N4 (p:Pos) (k:Pos→α):fP p k=k p:=by cases p;simp only [fP,KC]
end
section
variable (stp:SharedT→Thread→Option (SharedT×Thread)) (ok:Thread→Bool) (seg:Nat→SharedT→Thread→Option (Flow×SharedT×Code×Pos))
noncomputable def Hf (env:Env) (c:Code) (f:Nat):List (List Stmt)→SharedT→Pos→List Code→Option (SharedT×Pos×List Code)
 |[],s,pos,cs=>some (s,pos,cs)
 |l::ls,s,pos,cs=>match seg f s (piecesOf l env c pos [topFrame ⟨0,0,0,0⟩]) with
  |some (.next,s',c',pos')=>fS s' fun s'=>fP pos' fun pos'=>Hf env c f ls s' pos' (c'::cs)
  |_=>none
def KG:Nat→SharedT→Thread→Option (SharedT×Thread)
 |0,s,t=>some (s,t)
 |n+1,s,t=>match through t with
  |true=>none
  |false=>match ok t with
   |false=>none
   |true=>match stp s t with
    |some (s',t')=>KG n s' t'
    |none=>none
def KH:Nat→SharedT→Thread→Option SharedT
 |0,_,_=>none
 |n+1,s,t=>match through t with
  |true=>some s
  |false=>match ok t with
   |false=>none
   |true=>match stp s t with
    |some (s',t')=>KH n s' t'
    |none=>none
def cut:Nat→List Stmt→List (List Stmt)
 |0,l=>[l]
 |n+1,l=>match l with
  |[]=>[]
  |x::l=>[x]::cut n l
theorem RV:∀(n:Nat) (l:List Stmt),(cut n l).flatten=l
 |0,l=>by simp [cut]
 |_+1,[]=>rfl
 |n+1,x::l=>by simp [cut,RV n l]
theorem RW:∀(n:Nat) (l:List Stmt),(cut n l).length≤n+1
 |0,l=>AG _
 |_+1,[]=>Dq _
 |n+1,x::l=>Nat.succ_le_succ (RW n l)
def N5 (p:Program):Env:={scope:=p.main.scope,locals:=mainNs,globals:=mainNs,cells:=[],code:=.ref 13,frame:=some 14}
def Gj (p:Program):Code:=.body (behindTheImports p) (N5 p)
noncomputable def Es (p:Program) (S0:SharedT):Option (Thread×List Code×SharedT):=match KG stp ok 12 S0 (topStub p) with
 |some (sa,ta)=>match seg 1 sa (blockOf (behindTheImports p) (N5 p) (Gj p) ⟨0,0,0,0⟩ [topFrame ⟨0,0,0,0⟩]) with
  |some (.next,sb,cb,pb)=>fS sb fun sb=>fP pb fun pb=>match Hf seg (N5 p) (Gj p) 2000 (cut 400 (behindTheImports p)) sb pb [cb] with
   |some (sf,pf,cs)=>match KH stp ok 2 sf ⟨doneF .next,Gj p,pf,[topFrame ⟨0,0,0,0⟩]⟩ with
    |some sg=>some (ta,cs,sg)
    |none=>none
   |none=>none
  |_=>none
 |none=>none
end
noncomputable def RX (P:Params) (os:OsState):SharedT:=⟨((boot_heap P).objs.toList.foldl (fun (x:BT×Nat) o=>(x.1.ins x.2 o,x.2+1)) (.nil,0)).1,11,(boot_heap P).life,⟨[]⟩,boot_drawn,boot_toks,os⟩
theorem Zb4 (P:Params) (os:OsState):(RX P os).abs=⟨boot_heap P,⟨[]⟩,boot_drawn,boot_toks,os⟩:=by kernel_rfl
section
variable {α:Type}
noncomputable def N6 (l:List Obj):(List Obj→α)→α:=@List.rec Obj (fun _=>(List Obj→α)→α) (fun k=>k []) (fun a _ ih k=>fO a fun a=>ih fun l'=>k (a::l')) l
theorem RY:∀(l:List Obj) (k:List Obj→α),N6 l k=k l
 |[],_=>rfl
 |a::l,k=>by show fO a (fun a=>N6 l fun l'=>k (a::l'))=_;rw [RU,RY]
noncomputable def AQ (s:SharedT) (k:Shared→α):α:=N6 (s.tree.list s.n) fun l=>k ⟨⟨⟨l⟩,s.life⟩,s.gens,s.drawn,s.toks,s.os⟩
theorem Zb5 (s:SharedT) (k:Shared→α):AQ s k=k s.abs:=RY _ _
end
section
variable {tb:String→Option Builtin} {p:Program} {w:World} {m0:Nat} {ann:Option Value}
theorem RZ:∀{n:Nat} {s s':SharedT} {t t':Thread},KG (stepT (denote tb) p w) (stepOk m0 ann) n s t=some (s',t')→topGo tb p w m0 ann n s.abs t=some (s'.abs,t')
 |0,_,_,_,_,h=>by cases h;rfl
 |n+1,s,s',t,t',h=>by
  unfold KG at h
  unfold topGo
  cases he:through t with
  |true=>rw [he] at h;cases h
  |false=>
   rw [he] at h
   cases hk:stepOk m0 ann t with
   |false=>rw [hk] at h;cases h
   |true=>
    rw [hk] at h
    cases hs:stepT (denote tb) p w s t with
    |none=>rw [hs] at h;cases h
    |some r=>obtain ⟨s₂,t₂⟩:=r;rw [hs] at h;rw [stepT_spec hs];exact RZ h
theorem R0:∀{n:Nat} {s s':SharedT} {t:Thread},KH (stepT (denote tb) p w) (stepOk m0 ann) n s t=some s'→topRun tb p w m0 ann n s.abs t=some s'.abs
 |0,_,_,_,h=>by cases h
 |n+1,s,s',t,h=>by
  unfold KH at h
  unfold topRun
  cases he:through t with
  |true=>rw [he] at h;cases h;rfl
  |false=>
   rw [he] at h
   cases hk:stepOk m0 ann t with
   |false=>rw [hk] at h;cases h
   |true=>
    rw [hk] at h
    cases hs:stepT (denote tb) p w s t with
    |none=>rw [hs] at h;cases h
    |some r=>obtain ⟨s₂,t₂⟩:=r;rw [hs] at h;rw [stepT_spec hs];exact R0 h
theorem N7 {seg:Nat→SharedT→Thread→Option (Flow×SharedT×Code×Pos)} {env:Env} {c:Code} {f:Nat}:∀{ls:List (List Stmt)} {s sf:SharedT} {pos pf:Pos} {c0 cs:List Code},Hf seg env c f ls s pos c0=some (sf,pf,cs)→∀x∈c0,x∈cs
 |[],_,_,_,_,_,_,h,x,hx=>by cases h;exact hx
 |l::ls,s,sf,pos,pf,c0,cs,h,x,hx=>by
  unfold Hf at h
  split at h
  ·rw [N3,N4] at h;exact N7 h x (.tail _ hx)
  ·cases h
theorem R1 {env:Env} {c:Code} {f:Nat}:∀{ls:List (List Stmt)} {s sf:SharedT} {pos pf:Pos} {c0 cs:List Code},Hf (segRunT tb p w m0 ann 1) env c f ls s pos c0=some (sf,pf,cs)→(∀x∈cs,x=c)→∀{N:Nat} {r:Shared},
 topRun tb p w m0 ann N sf.abs ⟨doneF .next,c,pf,[topFrame ⟨0,0,0,0⟩]⟩=some r→topRun tb p w m0 ann (ls.length*f+N) s.abs (restOf ls.flatten env c pos [topFrame ⟨0,0,0,0⟩])=some r
 |[],s,sf,pos,pf,c0,cs,h,hc,N,r,k=>by
  cases h
  rw [HC,Nat.zero_mul,Nat.zero_add]
  exact piece_nil k
 |l::ls,s,sf,pos,pf,c0,cs,h,hc,N,r,k=>by
  unfold Hf at h
  split at h
  ·rename_i s' c' pos' e
   rw [N3,N4] at h
   have e1:=segRun_of e
   rw [hc c' (N7 h c' (.head _))] at e1
   have:=piece_app (rest:=ls.flatten) e1 (R1 h hc k)
   rw [D7,Nat.succ_mul,Nat.add_comm (ls.length*f) f,HG]
   exact this
  ·cases h
end
noncomputable def Zb6 {α:Type} (OS:Program→List Str→List Str→(Shared→Bool)→Bool→Shared→_) (IM:List Stmt→List Str) (p q:Program) (loose:List Str) (Yf:Shared→α) (H₀:Heap) (s:Shared):=
 ((staticsOk (IM p.main.body) H₀ s.heap&&namesBound p s.heap&&gensDone s&&laidKept H₀ s.heap),(OS q loose (IM p.main.body) (fun _=>true) true s:type_of% (openSeen q loose [] (fun _=>true) true s)),Yf s)
theorem left_of {p q:Program} {loose:List Str} {α:Type} {Yf:Shared→α} {Ya:World→α} {n:Nat} (e:opening p=plainProg p.main.scope.names) (fm:∀s,fenceModules? p s=some s)
 (size:∀w:World,((boot_heap w.params).isNs mainGlobals&&(Array.mk ([]:List GenState)).size==0,(boot_heap w.params).objs.size,(boot_heap w.params).nsMap mainGlobals "__annotations__")=(true,11,some (.ref 6)))
 (h:∀(w:World) (os:OsState),(Es (stepT (denote treeTable) p w) (stepOk 11 (some (.ref 6))) (segRunT treeTable p w 11 (some (.ref 6)) 1) p (RX w.params os)).map (fun r=>(r.1,r.2.1,AQ r.2.2 (Zb6 openSeen importedModules p q loose Yf (boot_heap w.params))))=
  some (⟨denote treeTable (Gj p),Gj p,⟨0,0,0,0⟩,[topFrame ⟨0,0,0,0⟩]⟩,List.replicate n (Gj p),(true,openGood q loose,Ya w))):
 LeftO p q loose (fun _=>true) Yf Ya 1000000:=fun w=>by
 obtain ⟨⟨hp,gs,d,k,os⟩,e0,e'⟩:=qaW.mp (boot_open (N:=1000000) e rfl fm w)
 obtain ⟨rfl,rfl,rfl,rfl⟩:hp=boot_heap w.params∧gs=Array.mk []∧d=boot_drawn∧k=boot_toks:=by simpa using e'
 obtain ⟨z1,z2,z3⟩:_∧_∧_:=by simpa only [Prod.mk.injEq] using size w
 obtain ⟨⟨ta,cs,sg⟩,h1,h2⟩:=qaW.mp (h w os)
 dsimp only at h2
 rw [Zb5] at h2
 obtain ⟨h3,h4⟩:=Prod.mk.inj h2
 obtain ⟨h5,h6⟩:=Prod.mk.inj h4
 obtain ⟨l1,h7⟩:=Prod.mk.inj h6
 obtain ⟨l2,l3⟩:=Prod.mk.inj h7
 have hcs:∀x∈cs,x=Gj p:=fun x hx=>by rw [h5] at hx;exact Mf hx
 have run:topRun treeTable p w 11 (some (.ref 6)) 1000000 ⟨boot_heap w.params,Array.mk [],boot_drawn,boot_toks,os⟩ (topStub p)=some sg.abs:=by
  rw [←Zb4]
  unfold Es at h1
  split at h1
  ·rename_i sa ta' ea
   split at h1
   ·rename_i sb cb pb eb
    rw [N3,N4] at h1
    split at h1
    ·rename_i sf pf cs' ec
     split at h1
     ·rename_i sg' eg
      cases h1
      have hb:=segRun_of eb
      rw [hcs cb (N7 ec cb (.head _))] at hb
      have c1:=R1 ec hcs (R0 eg)
      rw [RV] at c1
      have c2:=piece_block hb c1
      have c3:=RZ ea
      rw [h3] at c3
      have c4:=go_top c3 c2
      have hl:=RW 400 (behindTheImports p)
      have:=topRun_mono (1000000 - (12+(1+((cut 400 (behindTheImports p)).length*2000+2)))) _ _ _ _ c4
      rwa [show 12+(1+((cut 400 (behindTheImports p)).length*2000+2))+(1000000 - (12+(1+((cut 400 (behindTheImports p)).length*2000+2))))=1000000 by omega] at this
     ·cases h1
    ·cases h1
   ·cases h1
  ·cases h1
 have t:topFrom treeTable p w 1000000 ⟨boot_heap w.params,Array.mk [],boot_drawn,boot_toks,os⟩=some sg.abs:=by
  unfold topFrom
  dsimp only
  rw [z1,z2,z3,run]
  show (match staticsOk (importedModules p.main.body) (boot_heap w.params) sg.abs.heap&&namesBound p sg.abs.heap&&gensDone sg.abs&&laidKept (boot_heap w.params) sg.abs.heap with |true=>_ |false=>_)=_
  rw [l1]
 unfold openEnds
 rw [e0]
 show (topFrom treeTable p w 1000000 _).map _=_
 rw [t]
 exact congrArg some (Prod.ext l2 l3)
def R3 (h:Heap) (a:Addr):Option (Addr×Obj):=match h.get? a with
 |some o=>(match o.cls,a==mainNs||a==cStatics with
  |.none,false=>none
  |_,_=>some (a,o))
 |none=>none
def Hg (h:Heap):Frag:=(List.range h.objs.size).filterMap (R3 h)
theorem lookup_mem {a:Addr} {o:Obj}:∀{l:Frag},l.lookup a=some o→(a,o)∈l
 |[],h=>by cases h
 |(b,o')::l,h=>by
  rw [D8] at h
  split at h
  ·rename_i q
   cases h
   rw [beq_iff_eq.mp q]
   exact .head _
  ·exact .tail _ (lookup_mem h)
theorem Zb7 (h:Heap):(Hg h).In h:=fun a o e=>by
 obtain ⟨b,_,hb⟩:=List.mem_filterMap.mp (lookup_mem e)
 unfold R3 at hb
 split at hb
 ·rename_i o' e'
  split at hb
  ·cases hb
  ·cases hb;exact e'
 ·cases hb
def blank (fd:FuncData):FuncData:={fd with kwdefaults:=.none,doc:=.none,pyModule:=.none,annotations:=none,code:=.none,closureTuple:=.none}
def Gk (K:Frag) (n:Str):Option (FuncData×Bool×Bool):=match nsIn K mainGlobals n with
 |some (some (.ref f))=>(match K.lookup f with
  |some ⟨_,_,.func fd,_⟩=>some (blank fd,codeIn K fd.code n,keepIn K (.ref f))
  |_=>none)
 |_=>none
abbrev IE (n:Str) (st:Stmt):FuncData:=fnOf n n (L2.defArgs st) (L2.defBody st) (L2.defScope st) .none .none .none .none none .none .none
inductive SeenF (K:Frag) (n:Str) (st:Stmt):Prop where
 |mk (f:Addr) (od an:Option Addr) (sl:Array (Option Value)) (oc kV dc pm cd ct:Value) (a:nsIn K mainGlobals n=some (some (.ref f)))
  (l:K.lookup f=some ⟨oc,od,.func (fnOf n n (L2.defArgs st) (L2.defBody st) (L2.defScope st) .none kV dc pm an cd ct),sl⟩) (c:codeIn K cd n=true) (k:keepIn K (.ref f)=true):SeenF K n st
theorem Zb8 {K:Frag} {n:Str} {st:Stmt} (e:Gk K n=some (IE n st,true,true)):SeenF K n st:=by
 unfold Gk at e
 split at e
 ·rename_i f hf
  split at e
  ·rename_i oc od fd sl hl
   obtain ⟨e1,e2⟩:=Prod.mk.inj (Option.some.inj e)
   obtain ⟨e3,e4⟩:=Prod.mk.inj e2
   obtain ⟨x1,x2,x3,x4,x5,x6,x7,x8,x9,x10,x11,x12,x13,x14,x15⟩:=fd
   replace e1:FuncData.mk x1 x2 x3 x4 x5 x6 x7 x8 .none .none .none none .none .none x15=IE n st:=e1
   injection e1 with y1 y2 y3 y4 y5 y6 y7 y8 y9 y10 y11 y12 y13 y14 y15
   subst x1 x2 x3 x4 x5 x6 x7 x8 x15
   exact ⟨f,od,x12,sl,oc,x9,x10,x11,x13,x14,hf,hl,e3,e4⟩
  ·cases e
 ·cases e
def Gm (K:Frag) (x:Str):Option Int:=match nsIn K mainGlobals x with
 |some (some (.int v _))=>some v
 |_=>none
theorem Zb9 {K:Frag} {x:Str} {v:Int} (e:Gm K x=some v):∃t,nsIn K mainGlobals x=some (some (.int v t)):=by
 unfold Gm at e
 split at e
 ·rename_i t h;cases e;exact ⟨t,h⟩
 ·cases e
def N8 (K:Frag) (h:Heap):Option (Option Obj×Bool×Bool):=match LS.tabP K "law" with
 |some (c,T)=>some (h.get? T,codeHdIn K c T,(K.lookup T).isNone)
 |none=>none
structure Want where
 fs:List (Str×Stmt)
 cs:List (Str×Int)
 bs:List Str
abbrev Hh:=List (Option (FuncData×Bool×Bool))×List (Option Int)×List (Option (Option Value))×Bool×Option (Option Obj×Bool×Bool)
noncomputable def Zh0 (W:Want) (s:Shared):Hh:=fL (Hg s.heap) fun K=>
 (W.fs.map fun x=>Gk K x.1,W.cs.map fun x=>Gm K x.1,W.bs.map (nsIn K mainGlobals),LS.etOk K,N8 K s.heap)
def R4 (W:Want):Hh:=(W.fs.map fun x=>some (IE x.1 x.2,true,true),W.cs.map fun x=>some x.2,W.bs.map fun _=>some none,true,some (some (tabObj #[]),true,true))
inductive KI (W:Want) (K:Frag) (c T:Addr):Prop where
 |mk (fs:∀(i:Nat) n st,W.fs[i]?=some (n,st)→SeenF K n st) (cs:∀(i:Nat) n v,W.cs[i]?=some (n,v)→∃t,nsIn K mainGlobals n=some (some (.int v t))) (bs:∀(i:Nat) n,W.bs[i]?=some n→nsIn K mainGlobals n=some none)
  (et:LS.etOk K=true) (tb:LS.tabP K "law"=some (c,T)) (hd:codeHdIn K c T=true) (no:K.lookup T=none):KI W K c T
def Says (W:Want) (_:World) (h:Heap):Prop:=∃(K:Frag) (c T:Addr),K.In h∧KI W K c T∧h.get? T=some (tabObj #[])
theorem Says.keeps {W:Want} (w:World) (h h':Heap) (x:Says W w h) (k:∀b o,h.get? b=some o→h'.get? b=some o):Says W w h':=by
 obtain ⟨K,c,T,h1,h2,h3⟩:=x
 exact ⟨K,c,T,h1.keeps k,h2,k _ _ h3⟩
theorem Gn {α β:Type} {f g:α→β} {l:List α} (e:l.map f=l.map g) {i:Nat} {x:α} (h:l[i]?=some x):f x=g x:=by
 have:=congrArg (·[i]?) e
 simp only [Bv,h,FR,Option.some.injEq] at this
 exact this
end Tp
namespace LS
open PySem PySem.W PySem.Spec PySem.Calls PyProof.Rows L2
end LS
namespace Tp
open PySem PySem.W PySem.Spec PySem.Calls PyProof.Rows
def Zca (K:Frag):Option (FuncData×List Bool):=match nsIn K mainGlobals "TooMany",nsIn K mainGlobals "SwitchError" with
 |some (some (.ref C)),some (some (.ref S))=>(match K.lookup C with
  |some o=>(match LS.clsOf o.data with
   |some cd=>(match nsIn K cd.ns "__init__" with
    |some (some (.ref f))=>(match K.lookup f with
     |some ⟨oc,_,.func fd,_⟩=>some (blank fd,[codeIn K fd.code "TooMany.__init__",LS.tmX K C f,LS.swX K S,keepIn K (.ref C),oc==.type "function"])
     |_=>none)
    |_=>none)
   |none=>none)
  |none=>none)
 |_,_=>none
abbrev fnI (st:Stmt):FuncData:=fnOf "__init__" "TooMany.__init__" (L2.defArgs st) (L2.defBody st) (L2.defScope st) .none .none .none .none none .none .none
inductive R5 (K:Frag) (st:Stmt):Prop where
 |mk (C S f:Addr) (od an:Option Addr) (sl:Array (Option Value)) (kV dc pm cd ct:Value) (nC:nsIn K mainGlobals "TooMany"=some (some (.ref C))) (nS:nsIn K mainGlobals "SwitchError"=some (some (.ref S)))
  (l:K.lookup f=some ⟨.type "function",od,.func (fnOf "__init__" "TooMany.__init__" (L2.defArgs st) (L2.defBody st) (L2.defScope st) .none kV dc pm an cd ct),sl⟩) (c:codeIn K cd "TooMany.__init__"=true) (tm:LS.tmX K C f=true) (sw:LS.swX K S=true) (kp:keepIn K (.ref C)=true):R5 K st
noncomputable def Zh1 (W:Want) (s:Shared):Hh×Option (FuncData×List Bool):=fL (Hg s.heap) fun K=>
 ((W.fs.map fun x=>Gk K x.1,W.cs.map fun x=>Gm K x.1,W.bs.map (nsIn K mainGlobals),LS.etOk K,N8 K s.heap),Zca K)
def Zh2 (W:Want) (st:Stmt):Hh×Option (FuncData×List Bool):=(R4 W,some (fnI st,[true,true,true,true,true]))
def SaysT (W:Want) (st:Stmt) (_:World) (h:Heap):Prop:=∃(K:Frag) (c T:Addr),K.In h∧(KI W K c T∧R5 K st)∧h.get? T=some (tabObj #[])
theorem SaysT.keeps {W:Want} {st:Stmt} (w:World) (h h':Heap) (x:SaysT W st w h) (k:∀b o,h.get? b=some o→h'.get? b=some o):SaysT W st w h':=by
 obtain ⟨K,c,T,h1,h2,h3⟩:=x
 exact ⟨K,c,T,h1.keeps k,h2,k _ _ h3⟩
end Tp
namespace LS
open PySem PySem.W PySem.Spec PySem.Calls PyProof.Rows L2
structure TmK (P:Program) (w:World) (K:Frag) (mg:Str→Option Value) (base:Heap) (C f:Addr) (fd:FuncData) (oI:Obj):Prop where
 tm:tmX K C f=true
 F:FnOk P w K mg base (AO P w K) 1 f fd ["self","many","most"] (RQ K C)
 hb:Binds K fd ["self","many","most"] []
 lI:K.lookup f=some oI
 cI:oI.cls=.type "function"
 kp:keepIn K (.ref C)=true
 nC:nsIn K mainGlobals "TooMany"=some (some (.ref C))
end LS
namespace LS
open PySem PySem.Spec PyProof.Rows L2
open Classical in
noncomputable def Zh3:D→HD→Out D
 |.int i,h=>if i.natAbs<4611686018427387904 then .ok (.str (toString i)) h else .stuck
 |_,_=>.stuck
section
variable {X:Cx}
def Zcb (i j k:Nat) (ta:TA):TS:=fun Dn σ H=>ta σ H fun vs H1=>∃u v w,vs=[u,v,w]∧Dn.nx (((σ.set i (some u)).set j (some v)).set k (some w)) H1
theorem Zcc {i j k:Nat} {x y z:Str} {a b c:Expr} {ta:TA} {px py pz pt pos:Pos} {kt k2:Nat} {pt2:Pos} (hc:X.calm=true) (hN:X.N.Nodup) (hi:X.N[i]?=some x) (hj:X.N[j]?=some y) (hk:X.N[k]?=some z) (hij:i≠j∧i≠k∧j≠k)
 (hx:X.env.scope.names.lookup x=some .local) (hy:X.env.scope.names.lookup y=some .local) (hz:X.env.scope.names.lookup z=some .local) (ha:PA X [a,b,c] ta)
 (hw:swappedStores [.Tuple [.Name x px,.Name y py,.Name z pz] kt pt] (.Tuple [a,b,c] k2 pt2) X.env=pure (some [x,y,z]))
 (hs:swapsWithSole [.Tuple [.Name x px,.Name y py,.Name z pz] kt pt] (.Tuple [a,b,c] k2 pt2) pos.line X.env=pure false:=by rfl):
 PS X (.Assign [.Tuple [.Name x px,.Name y py,.Name z pz] kt pt] (.Tuple [a,b,c] k2 pt2) pos) (Zcb i j k ta):=by
 intro pins s σ H Dn I h
 rw [exec_Assign_arm];refine wpAny_bind (wpAny_standAt ?_);rw [hs];refine wpAny_bind (wpAny_pure ?_);rw [if_neg (by decide)]
 refine wpAny_bind (Tuple_ (Ap (ha _ pins s σ H _ I h) fun us s1 zz=>?_))
 obtain ⟨vs,H1,I1,r1,u,v,w,rfl,q1⟩:=zz
 obtain ⟨u1,u2,u3,rfl,ru,rv,rw'⟩:∃u1 u2 u3,us=[u1,u2,u3]∧RelV u u1∧RelV v u2∧RelV w u3:=by
  cases r1 with
  |cons p q=>cases q with
   |cons p' q'=>cases q' with
    |cons p2 q2=>cases q2;exact ⟨_,_,_,rfl,p,p',p2⟩
 refine wpAny_newObj_type ?_ (by show 3≤sizeLine;decide)
 have I2:Inv X pins σ H1 {s1 with heap:=s1.heap.push {cls:=.type "tuple",data:=.seq [u1,u2,u3].toArray}}:=I1.kept (t':=s1.toks) fun b o e=>AB _ e
 rw [hw];refine wpAny_bind (wpAny_pure ?_)
 show wpAny (model X.prog X.w) X.A (do rule "assign.swapped-stores";let items ←unpackItems (.ref s1.heap.objs.size) 3 none;assignInOrder [fun v=>bindName X.env z v,fun v=>bindName X.env y v,fun v=>bindName X.env x v] items.reverse;pure Flow.next) _ _ _
 refine wpAny_bind (wpAny_rule (wpAny_bind (unpackItems_tuple (items:=#[u1,u2,u3]) (I.ok.hd hc) (IsTup.new s1.heap _) fun h' hx'=>?_)))
 have I3:=I2.kept (h':=h') (t':=s1.toks) fun b o e=>hx' b o (Bo (AA e)) e
 show wpAny _ _ (assignInOrder [fun v=>bindName X.env z v,fun v=>bindName X.env y v,fun v=>bindName X.env x v] [u3,u2,u1] >>=fun _=>pure Flow.next) _ _ _
 refine wpAny_bind (assignInOrder_cons (wpAny_bindName (FV I3 hN hk (.inl hz) rw' (fun s2 I4=>?_) (.inr hz))))
 refine assignInOrder_cons (wpAny_bindName (FV I4 hN hj (.inl hy) rv (fun s3 I5=>?_) (.inr hy)))
 refine assignInOrder_cons (wpAny_bindName (FV I5 hN hi (.inl hx) ru (fun s4 I6=>assignInOrder_nil (wpAny_pure ?_)) (.inr hx)))
 rw [List.set_comm _ _ (Ne.symm hij.2.2),List.set_comm _ _ (Ne.symm hij.2.1),List.set_comm _ _ (Ne.symm hij.1)] at I6
 exact ⟨_,H1,I6,q1⟩
def KJ (i j k:Nat) (ρ:Ag):List D→HD→Out (Fl×Ag)
 |[u,v,w],h=>.ok (.nx,((ρ.set i (some u)).set j (some v)).set k (some w)) h
 |_,_=>.stuck
noncomputable def IF (i j k:Nat) (fa:MA):MS:=fun ρ h=>(fa ρ h).bind fun ds h1=>KJ i j k ρ ds h1
theorem Zcd {E:XK} {i j k:Nat} {x y z:Str} {a b c:Expr} {fa:MA} {px py pz pt pos:Pos} {kt k2:Nat} {pt2:Pos} (hc:X.calm=true) (hN:X.N.Nodup) (hi:X.N[i]?=some x) (hj:X.N[j]?=some y) (hk:X.N[k]?=some z) (hij:i≠j∧i≠k∧j≠k)
 (hx:X.env.scope.names.lookup x=some .local) (hy:X.env.scope.names.lookup y=some .local) (hz:X.env.scope.names.lookup z=some .local) (ha:Cj X E [a,b,c] fa)
 (hw:swappedStores [.Tuple [.Name x px,.Name y py,.Name z pz] kt pt] (.Tuple [a,b,c] k2 pt2) X.env=pure (some [x,y,z]))
 (hs:swapsWithSole [.Tuple [.Name x px,.Name y py,.Name z pz] kt pt] (.Tuple [a,b,c] k2 pt2) pos.line X.env=pure false:=by rfl):
 Ex X E (.Assign [.Tuple [.Name x px,.Name y py,.Name z pz] kt pt] (.Tuple [a,b,c] k2 pt2) pos) (IF i j k fa):=
 Dv (Zcc hc hN hi hj hk hij hx hy hz ha hw hs) fun Dn σ H zz=>by
  obtain ⟨m,ρ,h,hr,er,p⟩:=zz
  exact ⟨m,ρ,h,hr,er,PostS.bind p fun ds h1 vs m1 H1 _ p1 k1 hr1 r1 q1=>by
   unfold KJ at q1
   split at q1
   ·simp only [DN,DVs] at r1
    obtain ⟨u,w1,rfl,ru,v,w2,rfl,rv,w,w3,rfl,rw',rfl⟩:=r1
    exact ⟨u,v,w,rfl,(q1.here hr1) _ ((((er.keep p1 k1).set ru).set rv).set rw')⟩
   ·exact q1.elim⟩
end
@[simp] theorem Zh4 {i j k:Nat} {fa:MA} {ρ:Ag} {h:HD} {Q:Fl×Ag→HD→Prop}:Wp (IF i j k fa ρ h) Q=Wp (fa ρ h) fun ds h1=>Wp (KJ i j k ρ ds h1) Q:=by unfold IF;rw [Aq]
@[simp] theorem Zh5 {i j k:Nat} {ρ:Ag} {u v w:D} {h:HD} {Q:Fl×Ag→HD→Prop}:Wp (KJ i j k ρ [u,v,w] h) Q=Q (.nx,((ρ.set i (some u)).set j (some v)).set k (some w)) h:=rfl
section
variable {X:Cx}
abbrev N9:=Fi fun i j=>.int (Builtin.bitXor i j)
theorem Zce:Bh X (binaryOp .BitXor) N9:=HU WX fun _ _ _ _=>by simp [DV]
end
section
variable {X:Cx} {E:XK} {D:Addr} {elt tg iter:Expr} {ifs:List Expr} {gs gens:List Comprehension} {scope:Scope} {pos:Pos} {Nc:List Str} {cs:List (Option Nat)} {it:MI} {gg:TG} {sg:MG} {t:MT} {f:ME} {e:DE} {d:Nat} {is js:List Nat}
end
theorem Zcf {X:Cx} {E:XK} {k k':Nat} {F:List D→HD→Out D} {x:Str} {p pos:Pos} (C:CaE X.prog X.w X.K X.mg X.base x k F) (hr:Room k' X.A) (hx:CD (AO X.prog X.w X.K) X E) (hk:k≤k':=by decide) (hg:Gl X x:=by rfl)
 (hdb:(x==("__debug__":Str))=false:=by decide):Ev X E (.Call (.Name x p) [] [] pos) (Ae F Ac):=by
 obtain ⟨f,fd,ps,G,hb,hm,hkp⟩:=C.ex
 refine BH (XJ (E:=E) G (hr.mono hk) hg hm hkp hb .nil hx hdb) fun σ H Q z3_=>?_
 obtain ⟨m,ρ,hd,hr,er,p⟩:=z3_
 exact ⟨m,[],hd,hr,.nil,p⟩
def Zcg:List Expr→Option (List (Int×Int))
 |[]=>some []
 |.Tuple [.Constant (.int a) _ _,.Constant (.int b) _ _] _ _::es=>(Zcg es).map ((a,b)::·)
 |_=>none
noncomputable def KL:List (Int×Int)→MA
 |[]=>Ac
 |p::ps=>Aa (Am (Aa (mC (.int p.1)) (Aa (mC (.int p.2)) Ac))) (KL ps)
@[simp] theorem Zh6:KL []=Ac:=rfl
@[simp] theorem Zh7 {p:Int×Int} {ps:List (Int×Int)}:KL (p::ps)=Aa (Am (Aa (mC (.int p.1)) (Aa (mC (.int p.2)) Ac))) (KL ps):=rfl
section
variable {X:Cx} {E:XK}
@[irreducible] def ExI (X:Cx) (E:XK) (st:Stmt) (g:MS):Prop:=Ex X E st g
@[irreducible] def Zh8 (X:Cx) (E:XK) (sts:List Stmt) (g:MS):Prop:=Cn X E sts g
end
end LS
namespace LS
open PySem PySem.Spec PySem.W PyProof.Rows L2
end LS
namespace LS
open PySem PySem.Spec PyProof.Rows L2 PySem.W
end LS
namespace Tp
open PySem PySem.W PySem.Spec PySem.Calls PyProof.Rows
abbrev R6:=List (Option (FuncData×Bool×Bool))×List (Option Int)×List (Option (Option Value))×Bool
noncomputable def Zh9 (W:Want) (s:Shared):R6:=fL (Hg s.heap) fun K=>
 (W.fs.map fun x=>Gk K x.1,W.cs.map fun x=>Gm K x.1,W.bs.map (nsIn K mainGlobals),true)
def Zia (W:Want):R6:=(W.fs.map fun x=>some (IE x.1 x.2,true,true),W.cs.map fun x=>some x.2,W.bs.map fun _=>some none,true)
inductive R7 (W:Want) (K:Frag):Prop where
 |mk (fs:∀(i:Nat) n st,W.fs[i]?=some (n,st)→SeenF K n st) (cs:∀(i:Nat) n v,W.cs[i]?=some (n,v)→∃t,nsIn K mainGlobals n=some (some (.int v t))) (bs:∀(i:Nat) n,W.bs[i]?=some n→nsIn K mainGlobals n=some none)
  (et:True):R7 W K
def Says0 (W:Want) (_:World) (h:Heap):Prop:=∃K:Frag,K.In h∧R7 W K
theorem Says0.keeps {W:Want} (w:World) (h h':Heap) (x:Says0 W w h) (k:∀b o,h.get? b=some o→h'.get? b=some o):Says0 W w h':=by
 obtain ⟨K,h1,h2⟩:=x
 exact ⟨K,h1.keeps k,h2⟩
end Tp
namespace LS
open PySem PySem.W PySem.Spec PySem.Calls PyProof.Rows L2
end LS
namespace LS
open PySem PySem.Spec PyProof.Rows L2
def Zch:D→HD→Out D:=fun x h=>match x with
 |.loc l=>(match h[l]? with
  |some (.lst ds)=>B9 ds.reverse h
  |_=>.stuck)
 |_=>.stuck
def Zib (f:ME):ME:=fun ρ h=>(f ρ h).bind Zch
section
variable {X:Cx} {E:XK} {e:Expr} {f:ME}
end
def Hi:D→D→HD→Out D:=fun x y h=>match x with
 |.exc _ _=>.stuck
 |.edic=>.stuck
 |_=>AM x y h
section
variable {h:HD} {y:D} {i:Int} {b:Bool} {x:Str} {ds:List D} {l:Nat}
@[simp] theorem Zic:Hi (.int i) y h=AM (.int i) y h:=rfl
@[simp] theorem Zid:Hi (.bl b) y h=AM (.bl b) y h:=rfl
@[simp] theorem Zie:Hi .non y h=AM .non y h:=rfl
@[simp] theorem Zif:Hi (.str x) y h=AM (.str x) y h:=rfl
@[simp] theorem Zig:Hi (.tup ds) y h=AM (.tup ds) y h:=rfl
@[simp] theorem Zih:Hi (.loc l) y h=AM (.loc l) y h:=rfl
end
end LS
namespace LS
open PySem PySem.Spec PyProof.Rows L2 PySem.W PySem.Calls
section
variable {X:Cx} {E:XK}
def ixS:D→D→HD→Out D:=fun x y h=>match x,y with
 |.str z,.int i=>if z.length≤sizeLine then (match Ci z.cps.toList i with
  |some c=>.ok (.str ⟨#[c]⟩) h
  |none=>.stuck) else .stuck
 |_,_=>.stuck
def R8:List D→Option (List Str)
 |[]=>some []
 |.str x::ds=>(R8 ds).map (x::·)
 |_=>none
def R9 (sep:Str):List Str→Str
 |[x]=>x
 |xs=>Builtin.Str.glued sep xs
def Sa:D→HD→Out D
 |.str x,h=>.ok (.str x) h
 |_,_=>.stuck
def Zci:D→D→HD→Out D:=fun x y h=>match x,y with
 |.str sep,.loc l=>(match h[l]? with
  |some (.lst ds)=>(match R8 ds with
   |some xs=>if xs.toArray.foldl (·+ ·.length+sep.length) 0≤sizeLine∧(R9 sep xs).length≤sizeLine then .ok (.str (R9 sep xs)) h else .stuck
   |none=>.stuck)
  |_=>.stuck)
 |_,_=>.stuck
def Oa (n:Str):List D→HD→Out D:=fun xs h1=>if xs.length≤sizeLine then .ok (.exc n []) h1 else .stuck
def Sb (n:Str) (fa:MA):ME:=fun ρ h=>(fa ρ h).bind (Oa n)
noncomputable def Se:List D→HD→Out D:=fun xs h1=>match xs with
 |[.int a,.int b]=>(match N1 [none,some (.int a),some (.int b)] h1 with
  |.ok (.str _) h2=>.ok (.exc "TooMany" [("many",a),("most",b)]) h2
  |_=>.stuck)
 |_=>.stuck
noncomputable def Sg (fa:MA):ME:=fun ρ h=>(fa ρ h).bind Se
end
section
variable {n:Str} {fa:MA} {f:ME} {ρ:Ag} {h:HD} {Q:D→HD→Prop}
@[simp] theorem Zii:Wp (Sb n fa ρ h) Q=Wp (fa ρ h) fun xs h1=>Wp (Oa n xs h1) Q:=by unfold Sb;rw [Aq]
@[simp] theorem Zij {x:D}:Oa n [x] h=.ok (.exc n []) h:=if_pos (by show 1≤sizeLine;decide)
@[simp] theorem Zik:Wp (Sg fa ρ h) Q=Wp (fa ρ h) fun xs h1=>Wp (Se xs h1) Q:=by unfold Sg;rw [Aq]
@[simp] theorem Zil {x:Str}:Sa (.str x) h=.ok (.str x) h:=rfl
@[simp] theorem Zim {nm:Str}:Wp (RS f nm ρ h) Q=Wp (f ρ h) fun d h1=>Wp (RR nm d h1) Q:=by unfold RS;rw [Aq]
end
def Sh:D→D→HD→Out D:=fun x y h=>match x,y with
 |.loc l,.loc k=>(match h[l]?,h[k]? with
  |some (.lst ds),some (.lst es)=>if ds.length+es.length≤sizeLine then .ok .non (h.set l (.lst (ds++es))) else .stuck
  |_,_=>.stuck)
 |_,_=>.stuck
section
variable {X:Cx} {E:XK}
def Si (f g:ME):ME:=fun ρ h=>((f ρ h).bind BZ).bind fun x h1=>(g ρ h1).bind fun y h2=>Sh x y h2
end
section
variable {f g:ME} {ρ:Ag} {h:HD} {Q:D→HD→Prop} {l k:Nat} {ds es:List D}
@[simp] theorem Zin:Wp (Si f g ρ h) Q=Wp (f ρ h) fun x h1=>Wp (BZ x h1) fun x h1=>Wp (g ρ h1) fun y h2=>Wp (Sh x y h2) Q:=by unfold Si;simp only [Aq]
end
def isI:AX→Bool
 |.i _=>true
 |_=>false
def Hj (kvs:List (AX×D)):Bool:=kvs.all fun p=>isI p.1
def IG (kvs:List (AX×D)) (k:AX):Option D:=(kvs.find? fun p=>decide (p.1=k)).map (·.2)
def Gp (kvs:List (AX×D)) (k:AX) (v:D):List (AX×D):=if kvs.any (fun p=>decide (p.1=k)) then kvs.map (fun p=>if p.1=k then (p.1,v) else p) else kvs++[(k,v)]
def IR (K:Frag) (m:List Addr) (H:Hp) (p:AX×D) (q:Int×Value):Prop:=p.1=.i q.1∧∃v,DV K m H p.2 v∧RelV v q.2
section
variable {P:Program} {w:World} {K:Frag} {m:List Addr} {H:Hp} {h:Heap} {a:Addr}
theorem EntD.len:∀{kvs:List (AX×D)} {es:List (AX×V×V)},EntD K m H kvs es→kvs.length=es.length
 |[],_,e=>by simp only [EntD] at e;subst e;rfl
 |_::_,_,e=>by
  simp only [EntD] at e
  obtain ⟨kv,vv,r',rfl,_,_,t⟩:=e
  simp [EntD.len t]
end
section
variable {X:Cx} {E:XK} {pins:List (Addr×Obj)} {σ:L2.St} {H:Hp} {s:Shared}
def Ob (kvs:List (AX×D)) (h:HD):Out D:=.ok (.loc h.length) (h++[.dic false kvs])
def Zcj:ME:=fun _ h=>Ob [] h
def Zck (i j:Int):ME:=fun _ h=>Ob [(.i i,.int j)] h
def Sj:D→HD→Out D:=fun x h=>match x with
 |.loc l=>(match h[l]? with
  |some (.dic _ _)=>.ok x h
  |_=>.stuck)
 |_=>.stuck
def Sk:D→D→D→HD→Out D:=fun x y z h=>match x,y with
 |.loc l,.int n=>(match h[l]? with
  |some (.dic _ kvs)=>if Hj kvs then .ok ((IG kvs (.i n)).getD z) h else .stuck
  |_=>.stuck)
 |_,_=>.stuck
def Sl (f g k:ME):ME:=fun ρ h=>((f ρ h).bind Sj).bind fun x h1=>(g ρ h1).bind fun y h2=>(k ρ h2).bind fun z h3=>Sk x y z h3
def So (o i v:D) (h:HD) (g:HD→Out (Fl×Ag)):Out (Fl×Ag):=match o,i with
 |.loc l,.int n=>(match h[l]? with
  |some (.dic false kvs)=>if Hj kvs∧kvs.length<sizeLine then g (h.set l (.dic false (Gp kvs (.i n) v))) else .stuck
  |_=>.stuck)
 |_,_=>.stuck
def Sq (fo fi fv:ME):MS:=fun ρ h=>(fv ρ h).bind fun v h1=>(fo ρ h1).bind fun o h2=>(fi ρ h2).bind fun i h3=>So o i v h3 fun h4=>.ok (.nx,ρ) h4
def Zio (K:Frag):V→V→V→Hp→(Hp→Prop)→Prop:=fun o i v H Q=>∃(m:List Addr) (a:Addr) (n:Int) (kvs:List (AX×D)) (es:List (AX×V×V)) (d:D),o=.ref a∧i=.int n∧H a=some (.dct (Di a es))∧EntD K m H kvs es∧Hj kvs=true∧kvs.length<sizeLine∧DV K m H d v∧
 ∀es',EntD K m H (Gp kvs (.i n) d) es'→Q (Ak H a (.dct (Di a es')))
def Ziq (a:Addr) (ob:Obj) (es:List (AX×V×V)):It:=⟨fun i H=>H a=some (.frz ob (.dct (Di a es)))∧i<es.length,fun i H x H'=>∃p k kv vv,H p=none∧x=.ref p∧es[i]?=some (k,kv,vv)∧H'=Ak H p (.tup [kv,vv]),fun i H=>H a=some (.frz ob (.dct (Di a es)))∧i=es.length⟩
def Sr (d:D) (h:HD):Out (List D×AS):=match d with
 |.loc l=>(match h[l]? with
  |some (.dic _ kvs)=>if Hj kvs then .ok (kvs.map fun p=>.tup [kD p.1,p.2],[]) (h.set l (.dic true kvs)) else .stuck
  |_=>.stuck)
 |_=>.stuck
def Ss (f:ME):MI:=fun ρ h=>(f ρ h).bind Sr
end
section
variable {f g k fo fi fv:ME} {ρ:Ag} {h:HD} {Q:D→HD→Prop} {QS:Fl×Ag→HD→Prop} {QI:List D×AS→HD→Prop} {i j:Int} {l:Nat} {fz:Bool} {kvs:List (AX×D)}
@[simp] theorem Zir:Wp (Zcj ρ h) Q=Q (.loc h.length) (h++[.dic false []]):=id rfl
@[simp] theorem Zis:Wp (Zck i j ρ h) Q=Q (.loc h.length) (h++[.dic false [(.i i,.int j)]]):=id rfl
@[simp] theorem Zit:Wp (Sl f g k ρ h) Q=Wp (f ρ h) fun x h1=>Wp (Sj x h1) fun x h2=>Wp (g ρ h2) fun y h3=>Wp (k ρ h3) fun z h4=>Wp (Sk x y z h4) Q:=by unfold Sl;simp only [Aq]
@[simp] theorem Ziu:Wp (Sq fo fi fv ρ h) QS=Wp (fv ρ h) fun v h1=>Wp (fo ρ h1) fun o h2=>Wp (fi ρ h2) fun i h3=>Wp (So o i v h3 fun h4=>.ok (.nx,ρ) h4) QS:=by unfold Sq;simp only [Aq]
@[simp] theorem Ziv:Wp (Ss f ρ h) QI=Wp (f ρ h) fun d h1=>Wp (Sr d h1) QI:=by unfold Ss;rw [Aq]
end
namespace Db
open PySem
section
variable {prog:Program} {w:World} {A:Around} {E:Value→Shared→Prop} {s:Shared}
abbrev iK (prog:Program) (w:World):KeyKind prog w Int:=intKind prog w
inductive RowsAre (prog:Program) (w:World) (h:Heap):List (List Int)→List Value→Prop
 |nil:RowsAre prog w h [] []
 |cons {k:List Int} {v:Value} {ks:List (List Int)} {vs:List Value}:(∃b,v=.ref b∧IsTupleKey (iK prog w) h k b)→RowsAre prog w h ks vs→RowsAre prog w h (k::ks) (v::vs)
def IsBoardKey (prog:Program) (w:World) (h:Heap) (ks:List (List Int)) (a:Addr):Prop:=∃o items n,h.get? a=some o∧o.cls=.type "tuple"∧o.data=.seq items n∧RowsAre prog w h ks items.toList
theorem RowsAre.inj {h:Heap} {x y:List (List Int)} {vs:List Value} (hx:RowsAre prog w h x vs) (hy:RowsAre prog w h y vs):x=y:=by
 induction hx generalizing y with
 |nil=>cases hy;rfl
 |cons h1 _ ih=>
  cases hy with
  |cons h2 t2=>
   obtain ⟨b1,rfl,q1⟩:=h1
   obtain ⟨b2,e,q2⟩:=h2
   cases e
   rw [q1.inj q2,ih t2]
theorem IsBoardKey.inj {h:Heap} {a:Addr} {x y:List (List Int)} (hx:IsBoardKey prog w h x a) (hy:IsBoardKey prog w h y a):x=y:=by
 obtain ⟨o,items,n,ho,_,hd,hi⟩:=hx
 obtain ⟨o',items',n',ho',_,hd',hi'⟩:=hy
 obtain rfl:o=o':=Option.some.inj (ho.symm.trans ho')
 rw [hd] at hd'
 injection hd' with h1 _
 subst h1
 exact hi.inj hi'
theorem IsBoardKey.typeIs {ks:List (List Int)} {a:Addr} (x:IsBoardKey prog w s.heap ks a):s.TypeIs (.ref a) "tuple":=let ⟨o,_,_,ho,hc,_⟩:=x;⟨o,ho,hc⟩
theorem RowsAre.keeps {h h':Heap} {d:Addr} {o:Obj} {es ep} (ho:h.get? d=some o) (hd:o.data=.dict es ep) (hs:Heap.SameBut d h h'):∀{ks:List (List Int)} {vs:List Value},RowsAre prog w h ks vs→RowsAre prog w h' ks vs
 |_,_,.nil=>.nil
 |_,_,.cons h1 t=>.cons (let ⟨b,e,q⟩:=h1;⟨b,e,q.keeps ho hd hs⟩) (RowsAre.keeps ho hd hs t)
theorem IsBoardKey.keeps {h h':Heap} {ks:List (List Int)} {a d:Addr} {o:Obj} {es ep} (x:IsBoardKey prog w h ks a) (ho:h.get? d=some o) (hd:o.data=.dict es ep) (hs:Heap.SameBut d h h'):IsBoardKey prog w h' ks a:=by
 obtain ⟨o',items,n,ho',hc,hd',hi⟩:=x
 have hne:a≠d:=by
  rintro rfl
  obtain rfl:o'=o:=Option.some.inj (ho'.symm.trans ho)
  rw [hd] at hd';exact nomatch hd'
 exact ⟨o',items,n,(hs.2 a hne).trans ho',hc,hd',hi.keeps ho hd hs⟩
def IH (ks:List (List Int)):Nat:=(ks.map fun r=>r.length+1).sum
def Oc (prog:Program) (w:World) (ks:List (List Int)):Int:=reduceHash (Builtin.Tuple.tupleHashOf (ks.map (tupleKeyHash (iK prog w))))
theorem Zcl {ks:List (List Int)} {a:Addr} {Q:Int→Shared→Prop} (hu:A.units+1<cLine) (hk:IsBoardKey prog w s.heap ks a) (h:Q (Oc prog w ks) {s with toks:=s.toks+(IH ks+1)}):
 wpAny (model prog w) A (pyHash (.ref a)) Q E s:=by
 have hT:=hk.typeIs
 obtain ⟨o,items,n,ho,_,hd,hi⟩:=hk
 unfold pyHash
 first |unfold pyHashByItsType |skip
 first |refine wpAny_bind (wpAny_cRoomFor_or (.inr (by omega)) ?_) |skip
 refine wpAny_bind (wpAny_specialOf hT F.slot_tuple_hash.lookup ?_)
 show wpAny _ _ (if (some (Value.builtin "tuple.__hash__")==some Value.none)=true then _ else _) Q E s
 rw [if_neg (by rw [beq_builtin_none];exact Bl)]
 refine wpAny_bind (wpAny_specialOf hT F.slot_tuple_hash.lookup ?_)
 show wpAny _ _ (callSpecialIfBoundUnlessNone? (.ref a) "__hash__" _ >>=_) Q E s
 refine wpAny_bind (wpAny_callSpecialIfBoundUnlessNone?_slot hT F.slot_tuple_hash (wpAny_call_entry F.slot_tuple_hash hT F.entry_tuple_hash ?_ (F.args_tuple_hash_1 _)))
 show wpAny _ _ (Builtin.Tuple.tupleItemsOf (.ref a) >>=_) _ _ s
 refine wpAny_bind (wpAny_tupleItemsOf ho hd ?_)
 refine wpAny_bind ?_
 rw [←Array.forIn_toList]
 refine wpAny_forIn_list _
  (fun rest (b:Array Int) s'=>∃done A4,ks=done++A4∧RowsAre prog w s.heap A4 rest∧b.toList=done.map (tupleKeyHash (iK prog w))∧s'={s with toks:=s.toks+IH done})
  _ ?_ ?_ _ _ ⟨[],ks,rfl,hi,rfl,rfl⟩
 ·rintro x rest b s' ⟨done,A4,rfl,hl,hb,rfl⟩
  cases hl with
  |@cons k _ ks' _ h1 hl'=>
   obtain ⟨rb,rfl,hrow⟩:=h1
   refine wpAny_bind (wpAny_pyHash_tuple (by show _<cLine;first |exact hu |omega) hrow ?_)
   first
    |exact wpAny_pure ⟨done++[k],ks',by simp,hl',by simp [hb],by simp [IH,HG]⟩
    |exact wpAny_bind (wpAny_pure (wpAny_pure ⟨done++[k],ks',by simp,hl',by simp [hb],by simp [IH,HG]⟩))
 ·rintro b s' ⟨done,A4,rfl,hl,hb,rfl⟩
  cases hl
  rw [D9] at h
  show wpAny _ _ (retInt (Builtin.Tuple.tupleHashOf b.toList)) _ _ _
  rw [hb]
  refine wpAny_ret_mkInt ?_
  show wpAny _ _ (if (decide (-(2:Int)^63≤Builtin.Tuple.tupleHashOf (done.map (tupleKeyHash (iK prog w))))&&decide (Builtin.Tuple.tupleHashOf (done.map (tupleKeyHash (iK prog w)))<2^63))=true then _ else _) Q E _
  unfold Oc reduceHash at h
  by_cases hr:(decide (-(2:Int)^63≤Builtin.Tuple.tupleHashOf (done.map (tupleKeyHash (iK prog w))))&&decide (Builtin.Tuple.tupleHashOf (done.map (tupleKeyHash (iK prog w)))<2^63))=true
  ·rw [if_pos hr]
   rw [if_pos hr] at h
   exact wpAny_pure (by simpa [HG] using h)
  ·rw [if_neg hr]
   rw [if_neg hr] at h
   exact wpAny_bind (wpAny_rule (wpAny_pure (by simpa [HG] using h)))
theorem Zcm {x y:List (List Int)} {a b:Addr} {P:Fin→Shared→Prop} (hu:A.units<cLine) (hx:IsBoardKey prog w s.heap x a) (hy:IsBoardKey prog w s.heap y b) (h:P (.done (.ret (.bool (decide (x=y))))) s):
 wpAny (model prog w) A (Builtin.«tuple.__eq__» ⟨[.ref a,.ref b],[]⟩) P E s:=by
 have hTb:=hy.typeIs
 obtain ⟨oa,xs,na,hoa,_,hda,hia⟩:=hx
 obtain ⟨ob,ys,nb,hob,_,hdb,hib⟩:=hy
 show wpAny _ _ (isInstance (.ref b) (.type "tuple") >>=_) _ _ s
 refine wpAny_bind (wpAny_isInstance hTb isSubtype_tuple_tuple ?_)
 simp only [FS,Bu,if_false]
 refine wpAny_bind (wpAny_tupleItemsOf hoa hda ?_)
 refine wpAny_bind (wpAny_tupleItemsOf hob hdb ?_)
 refine wpAny_bind ?_
 refine wpAny_forIn_list _
  (fun rest r s'=>r.1=none∧s'=s∧∃x' y' xs' ys',rest=List.zip xs' ys'∧RowsAre prog w s.heap x' xs'∧RowsAre prog w s.heap y' ys'∧decide (x'=y')=decide (x=y)∧(xs'.length==ys'.length)=(xs.size==ys.size))
  _ ?_ ?_ _ _ ⟨rfl,rfl,x,y,xs.toList,ys.toList,rfl,hia,hib,rfl,by simp⟩
 ·rintro ⟨u,v⟩ rest r s' ⟨hr,rfl,x',y',xs',ys',hz,hx',hy',hdec,hlen⟩
  cases hx' with
  |nil=>simp at hz
  |@cons k1 u' x'' xs'' h1 hx''=>
   cases hy' with
   |nil=>simp at hz
   |@cons k2 v' y'' ys'' h2 hy''=>
    simp only [List.zip_cons_cons,List.cons.injEq,Prod.mk.injEq] at hz
    obtain ⟨⟨rfl,rfl⟩,rfl⟩:=hz
    obtain ⟨b1,rfl,r1⟩:=h1
    obtain ⟨b2,rfl,r2⟩:=h2
    refine wpAny_bind (wpAny_eqBool_tuple (x:=k1) (y:=k2) (by show _<cLine;first |exact hu |omega) r1 r2 ?_)
    by_cases hk:k1=k2
    ·subst hk
     rw [decide_eq_true rfl]
     simp only [FS,Bu,if_false]
     refine wpAny_pure ⟨rfl,rfl,x'',y'',xs'',ys'',rfl,hx'',hy'',?_,by simpa using hlen⟩
     rw [←hdec]
     by_cases hxy:x''=y''
     ·simp [hxy]
     ·simp [hxy]
    ·rw [decide_eq_false hk]
     simp only [Bool.not_false,if_true]
     have hf:decide (x=y)=false:=by rw [←hdec];simp [hk]
     rw [hf] at h
     exact wpAny_bind (wpAny_pure (wpAny_pure (wpAny_pure h)))
 ·rintro ⟨r1,r2⟩ s' ⟨hr,rfl,x',y',xs',ys',hz,hx',hy',hdec,hlen⟩
  simp only at hr
  subst hr
  refine wpAny_pure ?_
  have hfin:(xs.size==ys.size)=decide (x=y):=by
   rw [←hdec,←hlen]
   cases hx' with
   |nil=>
    cases hy' with
    |nil=>simp
    |cons _ _=>simp
   |cons _ _=>
    cases hy' with
    |nil=>simp
    |cons _ _=>simp at hz
  show P (.done (.ret (.bool (xs.size==ys.size)))) s'
  rw [hfin];exact h
theorem Zcn {x y:List (List Int)} {a b:Addr} {Q:Bool→Shared→Prop} (hu:A.units+1<cLine) (hx:IsBoardKey prog w s.heap x a) (hy:IsBoardKey prog w s.heap y b) (h:Q (decide (x=y)) s):
 wpAny (model prog w) A (eqBool (.ref a) (.ref b)) Q E s:=by
 unfold eqBool
 try with_reducible refine wpAny_holding ?_
 show wpAny _ _ (if (Value.ref a==Value.ref b)=true then _ else _) Q E s
 by_cases hab:(Value.ref a==Value.ref b)=true
 ·rw [if_pos hab]
  have e:a=b:=by have:=eq_of_beq hab;injection this
  subst e
  obtain rfl:=hx.inj hy
  exact wpAny_bind (wpAny_rule (wpAny_pure (by simpa using h)))
 ·rw [if_neg hab]
  exact wpAny_bind (wpAny_richCompare_same_room (op:=.Eq) hx.typeIs hy.typeIs F.slot_tuple_eq
   (wpAny_call_entry F.slot_tuple_eq hx.typeIs F.entry_tuple_eq (Zcm (by show A.in1.units<cLine;exact hu) hx hy ⟨_,rfl,(fun e=>nomatch e),wpAny_truthy_bool h⟩) (F.args_tuple_eq_2 _ _)) (by omega))
theorem Zco {ks:List Int} {a:Addr} {Q:Bool→Shared→Prop} (hk:IsTupleKey (iK prog w) s.heap ks a) (h:Q true s):wpAny (model prog w) A (eqIsQuiet 7 (.ref a)) Q E s:=by
 have hT:=hk.typeIs
 obtain ⟨o,items,n,ho,_,hd,hi⟩:=hk
 unfold eqIsQuiet
 refine wpAny_bind (wpAny_specialOf hT F.slot_tuple_eq.lookup ?_)
 show wpAny _ _ (isInstance (.ref a) (.type "tuple") >>=_) _ _ s
 refine wpAny_bind (wpAny_isInstance hT isSubtype_tuple_tuple ?_)
 simp only [FS,Bu,if_false]
 refine wpAny_bind (wpAny_seqItems ho hd ?_)
 refine wpAny_bind ?_
 show wpAny _ _ (forIn items _ _) _ _ s
 rw [←Array.forIn_toList]
 refine wpAny_forIn_list _ (fun rest r s'=>r.1=none∧s'=s∧∀v∈rest,carriedByValue v=true) _ ?_ ?_ _ _ ⟨rfl,rfl,hi.byValue⟩
 ·rintro v rest r s' ⟨hr,rfl,hall⟩
  rw [eqIsQuiet_byValue _ (hall v A1)]
  refine wpAny_bind (wpAny_pure ?_)
  simp only [FS,Bu,if_false]
  exact wpAny_pure ⟨rfl,rfl,fun u hu'=>hall u (A5 _ hu')⟩
 ·rintro ⟨r1,r2⟩ s' ⟨hr,rfl,_⟩
  simp only at hr
  subst hr
  exact wpAny_pure h
theorem Zcp {ks:List (List Int)} {a:Addr} {Q:Bool→Shared→Prop} (hk:IsBoardKey prog w s.heap ks a) (h:Q true s):wpAny (model prog w) A (eqIsQuiet 8 (.ref a)) Q E s:=by
 have hT:=hk.typeIs
 obtain ⟨o,items,n,ho,_,hd,hi⟩:=hk
 unfold eqIsQuiet
 refine wpAny_bind (wpAny_specialOf hT F.slot_tuple_eq.lookup ?_)
 show wpAny _ _ (isInstance (.ref a) (.type "tuple") >>=_) _ _ s
 refine wpAny_bind (wpAny_isInstance hT isSubtype_tuple_tuple ?_)
 simp only [FS,Bu,if_false]
 refine wpAny_bind (wpAny_seqItems ho hd ?_)
 refine wpAny_bind ?_
 show wpAny _ _ (forIn items _ _) _ _ s
 rw [←Array.forIn_toList]
 refine wpAny_forIn_list _ (fun rest r s'=>r.1=none∧s'=s∧∃ks',RowsAre prog w s.heap ks' rest) _ ?_ ?_ _ _ ⟨rfl,rfl,_,hi⟩
 ·rintro v rest r s' ⟨hr,rfl,hall⟩
  obtain ⟨ks',hall⟩:=hall
  cases hall with
  |cons h1 t1=>
  obtain ⟨rb,rfl,hrow⟩:=h1
  refine wpAny_bind (Zco hrow ?_)
  simp only [FS,Bu,if_false]
  exact wpAny_pure ⟨rfl,rfl,_,t1⟩
 ·rintro ⟨r1,r2⟩ s' ⟨hr,rfl,_⟩
  simp only at hr
  subst hr
  exact wpAny_pure h
end
def Ziw (prog:Program) (w:World):HeapKind prog w (List (List Int)) where
 is:=IsBoardKey prog w
 hash:=Oc prog w
 draws:=fun ks=>IH ks+1
 room:=fun A=>A.units+1<cLine
 inj:=fun hx hy=>hx.inj hy
 keeps:=fun x ho hd hs=>x.keeps ho hd hs
 pyHash:=fun hu hk h=>Zcl hu hk h
 eqBool:=fun hu hx hy h=>Zcn hu hx hy h
 quiet:=fun hk h=>Zcp hk h
section
variable {prog:Program} {w:World} {A:Around} {E:Value→Shared→Prop} {s:Shared}
end
end Db
end LS
namespace LS
open PySem PySem.Spec PyProof.Rows L2 PySem.W PySem.Calls
def isB:AX→Bool
 |.b _=>true
 |_=>false
def Su (kvs:List (AX×D)):Bool:=kvs.all fun p=>isB p.1
def BR (K:Frag) (m:List Addr) (H:Hp) (p:AX×D) (q:List (List Int)×Addr×Value):Prop:=p.1=.b q.1∧DV K m H (kD p.1) (.ref q.2.1)∧∃v,DV K m H p.2 v∧RelV v q.2.2
section
variable {P:Program} {w:World} {K:Frag} {m:List Addr} {H:Hp} {h:Heap} {a:Addr}
end
def Od:List D→Option (List Int)
 |[]=>some []
 |.int n::ds=>(Od ds).map (n::·)
 |_=>none
def Sv:List D→Option (List (List Int))
 |[]=>some []
 |.tup ds::r=>(match Od ds,Sv r with
  |some a,some b=>some (a::b)
  |_,_=>none)
 |_=>none
def Zcq:D→Option (List (List Int))
 |.tup ds=>Sv ds
 |_=>none
def Sy (o i v:D) (h:HD) (g:HD→Out (Fl×Ag)):Out (Fl×Ag):=match o,Zcq i with
 |.loc l,some rs=>(match h[l]? with
  |some (.dic false kvs)=>if Su kvs∧kvs.length<sizeLine then g (h.set l (.dic false (Gp kvs (.b rs) v))) else .stuck
  |_=>.stuck)
 |_,_=>.stuck
def Sz (fo fi fv:ME):MS:=fun ρ h=>(fv ρ h).bind fun v h1=>(fo ρ h1).bind fun o h2=>(fi ρ h2).bind fun i h3=>Sy o i v h3 fun h4=>.ok (.nx,ρ) h4
def Zix (K:Frag):V→V→V→Hp→(Hp→Prop)→Prop:=fun o i v H Q=>∃(m:List Addr) (a:Addr) (rs:List (List Int)) (kvs:List (AX×D)) (es:List (AX×V×V)) (d:D),o=.ref a∧DV K m H (kD (.b rs)) i∧H a=some (.dct (Di a es))∧EntD K m H kvs es∧Su kvs=true∧kvs.length<sizeLine∧DV K m H d v∧
 ∀es',EntD K m H (Gp kvs (.b rs) d) es'→Q (Ak H a (.dct (Di a es')))
section
variable {X:Cx} {E:XK} {pins:List (Addr×Obj)} {σ:L2.St} {H:Hp} {s:Shared}
def Ziy:D→HD→Out D:=fun x h=>match x with
 |.loc l=>(match h[l]? with
  |some (.dic _ kvs)=>.ok (.int kvs.length) h
  |_=>.stuck)
 |_=>.stuck
def Ziz (a:Addr) (ob:Obj) (es:List (AX×V×V)):It:=⟨fun i H=>H a=some (.frz ob (.dct (Di a es)))∧i<es.length,fun i H x H'=>H'=H∧∃k vv,es[i]?=some (k,x,vv),fun i H=>H a=some (.frz ob (.dct (Di a es)))∧i=es.length⟩
def SA (d:D) (h:HD):Out (List D×AS):=match d with
 |.loc l=>(match h[l]? with
  |some (.dic _ kvs)=>.ok (kvs.map fun p=>kD p.1,[]) (h.set l (.dic true kvs))
  |_=>.stuck)
 |_=>.stuck
def SB (f:ME):MI:=fun ρ h=>(f ρ h).bind SA
end
section
variable {f fo fi fv:ME} {ρ:Ag} {h:HD} {QS:Fl×Ag→HD→Prop} {QI:List D×AS→HD→Prop}
@[simp] theorem ZiA:Wp (Sz fo fi fv ρ h) QS=Wp (fv ρ h) fun v h1=>Wp (fo ρ h1) fun o h2=>Wp (fi ρ h2) fun i h3=>Wp (Sy o i v h3 fun h4=>.ok (.nx,ρ) h4) QS:=by unfold Sz;simp only [Aq]
@[simp] theorem ZiB:Wp (SB f ρ h) QI=Wp (f ρ h) fun d h1=>Wp (SA d h1) QI:=by unfold SB;rw [Aq]
end
namespace Dt
open PySem
section
variable {prog:Program} {w:World} {A:Around} {E:Value→Shared→Prop} {s:Shared}
abbrev iK (prog:Program) (w:World):KeyKind prog w Int:=intKind prog w
abbrev tK (prog:Program) (w:World):HeapKind prog w (List Int):=tupleKind (iK prog w)
abbrev KM:=List Int×Addr×Value
def PrAt (P:Program) (w:World) (h:Heap) (u:Value) (e:KM):Prop:=∃p o m,u=.ref p∧h.get? p=some o∧o.cls=.type "tuple"∧o.data=.seq #[.ref e.2.1,e.2.2] m∧IsTupleKey (iK P w) h e.1 e.2.1
def ZiC (xs:List KM) (e:KM):List KM:=storedH xs e.1 e.2.1 e.2.2
end
end Dt
end LS
namespace LS
open PySem PySem.Spec PyProof.Rows L2 PySem.W PySem.Calls
namespace Mn
open PySem
def ZiD (prog:Program) (w:World) (A:Around) (h0:Heap) (P:Nat→Value→Prop) (bt:Nat→Nat→Bool):Prop:=
 ∀i j vi vj (s:Shared) (Q:Value→Shared→Prop) (E:Value→Shared→Prop),(∀b o,h0.get? b=some o→s.heap.get? b=some o)→P i vi→P j vj→Q (.bool (bt i j)) s→wpAny (model prog w) A (richCompare .Lt vi vj) Q E s
section
variable {prog:Program} {w:World} {A:Around} {R:Result→Shared→Prop} {I:Addr} {fp wr:List Addr} {n:Nat} {P:Nat→Value→Prop} {St:Nat→Heap→Prop}
end
section
variable {prog:Program} {w:World} {A:Around} {E:Value→Shared→Prop} {s:Shared}
end
end Mn
end LS
namespace LS
open PySem PySem.Spec PyProof.Rows L2 PySem.W PySem.Calls
def isT:AX→Bool
 |.t _=>true
 |_=>false
def II (kvs:List (AX×D)):Bool:=kvs.all fun p=>isT p.1
def TR (K:Frag) (m:List Addr) (H:Hp) (p:AX×D) (q:List Int×Addr×Value):Prop:=p.1=.t q.1∧DV K m H (kD p.1) (.ref q.2.1)∧∃v,DV K m H p.2 v∧RelV v q.2.2
section
variable {P:Program} {w:World} {K:Frag} {m:List Addr} {H:Hp} {h:Heap} {a:Addr}
end
def Hk:D→Option (List Int)
 |.tup ds=>Od ds
 |_=>none
def Zcr:D→Option (AX×D)
 |.tup [k,v]=>(Hk k).map fun ns=>(.t ns,v)
 |_=>none
def ZiE:D→HD→Out D:=fun x h=>match x with
 |.loc l=>(match h[l]? with
  |some (.lst ds)=>(match AC (ds.map Zcr) with
   |some ps=>Ob (ps.foldl (fun acc p=>Gp acc p.1 p.2) []) h
   |none=>.stuck)
  |_=>.stuck)
 |_=>.stuck
section
variable {P:Program} {w:World} {K:Frag} {m:List Addr} {H:Hp} {h:Heap} {a:Addr}
end
section
variable {X:Cx} {E:XK}
def ZiF (neg:Bool):D→D→HD→Out D:=fun x y h=>match Hk x,y with
 |some ns,.loc l=>(match h[l]? with
  |some (.dic _ kvs)=>if II kvs then .ok (.bl (Bool.xor neg (kvs.any fun p=>decide (p.1=.t ns)))) h else .stuck
  |_=>.stuck)
 |_,_=>.stuck
end
def Zcs (nss:List (List Int)) (i j:Nat):Bool:=HT.lexLt (nss.getD i []) (nss.getD j [])
def ZiG:D→HD→Out D:=fun x h=>match x with
 |.loc l=>(match h[l]? with
  |some (.lst ds)=>(match AC (ds.map Hk) with
   |some nss=>if nss=[] then .stuck else .ok (ds.getD (argBest (Zcs nss) (nss.length - 1)) .non) h
   |none=>.stuck)
  |_=>.stuck)
 |_=>.stuck
section
variable {X:Cx} {E:XK}
end
def SC (o i v:D) (h:HD) (g:HD→Out (Fl×Ag)):Out (Fl×Ag):=match o,Hk i with
 |.loc l,some rs=>(match h[l]? with
  |some (.dic false kvs)=>if II kvs∧kvs.length<sizeLine then g (h.set l (.dic false (Gp kvs (.t rs) v))) else .stuck
  |_=>.stuck)
 |_,_=>.stuck
def SD (fo fi fv:ME):MS:=fun ρ h=>(fv ρ h).bind fun v h1=>(fo ρ h1).bind fun o h2=>(fi ρ h2).bind fun i h3=>SC o i v h3 fun h4=>.ok (.nx,ρ) h4
def ZiH (K:Frag):V→V→V→Hp→(Hp→Prop)→Prop:=fun o i v H Q=>∃(m:List Addr) (a:Addr) (rs:List Int) (kvs:List (AX×D)) (es:List (AX×V×V)) (d:D),o=.ref a∧DV K m H (kD (.t rs)) i∧H a=some (.dct (Di a es))∧EntD K m H kvs es∧II kvs=true∧kvs.length<sizeLine∧DV K m H d v∧
 ∀es',EntD K m H (Gp kvs (.t rs) d) es'→Q (Ak H a (.dct (Di a es')))
section
variable {X:Cx} {E:XK} {pins:List (Addr×Obj)} {σ:L2.St} {H:Hp} {s:Shared}
end
section
variable {K:Frag} {m:List Addr} {H:Hp}
end
def Zct (neg:Bool):D→D→HD→Out D:=fun x y h=>match y with
 |.loc l=>(match h[l]? with
  |some (.dic _ kvs)=>(match x with
   |.int n=>if Hj kvs then .ok (.bl (Bool.xor neg (IG kvs (.i n)).isSome)) h else .stuck
   |_=>(match Hk x with
    |some ns=>if II kvs then .ok (.bl (Bool.xor neg (IG kvs (.t ns)).isSome)) h else .stuck
    |none=>.stuck))
  |_=>.stuck)
 |_=>.stuck
section
variable {X:Cx} {E:XK}
def ZiJ (X:Cx) (neg:Bool):R2:=fun v u H Q=>∃m h x y,HR X.K m h H∧DV X.K m H x v∧DV X.K m H y u∧Post X.K (rD X.K) m H E0 Q (Zct neg x y h)
def Zcu:D→D→HD→Out D:=fun x y h=>match x with
 |.loc l=>(match h[l]? with
  |some (.dic _ kvs)=>(match y with
   |.int n=>if Hj kvs then (match IG kvs (.i n) with
    |some d=>.ok d h
    |none=>.stuck) else .stuck
   |_=>(match Hk y with
    |some ns=>if II kvs then (match IG kvs (.t ns) with
     |some d=>.ok d h
     |none=>.stuck) else .stuck
    |none=>.stuck))
  |_=>.stuck)
 |_=>.stuck
def ZiK (X:Cx):R2:=fun v u H Q=>∃m h x y,HR X.K m h H∧DV X.K m H x v∧DV X.K m H y u∧Post X.K (rD X.K) m H E0 Q (Zcu x y h)
def IJ:D→HD→Out D:=fun x h=>match x with
 |.loc l=>(match h[l]? with
  |some (.lst ds)=>(match ds[ds.length - 1]? with
   |some d=>.ok d (h.set l (.lst ds.dropLast))
   |none=>.stuck)
  |_=>.stuck)
 |_=>.stuck
def Eu (f:ME):ME:=fun ρ h=>((f ρ h).bind BZ).bind IJ
theorem DVs.dropLast {K:Frag} {m:List Addr} {H:Hp} {ds:List D} {vs:List V} (r:DVs K m H ds vs):DVs K m H ds.dropLast vs.dropLast:=by
 rw [List.dropLast_eq_take,List.dropLast_eq_take,r.len]
 exact r.take _
theorem Zcv {o:Expr} {f:ME} {apos cpos:Pos} (ho:Ev X E o f)
 (hbase:attributeBase o "pop" X.env (eval o X.env)=eval o X.env:=by rfl) (hline:(apos.endLine==cpos.line)=true:=by rfl):
 Ev X E (.Call (.Attribute o "pop" apos) [] [] cpos) (Eu f):=
 BH (Yo PySem.F.plainAttrs_list PySem.F.slot_list_pop PySem.F.type_list_pop Yv ho hbase hline) fun σ H Q z1_=>by
  obtain ⟨m,ρ,h,hr,er,p⟩:=z1_
  refine ⟨m,ρ,h,hr,er,?_⟩
  unfold Eu at p
  rw [Out.bind_assoc] at p
  refine Post.bind p fun x h1 v m1 H1 eo p1 k1 hr1 r1 q1=>?_
  clear eo
  unfold BZ at q1
  split at q1
  ·rename_i l
   split at q1
   ·rename_i ds el
    simp only [Out.bind_ok] at q1
    simp only [rD,DV] at r1
    obtain ⟨a,rfl,ha⟩:=r1
    obtain ⟨ws,hv,dv⟩:=hr1.cells l _ a el ha
    refine ⟨.inl ⟨rfl,ws,SqL.of hv⟩,?_⟩
    unfold IJ at q1
    simp only [el] at q1
    split at q1
    ·rename_i d ed
     obtain ⟨w,hw,dw⟩:=dv.get ed
     refine ⟨a,ws,w,rfl,rfl,hv,by rw [←dv.len];exact hw,?_⟩
     refine q1 w m1 _ (Az _) (.set hv rfl) (hr1.setCell ha hv rfl ⟨_,BN,?_⟩) (DV.keep (Az _) (.set hv rfl) dw)
     exact (DVs.dropLast dv).keep (Az _) (.set hv rfl)
    ·exact q1.elim
   ·exact q1.elim
  ·exact q1.elim
end
section
variable {f fo fi fv:ME} {ρ:Ag} {h:HD} {QS:Fl×Ag→HD→Prop} {Q:D→HD→Prop} {l:Nat} {ds:List D}
@[simp] theorem ZiL:Wp (SD fo fi fv ρ h) QS=Wp (fv ρ h) fun v h1=>Wp (fo ρ h1) fun o h2=>Wp (fi ρ h2) fun i h3=>Wp (SC o i v h3 fun h4=>.ok (.nx,ρ) h4) QS:=by unfold SD;simp only [Aq]
@[simp] theorem ZiM:Wp (Eu f ρ h) Q=Wp (f ρ h) fun x h1=>Wp (BZ x h1) fun x h1=>Wp (IJ x h1) Q:=by unfold Eu;simp only [Aq]
end
end LS
namespace LS
open PySem PySem.Spec PyProof.Rows L2
def ZiN (i j k l:Nat):MG:=fun d ρ=>match d with
 |.tup [.tup [x,y,z],t]=>some ((((ρ.set i (some x)).set j (some y)).set k (some z)).set l (some t))
 |_=>none
abbrev ZiO (K:PySem.W.Frag) (i j k l:Nat):TG:=EI K 2 (Cg (EI K 3 (Cg (BP i) (Cg (BP j) (Cg (BP k) Ed)))) (Cg (BP l) Ed))
abbrev DF (h:Heap) (z TI TO:Addr) (f0 f1:Value):Prop:=h.get? z=some {cls:=.type "zip",dict:=none,data:=.fields #[f0,f1,.bool false,.ref TI,.ref TO],slots:=#[]}
inductive ZipN (h:Heap) (z TI TO:Addr):Prop where
 |none (b:Bool) (e:DF h z TI TO .none (.bool b)):ZipN h z TI TO
 |held (a:Int) (t:Tok) (b:Bool) (e:DF h z TI TO (.int a t) (.bool b)):ZipN h z TI TO
section
variable {prog:Program} {w:World} {A:Around} {E:Value→Shared→Prop} {s:Shared} {z TI TO p q:Addr} {f g:List Addr} {n1 n2 k:Nat} {P1 P2:Nat→Value→Prop} {S1 S2:Nat→Heap→Prop} {a b:Value}
theorem Zcw {M:Model} {c:Addr} {Q:Option Obj→Shared→Prop} (h:Q (s.heap.get? c) s):wpAny M A (loadIfAlive c) Q E s:=fun _ _ _=>h
theorem SE {Q:Bool→Shared→Prop} (zz:ZipN s.heap z TI TO) (h1:∀f0 b,DF s.heap z TI TO f0 (.bool b)→Q true s)
 (h2:∀h',ZipN h' z TI TO→Heap.SameBut z s.heap h'→Q false {s with heap:=h'}):wpAny (model prog w) A (Builtin.SmallTypes.ownedTupleIsFree (.ref z)) Q E s:=by
 unfold Builtin.SmallTypes.ownedTupleIsFree
 cases zz with
 |none b e=>exact wpAny_bind (wpAny_field e rfl (x:=.none) rfl (wpAny_pure (h1 _ _ e)))
 |held a t b e=>
  refine wpAny_bind (wpAny_field e rfl (x:=.int a t) rfl ?_)
  refine wpAny_bind (Zcw ?_)
  cases hc:s.heap.get? a.toNat with
  |none=>exact wpAny_pure (h1 _ _ e)
  |some o=>
   simp only [Option.isNone_some,Bu,if_false]
   refine wpAny_bind (wpAny_field e rfl (x:=.bool b) rfl ?_)
   cases b with
   |true=>exact wpAny_pure (h2 s.heap (.held a t true e) ⟨rfl,fun _ _=>rfl⟩)
   |false=>
    rw [if_pos (by decide)]
    refine wpAny_bind (wpAny_setField_rec e (by simp) fun h' e' sb=>wpAny_pure (h2 h' (.held a t true e') sb))
theorem Zcx {Q:Value→Shared→Prop} (D1:Draws prog w A p f n1 P1 S1) (D2:Draws prog w A q g n2 P2 S2) (ap:G3 z TI TO p q f g)
 (zz:ZipN s.heap z TI TO) (zi:IsPair s.heap TI (.ref p) (.ref q)) (zo:IsPair s.heap TO a b) (s1:S1 k s.heap) (s2:S2 k s.heap) (l1:k<n1) (l2:k<n2)
 (hQ:∀h' tk x y,P1 k x→P2 k y→ZipN h' z TI TO→(∃a b,IsPair h' TO a b)→S1 (k+1) h'→S2 (k+1) h'→IsPair h' s.heap.objs.size x y→
  (∀c o,c≠z→c≠TO→c≠p→c≠q→s.heap.get? c=some o→h'.get? c=some o)→Q (.ref s.heap.objs.size) {s with heap:=h',toks:=tk}):
 wpAny (model prog w) A (Builtin.«zip.__next__» ⟨[.ref z],[]⟩) (fun AQ s'=>∃v,AQ=.done (.ret v)∧Q v s') E s:=by
 have fl:∀i (x:Value),i=2∧x=.bool false∨i=3∧x=.ref TI→∀{Q:Value→Shared→Prop},Q x s→wpAny (model prog w) A (field (.ref z) i) Q E s:=fun i x h {Q} hq=>by
  cases zz with
  |none b e=>rcases h with ⟨rfl,rfl⟩ |⟨rfl,rfl⟩<;>exact wpAny_field e rfl rfl hq
  |held a t b e=>rcases h with ⟨rfl,rfl⟩ |⟨rfl,rfl⟩<;>exact wpAny_field e rfl rfl hq
 show wpAny _ _ (field (.ref z) 2 >>=_) _ _ _
 refine wpAny_bind (fl 2 (.bool false) (.inl ⟨rfl,rfl⟩) ?_)
 show wpAny _ _ (field (.ref z) 3 >>=_) _ _ _
 refine wpAny_bind (fl 3 (.ref TI) (.inr ⟨rfl,rfl⟩) ?_)
 refine wpAny_bind (wpAny_seqItems zi rfl ?_)
 show wpAny _ _ (Builtin.SmallTypes.ownedTupleIsFree (.ref z) >>=_) _ _ _
 refine wpAny_bind (SE zz (fun f0 b1 zz=>?_) fun m1 zz1 t1=>?_)
 ·simp only [if_true]
  refine wpAny_bind (wpAny_rule ?_)
  refine wpAny_bind (wpAny_field zz rfl (x:=.ref TO) rfl ?_)
  refine wpAny_bind (wpAny_setField_rec zz (by simp) fun m1 zz1 t1=>?_)
  replace zz1:DF m1 z TI TO .ellipsis (.bool b1):=zz1
  refine wpAny_bind ?_
  simp only [List.zipIdx_cons,List.zipIdx_nil,HE,HF]
  refine wpAny_bind (wpAny_bind (wpAny_onRaise ?_))
  show wpAny _ _ (Builtin.SmallTypes.nextOf (.ref p) >>=_) _ _ _
  refine wpAny_bind (D1.item k _ _ _ l1 (D1.frame k _ _ s1 fun c hc o e=>t1.extBut _ _ (fun y=>ap.b2 (y ▸ hc)) e) fun x m2 tk2 px s12 t2=>wpAny_pure ?_)
  have zo2:IsPair m2 TO a b:=t2.extBut _ _ ap.a8 (t1.extBut _ _ ap.a2 zo)
  refine wpAny_bind (wpAny_seqItems zo2 rfl ?_)
  refine wpAny_bind (wpAny_updateSeq_pair zo2 fun m3 zo3 t3=>?_)
  replace zo3:IsPair m3 TO x b:=zo3
  refine wpAny_bind (wpAny_letGo (wpAny_pure ?_))
  refine wpAny_bind (wpAny_bind (wpAny_onRaise ?_))
  show wpAny _ _ (Builtin.SmallTypes.nextOf (.ref q) >>=_) _ _ _
  have s23:S2 k m3:=D2.frame k _ _ s2 fun c hc o e=>t3.extBut _ _ (fun y=>ap.b5 (y ▸ hc)) (t2.extBut _ _ (fun y=>ap.b6 (y ▸ hc)) (t1.extBut _ _ (fun y=>ap.b3 (y ▸ hc)) e))
  refine wpAny_bind (D2.item k _ _ _ l2 s23 fun y m4 tk4 py s24 t4=>wpAny_pure ?_)
  have zo4:IsPair m4 TO x b:=t4.extBut _ _ ap.a9 zo3
  refine wpAny_bind (wpAny_seqItems zo4 rfl ?_)
  refine wpAny_bind (wpAny_updateSeq_pair zo4 fun m5 zo5 t5=>?_)
  replace zo5:IsPair m5 TO x y:=zo5
  refine wpAny_bind (wpAny_letGo (wpAny_pure (wpAny_pure ?_)))
  refine wpAny_bind (wpAny_seqItems zo5 rfl ?_)
  refine wpAny_bind (wpAny_newTuple ?_)
  have sz:m5.objs.size=s.heap.objs.size:=by rw [t5.1,t4.1,t3.1,t2.1,t1.1]
  have zz5:DF m5 z TI TO .ellipsis (.bool b1):=t5.extBut _ _ ap.a2.symm (t4.extBut _ _ ap.a4.symm (t3.extBut _ _ ap.a2.symm (t2.extBut _ _ ap.a3.symm zz1)))
  have kp:∀c o,c≠z→c≠TO→c≠p→c≠q→s.heap.get? c=some o→m5.get? c=some o:=fun c o c1 c2 c3 c4 e=>t5.extBut _ _ c2 (t4.extBut _ _ c4 (t3.extBut _ _ c2 (t2.extBut _ _ c3 (t1.extBut _ _ c1 e))))
  have zlt:z<m5.objs.size:=AA zz5
  show wpAny _ _ (Builtin.SmallTypes.ownedTupleHandOut (.ref z) (.ref m5.objs.size) >>=_) _ _ _
  refine wpAny_bind ?_
  unfold Builtin.SmallTypes.ownedTupleHandOut
  have zz6:DF (m5.push {cls:=.type "tuple",data:=.seq #[x,y]}) z TI TO .ellipsis (.bool b1):=AB _ zz5
  refine wpAny_bind (wpAny_setField_rec zz6 (by simp) fun m7 zz7 t7=>?_)
  replace zz7:DF m7 z TI TO (rawInt m5.objs.size) (.bool b1):=zz7
  refine wpAny_setField_rec zz7 (by simp) fun m8 zz8 t8=>?_
  replace zz8:DF m8 z TI TO (rawInt m5.objs.size) (.bool false):=zz8
  have up:∀c o,c≠z→m5.get? c=some o→m8.get? c=some o:=fun c o c1 e=>t8.extBut _ _ c1 (t7.extBut _ _ c1 (AB _ e))
  have nw:IsPair m8 m5.objs.size x y:=t8.extBut _ _ (Cf zlt) (t7.extBut _ _ (Cf zlt) (Bf _ rfl))
  rw [sz] at zz8 nw
  refine wpAny_pure ⟨_,rfl,?_⟩
  show Q (.ref m5.objs.size) _
  rw [sz]
  refine hQ m8 tk4 x y px py (.held _ _ _ zz8) ⟨_,_,up _ _ ap.a2 zo5⟩ (D1.frame _ m2 m8 s12 fun c hc o e=>?_) (D2.frame _ m4 m8 s24 fun c hc o e=>?_) nw fun c o c1 c2 c3 c4 e=>up c o c1 (kp c o c1 c2 c3 c4 e)
  ·have n1:c≠TO:=fun y=>ap.b4 (y ▸ hc)
   exact up c o (fun y=>ap.b2 (y ▸ hc)) (t5.extBut _ _ n1 (t4.extBut _ _ (fun y=>ap.b7 (y ▸ hc)) (t3.extBut _ _ n1 e)))
  ·exact up c o (fun y=>ap.b3 (y ▸ hc)) (t5.extBut _ _ (fun y=>ap.b5 (y ▸ hc)) e)
 ·simp only [Bu,if_false]
  refine wpAny_bind ?_
  simp only [List.forIn_toArray,HE,HF]
  refine wpAny_bind (wpAny_bind (wpAny_holding ?_))
  show wpAny _ _ (Builtin.SmallTypes.nextOf (.ref p) >>=_) _ _ _
  refine wpAny_bind (D1.item k _ _ _ l1 (D1.frame k _ _ s1 fun c hc o e=>t1.extBut _ _ (fun y=>ap.b2 (y ▸ hc)) e) fun x m2 tk2 px s12 t2=>wpAny_pure ?_)
  refine wpAny_pure ?_
  refine wpAny_bind (wpAny_bind (wpAny_holding ?_))
  show wpAny _ _ (Builtin.SmallTypes.nextOf (.ref q) >>=_) _ _ _
  have s23:S2 k m2:=D2.frame k _ _ s2 fun c hc o e=>t2.extBut _ _ (fun y=>ap.b6 (y ▸ hc)) (t1.extBut _ _ (fun y=>ap.b3 (y ▸ hc)) e)
  refine wpAny_bind (D2.item k _ _ _ l2 s23 fun y m4 tk4 py s24 t4=>wpAny_pure ?_)
  refine wpAny_pure (wpAny_pure ?_)
  refine wpAny_bind (wpAny_newTuple ?_ (by show 2≤sizeLine;unfold sizeLine;decide))
  have sz:m4.objs.size=s.heap.objs.size:=by rw [t4.1,t2.1,t1.1]
  have up:∀c o,m4.get? c=some o→(m4.push {cls:=.type "tuple",data:=.seq #[x,y]}).get? c=some o:=fun c o e=>AB _ e
  have zn:ZipN (m4.push {cls:=.type "tuple",data:=.seq #[x,y]}) z TI TO:=by
   cases zz1 with
   |none b e=>exact .none b (up _ _ (t4.extBut _ _ ap.a4.symm (t2.extBut _ _ ap.a3.symm e)))
   |held a t b e=>exact .held a t b (up _ _ (t4.extBut _ _ ap.a4.symm (t2.extBut _ _ ap.a3.symm e)))
  refine wpAny_pure ⟨_,rfl,?_⟩
  show Q (.ref m4.objs.size) _
  have nw:IsPair (m4.push {cls:=.type "tuple",data:=.seq #[x,y]}) m4.objs.size x y:=Bf _ rfl
  rw [sz] at nw ⊢
  refine hQ _ tk4 x y px py zn ⟨a,b,up _ _ (t4.extBut _ _ ap.a9 (t2.extBut _ _ ap.a8 (t1.extBut _ _ ap.a2 zo)))⟩ (D1.frame _ m2 _ s12 fun c hc o e=>up _ _ (t4.extBut _ _ (fun y=>ap.b7 (y ▸ hc)) e)) (D2.frame _ m4 _ s24 fun c hc o e=>up _ _ e) nw fun c o c1 c2 c3 c4 e=>up _ _ (t4.extBut _ _ c4 (t2.extBut _ _ c3 (t1.extBut _ _ c1 e)))
theorem Zcy {Q:Fin→Shared→Prop} (D1:Draws prog w A p f n1 P1 S1) (D2:Draws prog w A q g n2 P2 S2) (ap:G3 z TI TO p q f g)
 (zz:ZipN s.heap z TI TO) (zi:IsPair s.heap TI (.ref p) (.ref q)) (zo:IsPair s.heap TO a b) (s1:S1 k s.heap) (s2:S2 k s.heap) (hk:k=n1∨(k<n1∧k=n2))
 (hE:∀h' tk e,(∀c o,c≠z→c≠TO→c≠p→c≠q→s.heap.get? c=some o→h'.get? c=some o)→(∃o,h'.get? e=some o∧o.cls=.type "StopIteration")→E (.ref e) {s with heap:=h',toks:=tk}):
 wpAny (model prog w) A (Builtin.«zip.__next__» ⟨[.ref z],[]⟩) Q E s:=by
 have fl:∀i (x:Value),i=2∧x=.bool false∨i=3∧x=.ref TI→∀{Q:Value→Shared→Prop},Q x s→wpAny (model prog w) A (field (.ref z) i) Q E s:=fun i x h {Q} hq=>by
  cases zz with
  |none b e=>rcases h with ⟨rfl,rfl⟩ |⟨rfl,rfl⟩<;>exact wpAny_field e rfl rfl hq
  |held a t b e=>rcases h with ⟨rfl,rfl⟩ |⟨rfl,rfl⟩<;>exact wpAny_field e rfl rfl hq
 show wpAny _ _ (field (.ref z) 2 >>=_) _ _ _
 refine wpAny_bind (fl 2 (.bool false) (.inl ⟨rfl,rfl⟩) ?_)
 show wpAny _ _ (field (.ref z) 3 >>=_) _ _ _
 refine wpAny_bind (fl 3 (.ref TI) (.inr ⟨rfl,rfl⟩) ?_)
 refine wpAny_bind (wpAny_seqItems zi rfl ?_)
 show wpAny _ _ (Builtin.SmallTypes.ownedTupleIsFree (.ref z) >>=_) _ _ _
 refine wpAny_bind (SE zz (fun f0 b1 zz=>?_) fun m1 zz1 t1=>?_)
 ·simp only [if_true]
  refine wpAny_bind (wpAny_rule ?_)
  refine wpAny_bind (wpAny_field zz rfl (x:=.ref TO) rfl ?_)
  refine wpAny_bind (wpAny_setField_rec zz (by simp) fun m1 zz1 t1=>?_)
  replace zz1:DF m1 z TI TO .ellipsis (.bool b1):=zz1
  refine wpAny_bind ?_
  simp only [List.zipIdx_cons,List.zipIdx_nil,HE,HF]
  refine wpAny_bind (wpAny_bind (wpAny_onRaise ?_))
  show wpAny _ _ (Builtin.SmallTypes.nextOf (.ref p) >>=_) _ _ _
  have s11:=D1.frame k _ m1 s1 fun c hc o e=>t1.extBut _ _ (fun y=>ap.b2 (y ▸ hc)) e
  rcases hk with hk |⟨hk,hk2⟩
  ·subst hk
   refine wpAny_bind (D1.done _ _ _ s11 fun m2 e t2 he=>?_)
   obtain ⟨oe,e1,e2⟩:=he
   have zz2:DF m2 z TI TO .ellipsis (.bool b1):=t2 _ _ ap.a3.symm zz1
   have ne:e≠z:=fun y=>by subst y;rw [zz2] at e1;cases e1;simp at e2
   exact wpAny_setField_rec zz2 (by simp) fun m3 _ t3=>hE m3 _ e (fun c o c1 _ c3 _ y=>t3.extBut _ _ c1 (t2 _ _ c3 (t1.extBut _ _ c1 y))) ⟨oe,t3.extBut _ _ ne e1,e2⟩
  ·subst hk2
   refine wpAny_bind (D1.item k _ _ _ hk s11 fun x m2 tk2 px s12 t2=>wpAny_pure ?_)
   have zo2:IsPair m2 TO a b:=t2.extBut _ _ ap.a8 (t1.extBut _ _ ap.a2 zo)
   refine wpAny_bind (wpAny_seqItems zo2 rfl ?_)
   refine wpAny_bind (wpAny_updateSeq_pair zo2 fun m3 zo3 t3=>?_)
   refine wpAny_bind (wpAny_letGo (wpAny_pure ?_))
   refine wpAny_bind (wpAny_bind (wpAny_onRaise ?_))
   show wpAny _ _ (Builtin.SmallTypes.nextOf (.ref q) >>=_) _ _ _
   have s23:S2 k m3:=D2.frame k _ _ s2 fun c hc o e=>t3.extBut _ _ (fun y=>ap.b5 (y ▸ hc)) (t2.extBut _ _ (fun y=>ap.b6 (y ▸ hc)) (t1.extBut _ _ (fun y=>ap.b3 (y ▸ hc)) e))
   refine wpAny_bind (D2.done _ _ _ s23 fun m4 e t4 he=>?_)
   obtain ⟨oe,e1,e2⟩:=he
   have zz4:DF m4 z TI TO .ellipsis (.bool b1):=t4 _ _ ap.a4.symm (t3.extBut _ _ ap.a2.symm (t2.extBut _ _ ap.a3.symm zz1))
   have ne:e≠z:=fun y=>by subst y;rw [zz4] at e1;cases e1;simp at e2
   exact wpAny_setField_rec zz4 (by simp) fun m5 _ t5=>hE m5 _ e (fun c o c1 c2 c3 c4 y=>t5.extBut _ _ c1 (t4 _ _ c4 (t3.extBut _ _ c2 (t2.extBut _ _ c3 (t1.extBut _ _ c1 y))))) ⟨oe,t5.extBut _ _ ne e1,e2⟩
 ·simp only [Bu,if_false]
  refine wpAny_bind ?_
  simp only [List.forIn_toArray,HE,HF]
  refine wpAny_bind (wpAny_bind (wpAny_holding ?_))
  show wpAny _ _ (Builtin.SmallTypes.nextOf (.ref p) >>=_) _ _ _
  have s11:=D1.frame k _ m1 s1 fun c hc o e=>t1.extBut _ _ (fun y=>ap.b2 (y ▸ hc)) e
  rcases hk with hk |⟨hk,hk2⟩
  ·subst hk
   refine wpAny_bind (D1.done _ _ _ s11 fun m2 e t2 he=>?_)
   exact hE m2 _ e (fun c o c1 _ c3 _ y=>t2 _ _ c3 (t1.extBut _ _ c1 y)) he
  ·subst hk2
   refine wpAny_bind (D1.item k _ _ _ hk s11 fun x m2 tk2 px s12 t2=>wpAny_pure ?_)
   refine wpAny_pure ?_
   refine wpAny_bind (wpAny_bind (wpAny_holding ?_))
   show wpAny _ _ (Builtin.SmallTypes.nextOf (.ref q) >>=_) _ _ _
   have s23:S2 k m2:=D2.frame k _ _ s2 fun c hc o e=>t2.extBut _ _ (fun y=>ap.b6 (y ▸ hc)) (t1.extBut _ _ (fun y=>ap.b3 (y ▸ hc)) e)
   refine wpAny_bind (D2.done _ _ _ s23 fun m4 e t4 he=>?_)
   exact hE m4 _ e (fun c o c1 c2 c3 c4 y=>t4 _ _ c4 (t2.extBut _ _ c3 (t1.extBut _ _ c1 y))) he
theorem Zcz {Q:Option Value→Shared→Prop} (D1:Draws prog w A.in1 p f n1 P1 S1) (D2:Draws prog w A.in1 q g n2 P2 S2) (ap:G3 z TI TO p q f g)
 (zz:ZipN s.heap z TI TO) (zi:IsPair s.heap TI (.ref p) (.ref q)) (zo:IsPair s.heap TO a b) (s1:S1 k s.heap) (s2:S2 k s.heap) (l1:k<n1) (l2:k<n2)
 (hQ:∀h' tk x y,P1 k x→P2 k y→ZipN h' z TI TO→(∃a b,IsPair h' TO a b)→S1 (k+1) h'→S2 (k+1) h'→IsPair h' s.heap.objs.size x y→
  (∀c o,c≠z→c≠TO→c≠p→c≠q→s.heap.get? c=some o→h'.get? c=some o)→Q (some (.ref s.heap.objs.size)) {s with heap:=h',toks:=tk}):
 wpAny (model prog w) A (pyNext (.ref z)) Q E s:=by
 have hT:s.TypeIs (.ref z) "zip":=by cases zz with |none b e=>exact ⟨_,e,rfl⟩ |held a t b e=>exact ⟨_,e,rfl⟩
 unfold pyNext
 exact wpAny_bind (wpAny_attempt (wpAny_callSpecial?_slot (name:=Str.ofString "__next__") hT F.slot_zip_next (wpAny_call_entry F.slot_zip_next hT F.entry_zip_next
  (Zcx D1 D2 ap zz zi zo s1 s2 l1 l2 fun h' tk x y c1 c2 c3 c4 c5 c6 c7 c8=>wpAny_pure (hQ h' tk x y c1 c2 c3 c4 c5 c6 c7 c8)) (F.args_zip_next_1 _))))
theorem ZcA {Q:Option Value→Shared→Prop} (D1:Draws prog w A.in1 p f n1 P1 S1) (D2:Draws prog w A.in1 q g n2 P2 S2) (ap:G3 z TI TO p q f g)
 (zz:ZipN s.heap z TI TO) (zi:IsPair s.heap TI (.ref p) (.ref q)) (zo:IsPair s.heap TO a b) (s1:S1 k s.heap) (s2:S2 k s.heap) (hk:k=n1∨(k<n1∧k=n2))
 (hQ:∀h' tk,(∀c o,c≠z→c≠TO→c≠p→c≠q→s.heap.get? c=some o→h'.get? c=some o)→Q none {s with heap:=h',toks:=tk}):wpAny (model prog w) A (pyNext (.ref z)) Q E s:=by
 have hT:s.TypeIs (.ref z) "zip":=by cases zz with |none b e=>exact ⟨_,e,rfl⟩ |held a t b e=>exact ⟨_,e,rfl⟩
 unfold pyNext
 refine wpAny_bind (wpAny_attempt (wpAny_callSpecial?_slot (name:=Str.ofString "__next__") hT F.slot_zip_next (wpAny_call_entry F.slot_zip_next hT F.entry_zip_next
  (Zcy D1 D2 ap zz zi zo s1 s2 hk fun h' tk e kp he=>?_) (F.args_zip_next_1 _))))
 obtain ⟨o,ho,hc⟩:=he
 refine wpAny_bind (wpAny_isInstance (T:="StopIteration") (b:=true) ⟨o,ho,hc⟩ isSubtype_stop ?_)
 exact wpAny_pure (hQ _ _ kp)
theorem ZipN.at {h h':Heap} (x:ZipN h z TI TO) (f:∀o,h.get? z=some o→h'.get? z=some o):ZipN h' z TI TO:=by
 cases x with
 |none b e=>exact .none b (f _ e)
 |held a t b e=>exact .held a t b (f _ e)
theorem ZipN.get {h:Heap} (x:ZipN h z TI TO):∃o,h.get? z=some o:=by
 cases x with
 |none b e=>exact ⟨_,e⟩
 |held a t b e=>exact ⟨_,e⟩
theorem ZcB {Q:Value→Shared→Prop} (x:ZipN s.heap z TI TO) (hQ:Q (.ref z) s):wpAny (model prog w) A (pyIter (.ref z)) Q E s:=by
 have hT:s.TypeIs (.ref z) "zip":=by cases x with |none b e=>exact ⟨_,e,rfl⟩ |held a t b e=>exact ⟨_,e,rfl⟩
 exact wpAny_pyIter_slot hT F.slot_zip_iter (wpAny_call_entry F.slot_zip_iter hT F.entry_zip_iter (wpAny_pure ⟨_,rfl,"zip",_,hT,F.slot_zip_next.lookup,hQ⟩) (F.args_zip_iter_1 _))
end
inductive SF (k1 k2:Bool) (z TI TO p q t u:Addr) (i:Nat) (h:Heap):Prop where
 |mk (zz:ZipN h z TI TO) (zi:IsPair h TI (.ref p) (.ref q)) (zo:∃a b,IsPair h TO a b) (x1:ItAt k1 h p t i) (x2:ItAt k2 h q u i):SF k1 k2 z TI TO p q t u i h
theorem ZcC {prog:Program} {w:World} {A:Around} {E:Value→Shared→Prop} {s:Shared} {z TI TO a:Addr} {tg:Expr} {Q:Unit→Shared→Prop} (zz:ZipN s.heap z TI TO) (hQ:∀h2,ZipN h2 z TI TO→Heap.SameBut z s.heap h2→Q () {s with heap:=h2}):wpAny (model prog w) A (letOwnedTupleGo tg (.ref z) (.ref a)) Q E s:=by
 have id:Q () s:=hQ s.heap zz ⟨rfl,fun _ _=>rfl⟩
 have key:wpAny (model prog w) A (letOwnedTupleGo (.List [] ⟨0,0,0,0⟩) (.ref z) (.ref a)) Q E s:=by
  unfold letOwnedTupleGo
  have go:∀f0 b,DF s.heap z TI TO f0 (.bool b)→wpAny (model prog w) A (do
   let o ←load z
   match o.cls,o.data with
   |.type n,.fields vs=>
    if ["enumerate","zip","dict_itemiterator","dict_reverseitemiterator","odict_iterator","itertools.zip_longest","itertools.pairwise"].contains n&&vs[0]?==some (rawInt a) then
     rule "for.unpacks-the-owned-tuple"
     updateField z 0 .none
   |_,_=>pure ()) Q E s:=fun f0 b e=>by
   refine wpAny_bind (wpAny_load e ?_)
   show wpAny (model prog w) A (if _ then _ else _) Q E s
   split
   ·refine wpAny_bind (wpAny_rule ?_)
    show wpAny (model prog w) A (setField (.ref z) 0 .none) Q E s
    exact wpAny_setField_rec e (by simp) fun h' e' sb=>hQ h' (.none b e') sb
   ·exact wpAny_pure id
  cases zz with
  |none b e=>exact go _ b e
  |held x t b e=>exact go _ b e
 cases tg<;>first |exact wpAny_pure id |exact key
theorem ZcD {P:Program} {w:World} {K:PySem.W.Frag} {tg:Expr} (k1 k2:Bool) (z TI TO p q t u:Addr) (ap:G3 z TI TO p q [p,t] [q,u]) (n1:t≠p) (n2:u≠q):
 FX P w K tg (Q8 K k1 k2 t u) [z,TI,TO,p,q] z (SF k1 k2 z TI TO p q t u) where
 mem:=by simp
 obj:=fun i h st c hc=>by
  obtain ⟨zz,zi,⟨a,b,zo⟩,x1,x2⟩:=st
  simp only [qa4,CN,or_false] at hc
  rcases hc with rfl |rfl |rfl |rfl |rfl
  ·cases zz with
   |none b e=>exact ⟨_,e,fun v y=>by cases y⟩
   |held a t b e=>exact ⟨_,e,fun v y=>by cases y⟩
  ·exact ⟨_,zi,fun v y=>by cases y⟩
  ·exact ⟨_,zo,fun v y=>by cases y⟩
  ·exact x1.obj
  ·exact x2.obj
 keep:=fun i h h' st kp=>by
  obtain ⟨zz,zi,⟨a,b,zo⟩,x1,x2⟩:=st
  exact ⟨zz.at fun o e=>kp z (by simp) o e,kp TI (by simp) _ zi,⟨a,b,kp TO (by simp) _ zo⟩,x1.at fun o e=>kp p (by simp) o e,x2.at fun o e=>kp q (by simp) o e⟩
 item:=by
  intro X hP hw hK hc i pins s σ H E I hf st hg
  subst hP hw hK
  obtain ⟨zz,zi,⟨a,b,zo⟩,x1,x2⟩:=st
  obtain ⟨xs,ys,hq1,hq2,l1,l2⟩:=hg
  obtain ⟨it1,rv1,sq1,lt1⟩:=G4 I hq1
  obtain ⟨it2,rv2,sq2,lt2⟩:=G4 I hq2
  have e1:=rv1.length
  have e2:=rv2.length
  have hh:X.A.in1.handled=none:=I.ok.hd hc
  refine Zcz (Kq k1 hh p t n1 it1.toArray) (Kq k2 hh q u n2 it2.toArray) ap zz zi zo ⟨x1,sq1⟩ ⟨x2,sq2⟩ (by rw [AW];omega) (by rw [AW];omega) fun h1 tk x y px py zz1 zo1 st1 st2 nw kp=>?_
  obtain ⟨a1,b1,zo1⟩:=zo1
  refine ⟨.ref s.heap.objs.size,rfl,ZcC zz1 fun h2 zz2 sb=>?_⟩
  have hx:xs[i]?=some xs[i]:=A2 l1
  have hy:ys[i]?=some ys[i]:=A2 l2
  obtain ⟨u1,hu1,ru1⟩:=rv1.get hx
  obtain ⟨u2,hu2,ru2⟩:=rv2.get hy
  have hux:u1=x:=by
   have:it1[i]?=some x:=by simpa using px
   rw [hu1] at this
   exact Option.some.inj this
  have huy:u2=y:=by
   have:it2[i]?=some y:=by simpa using py
   rw [hu2] at this
   exact Option.some.inj this
  subst hux huy
  have hfr:H s.heap.objs.size=none:=I.hok.fresh (AG _)
  have kk:∀c o,c∉[z,TI,TO,p,q]→s.heap.get? c=some o→h2.get? c=some o:=fun c o hc e=>by
   simp only [qa4,CN,or_false,not_or] at hc
   exact (sb.2 c hc.1).trans (kp c o hc.1 hc.2.2.1 hc.2.2.2.1 hc.2.2.2.2 e)
  have nal:∀c o,s.heap.get? c=some o→c≠s.heap.objs.size:=fun c o e=>BK (AA e)
  have na:s.heap.objs.size≠z:=Ne.symm (let ⟨_,ez⟩:=zz.get;nal z _ ez)
  have hnew:h2.get? s.heap.objs.size=some {cls:=.type "tuple",data:=.seq #[u1,u2]}:=(sb.2 _ na).trans nw
  have ntr:∀c o,H c=some o→c∉[z,TI,TO,p,q]:=fun c o e hc=>by
   rw [(hf c hc).1] at e;cases e
  refine ⟨.ref s.heap.objs.size,Ak H s.heap.objs.size (.tup [xs[i],ys[i]]),?_,rfl,⟨s.heap.objs.size,xs[i],ys[i],hfr,rfl,fun zs hz=>by rw [Q7 I hz hq1];exact hx,fun zs hz=>by rw [Q7 I hz hq2];exact hy,rfl⟩,
   ⟨zz2,(sb.2 TI ap.a1).trans (kp TI _ ap.a1 ap.a5 ap.a6 ap.a7 zi),⟨a1,b1,(sb.2 TO ap.a2).trans zo1⟩,st1.1.at fun o e=>(sb.2 p ap.a3).trans e,st2.1.at fun o e=>(sb.2 q ap.a4).trans e⟩,fun c hc=>?_⟩
  ·show Inv X pins σ _ {s with heap:=h2,gens:=s.gens,drawn:=s.drawn,toks:=tk}
   refine I.step (g':=s.gens) (d':=s.drawn) (t':=tk) (h':=h2) (ch:=[z,TI,TO,p,q]) (fun c hc=>?_) (fun c o _ _ hc e _=>kk c o hc e) (fun c o _ _ hc e _=>⟨o.slots,kk c o hc e⟩) (fun c o _ e n=>by rw [Ao (nal c o e)];exact n)
    (fun c o hc e=>⟨o,kk c o hc e⟩) (fun c zs e=>by rw [Ao (Bw e hfr)];exact e) (fun c o v e=>by rw [Ao (Bw e hfr)];exact e) (fun c ps e=>⟨#[],by rw [Ao (Bw e hfr),e];simp⟩) (fun m hm=>?_) (fun c o e=>?_) I.bare
   ·obtain ⟨_,c1,_,c3,c4,c5⟩:=hf c hc
    exact ⟨c3,c1,c4,c5⟩
   ·obtain ⟨o,es,ep,e,r⟩:=hm
    exact ⟨o,es,ep,kk _ o (fun hc=>(hf _ hc).2.1 rfl) e,r⟩
   ·by_cases hb:c=s.heap.objs.size
    ·subst hb
     rw [BN] at e
     cases e
     exact ⟨by simp only [D7,HC];rw [sizeLine_eq];decide,[u1,u2],.cons ru1 (.cons ru2 .nil),⟨_,hnew,rfl,0,rfl⟩,fun o e=>by rw [hnew] at e;cases e;rfl⟩
    ·rw [Ao hb] at e
     refine (I.hok c o e).stay (fun d v hd e'=>kk d v ?_ e') (fun d e'=>by rw [Ao (Bw e' hfr)];exact e') fun d zs e'=>by rw [Ao (Bw e' hfr)];exact e'
     rcases hd with rfl |hd
     ·exact ntr d _ e
     ·exact ntr d _ hd
  ·have nc:c≠s.heap.objs.size:=by
    simp only [qa4,CN,or_false] at hc
    rcases hc with rfl |rfl |rfl |rfl |rfl
    ·obtain ⟨_,ez⟩:=zz.get;exact nal _ _ ez
    ·exact nal _ _ zi
    ·exact nal _ _ zo
    ·obtain ⟨o,e,_⟩:=x1.obj;exact nal _ _ e
    ·obtain ⟨o,e,_⟩:=x2.obj;exact nal _ _ e
   rw [Ao nc]
   exact (hf c hc).1
 done:=by
  intro X hP hw hK hc i pins s σ H E I hf st hg
  subst hP hw hK
  obtain ⟨zz,zi,⟨a,b,zo⟩,x1,x2⟩:=st
  obtain ⟨xs,ys,hq1,hq2,hl⟩:=hg
  obtain ⟨it1,rv1,sq1,lt1⟩:=G4 I hq1
  obtain ⟨it2,rv2,sq2,lt2⟩:=G4 I hq2
  have e1:=rv1.length
  have e2:=rv2.length
  have hh:X.A.in1.handled=none:=I.ok.hd hc
  refine ZcA (Kq k1 hh p t n1 it1.toArray) (Kq k2 hh q u n2 it2.toArray) ap zz zi zo ⟨x1,sq1⟩ ⟨x2,sq2⟩ (by simp only [AW];omega) fun h' tk kp=>⟨rfl,?_⟩
  have kk:∀c o,c∉[z,TI,TO,p,q]→s.heap.get? c=some o→h'.get? c=some o:=fun c o hc e=>by
   simp only [qa4,CN,or_false,not_or] at hc
   exact kp c o hc.1 hc.2.2.1 hc.2.2.2.1 hc.2.2.2.2 e
  have ntr:∀c o,H c=some o→c∉[z,TI,TO,p,q]:=fun c o e hc=>by
   rw [(hf c hc).1] at e;cases e
  show Inv X pins σ _ {s with heap:=h',gens:=s.gens,drawn:=s.drawn,toks:=tk}
  refine I.step (g':=s.gens) (d':=s.drawn) (t':=tk) (h':=h') (ch:=[z,TI,TO,p,q]) (fun c hc=>?_) (fun c o _ _ hc e _=>kk c o hc e) (fun c o _ _ hc e _=>⟨o.slots,kk c o hc e⟩) (fun c o _ e n=>n)
   (fun c o hc e=>⟨o,kk c o hc e⟩) (fun c zs e=>e) (fun c o v e=>e) (fun c ps e=>⟨#[],by rw [e];simp⟩) (fun m hm=>?_) (fun c o e=>?_) I.bare
  ·obtain ⟨_,c1,_,c3,c4,c5⟩:=hf c hc
   exact ⟨c3,c1,c4,c5⟩
  ·obtain ⟨o,es,ep,e,r⟩:=hm
   exact ⟨o,es,ep,kk _ o (fun hc=>(hf _ hc).2.1 rfl) e,r⟩
  ·refine (I.hok c o e).stay (fun d v hd e'=>kk d v ?_ e') (fun d e'=>e') fun d zs e'=>e'
   rcases hd with rfl |hd
   ·exact ntr d _ e
   ·exact ntr d _ hd
 self:=fun A i s Q E st h=>by cases st with |mk zz zi zo x1 x2=>exact ZcB zz h
section
variable {X:Cx} {E:XK}
theorem ZcE {tg:Expr} {p pos:Pos} {a b:Expr} {ta:TA} (hg:Gl X "zip") (hm:X.mg "zip"=none) (ha:PA X [a,b] ta) (hs:starEach [a,b] X.env=[(false,eval a X.env),(false,eval b X.env)]:=by rfl) (hs2:starEach [b] X.env=[(false,eval b X.env)]:=by rfl):
 PI X tg (.Call (.Name "zip" p) [a,b] [] pos) (fun σ H R=>ta σ H fun vs H1=>∃k1 k2 t u xs ys,vs=[.ref t,.ref u]∧Dz k1 X.K H1 t xs∧Dz k2 X.K H1 u ys∧R (Q8 X.K k1 k2 t u) H1):=by
 intro pins s σ H R I h
 refine Call_ (FW I hg hm PyProof.Rows.boot_zip (PyProof.Rows.callWith_type1 (Ap (ha pos pins s σ H _ I h) fun us s1 ⟨vs,H1,I1,r1,q1⟩=>?_) (by rw [hs,hs2]) (by rw [hs2];rfl)))
 obtain ⟨k1,k2,t,u,xs,ys,e,hq1,hq2,q⟩:=q1
 subst e
 cases r1 with
 |cons r rr=>
  cases rr with
  |cons r' rr=>
   cases rr
   cases r
   cases r'
   obtain ⟨it1,rv1,sq1,lt1⟩:=G4 I1 hq1
   obtain ⟨it2,rv2,sq2,lt2⟩:=G4 I1 hq2
   refine ZaD sq1 sq2 fun h' zz zi zo x1 x2 kp=>wpAny_pyIter_zip (s:={s1 with heap:=h'}) zz ?_
   have I2:Inv X pins σ H1 {s1 with heap:=h'}:=I1.kept (t':=s1.toks) kp
   have fr:∀c,s1.heap.objs.size≤c→Ee X pins H1 c:=fun c hc=>I1.fpOk hc (I1.hok.fresh hc)
   have m0:s1.heap.objs.size≠s1.heap.objs.size+4:=Bo (by omega)
   have ap:G3 (s1.heap.objs.size+4) (s1.heap.objs.size+2) (s1.heap.objs.size+3) s1.heap.objs.size (s1.heap.objs.size+1) [s1.heap.objs.size,t] [s1.heap.objs.size+1,u]:=by
    generalize s1.heap.objs.size=n at lt1 lt2
    exact ⟨Bo (by omega),Bo (by omega),Bo (by omega),Bo (by omega),Bo (by omega),Cf (by omega),Cf (by omega),Cf (by omega),Cf (by omega),Bo (by omega),
     fun z=>by simp only [qa4,CN,or_false] at z;rcases z with z |z;exact absurd z (Cf (by omega));exact absurd z (Cf (AR lt1 (EG _ _))),
     fun z=>by simp only [qa4,CN,or_false] at z;rcases z with z |z;exact absurd z (Cf (by omega));exact absurd z (Cf (AR lt2 (EG _ _))),
     fun z=>by simp only [qa4,CN,or_false] at z;rcases z with z |z;exact absurd z (Cf (by omega));exact absurd z (Cf (AR lt1 (EG _ _))),
     fun z=>by simp only [qa4,CN,or_false] at z;rcases z with z |z;exact absurd z (Cf (by omega));exact absurd z (Cf (AR lt2 (EG _ _))),
     fun z=>by simp only [qa4,CN,or_false] at z;rcases z with z |z;exact absurd z (Bo (by omega));exact absurd z (Cf lt2),
     fun z=>by simp only [qa4,CN,or_false] at z;rcases z with z |z;exact absurd z (Cf (by omega));exact absurd z (Cf (AR lt1 (EG _ _)))⟩
   refine ⟨s1.heap.objs.size+4,[s1.heap.objs.size+4,s1.heap.objs.size+2,s1.heap.objs.size+3,s1.heap.objs.size,s1.heap.objs.size+1],_,_,H1,rfl,I2,ZcD k1 k2 _ _ _ _ _ t u ap (BK lt1) (BK (GC lt2)),⟨.none _ zz,zi,⟨_,_,zo⟩,x1,x2⟩,fun c hc=>?_,q⟩
   simp only [qa4,CN,or_false] at hc
   rcases hc with rfl |rfl |rfl |rfl |rfl
   ·exact fr _ (EG _ _)
   ·exact fr _ (EG _ _)
   ·exact fr _ (EG _ _)
   ·exact fr _ (AG _)
   ·exact fr _ (EG _ _)
theorem ZcF {tg:Expr} {p pos:Pos} {a b:Expr} {fa:MA} (hg:Gl X "zip") (hm:X.mg "zip"=none) (ha:Cj X E [a,b] fa) (hs:starEach [a,b] X.env=[(false,eval a X.env),(false,eval b X.env)]:=by rfl) (hs2:starEach [b] X.env=[(false,eval b X.env)]:=by rfl):
 Ej X E tg (.Call (.Name "zip" p) [a,b] [] pos) (G6 fa):=
 H0 (ZcE hg hm ha hs hs2) fun σ H R ⟨m,ρ,h,hr,er,p⟩=>⟨m,ρ,h,hr,er,Post.bind p fun x h1 v m1 H1 eo p1 k1 hr1 r1 q1=>by
  clear eo
  unfold Gd at q1
  split at q1
  ·rename_i d1 d2
   split at q1
   ·rename_i xs s1 ys s2 e1 e2
    simp only [DN,DVs] at r1
    obtain ⟨v1,w1,rfl,rv1,v2,w2,rfl,rv2,rfl⟩:=r1
    obtain ⟨kd1,t,rfl,f1⟩:=Ra hr1 rv1 e1
    obtain ⟨kd2,u,rfl,f2⟩:=Ra hr1 rv2 e2
    obtain ⟨vs1,sq1,_⟩:=f1 m1 h1 H1 (Az _) (.refl _) hr1 (Rb e1)
    obtain ⟨vs2,sq2,_⟩:=f2 m1 h1 H1 (Az _) (.refl _) hr1 (Rb e2)
    refine ⟨kd1,kd2,t,u,vs1,vs2,rfl,sq1,sq2,q1 _ m1 H1 (Az _) (.refl _) hr1 fun i m2 h2 H2 p2 k2 hr2 hsr=>?_⟩
    obtain ⟨ws1,sw1,dw1⟩:=f1 m2 h2 H2 p2 k2 hr2 fun p hp=>hsr p (Hz _ hp)
    obtain ⟨ws2,sw2,dw2⟩:=f2 m2 h2 H2 p2 k2 hr2 fun p hp=>hsr p (CH _ hp)
    have n1:=dw1.len
    have n2:=dw2.len
    have nl:(G5 xs ys).length=min xs.length ys.length:=by simp [G5]
    refine ⟨fun hi=>?_,fun hi=>⟨ws1,ws2,sw1,sw2,by dsimp only at hi;omega⟩⟩
    dsimp only at hi
    have i1:i<xs.length:=by omega
    have i2:i<ys.length:=by omega
    refine ⟨⟨ws1,ws2,sw1,sw2,by omega,by omega⟩,fun y H3 z3_=>?_⟩
    obtain ⟨pp,vv,vv',hp,ey,ev,ev',eH⟩:=z3_
    subst ey eH
    have g1:xs[i]?=some xs[i]:=A2 i1
    have g2:ys[i]?=some ys[i]:=A2 i2
    obtain ⟨c1,z1,r1'⟩:=dw1.get g1
    obtain ⟨c2,z2,r2'⟩:=dw2.get g2
    rw [ev ws1 sw1] at z1
    rw [ev' ws2 sw2] at z2
    cases z1
    cases z2
    refine ⟨.new hp,hr2.new hp,.tup [xs[i],ys[i]],?_,?_⟩
    ·simp [G5,List.getElem?_zipWith,g1,g2]
    ·simp only [DV]
     exact ⟨pp,_,rfl,BN,.cons (DV.keep (Az _) (.new hp) r1') (.cons (DV.keep (Az _) (.new hp) r2') .nil)⟩
   ·exact q1.elim
  ·exact q1.elim⟩
end
section
variable {X:Cx} {E:XK}
inductive ZcG (vs:List V) (H:Hp) (Q:VK):Prop where
 |mk (r:Addr) (n:Nat) (e:vs=[.ref r]) (hr:H r=some (.ext (NW r n))) (hn:n≤1000) (q:∀p,H p=none→Q (.ref p) (Ak H p (.lst ((List.range n).map fun i=>V.int ((i:Nat):Int))))):ZcG vs H Q
noncomputable def ZcH:D→HD→Out D:=fun d h=>match d with
 |.int i=>@ite _ (0≤i∧i≤1000) (Classical.propDecidable _) (B9 ((List.range i.toNat).map fun k=>D.int ((k:Nat):Int)) h) .stuck
 |_=>.stuck
noncomputable def ZiP (f:ME):ME:=fun ρ h=>(f ρ h).bind ZcH
end
end LS
namespace LS
open PySem PySem.Spec PyProof.Rows L2 PySem.W PySem.Calls
variable {g:Str}
def SG:Expr→List Str
 |.Name x _=>[x]
 |_=>[]
def tn2:Expr→List Str
 |.Tuple es _ _=>es.flatMap SG
 |_=>[]
def tnB:Expr→List Str
 |.Name x _=>[x]
 |.Tuple es _ _=>es.flatMap SG++es.flatMap tn2
 |_=>[]
def ncO (cs:List (Option Nat)) (N:List Str):List Str:=cs.filterMap fun o=>o.map fun j=>N.getD j ""
abbrev FD (tg:Expr) (cs:List (Option Nat)) (N:List Str):List Str:=tnB tg++ncO cs N
theorem ZcI {X:Cx} {E:XK} {i:Nat} {x:Str} {pos:Pos} (hN:X.N[i]?=some x:=by rfl) (hv:JD X.env.scope x:=by first |exact Or.inl rfl |exact Or.inr (Or.inl rfl) |exact Or.inr (Or.inr rfl)) (hd:(x==("__debug__":Str))=false:=by decide) (hcd:(x==("__classdict__":Str))=false:=by decide):Ev X E (.Name x pos) (Ab i):=MX (Mq hN hv hd hcd)
section
variable {X:Cx} {E:XK} {scope:Scope} {cs:List (Option Nat)} {tg iter elt:Expr} {it:MI} {gg:TG} {sg:MG} {ifs:List Expr} {t:MT} {f:ME} {pos:Pos}
theorem SH (hcalm:X.calm=true) (S:CSc X scope (FD tg cs X.N) cs) (hi:Ej X E tg iter it) (hg:F7 X.K cs gg sg)
 (hb:∀(C D:Addr) (cells:List (Str×Addr)) (fp:List Addr) (s₀:Shared) (H₀:Hp) (pins:List (Addr×Obj)),PG (BJ X (FD tg cs X.N) scope C D cells fp s₀ H₀ pins) tg gg∧GT (BJ X (FD tg cs X.N) scope C D cells fp s₀ H₀ pins) E0 ifs t∧Ev (BJ X (FD tg cs X.N) scope C D cells fp s₀ H₀ pins) E0 elt f)
 (hsf:∀x,foldedSetIterable iter X.env x=pure x:=by intro _;rfl):Ev X E (.ListComp elt [⟨tg,iter,ifs,0⟩] scope pos) (AI cs it sg t f):=ZM hcalm S.ok hi hg hb hsf
theorem SI {i:Nat} {x:Str} {pos' pos2:Pos} (hcalm:X.calm=true) (hN:X.N.Nodup) (hix:X.N[i]?=some x) (hx:FU X.env.scope x) (S:CSc X scope (FD tg cs X.N) cs) (hi:Ej X E tg iter it) (hg:F7 X.K cs gg sg)
 (hb:∀(C D:Addr) (cells:List (Str×Addr)) (fp:List Addr) (s₀:Shared) (H₀:Hp) (pins:List (Addr×Obj)),PG (BJ X (FD tg cs X.N) scope C D cells fp s₀ H₀ pins) tg gg∧GT (BJ X (FD tg cs X.N) scope C D cells fp s₀ H₀ pins) E0 ifs t∧Ev (BJ X (FD tg cs X.N) scope C D cells fp s₀ H₀ pins) E0 elt f)
 (hsf:∀x,foldedSetIterable iter X.env x=pure x:=by intro _;rfl) (hsw:swapsWith (.ListComp elt [⟨tg,iter,ifs,0⟩] scope pos) (some (.Name x pos')) pos2.line X.env=pure true:=by rfl)
 (hf:X.fn x=true∨X.env.scope.names.lookup x=some .local:=by first |exact .inl rfl |exact .inr rfl |assumption):Ex X E (.Assign [.Name x pos'] (.ListComp elt [⟨tg,iter,ifs,0⟩] scope pos) pos2) (An i (AI cs it sg t f)):=ZN hcalm hN hix hx S.ok hi hg hb hsf hsw hf
theorem ZcJ {j:Nat} {X:Cx} {E:XK} {c P:Addr} {cs:List Nat} {params:Arguments} {body:Expr} {scope:Scope} {k kk:Nat} {Fk:List D→HD→Out D} {f:ME} {fs:Addr} {fd:FuncData} {st:Stmt} {lpos p pos:Pos}
 (L:LamX g X c P) (fna:∀x,X.fn x=true) (hr:Room kk X.A) (lv:Lv X E) (et:etOk X.K=true) (Sd:SaidD X.K X.mg st fs fd) (St:NS st) (hkind:CaM X.prog X.w X.K X.mg X.base "_law_kind" k Fk) (S:LSc X scope (cs.map fun j=>X.N.getD j "") cs)
 (hb:∀(a:Addr) (cd:Value) (cl:List (Str×Addr)) (A:Around) (outer:List Env) (s:Shared) (H:Hp) (E':XK),Room k (A.deeper (envX (Bg g) scope s.heap.objs.size a cd cl))→Ev (Eo g X.prog X.w X.K X.mg X.base (cs.map fun j=>X.N.getD j "") scope a cd cl A outer s H E') E' body f)
 (hg:Gl X "_law_said") (hkk:k+2≤kk:=by decide) (hdef:defaultsOf params X.env=([],[]):=by rfl)
 (hbind:∀(cl:List (Str×Addr)) (pm cv ctv:Value),bindArgs (kla_fn "<lambda>" (Bg g) params body scope cl pm cv ctv) ⟨[],[]⟩=pure []:=by exact fun _ _ _ _=>rfl)
 (he:starEach [.Lambda params body scope lpos] X.env=(false,eval (.Lambda params body scope lpos) X.env)::starEach [] X.env:=by rfl) (hpl:(backTo pos (starEach [] X.env)).any (·.1)=false:=by rfl):
 Ev X E (.Call (.Name "_law_said" p) [.Lambda params body scope lpos] [] pos) (DB j g cs Fk f):=ZbE L fna hr lv et Sd St hkind S hb hg hkk hdef hbind he hpl
end
noncomputable def AF (n m:Nat) (g:MS):List D→HD→Out D:=fun ds h=>if ds.length=n then As m g ds h else .stuck
section
variable {P:Program} {w:World} {K:PySem.W.Frag} {mg:Str→Option Value} {base h:Heap} {x:Str} {st:Stmt} {N ps:List Str} {k:Nat} {g:MS}
theorem Oe (S:Tp.SeenF K x st) (X:K.In h) (G:h.Ns mainGlobals mg) (bd:∀(kV doc pm:Value) (an:Option Addr) (cdv ct:Value) (us:List Value),us.length=ps.length→bindArgs (PySem.W.fnOf x x (defArgs st) (defBody st) (defScope st) .none kV doc pm an cdv ct) ⟨us,[]⟩=pure (ps.zip us)):∃f fd,Dn K mg x ps st f fd:=by
 obtain ⟨_,_,_,_,_,_,_,_,_,_,a,l,c,k⟩:=S
 exact ⟨_,_,HP l c k,(HP l c k).binds bd,PySem.W.mg_of X G a⟩
theorem A6 (S:Tp.SeenF K x st) (X:K.In h) (G:h.Ns mainGlobals mg)
 (b:N.Nodup→∀(f:Addr) (cdv:Value) (A:Around) (outer:List Env) (s:Shared) (H:Hp) (E:XK),Room k (A.deeper (envOfC x (defScope st) s.heap.objs.size f cdv))→Cn (Bx (AO P w K) P w K mg base N x (defScope st) f cdv A outer s H E) E (defBody st) g)
 (bd:∀(kV doc pm:Value) (an:Option Addr) (cdv ct:Value) (us:List Value),us.length=ps.length→bindArgs (PySem.W.fnOf x x (defArgs st) (defBody st) (defScope st) .none kV doc pm an cdv ct) ⟨us,[]⟩=pure (ps.zip us):=by
  intro _ _ _ _ _ _ us hl;rcases us with _ |⟨_,_ |⟨_,_ |⟨_,_ |⟨_,_⟩⟩⟩⟩<;>first |rfl |exact absurd hl (by simp)) (sc:CQ N ps (defScope st):=by exact ⟨rfl,rfl,rfl,by decide +kernel,rfl,by decide +kernel,by decide +kernel⟩):CaE P w K mg base x (k+1) (AF ps.length N.length g):=by
 obtain ⟨f,fd,D⟩:=Oe S X G bd
 exact ⟨f,fd,_,Nv D.fn sc (fun ds h e=>if_neg e) (fun ds h e=>if_pos e) (fun cdv A outer s H E hr=>b sc.nd f cdv A outer s H E hr),D.bd,D.mg,D.fn.kp⟩
theorem mkM (S:Tp.SeenF K x st) (X:K.In h) (G:h.Ns mainGlobals mg)
 (b:N.Nodup→∀(f:Addr) (cdv:Value) (A:Around) (outer:List Env) (s:Shared) (H:Hp),RoomM k (A.deeper (envOfC x (defScope st) s.heap.objs.size f cdv))→Cn (Hd P w K mg base N x (defScope st) f cdv A outer s H) E0 (defBody st) g)
 (bd:∀(kV doc pm:Value) (an:Option Addr) (cdv ct:Value) (us:List Value),us.length=ps.length→bindArgs (PySem.W.fnOf x x (defArgs st) (defBody st) (defScope st) .none kV doc pm an cdv ct) ⟨us,[]⟩=pure (ps.zip us):=by
  intro _ _ _ _ _ _ us hl;rcases us with _ |⟨_,_ |⟨_,_ |⟨_,_ |⟨_,_⟩⟩⟩⟩<;>first |rfl |exact absurd hl (by simp)) (sc:CQ N ps (defScope st):=by exact ⟨rfl,rfl,rfl,by decide +kernel,rfl,by decide +kernel,by decide +kernel⟩):CaM P w K mg base x (k+1) (AF ps.length N.length g):=by
 obtain ⟨f,fd,D⟩:=Oe S X G bd
 exact ⟨f,fd,_,Zbg D.fn sc (fun ds h e=>if_neg e) (fun ds h e=>if_pos e) (fun cdv A outer s H hr=>b sc.nd f cdv A outer s H hr),D.bd,D.mg,D.fn.kp,fun ds h e=>if_neg e⟩
theorem mkS (S:Tp.SeenF K "_law_said" st) (X:K.In h) (G:h.Ns mainGlobals mg)
 (bd:∀(kV doc pm:Value) (an:Option Addr) (cdv ct:Value) (us:List Value),us.length=(["_law_call"]:List Str).length→bindArgs (PySem.W.fnOf "_law_said" "_law_said" (defArgs st) (defBody st) (defScope st) .none kV doc pm an cdv ct) ⟨us,[]⟩=pure ((["_law_call"]:List Str).zip us):=by
  intro _ _ _ _ _ _ us hl;rcases us with _ |⟨_,_ |⟨_,_⟩⟩<;>first |rfl |exact absurd hl (by simp)):∃f fd,SaidD K mg st f fd:=by
 obtain ⟨f,fd,D⟩:=Oe S X G bd
 exact ⟨f,fd,SaidD.of D⟩
theorem mkB {bs:List Str} (hb:∀(i:Nat) n,bs[i]?=some n→PySem.W.nsIn K mainGlobals n=some none) (X:K.In h) (G:h.Ns mainGlobals mg):∀x∈bs,mg x=none:=fun x hx=>by
 obtain ⟨i,hi,rfl⟩:=Gz hx
 exact PySem.W.mg_none_of X G (hb i _ (A2 hi))
end
end LS
namespace LS
open PySem PySem.Builtin PySem.Builtin.Str
abbrev tx (l:List Nat):Str:=⟨l.toArray⟩
def Of (c:Nat):List Nat→Nat→List Nat
 |[],_=>[]
 |a::l,k=>if a=c then k::Of c l (k+1) else Of c l (k+1)
def ZiQ (c:Nat) (l:List Nat):Int:=match Of c l 0 with
 |i::_=>(i:Int)
 |[]=>-1
def Og (c:Nat):List Nat→List (List Nat)
 |[]=>[[]]
 |a::l=>if a=c then []::Og c l else match Og c l with
  |[]=>[[a]]
  |p::ps=>(a::p)::ps
def SJ (c:Nat):List Nat→Option (List Nat×List Nat)
 |[]=>none
 |a::l=>if a=c then some ([],l) else (SJ c l).map fun p=>(a::p.1,p.2)
end LS
namespace LS
open PySem PySem.Spec PyProof.Rows L2 PySem.W PySem.Calls
section
variable {X:Cx} {E:XK}
def Oh (f:Str→Str→Option D):D→D→HD→Out D:=fun x y h=>match x,y with
 |.str a,.str b=>(match f a b with
  |some d=>.ok d h
  |none=>.stuck)
 |_,_=>.stuck
def ZiR:D→D→HD→Out D:=Oh fun a b=>some (.int (Txt.find a b))
def ZiS:D→D→HD→Out D:=Oh fun a b=>some (.bl (Txt.startswith a b))
def ZiT:D→D→HD→Out D:=Oh fun a b=>some (.int (Txt.count a b))
def ZiU:D→D→HD→Out D:=fun x y h=>match x,y with
 |.str a,.str ⟨⟨[c]⟩⟩=>if a.length≤sizeLine then B9 ((Og c a.cps.toList).map fun l=>.str (tx l)) h else .stuck
 |_,_=>.stuck
def Oi (c:Nat) (l:List Nat):List Nat×List Nat×List Nat:=match SJ c l with
 |some (a,b)=>(a,[c],b)
 |none=>(l,[],[])
def ZiV:D→D→HD→Out D:=fun x y h=>match x,y with
 |.str a,.str ⟨⟨[c]⟩⟩=>if a.length≤sizeLine then .ok (.tup [.str (tx (Oi c a.cps.toList).1),.str (tx (Oi c a.cps.toList).2.1),.str (tx (Oi c a.cps.toList).2.2)]) h else .stuck
 |_,_=>.stuck
end
def SK (l:List Nat) (lo hi:Option Int):List Nat:=(l.drop (HT.sIx l.length 0 lo)).take (HT.sIx l.length l.length hi - HT.sIx l.length 0 lo)
section
variable {X:Cx} {E:XK}
def ZiW:V→Option Int→Option Int→Hp→VK→Prop:=fun x lo hi H Q=>∃l:List Nat,x=.str (tx l)∧l.length≤sizeLine∧Q (.str (tx (SK l lo hi))) H
def SL (x:D) (lo hi:Option Int) (h:HD):Out D:=match x with
 |.str a=>if a.length≤sizeLine then .ok (.str (tx (SK a.cps.toList lo hi))) h else .stuck
 |_=>.stuck
def SM (f:ME) (lo hi:MO):ME:=fun ρ h=>(f ρ h).bind fun x h1=>(lo ρ h1).bind fun l h2=>(hi ρ h2).bind fun u h3=>SL x l u h3
def ZiX (f:ME) (r:MJ):MJ:=fun acc ρ h=>(f ρ h).bind fun d h1=>match d with
 |.str z=>if z.length≤sizeLine∧(acc++z).length≤sizeLine then r (acc++z) ρ h1 else .stuck
 |_=>.stuck
def Its (x:Str):It:=⟨fun i _=>i<x.cps.size,fun i H v H'=>H'=H∧∃c,x.cps[i]?=some c∧v=.str ⟨#[c]⟩,fun i _=>x.cps.size≤i⟩
def sgs (z:Str):List D:=z.cps.toList.map fun c=>.str (tx [c])
def SO (d:D) (h:HD):Out (List D×AS):=match d with
 |.str z=>.ok (sgs z,[]) h
 |_=>.stuck
def SQ (f:ME):MI:=fun ρ h=>(f ρ h).bind SO
end
section
variable {f:ME} {ρ:Ag} {h:HD} {Q:D→HD→Prop} {lo hi:MO} {QI:List D×AS→HD→Prop}
@[simp] theorem ZiY:Wp (SQ f ρ h) QI=Wp (f ρ h) fun d h1=>Wp (SO d h1) QI:=by unfold SQ;rw [Aq]
@[simp] theorem ZiZ:Wp (SM f lo hi ρ h) Q=Wp (f ρ h) fun x h1=>Wp (lo ρ h1) fun l h2=>Wp (hi ρ h2) fun u h3=>Wp (SL x l u h3) Q:=by unfold SM;simp only [Aq]
end
end LS
namespace Tp
open PySem PySem.W PySem.Spec PySem.Calls PyProof.Rows
def ZcK (K:Frag) (n v:Str):Bool:=match nsIn K mainGlobals n with
 |some (some (.str z _))=>z.cps.toList==v.cps.toList
 |_=>false
def Oj (K:Frag):List (Str×Str)→Bool
 |[]=>true
 |p::r=>ZcK K p.1 p.2&&Oj K r
noncomputable def Zi0 (W:Want) (ex:Frag→Bool) (s:Shared):Hh×Bool:=fL (Hg s.heap) fun K=>
 ((W.fs.map fun x=>Gk K x.1,W.cs.map fun x=>Gm K x.1,W.bs.map (nsIn K mainGlobals),LS.etOk K,N8 K s.heap),ex K)
def Zi1 (W:Want):Hh×Bool:=(R4 W,true)
def SaysX (W:Want) (ex:Frag→Bool) (_:World) (h:Heap):Prop:=∃(K:Frag) (c T:Addr),K.In h∧(KI W K c T∧ex K=true)∧h.get? T=some (tabObj #[])
theorem SaysX.keeps {W:Want} {ex:Frag→Bool} (w:World) (h h':Heap) (x:SaysX W ex w h) (k:∀b o,h.get? b=some o→h'.get? b=some o):SaysX W ex w h':=by
 obtain ⟨K,c,T,h1,h2,h3⟩:=x
 exact ⟨K,c,T,h1.keeps k,h2,k _ _ h3⟩
end Tp
namespace LS
open PySem PySem.W PySem.Spec PySem.Calls PyProof.Rows L2
end LS
namespace LS
open PySem PySem.Spec PyProof.Rows L2 PySem.W PySem.Calls
def Zi2 (sep:List Nat):List (List Nat)→List Nat
 |[]=>[]
 |x::r=>x++r.flatMap fun y=>sep++y
noncomputable def Zi3 (sep:List Nat) (cs:List (Option Nat)) (it:MI) (sg:MG) (f:ME):ME:=Gf Sa Zci (mC (.str (tx sep))) (AI cs it sg A7 f)
def putD (f:Str) (d:D):List (Str×D)→List (Str×D)
 |[]=>[(f,d)]
 |p::r=>if p.1=f then (f,d)::r else p::putD f d r
section
variable {K:Frag} {m:List Addr} {H:Hp}
theorem FDs.len:∀{fs:List (Str×D)} {vs:List (Str×V)},FDs K m H fs vs→fs.length=vs.length
 |[],_,h=>by cases h;rfl
 |_::_,_,h=>by obtain ⟨v,r',rfl,_,t⟩:=h;simp [t.len]
theorem FDs.get:∀{fs:List (Str×D)} {vs:List (Str×V)} {f:Str} {d:D},FDs K m H fs vs→fs.lookup f=some d→∃v,vs.lookup f=some v∧DV K m H d v
 |[],_,_,_,_,e=>by cases e
 |p::_,_,f,d,h,e=>by
  obtain ⟨v,r',rfl,dv,t⟩:=h
  rw [D8] at e ⊢
  cases q:f==p.1 with
  |true=>rw [q] at e;cases e;exact ⟨v,rfl,dv⟩
  |false=>rw [q] at e;exact t.get e
theorem FDs.none:∀{fs:List (Str×D)} {vs:List (Str×V)} {f:Str},FDs K m H fs vs→fs.lookup f=none→vs.lookup f=none
 |[],_,_,h,_=>by cases h;rfl
 |p::_,_,f,h,e=>by
  obtain ⟨v,r',rfl,dv,t⟩:=h
  rw [D8] at e ⊢
  cases q:f==p.1 with
  |true=>rw [q] at e;cases e
  |false=>rw [q] at e;exact t.none e
end
def FE (n f:Str):D→HD→Out D:=fun x h=>match x with
 |.loc l=>(match h[l]? with
  |some (.ins n' fs)=>if n'=n then (match fs.lookup f with
   |some d=>.ok d h
   |none=>.stuck) else .stuck
  |_=>.stuck)
 |_=>.stuck
def BU (n:Str) (g:ME) (f:Str):ME:=fun ρ h=>(g ρ h).bind (FE n f)
def IK (K:Frag) (n:Str) (fs:List Str):Prop:=∃C,nsIn K mainGlobals n=some (some (.ref C))∧Cls K C∧∀f∈fs,NoAttr K C f
section
variable {X:Cx} {E:XK}
theorem ZcL {n f:Str} {ns:List Str} {e:Expr} {g:ME} {pos:Pos} (c:IK X.K n ns) (he:Ev X E e g) (hf:f∈ns:=by decide) (hb:attributeBase e f X.env (eval e X.env)=eval e X.env:=by rfl):Ev X E (.Attribute e f pos) (BU n g f):=
 BH (Xu he hb) fun σ H Q z=>by
  obtain ⟨m,ρ,h,hr,er,p⟩:=z
  refine ⟨m,ρ,h,hr,er,Post.bind p fun x h1 v m1 H1 eo p1 k1 hr1 r1 q1=>?_⟩
  clear eo
  unfold FE at q1
  split at q1
  ·rename_i l
   split at q1
   ·rename_i n' fs el
    split at q1
    ·rename_i hn
     subst hn
     split at q1
     ·rename_i d ed
      simp only [rD,DV] at r1
      obtain ⟨a,rfl,ha⟩:=r1
      obtain ⟨C,dx,fv,e1,e2,e3⟩:=hr1.cells l _ a el ha
      obtain ⟨C',c1,c2,c3⟩:=c
      rw [c1] at e1
      cases e1
      obtain ⟨v,ev,dv⟩:=e3.get ed
      exact ⟨a,C,dx,fv,v,rfl,e2,c2,c3 f hf,ev,A3 hr1 q1 dv⟩
     ·exact q1.elim
    ·exact q1.elim
   ·exact q1.elim
  ·exact q1.elim
theorem SS {K:Frag} {m:List Addr} {H:Hp} {f:Str} {d:D} {v:V} (dv:DV K m H d v):∀{fs:List (Str×D)} {vs:List (Str×V)},FDs K m H fs vs→FDs K m H (putD f d fs) (B6 f v vs)
 |[],_,h=>by cases h;exact ⟨v,[],rfl,dv,rfl⟩
 |p::r,_,h=>by
  obtain ⟨w,r',rfl,dw,t⟩:=h
  unfold putD B6
  by_cases q:p.1=f
  ·rw [if_pos q]
   simp only [q,beq_self_eq_true,if_true]
   exact ⟨v,r',rfl,dv,t⟩
  ·rw [if_neg q]
   have q':(p.1==f)=false:=by simpa using q
   simp only [q',Bu,if_false,q]
   exact ⟨w,_,rfl,dw,SS dv t⟩
def Ew (n f:Str) (x y:D) (ρ:Ag) (h:HD):Out (Fl×Ag):=match x with
 |.loc l=>(match h[l]? with
  |some (.ins n' fs)=>if n'=n∧fs.length<1000 then .ok (.nx,ρ) (h.set l (.ins n (putD f y fs))) else .stuck
  |_=>.stuck)
 |_=>.stuck
def EY (n:Str) (fo:ME) (f:Str) (fv:ME):MS:=fun ρ h=>(fv ρ h).bind fun y h1=>(fo ρ h1).bind fun x h2=>Ew n f x y ρ h2
theorem ZcM {n f:Str} {ns:List Str} {o e:Expr} {fo fv:ME} {tpos pos:Pos} (c:IK X.K n ns) (ho:Ev X E o fo) (he:Ev X E e fv) (hf:f∈ns:=by decide) (hs:swapsWith e (some (.Attribute o f tpos)) pos.line X.env=pure false:=by rfl):Ex X E (.Assign [.Attribute o f tpos] e pos) (EY n fo f fv):=
 Dv (Xv ho he hs) fun Dn σ H z=>by
  obtain ⟨m,ρ,h,hr,er,p⟩:=z
  refine ⟨m,ρ,h,hr,er,PostS.bind p fun y h1 vy m1 H1 eo1 p1 k1 hr1 r1 q1=>?_⟩
  refine ⟨m1,ρ,h1,hr1,er.keep p1 k1,PostS.bind q1 fun x h2 vx m2 H2 eo2 p2 k2 hr2 r2 q2=>?_⟩
  clear eo1 eo2
  have ry:=DV.keep p2 k2 r1
  unfold Ew at q2
  split at q2
  ·rename_i l
   split at q2
   ·rename_i n' fs el
    split at q2
    ·rename_i hn
     obtain ⟨rfl,hl⟩:=hn
     simp only [rD,DV] at r2
     obtain ⟨a,rfl,ha⟩:=r2
     obtain ⟨C,dx,fv,e1,e2,e3⟩:=hr2.cells l _ a el ha
     obtain ⟨C',c1,c2,c3⟩:=c
     rw [c1] at e1
     cases e1
     refine ⟨a,C,dx,fv,rfl,e2,c2,c3 f hf,by rw [←e3.len];exact hl,?_⟩
     have kp:Kp H2 (Ak H2 a (.ins C dx (B6 f vy fv))):=.set e2 rfl
     have hr3:HR X.K m2 (h2.set l (.ins n' (putD f y fs))) (Ak H2 a (.ins C dx (B6 f vy fv))):=hr2.setCell ha e2 rfl ⟨C,dx,_,c1,BN,(SS ry e3).keep (Az _) kp⟩
     exact q2 m2 _ (Az _) kp hr3 σ (((er.keep p1 k1).keep p2 k2).keep (Az _) kp)
    ·exact q2.elim
   ·exact q2.elim
  ·exact q2.elim
def Gq (n mn:Str):D→HD→Out D:=fun x h=>match x with
 |.loc l=>(match h[l]? with
  |some (.ins n' fs)=>if n'=n∧fs.lookup mn=none then .ok x h else .stuck
  |_=>.stuck)
 |_=>.stuck
def Ba (n mn:Str) (F:List D→HD→Out D) (fo:ME) (fa:MA):ME:=fun ρ h=>((fo ρ h).bind (Gq n mn)).bind fun x h1=>(fa ρ h1).bind fun xs h2=>F (x::xs) h2
structure BF (P:Program) (w:World) (K:Frag) (mg:Str→Option Value) (base:Heap) (n mn:Str) (k:Nat) (F:List D→HD→Out D):Prop where
 ex:∃(C f:Addr) (fd:FuncData) (ps:List Str),nsIn K mainGlobals n=some (some (.ref C))∧Cls K C∧JK K C mn f∧FnOk P w K mg base (AO P w K) k f fd ps (Dy K F)∧Binds K fd ps []
theorem SU {n mn:Str} {x:D} {v:V} {m1:List Addr} {H1:Hp} {h1:HD} {β:Type} {R:List Addr→Hp→D→β→Prop} {Q:β→Hp→Prop} {C:Addr} {k:D→HD→Out D} (c1:nsIn X.K mainGlobals n=some (some (.ref C))) (hr1:HR X.K m1 h1 H1) (r1:DV X.K m1 H1 x v) (q1:Post X.K R m1 H1 E Q ((Gq n mn x h1).bind k)):
 ∃a dx fv,v=.ref a∧H1 a=some (.ins C dx fv)∧fv.lookup mn=none∧Post X.K R m1 H1 E Q (k x h1):=by
 unfold Gq at q1
 split at q1
 ·rename_i l
  split at q1
  ·rename_i n' fs el
   split at q1
   ·rename_i hn
    obtain ⟨rfl,hl⟩:=hn
    simp only [DV] at r1
    obtain ⟨a,rfl,ha⟩:=r1
    obtain ⟨C',dx,fv,e1,e2,e3⟩:=hr1.cells l _ a el ha
    rw [c1] at e1
    cases e1
    exact ⟨a,dx,fv,rfl,e2,e3.none hl,q1⟩
   ·exact q1.elim
  ·exact q1.elim
 ·exact q1.elim
theorem ZcN {n mn:Str} {k k':Nat} {F:List D→HD→Out D} {fo:ME} {fa:MA} {o e:Expr} {es:List Expr} {apos pos:Pos} {pl:Sem Bool} (Cm:BF X.prog X.w X.K X.mg X.base n mn k F) (hr:Room k' X.A) (hx:CD (AO X.prog X.w X.K) X E) (ho:Ev X E o fo) (ha:Cj X E (e::es) fa) (hk:k≤k':=by decide)
 (hst:starEach (e::es) X.env=(false,eval e X.env)::starEach es X.env:=by rfl) (hpl:(backTo pos (starEach es X.env)).any (·.1)=false:=by rfl)
 (ht:eval (.Call (.Attribute o mn apos) (e::es) [] pos) X.env=(do
  let ov ←eval o X.env
  standAt apos.atName
  let (f,first) ←holding [ov] (getMethod ov mn pl)
  callWith pos f first (backTo pos (starEach (e::es) X.env)) (backToKw pos (keywordEach [] X.env))):=by rfl):Ev X E (.Call (.Attribute o mn apos) (e::es) [] pos) (Ba n mn F fo fa):=by
 obtain ⟨C,f,fd,ps,c1,c2,c3,G,hb⟩:=Cm.ex
 refine BH (XM (E:=E) ho c2 c3 G (hr.mono hk) hb .nil hx ha hst hpl ht) fun σ H Q z=>?_
 obtain ⟨m,ρ,h,hr1,er,p⟩:=z
 unfold Ba at p
 rw [Out.bind_assoc] at p
 refine ⟨m,ρ,h,hr1,er,Post.bind p fun x h1 v m1 H1 eo p1 k1 hr1 r1 q1=>?_⟩
 clear eo
 obtain ⟨a,dx,fv,rfl,e2,hl,q1⟩:=SU c1 hr1 r1 q1
 refine ⟨a,dx,fv,rfl,e2,hl,m1,ρ,h1,hr1,er.keep p1 k1,Post.bind q1 fun xs h2 vs m2 H2 eo p2 k2 hr2 r2 q2=>?_⟩
 rw [D9]
 exact ⟨m2,x::xs,h2,hr2,.cons (DV.keep p2 k2 r1) r2,q2⟩
theorem ZcO {n mn:Str} {k k':Nat} {F:List D→HD→Out D} {fo:ME} {o:Expr} {apos pos:Pos} {pl:Sem Bool} (Cm:BF X.prog X.w X.K X.mg X.base n mn k F) (hr:Room k' X.A) (hx:CD (AO X.prog X.w X.K) X E) (ho:Ev X E o fo) (hk:k≤k':=by decide)
 (ht:eval (.Call (.Attribute o mn apos) [] [] pos) X.env=(do
  let ov ←eval o X.env
  standAt apos.atName
  let (f,first) ←holding [ov] (getMethod ov mn pl)
  callWith pos f first (backTo pos (starEach [] X.env)) (backToKw pos (keywordEach [] X.env))):=by rfl):Ev X E (.Call (.Attribute o mn apos) [] [] pos) (Ba n mn F fo Ac):=by
 obtain ⟨C,f,fd,ps,c1,c2,c3,G,hb⟩:=Cm.ex
 refine BH (XN (E:=E) ho c2 c3 G (hr.mono hk) hb .nil hx ht) fun σ H Q z=>?_
 obtain ⟨m,ρ,h,hr1,er,p⟩:=z
 unfold Ba at p
 rw [Out.bind_assoc] at p
 refine ⟨m,ρ,h,hr1,er,Post.bind p fun x h1 v m1 H1 eo p1 k1 hr1 r1 q1=>?_⟩
 clear eo
 obtain ⟨a,dx,fv,rfl,e2,hl,q1⟩:=SU c1 hr1 r1 q1
 exact ⟨a,dx,fv,rfl,e2,hl,m1,[x],h1,hr1,.cons r1 .nil,q1⟩
def Ey (n:Str) (F:List D→HD→Out D) (fa:MA):ME:=fun ρ h=>(fa ρ h).bind fun xs h1=>(F (.loc h1.length::xs) (h1++[.ins n []])).bind fun v h2=>match v with
 |.non=>.ok (.loc h1.length) h2
 |_=>.stuck
structure KN (P:Program) (w:World) (K:Frag) (mg:Str→Option Value) (base:Heap) (n:Str) (k:Nat) (F:List D→HD→Out D):Prop where
 ex:∃(C f:Addr) (fd:FuncData) (ps:List Str),nsIn K mainGlobals n=some (some (.ref C))∧Mk K C f∧FnOk P w K mg base (AO P w K) k f fd ps (Dy K F)∧Binds K fd ps []
theorem ZcP {n:Str} {F:List D→HD→Out D} {C:Addr} {xs:List D} {vs:List V} {m1:List Addr} {H1:Hp} {h1:HD} {Q:VK} (c1:nsIn X.K mainGlobals n=some (some (.ref C))) (hr1:HR X.K m1 h1 H1) (r1:DVs X.K m1 H1 xs vs)
 (q:Post X.K (rD X.K) m1 H1 E Q ((F (.loc h1.length::xs) (h1++[.ins n []])).bind fun v h2=>match v with
  |.non=>.ok (.loc h1.length) h2
  |_=>.stuck)) (x dx:Addr) (hx:H1 x=none) (hdx:H1 dx=none) (ne:dx≠x):Dy X.K F (.ref x::vs) (Ak (Ak H1 dx (.own x)) x (.ins C dx [])) (fun v H2=>v=.non∧Q (.ref x) H2) E:=by
 have hx2:Ak H1 dx (.own x) x=none:=by rw [Ao (Ne.symm ne)];exact hx
 have kp:Kp H1 (Ak (Ak H1 dx (.own x)) x (.ins C dx [])):=(Kp.new hdx).trans (.new hx2)
 have pre:m1 <+:m1++[x]:=GA _ _
 have hr2:HR X.K (m1++[x]) (h1++[.ins n []]) (Ak (Ak H1 dx (.own x)) x (.ins C dx [])):=(hr1.new hdx).newCell hx2 ⟨C,dx,[],c1,BN,rfl⟩
 have hm:(m1++[x])[h1.length]?=some x:=by rw [←hr1.len];simp
 refine ⟨m1++[x],.loc h1.length::xs,h1++[.ins n []],hr2,.cons (by simp only [DV];exact ⟨x,rfl,hm⟩) (r1.keep pre kp),Post.bind (q.ahead pre kp) fun v h3 u m3 H3 eo p3 k3 hr3 r3 q3=>?_⟩
 clear eo
 split at q3
 ·simp only [rD,DV] at r3
  refine ⟨r3,A3 hr3 q3 ?_⟩
  simp only [DV]
  exact ⟨x,rfl,GI p3 hm⟩
 ·exact q3.elim
theorem ZcQ {n:Str} {k k':Nat} {F:List D→HD→Out D} {fa:MA} {e:Expr} {es:List Expr} {p pos:Pos} (Ck:KN X.prog X.w X.K X.mg X.base n k F) (hr:Room k' X.A) (hx:CD (AO X.prog X.w X.K) X E) (hg:Gl X n) (ha:Cj X E (e::es) fa) (hk:k+1≤k':=by decide)
 (hdb:(n==("__debug__":Str))=false:=by decide) (hst:starEach (e::es) X.env=(false,eval e X.env)::starEach es X.env:=by rfl) (hpl:(backTo pos (starEach es X.env)).any (·.1)=false:=by rfl):Ev X E (.Call (.Name n p) (e::es) [] pos) (Ey n F fa):=by
 obtain ⟨C,f,fd,ps,c1,M,G,hb⟩:=Ck.ex
 intro pins s σ H Q I z
 have hm:X.mg n=some (.ref C):=PySem.W.mg_of I.mod.kin I.mod.glob c1
 refine XQ (E:=E) M G (hr.mono hk) hg hm hb .nil hx ha hdb hst hpl pins s σ H Q I ?_
 obtain ⟨m,ρ,h,hr1,er,p⟩:=z
 refine ⟨m,ρ,h,hr1,er,Post.bind p fun xs h1 vs m1 H1 eo p1 k1 hr1 r1 q1=>?_⟩
 clear eo
 intro x dx h1 h2 h3
 rw [D9]
 exact ZcP c1 hr1 r1 q1 x dx h1 h2 h3
end
end LS
namespace LS
open PySem PySem.Spec PyProof.Rows L2 PySem.W
structure TbOk (K:Frag) (h:Heap) (t:Str×Addr×Addr):Prop where
 tp:tabP K t.1=some (t.2.1,t.2.2)
 hd:codeHdIn K t.2.1 t.2.2=true
 at_:h.get? t.2.2=some (tabObj #[])
 no:K.lookup t.2.2=none
theorem ZcR {P:Program} {w:World} {K:Frag} {mg mb:Str→Option Value} {k:Nat} {fa a:Addr} {fd:FuncData} {x:Str} {F:List D→HD→Out D} {s₁:Shared} {vs:List Value} {ns:List Int} {ts:List (Str×Addr×Addr)}
 (KX:K.In s₁.heap) (hns:s₁.heap.Ns mainGlobals mg) (hb:s₁.heap.Ns builtinsNs mb) (hbb:∀x:Str,x≠"__name__"→mb x=bootBuiltins x) (hlim:s₁.heap.NoLimit) (hg:s₁.gens=#[]) (hbm:He mg s₁.heap)
 (ha:s₁.heap.get? a=some {cls:=.type "list",data:=.seq vs.toArray}) (hi:IntsAre vs ns) (hl:ns.length≤sizeLine) (hr:Room k callerA)
 (ht:∀t∈ts,TbOk K s₁.heap t) (nd:(ts.map (·.2.2)).Nodup)
 (FF:∀base:Heap,K.In base→base.Ns mainGlobals mg→He mg base→FnOk P w K mg base (AO P w K) k fa fd [x] (Dy K F)) (hbind:∀(s:Shared) (u:Value),BindsTo s fd ⟨[u],[]⟩ [(x,u)])
 (hF:∃h',F [.scr ns] (ts.map fun t=>.tabn t.1)=.ok (.bl true) h'):
 codeAny (model P w) callerA (.call (.ref fa) ⟨[.ref a],[]⟩) (fun r s'=>r=.ok (.ret (.bool true))∧OldK s₁.heap s'.heap∧s'.os=s₁.os∧AllBare s'.gens) s₁:=by
 have rv:=L2.vals_ints hi
 have lenV:=hi.length
 obtain ⟨Ts,hTs⟩:∃Ts,Ts=ts.map (·.2.2):=⟨_,rfl⟩
 rw [←hTs] at nd
 have inT:∀b,b∈Ts→∃t∈ts,b=t.2.2∧TbOk K s₁.heap t:=fun b hb=>by
  rw [hTs] at hb
  obtain ⟨t,h1,rfl⟩:=qaL.mp hb
  exact ⟨t,h1,rfl,ht t h1⟩
 have atT:∀b,b∈Ts→s₁.heap.get? b=some (tabObj #[])∧K.lookup b=none:=fun b hb=>by
  obtain ⟨t,_,rfl,q⟩:=inT b hb
  exact ⟨q.at_,q.no⟩
 have aT:a∉Ts:=fun z=>by
  have:=(atT a z).1
  rw [this] at ha;cases ha
 have core:∀H:Hp,(∀b,b∈Ts∨H b=none∨∃o xs,H b=some (.frz o (.lst xs)))→(∀b∈Ts,H b=some (.tbl #[]))→FzL K H a (ns.map V.int)→HOk P w H s₁.heap→(∀b,H b≠none→b=a∨b∈Ts)→(H a≠none→K.lookup a=none)→
  codeAny (model P w) callerA (.call (.ref fa) ⟨[.ref a],[]⟩) (fun r s'=>r=.ok (.ret (.bool true))∧OldK s₁.heap s'.heap∧s'.os=s₁.os∧AllBare s'.gens) s₁:=by
  intro H hO hHT hS hok hA hK
  have base_of:∀{b:Addr} {o:Obj},s₁.heap.get? b=some o→H b=none→(Eb s₁.heap H).get? b=some o:=fun e n=>VV e n
  have noA:∀{b:Addr} {o:Obj},s₁.heap.get? b=some o→(∀its n,o.data≠.seq its n)→(∀ws,o.data≠.fields ws)→H b=none:=fun {b o} e d1 d2=>by
   cases q:H b with
   |none=>rfl
   |some u=>
    rcases hA b (by rw [q];simp) with e' |e'
    ·subst e'
     rw [ha] at e;cases e
     exact absurd rfl (d1 _ _)
    ·rw [(atT b e').1] at e;cases e
     exact absurd rfl (d2 _)
  have nsK:∀{b:Addr} {m:Str→Option Value},s₁.heap.Ns b m→(Eb s₁.heap H).Ns b m:=fun {b m} ⟨o,es,ep,e,d,r⟩=>⟨o,es,ep,base_of e (noA e (fun _ _ z=>by rw [d] at z;cases z) (fun _ z=>by rw [d] at z;cases z)),d,r⟩
  have hKb:K.In (Eb s₁.heap H):=fun b o e=>base_of (KX b o e) (by
   cases q:H b with
   |none=>rfl
   |some u=>
    rcases hA b (by rw [q];simp) with e' |e'
    ·subst e'
     rw [hK (by rw [q];simp)] at e;cases e
    ·rw [(atT b e').2] at e;cases e)
  have hM:Mod K mg (Eb s₁.heap H):=⟨hKb,nsK hns,⟨mb,nsK hb,hbb⟩,let ⟨mc,h1,h2⟩:=hlim;⟨mc,nsK h1,h2⟩⟩
  have e0:Env0 P w K mg (Eb s₁.heap H) callerA [] s₁ H:=⟨rfl,hM,fun b o e=>VW e,Nat.le_of_eq (VU _ _),trivial,fun b hb=>absurd (show b∈([]:List Addr) from hb) (by simp),hok,.of_eq hg⟩
  have hBM:He mg (Eb s₁.heap H):=by
   obtain ⟨bm,o,h1,h2,h3,h4,h5,h6⟩:=hbm
   exact ⟨bm,o,h1,h2,base_of h3 (noA h3 (fun _ _ z=>by rw [h6] at z;cases z) (fun _ z=>by rw [h6] at z;cases z)),h4,h5,h6⟩
  have hsp:Dy K F [.ref a] H (fun v _=>v=.bl true) fun _ _ _=>False:=by
   obtain ⟨h',e⟩:=hF
   refine ⟨Ts,[.scr ns],ts.map fun t=>.tabn t.1,⟨by rw [hTs,CC,CC],nd,fun l cc b e1 e2=>?_⟩,.cons (by simp only [DV];exact ⟨a,rfl,hS⟩) .nil,?_⟩
   ·rw [Bv] at e1
    rw [hTs,Bv] at e2
    cases q:ts[l]? with
    |none=>rw [q] at e1;cases e1
    |some t=>
     rw [q] at e1 e2
     cases e1
     cases e2
     have hm:t∈ts:=E8 q
     exact ⟨⟨t.2.1,(ht t hm).tp⟩,#[],hHT _ (by rw [hTs];exact qaL.mpr ⟨t,hm,rfl⟩),trivial,fun pos cv z=>by simp [codeAmong] at z⟩
   ·rw [e]
    intro v m' H' _ _ _ r
    simpa [rD,DV] using r
  refine codeAny_mono ((FF _ hKb (nsK hns) hBM).run callerA [] s₁ H ⟨[.ref a],[]⟩ [.ref a] [.ref a] _ _ hr e0 (hbind s₁ (.ref a)) (.cons rfl .nil) hsp) fun r s' h=>?_
  cases r with
  |error e=>
   obtain ⟨_,_,_,_,_,_,_,_,_,_,_,_,q⟩:=h
   exact q.elim
  |ok fl=>
   cases fl with
   |next=>exact False.elim h
   |brk=>exact False.elim h
   |cont=>exact False.elim h
   |ret u=>
    obtain ⟨v,H',os,bare,un,hok',r',q⟩:=h
    have q':v=.bl true:=q
    subst q'
    obtain rfl:u=Value.bool true:=r'
    have keepO:∀b o,b∉Ts→s₁.heap.get? b=some o→s'.heap.get? b=some o:=fun b o hbT e=>by
     cases q:H b with
     |none=>exact un.keep b o e q (by intro z;exact absurd (show b∈([]:List Addr) from z) (by simp)) (by simp)
     |some u=>
      rcases hO b with z |z |⟨ob,xs,z⟩
      ·exact absurd z hbT
      ·rw [q] at z;cases z
      ·have z2:=un.frzs b ob _ z
       obtain ⟨e1,_⟩:=hok b _ z
       obtain ⟨e2,_⟩:=hok' b _ z2
       rw [e] at e1;cases e1
       exact e2
    have T2:∀b,b∈Ts→∃more,s'.heap.get? b=some (tabObj (#[]++more)):=fun b hb=>by
     obtain ⟨more,hT'⟩:=un.tbls b _ (hHT b hb)
     exact ⟨more,hok' b _ hT'⟩
    refine ⟨rfl,⟨fun b o e=>?_,fun b o e=>?_⟩,os,bare⟩
    ·by_cases hbT:b∈Ts
     ·obtain ⟨more,hT2⟩:=T2 b hbT
      obtain ⟨t,_,rfl,q⟩:=inT b hbT
      rw [q.at_] at e
      cases e
      exact .inr (.inl ⟨((codeHd_of_K KX q.hd).tab q.at_).isCodeTable,rfl,#[],more,rfl,hT2⟩)
     ·exact .inl (keepO b o hbT e)
    ·by_cases hbT:b∈Ts
     ·obtain ⟨more,hT2⟩:=T2 b hbT
      exact ⟨_,hT2⟩
     ·exact ⟨o,keepO b o hbT e⟩
 cases hk:K.lookup a with
 |some o=>
  have e:=KX a o hk
  rw [ha] at e
  cases e
  refine core (fun b=>if b∈Ts then some (.tbl #[]) else none) (fun b=>?_) (fun b hb=>if_pos hb) (.inr (.inr ⟨_,vs.toArray,_,hk,rfl,rfl,rfl,by rw [AW,lenV];exact hl,by simpa using rv⟩)) (fun b u z=>?_) (fun b z=>?_) fun z=>absurd (if_neg aT) z
  ·by_cases hb:b∈Ts
   ·exact .inl hb
   ·exact .inr (.inl (if_neg hb))
  ·by_cases hb:b∈Ts
   ·have z':=(if_pos hb).symm.trans z
    cases z'
    exact (atT b hb).1
   ·have z':=(if_neg hb).symm.trans z
    cases z'
  ·by_cases hb:b∈Ts
   ·exact .inr hb
   ·exact absurd (if_neg hb) z
 |none=>
  refine core (fun b=>if b∈Ts then some (.tbl #[]) else if b=a then some (.frz {cls:=.type "list",data:=.seq vs.toArray} (.lst (ns.map V.int))) else none) (fun b=>?_) (fun b hb=>if_pos hb) (.inl ⟨{cls:=.type "list",data:=.seq vs.toArray},(if_neg aT).trans (if_pos rfl)⟩) (fun b u z=>?_) (fun b z=>?_) fun _=>hk
  ·by_cases hb:b∈Ts
   ·exact .inl hb
   ·by_cases hba:b=a
    ·exact .inr (.inr ⟨_,_,(if_neg hb).trans (if_pos hba)⟩)
    ·exact .inr (.inl ((if_neg hb).trans (if_neg hba)))
  ·by_cases hb:b∈Ts
   ·have z':=(if_pos hb).symm.trans z
    cases z'
    exact (atT b hb).1
   ·have z1:=(if_neg hb).symm.trans z
    by_cases hba:b=a
    ·have z':=(if_pos hba).symm.trans z1
     cases z'
     subst hba
     exact ⟨ha,by rw [CC];exact hl,vs,_,rv,ha⟩
    ·have z':=(if_neg hba).symm.trans z1
     cases z'
  ·by_cases hb:b∈Ts
   ·exact .inr hb
   ·by_cases hba:b=a
    ·exact .inl hba
    ·exact absurd ((if_neg hb).trans (if_neg hba)) z
end LS
namespace Tp
open PySem PySem.W PySem.Spec PySem.Calls PyProof.Rows
abbrev Ol (n m:Str) (st:Stmt):FuncData:=fnOf m (n++(".":Str)++m) (L2.defArgs st) (L2.defBody st) (L2.defScope st) .none .none .none .none none .none .none
def Om (K:Frag) (n m:Str):Option (FuncData×Bool×Bool×Bool):=match nsIn K mainGlobals n with
 |some (some (.ref C))=>(match findIn K (.ref C) m with
  |some (some (.ref f))=>(match K.lookup f with
   |some ⟨_,_,.func fd,_⟩=>some (blank fd,codeIn K fd.code (n++(".":Str)++m),isFn K (.ref f),keepIn K (.ref f))
   |_=>none)
  |_=>none)
 |_=>none
inductive SeenM (K:Frag) (n m:Str) (st:Stmt):Prop where
 |mk (C f:Addr) (od an:Option Addr) (sl:Array (Option Value)) (oc kV dc pm cd ct:Value) (a:nsIn K mainGlobals n=some (some (.ref C))) (b:findIn K (.ref C) m=some (some (.ref f)))
  (l:K.lookup f=some ⟨oc,od,.func (fnOf m (n++(".":Str)++m) (L2.defArgs st) (L2.defBody st) (L2.defScope st) .none kV dc pm an cd ct),sl⟩) (c:codeIn K cd (n++(".":Str)++m)=true) (fn:isFn K (.ref f)=true) (k:keepIn K (.ref f)=true):SeenM K n m st
theorem ZcS {K:Frag} {n m:Str} {st:Stmt} (e:Om K n m=some (Ol n m st,true,true,true)):SeenM K n m st:=by
 unfold Om at e
 split at e
 ·rename_i C hC
  split at e
  ·rename_i f hf
   split at e
   ·rename_i oc od fd sl hl
    obtain ⟨e1,e2⟩:=Prod.mk.inj (Option.some.inj e)
    obtain ⟨e3,e4⟩:=Prod.mk.inj e2
    obtain ⟨e4,e5⟩:=Prod.mk.inj e4
    obtain ⟨x1,x2,x3,x4,x5,x6,x7,x8,x9,x10,x11,x12,x13,x14,x15⟩:=fd
    replace e1:FuncData.mk x1 x2 x3 x4 x5 x6 x7 x8 .none .none .none none .none .none x15=Ol n m st:=e1
    injection e1 with y1 y2 y3 y4 y5 y6 y7 y8 y9 y10 y11 y12 y13 y14 y15
    subst x1 x2 x3 x4 x5 x6 x7 x8 x15
    exact ⟨C,f,od,x12,sl,oc,x9,x10,x11,x13,x14,hC,hf,hl,e3,e4,e5⟩
   ·cases e
  ·cases e
 ·cases e
def SV (K:Frag) (C:Addr) (f:Str):Bool:=match findIn K (.ref C) f with
 |some none=>true
 |_=>false
def On (K:Frag) (n:Str) (fs:List Str):Bool:=match nsIn K mainGlobals n with
 |some (some (.ref C))=>plainGet K C Str.empty&&hasDictIn K C&&plainOver K C&&(match findIn K (.ref C) "__setattr__" with
  |some (some (.builtin id))=>id=="object.__setattr__"
  |_=>false)&&makesIn K C&&keepIn K (.ref C)&&fs.all (SV K C)
 |_=>false
inductive SeenC (K:Frag) (n:Str) (fs:List Str):Prop where
 |mk (C:Addr) (a:nsIn K mainGlobals n=some (some (.ref C))) (c:L2.Cls K C) (m:makesIn K C=true) (k:keepIn K (.ref C)=true) (f:∀f∈fs,L2.NoAttr K C f):SeenC K n fs
theorem ZcT {K:Frag} {n:Str} {fs:List Str} (e:On K n fs=true):SeenC K n fs:=by
 unfold On at e
 split at e
 ·rename_i C hC
  simp only [CI] at e
  obtain ⟨⟨⟨⟨⟨⟨e1,e2⟩,e3⟩,e4⟩,e5⟩,e6⟩,e7⟩:=e
  refine ⟨C,hC,⟨e1,e2,e3,?_⟩,e5,e6,fun f hf=>?_⟩
  ·split at e4
   ·rename_i id h
    rw [h,beq_iff_eq.mp e4]
   ·cases e4
  ·have:=qaN.mp e7 f hf
   unfold SV at this
   split at this
   ·assumption
   ·cases this
 ·cases e
def Oo (K:Frag) (h:Heap) (g:Str):Option (Option Obj×Bool×Bool):=match LS.tabP K g with
 |some (c,T)=>some (h.get? T,codeHdIn K c T,(K.lookup T).isNone)
 |none=>none
def tbAt (K:Frag) (g:Str):Addr×Addr:=(LS.tabP K g).getD (0,0)
def tbsOf (K:Frag) (gs:List Str):List (Str×Addr×Addr):=gs.map fun g=>(g,tbAt K g)
def Oq:List Addr→Bool
 |[]=>true
 |a::l=>!(l.contains a)&&Oq l
theorem SW:∀{l:List Addr},Oq l=true→l.Nodup
 |[],_=>List.nodup_nil
 |a::l,h=>by
  obtain ⟨h1,h2⟩:=Bool.and_eq_true_iff.mp h
  refine qbM.mpr ⟨fun z=>?_,SW h2⟩
  have:l.contains a=true:=List.contains_iff_mem.mpr z
  rw [this] at h1;cases h1
structure WantZ where
 w:Want
 ms:List (Str×Str×Stmt)
 cl:List (Str×List Str)
 gs:List Str
 ss:List (Str×Str)
abbrev SY:=(List (Option (FuncData×Bool×Bool))×List (Option Int)×List (Option (Option Value))×Bool)×List (Option (FuncData×Bool×Bool×Bool))×List Bool×List (Option (Option Obj×Bool×Bool))×Bool×Bool
noncomputable def obsZ (W:WantZ) (s:Shared):SY:=fL (Hg s.heap) fun K=>
 ((W.w.fs.map fun x=>Gk K x.1,W.w.cs.map fun x=>Gm K x.1,W.w.bs.map (nsIn K mainGlobals),LS.etOk K),W.ms.map fun x=>Om K x.1 x.2.1,W.cl.map fun x=>On K x.1 x.2,W.gs.map fun g=>Oo K s.heap g,Oq (W.gs.map fun g=>(tbAt K g).2),Oj K W.ss)
def valZ (W:WantZ):SY:=((W.w.fs.map fun x=>some (IE x.1 x.2,true,true),W.w.cs.map fun x=>some x.2,W.w.bs.map fun _=>some none,true),W.ms.map fun x=>some (Ol x.1 x.2.1 x.2.2,true,true,true),W.cl.map fun _=>true,W.gs.map fun _=>some (some (tabObj #[]),true,true),true,true)
structure HasZ (W:WantZ) (K:Frag):Prop where
 fs:∀(i:Nat) n st,W.w.fs[i]?=some (n,st)→SeenF K n st
 cs:∀(i:Nat) n v,W.w.cs[i]?=some (n,v)→∃t,nsIn K mainGlobals n=some (some (.int v t))
 bs:∀(i:Nat) n,W.w.bs[i]?=some n→nsIn K mainGlobals n=some none
 et:LS.etOk K=true
 ms:∀(i:Nat) n m st,W.ms[i]?=some (n,m,st)→SeenM K n m st
 cl:∀(i:Nat) n fs,W.cl[i]?=some (n,fs)→SeenC K n fs
 tb:∀(i:Nat) g,W.gs[i]?=some g→LS.tabP K g=some (tbAt K g)∧codeHdIn K (tbAt K g).1 (tbAt K g).2=true
 ss:Oj K W.ss=true
def SaysZ (W:WantZ) (_:World) (h:Heap):Prop:=∃K:Frag,K.In h∧HasZ W K∧(∀t∈tbsOf K W.gs,LS.TbOk K h t)∧((tbsOf K W.gs).map (·.2.2)).Nodup
theorem SaysZ.keeps {W:WantZ} (w:World) (h h':Heap) (x:SaysZ W w h) (k:∀b o,h.get? b=some o→h'.get? b=some o):SaysZ W w h':=by
 obtain ⟨K,h1,h2,h3,h4⟩:=x
 exact ⟨K,h1.keeps k,h2,fun t ht=>let q:=h3 t ht;⟨q.tp,q.hd,k _ _ q.at_,q.no⟩,h4⟩
theorem SZ {K:Frag} {h:Heap} {g:Str} (e:Oo K h g=some (some (tabObj #[]),true,true)):LS.TbOk K h (g,tbAt K g):=by
 unfold Oo at e
 split at e
 ·rename_i c T hT
  obtain ⟨a1,a2⟩:=Prod.mk.inj (Option.some.inj e)
  obtain ⟨a2,a3⟩:=Prod.mk.inj a2
  have:tbAt K g=(c,T):=by unfold tbAt;rw [hT];rfl
  refine ⟨?_,?_,?_,?_⟩
  ·rw [this];exact hT
  ·rw [this];exact a2
  ·rw [this];exact a1
  ·rw [this];exact Option.isNone_iff_eq_none.mp a3
 ·cases e
theorem saysZ_of {W:WantZ} (w:World) (s:Shared) (e:obsZ W s=valZ W):SaysZ W w s.heap:=by
 unfold obsZ valZ at e
 rw [ID] at e
 obtain ⟨e0,e⟩:=Prod.mk.inj e
 obtain ⟨e1,e0⟩:=Prod.mk.inj e0
 obtain ⟨e2,e0⟩:=Prod.mk.inj e0
 obtain ⟨e3,e4⟩:=Prod.mk.inj e0
 obtain ⟨e5,e⟩:=Prod.mk.inj e
 obtain ⟨e6,e⟩:=Prod.mk.inj e
 obtain ⟨e7,e⟩:=Prod.mk.inj e
 obtain ⟨e8,e9⟩:=Prod.mk.inj e
 refine ⟨_,Zb7 _,⟨fun i n st h=>Zb8 (Gn e1 h),fun i n v h=>Zb9 (Gn e2 h),fun i n h=>Gn e3 h,e4,fun i n m st h=>ZcS (Gn (x:=(n,m,st)) e5 h),fun i n fs h=>ZcT (Gn (x:=(n,fs)) e6 h),fun i g h=>?_,e9⟩,fun t ht=>?_,?_⟩
 ·have q:=SZ (Gn e7 h)
  exact ⟨q.tp,q.hd⟩
 ·obtain ⟨g,hg,rfl⟩:=qaL.mp ht
  obtain ⟨i,hi,rfl⟩:=Gz hg
  exact SZ (Gn e7 (A2 hi))
 ·have:=SW e8
  unfold tbsOf
  rw [DM]
  exact this
end Tp
namespace LS
open PySem PySem.W PySem.Spec PySem.Calls PyProof.Rows L2
theorem walk_hdZ {l:OpenLaw} {n k:Nat} {q:Program} {loose:List Str} {XP:(Str→Option Value)→Heap→Prop} {W:Tp.WantZ} {d:DefRec} {x:Str} {F:List D→HD→Out D}
 (hn:l.most=some n) (hn2:n≤sizeLine) (hdf:d.params.defaults=[]) (hr:Room k callerA)
 (Fn:∀(w:World) (K:Frag) (mg:Str→Option Value) (fa:Addr) (h:Heap),Tp.HasZ W K→K.In h→h.Ns mainGlobals mg→mg d.name=some (.ref fa)→
  ∃fd:FuncData,(∀(s:Shared) (u:Value),BindsTo s fd ⟨[u],[]⟩ [(x,u)])∧
   ∀base:Heap,K.In base→base.Ns mainGlobals mg→He mg base→FnOk l.prog w K mg base (AO l.prog w K) k fa fd [x] (Dy K F))
 (hF:∀ns:List Int,ns.length≤n→(∀i∈ns,Builtin.Int.intBits i≤2^20)→∃h',F [.scr ns] (W.gs.map fun g=>.tabn g)=.ok (.bl true) h'):
 WalkO q loose XP (Tp.SaysZ W) l.row.toRowW d [] (fun f vs=>PySem.call f vs):=by
 refine Att.attach_bits hn hdf fun w s₀ s₁ mg mb fa o pm cd doc a vs ns hbits G Y ho hd hcd' hmg hobj hints hlen hg=>?_
 obtain ⟨K,KX,HS,h3,h4⟩:=Y
 obtain ⟨fd,hb,hF'⟩:=Fn w K mg fa _ HS KX G.T.g hmg
 obtain ⟨bm,ob,b1,b2,b3,b4,b5,b6⟩:=G.T.bmain
 have hF2:=hF ns hlen hbits
 have e:(W.gs.map fun g=>Cell.tabn g)=((Tp.tbsOf K W.gs).map fun t=>Cell.tabn t.1):=by unfold Tp.tbsOf;rw [DM];rfl
 rw [e] at hF2
 exact ZcR KX G.T.g G.T.b G.T.builtins G.T.nolimit hg ⟨bm,ob,b1,b2,b3,b4,b5,b6⟩ hobj hints (BW hlen hn2) hr h3 h4 hF' hb hF2
end LS
namespace LS
open PySem PySem.Spec PyProof.Rows L2 PySem.W PySem.Calls
def Ez:Stmt→Nat→Stmt
 |.ClassDef _ _ _ body _ _ _ _ _ _ _,j=>body.getD j (.Pass ⟨0,0,0,0⟩)
 |_,_=>.Pass ⟨0,0,0,0⟩
section
variable {P:Program} {w:World} {K:Frag} {mg:Str→Option Value} {base h:Heap} {n m:Str} {st:Stmt} {N ps:List Str} {k:Nat} {g:MS}
theorem EZ {fl:List Str} (S:Tp.SeenM K n m st) (Sc:Tp.SeenC K n fl)
 (b:N.Nodup→∀(f:Addr) (cdv:Value) (A:Around) (outer:List Env) (s:Shared) (H:Hp) (E:XK),Room k (A.deeper (envOfC (n++(".":Str)++m) (defScope st) s.heap.objs.size f cdv))→Cn (Bx (AO P w K) P w K mg base N (n++(".":Str)++m) (defScope st) f cdv A outer s H E) E (defBody st) g)
 (bd:∀(kV doc pm:Value) (an:Option Addr) (cdv ct:Value) (us:List Value),us.length=ps.length→bindArgs (PySem.W.fnOf m (n++(".":Str)++m) (defArgs st) (defBody st) (defScope st) .none kV doc pm an cdv ct) ⟨us,[]⟩=pure (ps.zip us):=by
  intro _ _ _ _ _ _ us hl;rcases us with _ |⟨_,_ |⟨_,_ |⟨_,_ |⟨_,_⟩⟩⟩⟩<;>first |rfl |exact absurd hl (by simp)) (sc:CQ N ps (defScope st):=by exact ⟨rfl,rfl,rfl,by decide +kernel,rfl,by decide +kernel,by decide +kernel⟩):BF P w K mg base n m (k+1) (AF ps.length N.length g):=by
 obtain ⟨C,f,od,an,sl,oc,kV,dc,pm,cd,ct,a,bf,l,c,fn,kp⟩:=S
 obtain ⟨C',a',c1,_,_,_⟩:=Sc
 rw [a] at a'
 cases a'
 have F:=HP l c kp
 exact ⟨C,f,_,ps,a,c1,⟨bf,fn,kp⟩,Nv F sc (fun ds h e=>if_neg e) (fun ds h e=>if_pos e) (fun cdv A outer s H E hr=>b sc.nd f cdv A outer s H E hr),F.binds bd⟩
theorem ZcU {fl:List Str} (S:Tp.SeenM K n "__init__" st) (Sc:Tp.SeenC K n fl)
 (b:N.Nodup→∀(f:Addr) (cdv:Value) (A:Around) (outer:List Env) (s:Shared) (H:Hp) (E:XK),Room k (A.deeper (envOfC (n++(".":Str)++"__init__") (defScope st) s.heap.objs.size f cdv))→Cn (Bx (AO P w K) P w K mg base N (n++(".":Str)++"__init__") (defScope st) f cdv A outer s H E) E (defBody st) g)
 (bd:∀(kV doc pm:Value) (an:Option Addr) (cdv ct:Value) (us:List Value),us.length=ps.length→bindArgs (PySem.W.fnOf "__init__" (n++(".":Str)++"__init__") (defArgs st) (defBody st) (defScope st) .none kV doc pm an cdv ct) ⟨us,[]⟩=pure (ps.zip us):=by
  intro _ _ _ _ _ _ us hl;rcases us with _ |⟨_,_ |⟨_,_ |⟨_,_ |⟨_,_⟩⟩⟩⟩<;>first |rfl |exact absurd hl (by simp)) (sc:CQ N ps (defScope st):=by exact ⟨rfl,rfl,rfl,by decide +kernel,rfl,by decide +kernel,by decide +kernel⟩):KN P w K mg base n (k+1) (AF ps.length N.length g):=by
 obtain ⟨C,f,od,an,sl,oc,kV,dc,pm,cd,ct,a,bf,l,c,fn,kp⟩:=S
 obtain ⟨C',a',c1,c2,c3,_⟩:=Sc
 rw [a] at a'
 cases a'
 have F:=HP l c kp
 exact ⟨C,f,_,ps,a,⟨c2,bf,fn,c3⟩,Nv F sc (fun ds h e=>if_neg e) (fun ds h e=>if_pos e) (fun cdv A outer s H E hr=>b sc.nd f cdv A outer s H E hr),F.binds bd⟩
theorem CU {fl:List Str} (Sc:Tp.SeenC K n fl):IK K n fl:=by
 obtain ⟨C,a,c,_,_,f⟩:=Sc
 exact ⟨C,a,c,f⟩
theorem tab_cdG {x:Str} {c T f:Addr} {oc kV dc pm cd ct:Value} {od an:Option Addr} {sl:Array (Option Value)} {st:Stmt} (h:tabP K x=some (c,T)) (a:nsIn K mainGlobals x=some (some (.ref f)))
 (l:K.lookup f=some ⟨oc,od,.func (fnOf x x (L2.defArgs st) (L2.defBody st) (L2.defScope st) .none kV dc pm an cd ct),sl⟩):cd=.ref c:=by
 unfold LS.tabP at h
 rw [a] at h
 dsimp only at h
 rw [l] at h
 dsimp only at h
 split at h
 ·split at h
  ·split at h
   ·cases h;rfl
   ·cases h
  ·cases h
 ·cases h
theorem mkL {x:Str} {c T:Addr} (S:Tp.SeenF K x st) (X:K.In h) (G:h.Ns mainGlobals mg) (tb:tabP K x=some (c,T))
 (b:N.Nodup→∀(f:Addr) (A:Around) (outer:List Env) (s:Shared) (H:Hp) (E:XK),Room k (A.deeper (envOfC x (defScope st) s.heap.objs.size f (.ref c)))→Cn (Bx (AO P w K) P w K mg base N x (defScope st) f (.ref c) A outer s H E) E (defBody st) g)
 (bd:∀(kV doc pm:Value) (an:Option Addr) (cdv ct:Value) (us:List Value),us.length=ps.length→bindArgs (PySem.W.fnOf x x (defArgs st) (defBody st) (defScope st) .none kV doc pm an cdv ct) ⟨us,[]⟩=pure (ps.zip us):=by
  intro _ _ _ _ _ _ us hl;rcases us with _ |⟨_,_ |⟨_,_ |⟨_,_ |⟨_,_⟩⟩⟩⟩<;>first |rfl |exact absurd hl (by simp)) (sc:CQ N ps (defScope st):=by exact ⟨rfl,rfl,rfl,by decide +kernel,rfl,by decide +kernel,by decide +kernel⟩):CaE P w K mg base x (k+1) (AF ps.length N.length g):=by
 obtain ⟨f,od,an,sl,oc,kV,dc,pm,cd,ct,a,l,cc,kp⟩:=S
 cases tab_cdG tb a l
 have F:=HP l cc kp
 exact ⟨f,_,ps,RI l cc sc (fun ds h e=>if_neg e) (fun ds h e=>if_pos e) (fun A outer s H E hr=>b sc.nd f A outer s H E hr),F.binds bd,PySem.W.mg_of X G a,kp⟩
end
section
variable {prog:Program} {w:World} {A:Around} {E:Value→Shared→Prop} {s:Shared}
theorem S4 {it t:Addr} {items:Array Value} (hne:t≠it):∀(n i:Nat) (s:Shared) (Q:List Value→Shared→Prop),s.heap.IsListIter it t i→s.heap.IsList t items→i+n≤items.size→
 (∀h',h'.IsListIter it t (i+n)→Heap.SameBut it s.heap h'→Q ((items.toList.drop i).take n) {s with heap:=h'})→wpAny (model prog w) A (draw (.ref it) n) Q E s
 |0,i,s,Q,hit,_,_,hQ=>by
  show wpAny _ _ (pure []) Q E s
  exact wpAny_pure (by simpa using hQ s.heap hit (Heap.SameBut.refl ..))
 |n+1,i,s,Q,hit,ht,hle,hQ=>by
  have hlt:i<items.size:=by omega
  show wpAny _ _ (pyNext (.ref it) >>=_) Q E s
  refine wpAny_bind (wpAny_pyNext_list_item hit ht (x:=items[i]) (by simp [hlt]) fun h₁ hit₁ hs₁=>?_)
  have ht₁:h₁.IsList t items:=by obtain ⟨o,e,r⟩:=ht;exact ⟨o,(hs₁.2 t hne).trans e,r⟩
  refine wpAny_bind (wpAny_holding (S4 hne n (i+1) _ _ hit₁ ht₁ (by omega) fun h₂ hit₂ hs₂=>wpAny_pure ?_))
  have hd:items.toList.drop i=items[i]::items.toList.drop (i+1):=by simp [Jr,hlt]
  have:=hQ h₂ (by rw [show i+(n+1)=i+1+n by omega];exact hit₂) (hs₁.trans hs₂)
  rw [hd,List.take_succ_cons] at this
  exact this
theorem ZcV {t:Addr} {items:Array Value} {Q:List Value→Shared→Prop} (hh:A.handled=none) (ht:s.heap.IsList t items)
 (hQ:∀h',Heap.ExtBut s.heap.objs.size s.heap h'→Q items.toList {s with heap:=h'}):wpAny (model prog w) A (unpackItems (.ref t) items.size none) Q E s:=by
 have hlt:t≠s.heap.objs.size:=by obtain ⟨o,ho,_⟩:=ht;exact Bo (AA ho)
 have push:∀o,(s.heap.push o).IsList t items:=fun o=>by obtain ⟨u,e,r⟩:=ht;exact ⟨u,AB _ e,r⟩
 unfold unpackItems
 refine wpAny_bind ?_
 ·unfold notIterableAtAll
  refine wpAny_bind (wpAny_specialOf ht.typeIs slot_list_iter.lookup ?_)
  refine wpAny_pure ?_
  simp only [Bu,if_false]
  refine wpAny_bind (wpAny_holding (wpAny_pyIter_list ht ?_))
  refine wpAny_bind (wpAny_holding (S4 hlt items.size 0 _ _ ⟨_,Bf _ rfl,rfl,rfl⟩ (push _) (by omega) fun h₁ hit₁ hs₁=>?_))
  have hall:List.take items.size (List.drop 0 items.toList)=items.toList:=by
   rw [List.drop_zero];exact List.take_of_length_le (by simp)
  rw [hall]
  rw [if_neg (by simp)]
  have ht₁:h₁.IsList t items:=by obtain ⟨o,e,r⟩:=push {cls:=.type "list_iterator",data:=.fields #[.ref t,.int 0 0]};exact ⟨o,(hs₁.2 t hlt).trans e,r⟩
  refine wpAny_bind (wpAny_holding (wpAny_pyNext_list_end hh hit₁ ht₁ (by simp) fun h₂ he₂=>?_))
  simp only [Option.isSome_none,Bu,if_false]
  refine wpAny_pure (hQ h₂ fun b o hb e=>he₂ b o hb (hs₁.extBut b o hb (AB _ e)))
theorem ZcW {env:Env} {elts:List Expr} {x1} {pos:Pos} {t:Addr} {items:Array Value} {Q:Unit→Shared→Prop} (hh:A.handled=none) (ht:s.heap.IsList t items)
 (hn:(assignEach elts env).length=items.size) (hstar:(assignEach elts env).findIdx? (·.1)=none)
 (h:∀h',Heap.ExtBut s.heap.objs.size s.heap h'→wpAny (model prog w) A (assignInOrder ((assignEach elts env).map (·.2)) items.toList) Q E {s with heap:=h'}):
 wpAny (model prog w) A (assign (.Tuple elts x1 pos) env (.ref t)) Q E s:=by
 rw [assign_Tuple]
 refine wpAny_bind (wpAny_standAt ?_)
 unfold unpack
 rw [hn,hstar]
 exact wpAny_bind (wpAny_holding (ZcV hh ht h))
end
section
variable {X:Cx} {E:XK}
def S6 (K:Frag) (n:Nat) (t:Ec):TG:=fun v σ H Q=>∃a xs,v=.ref a∧SqL K H a xs∧xs.length=n∧t xs σ H Q
theorem ZcX {es:List Expr} {k:Nat} {t:Ec} {n:Nat} {pos:Pos} (hc:X.calm=true) (h:HH X es t)
 (hn:(assignEach es X.env).length=n:=by rfl) (hst:(assignEach es X.env).findIdx? (·.1)=none:=by rfl):PG X (.Tuple es k pos) (S6 X.K n t):=by
 intro pins s σ H v u Q I r hw
 obtain ⟨a,xs,e1,hq,hl,hw⟩:=hw
 subst e1
 cases r
 obtain ⟨its,rv,ht,hz⟩:=I.list hq
 refine ZcW (I.ok.hd hc) ht.isList (by simp [hn,←hl,rv.length]) hst fun h' hx=>?_
 have I1:Inv X pins σ H {s with heap:=h'}:=I.kept (t':=s.toks) fun b o e=>hx b o (Bo (AA e)) e
 exact h pins _ σ H xs _ Q I1 (by simpa using rv) hw
def IP (i j:Nat) (d:D) (ρ:Ag) (h:HD):Out (Fl×Ag):=match d with
 |.loc l=>(match h[l]? with
  |some (.lst [x,y])=>.ok (.nx,(ρ.set i (some x)).set j (some y)) h
  |_=>.stuck)
 |_=>.stuck
def IQ (i j:Nat) (f:ME):MS:=fun ρ h=>(f ρ h).bind fun d h1=>IP i j d ρ h1
theorem ZcY {e:Expr} {f:ME} {i j:Nat} {x y:Str} {px py pos tpos:Pos} {kt:Nat} (he:Ev X E e f) (hg:PG X (.Tuple [.Name x px,.Name y py] kt tpos) (S6 X.K 2 (Cg (BP i) (Cg (BP j) Ed))))
 (hs:swapsWithSole [.Tuple [.Name x px,.Name y py] kt tpos] e pos.line X.env=pure false:=by rfl) (hw:swappedStores [.Tuple [.Name x px,.Name y py] kt tpos] e X.env=pure none:=by rfl)
 (h1:(assignEach [.Tuple [.Name x px,.Name y py] kt tpos] X.env).map (·.2)=[assign (.Tuple [.Name x px,.Name y py] kt tpos) X.env]:=by rfl):Ex X E (.Assign [.Tuple [.Name x px,.Name y py] kt tpos] e pos) (IQ i j f):=
 Dv (Mt he hg hs hw h1) fun Dn σ H z=>by
  obtain ⟨m,ρ,h,hr,er,p⟩:=z
  refine ⟨m,ρ,h,hr,er,PostS.bind p fun d h1 v m1 H1 eo p1 k1 hr1 r1 q1=>?_⟩
  clear eo
  unfold IP at q1
  split at q1
  ·rename_i l
   split at q1
   ·rename_i a b el
    simp only [rD,DV] at r1
    obtain ⟨p,rfl,hp⟩:=r1
    obtain ⟨vs,hv,dv⟩:=hr1.cells l _ p el hp
    simp only [DVs] at dv
    obtain ⟨v1,w1,rfl,d1,v2,w2,rfl,d2,rfl⟩:=dv
    exact ⟨p,_,rfl,SqL.of hv,rfl,v1,_,rfl,v2,_,rfl,rfl,(q1.here hr1) _ (((er.keep p1 k1).set d1).set d2)⟩
   ·exact q1.elim
  ·exact q1.elim
def E3:D→D→HD→Out D:=fun x y h=>match x,y with
 |.tup _,.tup [.int _,.int _]=>.ok (.bl true) h
 |_,_=>Ca true x y h
theorem ZcZ (hu:X.A.units+64<cLine):Bh X (compareOp .NotIn) E3:=by
 obtain ⟨r0,hr0,i0⟩:=Za (X:=X)
 have ht:OpR X (compareOp .NotIn) (fun x y H Q=>∃a b xs i j,x=.ref a∧y=.ref b∧SqT X.K H a xs∧SqT X.K H b [.int i,.int j]∧Q (.bl true) H):=by
  intro pins s σ H x y v u Q I rx ry h
  obtain ⟨a,b,xs,i,j,rfl,rfl,ha,hb,q⟩:=h
  cases rx
  cases ry
  obtain ⟨its,r,pa,_⟩:=I.tuple ha
  obtain ⟨its2,r2,pb,_⟩:=I.tuple hb
  have hu1:X.A.in1.units<cLine:=by show X.A.units+1<cLine;omega
  have any:its2.toArray.any (fun _=>false)=false:=by simp
  refine SeqAt.notIn_tupleAt (fun _=>false) pb (fun y hy=>?_) ⟨.bl true,H,I,by rw [any];rfl,q⟩
  have hy:y∈its2:=by simpa using hy
  cases r2 with
  |cons q1 q2=>
   cases q2 with
   |cons q2 q3=>
    cases q3
    rcases qa4.mp hy with rfl |hy
    ·obtain ⟨t,rfl⟩:=q1
     exact SeqAt.EqAt.int_tuple _ _ pa hu1
    ·cases qaH.mp hy
     obtain ⟨t,rfl⟩:=q2
     exact SeqAt.EqAt.int_tuple _ _ pa hu1
 refine ⟨_,ht.or hr0,fun m H h E x y v u Q hr rx ry q=>?_⟩
 unfold E3 at q
 split at q
 ·simp only [DV,DVs] at rx ry
  obtain ⟨a,vs,rfl,h1,_⟩:=rx
  obtain ⟨b,ws,rfl,h2,v1,w1,rfl,rfl,v2,w2,rfl,rfl,rfl⟩:=ry
  exact .inl ⟨a,b,vs,_,_,rfl,rfl,SqT.of h1,SqT.of h2,A3 hr q (by simp [DV])⟩
 ·exact .inr (i0 m H h E x y v u Q hr rx ry q)
end
section
variable {n mn f:Str} {g fo fv:ME} {fa:MA} {F:List D→HD→Out D} {ρ:Ag} {h:HD} {Q:D→HD→Prop} {QS:Fl×Ag→HD→Prop} {R:Str→List (Str×D)→HD→Prop} {i j:Nat}
@[simp] theorem Zi4:Wp (BU n g f ρ h) Q=Wp (g ρ h) fun x h1=>Wp (FE n f x h1) Q:=by unfold BU;rw [Aq]
@[simp] theorem Zi5:We (BU n g f ρ h) Q R=We (g ρ h) (fun x h1=>We (FE n f x h1) Q R) R:=by unfold BU;rw [Cr]
@[simp] theorem Zi6:Wp (EY n fo f fv ρ h) QS=Wp (fv ρ h) fun y h1=>Wp (fo ρ h1) fun x h2=>Wp (Ew n f x y ρ h2) QS:=by unfold EY;simp only [Aq]
@[simp] theorem Zi7:We (EY n fo f fv ρ h) QS R=We (fv ρ h) (fun y h1=>We (fo ρ h1) (fun x h2=>We (Ew n f x y ρ h2) QS R) R) R:=by unfold EY;simp only [Cr]
@[simp] theorem Zi8:Wp (Ba n mn F fo fa ρ h) Q=Wp (fo ρ h) fun x h1=>Wp (Gq n mn x h1) fun x h2=>Wp (fa ρ h2) fun xs h3=>Wp (F (x::xs) h3) Q:=by unfold Ba;simp only [Aq]
@[simp] theorem Zi9:We (Ba n mn F fo fa ρ h) Q R=We (fo ρ h) (fun x h1=>We (Gq n mn x h1) (fun x h2=>We (fa ρ h2) (fun xs h3=>We (F (x::xs) h3) Q R) R) R) R:=by unfold Ba;simp only [Cr]
def Ot (l:Nat) (v:D) (h:HD):Out D:=match v with
 |.non=>.ok (.loc l) h
 |_=>.stuck
@[simp] theorem Zja {l:Nat}:Ot l .non h=.ok (.loc l) h:=rfl
@[simp] theorem Zjb:Wp (Ey n F fa ρ h) Q=Wp (fa ρ h) fun xs h1=>Wp (F (.loc h1.length::xs) (h1++[.ins n []])) fun v h2=>Wp (Ot h1.length v h2) Q:=by unfold Ey;simp only [Aq];rfl
@[simp] theorem Zjc:We (Ey n F fa ρ h) Q R=We (fa ρ h) (fun xs h1=>We (F (.loc h1.length::xs) (h1++[.ins n []])) (fun v h2=>We (Ot h1.length v h2) Q R) R) R:=by unfold Ey;simp only [Cr];rfl
@[simp] theorem Zjd:Wp (IQ i j g ρ h) QS=Wp (g ρ h) fun d h1=>Wp (IP i j d ρ h1) QS:=by unfold IQ;rw [Aq]
theorem Zc0 {l:Nat} {x y:D} (e:h[l]?=some (.lst [x,y])):IP i j (.loc l) ρ h=.ok (.nx,(ρ.set i (some x)).set j (some y)) h:=by
 unfold IP
 simp only [e]
end
end LS
set_option maxHeartbeats 0
namespace LK
open PySem PySem.Spec PyProof.Rows L2 LS
def AK (i:Nat):Stmt:=PySem.Challenge.pw_lineswitch_k61_keepers_of_boards.main.body.getD i (.Pass ⟨0,0,0,0⟩)
abbrev KO:Stmt:=AK 47
abbrev S9:Stmt:=AK 14
noncomputable abbrev Ta:MS:=Al (Fg (Ae (Bc AM) (Aa (Ab 0) (Aa (mC (.ty "int")) (Ac)))) (JX (Ae (Bc AM) (Aa (Ab 0) (Aa (mC (.ty "bool")) (Ac))))))
noncomputable def E4:List D→HD→Out D:=AF 1 1 Ta
abbrev Tb:Stmt:=AK 17
noncomputable abbrev Tc:MS:=Al (Fg (Ae (Bc AM) (Aa (Ab 0) (Aa (mC (.ty "tuple")) (Ac)))) (Fh HV HV (mC (.int 1)) (Ae (Ai AJ) (Aa (Ab 0) (Ac))) (mC (.int 8))))
noncomputable def Hl:List D→HD→Out D:=AF 1 1 Tc
abbrev Td:Stmt:=AK 27
noncomputable abbrev Te:MS:=Al (Ae (Ai Be) (Aa (AI [none,none,some 1,some 2] (Em (Aa (Ab 0) (Ac))) (BQ 0 1) (A7) (GN (Aw (Ad Bi (Ad (Ca false) (Ab 0) (Ab 2)) (Ab 3))) (Ab 1) (Ad DO (mC (.int 1)) (Ab 1)))) (Ac)))
noncomputable def KP:List D→HD→Out D:=AF 3 3 Te
abbrev Tf:Stmt:=AK 31
noncomputable abbrev Tg:MS:=Al (Ae (Ai Be) (Aa (AI [none,none] (G6 (Aa (Ab 0) (Aa (Ab 1) (Ac)))) (BQ 0 1) (A7) (Ad DO (Ad Av (Ab 0) (mC (.int 1))) (Ad Cd (mC (.int 2)) (Ab 1)))) (Ac)))
noncomputable def KQ:List D→HD→Out D:=AF 2 2 Tg
abbrev Th:Stmt:=AK 33
noncomputable abbrev Ti:MS:=Al (Ae (Ai Cw) (Aa (AI [none,some 1] (By (Ab 0)) (AV 0) (A7) (Ae (Bc Fp) (Aa (Ab 0) (Aa (Ad DO (Ab 1) (Ab 0)) (Ac))))) (Ac)))
noncomputable def Hm:List D→HD→Out D:=AF 2 2 Ti
abbrev Tj:Stmt:=AK 34
noncomputable abbrev Tn:MS:=Al (Ae (Ai Be) (Aa (AI [none,none,some 1] (Em (Aa (Ab 0) (Ac))) (BQ 0 1) (Aw (Ad GP (Ad Cd (mC (.int 2)) (Ab 1)) (Ab 2))) (Ab 0)) (Ac)))
noncomputable def KR:List D→HD→Out D:=AF 2 2 Tn
abbrev To:Stmt:=AK 38
noncomputable abbrev Tq:MS:=Af (An 3 (Ae (Ai Gi) (Aa (Ad Aj (Ab 0) (Ab 1)) (Ac)))) (Af (Ie (Ab 3) (Ab 2) (Ad DO (mC (.int 1)) (Ad Aj (Ab 3) (Ab 2)))) (Al (Ad Av (Ad Av (Ce (Ab 0) (Cq) (Cb (Ab 1))) (Am (Aa (Ae (Ai Be) (Aa (Ab 3) (Ac))) (Ac)))) (Ce (Ab 0) (Cb (Ad Av (Ab 1) (mC (.int 1)))) (Cq)))))
noncomputable def KS:List D→HD→Out D:=AF 3 4 Tq
abbrev Tr:Stmt:=Ez (AK 39) 1
noncomputable abbrev Tt:MS:=Af (AY (BS (BU "Keeper" (Ab 0) "earlier") (BU "Keeper" (Ab 0) "now"))) (EY "Keeper" (Ab 0) "now" (Ab 1))
noncomputable def FG:List D→HD→Out D:=AF 2 2 Tt
abbrev Tu:Stmt:=Ez (AK 39) 5
noncomputable abbrev Ou:MS:=Af (Ay (Bn (Bm (BU "Keeper" (Ab 0) "earlier"))) (Fy "NoRow" (Aa (mC (.str "no deed stands")) (Ac))) (AD)) (EY "Keeper" (Ab 0) "now" (Eu (BU "Keeper" (Ab 0) "earlier")))
noncomputable def CV:List D→HD→Out D:=AF 1 1 Ou
abbrev Tv:Stmt:=Ez (AK 39) 6
noncomputable abbrev Tw:MS:=Al (BU "Keeper" (Ab 0) "now")
noncomputable def IS:List D→HD→Out D:=AF 1 1 Tw
abbrev Tx:Stmt:=AK 41
noncomputable abbrev Ov:MS:=Af (Ay (Aw (Ad EL (Ab 1) (Ae (Ai AJ) (Aa (Ab 0) (Ac))))) (Al (Ad Aj (Ab 0) (Ab 1))) (AD)) (Al (Ad Av (Ad Cd (mC (.int 6151)) (Ab 1)) (mC (.int 29))))
noncomputable def KU:List D→HD→Out D:=AF 2 2 Ov
abbrev Tz:Stmt:=AK 42
noncomputable abbrev TB:MS:=Af (An 2 (Ad Av (Ad Cd (Ad Av (Ab 0) (mC (.int 1))) (mC (.int 40692))) (Ad Cd (mC (.int 104729)) (Ab 1)))) (Af (An 2 (Ad Av (Ad DP (Ad Cd (Ab 2) (Ab 2)) (mC (.int 2147483399))) (Ab 1))) (Al (Ad DP (Ad Cd (Ab 2) (Ad Av (Ab 2) (mC (.int 31)))) (mC (.int 2147483563)))))
noncomputable def KV:List D→HD→Out D:=AF 2 3 TB
abbrev TC:Stmt:=AK 44
noncomputable abbrev TF:MS:=Af (CG (BQ 2 3) (Ae (Bc HY) (Aa (Ad Aj (Ab 0) (mC (.int 0))) (Aa (Ab 1) (Ac))))) (Af (Ie (Ab 0) (mC (.int 0)) (Ab 2)) (Al (Ab 3)))
noncomputable def AZ:List D→HD→Out D:=AF 2 4 TF
abbrev TH:Stmt:=AK 46
noncomputable abbrev TJ:MS:=Af (An 1 (AN (Aa (Ae (Bc AM) (Aa (Ab 0) (Aa (mC (.glo "NoBoard")) (Ac)))) (Aa (Ae (Bc AM) (Aa (Ab 0) (Aa (mC (.glo "NoLine")) (Ac)))) (Aa (Ae (Bc AM) (Aa (Ab 0) (Aa (mC (.glo "NoSwitching")) (Ac)))) (Aa (Ae (Bc AM) (Aa (Ab 0) (Aa (mC (.glo "NoNumber")) (Ac)))) (Ac))))))) (Af (An 1 (Ad Av (Ab 1) (AN (Aa (Ae (Bc AM) (Aa (Ab 0) (Aa (mC (.glo "Unlike")) (Ac)))) (Aa (Ae (Bc AM) (Aa (Ab 0) (Aa (mC (.glo "NoNet")) (Ac)))) (Aa (Ae (Bc AM) (Aa (Ab 0) (Aa (mC (.glo "NoPlace")) (Ac)))) (Aa (Ae (Bc AM) (Aa (Ab 0) (Aa (mC (.glo "NoText")) (Ac)))) (Ac)))))))) (Af (An 1 (Ad Av (Ab 1) (AN (Aa (Ae (Bc AM) (Aa (Ab 0) (Aa (mC (.glo "NoRow")) (Ac)))) (Aa (Ae (Bc AM) (Aa (Ab 0) (Aa (mC (.glo "TooMany")) (Ac)))) (Ac)))))) (Af (Ay (B8 (Bn (Bm (Ae (Bc AM) (Aa (Ab 0) (Aa (mC (.ty "ValueError")) (Ac)))))) (Aw (Ad Br (Gf BZ Gg (Ab 1) (mC (.bl true))) (mC (.int 1))))) (Al (mC (.str "! other"))) (AD)) (Af (Ay (Bm (Ad Aj (Ab 1) (mC (.int 9)))) P7 AD) (Af (An 2 (AN (Aa (mC (.str "board")) (Aa (mC (.str "line")) (Aa (mC (.str "switching")) (Aa (mC (.str "number")) (Aa (mC (.str "unlike")) (Aa (mC (.str "net")) (Aa (mC (.str "place")) (Aa (mC (.str "text")) (Aa (mC (.str "row")) (Ac)))))))))))) (Al (Ad Av (mC (.str "! ")) (Ad Aj (Ab 2) (Gf BZ Gh (Ab 1) (mC (.bl true)))))))))))
noncomputable def Cs:List D→HD→Out D:=AF 1 3 TJ
abbrev TK:Stmt:=AK 50
noncomputable abbrev TL:MS:=Af (An 3 (AN (Ac))) (Af (BI (Em (Aa (Ab 0) (Ac))) (BQ 4 5) (Af (An 6 (AN (Ac))) (Af (BI (Em (Aa (Ab 5) (Ac))) (BQ 7 8) (AY (BS (Ab 6) (Ad DP (Ad Av (Ad Av (Ab 8) (Ae (Ai Ei) (Aa (Ad (Ca false) (Ab 4) (Ab 1)) (Ac)))) (Ae (Ai Ei) (Aa (Ad (Ca false) (Ab 7) (Ab 2)) (Ac)))) (mC (.int 2)))))) (AY (BS (Ab 3) (Ae (Ai Be) (Aa (Ab 6) (Ac)))))))) (Al (Ae (Ai Be) (Aa (Ab 3) (Ac)))))
noncomputable def EA:List D→HD→Out D:=AF 3 9 TL
abbrev TM:Stmt:=AK 51
noncomputable abbrev TN:MS:=Af (An 0 (AN (Aa (mC (.int 0)) (Ac)))) (Af (BI (Ib (Aa (mC (.int 1)) (Aa (mC (.int 256)) (Ac)))) (AV 1) (AY (BS (Ab 0) (Ad Av (Ad Aj (Ab 0) (Ad EN (Ab 1) (mC (.int 2)))) (Ad DP (Ab 1) (mC (.int 2))))))) (Al (Ab 0)))
noncomputable def IT:List D→HD→Out D:=AF 0 2 TN
abbrev TQ:Stmt:=AK 15
noncomputable abbrev Ow:MS:=Al (Fg (Ae E4 (Aa (Ab 0) (Ac))) (Fh HV HV (Ab 1) (Ab 0) (Ab 2)))
noncomputable def FH:List D→HD→Out D:=AF 3 3 Ow
abbrev TU:Stmt:=AK 24
noncomputable abbrev TV:MS:=Af (Ay (Bn (Bm (Ae (Bc AM) (Aa (Ab 0) (Aa (mC (.ty "tuple")) (Ac)))))) (Al (mC (.bl false))) (AD)) (Af (An 2 (CK (mC (.int 1)))) (Af (BI (By (Ab 0)) (AV 3) (Af (Ay (B8 (Bn (Bm (Ae E4 (Aa (Ab 3) (Ac))))) (Bn (Aw (Fh EL EL (Ab 2) (Ab 3) (Ab 1))))) (Al (mC (.bl false))) (AD)) (An 2 (Ab 3)))) (Al (mC (.bl true)))))
noncomputable def IU:List D→HD→Out D:=AF 2 4 TV
abbrev TX:Stmt:=AK 43
noncomputable abbrev TY:MS:=Af (An 2 (Ae KU (Aa (Ab 0) (Aa (Ab 1) (Ac))))) (Af (Ay (Aw (Ad Bi (Ad DP (Ab 2) (mC (.int 2))) (mC (.int 0)))) (Al (AN (Aa (Ad EN (Ab 2) (mC (.int 2))) (Ac)))) (AD)) (Af (An 3 (mC (.int 0))) (Af (BI (BY (Aa (mC (.int 24)) (Ac))) (AV 4) (An 3 (Ad Av (Ad Cd (Ab 3) (mC (.int 2147483647))) (Ae KV (Aa (Ab 2) (Aa (Ab 4) (Ac))))))) (Al (AN (Aa (Ab 3) (Ac)))))))
noncomputable def KW:List D→HD→Out D:=AF 2 5 TY
abbrev TZ:Stmt:=AK 45
noncomputable abbrev T1:MS:=Af (Fq 1 2 (Aa (Ae AZ (Aa (Ab 0) (Aa (mC (.int 2147483647)) (Ac)))) (Aa (mC (.int 0)) (Ac)))) (Af (BI (BY (Aa (mC (.int 24)) (Ac))) (AV 3) (Af (An 1 (Ad DP (Ad Av (Ad Av (Ad Cd (Ab 1) (mC (.int 48271))) (mC (.int 11))) (Ab 3)) (mC (.int 2147483647)))) (An 2 (Ad Av (Ad Cd (Ab 2) (mC (.int 2147483647))) (Ab 1))))) (Al (AN (Aa (Ab 2) (Ac)))))
noncomputable def Hn:List D→HD→Out D:=AF 1 4 T1
abbrev T3:Stmt:=AK 49
noncomputable abbrev T4:MS:=Af (CG (CT [2,3]) (Am (Aa (Ae AZ (Aa (Ab 0) (Aa (Ae (Ai AJ) (Aa (Ab 1) (Ac))) (Ac)))) (Aa (Ae AZ (Aa (Ab 0) (Aa (Ae (Ai AJ) (Aa (Ad Aj (Ab 1) (mC (.int 0))) (Ac))) (Ac)))) (Ac))))) (Af (An 4 (Ad Aj (AN (Aa (mC (.int 2)) (Aa (CK (mC (.int 1))) (Aa (mC (.bl true)) (Aa (mC (.bl false)) (Aa (mC .non) (Aa (mC (.str "0")) (Aa (Am (Aa (mC (.int 0)) (Ac))) (Aa (Ad GQ (mC (.int 10)) (mC (.int 29))) (Aa (AN (Aa (mC (.int 0)) (Ac))) (Aa (mC .edic) (Ac)))))))))))) (Ae AZ (Aa (Ab 0) (Aa (mC (.int 10)) (Ac)))))) (Af (An 5 (Ad Aj (Ab 1) (Ab 2))) (Af (An 6 (Ad Av (Ad Av (Ce (Ab 5) (Cq) (Cb (Ab 3))) (Am (Aa (Ab 4) (Ac)))) (Ce (Ab 5) (Cb (Ad Av (Ab 3) (mC (.int 1)))) (Cq)))) (Af (An 7 (AN (Aa (Ab 6) (Aa (Ab 6) (Aa (Ab 6) (Aa (Ad Av (Ab 5) (Ad Cd (Am (Aa (mC (.int 0)) (Ac))) (mC (.int 8)))) (Aa (Am (Ac)) (Aa (Ae (Ai Gi) (Aa (Ab 5) (Ac))) (Aa (mC .non) (Aa (mC (.int 1)) (Ac))))))))))) (Af (Ay (Aw (Ad GP (Ae (Ai AJ) (Aa (Ab 1) (Ac))) (mC (.int 1)))) (An 7 (Ad Av (Ab 7) (AN (Aa (Ce (Ab 5) (Cq) (Cb (CK (mC (.int 1))))) (Aa (Ad Av (Ab 5) (Am (Aa (mC (.int 0)) (Ac)))) (Ac)))))) (AD)) (Af (An 7 (AI [none,some 1,some 2] (By (Ab 7)) (AV 0) (A7) (Ad Av (Ad Av (Ce (Ab 1) (Cq) (Cb (Ab 2))) (Am (Aa (Ab 0) (Ac)))) (Ce (Ab 1) (Cb (Ad Av (Ab 2) (mC (.int 1)))) (Cq))))) (Af (An 7 (Ad Av (Ab 7) (AN (Aa (Ae (Ai Gi) (Aa (Ab 1) (Ac))) (Aa (Am (Aa (Ab 1) (Ac))) (Aa (Ad Cd (Am (Aa (Ad Aj (Ab 1) (mC (.int 0))) (Ac))) (mC (.int 9))) (Aa (Ad Av (Ab 1) (Am (Aa (Am (Ac)) (Ac)))) (Aa (Ad Aj (Ab 1) (mC (.int 0))) (Aa (mC .non) (Aa (Am (Ac)) (Aa (mC (.int 0)) (Aa (mC (.str "")) (Aa (mC .edic) (Ac)))))))))))))) (Al (Ad Aj (Ab 7) (Ae AZ (Aa (Ab 0) (Aa (Ae (Ai AJ) (Aa (Ab 7) (Ac))) (Ac)))))))))))))
noncomputable def KY:List D→HD→Out D:=AF 2 8 T4
abbrev T6:Stmt:=AK 52
noncomputable abbrev Ox:MS:=Af (CG (CT [1,2]) (Am (Aa (Ae IT (Ac)) (Aa (Ae (Ai AJ) (Aa (Ad Aj (Ab 0) (mC (.int 0))) (Ac))) (Ac))))) (Af (An 3 (AI [none] (By (Ab 0)) (AV 0) (A7) (Ae (Ai Cw) (Aa (AI [none,none] (Em (Aa (Ab 0) (Ac))) (BQ 0 1) (A7) (Ad Fj (Ab 1) (Ab 0))) (Ac))))) (Af (An 4 (AN (Ac))) (Af (BI (BY (Aa (Ad Fj (mC (.int 1)) (Ab 2)) (Ac))) (AV 5) (Af (An 6 (AI [none,some 1,some 5] (By (Ab 3)) (AV 0) (A7) (Ad Aj (Ab 1) (Ad N9 (Ab 0) (Ab 2))))) (AY (BS (Ab 4) (Ae (Ai Cw) (Aa (AI [none,some 2] (By (Ab 6)) (AV 0) (A7) (Ae (Bc Fp) (Aa (Ab 0) (Aa (Ad DO (Ab 1) (Ab 0)) (Ac))))) (Ac))))))) (Al (Ae (Ai (EW EV)) (Aa (Ab 4) (Ac)))))))
noncomputable def DU:List D→HD→Out D:=AF 1 7 Ox
abbrev T7:Stmt:=AK 53
noncomputable abbrev Oy:MS:=Af (IF 2 3 4 (Aa (Ae (Ai AJ) (Aa (Ab 1) (Ac))) (Aa (Ae (Ai AJ) (Aa (Ad Aj (Ab 1) (mC (.int 0))) (Ac))) (Aa (Ae AZ (Aa (Ab 0) (Aa (mC (.int 7)) (Ac)))) (Ac))))) (Af (Fq 5 6 (Aa (Ae AZ (Aa (Ab 0) (Aa (Ab 2) (Ac)))) (Aa (Ae AZ (Aa (Ab 0) (Aa (Ab 3) (Ac)))) (Ac)))) (Af (An 7 (Ad Aj (AN (Aa (Ab 2) (Aa (Ab 3) (Aa (CK (mC (.int 1))) (Aa (mC (.bl true)) (Aa (mC .non) (Aa (mC (.str "0")) (Aa (Am (Aa (mC (.int 0)) (Ac))) (Aa (Ad GQ (mC (.int 10)) (mC (.int 29))) (Aa (mC (.int 9)) (Aa (mC (.bl false)) (Ac)))))))))))) (Ae AZ (Aa (Ab 0) (Aa (mC (.int 10)) (Ac)))))) (Af (IQ 8 9 (Ad Aj (AN (Aa (AN (Aa (Ab 2) (Aa (Ab 3) (Ac)))) (Aa (AN (Aa (Ab 7) (Aa (Ab 7) (Ac)))) (Ac)))) (Ae (Ai Ei) (Aa (Ad E3 (Ab 7) (Am (Aa (Ab 2) (Aa (Ab 3) (Ac))))) (Ac))))) (Af (Ay (Aw (Ad Bi (Ab 4) (mC (.int 0)))) (Af (An 10 (AN (Aa (Am (Aa (mC (.str "light")) (Aa (Am (Aa (Ab 8) (Aa (Ab 6) (Ac)))) (Aa (mC .non) (Ac))))) (Aa (Am (Aa (mC (.str "light")) (Aa (Am (Aa (Ab 5) (Aa (Ab 9) (Ac)))) (Aa (mC .non) (Ac))))) (Aa (Am (Aa (mC (.str "row")) (Aa (Am (Aa (Ab 8) (Ac))) (Aa (mC .non) (Ac))))) (Ac)))))) (Al (Ad Aj (Ab 10) (Ae AZ (Aa (Ab 0) (Aa (mC (.int 3)) (Ac))))))) (AD)) (Af (Ay (Aw (Ad Bi (Ab 4) (mC (.int 1)))) (Al (Am (Aa (mC (.str "column")) (Aa (Am (Aa (Ab 9) (Ac))) (Aa (mC .non) (Ac)))))) (AD)) (Af (Ay (Aw (Ad EL (Ab 4) (mC (.int 4)))) (Af (An 11 (Ad Av (Ad Av (Ce (Ad Aj (Ab 1) (Ab 5)) (Cq) (Cb (Ab 6))) (Am (Aa (Ad DO (mC (.int 1)) (Ad Aj (Ad Aj (Ab 1) (Ab 5)) (Ab 6))) (Ac)))) (Ce (Ad Aj (Ab 1) (Ab 5)) (Cb (Ad Av (Ab 6) (mC (.int 1)))) (Cq)))) (Al (Am (Aa (mC (.str "light")) (Aa (Am (Aa (Ab 5) (Aa (Ab 6) (Ac)))) (Aa (Ad Av (Ad Av (Ce (Ab 1) (Cq) (Cb (Ab 5))) (Am (Aa (Ab 11) (Ac)))) (Ce (Ab 1) (Cb (Ad Av (Ab 5) (mC (.int 1)))) (Cq))) (Ac))))))) (AD)) (Af (Ay (Aw (Ad EL (Ab 4) (mC (.int 6)))) (Al (Am (Aa (mC (.str "row")) (Aa (Am (Aa (Ab 5) (Ac))) (Aa (Ae EA (Aa (Ab 1) (Aa (Am (Aa (Ab 5) (Ac))) (Aa (Am (Ac)) (Ac))))) (Ac)))))) (AD)) (Al (Am (Aa (mC (.str "column")) (Aa (Am (Aa (Ab 6) (Ac))) (Aa (Ae EA (Aa (Ab 1) (Aa (Am (Ac)) (Aa (Am (Aa (Ab 6) (Ac))) (Ac))))) (Ac)))))))))))))
noncomputable def IV:List D→HD→Out D:=AF 2 12 Oy
abbrev T8:Stmt:=AK 16
noncomputable abbrev T9:MS:=Al (Ae FH (Aa (Ab 0) (Aa (mC (.int 0)) (Aa (mC (.int 1)) (Ac)))))
noncomputable def KZ:List D→HD→Out D:=AF 1 1 T9
abbrev Ua:Stmt:=AK 21
noncomputable abbrev Oz:MS:=Ay (Bn (Bm (Ae FH (Aa (Ab 0) (Aa (mC (.int 0)) (Aa (Ad DO (Ab 1) (mC (.int 1))) (Ac))))))) (Fy "NoLine" (Aa (mC (.str "the board has no such line")) (Ac))) (AD)
noncomputable def DW:List D→HD→Out D:=AF 2 2 Oz
abbrev Ub:Stmt:=AK 48
noncomputable abbrev Uc:MS:=Af (An 3 (Ae AZ (Aa (Ab 0) (Aa (mC (.int 5)) (Ac))))) (Af (An 4 (Ae Hn (Aa (Ab 0) (Ac)))) (Af (An 5 (Ad Aj (AN (Aa (mC (.int 3)) (Aa (mC (.int 1)) (Aa (mC (.int 5)) (Aa (mC (.int 3)) (Aa (mC (.int 2)) (Ac))))))) (Ab 3))) (Af (An 6 (AN (Ac))) (Af (BI (BY (Aa (Ab 1) (Ac))) (AV 7) (AY (BS (Ab 6) (Ae (Ai Be) (Aa (AI [none,some 4,some 5] (BY (Aa (Ab 2) (Ac))) (AV 0) (A7) (Ae (Ai Ei) (Aa (Ad EL (Ae AZ (Aa (Ab 1) (Aa (mC (.int 6)) (Ac)))) (Ab 2)) (Ac)))) (Ac)))))) (Af (Ay (Aw (Ad Bi (Ab 3) (mC (.int 3)))) (An 6 (Ad Cd (AN (Aa (Ad Aj (Ab 6) (mC (.int 0))) (Ac))) (Ab 1))) (AD)) (Al (Ae (Ai Be) (Aa (Ab 6) (Ac)))))))))
noncomputable def IW:List D→HD→Out D:=AF 3 8 Uc
abbrev Ud:Stmt:=AK 18
noncomputable abbrev Ue:MS:=Al (Fg (Ae Hl (Aa (Ab 0) (Ac))) (Ae (Ai DS) (Aa (AI [none] (By (Ab 0)) (AV 0) (A7) (Ae KZ (Aa (Ab 0) (Ac)))) (Ac))))
noncomputable def K0:List D→HD→Out D:=AF 1 1 Ue
abbrev Ug:Stmt:=Ez (AK 39) 2
noncomputable abbrev K5:MS:=Af (AY (Ae DW (Aa (Ab 1) (Aa (Ae (Ai AJ) (Aa (BU "Keeper" (Ab 0) "now") (Ac))) (Ac))))) (Af (AY (Ae DW (Aa (Ab 2) (Aa (Ae (Ai AJ) (Aa (Ad Aj (BU "Keeper" (Ab 0) "now") (mC (.int 0))) (Ac))) (Ac))))) (AY (Ba "Keeper" "change_to" FG (Ab 0) (Aa (Ae KS (Aa (BU "Keeper" (Ab 0) "now") (Aa (Ab 1) (Aa (Ab 2) (Ac))))) (Ac)))))
noncomputable def Ho:List D→HD→Out D:=AF 3 3 K5
abbrev Uh:Stmt:=AK 19
noncomputable abbrev Ui:MS:=Af (Ay (B8 (Bn (Bm (Ae Hl (Aa (Ab 0) (Ac))))) (Bn (Bm (Ae (Ai DS) (Aa (AI [none] (By (Ab 0)) (AV 0) (A7) (Ae K0 (Aa (Ab 0) (Ac)))) (Ac)))))) (Al (mC (.bl false))) (AD)) (Al (Ae (Ai DS) (Aa (AI [none,some 0] (By (Ab 0)) (AV 0) (A7) (Ad Bi (Ae (Ai AJ) (Aa (Ab 0) (Ac))) (Ae (Ai AJ) (Aa (Ad Aj (Ab 1) (mC (.int 0))) (Ac))))) (Ac))))
noncomputable def La:List D→HD→Out D:=AF 1 1 Ui
abbrev Uj:Stmt:=AK 20
noncomputable abbrev OA:MS:=Ay (Bn (Bm (Ae La (Aa (Ab 0) (Ac))))) (Fy "NoBoard" (Aa (mC (.str "this is no board")) (Ac))) (AD)
noncomputable def DG:List D→HD→Out D:=AF 1 1 OA
abbrev Uk:Stmt:=AK 22
noncomputable abbrev Ul:MS:=Af (AY (Ae DG (Aa (Ab 0) (Ac)))) (Al (Ae (Ai Be) (Aa (AI [none] (By (Ab 0)) (AV 0) (A7) (Ae (Ai Cw) (Aa (Ab 0) (Ac)))) (Ac))))
noncomputable def Lb:List D→HD→Out D:=AF 1 1 Ul
abbrev Um:Stmt:=AK 25
noncomputable abbrev Uo:MS:=Af (AY (Ae DG (Aa (Ab 0) (Ac)))) (Af (Ay (B8 (Bn (Bm (Ae (Bc AM) (Aa (Ab 1) (Aa (mC (.ty "tuple")) (Ac)))))) (Aw (Ad Br (Ae (Ai AJ) (Aa (Ab 1) (Ac))) (mC (.int 2))))) (Al (mC (.bl false))) (AD)) (Al (Fg (Ae IU (Aa (Ad Aj (Ab 1) (mC (.int 0))) (Aa (Ae (Ai AJ) (Aa (Ab 0) (Ac))) (Ac)))) (Ae IU (Aa (Ad Aj (Ab 1) (mC (.int 1))) (Aa (Ae (Ai AJ) (Aa (Ad Aj (Ab 0) (mC (.int 0))) (Ac))) (Ac)))))))
noncomputable def IX:List D→HD→Out D:=AF 2 2 Uo
abbrev Up:Stmt:=AK 29
noncomputable abbrev Uq:MS:=Af (AY (Ae DG (Aa (Ab 0) (Ac)))) (Al (Ae (Ai Be) (Aa (AI [none,some 0] (BY (Aa (Ae (Ai AJ) (Aa (Ad Aj (Ab 0) (mC (.int 0))) (Ac))) (Ac))) (AV 0) (A7) (Ae (Ai Be) (Aa (AI [none,some 0] (By (Ab 1)) (AV 0) (A7) (Ad Aj (Ab 0) (Ab 1))) (Ac)))) (Ac))))
noncomputable def Lc:List D→HD→Out D:=AF 1 1 Uq
abbrev Ur:Stmt:=Ez (AK 39) 0
noncomputable abbrev OB:MS:=Af (AY (Ae DG (Aa (Ab 1) (Ac)))) (Af (EY "Keeper" (Ab 0) "now" (Ab 1)) (EY "Keeper" (Ab 0) "earlier" (AN (Ac))))
noncomputable def FI:List D→HD→Out D:=AF 2 2 OB
abbrev Us:Stmt:=AK 23
noncomputable abbrev Ut:MS:=Al (Ae Lb (Aa (Ae Lc (Aa (Ab 0) (Ac))) (Ac)))
noncomputable def Ld:List D→HD→Out D:=AF 1 1 Ut
abbrev Uu:Stmt:=AK 26
noncomputable abbrev Uv:MS:=Ay (Bn (Bm (Ae IX (Aa (Ab 0) (Aa (Ab 1) (Ac)))))) (Fy "NoSwitching" (Aa (mC (.str "this is no switching of the board")) (Ac))) (AD)
noncomputable def Le:List D→HD→Out D:=AF 2 2 Uv
abbrev Uw:Stmt:=AK 28
noncomputable abbrev Ux:MS:=Af (AY (Ae Le (Aa (Ab 0) (Aa (Ab 1) (Ac))))) (Af (CG (BQ 2 3) (Ab 1)) (Al (Ae (Ai Be) (Aa (AI [none,none,some 3,some 2] (Em (Aa (Ab 0) (Ac))) (BQ 0 1) (A7) (Ae KP (Aa (Ab 1) (Aa (Ab 2) (Aa (Ad (Ca false) (Ab 0) (Ab 3)) (Ac)))))) (Ac)))))
noncomputable def Hq:List D→HD→Out D:=AF 2 4 Ux
abbrev Uy:Stmt:=AK 32
noncomputable abbrev Uz:MS:=Af (An 1 (AN (Aa (Am (Aa (Am (Ac)) (Aa (Ae Ld (Aa (Ab 0) (Ac))) (Ac)))) (Ac)))) (Af (BI (Ib (Aa (mC (.int 1)) (Aa (Ae (Ai AJ) (Aa (Ab 0) (Ac))) (Ac)))) (AV 2) (An 1 (Ad Av (Ab 1) (AI [none,none,some 2,some 0] (By (Ab 1)) (BQ 0 1) (A7) (Am (Aa (Ad Av (Ab 0) (Am (Aa (Ab 2) (Ac)))) (Aa (Ae KQ (Aa (Ab 1) (Aa (Ad Aj (Ab 3) (Ab 2)) (Ac)))) (Ac)))))))) (Al (Ab 1)))
noncomputable def DX:List D→HD→Out D:=AF 1 3 Uz
abbrev UA:Stmt:=AK 35
noncomputable abbrev UB:MS:=Al (Ae (Ai (EW EV)) (Aa (AI [none,none,some 0] (By (Ae DX (Aa (Ab 0) (Ac)))) (BQ 0 1) (A7) (Ae Hm (Aa (Ab 1) (Aa (Ae (Ai AJ) (Aa (Ab 2) (Ac))) (Ac))))) (Ac)))
noncomputable def E5:List D→HD→Out D:=AF 1 1 UB
abbrev UC:Stmt:=Ez (AK 39) 3
noncomputable abbrev OC:MS:=Af (AY (Ae DW (Aa (Ab 1) (Aa (Ae (Ai AJ) (Aa (BU "Keeper" (Ab 0) "now") (Ac))) (Ac))))) (AY (Ba "Keeper" "change_to" FG (Ab 0) (Aa (Ae Hq (Aa (BU "Keeper" (Ab 0) "now") (Aa (Am (Aa (Am (Aa (Ab 1) (Ac))) (Aa (Am (Ac)) (Ac)))) (Ac)))) (Ac))))
noncomputable def IY:List D→HD→Out D:=AF 2 2 OC
abbrev UD:Stmt:=Ez (AK 39) 4
noncomputable abbrev OD:MS:=Af (AY (Ae DW (Aa (Ab 1) (Aa (Ae (Ai AJ) (Aa (Ad Aj (BU "Keeper" (Ab 0) "now") (mC (.int 0))) (Ac))) (Ac))))) (AY (Ba "Keeper" "change_to" FG (Ab 0) (Aa (Ae Hq (Aa (BU "Keeper" (Ab 0) "now") (Aa (Am (Aa (Am (Ac)) (Aa (Am (Aa (Ab 1) (Ac))) (Ac)))) (Ac)))) (Ac))))
noncomputable def IZ:List D→HD→Out D:=AF 2 2 OD
abbrev UE:Stmt:=AK 36
noncomputable abbrev UF:MS:=Af (An 1 (Ae E5 (Aa (Ab 0) (Ac)))) (Af (An 2 (Ae (Ai AJ) (Aa (Ab 0) (Ac)))) (Al (Ad Aj (AI [none,none,some 2,some 1] (By (Ae DX (Aa (Ab 0) (Ac)))) (BQ 0 1) (Aw (Ad Bi (Ae Hm (Aa (Ab 1) (Aa (Ab 2) (Ac)))) (Ab 3))) (Am (Aa (Ab 0) (Aa (Ae KR (Aa (Ab 1) (Aa (Ab 2) (Ac)))) (Ac))))) (mC (.int 0)))))
noncomputable def Lf:List D→HD→Out D:=AF 1 3 UF
abbrev UG:Stmt:=Ez (AK 39) 7
noncomputable abbrev UH:MS:=Al (Ae E5 (Aa (BU "Keeper" (Ab 0) "now") (Ac)))
noncomputable def I0:List D→HD→Out D:=AF 1 1 UH
abbrev UI:Stmt:=Ez (AK 39) 9
noncomputable abbrev UJ:MS:=Af (Ay (Bn (Bm (BU "Keeper" (Ab 0) "earlier"))) (Al (mC .non)) (AD)) (Al (Am (Aa (Ae E5 (Aa (Ad Aj (BU "Keeper" (Ab 0) "earlier") (CK (mC (.int 1)))) (Ac))) (Aa (Ae E5 (Aa (BU "Keeper" (Ab 0) "now") (Ac))) (Ac)))))
noncomputable def Ja:List D→HD→Out D:=AF 1 1 UJ
abbrev UK:Stmt:=AK 54
noncomputable abbrev FJ:MS:=Af (Ay (Aw (Ad Bi (Ab 1) (mC (.str "light")))) (Al (Ba "Keeper" "light" Ho (Ab 0) (Aa (Ad Aj (Ab 2) (mC (.int 0))) (Aa (Ad Aj (Ab 2) (mC (.int 1))) (Ac))))) (AD)) (Af (Ay (Aw (Ad Bi (Ab 1) (mC (.str "row")))) (Al (Ba "Keeper" "row" IY (Ab 0) (Aa (Ad Aj (Ab 2) (mC (.int 0))) (Ac)))) (AD)) (Al (Ba "Keeper" "column" IZ (Ab 0) (Aa (Ad Aj (Ab 2) (mC (.int 0))) (Ac)))))
noncomputable def E6:List D→HD→Out D:=AF 3 3 FJ
abbrev UL:Stmt:=Ez (AK 39) 8
noncomputable abbrev UM:MS:=Al (Ae Lf (Aa (BU "Keeper" (Ab 0) "now") (Ac)))
noncomputable def Gr:List D→HD→Out D:=AF 1 1 UM
abbrev UN:Stmt:=AK 55
noncomputable abbrev OE:MS:=Af (An 2 (Ad Aj (Ab 1) (CK (mC (.int 1))))) (Af (Ay (B8 (Aw (Ad Br (Ae (Ai Bp) (Aa (Ba "Keeper" "board" IS (Ab 0) (Ac)) (Ac))) (Ae (Ai Bp) (Aa (Ab 2) (Ac))))) (Aw (Ad Br (Ae (Ai Bp) (Aa (Ba "Keeper" "left" I0 (Ab 0) (Ac)) (Ac))) (Ae (Ai Bp) (Aa (Ae DU (Aa (Ab 2) (Ac))) (Ac)))))) (Al (mC (.bl false))) (AD)) (Af (An 3 (Ba "Keeper" "best" Gr (Ab 0) (Ac))) (Af (An 4 (AN (Ac))) (Af (BI (G6 (Aa (AN (Aa (Ae (Ai AJ) (Aa (Ab 2) (Ac))) (Aa (Ae (Ai AJ) (Aa (Ad Aj (Ab 2) (mC (.int 0))) (Ac))) (Ac)))) (Aa (Ab 3) (Ac)))) (BQ 5 6) (AY (BS (Ab 4) (Ae (Ai Be) (Aa (AI [none,some 6] (BY (Aa (Ab 5) (Ac))) (AV 0) (Aw (Ad (Ca false) (Ab 0) (Ab 1))) (Ab 0)) (Ac)))))) (Af (Ay (B8 (Aw (Ad Br (Ae (Ai Bp) (Aa (Ab 3) (Ac))) (Ae (Ai Bp) (Aa (Ae (Ai Be) (Aa (Ab 4) (Ac))) (Ac))))) (Aw (Ad Br (Ba "Keeper" "best" Gr (Ab 0) (Ac)) (Ab 3)))) (Al (mC (.bl false))) (AD)) (Af (CG (BQ 7 8) (Ab 3)) (Af (Ay (Aw (Ad Br (Ae (Ai Cw) (Aa (AI [none] (By (Ae EA (Aa (Ab 2) (Aa (Ab 7) (Aa (Ab 8) (Ac)))))) (AV 0) (A7) (Ae (Ai Cw) (Aa (Ab 0) (Ac)))) (Ac))) (Ae DU (Aa (Ab 2) (Ac))))) (Al (mC (.bl false))) (AD)) (Af (An 9 (GN (Aw (Ad Bi (Ae (Ai AJ) (Aa (Ab 1) (Ac))) (mC (.int 1)))) (mC .non) (Am (Aa (Ae DU (Aa (Ad Aj (Ab 1) (CK (mC (.int 2)))) (Ac))) (Aa (Ae DU (Aa (Ab 2) (Ac))) (Ac)))))) (Al (Ad Bi (Ae (Ai Bp) (Aa (Ba "Keeper" "news" Ja (Ab 0) (Ac)) (Ac))) (Ae (Ai Bp) (Aa (Ab 9) (Ac)))))))))))))
noncomputable def DY:List D→HD→Out D:=AF 2 10 OE
abbrev OF:Stmt:=AK 56
noncomputable abbrev OG:MS:=Af (Ir (Aw (Ad GP (Ae (Ai AJ) (Aa (Ab 1) (Ac))) (mC (.int 1)))) (Af (AY (Eu (Ab 1))) (Ay (B8 (Aw (Ad CS (Ba "Keeper" "undo" CV (Ab 0) (Ac)) (mC .non))) (Bn (Bm (Ae DY (Aa (Ab 0) (Aa (Ab 1) (Ac))))))) (Al (mC (.bl false))) (AD)))) (Al (Ad Bi (DB 1 "_law_undone" [0] Cs (Ba "Keeper" "undo" CV (Ab 0) (Ac))) (mC (.str "! row"))))
noncomputable def Hr:List D→HD→Out D:=AF 2 2 OG
abbrev s_law:Stmt:=AK 57
noncomputable abbrev OH:MS:=Af (BI (BY (Aa (Ae (Bc HZ) (Aa (mC (.int 1)) (Aa (Ae (Bc Fp) (Aa (Ae (Ai AJ) (Aa (Ab 0) (Ac))) (Aa (mC (.int 2)) (Ac)))) (Ac)))) (Ac))) (AV 1) (Af (An 2 (Ae KW (Aa (Ab 0) (Aa (Ab 1) (Ac))))) (Af (Fq 3 4 (Aa (AN (Ac)) (Aa (AN (Ac)) (Ac)))) (Af (BI (BY (Aa (mC (.int 2)) (Ac))) (AV 5) (Af (An 6 (Ae IW (Aa (Ab 2) (Aa (Ad Av (mC (.int 1)) (Ae AZ (Aa (Ab 2) (Aa (mC (.int 5)) (Ac))))) (Aa (Ad Av (mC (.int 1)) (Ae AZ (Aa (Ab 2) (Aa (mC (.int 5)) (Ac))))) (Ac)))))) (Af (AY (BS (Ab 3) (AN (Aa (Ab 6) (Ac))))) (AY (BS (Ab 4) (Ey "Keeper" FI (Aa (Ab 6) (Ac)))))))) (Af (An 7 (Ae Hn (Aa (Ab 2) (Ac)))) (Af (BI (BY (Aa (Ad Av (mC (.int 10)) (Ae AZ (Aa (Ab 2) (Aa (mC (.int 9)) (Ac))))) (Ac))) (AV 5) (Af (An 8 (Ad EN (Ae AZ (Aa (Ab 7) (Aa (mC (.int 3)) (Ac)))) (mC (.int 2)))) (Af (CG (CT [9,10]) (Am (Aa (Ad Aj (Ab 4) (Ab 8)) (Aa (Ad Aj (Ab 3) (Ab 8)) (Ac))))) (Af (Ay (Aw (Ad Bi (Ae AZ (Aa (Ab 7) (Aa (mC (.int 4)) (Ac)))) (mC (.int 0)))) (Ay (Aw (Ad Bi (Ae (Ai AJ) (Aa (Ab 10) (Ac))) (mC (.int 1)))) (Ay (Aw (Ad Br (FC [9] Cs (Ba "Keeper" "undo" CV (Ab 0) (Ac))) (mC (.str "! row")))) (Al (mC (.bl false))) (AD)) (Af (AY (Eu (Ab 10))) (Ay (Aw (Ad CS (Ba "Keeper" "undo" CV (Ab 9) (Ac)) (mC .non))) (Al (mC (.bl false))) (AD)))) (Af (CG (CT [11,12,13]) (Ae IV (Aa (Ab 7) (Aa (Ad Aj (Ab 10) (CK (mC (.int 1)))) (Ac))))) (Ay (Aw (Ad Fm (Ab 13) (mC .non))) (Ay (Aw (Ad Br (FC [9,11,12] Cs (Ae E6 (Aa (Ab 0) (Aa (Ab 1) (Aa (Ab 2) (Ac)))))) (mC (.str "! line")))) (Al (mC (.bl false))) (AD)) (Af (AY (BS (Ab 10) (Ab 13))) (Ay (Aw (Ad CS (Ae E6 (Aa (Ab 9) (Aa (Ab 11) (Aa (Ab 12) (Ac))))) (mC .non))) (Al (mC (.bl false))) (AD)))))) (Ay (B8 (Bn (Bm (Ae DY (Aa (Ad Aj (Ab 4) (mC (.int 0))) (Aa (Ad Aj (Ab 3) (mC (.int 0))) (Ac)))))) (Bn (Bm (Ae DY (Aa (Ad Aj (Ab 4) (mC (.int 1))) (Aa (Ad Aj (Ab 3) (mC (.int 1))) (Ac))))))) (Al (mC (.bl false))) (AD)))))) (Af (Ay (B8 (Bn (Bm (Ae Hr (Aa (Ad Aj (Ab 4) (mC (.int 0))) (Aa (Ad Aj (Ab 3) (mC (.int 0))) (Ac)))))) (Bn (Bm (Ae Hr (Aa (Ad Aj (Ab 4) (mC (.int 1))) (Aa (Ad Aj (Ab 3) (mC (.int 1))) (Ac))))))) (Al (mC (.bl false))) (AD)) (Af (An 14 (Ae KY (Aa (Ab 2) (Aa (Ad Aj (Ad Aj (Ab 3) (mC (.int 0))) (mC (.int 0))) (Ac))))) (Ay (Aw (Ad Br (FC [14] Cs (Ey "Keeper" FI (Aa (Ab 0) (Ac)))) (mC (.str "! board")))) (Al (mC (.bl false))) (AD)))))))))) (Al (mC (.bl true)))
noncomputable def F_law:List D→HD→Out D:=AF 1 15 OH
end LK
set_option maxHeartbeats 0
namespace LK
open PySem PySem.Spec PyProof.Rows L2 LS
def want:Tp.Want:=⟨[(("is_whole":Str),S9),(("is_line_tuple":Str),Tb),(("row_switched":Str),Td),(("counts_with_row":Str),Tf),(("fewest_lit":Str),Th),(("fuller_columns":Str),Tj),(("light_turned":Str),To),(("_law_cell":Str),Tx),(("_law_mix":Str),Tz),(("_law_take":Str),TC),(("_law_kind":Str),TH),(("_law_switched":Str),TK),(("_law_ones":Str),TM),(("is_between":Str),TQ),(("is_lot":Str),TU),(("_law_box":Str),TX),(("_law_wide_box":Str),TZ),(("_law_no_board":Str),T3),(("_law_least":Str),T6),(("_law_deed":Str),T7),(("is_light":Str),T8),(("need_line":Str),Ua),(("_law_board":Str),Ub),(("is_row":Str),Ud),(("is_board":Str),Uh),(("need_board":Str),Uj),(("row_counts":Str),Uk),(("is_switching":Str),Um),(("turned":Str),Up),(("column_counts":Str),Us),(("need_switching":Str),Uu),(("switched":Str),Uw),(("lots_with_counts":Str),Uy),(("left_many":Str),UA),(("best_switching":Str),UE),(("_law_done":Str),UK),(("_law_stands":Str),UN),(("_law_undone":Str),OF),(("law":Str),s_law),(("_law_said":Str),KO)],[(("MOST_LINES":Str),(8:Int))],["ValueError","all","bool","divmod","enumerate","int","isinstance","len","list","max","min","range","repr","sum","tuple","zip"]⟩
def wantZ:Tp.WantZ:=⟨want,[(("Keeper":Str),("change_to":Str),Tr),(("Keeper":Str),("undo":Str),Tu),(("Keeper":Str),("board":Str),Tv),(("Keeper":Str),("light":Str),Ug),(("Keeper":Str),("__init__":Str),Ur),(("Keeper":Str),("row":Str),UC),(("Keeper":Str),("column":Str),UD),(("Keeper":Str),("left":Str),UG),(("Keeper":Str),("news":Str),UI),(("Keeper":Str),("best":Str),UL)],[(("Keeper":Str),["now","earlier"])],["law","_law_undone"],[]⟩
end LK
namespace LK
open PySem PySem.W
abbrev top_q:Program:=view PySem.Challenge.pw_lineswitch_k61_keepers_of_boards [57]
abbrev top_loose:List Str:=(PySem.Challenge.pw_lineswitch_k61_keepers_of_boards.main.scope.names.map (·.1)).filter fun x=>!(x=="law")
set_option maxHeartbeats 0 in
theorem top_left:LeftO PySem.Challenge.pw_lineswitch_k61_keepers_of_boards top_q top_loose (fun _=>true) (Tp.obsZ wantZ) (fun _=>Tp.valZ wantZ) 1000000:=
 Tp.left_of (n:=59) (by kernel_rfl) (fun s=>by kernel_rfl) (fun w=>by kernel_rfl) (fun w os=>by
  rw [PySem.W.Fast.te10156331382660048174,PySem.W.Fast.te11892475500146522536,PySem.W.Fast.te14364793385576792824,PySem.W.Fast.te10110043849684766642,PySem.W.Fast.te6613529449190102663,PySem.W.Fast.te4187177175401517315,PySem.W.Fast.te5923862056798008813]
  kernel_rfl)
end LK
namespace LK
open PySem PySem.Spec PyProof.Rows L2 LS
theorem _root_.LS.Sm.len {h h':HD} (s:Sm h h'):h.length≤h'.length:=by
 cases e:h.length with
 |zero=>exact Dq _
 |succ n=>
  have hn:n<h.length:=by omega
  have:=s n h[n] (A2 hn)
  have:=(qa2.mp this).1
  omega
theorem sz {n:Nat} (hn:n≤8):(List.range n).length≤sizeLine:=by
 rw [List.length_range];unfold sizeLine;omega
open PySem.Builtin.Int in
theorem Zc1 {ns:List Int} {k:Nat} (hb:∀i∈ns,Builtin.Int.intBits i≤2^20) (hk:k≤1000):∃c:Int,Builtin.Int.intBits c≤2^20∧∀h,Pu (KU [.scr ns,.int (k:Nat)] h) h (.int c):=by
 by_cases hl:k<ns.length
 ·refine ⟨ns[k],hb _ (GE hl),fun h=>?_⟩
  change Wp (As 2 Ov [.scr ns,.int (k:Nat)] h) _
  refine Eq.mpr (AH) ?_
  have:(k:Int)<ns.length:=by omega
  simp [this]
  refine AE (Zaa (A2 hl)) ?_
  simp [Sm.refl]
 ·refine ⟨6151*(k:Int)+29,?_,fun h=>?_⟩
  ·rw [intBits_le_iff]
   have h1:(6151*(k:Int)+29).natAbs<2^30:=by omega
   exact AR h1 (Gx (by decide) (by omega))
  ·change Wp (As 2 Ov [.scr ns,.int (k:Nat)] h) _
   refine Eq.mpr (AH) ?_
   have:¬(k:Int)<ns.length:=by omega
   simp [this]
   rw [Ij (by decide) (by decide)]
   simp [Sm.refl]
def UO (c:Int) (k:Nat):Int:=(((c+1)*40692+104729*(k:Int))*((c+1)*40692+104729*(k:Int))) % 2147483399+(k:Int)
theorem UP {h:HD}:F6 [.int 24] h=.ok ((List.range 24).map fun k=>D.int ((k:Nat):Int),[]) h:=ES (n:=24) (by decide)
theorem Zc2 {c:Int} {k:Nat} (hc:Builtin.Int.intBits c≤2^20) (hk:k≤1000):∃r:Int,∀h,Pu (KV [.int c,.int (k:Nat)] h) h (.int r):=by
 refine ⟨UO c k*(UO c k+31) % 2147483563,fun h=>?_⟩
 change Wp (As 3 TB [.int c,.int (k:Nat)] h) _
 refine Eq.mpr (AH) ?_
 have bX:Builtin.Int.intBits ((c+1)*40692+104729*(k:Int))≤16777216:=by
  have hk':Builtin.Int.intBits ((k:Nat):Int)≤10:=PySem.intBits_le_iff.mpr (by omega)
  have:=PySem.intBits_add_le (PySem.intBits_mul_le (PySem.intBits_add_le hc (show Builtin.Int.intBits 1≤1 by decide)) (show Builtin.Int.intBits 40692≤16 by decide)) (PySem.intBits_mul_le (show Builtin.Int.intBits 104729≤17 by decide) hk')
  exact BW this (by decide)
 have h1:=Int.emod_nonneg (((c+1)*40692+104729*(k:Int))*((c+1)*40692+104729*(k:Int))) (show (2147483399:Int)≠0 by decide)
 have h2:=Int.emod_lt_of_pos (((c+1)*40692+104729*(k:Int))*((c+1)*40692+104729*(k:Int))) (show (0:Int)<2147483399 by decide)
 simp
 rw [Kh (by decide) (by decide)]
 simp
 rw [Ij (by decide) (by decide)]
 simp
 rw [Zae bX bX]
 simp
 rw [G1 (by decide)]
 simp
 rw [Ij (by omega) (by omega)]
 simp
 rw [G1 (by decide)]
 simp
 exact ⟨rfl,.refl _⟩
def BoxAt (h:HD) (b:Nat):Prop:=∃n:Int,h[b]?=some (.lst [.int n])
inductive UQ (ns:List Int) (k:Nat) (c:Int) (h:HD) (xs:List Nat) (ρ:Ag) (h':HD):Prop where
 |mk (N:Int) (x:Option D) (f0:ρ=[some (.scr ns),some (.int (k:Nat)),some (.int c),some (.int N),x]) (f1:Sm h h') (f2:∀j∈xs,j<24):UQ ns k c h xs ρ h'
theorem Zc3 {ns:List Int} {k:Nat} {h:HD} {Q:D→HD→Prop} (hb:∀i∈ns,Builtin.Int.intBits i≤2^20) (hk:k≤1000) (q:∀l h',BoxAt h' l→h.length≤l→Sm h h'→Q (.loc l) h'):Wp (KW [.scr ns,.int (k:Nat)] h) Q:=by
 change Wp (As 5 (TY) [.scr ns,.int (k:Nat)] h) _
 refine Eq.mpr (AH) ?_
 obtain ⟨c,bc,pc⟩:=Zc1 (k:=k) hb hk
 simp
 refine (pc h).wp fun h1 s1=>?_
 rw [G1 (by decide)]
 simp
 by_cases hz:c % 2=0
 ·simp [hz]
  rw [QL (by decide) (by decide)]
  simp
  exact AU (by simp) fun l h' s e el _=>q l h' ⟨_,e⟩ (by have:=s1.len;omega) (s1.trans s)
 ·simp [hz]
  refine Dw (src:=[]) (xs:=List.range 24) (fun i=>.int ((i:Nat):Int)) (UQ ns k c h) ?_ (fun ys ρ h' _=>Dj) ?_ ?_
  ·simp [UP]
   exact ⟨_,_,rfl,s1,fun j hj=>qb8.mp hj⟩
  ·rintro x xs ρ h' ⟨N,y,rfl,sh,hx⟩
   refine ⟨_,rfl,?_⟩
   obtain ⟨m,pm⟩:=Zc2 (k:=x) bc (by have:=hx x A1;omega)
   simp
   rw [Kh (by decide) (by decide)]
   simp
   refine (pm h').wp fun h2 s2=>?_
   simp [B1]
   exact ⟨_,_,rfl,sh.trans s2,fun j hj=>hx j (A5 _ hj)⟩
  ·rintro ρ h' ⟨N,y,rfl,sh,_⟩
   simp
   exact AU (by simp) fun l h' s e el _=>q l h' ⟨_,e⟩ (by have:=sh.len;omega) (sh.trans s)
def Smx (b:Nat) (h h':HD):Prop:=∀(l:Nat) (c:Cell),l≠b→h[l]?=some c→h'[l]?=some c
theorem Smx.refl (b:Nat) (h:HD):Smx b h h:=fun _ _ _ e=>e
theorem Smx.trans {b:Nat} {h h1 h2:HD} (a:Smx b h h1) (c:Smx b h1 h2):Smx b h h2:=fun l x n e=>c l x n (a l x n e)
theorem CA {b:Nat} {h h':HD} (s:Sm h h'):Smx b h h':=fun l c _ e=>s l c e
theorem Lg {b:Nat} {m:Int} {h:HD} {Q:D→HD→Prop} (hx:BoxAt h b) (h1:0<m) (h2:m<18446744073709551616) (q:∀d h',0≤d→d<m→BoxAt h' b→Smx b h h'→Q (.int d) h'):Wp (AZ [.loc b,.int m] h) Q:=by
 change Wp (As 4 TF [.loc b,.int m] h) _
 refine Eq.mpr (AH) ?_
 obtain ⟨N,e⟩:=hx
 simp
 rw [show (0:Int)=((0:Nat):Int) from rfl]
 refine AE (B2 e (k:=0) rfl) ?_
 simp
 refine AE (Zaf h1 h2) ?_
 simp
 rw [show (0:Int)=((0:Nat):Int) from rfl]
 refine AE (QH e (by simp)) ?_
 simp
 have hl:b<h.length:=(qa2.mp e).1
 refine q _ _ (Int.emod_nonneg _ (by omega)) (Int.emod_lt_of_pos _ h1) ⟨_,by rw [BV hl]⟩ fun l c ne el=>?_
 rw [BG (Ne.symm ne)]
 exact el
theorem BoxAt.sm {b:Nat} {h h':HD} (x:BoxAt h b) (s:Sm h h'):BoxAt h' b:=let ⟨n,e⟩:=x;⟨n,s _ _ e⟩
theorem BoxAt.smx {a b:Nat} {h h':HD} (x:BoxAt h b) (s:Smx a h h') (ne:b≠a):BoxAt h' b:=let ⟨n,e⟩:=x;⟨n,s _ _ ne e⟩
theorem BoxAt.new {b:Nat} {h:HD} {c:Cell} (x:BoxAt h b):BoxAt (h++[c]) b:=x.sm (.app _ _)
def Plain (h:HD):D→Prop
 |.int _=>True
 |.bl _=>True
 |.non=>True
 |.str _=>True
 |.tup _=>True
 |.edic=>True
 |.loc l=>∃ds,h[l]?=some (.lst ds)
 |_=>False
theorem Plain.sm {h h':HD} {d:D} (p:Plain h d) (s:Sm h h'):Plain h' d:=by
 cases d with
 |loc l=>obtain ⟨ds,e⟩:=p;exact ⟨ds,s _ _ e⟩
 |_=>exact p
def A0:D→List D
 |.tup ds=>ds
 |_=>[]
def Plain2 (h:HD) (d:D):Prop:=Plain h d∧∀x∈A0 d,Plain h x
def Plain3 (h:HD) (d:D):Prop:=Plain h d∧∀x∈A0 d,Plain2 h x
theorem Plain2.sm {h h':HD} {d:D} (p:Plain2 h d) (s:Sm h h'):Plain2 h' d:=⟨p.1.sm s,fun x hx=>(p.2 x hx).sm s⟩
theorem Plain3.sm {h h':HD} {d:D} (p:Plain3 h d) (s:Sm h h'):Plain3 h' d:=⟨p.1.sm s,fun x hx=>(p.2 x hx).sm s⟩
def EB:D→Bool
 |.int i=>decide (0≤i)&&decide (i≤1)
 |_=>false
def B5:D→Bool
 |.tup ds=>decide (1≤ds.length)&&decide (ds.length≤8)
 |_=>false
def BL (d:D):Bool:=B5 d&&(A0 d).all EB
def Do (d:D):Nat:=(A0 d).length
def Cy (d:D):Bool:=B5 d&&(A0 d).all BL&&(A0 d).all fun x=>Do x==Do ((A0 d).getD 0 .non)
theorem p_is_between_int {i a b:Int} {h:HD}:Pu (FH [.int i,.int a,.int b] h) h (.bl (decide (a≤i)&&decide (i≤b))):=by
 change Wp (As 3 (Ow) [.int i,.int a,.int b] h) _
 refine Eq.mpr (AH) ?_
 have e:E4 [.int i] h=.ok (.bl true) h:=rfl
 simp [e]
 by_cases h1:a≤i<;>simp [h1,Aq,Sm.refl]
theorem UR {d:D} {a b:Int} {h:HD} (e:E4 [d] h=.ok (.bl false) h):Pu (FH [d,.int a,.int b] h) h (.bl false):=by
 change Wp (As 3 (Ow) [d,.int a,.int b] h) _
 refine Eq.mpr (AH) ?_
 simp [e,Sm.refl]
def Hs:D→Bool
 |.int _=>true
 |_=>false
theorem OI {d:D} {h:HD} (p:Plain h d):E4 [d] h=.ok (.bl (Hs d)) h:=by
 cases d with
 |loc l=>
  obtain ⟨ds,e⟩:=p
  have i1:AM (.loc l) (.ty "int") h=.ok (.bl false) h:=ZbI e
  have w:Wp (As 1 Ta [.loc l] h) fun d h'=>d=.bl false∧h'=h:=by
   refine Eq.mpr AH ?_
   simp [-ZbH,i1]
  obtain ⟨a,h',e',rfl,rfl⟩:=Wp.ex w
  exact e'
 |tup ds=>rfl
 |int i=>rfl
 |bl b=>rfl
 |non=>rfl
 |str x=>rfl
 |edic=>rfl
 |_=>exact p.elim
theorem OJ {d:D} (h:Hs d=true):∃i,d=.int i:=by cases d<;>first |exact ⟨_,rfl⟩ |cases h
theorem Zc4 {d:D} {h:HD} (p:Plain h d):Pu (KZ [d] h) h (.bl (EB d)):=by
 change Wp (As 1 (T9) [d] h) _
 refine Eq.mpr AH ?_
 simp
 cases hw:Hs d with
 |true=>
  obtain ⟨i,rfl⟩:=OJ hw
  exact p_is_between_int.wp fun h' s=>⟨rfl,s⟩
 |false=>
  have e:=OI p
  rw [hw] at e
  have e2:EB d=false:=by cases d<;>first |rfl |cases hw
  exact (UR e).wp fun h' s=>⟨by rw [e2],s⟩
def Jb:D→Bool
 |.tup _=>true
 |_=>false
theorem OK {d:D} {h:HD} (p:Plain h d):AM d (.ty "tuple") h=.ok (.bl (Jb d)) h:=by
 cases d with
 |loc l=>obtain ⟨ds,e⟩:=p;exact ZbJ e
 |tup ds=>rfl
 |int i=>rfl
 |bl b=>rfl
 |non=>rfl
 |str x=>rfl
 |edic=>rfl
 |_=>exact p.elim
theorem OL {d:D} (h:Jb d=true):∃ds,d=.tup ds:=by cases d<;>first |exact ⟨_,rfl⟩ |cases h
theorem US {d:D} {h:HD} (p:Plain h d):Pu (Hl [d] h) h (.bl (B5 d)):=by
 change Wp (As 1 Tc [d] h) _
 refine Eq.mpr AH ?_
 cases hT:Jb d with
 |true=>
  obtain ⟨ds,rfl⟩:=OL hT
  have a1:(1:Int)≤ds.length↔1≤ds.length:=by omega
  have a2:(ds.length:Int)≤8↔ds.length≤8:=by omega
  by_cases h1:1≤ds.length
  ·by_cases h2:ds.length≤8
   ·simp [a1.mpr h1,a2.mpr h2,Aq,Sm.refl,B5,h1,h2]
   ·have b2:¬(ds.length:Int)≤8:=by omega
    simp [a1.mpr h1,b2,Aq,Sm.refl,B5,h1,h2]
  ·have b1:¬(1:Int)≤ds.length:=by omega
   simp [b1,Aq,Sm.refl,B5,h1]
 |false=>
  have:B5 d=false:=by cases d<;>first |rfl |cases hT
  simp [OK p,hT,this,Sm.refl]
theorem OM {d:D} (h:B5 d=true):∃ds,d=.tup ds∧1≤ds.length∧ds.length≤8:=by
 cases d with
 |tup ds=>exact ⟨ds,rfl,by simpa [B5] using h⟩
 |_=>cases h
theorem Zc5 {d:D} {h:HD} (p:Plain2 h d):Pu (K0 [d] h) h (.bl (BL d)):=by
 change Wp (As 1 (Ue) [d] h) _
 refine Eq.mpr (AH) ?_
 simp
 refine (US p.1).wp fun h1 s1=>?_
 cases hl:B5 d with
 |false=>simp [BL,hl,s1]
 |true=>
  obtain ⟨ds,rfl,l1,l2⟩:=OM hl
  simp
  refine Pu.wp (Ni (src:=[]) (xs:=ds) (φ:=fun x=>x) EB (fun x=>[some x]) (by rw [List.map_id'];exact Ii) (fun x _=>rfl) (fun x hx h' s'=>?_) (by unfold sizeLine;omega)) fun h2 s2=>?_
  ·simp [Pu]
   exact Zc4 ((p.2 x hx).sm (s1.trans s'))
  ·simp [BL,hl,A0,s1.trans s2]
theorem UT {d:D} {h:HD} (hl:B5 d=true):AJ d h=.ok (.int (Do d:Nat)) h:=by
 obtain ⟨ds,rfl,_,_⟩:=OM hl
 simp [Do,A0]
theorem UU {d:D} (h:BL d=true):B5 d=true:=by unfold BL at h;exact (Bool.and_eq_true_iff.mp h).1
theorem UV {d:D} {h:HD} (p:Plain3 h d):Pu (La [d] h) h (.bl (Cy d)):=by
 change Wp (As 1 (Ui) [d] h) _
 refine Eq.mpr (AH) ?_
 simp
 refine (US p.1).wp fun h1 s1=>?_
 cases hl:B5 d with
 |false=>simp [Cy,hl,s1]
 |true=>
  obtain ⟨ds,rfl,l1,l2⟩:=OM hl
  simp
  refine Pu.wp (Ni (src:=[]) (xs:=ds) (φ:=fun x=>x) BL (fun x=>[some x]) (by rw [List.map_id'];exact Ii) (fun x _=>rfl) (fun x hx h' s'=>?_) (by unfold sizeLine;omega)) fun h2 s2=>?_
  ·simp [Pu]
   exact Zc5 ((p.2 x hx).sm (s1.trans s'))
  ·cases ha:ds.all BL with
   |false=>simp [Cy,hl,A0,ha,s1.trans s2]
   |true=>
    simp
    have hr:∀x∈ds,BL x=true:=fun x hx=>qaN.mp ha x hx
    obtain ⟨d0,rest,rfl⟩:∃d0 rest,ds=d0::rest:=by
     cases ds with
     |nil=>simp at l1
     |cons a r=>exact ⟨a,r,rfl⟩
    refine Pu.wp (Ni (src:=[]) (xs:=d0::rest) (φ:=fun x=>x) (fun x=>Do x==Do d0) (fun x=>[some x,some (.tup (d0::rest))]) (by rw [List.map_id'];exact Ii) (fun x _=>rfl) (fun x hx h' s'=>?_) (by unfold sizeLine;omega)) fun h3 s3=>?_
    ·simp [Pu]
     rw [UT (UU (hr x hx))]
     simp
     rw [show (0:Int)=((0:Nat):Int) from rfl]
     refine AE (ix_tup (k:=0) rfl) ?_
     simp
     rw [UT (UU (hr d0 A1))]
     simp [Sm.refl]
     rw [qbD]
     simp
     omega
    ·have:(d0::rest).all BL=true:=ha
     simp only [Cy,hl,A0,this,Bool.true_and]
     refine ⟨?_,(s1.trans s2).trans s3⟩
     simp
theorem Zc6 {d:D} {h:HD} (p:Plain3 h d) (hb:Cy d=true):Pu (DG [d] h) h .non:=by
 change Wp (As 1 (OA) [d] h) _
 refine Eq.mpr (AH) ?_
 simp
 refine (UV p).wp fun h1 s1=>?_
 simp [hb,s1]
theorem Zc7 {d:D} {h:HD} (p:Plain3 h d) (hb:Cy d=false):Er (DG [d] h) h "NoBoard":=by
 change We (As 1 (OA) [d] h) _ _
 refine Eq.mpr (DD) ?_
 simp
 refine (UV p).we fun h1 s1=>?_
 simp [hb,s1,Dx]
def lit (x:Bool):D:=.int (if x then 1 else 0)
def Au (w:Nat) (f:Nat→Bool):D:=.tup ((List.range w).map fun j=>lit (f j))
def bD (h w:Nat) (f:Nat→Nat→Bool):D:=.tup ((List.range h).map fun i=>Au w (f i))
section
variable {H W:Nat} {h:HD} {f:Nat→Nat→Bool} {r:Nat→Bool}
theorem Zc8 {x:Bool}:EB (lit x)=true:=by cases x<;>rfl
theorem Lh:Plain2 h (Au W r):=⟨trivial,fun x hx=>by
 simp only [Au,A0,qaL] at hx
 obtain ⟨j,_,rfl⟩:=hx
 exact trivial⟩
theorem Zc9:Plain3 h (bD H W f):=⟨trivial,fun x hx=>by
 simp only [bD,A0,qaL] at hx
 obtain ⟨j,_,rfl⟩:=hx
 exact Lh⟩
theorem UW {ds:List D} (h1:1≤ds.length) (h2:ds.length≤8):B5 (.tup ds)=true:=by simp [B5,h1,h2]
theorem Zda (hw:1≤W∧W≤8):BL (Au W r)=true:=by
 unfold BL
 rw [CI]
 refine ⟨UW (by simp;omega) (by simp;omega),qaN.mpr fun x hx=>?_⟩
 simp only [Au,A0,qaL] at hx
 obtain ⟨j,_,rfl⟩:=hx
 exact Zc8
theorem Li:Do (Au W r)=W:=by simp [Do,Au,A0]
theorem Zdb (hh:1≤H∧H≤8) (hw:1≤W∧W≤8):Cy (bD H W f)=true:=by
 unfold Cy
 rw [CI,CI]
 refine ⟨⟨UW (by simp;omega) (by simp;omega),qaN.mpr fun x hx=>?_⟩,qaN.mpr fun x hx=>?_⟩
 ·simp only [bD,A0,qaL] at hx
  obtain ⟨j,_,rfl⟩:=hx
  exact Zda hw
 ·simp only [bD,A0,qaL] at hx ⊢
  obtain ⟨j,_,rfl⟩:=hx
  have:((List.range H).map fun i=>Au W (f i)).getD 0 .non=Au W (f 0):=by
   rw [D0,Bv,Dc (by omega)];rfl
  rw [this,Li,Li]
  simp
theorem Lj (hh:1≤H∧H≤8) (hw:1≤W∧W≤8):Pu (DG [bD H W f] h) h .non:=Zc6 Zc9 (Zdb hh hw)
end
section
variable {h:HD}
theorem UX:GQ (.int 10) (.int 29) h=.ok (.int (10^29)) h:=by
 simp only [GQ,LS.intD]
 rw [if_pos (by decide)]
 rfl
variable {H W:Nat} {f:Nat→Nat→Bool} {r:Nat→Bool}
theorem DH:AJ (bD H W f) h=.ok (.int (H:Nat)) h:=by simp [bD]
theorem E7:AJ (Au W r) h=.ok (.int (W:Nat)) h:=by simp [Au]
theorem Jc {k:Nat} (hk:k<H):Aj (bD H W f) (.int (k:Nat)) h=.ok (Au W (f k)) h:=Ig hk
theorem Jd (hk:1≤H):Aj (bD H W f) (.int 0) h=.ok (Au W (f 0)) h:=QG (by omega)
def NoRowD (h:HD) (H W:Nat) (x:D):Prop:=Plain2 h x∧(BL x=false∨(1<H∧Do x≠W))
def putD (H W:Nat) (f:Nat→Nat→Bool) (A:Nat) (x:D):D:=.tup (((List.range H).map fun i=>Au W (f i)).take A++[x]++((List.range H).map fun i=>Au W (f i)).drop (A+1))
theorem Zdc {A:Nat} {x y:D} (hy:y∈A0 (putD H W f A x)):y=x∨∃i,y=Au W (f i):=by
 simp only [putD,A0,Jv,qaZ,qa4,CN,or_false] at hy
 rcases hy with hy |hy |hy
 ·have:=Mm hy
  simp at this
  obtain ⟨i,_,rfl⟩:=this
  exact .inr ⟨i,rfl⟩
 ·exact .inl hy
 ·have:=Mo hy
  simp at this
  obtain ⟨i,_,rfl⟩:=this
  exact .inr ⟨i,rfl⟩
theorem Zdd {A:Nat} {x:D} (hx:Plain2 h x):Plain3 h (putD H W f A x):=⟨trivial,fun y hy=>by
 rcases Zdc hy with rfl |⟨i,rfl⟩
 ·exact hx
 ·exact Lh⟩
theorem Zde {A:Nat} {x:D} (hA:A<H) (hx:NoRowD h H W x):Cy (putD H W f A x)=false:=by
 have hm:x∈A0 (putD H W f A x):=by simp [putD,A0]
 rcases hx.2 with hr |⟨h1,hl⟩
 ·unfold Cy
  rw [show (A0 (putD H W f A x)).all BL=false from by
   rw [HA]
   exact ⟨x,hm,by rw [hr];simp⟩]
  simp
 ·unfold Cy
  rw [show ((A0 (putD H W f A x)).all fun y=>Do y==Do ((A0 (putD H W f A x)).getD 0 .non))=false from ?_]
  ·simp
  rw [HA]
  have lenA:(((List.range H).map fun i=>Au W (f i)).take A).length=A:=by simp;omega
  by_cases hA0:A=0
  ·subst hA0
   have e0:(A0 (putD H W f 0 x)).getD 0 .non=x:=by simp [putD,A0]
   rw [e0]
   have h2:((List.range H).map fun i=>Au W (f i)).drop 1≠[]:=by
    intro z
    have:=congrArg List.length z
    simp at this
    omega
   obtain ⟨y,hy⟩:=List.exists_mem_of_ne_nil _ h2
   refine ⟨y,by simp only [putD,A0];exact qaZ.mpr (.inr hy),?_⟩
   have:=Mo hy
   simp at this
   obtain ⟨i,_,rfl⟩:=this
   rw [Li]
   simpa using fun z=>hl z.symm
  ·have e0:(A0 (putD H W f A x)).getD 0 .non=Au W (f 0):=by
    simp only [putD,A0,Jv]
    rw [D0,D3 (by rw [lenA];omega),List.getElem?_take,if_pos (by omega),Bv,Dc (by omega)]
    rfl
   rw [e0,Li]
   exact ⟨x,hm,by simpa using hl⟩
theorem ON {ds:List D} {x:D} (hx:x∈ds) (hr:BL x=false):Cy (.tup ds)=false:=by
 unfold Cy
 rw [show (A0 (.tup ds)).all BL=false from by
  rw [HA]
  exact ⟨x,hx,by rw [hr];simp⟩]
 simp
theorem UY {d:D} (hl:B5 d=false):Cy d=false:=by unfold Cy;rw [hl];simp
theorem Zdf (hh:1≤H):BL (bD H W f)=false:=by
 unfold BL
 rw [show (A0 (bD H W f)).all EB=false from by
  rw [HA]
  exact ⟨Au W (f 0),by simp [bD,A0];exact ⟨0,by omega,rfl⟩,by simp [Au,EB]⟩]
 simp
theorem Zdg (hw:1≤W):Cy (Au W r)=false:=ON (x:=lit (r 0)) (by simp;exact ⟨0,by omega,rfl⟩) (by simp [BL,lit,B5])
def NoB (h:HD) (d:D):Prop:=Plain3 h d∧Cy d=false
theorem NoB.sm {h':HD} {d:D} (n:NoB h d) (s:Sm h h'):NoB h' d:=⟨n.1.sm s,n.2⟩
end
theorem Plain.smx {b:Nat} {h h':HD} {d:D} (p:Plain h d) (s:Smx b h h') (x:BoxAt h' b):Plain h' d:=by
 cases d with
 |loc l=>
  obtain ⟨ds,e⟩:=p
  by_cases hl:l=b
  ·obtain ⟨n,e'⟩:=x
   exact ⟨_,hl ▸ e'⟩
  ·exact ⟨ds,s _ _ hl e⟩
 |_=>exact p
theorem Plain2.smx {b:Nat} {h h':HD} {d:D} (p:Plain2 h d) (s:Smx b h h') (x:BoxAt h' b):Plain2 h' d:=⟨p.1.smx s x,fun y hy=>(p.2 y hy).smx s x⟩
theorem Plain3.smx {b:Nat} {h h':HD} {d:D} (p:Plain3 h d) (s:Smx b h h') (x:BoxAt h' b):Plain3 h' d:=⟨p.1.smx s x,fun y hy=>(p.2 y hy).smx s x⟩
theorem NoB.smx {b:Nat} {h h':HD} {d:D} (n:NoB h d) (s:Smx b h h') (x:BoxAt h' b):NoB h' d:=⟨n.1.smx s x,n.2⟩
def TabAt (h:HD):Prop:=h[0]?=some .tab
theorem TabAt.sm {h h':HD} (t:TabAt h) (s:Sm h h'):TabAt h':=s _ _ t
theorem TabAt.smx {b:Nat} {h h':HD} (t:TabAt h) (s:Smx b h h') (hb:0<b):TabAt h':=s _ _ (by omega) t
theorem TabAt.pos {h:HD} (t:TabAt h):0<h.length:=(qa2.mp t).1
theorem CW {b:Nat} {m:Int} {h:HD} {Q:D→HD→Prop} (hx:BoxAt h b) (hb:0<b) (ht:TabAt h) (h1:0<m) (h2:m≤1000) (q:∀(d:Nat) h',(d:Int)<m→BoxAt h' b→TabAt h'→Smx b h h'→Q (.int (d:Nat)) h'):Wp (AZ [.loc b,.int m] h) Q:=
 Lg hx (by omega) (by omega) fun d h' d0 d1 x s=>by
  obtain ⟨k,rfl⟩:∃k:Nat,d=(k:Int):=⟨d.toNat,by omega⟩
  exact q k h' (by omega) x (ht.smx s hb) s
theorem BoxAt.lt {b:Nat} {h:HD} (x:BoxAt h b):b<h.length:=let ⟨_,e⟩:=x;(qa2.mp e).1
@[simp] theorem Zje {ρ:Ag} {a b:D} {i j:Nat}:CT [i,j] (.tup [a,b]) ρ=some ((ρ.set i (some a)).set j (some b)):=id rfl
theorem Dp {xs ys:List D} {h:HD} (hz:xs.length+ys.length≤1000):Av (.tup xs) (.tup ys) h=.ok (.tup (xs++ys)) h:=by
 simp only [Av]
 rw [if_pos (by unfold sizeLine;omega)]
theorem Zdh {ds:List D} {x:D} (hx:x∈ds) (hl:EB x=false):BL (.tup ds)=false:=by
 unfold BL
 rw [show (A0 (.tup ds)).all EB=false from by
  rw [HA]
  exact ⟨x,hx,by rw [hl];simp⟩]
 simp
theorem Zdi {d:D} (hl:B5 d=false):BL d=false:=by unfold BL;rw [hl];simp
theorem UZ {ds:List D} (hl:8<ds.length):B5 (.tup ds)=false:=by
 have:¬ds.length≤8:=by omega
 simp [B5,this]
theorem Zdj {h:HD} {W:Nat} {r:Nat→Bool} {x:D} (hx:x∈(List.range W).map fun j=>lit (r j)):Plain h x:=by
 simp only [qaL] at hx
 obtain ⟨j,_,rfl⟩:=hx
 exact trivial
theorem ED {P:D→Prop}:∀d∈([]:List D),P d:=fun d hd=>by cases hd
theorem all_cons {P:D→Prop} {a:D} {l:List D} (h:P a) (t:∀d∈l,P d):∀d∈a::l,P d:=fun d hd=>by
 rcases qa4.mp hd with rfl |hd
 ·exact h
 ·exact t d hd
theorem OO {P:D→Prop} {l r:List D} (h:∀d∈l,P d) (t:∀d∈r,P d):∀d∈l++r,P d:=fun d hd=>by
 rcases qaZ.mp hd with hd |hd
 ·exact h d hd
 ·exact t d hd
theorem Lk (P:D→Prop) {l o:Nat} {ds:List D} {h:HD} (e:h[l]?=some (.lst ds)) (ho:o<ds.length) (hp:∀d∈ds,P d):∃y,Aj (.loc l) (.int (o:Nat)) h=.ok y h∧P y:=
 ⟨ds[o],B2 e (A2 ho),hp _ (GE ho)⟩
theorem Je {h:HD} {d:D} (p:Plain h d) (e:A0 d=[]):Plain2 h d:=⟨p,fun x hx=>by rw [e] at hx;cases hx⟩
theorem Zdk {h:HD} {d:D} (p:Plain h d) (e:A0 d=[]):Plain3 h d:=⟨p,fun x hx=>by rw [e] at hx;cases hx⟩
def Zdl (h:HD) (H W l:Nat):Prop:=∃ds:List D,h[l]?=some (.lst ds)∧ds.length≤10∧∀d∈ds,NoRowD h H W d
theorem NoRowD.sm {h h':HD} {H W:Nat} {d:D} (n:NoRowD h H W d) (s:Sm h h'):NoRowD h' H W d:=⟨n.1.sm s,n.2⟩
noncomputable abbrev Zdm:MS:=Af (An 7 (AI [none,some 1,some 2] (By (Ab 7)) (AV 0) (A7) (Ad Av (Ad Av (Ce (Ab 1) (Cq) (Cb (Ab 2))) (Am (Aa (Ab 0) (Ac)))) (Ce (Ab 1) (Cb (Ad Av (Ab 2) (mC (.int 1)))) (Cq))))) (Af (An 7 (Ad Av (Ab 7) (AN (Aa (Ae (Ai Gi) (Aa (Ab 1) (Ac))) (Aa (Am (Aa (Ab 1) (Ac))) (Aa (Ad Cd (Am (Aa (Ad Aj (Ab 1) (mC (.int 0))) (Ac))) (mC (.int 9))) (Aa (Ad Av (Ab 1) (Am (Aa (Am (Ac)) (Ac)))) (Aa (Ad Aj (Ab 1) (mC (.int 0))) (Aa (mC .non) (Aa (Am (Ac)) (Aa (mC (.int 0)) (Aa (mC (.str "")) (Aa (mC .edic) (Ac)))))))))))))) (Al (Ad Aj (Ab 7) (Ae AZ (Aa (Ab 0) (Aa (Ae (Ai AJ) (Aa (Ab 7) (Ac))) (Ac)))))))
theorem OP {R:List D} {h:HD}:Gi (.tup R) h=B9 R h:=rfl
theorem NoB.tup {h:HD} {ds:List D} (hp:∀x∈ds,Plain2 h x) (hb:Cy (.tup ds)=false):NoB h (.tup ds):=⟨⟨trivial,hp⟩,hb⟩
theorem U0 {b H W A l:Nat} {f:Nat→Nat→Bool} {h:HD} {c3 c4 c5 c6:Option D} {Q:D→HD→Prop} (hx:BoxAt h b) (hb:0<b) (ht:TabAt h) (hh:1≤H∧H≤8) (hw:1≤W∧W≤8) (hA:A<H) (hn:Zdl h H W l)
 (q:∀d h',NoB h' d→BoxAt h' b→TabAt h'→Smx b h h'→Q d h'):Wp (Zdm [some (.loc b),some (bD H W f),some (.int (A:Nat)),c3,c4,c5,c6,some (.loc l)] h) (GX Q):=by
 obtain ⟨ds,el,ln,hn⟩:=hn
 try simp [-Ah]
 refine EU (src:=[(l,ds)]) (xs:=ds) (φ:=fun x=>x) (fun _=>true) (fun x=>putD H W f A x) (fun x=>[some x,some (bD H W f),some (.int (A:Nat))]) ?_ (by unfold sizeLine;omega) (fun x _=>rfl) (fun x hx h' s'=>.ok) (fun x hx _ h' s'=>?_) fun l7 h7 s7 e7=>?_
 ·simp
  refine AE (Iq el) ?_
  simp [Sm.refl]
  exact fun h2 s2=>GR (s2 _ _ el)
 ·simp [Pu]
  rw [bD]
  refine AE (IA (by simp;omega)) ?_
  simp
  refine AE (Dp (by simp;omega)) ?_
  simp
  refine AE (IB (k:=A) (by omega) (by simp;omega)) ?_
  simp
  refine AE (Dp (by simp;omega)) ?_
  simp [putD,Sm.refl]
 rw [Fw] at e7
 refine Eq.mpr (Ah) ?_
 simp [-Ah,Jd hh.1]
 obtain ⟨R,eR,lR,pR⟩:∃R:List D,bD H W f=.tup R∧R.length=H∧∀x∈R,∀h,Plain2 h x:=⟨_,rfl,by simp,fun x hx h=>by
  simp only [qaL] at hx
  obtain ⟨j,_,rfl⟩:=hx
  exact Lh⟩
 rw [eR]
 refine AE (OP) ?_
 refine AU (by unfold sizeLine;omega) fun l8 h8 s8 e8 _ _=>?_
 rw [show (9:Int)=((9:Nat):Int) from rfl]
 refine AE (RM (by simp) (by simp)) ?_
 try simp [-Ah]
 refine AE (Dp (by simp;omega)) ?_
 rw [B0]
 refine AU (by simp) fun l9 h9 s9 e9 _ _=>?_
 try simp [-Ah]
 refine AE (Kz (s9 _ _ (s8 _ _ e7)) e9) ?_
 refine AU (by simp;unfold sizeLine;omega) fun l10 h10 s10 e10 el10 _=>?_
 have s:=((s7.trans s8).trans s9).trans s10
 obtain ⟨L,eL,lL,nL⟩:∃L:List D,h10[l10]?=some (.lst L)∧L.length=ds.length+10∧∀d∈L,NoB h10 d:=by
  have s8':=s9.trans s10
  have pl:∀x∈R,Plain2 h10 x:=fun x hx=>pR x hx h10
  have flat:∀{x:D},Plain h10 x→A0 x=[]→B5 x=false→NoB h10 x:=fun p e l=>⟨Zdk p e,UY l⟩
  refine ⟨_,e10,by simp,OO (fun d hm=>?_) <| all_cons (flat ⟨_,s8' _ _ e8⟩ rfl rfl) <| all_cons (.tup (all_cons ⟨trivial,fun y hy=>(pl y hy).1⟩ ED) (ON (x:=.tup R) A1 (by rw [←eR];exact Zdf hh.1))) <|
   all_cons (.tup (fun x hx=>?_) (UY (UZ (by simp)))) <| all_cons (.tup (OO pl (all_cons (Je trivial rfl) ED)) (ON (x:=.tup []) (by simp) rfl)) <|
   all_cons ⟨⟨trivial,fun x hx=>?_⟩,Zdg hw.1⟩ <| all_cons (flat trivial rfl rfl) <| all_cons (flat trivial rfl rfl) <| all_cons (flat trivial rfl rfl) <| all_cons (flat trivial rfl rfl) <| all_cons (flat trivial rfl rfl) ED⟩
  ·obtain ⟨x,hx1,ex⟩:=qaL.mp hm
   rw [←ex]
   have:=(hn x hx1).sm s
   exact ⟨Zdd this.1,Zde hA this⟩
  ·rw [show x=_ from Mf (n:=9) hx]
   exact Lh
  ·obtain ⟨j,_,rfl⟩:=qaL.mp hx
   exact Je trivial rfl
 refine Eq.mpr (Ah) ?_
 try simp [-Ah]
 refine AE (Kr eL) ?_
 try simp [-Ah]
 refine CW (hx.sm s) hb (ht.sm s) (by omega) (by omega) fun d h11 ld x11 t11 s11=>?_
 have n10:l10≠b:=by have:=(((hx.sm s7).sm s8).sm s9).lt;omega
 have hd:d<L.length:=by omega
 refine AE (B2 (s11 _ _ n10 eL) (A2 hd)) ?_
 exact q _ _ ((nL _ (GE hd)).smx s11 x11) x11 t11 ((CA s).trans s11)
theorem Zdn {b H W:Nat} {f:Nat→Nat→Bool} {h:HD} {Q:D→HD→Prop} (hx:BoxAt h b) (hb:0<b) (ht:TabAt h) (hh:1≤H∧H≤8) (hw:1≤W∧W≤8) (q:∀d h',NoB h' d→BoxAt h' b→TabAt h'→Smx b h h'→Q d h'):Wp (KY [.loc b,bD H W f] h) Q:=by
 change Wp (As 8 (T4) [.loc b,bD H W f] h) _
 refine Eq.mpr (AH) ?_
 simp [-Ah,DH,Jd hh.1,E7]
 refine CW hx hb ht (by omega) (by omega) fun A h1 lA x1 t1 s1=>?_
 refine CW x1 hb t1 (by omega) (by omega) fun B h2 lB x2 t2 s2=>?_
 have hA:A<H:=by omega
 have hB:B<W:=by omega
 try simp [-Ah]
 refine Eq.mpr (Ah) ?_
 try simp [-Ah,UX]
 refine AU (by simp) fun l3 h3 s3 e3 el3 _=>?_
 try simp [-Ah]
 refine AU (by simp) fun l4 h4 s4 e4 el4 _=>?_
 have x4:BoxAt h4 b:=(x2.sm s3).sm s4
 have t4:TabAt h4:=(t2.sm s3).sm s4
 have n3:l3≠b:=by have:=x2.lt;omega
 have n4:l4≠b:=by have:=(x2.sm s3).lt;omega
 try simp [-Ah]
 refine CW x4 hb t4 (by decide) (by decide) fun o h5 l2 x5 t5 s5=>?_
 have e4':=s5 _ _ n4 e4
 have e3':=s5 _ _ n3 (s4 _ _ e3)
 obtain ⟨y,ey,py,ly⟩:=Lk (fun y=>Plain h5 y∧EB y=false) (o:=o) e4' (by simp;omega) <| all_cons ⟨trivial,rfl⟩ <| all_cons ⟨trivial,rfl⟩ <| all_cons ⟨trivial,rfl⟩ <| all_cons ⟨trivial,rfl⟩ <| all_cons ⟨trivial,rfl⟩ <| all_cons ⟨trivial,rfl⟩ <| all_cons ⟨trivial,rfl⟩ <| all_cons ⟨trivial,by decide⟩ <| all_cons ⟨⟨_,e3'⟩,rfl⟩ <| all_cons ⟨trivial,rfl⟩ ED
 refine AE (ey) ?_
 rw [B0]
 refine Eq.mpr (Ah) ?_
 try simp [-Ah]
 refine AE (Jc hA) ?_
 rw [B0]
 refine Eq.mpr (Ah) ?_
 have S:Smx b h h5:=(((s1.trans s2).trans (CA s3)).trans (CA s4)).trans s5
 clear ey
 generalize hr:f A=r
 obtain ⟨R,eR,lR,pR⟩:∃R:List D,Au W r=.tup R∧R.length=W∧∀x∈R,∀h,Plain h x:=⟨_,rfl,by simp,fun x hx h=>Zdj hx⟩
 rw [eR]
 try simp [-Ah]
 refine AE (IA (by omega)) ?_
 try simp [-Ah]
 refine AE (Dp (by simp;omega)) ?_
 try simp [-Ah]
 refine AE (IB (k:=B) (by omega) (by omega)) ?_
 try simp [-Ah]
 refine AE (Dp (by simp;omega)) ?_
 rw [B0]
 refine Eq.mpr (Ah) ?_
 try simp [-Ah]
 rw [show (8:Int)=((8:Nat):Int) from rfl]
 refine AE (RM (by simp) (by simp)) ?_
 try simp [-Ah]
 refine AE (Dp (by simp;omega)) ?_
 rw [B0]
 refine AE (OP) ?_
 refine AU (by unfold sizeLine;omega) fun l6 h6 s6 e6 _ _=>?_
 refine AU (by simp) fun l7 h7 s7 e7 _ _=>?_
 refine Eq.mpr (Ah) ?_
 have hS7:Smx b h h7:=(S.trans (CA s6)).trans (CA s7)
 have x7:=(x5.sm s6).sm s7
 have t7:=(t5.sm s6).sm s7
 have py7:Plain h7 y:=(py.sm s6).sm s7
 have base:∀d∈[D.tup (List.take B R++y::List.drop (B+1) R),D.tup (List.take B R++y::List.drop (B+1) R),D.tup (List.take B R++y::List.drop (B+1) R),D.tup (R++[D.int 0,D.int 0,D.int 0,D.int 0,D.int 0,D.int 0,D.int 0,D.int 0]),D.tup [],D.loc l6,D.non,D.int 1],NoRowD h7 H W d:=by
  have pt:∀ds:List D,(∀x∈ds,Plain h7 x)→BL (.tup ds)=false→NoRowD h7 H W (.tup ds):=fun ds hd hr=>⟨⟨trivial,hd⟩,.inl hr⟩
  have bent:NoRowD h7 H W (.tup (List.take B R++y::List.drop (B+1) R)):=by
   refine pt _ (fun x hx=>?_) (Zdh (x:=y) (by simp) ly)
   rcases qaZ.mp hx with z |z
   ·exact pR x (Mm z) _
   ·rcases qa4.mp z with z |z
    ·exact z ▸ py7
    ·exact pR x (Mo z) _
  refine all_cons bent <| all_cons bent <| all_cons bent <| all_cons (pt _ (OO (fun x z=>pR x z _) fun x hx=>?_) (Zdi (UZ (by simp;omega)))) <| all_cons (pt _ ED rfl) <| all_cons ⟨Je ⟨_,s7 _ _ e6⟩ rfl,.inl rfl⟩ <| all_cons ⟨Je trivial rfl,.inl rfl⟩ <| all_cons ⟨Je trivial rfl,.inl rfl⟩ ED
  rw [show x=_ from Mf (n:=8) hx]
  exact trivial
 refine Eq.mpr (A8) ?_
 by_cases h1:1<H
 ·have h1':(1:Int)<(H:Int):=by omega
  simp [-Ah,DH,h1',h1]
  refine AE (ZbT (by omega)) ?_
  try simp [-Ah]
  refine AE (Dp (by simp;omega)) ?_
  try simp [-Ah]
  refine AU (by simp) fun l8 h8 s8 e8 _ _=>?_
  try simp [-Ah]
  refine AE (Kz (s8 _ _ e7) e8) ?_
  refine AU (by simp) fun l9 h9 s9 e9 _ _=>?_
  refine Eq.mpr (Ah) ?_
  have s79:=s8.trans s9
  refine U0 (x7.sm s79) hb (t7.sm s79) hh hw hA ⟨_,e9,by simp,fun d hd=>?_⟩ fun d h' n x t s'=>q d h' n x t ((hS7.trans (CA s79)).trans s')
  rcases qaZ.mp hd with z |z
  ·exact (base d z).sm s79
  ·simp only [qa4,CN,or_false] at z
   rcases z with rfl |rfl
   ·refine ⟨⟨trivial,fun x hx=>pR x (Mm hx) _⟩,.inr ⟨h1,?_⟩⟩
    simp [Do,A0]
    omega
   ·refine ⟨⟨trivial,fun x hx=>?_⟩,.inr ⟨h1,?_⟩⟩
    ·rcases qaZ.mp hx with z |z
     ·exact pR x z _
     ·simp only [qa4,CN,or_false] at z
      subst z
      exact trivial
    ·simp [Do,A0]
     omega
 ·have h1':¬(1:Int)<(H:Int):=by omega
  simp [-Ah,DH,h1',h1]
  refine Eq.mpr (Ah) ?_
  exact U0 x7 hb t7 hh hw hA ⟨_,e7,by simp,base⟩ fun d h' n x t s'=>q d h' n x t (hS7.trans s')
theorem OQ {i:Int} {h:HD}:E4 [.int i] h=.ok (.bl true) h:=rfl
def DZ (n:Nat):Int→List D→Bool
 |_,[]=>true
 |last,.int i::ds=>decide (last<i∧i<(n:Int))&&DZ n i ds
 |_,_::_=>false
def DI (n:Nat) (d:D):Bool:=match d with
 |.tup ds=>DZ n (-1) ds
 |_=>false
theorem Zdo {n:Nat} {last:Int} {x:D} {xs:List D} (h:Hs x=false):DZ n last (x::xs)=false:=by
 cases x<;>first |rfl |(cases h)
inductive U1 (ds:List D) (n:Nat) (h:HD) (xs:List D) (ρ:Ag) (h':HD):Prop where
 |mk (last:Int) (x:Option D) (f0:ρ=[some (.tup ds),some (.int (n:Nat)),some (.int last),x]) (f1:h'=h) (f2:DZ n last xs=DZ n (-1) ds) (f3:∀y∈xs,Plain h y):U1 ds n h xs ρ h'
theorem U2 {d:D} {n:Nat} {h:HD} (p:Plain2 h d):Pu (IU [d,.int (n:Nat)] h) h (.bl (DI n d)):=by
 change Wp (As 4 (TV) [d,.int (n:Nat)] h) _
 refine Eq.mpr AH ?_
 cases hT:Jb d with
 |true=>
  obtain ⟨ds,rfl⟩:=OL hT
  simp
  refine Dw (src:=[]) (xs:=ds) (fun x=>x) (U1 ds n h) ?_ (fun ys ρ h' _=>Dj) ?_ ?_
  ·simp
   exact ⟨-1,_,rfl,rfl,rfl,p.2⟩
  ·rintro x xs ρ h' ⟨last,y,rfl,rfl,e,pl⟩
   refine ⟨_,rfl,?_⟩
   have px:=pl x A1
   cases hx:Hs x with
   |false=>
    simp [OI px,hx,B1,Sm.refl]
    rw [Zdo hx] at e
    simp [DI,←e]
   |true=>
    obtain ⟨i,rfl⟩:=OJ hx
    by_cases h1:last<i
    ·by_cases h2:i<(n:Int)
     ·simp [OQ,h1,h2,Aq,B1]
      exact ⟨i,_,rfl,rfl,by rw [←e];simp [DZ,h1,h2],fun y hy=>pl y (A5 _ hy)⟩
     ·simp [OQ,h1,h2,Aq,B1,Sm.refl]
      simp [DI,←e,DZ,h1,h2]
    ·simp [OQ,h1,Aq,B1,Sm.refl]
     simp [DI,←e,DZ,h1]
  ·rintro ρ h' ⟨last,y,rfl,rfl,e,_⟩
   simp [Sm.refl,DI,←e,DZ]
 |false=>
  have e:DI n d=false:=by cases d<;>first |rfl |cases hT
  simp [OK p.1,hT,e,Sm.refl]
def Ht (H W:Nat) (d:D):Bool:=match d with
 |.tup [a,b]=>DI H a&&DI W b
 |_=>false
section
variable {H W:Nat} {h:HD} {f:Nat→Nat→Bool}
theorem Zdp {d:D} (hh:1≤H∧H≤8) (hw:1≤W∧W≤8) (p:Plain3 h d):Pu (IX [bD H W f,d] h) h (.bl (Ht H W d)):=by
 change Wp (As 2 (Uo) [bD H W f,d] h) _
 refine Eq.mpr AH ?_
 simp
 refine (Lj hh hw).wp fun h1 s1=>?_
 have p1:=p.sm s1
 cases hT:Jb d with
 |true=>
  obtain ⟨ds,rfl⟩:=OL hT
  by_cases h2:ds.length=2
  ·obtain ⟨a,b,rfl⟩:∃a b,ds=[a,b]:=by
    match ds,h2 with
    |[a,b],_=>exact ⟨a,b,rfl⟩
   simp [bD]
   refine (U2 (p1.2 a (by simp [A0]))).wp fun h2 s2=>?_
   cases ha:DI H a with
   |false=>simp [Ht,ha,s1.trans s2]
   |true=>
    simp
    refine AE (QG (by omega)) ?_
    simp [Au]
    refine (U2 ((p1.2 b (by simp [A0])).sm s2)).wp fun h3 s3=>?_
    simp [Ht,ha,(s1.trans s2).trans s3]
  ·have e2:Ht H W (.tup ds)=false:=by
    match ds,h2 with
    |[],_=>rfl
    |[_],_=>rfl
    |_::_::_::_,_=>rfl
   have e3:¬((ds.length:Int)=2):=by omega
   simp [e2,e3,s1]
 |false=>
  have e:Ht H W d=false:=by cases d<;>first |rfl |cases hT
  simp [OK p1.1,hT,e,s1]
end
def Ax (n:Nat) (p:Nat→Bool):D:=.tup (((List.range n).filter p).map fun i=>.int ((i:Nat):Int))
def Bq (h w:Nat) (p q:Nat→Bool):D:=.tup [Ax h p,Ax w q]
section
variable {H W n:Nat} {h:HD} {f:Nat→Nat→Bool} {r p q p' q':Nat→Bool}
theorem U3:∀{ks:List Nat} {last:Int},ks.Pairwise (·< ·)→(∀k∈ks,last<(k:Int)∧k<n)→DZ n last (ks.map fun i=>.int ((i:Nat):Int))=true
 |[],_,_,_=>rfl
 |k::ks,last,hp,hb=>by
  rw [List.pairwise_cons] at hp
  have h0:=hb k A1
  rw [BD,DZ,U3 hp.2 fun j hj=>⟨Int.ofNat_lt.mpr (hp.1 j hj),(hb j (A5 _ hj)).2⟩,decide_eq_true ⟨h0.1,Int.ofNat_lt.mpr h0.2⟩]
  rfl
theorem U4:DI n (Ax n p)=true:=U3 (List.Pairwise.filter _ List.pairwise_lt_range) fun k hk=>⟨by omega,qb8.mp (qbV.mp hk).1⟩
theorem U5:Plain2 h (Ax n p):=⟨trivial,fun x hx=>by
 obtain ⟨k,_,rfl⟩:=qaL.mp hx
 exact trivial⟩
theorem Zdq {x y:D} (px:Plain2 h x) (py:Plain2 h y):Plain3 h (.tup [x,y]):=⟨trivial,all_cons px (all_cons py ED)⟩
theorem Zdr (hh:1≤H∧H≤8) (hw:1≤W∧W≤8):Pu (IX [bD H W f,Bq H W p q] h) h (.bl true):=by
 have e:Ht H W (Bq H W p q)=true:=by
  show (DI H (Ax H p)&&DI W (Ax W q))=true
  rw [U4,U4]
  rfl
 exact e ▸ Zdp hh hw (Zdq U5 U5)
theorem Zds (hh:1≤H∧H≤8) (hw:1≤W∧W≤8):Pu (Le [bD H W f,Bq H W p q] h) h .non:=by
 change Wp (As 2 (Uv) [bD H W f,Bq H W p q] h) _
 refine Eq.mpr (AH) ?_
 simp
 refine (Zdr hh hw).wp fun h1 s1=>?_
 simp [s1]
theorem Zdt {k:Nat} (hk:k<n):((List.range n).filter p).contains k=p k:=by
 rw [qbD]
 simp [hk]
theorem Jf {neg:Bool} {k:Nat} (hk:k<n):Ca neg (.int (k:Nat)) (Ax n p) h=.ok (.bl (if neg then !p k else p k)) h:=by
 unfold Ax
 rw [Zab,Zdt hk]
theorem Zdu {b:Bool} (hw:W≤8):Pu (KP [Au W r,Ax W q,.bl b] h) h (Au W fun j=>Bool.xor (r j) (Bool.xor b (q j))):=by
 change Wp (As 3 Te [Au W r,Ax W q,.bl b] h) _
 refine Eq.mpr (AH) ?_
 simp
 refine Pu.wp (G0 (src:=[]) (xs:=List.range W) (φ:=fun j=>.tup [.int ((j:Nat):Int),lit (r j)]) (fun j=>lit (Bool.xor (r j) (Bool.xor b (q j)))) (fun j=>[some (.int ((j:Nat):Int)),some (lit (r j)),some (Ax W q),some (.bl b)]) ?_ (fun x _=>rfl) (fun x hx h' s'=>?_) (sz hw)) fun h2 s2=>?_
 ·simp [B3,Au,G7,Sm.refl,Bj]
 ·simp [Pu,Jf (show x<W by simpa using hx)]
  have k:∀a b c:Bool,Bool.xor a (Bool.xor b c)=if c=b then a else !a:=by decide
  rw [k]
  by_cases hq:q x=b
  ·simp [hq,Sm.refl]
  ·have k2:∀a:Bool,(1:Int) - (if a=true then 1 else 0)=if (!a)=true then 1 else 0:=by decide
   simp [hq,Sm.refl,lit,k2]
 ·exact ⟨rfl,s2⟩
theorem U6 (hh:1≤H∧H≤8) (hw:1≤W∧W≤8):Pu (Hq [bD H W f,Bq H W p q] h) h (bD H W fun i j=>Bool.xor (f i j) (Bool.xor (p i) (q j))):=by
 change Wp (As 4 (Ux) [bD H W f,Bq H W p q] h) _
 refine Eq.mpr (AH) ?_
 simp
 refine (Zds hh hw).wp fun h1 s1=>?_
 simp [Bq]
 refine Pu.wp (G0 (src:=[]) (xs:=List.range H) (φ:=fun i=>.tup [.int ((i:Nat):Int),Au W (f i)]) (fun i=>Au W fun j=>Bool.xor (f i j) (Bool.xor (p i) (q j))) (fun i=>[some (.int ((i:Nat):Int)),some (Au W (f i)),some (Ax W q),some (Ax H p)]) ?_ (fun x _=>rfl) (fun x hx h' s'=>?_) (sz hh.2)) fun h2 s2=>?_
 ·simp [B3,bD,G7,Sm.refl,Bj]
 ·simp [Pu,Jf (show x<H by simpa using hx)]
  exact Zdu hw.2
 ·exact ⟨rfl,s1.trans s2⟩
end
theorem Smx.over {a b:Nat} {h h1 h2:HD} (s:Smx b h h1) (s2:Smx a h1 h2) (hl:h.length≤a):Smx b h h2:=fun l c n e=>s2 l c (by have:=(qa2.mp e).1;omega) (s l c n e)
theorem Smx.put {a b:Nat} {c:Cell} {h h1:HD} (s:Smx b h h1) (hl:h.length≤a):Smx b h (h1.set a c):=fun l x n e=>by
 rw [BG (by have:=(qa2.mp e).1;omega)]
 exact s l x n e
theorem Smx.new {b:Nat} {c:Cell} {h h1:HD} (s:Smx b h h1):Smx b h (h1++[c]):=s.trans (CA (.app _ _))
theorem Smx.len {b:Nat} {h h':HD} (s:Smx b h h') (hb:b<h'.length):h.length≤h'.length:=by
 cases e:h.length with
 |zero=>exact Dq _
 |succ n=>
  have hn:n<h.length:=by omega
  by_cases hz:n=b
  ·omega
  ·have:=s n h[n] hz (A2 hn)
   have:=(qa2.mp this).1
   omega
inductive U7 (b:Nat) (h1:HD) (xs:List Nat) (ρ:Ag) (h':HD):Prop where
 |mk (N M:Int) (x:Option D) (f0:ρ=[some (.loc b),some (.int N),some (.int M),x]) (f1:h'=h1):U7 b h1 xs ρ h'
theorem U8 {b:Nat} {h:HD} {Q:D→HD→Prop} (hx:BoxAt h b) (q:∀l h',BoxAt h' b→BoxAt h' l→l≠b→h.length≤l→Smx b h h'→Q (.loc l) h'):Wp (Hn [.loc b] h) Q:=by
 change Wp (As 4 (T1) [.loc b] h) _
 refine Eq.mpr (AH) ?_
 simp
 refine Lg hx (by decide) (by decide) fun d h1 d0 d1 x1 s1=>?_
 refine Dw (src:=[]) (xs:=List.range 24) (fun i=>.int ((i:Nat):Int)) (U7 b h1) ?_ (fun ys ρ h' _=>Dj) ?_ ?_
 ·simp [UP]
  exact ⟨_,_,_,rfl,rfl⟩
 ·rintro x xs ρ h' ⟨N,M,y,rfl,rfl⟩
  refine ⟨_,rfl,?_⟩
  simp
  rw [Kh (by decide) (by decide)]
  simp
  rw [G1 (by decide)]
  simp
  rw [Kh (by decide) (by decide)]
  simp [B1]
  exact ⟨_,_,_,rfl,rfl⟩
 ·rintro ρ h' ⟨N,M,y,rfl,rfl⟩
  simp
  refine AU (by simp) fun l h2 s e el _=>?_
  exact q l h2 (x1.sm s) ⟨_,e⟩ (by have:=x1.lt;omega) (by have:=s1.len x1.lt;omega) (s1.trans (CA s))
theorem Zdv {W:Nat} {rows:List (Nat→Bool)} {H:Nat} (e:rows.length=H):D.tup (rows.map (Au W))=bD H W fun i=>rows.getD i fun _=>false:=by
 unfold bD
 congr 1
 apply Jx
 ·simp [e]
 ·intro i h1 h2
  simp at h1 h2
  simp [D0,A2 h1]
inductive U9 (b H W:Nat) (way dense:Int) (l2 l3:Nat) (h:HD) (xs:List Nat) (ρ:Ag) (h':HD):Prop where
 |mk (x:Option D) (rows:List (Nat→Bool)) (f0:ρ=[some (.loc b),some (.int (H:Nat)),some (.int (W:Nat)),some (.int way),some (.loc l2),some (.int dense),some (.loc l3),x]) (f1:BoxAt h' b) (f2:BoxAt h' l2) (f3:h'[l3]?=some (.lst (rows.map (Au W)))) (f4:rows.length+xs.length=H) (f5:Smx b h h'):U9 b H W way dense l2 l3 h xs ρ h'
inductive Va (b W l2 l3:Nat) (rows:List (Nat→Bool)) (h h':HD):Prop where
 |mk (f1:BoxAt h' b) (f2:BoxAt h' l2) (f3:h'[l3]?=some (.lst (rows.map (Au W)))) (f4:Smx b h h'):Va b W l2 l3 rows h h'
theorem Zdw {b H W:Nat} {h:HD} {Q:D→HD→Prop} (hx:BoxAt h b) (hh:1≤H∧H≤8) (hw:1≤W∧W≤8) (q:∀f h',BoxAt h' b→Smx b h h'→Q (bD H W f) h'):Wp (IW [.loc b,.int (H:Nat),.int (W:Nat)] h) Q:=by
 change Wp (As 8 (Uc) [.loc b,.int (H:Nat),.int (W:Nat)] h) _
 refine Eq.mpr (AH) ?_
 simp [-Ah]
 refine Lg hx (by decide) (by decide) fun way h1 d0 d1 x1 z1=>?_
 simp [-Ah,Ah (g:=Af (An 4 _) _)]
 refine U8 x1 fun l2 h2 x2 y2 n2 k2 z2=>?_
 have kl2:h.length≤l2:=by have:=z1.len x1.lt;omega
 refine Eq.mpr (Ah) ?_
 simp [-Ah]
 refine AU (by simp) fun l h3 s3 e3 el3 _=>?_
 obtain ⟨dense,ed⟩:∃dense:Int,Aj (.loc l) (.int way) h3=.ok (.int dense) h3:=by
  obtain ⟨w,rfl⟩:∃w:Nat,way=(w:Int):=⟨way.toNat,by omega⟩
  obtain ⟨y,ey,z,rfl⟩:=Lk (fun y=>∃i,y=.int i) (o:=w) e3 (by simp;omega) <| all_cons ⟨_,rfl⟩ <| all_cons ⟨_,rfl⟩ <| all_cons ⟨_,rfl⟩ <| all_cons ⟨_,rfl⟩ <| all_cons ⟨_,rfl⟩ ED
  exact ⟨z,ey⟩
 refine AE (ed) ?_
 rw [B0]
 refine Eq.mpr (Ah) ?_
 simp [-Ah]
 refine AU (by simp) fun l3 h4 s4 e4 el4 _=>?_
 have x4:BoxAt h4 b:=(x2.sm s3).sm s4
 have y4:BoxAt h4 l2:=(y2.sm s3).sm s4
 have z4:Smx b h h4:=((z1.trans z2).trans (CA s3)).trans (CA s4)
 have kl3:h.length≤l3:=by have:=(z1.trans z2).len x2.lt;have:=s3.len;omega
 have n3:l3≠b:=by
  obtain ⟨n,e⟩:=x2.sm s3
  have:=(qa2.mp e).1
  omega
 have n4:l3≠l2:=by
  obtain ⟨n,e⟩:=y2.sm s3
  have:=(qa2.mp e).1
  omega
 refine Eq.mpr (Ah) ?_
 simp [-Ah]
 refine Dw (src:=[]) (xs:=List.range H) (fun i=>.int ((i:Nat):Int)) (U9 b H W way dense l2 l3 h) ?_ (fun ys ρ h' _=>Dj) ?_ ?_
 ·simp [ES (show H≤1000 by omega)]
  exact ⟨_,[],rfl,x4,y4,e4,by simp,z4⟩
 ·rintro x xs ρ h' ⟨y,rows,rfl,x5,y5,e5,hl,z5⟩
  refine ⟨_,rfl,?_⟩
  simp [CL e5]
  refine Zag (src:=[]) (xs:=List.range W) (fun i=>.int ((i:Nat):Int)) (Va b W l2 l3 rows h) (fun _ b=>b=true) (fun i d=>∃r:Bool,d=lit r) (fun i=>[some (.int ((i:Nat):Int)),some (.loc l2),some (.int dense)]) ?_ (fun _ _=>Dj) (fun h c x=>by obtain ⟨a1,a2,a3,a4⟩:=x;exact ⟨a1.new,a2.new,Sm.app _ _ _ _ a3,a4.new⟩) List.nodup_range (sz hw.2) (fun x _=>rfl) ?_ ?_
  ·simp [ES (show W≤1000 by omega)]
   exact ⟨x5,y5,e5,z5⟩
  ·intro x hx h i
   simp
   obtain ⟨a1,a2,a3,a4⟩:=i
   refine Lg a2 (by decide) (by decide) fun d h1 d0 d1 x1 s1=>?_
   simp only [B0,Kd,Kc,QF,F8,Ng,QE,Z9]
   exact ⟨⟨a1.smx s1 (Ne.symm n2),x1,s1 _ _ n4 a3,a4.over s1 kl2⟩,by cases decide (d<dense)<;>simp [lit]⟩
  ·intro h6 g e x6 hr tr
   obtain ⟨x61,x62,x63,x64⟩:=x6
   have hr':∃r:Nat→Bool,∀x∈List.range W,e x=lit (r x):=by
    refine ⟨fun x=>if h:x∈List.range W then (hr x h (tr x h)).choose else false,fun x hx=>?_⟩
    simp only [dif_pos hx]
    exact (hr x hx (tr x hx)).choose_spec
   obtain ⟨r,er⟩:=hr'
   have ef:(List.range W).filter g=List.range W:=List.filter_eq_self.mpr tr
   have em:D.tup (((List.range W).filter g).map e)=Au W r:=by
    rw [ef];unfold Au;congr 1;exact FN er
   rw [em]
   simp [El x63 (show (rows.map (Au W)).length<sizeLine by simp;unfold sizeLine;omega),B1]
   have hl3:l3<h6.length:=(qa2.mp x63).1
   refine ⟨_,rows++[r],rfl,?_,?_,?_,?_,x64.put kl3⟩
   ·obtain ⟨n,e⟩:=x61
    exact ⟨n,by rw [BG n3];exact e⟩
   ·obtain ⟨n,e⟩:=x62
    exact ⟨n,by rw [BG n4];exact e⟩
   ·rw [BV hl3]
    simp
   ·simp at hl ⊢
    omega
 ·rintro ρ h' ⟨y,rows,rfl,x5,y5,e5,hl,z5⟩
  simp at hl
  simp
  by_cases h3:way=3
  ·simp [h3]
   obtain ⟨r0,rest,rfl⟩:∃r0 rest,rows=r0::rest:=by
    cases rows with
    |nil=>simp at hl;omega
    |cons a r=>exact ⟨a,r,rfl⟩
   rw [show (0:Int)=((0:Nat):Int) from rfl]
   refine AE (B2 e5 (k:=0) (a:=Au W r0) rfl) ?_
   simp
   refine AU (by simp) fun l5 h5 s5 e6 _ _=>?_
   refine AE (ZbG) ?_
   refine AE (ZaK e6 (by omega)) ?_
   refine AU (by simp;unfold sizeLine;omega) fun l6 h6 s6 e7 _ _=>?_
   simp [Kg e7]
   have:D.tup (List.replicate H (Au W r0))=bD H W fun _=>r0:=by
    unfold bD
    congr 1
    apply Jx
    ·simp
    ·intro i h1 h2;simp
   rw [this]
   exact q _ _ ((x5.sm s5).sm s6) ((z5.trans (CA s5)).trans (CA s6))
  ·simp [h3,Kg e5]
   rw [Zdv hl]
   exact q _ _ x5 z5
def OR (c:Str):List V:=[.bl (BE c "NoBoard"),.bl (BE c "NoLine"),.bl (BE c "NoSwitching"),.bl (BE c "NoNumber"),.bl (BE c "Unlike"),.bl (BE c "NoNet"),.bl (BE c "NoPlace"),.bl (BE c "NoText"),.bl (BE c "NoRow"),.bl (BE c "TooMany")]
def Zdx:List D:=[.str "board",.str "line",.str "switching",.str "number",.str "unlike",.str "net",.str "place",.str "text",.str "row"]
theorem OT {c w t:Str} {j:Nat} {h:HD} (hc:c∈excNames) (hn:Hb (.bl true) (OR c)=1) (h9:BE c "TooMany"=false) (hj:Kw (.bl true) (OR c)=some j) (hw:Zdx[j]?=some (.str w)) (hz:((("! ":String):Str)).length+w.length≤1000) (ht:((("! ":String):Str))++w=t):Pu (Cs [.exc c []] h) h (.str t):=by
 have i0:∀h,AM (.exc c []) (.glo "NoBoard") h=.ok (.bl (BE c "NoBoard")) h:=fun h=>Ep hc (by decide +kernel)
 have i1:∀h,AM (.exc c []) (.glo "NoLine") h=.ok (.bl (BE c "NoLine")) h:=fun h=>Ep hc (by decide +kernel)
 have i2:∀h,AM (.exc c []) (.glo "NoSwitching") h=.ok (.bl (BE c "NoSwitching")) h:=fun h=>Ep hc (by decide +kernel)
 have i3:∀h,AM (.exc c []) (.glo "NoNumber") h=.ok (.bl (BE c "NoNumber")) h:=fun h=>Ep hc (by decide +kernel)
 have i4:∀h,AM (.exc c []) (.glo "Unlike") h=.ok (.bl (BE c "Unlike")) h:=fun h=>Ep hc (by decide +kernel)
 have i5:∀h,AM (.exc c []) (.glo "NoNet") h=.ok (.bl (BE c "NoNet")) h:=fun h=>Ep hc (by decide +kernel)
 have i6:∀h,AM (.exc c []) (.glo "NoPlace") h=.ok (.bl (BE c "NoPlace")) h:=fun h=>Ep hc (by decide +kernel)
 have i7:∀h,AM (.exc c []) (.glo "NoText") h=.ok (.bl (BE c "NoText")) h:=fun h=>Ep hc (by decide +kernel)
 have i8:∀h,AM (.exc c []) (.glo "NoRow") h=.ok (.bl (BE c "NoRow")) h:=fun h=>Ep hc (by decide +kernel)
 have i9:∀h,AM (.exc c []) (.glo "TooMany") h=.ok (.bl (BE c "TooMany")) h:=fun h=>Ep hc (by decide +kernel)
 have iv:∀h,AM (.exc c []) (.ty "ValueError") h=.ok (.bl true) h:=fun h=>ZbK hc
 change Wp (As 3 TJ [.exc c []] h) _
 refine Eq.mpr AH ?_
 simp [-Ah,i0,i1,i2,i3]
 refine AU (by simp) fun l1 h1 s1 e1 _ _=>?_
 refine Eq.mpr Ah ?_
 simp [-Ah,i4,i5,i6,i7]
 refine AU (by simp) fun l2 h2 s2 e2 _ _=>?_
 refine AE (Kz (s2 _ _ e1) e2) ?_
 refine AU (by simp) fun l3 h3 s3 e3 _ _=>?_
 refine Eq.mpr Ah ?_
 simp [-Ah,i8,i9]
 refine AU (by simp) fun l4 h4 s4 e4 _ _=>?_
 refine AE (Kz (s4 _ _ e3) e4) ?_
 refine AU (by simp) fun l5 h5 s5 e5 _ _=>?_
 refine Eq.mpr Ah ?_
 simp [-Ah,iv,CL e5]
 refine AE ((ZbM (vs:=OR c) e5 rfl rfl).trans (by rw [hn])) ?_
 simp [-Ah]
 refine Eq.mpr Ah ?_
 simp [-Ah]
 rw [show (9:Int)=((9:Nat):Int) from rfl]
 refine AE (B2 e5 (k:=9) rfl) ?_
 simp [-Ah,h9]
 refine Eq.mpr Ah ?_
 simp [-Ah]
 refine AU (by simp) fun l6 h6 s6 e6 _ _=>?_
 refine Eq.mpr Ah ?_
 simp [CL (s6 _ _ e5)]
 refine AE (ZbN (s6 _ _ e5) rfl rfl hj) ?_
 simp only [B0]
 refine AE (B2 e6 hw) ?_
 simp only [B0]
 refine AE (ZbL hz) ?_
 exact ⟨congrArg D.str ht,((((s1.trans s2).trans s3).trans s4).trans s5).trans s6⟩
theorem p_kind_board {h:HD}:Pu (Cs [.exc "NoBoard" []] h) h (.str "! board"):=OT (w:="board") (j:=0) (by decide +kernel) (by decide +kernel) (by decide +kernel) (by decide +kernel) rfl (by decide +kernel) (by decide +kernel)
theorem Zdy {j:Nat} {g:Str} {cs:List Nat} {f:ME} {ρ:Ag} {h:HD} {ds:List D} {Q:D→HD→Prop} (ht:h[j]?=some (.tabn g)) (hd:AC (cs.map fun j=>(ρ[j]?).join)=some ds) (he:Er (f (ds.map some) h) h "NoBoard") (q:∀h',Sm h h'→Q (.str "! board") h'):Wp (DB j g cs Cs f ρ h) Q:=
 NU ht hd (he.we fun h1 s1=>⟨by decide +kernel,[],rfl,p_kind_board.wp fun h2 s2=>q h2 (s1.trans s2)⟩)
theorem p_kind_line {h:HD}:Pu (Cs [.exc "NoLine" []] h) h (.str "! line"):=OT (w:="line") (j:=1) (by decide +kernel) (by decide +kernel) (by decide +kernel) (by decide +kernel) rfl (by decide +kernel) (by decide +kernel)
theorem Zdz {j:Nat} {g:Str} {cs:List Nat} {f:ME} {ρ:Ag} {h:HD} {ds:List D} {Q:D→HD→Prop} (ht:h[j]?=some (.tabn g)) (hd:AC (cs.map fun j=>(ρ[j]?).join)=some ds) (he:Er (f (ds.map some) h) h "NoLine") (q:∀h',Sm h h'→Q (.str "! line") h'):Wp (DB j g cs Cs f ρ h) Q:=
 NU ht hd (he.we fun h1 s1=>⟨by decide +kernel,[],rfl,p_kind_line.wp fun h2 s2=>q h2 (s1.trans s2)⟩)
theorem p_kind_row {h:HD}:Pu (Cs [.exc "NoRow" []] h) h (.str "! row"):=OT (w:="row") (j:=8) (by decide +kernel) (by decide +kernel) (by decide +kernel) (by decide +kernel) rfl (by decide +kernel) (by decide +kernel)
theorem Vb {j:Nat} {g:Str} {cs:List Nat} {f:ME} {ρ:Ag} {h:HD} {ds:List D} {Q:D→HD→Prop} (ht:h[j]?=some (.tabn g)) (hd:AC (cs.map fun j=>(ρ[j]?).join)=some ds) (he:Er (f (ds.map some) h) h "NoRow") (q:∀h',Sm h h'→Q (.str "! row") h'):Wp (DB j g cs Cs f ρ h) Q:=
 NU ht hd (he.we fun h1 s1=>⟨by decide +kernel,[],rfl,p_kind_row.wp fun h2 s2=>q h2 (s1.trans s2)⟩)
section
variable {H W:Nat} {h:HD} {f:Nat→Nat→Bool} {r:Nat→Bool}
theorem ZdA (hh:1≤H∧H≤8) (hw:1≤W∧W≤8):Pu (Lc [bD H W f] h) h (bD W H fun i j=>f j i):=by
 change Wp (As 1 (Uq) [bD H W f] h) _
 refine Eq.mpr (AH) ?_
 simp
 refine (Lj hh hw).wp fun h1 s1=>?_
 refine Pu.wp (G0 (src:=[]) (xs:=List.range W) (φ:=fun j=>.int ((j:Nat):Int)) (fun j=>Au H fun i=>f i j) (fun j=>[some (.int ((j:Nat):Int)),some (bD H W f)]) ?_ (fun x _=>rfl) (fun x hx h' s'=>?_) (sz hw.2)) fun h2 s2=>?_
 ·simp [B3,Jd hh.1,E7]
  rw [ES (by omega)]
  simp [Sm.refl,Bj]
 ·simp [Pu]
  refine (G0 (src:=[]) (xs:=List.range H) (φ:=fun i=>Au W (f i)) (fun i=>lit (f i x)) (fun i=>[some (Au W (f i)),some (.int ((x:Nat):Int))]) ?_ (fun x _=>rfl) (fun y hy h' s'=>?_) (sz hh.2))
  ·simp [B3,bD,Sm.refl,Bj]
  ·simp [Pu,Au]
   rw [Ig (by simpa using hx)]
   simp [Sm.refl]
 ·exact ⟨rfl,s1.trans s2⟩
theorem Vc:Cw (Au W r) h=.ok (.int (A9 W r)) h:=Zad
theorem ZdB (hh:1≤H∧H≤8) (hw:1≤W∧W≤8):Pu (Lb [bD H W f] h) h (.tup ((List.range H).map fun i=>.int (A9 W (f i)))):=by
 change Wp (As 1 (Ul) [bD H W f] h) _
 rw [AH]
 simp
 refine (Lj hh hw).wp fun h1 s1=>?_
 refine Pu.wp (G0 (src:=[]) (xs:=List.range H) (φ:=fun i=>Au W (f i)) (fun i=>.int (A9 W (f i))) (fun i=>[some (Au W (f i))]) Ii (fun x _=>rfl) (fun x hx h' s'=>?_) (sz hh.2)) fun h2 s2=>?_
 ·simp [Pu,Vc,Sm.refl]
 ·exact ⟨rfl,s1.trans s2⟩
theorem ZdC (hh:1≤H∧H≤8) (hw:1≤W∧W≤8):Pu (Ld [bD H W f] h) h (.tup ((List.range W).map fun j=>.int (A9 H fun i=>f i j))):=by
 change Wp (As 1 (Ut) [bD H W f] h) _
 rw [AH]
 simp
 refine (ZdA hh hw).wp fun h1 s1=>?_
 refine (ZdB hw hh).wp fun h2 s2=>?_
 simp [s1.trans s2]
end
theorem Vd {a n:Nat} {h:HD} (ha:a≤1000) (hn:n≤1000):Ia [.int (a:Int),.int (n:Int)] h=.ok ((List.range (n - a)).map fun k=>D.int ((a:Int)+((k:Nat):Int)),[]) h:=by
 have:((-(2^62):Int)≤(a:Int)∧(a:Int)<2^62)∧(-(2^62):Int)≤(n:Int)∧(n:Int)<2^62:=by omega
 unfold Ia
 simp only
 rw [if_pos this]
 have e:((n:Int) - (a:Int)).toNat=n - a:=by omega
 rw [e]
 simp [Fu]
theorem Jg {n k x:Nat} {xs:List Nat} (h:(List.range n).drop k=x::xs):x=k∧k<n∧xs=(List.range n).drop (k+1):=by
 have hk:k<n:=by
  have:=congrArg List.length h
  simp at this
  omega
 rw [Jr (by simpa using hk)] at h
 simp at h
 exact ⟨h.1.symm,hk,h.2.symm⟩
theorem Jh {n k:Nat} (hk:k≤n) (h:(List.range n).drop k=[]):k=n:=by
 have:=congrArg List.length h
 simp at this
 omega
def BO (W:Nat) (c:Nat→Int):D:=.tup ((List.range W).map fun j=>.int (c j))
theorem Ve {W:Nat} {c c':Nat→Int} (h:∀j,j<W→c j=c' j):BO W c=BO W c':=by
 unfold BO
 congr 1
 exact FN fun j hj=>by rw [h j (by simpa using hj)]
theorem ZdD {W:Nat} {c:Nat→Int} {r:Nat→Bool} {h:HD} (hw:W≤8):Pu (KQ [BO W c,Au W r] h) h (BO W fun j=>c j+1 - 2*(if r j then 1 else 0)):=by
 change Wp (As 2 Tg [BO W c,Au W r] h) _
 rw [AH]
 simp
 refine Pu.wp (G0 (src:=[]) (xs:=List.range W) (φ:=fun j=>.tup [.int (c j),lit (r j)]) (fun j=>.int (c j+1 - 2*(if r j then 1 else 0))) (fun j=>[some (.int (c j)),some (lit (r j))]) ?_ (fun x _=>rfl) (fun x hx h' s'=>?_) (sz hw)) fun h2 s2=>?_
 ·simp [B3,BO,Au]
  rw [ZaG (e:=fun j=>.int (c j)) (e':=fun j=>lit (r j)) Rc Rc]
  simp [Sm.refl,Bj]
 ·simp [Pu,lit]
  rw [Ij (by decide) (by decide)]
  simp [Sm.refl]
 ·exact ⟨rfl,s2⟩
theorem Vf {W H:Nat} {c:Nat→Int} {h:HD} (hw:W≤8):Pu (Hm [BO W c,.int (H:Nat)] h) h (.int (B4 W H c)):=by
 change Wp (As 2 Ti [BO W c,.int (H:Nat)] h) _
 rw [AH]
 simp
 refine Pu.wp (Ks (src:=[]) (xs:=List.range W) (φ:=fun j=>.int (c j)) (fun j=>if (H:Int) - c j<c j then (H:Int) - c j else c j) (fun j=>[some (.int (c j)),some (.int (H:Nat))]) Ii (fun x _=>rfl) (fun x hx h' s'=>?_) (sz hw)) fun h2 s2=>?_
 ·simp [Pu,Sm.refl]
 ·exact ⟨rfl,s2⟩
theorem ZdE {n m:Nat} {r r':Nat→Bool} (hm:m<n) (h:∀i,i≠m→r' i=r i) (hn:r' m=!r m):A9 n r'=A9 n r+1 - 2*(if r m then 1 else 0):=by
 have s1:∀k (r:Nat→Bool),A9 (k+1) r=A9 k r+if r k then 1 else 0:=fun k r=>by
  unfold A9
  rw [De,Ea,Fb]
  simp
 have key:∀k:Nat,(k≤m→A9 k r'=A9 k r)∧(m<k→A9 k r'=A9 k r+1 - 2*(if r m then 1 else 0)):=fun k=>by
  induction k with
  |zero=>exact ⟨fun _=>rfl,fun z=>by omega⟩
  |succ k ih=>
   rw [s1,s1]
   refine ⟨fun hk=>?_,fun hk=>?_⟩
   ·rw [ih.1 (by omega),h k (by omega)]
   ·by_cases hz:k=m
    ·subst hz
     rw [ih.1 (by omega),hn]
     cases r k<;>simp<;>omega
    ·rw [ih.2 (by omega),h k hz]
     omega
 exact (key n).2 hm
theorem ZdF {H n:Nat} {f:Nat→Nat→Bool} {R:Nat→Bool} {j:Nat} (hn:n<H) (h0:R n=false):cc H f (ext n R) j=cc H f R j+1 - 2*(if f n j then 1 else 0):=by
 unfold cc
 rw [ZdE (r:=fun i=>Bool.xor (f i j) (R i)) hn (fun i hi=>by simp [ext,hi]) (by simp [ext,h0])]
 simp [h0]
theorem ZdG {n:Nat} {R:Nat→Bool}:Ax (n+1) (ext n R)=.tup (((List.range n).filter R).map (fun i=>D.int ((i:Nat):Int))++[.int ((n:Nat):Int)]):=by
 unfold Ax
 rw [De,List.filter_append]
 have e1:(List.range n).filter (ext n R)=(List.range n).filter R:=List.filter_congr fun i hi=>by
  have:i<n:=by simpa using hi
  simp [ext,show i≠n by omega]
 have e2:[n].filter (ext n R)=[n]:=by simp [ext]
 rw [e1,e2]
 simp
theorem ZdH {n:Nat} {R:Nat→Bool} (h:R n=false):Ax (n+1) R=Ax n R:=by
 unfold Ax
 rw [De,List.filter_append]
 simp [h]
theorem OU {k:Nat} (hk:k≤7):(LL 1 k).length≤128:=by
 rw [NH]
 exact Gx (n:=2) (by decide) hk
theorem Ll {n:Nat} (h:n≤1000):n≤sizeLine:=by unfold sizeLine;omega
def DJ (H W k:Nat) (f:Nat→Nat→Bool):List D:=(LL 1 k).map fun R=>.tup [Ax (k+1) R,BO W (cc H f R)]
def LwI (H W:Nat) (f:Nat→Nat→Bool) (h:HD) (xs:List Nat) (ρ:Ag) (h':HD):Prop:=∃(k l:Nat) (x:Option D),xs=(List.range (H - 1)).drop k∧k≤H - 1∧ρ=[some (bD H W f),some (.loc l),x]∧Sm h h'∧h'[l]?=some (.lst (DJ H W k f))
theorem ZdI {n k:Nat} {e:Nat→D} {i:Int} {h:HD} (hi:i=(k:Int)) (hk:k<n):Aj (.tup ((List.range n).map e)) (.int i) h=.ok (e k) h:=by
 subst hi;exact Ig hk
theorem Vg {H W:Nat} {f:Nat→Nat→Bool} {h:HD} (hh:1≤H∧H≤8) (hw:1≤W∧W≤8):∃l h1,DX [bD H W f] h=.ok (.loc l) h1∧Sm h h1∧h1[l]?=some (.lst (DJ H W (H - 1) f)):=by
 suffices hs:Wp (DX [bD H W f] h) (fun d h1=>∃l,d=.loc l∧Sm h h1∧h1[l]?=some (.lst (DJ H W (H - 1) f))) by
  obtain ⟨d,h1,e,l,rfl,q⟩:=hs.ex
  exact ⟨l,h1,e,q⟩
 change Wp (As 3 (Uz) [bD H W f] h) _
 rw [AH]
 simp [-Ah]
 refine (ZdC hh hw).wp fun h1 s1=>?_
 refine AU (by simp) fun l h2 s2 e2 _ _=>?_
 rw [Ah]
 simp [-Ah]
 refine Dw (src:=[]) (xs:=List.range (H - 1)) (fun k=>.int (1+(k:Int))) (LwI H W f h) ?_ (fun ys ρ h' _=>Dj) ?_ ?_
 ·have eH:AJ (bD H W f) h2=.ok (.int ((H:Nat):Int)) h2:=by simp [bD]
  simp [eH]
  rw [show (1:Int)=((1:Nat):Int) from rfl,Vd (by omega) (by omega)]
  simp
  refine ⟨0,l,none,by simp,by omega,rfl,s1.trans s2,?_⟩
  rw [e2]
  simp [DJ,LL,Ax]
  exact Ve (W:=W) fun j _=>G8 fun i _=>by simp
 ·rintro x xs ρ h' ⟨k,l',y,ex,hk,rfl,s',e'⟩
  obtain ⟨rfl,hk',rfl⟩:=Jg ex.symm
  refine ⟨_,rfl,?_⟩
  simp
  refine EU (src:=[(l',DJ H W x f)]) (xs:=LL 1 x) (φ:=fun R=>.tup [Ax (x+1) R,BO W (cc H f R)]) (fun _=>true) (fun R=>.tup [Ax (x+1+1) (ext (1+x) R),BO W (cc H f (ext (1+x) R))]) (fun R=>[some (Ax (x+1) R),some (BO W (cc H f R)),some (.int (1+(x:Int))),some (bD H W f)]) ?_ (Ll (BW (OU (by omega)) (by decide))) (fun R _=>rfl) (fun R _ h2 s2=>(.ok:Pu (.ok true h2) h2 true)) (fun R hR _ h2 s2=>?_) fun l3 h3 s3 e3=>?_
  ·simp [Iq e',DJ]
   exact ⟨.refl _,fun h2 s2=>GR (s2 _ _ e')⟩
  ·have h0:R (1+x)=false:=G9 hR _ (by omega)
   simp [Pu]
   unfold Ax
   rw [ZaJ (Ll (by
    have:=Js R (List.range (x+1))
    simp at this ⊢
    omega))]
   simp
   unfold bD
   rw [ZdI (k:=1+x) (by omega) (by omega)]
   simp
   refine (ZdD hw.2).wp fun h3 s3=>?_
   simp [s3]
   refine ⟨?_,Ve fun j _=>(ZdF (by omega) h0).symm⟩
   have e1:Ax (x+1+1) (ext (1+x) R)=Ax (x+1+1) (ext (x+1) R):=by rw [Nat.add_comm 1 x]
   have e2:=e1.trans (ZdG (n:=x+1) (R:=R))
   unfold Ax at e2
   have e3:=D.tup.inj e2
   rw [e3,show (1+(x:Int))=(((x+1:Nat)):Int) from by omega]
  ·rw [Fw] at e3
   rw [ZaI (s3 _ _ e') e3]
   have hlen:=OU (k:=x) (by omega)
   refine AU (Ll (by simp [DJ];omega)) fun l4 h4 s4 e4 _ _=>?_
   simp only [B1]
   refine ⟨x+1,l4,_,rfl,by omega,rfl,s'.trans (s3.trans s4),?_⟩
   rw [e4]
   have ea:DJ H W x f=(LL 1 x).map fun R=>.tup [Ax (x+1+1) R,BO W (cc H f R)]:=FN fun R hR=>by rw [ZdH (n:=x+1) (G9 hR _ (by omega))]
   rw [ea]
   show _=some (Cell.lst ((LL 1 (x+1)).map fun R=>.tup [Ax (x+1+1) R,BO W (cc H f R)]))
   rw [LL,Ea,DM]
   rfl
 ·rintro ρ h' ⟨k,l',y,ex,hk,rfl,s',e'⟩
  have:k=H - 1:=Jh hk ex.symm
  subst this
  simp
  exact ⟨s',e'⟩
section
variable {H W:Nat} {f:Nat→Nat→Bool} {p q:Nat→Bool} {h:HD}
theorem Vh {ρ:Ag} {l:Nat} {h1:HD} (e:DX [bD H W f] h=.ok (.loc l) h1) (s:Sm h h1) (el:h1[l]?=some (.lst (DJ H W (H - 1) f))):
 B3 (By (Ae DX (Aa (Ab 0) Ac)) (some (bD H W f)::ρ) h) h ((LL 1 (H - 1)).map fun R=>.tup [Ax (H - 1+1) R,BO W (cc H f R)]) [(l,DJ H W (H - 1) f)]:=by
 have:By (Ae DX (Aa (Ab 0) Ac)) (some (bD H W f)::ρ) h=(DX [bD H W f] h).bind Ft:=rfl
 rw [this]
 exact ZaM e s el
theorem Vi (hh:1≤H∧H≤8):(LL 1 (H - 1)).length≤sizeLine:=Ll (BW (OU (by omega)) (by decide))
theorem Lm (hh:1≤H∧H≤8) (hw:1≤W∧W≤8):Pu (E5 [bD H W f] h) h (.int (A4 H W f)):=by
 change Wp (As 1 (UB) [bD H W f] h) _
 rw [AH]
 simp
 obtain ⟨l,h1,e,s1,el⟩:=Vg (f:=f) (h:=h) hh hw
 refine Pu.wp (ZaL (src:=[(l,DJ H W (H - 1) f)]) (xs:=LL 1 (H - 1)) (φ:=fun R=>.tup [Ax (H - 1+1) R,BO W (cc H f R)]) (fun R=>B4 W H (cc H f R)) (fun R=>[some (Ax (H - 1+1) R),some (BO W (cc H f R)),some (bD H W f)]) (Vh e s1 el) (fun R _=>rfl) (fun R hR h' s'=>?_) (Vi hh) Rn) fun h2 s2=>?_
 ·simp [Pu,DH]
  exact Vf hw.2
 ·exact ⟨rfl,s2⟩
end
theorem Vj:∀n a b:Nat,a≤n→b≤n→(a|||b)=(a ^^^b)+(a&&& b)
 |0,a,b,ha,hb=>by
  obtain rfl:a=0:=by omega
  obtain rfl:b=0:=by omega
  rfl
 |n+1,a,b,ha,hb=>by
  have ih:=Vj n (a / 2) (b / 2) (by omega) (by omega)
  rw [←Nat.or_div_two,←Nat.xor_div_two,←Nat.and_div_two] at ih
  have h1:=@Nat.or_mod_two_eq_one a b
  have h2:=@Nat.and_mod_two_eq_one a b
  have h3:=@Nat.xor_mod_two_eq_one a b
  rcases Nat.mod_two_eq_zero_or_one a with e |e<;>rcases Nat.mod_two_eq_zero_or_one b with e' |e'<;>omega
theorem bor {a b:Nat}:Builtin.bitOr (a:Int) (b:Int)=((a|||b:Nat):Int):=by
 have n1:∀x:Nat,decide (0≤Builtin.bitNot (x:Int))=false:=fun x=>by simp [Builtin.bitNot];omega
 have n2:∀x:Int,Builtin.bitNot (Builtin.bitNot x)=x:=fun x=>by simp [Builtin.bitNot];omega
 unfold Builtin.bitOr Builtin.bitAnd
 rw [n1,n1]
 simp only [n2,Ju]
theorem bx {a b:Nat}:Builtin.bitXor (a:Int) (b:Int)=((a ^^^b:Nat):Int):=by
 have:=Vj (a+b) a b (by omega) (by omega)
 have e:Builtin.bitAnd (a:Int) (b:Int)=((a&&& b:Nat):Int):=rfl
 unfold Builtin.bitXor
 rw [bor,e]
 omega
def Ct (n:Nat):Int:=A9 8 fun j=>n.testBit j
theorem ZdJ:∀n<256,Ct n=Ct (n / 2)+((n % 2:Nat):Int):=by decide +kernel
def Bs (W:Nat) (r:Nat→Bool):Nat:=((List.range W).map fun j=>(if r j then 1 else 0)*2^j).sum
theorem Vk {W:Nat} {r:Nat→Bool}:Bs (W+1) r=(if r W then 2^W else 0)+Bs W r:=by
 unfold Bs
 rw [De,Ea,Fb]
 simp [Nat.add_comm]
 by_cases e:r W=true<;>simp [e]
theorem Ji (r:Nat→Bool):∀W,Bs W r<2^W∧∀j,(Bs W r).testBit j=(decide (j<W)&&r j)
 |0=>by simp [Bs]
 |W+1=>by
  obtain ⟨h1,h2⟩:=Ji r W
  rw [Vk]
  cases e:r W with
  |false=>
   simp only [Bu,if_false,Nat.zero_add]
   refine ⟨AR h1 (Gx (by decide) (by omega)),fun j=>?_⟩
   rw [h2 j]
   by_cases z:j=W
   ·subst z;simp [e]
   ·have:decide (j<W)=decide (j<W+1):=by simp;omega
    rw [this]
  |true=>
   simp only [if_true]
   have h3:2^W+Bs W r<2^(W+1):=by rw [Nat.pow_succ];omega
   refine ⟨h3,fun j=>?_⟩
   rcases Nat.lt_trichotomy j W with z |z |z
   ·rw [Nat.testBit_two_pow_add_gt z,h2 j]
    have:decide (j<W)=decide (j<W+1):=by simp;omega
    rw [this]
   ·subst z
    rw [Nat.testBit_two_pow_add_eq,h2 j]
    simp [e]
   ·rw [Nat.testBit_lt_two_pow (AR h3 (Gx (by decide) z))]
    simp;omega
theorem Vl {n:Nat} {r:Nat→Bool}:∀{m:Nat},n≤m→(∀j,n≤j→r j=false)→A9 m r=A9 n r
 |0,h,_=>by have:n=0:=by omega
            rw [this]
 |m+1,h,hr=>by
  by_cases z:n=m+1
  ·rw [z]
  ·rw [←Vl (m:=m) (by omega) hr]
   unfold A9
   rw [De,Ea,Fb]
   simp [hr m (by omega)]
theorem ZdK {W c:Nat} {r:Nat→Bool} (hW:W≤8) (hc:c<2^W):Ct (Bs W r ^^^c)=A9 W fun j=>Bool.xor (r j) (c.testBit j):=by
 unfold Ct
 rw [Vl (n:=W) hW]
 ·refine G8 fun j hj=>?_
  rw [Nat.testBit_xor,(Ji r W).2 j]
  simp [hj]
 ·intro j hj
  rw [Nat.testBit_xor,(Ji r W).2 j,Nat.testBit_lt_two_pow (AR hc (Gx (by decide) hj))]
  simp
  omega
theorem ZdL {H W:Nat} {f:Nat→Nat→Bool} (hH:1≤H) (hW:1≤W):EV ((List.range (2^W)).map fun c=>B4 H W (cc W (fun j i=>f i j) fun j=>c.testBit j))=A4 H W f:=by
 have hp:0<2^W:=Nat.pow_pos (by decide)
 rw [←ZaV hH hW]
 apply Int.le_antisymm
 ·obtain ⟨R,hR,e⟩:=Iu (H:=W) (W:=H) (f:=fun i j=>f j i)
  rw [←e]
  have hc:=Ji R W
  refine Ny (qaL.mpr ⟨Bs W R,qb8.mpr hc.1,?_⟩)
  have:(cc W (fun j i=>f i j) fun j=>(Bs W R).testBit j)=cc W (fun j i=>f i j) R:=by
   funext i
   exact Rj fun j hj=>by rw [hc.2 j];simp [hj]
  rw [this]
 ·have hne:((List.range (2^W)).map fun c=>B4 H W (cc W (fun j i=>f i j) fun j=>c.testBit j))≠[]:=by
   intro e
   have:=congrArg List.length e
   simp at this
  obtain ⟨c,hc,e⟩:=qaL.mp (Nx hne)
  rw [←e,←NG]
  exact NI hW _ _
theorem OV {n:Nat} (hn:n≤1000):n≤sizeLine:=by unfold sizeLine;omega
theorem Sm.put {h h':HD} {l:Nat} {c:Cell} (s:Sm h h') (hl:h.length≤l):Sm h (h'.set l c):=fun i x e=>by
 rw [BG (by have:=(qa2.mp e).1;omega)]
 exact s i x e
theorem icd {a b:Nat}:((a:Nat):Int) / ((b:Nat):Int)=((a / b:Nat):Int):=rfl
theorem icm {a b:Nat}:((a:Nat):Int) % ((b:Nat):Int)=((a % b:Nat):Int):=rfl
def Gs (n:Nat):D:=.int (Ct n)
def OnI (l:Nat) (h:HD) (xs:List Nat) (ρ:Ag) (h':HD):Prop:=∃(j:Nat) (y:Option D),xs=(List.range 255).drop j∧j≤255∧ρ=[some (.loc l),y]∧Sm h h'∧h'[l]?=some (.lst ((List.range (j+1)).map Gs))
theorem ZdM {h:HD} {Q:D→HD→Prop} (q:∀l h',Sm h h'→h.length≤l→h'[l]?=some (.lst ((List.range 256).map Gs))→Q (.loc l) h'):Wp (IT [] h) Q:=by
 change Wp (As 2 TN [] h) _
 refine Eq.mpr AH ?_
 simp [-Ah]
 refine AU (by simp) fun l h1 s1 e1 el _=>?_
 refine Eq.mpr Ah ?_
 refine Eq.mpr A8 ?_
 refine Dw (src:=[]) (xs:=List.range 255) (fun k=>.int (1+(k:Int))) (OnI l h) ?_ (fun ys ρ h' _=>Dj) ?_ ?_
 ·simp
  rw [show (1:Int)=((1:Nat):Int) from rfl,show (256:Int)=((256:Nat):Int) from rfl,Vd (by omega) (by omega)]
  exact ⟨rfl,0,_,rfl,by omega,rfl,s1,e1⟩
 ·rintro x xs ρ h2 ⟨j,y,ex,hj,rfl,s2,e2⟩
  obtain ⟨rfl,hk',rfl⟩:=Jg ex.symm
  refine ⟨_,rfl,?_⟩
  rw [show (1:Int)+(x:Int)=((x+1:Nat):Int) by omega]
  simp [-Int.natCast_add,CL e2]
  refine AE (QL (by decide) (by decide)) ?_
  rw [B0,show (2:Int)=((2:Nat):Int) from rfl,icd]
  have hd:(x+1) / 2<x+1:=by omega
  refine AE (B2 e2 (k:=(x+1) / 2) (a:=Gs ((x+1) / 2)) (by rw [Bv,Dc hd];rfl)) ?_
  rw [B0]
  refine AE (G1 (by decide)) ?_
  rw [B0,icm]
  unfold Gs
  refine AE (show Av (.int (Ct ((x+1) / 2))) (.int (((x+1) % 2:Nat):Int)) h2=.ok (.int (Ct ((x+1) / 2)+(((x+1) % 2:Nat):Int))) h2 from rfl) ?_
  rw [B0,←ZdJ (x+1) (by omega)]
  refine AE (El e2 (by simp;exact OV (by omega))) ?_
  have hl2:l<h2.length:=(qa2.mp e2).1
  simp [B1]
  refine ⟨x+1,_,rfl,by omega,rfl,Sm.put s2 (by omega),?_⟩
  rw [BV hl2,De (n:=x+1),Ea]
  rfl
 ·rintro ρ h2 ⟨j,y,ex,hj,rfl,s2,e2⟩
  have:j=255:=Jh hj ex.symm
  subst this
  simp
  exact q _ _ s2 (by omega) e2
theorem Vm {i:Int} {n:Nat} {h:HD} (hi:i.natAbs<18446744073709551616) (hn:n≤1000):Fj (.int i) (.int (n:Nat)) h=.ok (.int (i*2^n)) h:=by
 have:FY i (n:Int):=⟨by omega,by omega,by omega⟩
 simp only [Fj,LS.intD]
 rw [if_pos this]
 simp
theorem Vn {r:Nat→Bool}:∀W:Nat,((List.range W).map fun j=>(if r j then (1:Int) else 0)*2^j).sum=((Bs W r:Nat):Int)
 |0=>rfl
 |W+1=>by
  rw [De,Ea,Fb,Vn W,Vk]
  by_cases e:r W=true<;>simp [e]
  omega
theorem Vo {W:Nat} (hw:W≤8):2^W≤256:=Gx (n:=2) (by decide) hw
theorem ZdN {W N:Nat} {h:HD} (hw:W≤1000) (eN:2^W=N):Fj (.int 1) (.int (W:Nat)) h=.ok (.int (N:Nat)) h:=by
 rw [Vm (by decide) hw,Int.one_mul,←eN]
 congr 2
def lc (H W:Nat) (f:Nat→Nat→Bool) (c:Nat):Int:=B4 H W (cc W (fun j i=>f i j) fun j=>c.testBit j)
def FK (W:Nat) (f:Nat→Nat→Bool) (i:Nat):D:=.int ((Bs W (f i):Nat):Int)
section
variable {H W:Nat} {h:HD} {f:Nat→Nat→Bool}
inductive Vp (H W N l1 l3 l4:Nat) (f:Nat→Nat→Bool) (h:HD) (xs:List Nat) (ρ:Ag) (h':HD):Prop where
 |mk (j:Nat) (y z:Option D) (ex:xs=(List.range N).drop j) (hj:j≤N) (er:ρ=[some (bD H W f),some (.loc l1),some (.int (W:Nat)),some (.loc l3),some (.loc l4),y,z]) (s:Sm h h') (e1:h'[l1]?=some (.lst ((List.range 256).map Gs))) (e3:h'[l3]?=some (.lst ((List.range H).map (FK W f)))) (e4:h'[l4]?=some (.lst ((List.range j).map fun c=>.int (lc H W f c)))):Vp H W N l1 l3 l4 f h xs ρ h'
@[irreducible] noncomputable def Ln:MS:=Af (An 6 (AI [none,some 1,some 5] (By (Ab 3)) (AV 0) (A7) (Ad Aj (Ab 1) (Ad N9 (Ab 0) (Ab 2))))) (AY (BS (Ab 4) (Ae (Ai Cw) (Aa (AI [none,some 2] (By (Ab 6)) (AV 0) (A7) (Ae (Bc Fp) (Aa (Ab 0) (Aa (Ad DO (Ab 1) (Ab 0)) (Ac))))) (Ac)))))
theorem ZdO {c l1 l3 l4:Nat} {rows:List D} {y:Option D} {Q:Fl×Ag→HD→Prop} (hh:H≤8) (hw:W≤8) (hc:c<2^W) (e1:h[l1]?=some (.lst ((List.range 256).map Gs))) (e3:h[l3]?=some (.lst ((List.range H).map (FK W f)))) (e4:h[l4]?=some (.lst rows)) (hz:rows.length≤256)
 (q:∀z h1,Sm h h1→l4<h1.length→Q (.nx,[some (bD H W f),some (.loc l1),some (.int (W:Nat)),some (.loc l3),some (.loc l4),some (.int (c:Nat)),z]) (h1.set l4 (.lst (rows++[.int (lc H W f c)])))):
 Wp (Ln [some (bD H W f),some (.loc l1),some (.int (W:Nat)),some (.loc l3),some (.loc l4),some (.int (c:Nat)),y] h) Q:=by
 unfold Ln
 refine Eq.mpr A8 ?_
 refine Eq.mpr Nf ?_
 have hb:∀i,Bs W (f i) ^^^c<256:=fun i=>AR (Nat.xor_lt_two_pow (Ji (f i) W).1 hc) (Vo hw)
 refine EU (src:=[(l3,(List.range H).map (FK W f))]) (xs:=List.range H) (φ:=FK W f) (fun _=>true) (fun i=>.int (Ct (Bs W (f i) ^^^c))) (fun i=>[some (FK W f i),some (.loc l1),some (.int (c:Nat))]) ?_ (sz hh) (fun x _=>rfl) (fun x _ h' s'=>(.ok:Pu (.ok true h') h' true)) (fun i _ _ h' s'=>?_) fun l6 h6 s6 e6=>?_
 ·simp [Iq e3]
  exact ⟨.refl _,fun h' s'=>GR (s' _ _ e3)⟩
 ·simp only [Pu,Ng,Kd,Kc,FK,QF,B0]
  rw [bx]
  refine AE (B2 (s' _ _ e1) (k:=Bs W (f i) ^^^c) (a:=Gs (Bs W (f i) ^^^c)) (by rw [Bv,Dc (hb i)];rfl)) ?_
  exact ⟨rfl,.refl _⟩
 ·rw [Fw] at e6
  refine Eq.mpr Ah ?_
  simp [CL (s6 _ _ e4)]
  refine Pu.wp (Ks (src:=[(l6,(List.range H).map fun i=>.int (Ct (Bs W (f i) ^^^c)))]) (xs:=List.range H) (φ:=fun i=>.int (Ct (Bs W (f i) ^^^c))) (fun i=>if (W:Int) - Ct (Bs W (f i) ^^^c)<Ct (Bs W (f i) ^^^c) then (W:Int) - Ct (Bs W (f i) ^^^c) else Ct (Bs W (f i) ^^^c)) (fun i=>[some (.int (Ct (Bs W (f i) ^^^c))),some (.int (W:Nat))]) ?_ (fun x _=>rfl) (fun x hx h' s'=>?_) (sz hh)) fun h7 s7=>?_
  ·simp [B3,Iq e6]
   exact ⟨.refl _,fun h' s'=>GR (s' _ _ e6)⟩
  ·simp [Pu,Sm.refl]
  ·have es:((List.range H).map fun i=>if (W:Int) - Ct (Bs W (f i) ^^^c)<Ct (Bs W (f i) ^^^c) then (W:Int) - Ct (Bs W (f i) ^^^c) else Ct (Bs W (f i) ^^^c)).sum=lc H W f c:=by
    unfold lc B4
    refine Ge fun i _=>?_
    rw [ZdK hw hc]
    rfl
   rw [es]
   have e47:=s7 _ _ (s6 _ _ e4)
   refine AE (El e47 (OV (by omega))) ?_
   rw [B0]
   exact q _ h7 (s6.trans s7) (qa2.mp e47).1
theorem ZdP:Ox=Af (CG (CT [1,2]) (Am (Aa (Ae IT (Ac)) (Aa (Ae (Ai AJ) (Aa (Ad Aj (Ab 0) (mC (.int 0))) (Ac))) (Ac))))) (Af (An 3 (AI [none] (By (Ab 0)) (AV 0) (A7) (Ae (Ai Cw) (Aa (AI [none,none] (Em (Aa (Ab 0) (Ac))) (BQ 0 1) (A7) (Ad Fj (Ab 1) (Ab 0))) (Ac))))) (Af (An 4 (AN (Ac))) (Af (BI (BY (Aa (Ad Fj (mC (.int 1)) (Ab 2)) (Ac))) (AV 5) Ln) (Al (Ae (Ai (EW EV)) (Aa (Ab 4) (Ac))))))):=by unfold Ln;rfl
theorem Lo (hh:1≤H∧H≤8) (hw:1≤W∧W≤8):Pu (DU [bD H W f] h) h (.int (A4 H W f)):=by
 change Wp (As 7 (Ox) [bD H W f] h) _
 rw [ZdP]
 refine Eq.mpr AH ?_
 simp [-Ah]
 refine ZdM fun l1 h1 s1 hl1 e1=>?_
 simp [-Ah,Jd hh.1,E7]
 refine Eq.mpr Ah ?_
 refine Eq.mpr A8 ?_
 refine Eq.mpr Nf ?_
 refine EU (src:=[]) (xs:=List.range H) (φ:=fun i=>Au W (f i)) (fun _=>true) (FK W f) (fun i=>[some (Au W (f i))]) ?_ (sz hh.2) (fun x _=>rfl) (fun x _ h' s'=>(.ok:Pu (.ok true h') h' true)) (fun i _ _ h' s'=>?_) fun l3 h3 s3 e3=>?_
 ·simp [bD,Sm.refl,Bj]
 ·simp [Pu]
  refine Pu.wp (Ks (src:=[]) (xs:=List.range W) (φ:=fun j=>.tup [.int ((j:Nat):Int),lit (f i j)]) (fun j=>(if f i j then (1:Int) else 0)*2^j) (fun j=>[some (.int ((j:Nat):Int)),some (lit (f i j))]) ?_ (fun x _=>rfl) (fun x hx h' s'=>?_) (sz hw.2)) fun h7 s7=>?_
  ·simp [B3,Au,G7,Sm.refl,Bj]
  ·have hx:=qb8.mp hx
   simp only [Pu,Ng,Kd,Kc,lit,B0]
   refine AE (Vm (by split<;>decide) (by omega)) ?_
   exact ⟨rfl,.refl _⟩
  ·unfold FK
   rw [Vn]
   exact ⟨rfl,s7⟩
 rw [Fw] at e3
 refine Eq.mpr Ah ?_
 simp [-Ah]
 refine AU (by simp) fun l4 h4 s4 e4 el4 _=>?_
 refine Eq.mpr Ah ?_
 refine Eq.mpr A8 ?_
 obtain ⟨N,eN⟩:∃N,2^W=N:=⟨_,rfl⟩
 have hN:N≤256:=eN ▸ Vo hw.2
 have n1:l4≠l1:=by have:=(qa2.mp (s3 _ _ e1)).1;omega
 have n3:l4≠l3:=by have:=(qa2.mp e3).1;omega
 have hl4:h.length≤l4:=by have:=(s1.trans s3).len;omega
 refine Dw (src:=[]) (xs:=List.range N) (fun i=>.int ((i:Nat):Int)) (Vp H W N l1 l3 l4 f h) ?_ (fun ys ρ h' _=>Dj) ?_ ?_
 ·simp
  refine AE (ZdN (by omega) eN) ?_
  rw [B0,ES (by omega)]
  exact ⟨rfl,⟨0,_,_,by simp,by omega,rfl,(s1.trans s3).trans s4,s4 _ _ (s3 _ _ e1),s4 _ _ e3,e4⟩⟩
 ·rintro x xs ρ h5 ⟨j,y,z,ex,hj,rfl,s5,f1,f3,f4⟩
  obtain ⟨rfl,hk',rfl⟩:=Jg ex.symm
  refine ⟨_,rfl,?_⟩
  refine ZdO hh.2 hw.2 (by omega) f1 f3 f4 (by simp;omega) fun z h6 s6 hl=>?_
  refine ⟨x+1,_,_,rfl,by omega,rfl,Sm.put (s5.trans s6) hl4,?_,?_,?_⟩
  ·rw [BG n1];exact s6 _ _ f1
  ·rw [BG n3];exact s6 _ _ f3
  ·rw [BV hl,De,Ea];rfl
 ·rintro ρ h5 ⟨j,y,z,ex,hj,rfl,s5,f1,f3,f4⟩
  have:j=N:=Jh hj ex.symm
  subst this
  simp
  have hp:0<2^W:=Nat.pow_pos (by decide)
  refine AE (Re (ns:=(List.range j).map fun c=>lc H W f c) (by rw [f4,DM];rfl) (by simp;omega)) ?_
  rw [B0]
  refine ⟨?_,s5⟩
  rw [←eN]
  exact congrArg D.int (ZdL hh.1 hw.1)
end
section
variable {H W:Nat} {f:Nat→Nat→Bool} {p q:Nat→Bool} {h:HD}
theorem ZdQ {W H:Nat} {c:Nat→Int} {h:HD} (hw:W≤8):Pu (KR [BO W c,.int (H:Nat)] h) h (Ax W (DA H c)):=by
 change Wp (As 2 Tn [BO W c,.int (H:Nat)] h) _
 rw [AH]
 simp
 refine Pu.wp (QK (src:=[]) (xs:=List.range W) (φ:=fun j=>.tup [.int ((j:Nat):Int),.int (c j)]) (DA H c) (fun j=>.int ((j:Nat):Int)) (fun j=>[some (.int ((j:Nat):Int)),some (.int (c j)),some (.int (H:Nat))]) ?_ (fun x _=>rfl) (fun x hx h' s'=>?_) (fun x hx _ h' s'=>?_) (sz hw)) fun h2 s2=>?_
 ·simp [B3,BO,G7,Sm.refl,Bj]
 ·simp [Pu]
  rw [Ij (by decide) (by decide)]
  simp [Sm.refl,DA]
 ·simp [Pu,Sm.refl]
 ·exact ⟨rfl,s2⟩
theorem ZdR (hh:1≤H∧H≤8) (hw:1≤W∧W≤8):∃R∈LL 1 (H - 1),B4 W H (cc H f R)=A4 H W f∧∀h,Pu (Lf [bD H W f] h) h (Bq H W R (DA H (cc H f R))):=by
 have hne:(LL 1 (H - 1)).filter (fun R=>B4 W H (cc H f R)==A4 H W f)≠[]:=fun z=>by
  obtain ⟨R,hR,e⟩:=Iu (H:=H) (W:=W) (f:=f)
  have:=qcB.mp z R hR
  simp [e] at this
 obtain ⟨R,rest,eR⟩:∃R rest,(LL 1 (H - 1)).filter (fun R=>B4 W H (cc H f R)==A4 H W f)=R::rest:=by
  cases hc:(LL 1 (H - 1)).filter (fun R=>B4 W H (cc H f R)==A4 H W f) with
  |nil=>exact absurd hc hne
  |cons a r=>exact ⟨a,r,rfl⟩
 have hm:R∈(LL 1 (H - 1)).filter (fun R=>B4 W H (cc H f R)==A4 H W f):=by rw [eR];exact A1
 rw [qbV] at hm
 refine ⟨R,hm.1,by simpa using hm.2,fun h=>?_⟩
 change Wp (As 3 (UF) [bD H W f] h) _
 rw [AH]
 simp [-Ah]
 refine (Lm hh hw).wp fun h1 s1=>?_
 rw [Ah]
 simp [DH]
 obtain ⟨l,h2,e,s2,el⟩:=Vg (f:=f) (h:=h1) hh hw
 refine EU (src:=[(l,DJ H W (H - 1) f)]) (xs:=LL 1 (H - 1)) (φ:=fun R=>.tup [Ax (H - 1+1) R,BO W (cc H f R)]) (fun R=>B4 W H (cc H f R)==A4 H W f) (fun R=>.tup [Ax (H - 1+1) R,Ax W (DA H (cc H f R))]) (fun R=>[some (Ax (H - 1+1) R),some (BO W (cc H f R)),some (.int (H:Nat)),some (.int (A4 H W f))]) (Vh e s2 el) (Vi hh) (fun R _=>rfl) (fun R _ h' s'=>?_) (fun R _ _ h' s'=>?_) fun l3 h3 s3 e3=>?_
 ·simp [Pu]
  refine (Vf hw.2).wp fun h4 s4=>?_
  simp [s4]
 ·simp [Pu]
  refine (ZdQ hw.2).wp fun h4 s4=>?_
  simp [s4]
 ·rw [show (0:Int)=((0:Nat):Int) from rfl,B2 e3 (k:=0) (a:=.tup [Ax (H - 1+1) R,Ax W (DA H (cc H f R))]) (by rw [eR];rfl)]
  simp [s1.trans s3,Bq,show H - 1+1=H by omega]
end
theorem Vq {n:Nat} {e:Nat→D}:(List.range n).map e++[e n]=(List.range (n+1)).map e:=by simp [De]
def CY (f:Nat→Nat→Bool) (p q:Nat→Bool):Nat→Nat→Bool:=fun i j=>Bool.xor (f i j) (Bool.xor (p i) (q j))
inductive Vr (H W:Nat) (f:Nat→Nat→Bool) (p q:Nat→Bool) (h:HD) (l:Nat) (xs:List Nat) (ρ:Ag) (h':HD):Prop where
 |mk (k:Nat) (d4 d5 d6 d7 d8:Option D) (f0:xs=(List.range H).drop k) (f1:k≤H) (f2:ρ=[some (bD H W f),some (Ax H p),some (Ax W q),some (.loc l),d4,d5,d6,d7,d8]) (f3:Sm h h') (f4:h'[l]?=some (.lst ((List.range k).map fun i=>Au W (CY f p q i)))):Vr H W f p q h l xs ρ h'
inductive Vs (H W:Nat) (f:Nat→Nat→Bool) (p q:Nat→Bool) (h1:HD) (l k m:Nat) (xs:List Nat) (ρ:Ag) (h':HD):Prop where
 |mk (j:Nat) (d7 d8:Option D) (f0:xs=(List.range W).drop j) (f1:j≤W) (f2:ρ=[some (bD H W f),some (Ax H p),some (Ax W q),some (.loc l),some (.int (k:Nat)),some (Au W (f k)),some (.loc m),d7,d8]) (f3:Sm h1 h') (f4:h'[m]?=some (.lst ((List.range j).map fun j=>lit (CY f p q k j)))):Vs H W f p q h1 l k m xs ρ h'
theorem OW {H W:Nat} {f:Nat→Nat→Bool} {p q:Nat→Bool} {h:HD} (hh:1≤H∧H≤8) (hw:1≤W∧W≤8):Pu (EA [bD H W f,Ax H p,Ax W q] h) h (bD H W (CY f p q)):=by
 change Wp (As 9 TL [bD H W f,Ax H p,Ax W q] h) _
 refine Eq.mpr (AH) ?_
 simp [-Ah]
 refine AU (by simp) fun l h1 s1 e1 el _=>?_
 refine Eq.mpr (Ah) ?_
 simp [-Ah]
 refine Dw (src:=[]) (xs:=List.range H) (fun i=>.tup [.int ((i:Nat):Int),Au W (f i)]) (Vr H W f p q h l) ?_ (fun ys ρ h' _=>Dj) ?_ ?_
 ·simp [bD,G7]
  exact ⟨0,_,_,_,_,_,by simp,by omega,rfl,s1,e1⟩
 ·rintro x xs ρ h' ⟨k,d4,d5,d6,d7,d8,ex,hk,rfl,s,e⟩
  obtain ⟨rfl,hk',rfl⟩:=Jg ex.symm
  refine ⟨_,rfl,?_⟩
  simp [-Ah]
  refine AU (by simp) fun m h2 s2 e2 em _=>?_
  refine Eq.mpr (Ah) ?_
  simp [-Ah]
  have ll:=(qa2.mp e).1
  have hlm:l≠m:=by omega
  refine Dw (src:=[]) (xs:=List.range W) (fun j=>.tup [.int ((j:Nat):Int),lit (f x j)]) (Vs H W f p q h' l x m) ?_ (fun ys ρ h' _=>Dj) ?_ ?_
  ·simp [Au,G7]
   exact ⟨0,_,_,by simp,by omega,rfl,s2,e2⟩
  ·rintro y ys ρ h3 ⟨j,c7,c8,ey,hj,rfl,s3,e3⟩
   obtain ⟨rfl,hj',rfl⟩:=Jg ey.symm
   refine ⟨_,rfl,?_⟩
   simp [CL e3,Jf hk',Jf hj']
   have ev:∀(Q:D→HD→Prop),Q (lit (CY f p q x y)) h3→Wp (Av (lit (f x y)) (D.int (if p x=true then 1 else 0)) h3) fun a h1=>Wp (Av a (D.int (if q y=true then 1 else 0)) h1) fun a h1=>Wp (DP a (D.int 2) h1) Q:=by
    intro Q hQ
    have key:∀a b c:Bool,((if a then 1 else 0:Int)+(if b=true then 1 else 0)+(if c=true then 1 else 0)) % 2=if Bool.xor a (Bool.xor b c) then 1 else 0:=by decide
    have e:=G1 (i:=(if f x y then 1 else 0:Int)+(if p x=true then 1 else 0)+(if q y=true then 1 else 0)) (j:=2) (h:=h3) (by decide)
    rw [key] at e
    exact (show Wp (DP (.int ((if f x y then 1 else 0:Int)+(if p x=true then 1 else 0)+(if q y=true then 1 else 0))) (.int 2) h3) Q from e ▸ hQ)
   refine ev _ ?_
   refine AE (El e3 (by simp;unfold sizeLine;omega)) ?_
   have lm:=(qa2.mp e3).1
   simp [B1]
   refine ⟨y+1,_,_,rfl,by omega,rfl,Sm.put s3 (by omega),?_⟩
   rw [BV lm,←Vq]
  ·rintro ρ h3 ⟨j,c7,c8,ey,hj,rfl,s3,e3⟩
   have:=Jh hj ey.symm
   subst this
   have e':=s3 _ _ e
   have ll':=(qa2.mp e').1
   simp [CL e',Kg e3]
   refine AE (El e' (by simp;unfold sizeLine;omega)) ?_
   simp [B1]
   refine ⟨x+1,_,_,_,_,_,rfl,by omega,rfl,Sm.put (s.trans s3) (by omega),?_⟩
   rw [BV ll',←Vq]
   rfl
 ·rintro ρ h' ⟨k,d4,d5,d6,d7,d8,ex,hk,rfl,s,e⟩
  have:=Jh hk ex.symm
  subst this
  simp [Kg e]
  exact ⟨rfl,s⟩
section
variable {H W:Nat} {f:Nat→Nat→Bool} {p q:Nat→Bool} {h:HD}
end
def BB (n:Nat):D→Bool
 |.int i=>decide (0≤i)&&decide (i≤(n:Int) - 1)
 |_=>false
theorem Vt {d:D} {n:Nat} {h:HD} (p:Plain h d):Pu (FH [d,.int 0,.int ((n:Int) - 1)] h) h (.bl (BB n d)):=by
 cases hw:Hs d with
 |false=>
  have e:BB n d=false:=by cases d<;>first |rfl |cases hw
  rw [e]
  exact UR (by rw [OI p,hw])
 |true=>
  obtain ⟨i,rfl⟩:=OJ hw
  exact p_is_between_int
theorem ZdS {d:D} {n:Nat} {h:HD} (p:Plain h d) (hl:BB n d=true):Pu (DW [d,.int (n:Nat)] h) h .non:=by
 change Wp (As 2 Oz [d,.int (n:Nat)] h) _
 refine Eq.mpr AH ?_
 simp
 refine (Vt p).wp fun h1 s1=>?_
 simp [hl,s1]
theorem Lp {d:D} {n:Nat} {h:HD} (p:Plain h d) (hl:BB n d=false):Er (DW [d,.int (n:Nat)] h) h "NoLine":=by
 change We (As 2 Oz [d,.int (n:Nat)] h) _ _
 refine Eq.mpr DD ?_
 simp
 refine (Vt p).we fun h1 s1=>?_
 simp [hl,s1,Dx]
theorem ZdT {n i:Nat} (h:i<n):BB n (.int (i:Nat))=true:=by simp [BB];omega
def CZ (f:Nat→Nat→Bool) (r c:Nat):Nat→Nat→Bool:=fun i j=>if i=r∧j=c then !f i j else f i j
section
variable {H W:Nat} {f:Nat→Nat→Bool} {h:HD} {r c:Nat}
theorem Vu (hr:r<H):bD H W (CZ f r c)=.tup (((List.range H).map fun i=>Au W (f i)).take r++[Au W (CZ f r c r)]++((List.range H).map fun i=>Au W (f i)).drop (r+1)):=by
 unfold bD
 congr 1
 apply List.ext_getElem?
 intro i
 rw [Jv]
 by_cases h1:i<r
 ·rw [D3 (by simp;omega),Me h1,Bv,Bv,Dc (by omega)]
  simp only [FR,Option.some.injEq]
  unfold Au CZ
  congr 1
  refine FN fun j _=>?_
  rw [if_neg (by omega)]
 ·rw [Gw (by simp;omega)]
  have hl:(((List.range H).map fun i=>Au W (f i)).take r).length=r:=by simp;omega
  rw [hl]
  by_cases h2:i=r
  ·subst h2
   simp [Dc hr]
  ·obtain ⟨k,rfl⟩:∃k,i=r+1+k:=⟨i - r - 1,by omega⟩
   rw [show r+1+k - r=k+1 by omega,List.singleton_append,List.getElem?_cons_succ,List.getElem?_drop,Bv,Bv]
   by_cases h3:r+1+k<H
   ·rw [Dc h3]
    simp only [FR,Option.some.injEq]
    unfold Au CZ
    congr 1
    refine FN fun j _=>?_
    rw [if_neg (by omega)]
   ·rw [Mj (by simp;omega)]
    rfl
theorem Vv (hc:c<W):((List.range W).map fun j=>lit (f r j)).set c (lit (!f r c))=(List.range W).map fun j=>lit (CZ f r c r j):=by
 apply List.ext_getElem?
 intro j
 by_cases hj:j=c
 ·subst hj
  rw [BV (by simpa using hc)]
  simp [Dc hc,CZ]
 ·rw [BG (Ne.symm hj),Bv,Bv]
  by_cases h1:j<W
  ·rw [Dc h1]
   simp [CZ,hj]
  ·rw [Mj (by simp;omega)]
   rfl
theorem Vw {b:Bool}:DO (.int 1) (lit b) h=.ok (lit (!b)) h:=by cases b<;>rfl
theorem ZdU (hr:r<H) (hc:c<W) (hH:H≤8) (hW:W≤8):Pu (KS [bD H W f,.int (r:Nat),.int (c:Nat)] h) h (bD H W (CZ f r c)):=by
 change Wp (As 4 Tq [bD H W f,.int (r:Nat),.int (c:Nat)] h) _
 refine Eq.mpr AH ?_
 simp
 rw [Jc hr]
 simp [Au]
 rw [OP]
 refine AU (by simp;exact OV (by omega)) fun l h1 s1 e1 el _=>?_
 have hx:((List.range W).map fun j=>lit (f r j))[c]?=some (lit (f r c)):=by simp [Dc hc]
 refine AE (B2 e1 hx) ?_
 simp
 rw [Vw]
 simp
 rw [QH e1 (by simpa using hc),Vv hc]
 simp
 have e2:(h1.set l (.lst ((List.range W).map fun j=>lit (CZ f r c r j))))[l]?=some (.lst ((List.range W).map fun j=>lit (CZ f r c r j))):=by
  rw [BV (by have:=(qa2.mp e1).1;exact this)]
 have s2:Sm h (h1.set l (.lst ((List.range W).map fun j=>lit (CZ f r c r j)))):=Sm.put s1 (by omega)
 simp [bD]
 rw [IA (k:=r) (by simp;omega)]
 simp [Be,e2]
 rw [Dp (by simp;omega)]
 simp
 rw [IB (k:=r) (by omega) (by simp;omega)]
 simp
 rw [Dp (by simp;omega)]
 simp
 refine ⟨?_,s2⟩
 have:=Vu (W:=W) (f:=f) (c:=c) hr
 rw [bD] at this
 have:=D.tup.inj this
 rw [this]
 simp [Au]
end
abbrev Bk:=Nat→Nat→Bool
def EF (x:D) (e:Nat):Cell:=.ins "Keeper" [("now",x),("earlier",.loc e)]
structure KpAt (h:HD) (k e H W:Nat) (fs:List Bk) (f:Bk):Prop where
 at_:h[k]?=some (EF (bD H W f) e)
 er:h[e]?=some (.lst (fs.map (bD H W)))
def Sx (k e:Nat) (h h':HD):Prop:=∀l c,l≠k→l≠e→h[l]?=some c→h'[l]?=some c
theorem Sx.refl {k e:Nat} (h:HD):Sx k e h h:=fun _ _ _ _ z=>z
theorem Sx.trans {k e:Nat} {h h1 h2:HD} (a:Sx k e h h1) (b:Sx k e h1 h2):Sx k e h h2:=fun l c n1 n2 z=>b l c n1 n2 (a l c n1 n2 z)
theorem OX {k e:Nat} {h h':HD} (s:Sm h h'):Sx k e h h':=fun l c _ _ z=>s l c z
section
variable {h:HD} {k e H W:Nat} {fs:List Bk} {f:Bk}
theorem KpAt.sm {h':HD} (K:KpAt h k e H W fs f) (s:Sm h h'):KpAt h' k e H W fs f:=⟨s _ _ K.at_,s _ _ K.er⟩
theorem KpAt.ne (K:KpAt h k e H W fs f):e≠k:=fun z=>by
 have:=K.er
 rw [z,K.at_] at this
 cases this
theorem CB {x:D} (E:h[k]?=some (EF x e)):FE "Keeper" "now" (.loc k) h=.ok x h:=by unfold FE;simp only [E];rfl
theorem Jj {x:D} (E:h[k]?=some (EF x e)):FE "Keeper" "earlier" (.loc k) h=.ok (.loc e) h:=by unfold FE;simp only [E];rfl
theorem Cu {x:D} {m:Str} (E:h[k]?=some (EF x e)) (hm:m≠"now"∧m≠"earlier"):Gq "Keeper" m (.loc k) h=.ok (.loc k) h:=by
 unfold Gq
 simp only [E,EF]
 rw [if_pos]
 refine ⟨trivial,?_⟩
 have h1:(m=="now")=false:=by simpa using hm.1
 have h2:(m=="earlier")=false:=by simpa using hm.2
 simp only [D8,h1,h2]
 rfl
theorem Vx {x y:D} {ρ:Ag} (E:h[k]?=some (EF x e)):Ew "Keeper" "now" (.loc k) y ρ h=.ok (.nx,ρ) (h.set k (EF y e)):=by unfold Ew;simp only [E];rfl
theorem ZdV (K:KpAt h k e H W fs f):Pu (IS [.loc k] h) h (bD H W f):=by
 change Wp (As 1 Tw [.loc k] h) _
 refine Eq.mpr AH ?_
 simp [CB K.at_,Sm.refl]
theorem ZdW (hh:1≤H∧H≤8) (hw:1≤W∧W≤8) (K:KpAt h k e H W fs f):Pu (I0 [.loc k] h) h (.int (A4 H W f)):=by
 change Wp (As 1 UH [.loc k] h) _
 refine Eq.mpr AH ?_
 simp [CB K.at_]
 refine (Lm hh hw).wp fun h1 s1=>?_
 simp [s1]
theorem ZdX (hh:1≤H∧H≤8) (hw:1≤W∧W≤8):∃R∈LL 1 (H - 1),B4 W H (cc H f R)=A4 H W f∧∀h k e fs,KpAt h k e H W fs f→Pu (Gr [.loc k] h) h (Bq H W R (DA H (cc H f R))):=by
 obtain ⟨R,hR,e1,hb⟩:=ZdR (f:=f) hh hw
 refine ⟨R,hR,e1,fun h k e fs K=>?_⟩
 change Wp (As 1 UM [.loc k] h) _
 refine Eq.mpr AH ?_
 simp [CB K.at_]
 refine (hb h).wp fun h1 s1=>?_
 simp [s1]
def FL (H W:Nat) (fs:List Bk) (f:Bk):D:=match fs.getLast? with
 |none=>.non
 |some g=>.tup [.int (A4 H W g),.int (A4 H W f)]
theorem OY {l:Nat} {ds:List D} {x:D} (E:h[l]?=some (.lst (ds++[x]))):Aj (.loc l) (.int (-1)) h=.ok x h:=by
 have e1:Ci (ds++[x]) (-1)=some x:=by
  have h1:CF (ds++[x]).length (-1)=some ds.length:=by
   unfold CF
   rw [if_neg (by decide)]
   simp
   omega
  unfold Ci
  rw [h1]
  simp
 simp only [Aj,Bd,E,e1]
theorem ZdY (hh:1≤H∧H≤8) (hw:1≤W∧W≤8) (K:KpAt h k e H W fs f):Pu (Ja [.loc k] h) h (FL H W fs f):=by
 change Wp (As 1 UJ [.loc k] h) _
 refine Eq.mpr AH ?_
 have K2:=K.er
 rcases Jt fs with rfl |⟨gs,g,rfl⟩
 ·simp [Jj K.at_,Co,K.er,FL,Sm.refl]
 ·have e1:h[e]?=some (.lst (gs.map (bD H W)++[bD H W g])):=by rw [K2];simp
  simp [Jj K.at_,Co,K.er]
  rw [OY e1]
  simp
  refine (Lm hh hw).wp fun h1 s1=>?_
  simp [CB (K.sm s1).at_]
  refine (Lm hh hw).wp fun h2 s2=>?_
  simp [FL,s1.trans s2]
theorem Vy (K:KpAt h k e H W [] f):Er (CV [.loc k] h) h "NoRow":=by
 change We (As 1 Ou [.loc k] h) _ _
 refine Eq.mpr DD ?_
 have K2:=K.er
 simp [Jj K.at_,Co,K.er,Dx,Sm.refl]
theorem DK {l:Nat} {c:Cell} {h:HD} (hl:l<h.length):(h.set l c)[l]?=some c:=BV hl
theorem Bt {l j:Nat} {c:Cell} {h:HD} (hl:l≠j):(h.set l c)[j]?=h[j]?:=BG hl
theorem BM {l:Nat} {c:Cell} {h:HD} (e:h[l]?=some c):l<h.length:=(qa2.mp e).1
theorem OZ {l:Nat} {ds:List D} {x:D} {h:HD} (E:h[l]?=some (.lst (ds++[x]))):IJ (.loc l) h=.ok x (h.set l (.lst ds)):=by
 unfold IJ
 simp [E]
theorem Vz {gs:List Bk} {g:Bk} {Q:D→HD→Prop} (K:KpAt h k e H W (gs++[g]) f) (q:∀h',KpAt h' k e H W gs g→Sx k e h h'→Q .non h'):Wp (CV [.loc k] h) Q:=by
 change Wp (As 1 Ou [.loc k] h) _
 refine Eq.mpr AH ?_
 have e1:h[e]?=some (.lst (gs.map (bD H W)++[bD H W g])):=by rw [K.er];simp
 have ne:=K.ne
 simp [Jj K.at_,Co,K.er]
 rw [CL e1]
 simp
 rw [OZ e1]
 simp
 have e2:(h.set e (.lst (gs.map (bD H W))))[k]?=some (EF (bD H W f) e):=by rw [Bt ne];exact K.at_
 rw [Vx e2]
 simp
 refine q _ ⟨DK (by rw [Jz];exact BM K.at_),?_⟩ fun l c n1 n2 z=>?_
 ·rw [Bt (Ne.symm ne),DK (BM e1)]
 ·rw [Bt (Ne.symm n1),Bt (Ne.symm n2)]
  exact z
theorem O0 {f':Bk} {Q:D→HD→Prop} (K:KpAt h k e H W fs f) (hl:fs.length≤1000) (q:∀h',KpAt h' k e H W (fs++[f]) f'→Sx k e h h'→Q .non h'):Wp (FG [.loc k,bD H W f'] h) Q:=by
 change Wp (As 2 Tt [.loc k,bD H W f'] h) _
 refine Eq.mpr AH ?_
 have ne:=K.ne
 simp [Jj K.at_]
 rw [CL K.er]
 simp [CB K.at_]
 rw [El K.er (by rw [CC];exact GB hl (by decide))]
 simp
 have e2:(h.set e (.lst (fs.map (bD H W)++[bD H W f])))[k]?=some (EF (bD H W f) e):=by rw [Bt ne];exact K.at_
 rw [Vx e2]
 simp
 refine q _ ⟨DK (by rw [Jz];exact BM K.at_),?_⟩ fun l c n1 n2 z=>?_
 ·rw [Bt (Ne.symm ne),DK (BM K.er)]
  simp
 ·rw [Bt (Ne.symm n1),Bt (Ne.symm n2)]
  exact z
end
section
variable {h:HD} {k e H W:Nat} {fs:List Bk} {f:Bk}
theorem Lq {n r:Nat} (hr:r<n):Ax n (fun i=>i==r)=.tup [.int (r:Nat)]:=by
 unfold Ax
 have:(List.range n).filter (fun i=>i==r)=[r]:=by
  induction n with
  |zero=>omega
  |succ n ih=>
   rw [De,List.filter_append]
   by_cases h1:r=n
   ·subst h1
    rw [qcB.mpr fun a ha=>by have:=qb8.mp ha;simp;omega]
    simp
   ·rw [ih (by omega)]
    have:(n==r)=false:=by simp;omega
    simp [this]
 rw [this]
 rfl
theorem Lr {n:Nat}:Ax n (fun _=>false)=.tup []:=by unfold Ax;rw [qcB.mpr fun _ _=>by simp];rfl
theorem ZdZ {r:Nat} (hr:r<H):Bq H W (fun i=>i==r) (fun _=>false)=.tup [.tup [.int (r:Nat)],.tup []]:=by unfold Bq;rw [Lq hr,Lr]
theorem Zd0 {c:Nat} (hc:c<W):Bq H W (fun _=>false) (fun j=>j==c)=.tup [.tup [],.tup [.int (c:Nat)]]:=by unfold Bq;rw [Lq hc,Lr]
theorem Hu (hh:1≤H):Aj (bD H W f) (.int 0) h=.ok (Au W (f 0)) h:=Jd hh
theorem Jk {i n:Nat} {h:HD} (hi:i<n):Pu (DW [.int (i:Nat),.int (n:Nat)] h) h .non:=ZdS (d:=.int (i:Nat)) trivial (ZdT hi)
theorem Zd1 {r c:Nat} {Q:D→HD→Prop} (hh:1≤H∧H≤8) (hw:1≤W∧W≤8) (K:KpAt h k e H W fs f) (hl:fs.length≤1000) (hr:r<H) (hc:c<W) (q:∀h',KpAt h' k e H W (fs++[f]) (CZ f r c)→Sx k e h h'→Q .non h'):Wp (Ho [.loc k,.int (r:Nat),.int (c:Nat)] h) Q:=by
 change Wp (As 3 K5 [.loc k,.int (r:Nat),.int (c:Nat)] h) _
 refine Eq.mpr AH ?_
 simp [CB K.at_,DH]
 refine (Jk hr).wp fun h1 s1=>?_
 have K1:=K.sm s1
 simp [CB K1.at_,Hu hh.1,E7]
 refine (Jk hc).wp fun h2 s2=>?_
 have K2:=K1.sm s2
 simp [Cu (m:="change_to") K2.at_ (by decide),CB K2.at_]
 refine (ZdU hr hc hh.2 hw.2).wp fun h3 s3=>?_
 refine O0 (K2.sm s3) hl fun h4 K4 s4=>?_
 exact q h4 K4 ((OX ((s1.trans s2).trans s3)).trans s4)
theorem Zd2 {x y:D} (K:KpAt h k e H W fs f) (p:Plain h x) (hx:BB H x=false):Er (Ho [.loc k,x,y] h) h "NoLine":=by
 change We (As 3 K5 [.loc k,x,y] h) _ _
 refine Eq.mpr DD ?_
 simp [CB K.at_,DH]
 refine (Lp p hx).we fun h1 s1=>?_
 exact ⟨rfl,rfl,s1⟩
theorem Zd3 {r:Nat} {y:D} (hh:1≤H) (K:KpAt h k e H W fs f) (hr:r<H) (p:Plain h y) (hy:BB W y=false):Er (Ho [.loc k,.int (r:Nat),y] h) h "NoLine":=by
 change We (As 3 K5 [.loc k,.int (r:Nat),y] h) _ _
 refine Eq.mpr DD ?_
 simp [CB K.at_,DH]
 refine (Jk hr).we fun h1 s1=>?_
 have K1:=K.sm s1
 simp [CB K1.at_,Hu hh,E7]
 refine (Lp (p.sm s1) hy).we fun h2 s2=>?_
 exact ⟨rfl,rfl,s1.trans s2⟩
theorem Zd4 {r:Nat} {Q:D→HD→Prop} (hh:1≤H∧H≤8) (hw:1≤W∧W≤8) (K:KpAt h k e H W fs f) (hl:fs.length≤1000) (hr:r<H) (q:∀h',KpAt h' k e H W (fs++[f]) (CY f (fun i=>i==r) fun _=>false)→Sx k e h h'→Q .non h'):Wp (IY [.loc k,.int (r:Nat)] h) Q:=by
 change Wp (As 2 OC [.loc k,.int (r:Nat)] h) _
 refine Eq.mpr AH ?_
 simp [CB K.at_,DH]
 refine (Jk hr).wp fun h1 s1=>?_
 have K1:=K.sm s1
 simp [Cu (m:="change_to") K1.at_ (by decide),CB K1.at_]
 rw [←ZdZ (W:=W) hr]
 refine (U6 hh hw).wp fun h3 s3=>?_
 refine O0 (f':=CY f (fun i=>i==r) fun _=>false) (K1.sm s3) hl fun h4 K4 s4=>?_
 exact q h4 K4 ((OX (s1.trans s3)).trans s4)
theorem Zd5 {x:D} (K:KpAt h k e H W fs f) (p:Plain h x) (hx:BB H x=false):Er (IY [.loc k,x] h) h "NoLine":=by
 change We (As 2 OC [.loc k,x] h) _ _
 refine Eq.mpr DD ?_
 simp [CB K.at_,DH]
 refine (Lp p hx).we fun h1 s1=>?_
 exact ⟨rfl,rfl,s1⟩
theorem Zd6 {c:Nat} {Q:D→HD→Prop} (hh:1≤H∧H≤8) (hw:1≤W∧W≤8) (K:KpAt h k e H W fs f) (hl:fs.length≤1000) (hc:c<W) (q:∀h',KpAt h' k e H W (fs++[f]) (CY f (fun _=>false) fun j=>j==c)→Sx k e h h'→Q .non h'):Wp (IZ [.loc k,.int (c:Nat)] h) Q:=by
 change Wp (As 2 OD [.loc k,.int (c:Nat)] h) _
 refine Eq.mpr AH ?_
 simp [CB K.at_,Hu hh.1,E7]
 refine (Jk hc).wp fun h1 s1=>?_
 have K1:=K.sm s1
 simp [Cu (m:="change_to") K1.at_ (by decide),CB K1.at_]
 rw [←Zd0 (H:=H) hc]
 refine (U6 hh hw).wp fun h3 s3=>?_
 refine O0 (f':=CY f (fun _=>false) fun j=>j==c) (K1.sm s3) hl fun h4 K4 s4=>?_
 exact q h4 K4 ((OX (s1.trans s3)).trans s4)
theorem Zd7 {x:D} (hh:1≤H) (K:KpAt h k e H W fs f) (p:Plain h x) (hx:BB W x=false):Er (IZ [.loc k,x] h) h "NoLine":=by
 change We (As 2 OD [.loc k,x] h) _ _
 refine Eq.mpr DD ?_
 simp [CB K.at_,Hu hh,E7]
 refine (Lp p hx).we fun h1 s1=>?_
 exact ⟨rfl,rfl,s1⟩
def Jl (H W:Nat) (f:Bk) (h0:HD) (w:Str) (ns:List D):Prop:=∀h k e fs,Sm h0 h→KpAt h k e H W fs f→Er (E6 [.loc k,.str w,.tup ns] h) h "NoLine"
def Ls (H W:Nat) (f f':Bk) (w:Str) (ns:List D):Prop:=∀(h:HD) (k e:Nat) (fs:List Bk) (Q:D→HD→Prop),KpAt h k e H W fs f→fs.length≤1000→(∀h',KpAt h' k e H W (fs++[f]) f'→Sx k e h h'→Q .non h')→Wp (E6 [.loc k,.str w,.tup ns] h) Q
theorem Gu {a:Str}:Bi (.str a) (.str a) h=.ok (.bl true) h:=by
 show Out.ok (D.bl (a==a)) h=_
 rw [beq_self_eq_true]
theorem Hv {a b:Str} (n:a≠b):Bi (.str a) (.str b) h=.ok (.bl false) h:=by
 show Out.ok (D.bl (a==b)) h=_
 rw [beq_eq_false_iff_ne.mpr n]
theorem O1 {a b:D}:Aj (.tup [a,b]) (.int 0) h=.ok a h:=rfl
theorem O2 {a b:D}:Aj (.tup [a,b]) (.int 1) h=.ok b h:=rfl
theorem Lu {a:D}:Aj (.tup [a]) (.int 0) h=.ok a h:=rfl
theorem Zd8 {r c:Nat} (hh:1≤H∧H≤8) (hw:1≤W∧W≤8) (hr:r<H) (hc:c<W):Ls H W f (CZ f r c) "light" [.int (r:Nat),.int (c:Nat)]:=fun h k e fs Q K hl q=>by
 change Wp (As 3 FJ [.loc k,.str "light",.tup [.int (r:Nat),.int (c:Nat)]] h) _
 refine Eq.mpr AH ?_
 simp [Gu,Cu (m:="light") K.at_ (by decide),O1,O2]
 exact Zd1 hh hw K hl hr hc q
theorem Zd9 {x y:D} {h0:HD} (p:Plain h0 x) (hx:BB H x=false):Jl H W f h0 "light" [x,y]:=fun h k e fs s K=>by
 change We (As 3 FJ [.loc k,.str "light",.tup [x,y]] h) _ _
 refine Eq.mpr DD ?_
 simp [Gu,Cu (m:="light") K.at_ (by decide),O1,O2]
 refine (Zd2 K (p.sm s) hx).we fun h1 s1=>?_
 exact ⟨rfl,rfl,s1⟩
theorem Zea {r:Nat} {y:D} {h0:HD} (hh:1≤H) (hr:r<H) (p:Plain h0 y) (hy:BB W y=false):Jl H W f h0 "light" [.int (r:Nat),y]:=fun h k e fs s K=>by
 change We (As 3 FJ [.loc k,.str "light",.tup [.int (r:Nat),y]] h) _ _
 refine Eq.mpr DD ?_
 simp [Gu,Cu (m:="light") K.at_ (by decide),O1,O2]
 refine (Zd3 hh K hr (p.sm s) hy).we fun h1 s1=>?_
 exact ⟨rfl,rfl,s1⟩
theorem Zeb {r:Nat} (hh:1≤H∧H≤8) (hw:1≤W∧W≤8) (hr:r<H):Ls H W f (CY f (fun i=>i==r) fun _=>false) "row" [.int (r:Nat)]:=fun h k e fs Q K hl q=>by
 change Wp (As 3 FJ [.loc k,.str "row",.tup [.int (r:Nat)]] h) _
 refine Eq.mpr AH ?_
 simp [Gu,Hv (a:="row") (b:="light") (by decide),Cu (m:="row") K.at_ (by decide),Lu]
 exact Zd4 hh hw K hl hr q
theorem Zec {x:D} {h0:HD} (p:Plain h0 x) (hx:BB H x=false):Jl H W f h0 "row" [x]:=fun h k e fs s K=>by
 change We (As 3 FJ [.loc k,.str "row",.tup [x]] h) _ _
 refine Eq.mpr DD ?_
 simp [Gu,Hv (a:="row") (b:="light") (by decide),Cu (m:="row") K.at_ (by decide),Lu]
 refine (Zd5 K (p.sm s) hx).we fun h1 s1=>?_
 exact ⟨rfl,rfl,s1⟩
theorem Zed {c:Nat} (hh:1≤H∧H≤8) (hw:1≤W∧W≤8) (hc:c<W):Ls H W f (CY f (fun _=>false) fun j=>j==c) "column" [.int (c:Nat)]:=fun h k e fs Q K hl q=>by
 change Wp (As 3 FJ [.loc k,.str "column",.tup [.int (c:Nat)]] h) _
 refine Eq.mpr AH ?_
 simp [Hv (a:="column") (b:="light") (by decide),Hv (a:="column") (b:="row") (by decide),Cu (m:="column") K.at_ (by decide),Lu]
 exact Zd6 hh hw K hl hc q
theorem Zee {x:D} {h0:HD} (hh:1≤H) (p:Plain h0 x) (hx:BB W x=false):Jl H W f h0 "column" [x]:=fun h k e fs s K=>by
 change We (As 3 FJ [.loc k,.str "column",.tup [x]] h) _ _
 refine Eq.mpr DD ?_
 simp [Hv (a:="column") (b:="light") (by decide),Hv (a:="column") (b:="row") (by decide),Cu (m:="column") K.at_ (by decide),Lu]
 refine (Zd7 hh K (p.sm s) hx).we fun h1 s1=>?_
 exact ⟨rfl,rfl,s1⟩
end
@[irreducible] noncomputable def Lw:MS:=IF 2 3 4 (Aa (Ae (Ai AJ) (Aa (Ab 1) (Ac))) (Aa (Ae (Ai AJ) (Aa (Ad Aj (Ab 1) (mC (.int 0))) (Ac))) (Aa (Ae AZ (Aa (Ab 0) (Aa (mC (.int 7)) (Ac)))) (Ac))))
@[irreducible] noncomputable def Lx:MS:=Fq 5 6 (Aa (Ae AZ (Aa (Ab 0) (Aa (Ab 2) (Ac)))) (Aa (Ae AZ (Aa (Ab 0) (Aa (Ab 3) (Ac)))) (Ac)))
@[irreducible] noncomputable def Ly:MS:=An 7 (Ad Aj (AN (Aa (Ab 2) (Aa (Ab 3) (Aa (CK (mC (.int 1))) (Aa (mC (.bl true)) (Aa (mC .non) (Aa (mC (.str "0")) (Aa (Am (Aa (mC (.int 0)) (Ac))) (Aa (Ad GQ (mC (.int 10)) (mC (.int 29))) (Aa (mC (.int 9)) (Aa (mC (.bl false)) (Ac)))))))))))) (Ae AZ (Aa (Ab 0) (Aa (mC (.int 10)) (Ac)))))
@[irreducible] noncomputable def Lz:MS:=IQ 8 9 (Ad Aj (AN (Aa (AN (Aa (Ab 2) (Aa (Ab 3) (Ac)))) (Aa (AN (Aa (Ab 7) (Aa (Ab 7) (Ac)))) (Ac)))) (Ae (Ai Ei) (Aa (Ad E3 (Ab 7) (Am (Aa (Ab 2) (Aa (Ab 3) (Ac))))) (Ac))))
@[irreducible] noncomputable def LA:MS:=Ay (Aw (Ad Bi (Ab 4) (mC (.int 0)))) (Af (An 10 (AN (Aa (Am (Aa (mC (.str "light")) (Aa (Am (Aa (Ab 8) (Aa (Ab 6) (Ac)))) (Aa (mC .non) (Ac))))) (Aa (Am (Aa (mC (.str "light")) (Aa (Am (Aa (Ab 5) (Aa (Ab 9) (Ac)))) (Aa (mC .non) (Ac))))) (Aa (Am (Aa (mC (.str "row")) (Aa (Am (Aa (Ab 8) (Ac))) (Aa (mC .non) (Ac))))) (Ac)))))) (Al (Ad Aj (Ab 10) (Ae AZ (Aa (Ab 0) (Aa (mC (.int 3)) (Ac))))))) (AD)
@[irreducible] noncomputable def LC:MS:=Ay (Aw (Ad Bi (Ab 4) (mC (.int 1)))) (Al (Am (Aa (mC (.str "column")) (Aa (Am (Aa (Ab 9) (Ac))) (Aa (mC .non) (Ac)))))) (AD)
@[irreducible] noncomputable def LD:MS:=Ay (Aw (Ad EL (Ab 4) (mC (.int 4)))) (Af (An 11 (Ad Av (Ad Av (Ce (Ad Aj (Ab 1) (Ab 5)) (Cq) (Cb (Ab 6))) (Am (Aa (Ad DO (mC (.int 1)) (Ad Aj (Ad Aj (Ab 1) (Ab 5)) (Ab 6))) (Ac)))) (Ce (Ad Aj (Ab 1) (Ab 5)) (Cb (Ad Av (Ab 6) (mC (.int 1)))) (Cq)))) (Al (Am (Aa (mC (.str "light")) (Aa (Am (Aa (Ab 5) (Aa (Ab 6) (Ac)))) (Aa (Ad Av (Ad Av (Ce (Ab 1) (Cq) (Cb (Ab 5))) (Am (Aa (Ab 11) (Ac)))) (Ce (Ab 1) (Cb (Ad Av (Ab 5) (mC (.int 1)))) (Cq))) (Ac))))))) (AD)
@[irreducible] noncomputable def LG:MS:=Ay (Aw (Ad EL (Ab 4) (mC (.int 6)))) (Al (Am (Aa (mC (.str "row")) (Aa (Am (Aa (Ab 5) (Ac))) (Aa (Ae EA (Aa (Ab 1) (Aa (Am (Aa (Ab 5) (Ac))) (Aa (Am (Ac)) (Ac))))) (Ac)))))) (AD)
@[irreducible] noncomputable def LH:MS:=Al (Am (Aa (mC (.str "column")) (Aa (Am (Aa (Ab 6) (Ac))) (Aa (Ae EA (Aa (Ab 1) (Aa (Am (Ac)) (Aa (Am (Aa (Ab 6) (Ac))) (Ac))))) (Ac)))))
theorem Zef:Oy=Af Lw (Af Lx (Af Ly (Af Lz (Af LA (Af LC (Af LD (Af LG (LH)))))))):=by
 unfold Lw Lx Ly Lz LA LC LD LG LH
 rfl
section
variable {h:HD} {H W:Nat} {f:Bk}
theorem Zeg {r c:Nat} (hc:c<W):Au W (CZ f r c r)=.tup (((List.range W).map fun j=>lit (f r j)).take c++[lit (!f r c)]++((List.range W).map fun j=>lit (f r j)).drop (c+1)):=by
 unfold Au
 rw [←Vv hc,List.set_eq_take_append_cons_drop,if_pos (by simpa using hc)]
 simp
theorem Zeh {y:D} {v:V} {a c:Int} (e:BX y=some v) (nt:∀ds,y≠.tup ds):∃b,∀h,E3 y (.tup [.int a,.int c]) h=.ok (.bl b) h:=by
 refine ⟨!EK v [.int a,.int c],fun h=>?_⟩
 have:E3 y (.tup [.int a,.int c]) h=Ca true y (.tup [.int a,.int c]) h:=by
  cases y with
  |tup ds=>exact absurd rfl (nt ds)
  |_=>rfl
 rw [this]
 simp only [Ca,Bd,e]
 rfl
def LI (H W:Nat) (y:D):Prop:=∃b,(∀h,E3 y (.tup [.int (H:Nat),.int (W:Nat)]) h=.ok (.bl b) h)∧(b=true→BB H y=false∧BB W y=false)
theorem Gv {y:D} {v:V} (e:BX y=some v) (nt:∀ds,y≠.tup ds) (h1:BB H y=false) (h2:BB W y=false):LI H W y:=by
 obtain ⟨b,hb⟩:=Zeh (a:=(H:Nat)) (c:=(W:Nat)) e nt
 exact ⟨b,hb,fun _=>⟨h1,h2⟩⟩
theorem Zei:LI H W (.int (H:Nat)):=⟨false,fun h=>by
 have:E3 (.int (H:Nat)) (.tup [.int (H:Nat),.int (W:Nat)]) h=Ca true (.int (H:Nat)) (.tup [.int (H:Nat),.int (W:Nat)]) h:=rfl
 rw [this]
 simp [Ca,Bd,BX,AC,EK,Dh],fun z=>by cases z⟩
theorem Zej:LI H W (.int (W:Nat)):=⟨false,fun h=>by
 have:E3 (.int (W:Nat)) (.tup [.int (H:Nat),.int (W:Nat)]) h=Ca true (.int (W:Nat)) (.tup [.int (H:Nat),.int (W:Nat)]) h:=rfl
 rw [this]
 simp [Ca,Bd,BX,AC,EK,Dh],fun z=>by cases z⟩
theorem VA:BB H (.int (H:Nat))=false:=by simp [BB];omega
inductive LJ (H W:Nat) (f:Bk) (h:HD):D→Prop where
 |bad (w:Str) (ns:List D) (b:Jl H W f h w ns):LJ H W f h (.tup [.str w,.tup ns,.non])
 |good (w:Str) (ns:List D) (f':Bk) (b:Ls H W f f' w ns):LJ H W f h (.tup [.str w,.tup ns,bD H W f'])
theorem Zek {d:Nat} {Q:D→HD→Prop} (hh:1≤H∧H≤8) (hw:1≤W∧W≤8) (hx:BoxAt h d) (hb:0<d) (ht:TabAt h) (q:∀t h',LJ H W f h' t→BoxAt h' d→TabAt h'→Smx d h h'→Q t h'):Wp (IV [.loc d,bD H W f] h) Q:=by
 change Wp (As 12 Oy [.loc d,bD H W f] h) _
 rw [Zef]
 refine Eq.mpr AH ?_
 change Wp (Af Lw (Af Lx (Af Ly (Af Lz (Af LA (Af LC (Af LD (Af LG (LH)))))))) [some (.loc d),some (bD H W f),none,none,none,none,none,none,none,none,none,none] h) _
 refine Eq.mpr A8 ?_
 unfold Lw
 simp [-Ah,DH,Hu hh.1,E7]
 refine CW hx hb ht (by decide) (by decide) fun way h1 lw x1 t1 s1=>?_
 try simp [-Ah]
 refine Eq.mpr Ah ?_
 refine Eq.mpr A8 ?_
 unfold Lx
 try simp [-Ah]
 refine CW x1 hb t1 (by omega) (by omega) fun r h2 lr x2 t2 s2=>?_
 try simp [-Ah]
 refine CW x2 hb t2 (by omega) (by omega) fun c h3 lc x3 t3 s3=>?_
 have hr:r<H:=by omega
 have hc:c<W:=by omega
 try simp [-Ah]
 refine Eq.mpr Ah ?_
 refine Eq.mpr A8 ?_
 unfold Ly
 simp [-Ah,UX]
 refine AU (by simp) fun l4 h4 s4 e4 _ _=>?_
 have n4:l4≠d:=by rename_i el _;have:=x3.lt;omega
 refine CW (x3.sm s4) hb (t3.sm s4) (by decide) (by decide) fun o h5 lo x5 t5 s5=>?_
 obtain ⟨y,ey,py,oy⟩:=Lk (fun y=>Plain h5 y∧LI H W y) (o:=o) (s5 _ _ n4 e4) (by simp;omega) <| all_cons ⟨trivial,Zei⟩ <| all_cons ⟨trivial,Zej⟩ <| all_cons ⟨trivial,Gv (v:=.int (-1)) rfl (fun _ z=>by cases z) rfl rfl⟩ <|
  all_cons ⟨trivial,Gv (v:=.bl true) rfl (fun _ z=>by cases z) rfl rfl⟩ <| all_cons ⟨trivial,Gv (v:=.non) rfl (fun _ z=>by cases z) rfl rfl⟩ <| all_cons ⟨trivial,Gv (v:=.str "0") rfl (fun _ z=>by cases z) rfl rfl⟩ <|
  all_cons ⟨trivial,true,fun h=>rfl,fun _=>⟨rfl,rfl⟩⟩ <| all_cons ⟨trivial,Gv (v:=.int (10^29)) rfl (fun _ z=>by cases z) (by simp [BB];omega) (by simp [BB];omega)⟩ <| all_cons ⟨trivial,Gv (v:=.int 9) rfl (fun _ z=>by cases z) (by simp [BB];omega) (by simp [BB];omega)⟩ <|
  all_cons ⟨trivial,Gv (v:=.bl false) rfl (fun _ z=>by cases z) rfl rfl⟩ ED
 refine AE ey ?_
 refine Eq.mpr (B0 _ _) ?_
 have S5:Smx d h h5:=(((s1.trans s2).trans s3).trans (CA s4)).trans s5
 clear ey e4 n4
 refine Eq.mpr Ah ?_
 refine Eq.mpr A8 ?_
 unfold Lz
 obtain ⟨b,hb1,hb2⟩:=oy
 try simp [-Ah]
 refine AU (by simp) fun l6 h6 s6 e6 el6 _=>?_
 refine AU (by simp) fun l7 h7 s7 e7 el7 _=>?_
 refine AU (by simp) fun l8 h8 s8 e8 _ _=>?_
 rw [hb1]
 obtain ⟨ta,br,hta,hbr,pta,pbr,eu⟩:∃ta br:D,BB H ta=false∧BB W br=false∧Plain h8 ta∧Plain h8 br∧∃l,Aj (.loc l8) (.int (if b then 1 else 0)) h8=.ok (.loc l) h8∧h8[l]?=some (.lst [ta,br]):=by
  have s58:=(s6.trans s7).trans s8
  cases b with
  |false=>exact ⟨.int (H:Nat),.int (W:Nat),VA,VA,trivial,trivial,l6,B2 (k:=0) e8 rfl,s8 _ _ (s7 _ _ e6)⟩
  |true=>exact ⟨y,y,(hb2 rfl).1,(hb2 rfl).2,py.sm s58,py.sm s58,l7,B2 (k:=1) e8 rfl,s8 _ _ e7⟩
 obtain ⟨l9,ei,e9⟩:=eu
 have ib:Ei (.bl b) h8=.ok (.int (if b then 1 else 0)) h8:=by cases b<;>rfl
 simp [-Ah,ib]
 rw [ei]
 try simp [-Ah]
 rw [Zc0 e9]
 try simp [-Ah]
 have s58:=(s6.trans s7).trans s8
 have x8:=x5.sm s58
 have t8:=t5.sm s58
 have S8:Smx d h h8:=S5.trans (CA s58)
 refine Eq.mpr Ah ?_
 refine Eq.mpr A8 ?_
 unfold LA
 have hwy:way<7:=by omega
 by_cases w0:way=0
 ·subst w0
  try simp [-Ah]
  refine AU (by simp) fun l10 h10 s10 e10 _ _=>?_
  refine Eq.mpr Ah ?_
  try simp [-Ah]
  have n10:l10≠d:=by rename_i el _;have:=x8.lt;omega
  refine CW (x8.sm s10) hb (t8.sm s10) (by decide) (by decide) fun z h11 lz x11 t11 s11=>?_
  have ptb:Plain h11 ta:=(pta.sm s10).smx s11 x11
  have pbb:Plain h11 br:=(pbr.sm s10).smx s11 x11
  obtain ⟨t,et,dt⟩:=Lk (fun t=>LJ H W f h11 t) (o:=z) (s11 _ _ n10 e10) (by simp;omega) <| all_cons (.bad _ _ (Zd9 ptb hta)) <| all_cons (.bad _ _ (Zea hh.1 hr pbb hbr)) <| all_cons (.bad _ _ (Zec ptb hta)) ED
  rw [et]
  simp
  exact q t h11 dt x11 t11 ((S8.trans (CA s10)).trans s11)
 have e0:¬(way:Int)=0:=by omega
 simp [-Ah,e0,w0]
 refine Eq.mpr Ah ?_
 refine Eq.mpr A8 ?_
 unfold LC
 by_cases w1:way=1
 ·subst w1
  simp
  exact q _ h8 (.bad _ _ (Zee hh.1 pbr hbr)) x8 t8 S8
 have e1:¬(way:Int)=1:=by omega
 simp [-Ah,e1,w1]
 refine Eq.mpr Ah ?_
 refine Eq.mpr A8 ?_
 unfold LD
 by_cases w4:way<4
 ·have e4:(way:Int)<4:=by omega
  simp [-Ah,e4,w4,Jc hr]
  have hx:((List.range W).map fun j=>lit (f r j))[c]?=some (lit (f r c)):=by simp [Dc hc]
  have sl1:Dm (Au W (f r)) none (some (c:Int)) h8=.ok (.tup (((List.range W).map fun j=>lit (f r j)).take c)) h8:=IA (by simp;omega)
  have sl2:Dm (Au W (f r)) (some ((c:Int)+1)) none h8=.ok (.tup (((List.range W).map fun j=>lit (f r j)).drop (c+1))) h8:=IB (k:=c) (by omega) (by simpa using hc)
  have sl3:Dm (bD H W f) none (some (r:Int)) h8=.ok (.tup (((List.range H).map fun i=>Au W (f i)).take r)) h8:=IA (by simp;omega)
  have sl4:Dm (bD H W f) (some ((r:Int)+1)) none h8=.ok (.tup (((List.range H).map fun i=>Au W (f i)).drop (r+1))) h8:=IB (k:=r) (by omega) (by simpa using hr)
  have ixr:Aj (Au W (f r)) (.int (c:Nat)) h8=.ok (lit (f r c)) h8:=Ig hc
  rw [sl1]
  simp [-Ah,Jc hr,ixr,Vw]
  rw [Dp (by simp;omega)]
  simp [-Ah,Jc hr,sl2]
  rw [Dp (by simp;omega)]
  try simp [-Ah]
  refine Eq.mpr Ah ?_
  simp [-Ah,sl3]
  rw [Dp (by simp;omega)]
  simp [-Ah,sl4]
  rw [Dp (by simp;omega)]
  simp
  have fl:=Zeg (f:=f) (r:=r) hc
  have fr:=Vu (W:=W) (f:=f) (c:=c) hr
  rw [fl] at fr
  have:=q _ h8 (.good "light" [.int (r:Nat),.int (c:Nat)] _ (Zd8 hh hw hr hc)) x8 t8 S8
  rw [fr] at this
  simpa using this
 have e4:¬(way:Int)<4:=by omega
 simp [-Ah,e4,w4]
 refine Eq.mpr Ah ?_
 refine Eq.mpr A8 ?_
 unfold LG
 by_cases w6:way<6
 ·have e6:(way:Int)<6:=by omega
  simp [-Ah,e6,w6]
  have lo:=OW (h:=h8) (f:=f) (p:=fun i=>i==r) (q:=fun _=>false) hh hw
  rw [Lq hr,Lr] at lo
  refine lo.wp fun h9 s9=>?_
  try simp
  exact q _ h9 (.good "row" [.int (r:Nat)] _ (Zeb hh hw hr)) (x8.sm s9) (t8.sm s9) (S8.trans (CA s9))
 have e6:¬(way:Int)<6:=by omega
 simp [-Ah,e6,w6]
 refine Eq.mpr Ah ?_
 unfold LH
 simp
 have lo:=OW (h:=h8) (f:=f) (p:=fun _=>false) (q:=fun j=>j==c) hh hw
 rw [Lq hc,Lr] at lo
 refine lo.wp fun h9 s9=>?_
 try simp
 exact q _ h9 (.good "column" [.int (c:Nat)] _ (Zed hh hw hc)) (x8.sm s9) (t8.sm s9) (S8.trans (CA s9))
end
theorem VB {i:Int} (h1:0≤i) (h2:i<10):Rp 0 2 (.int i):=LS.rp_int h1 h2
section
variable {H W:Nat} {f:Nat→Nat→Bool} {p q:Nat→Bool} {h:HD}
theorem VC:∀n<100,(((toString ((n:Nat):Int)):String):Str).length≤3:=by decide +kernel
theorem VD:∀n<100,((n:Nat):Int).natAbs.log2<1920:=by decide +kernel
theorem rp_int {n:Nat} (hn:n<100):∃x:Str,∀h,Bp (.int (n:Nat)) h=.ok (.str x) h:=by
 have l1:=VC n hn
 have g1:=VD n hn
 refine ⟨(((toString ((n:Nat):Int)):String):Str),fun h=>?_⟩
 unfold Bp
 have e:AL h 8 (.int (n:Nat))=some (.int (n:Nat)):=rfl
 rw [e]
 simp only
 rw [if_pos ⟨by simpa [PyData.showable] using g1,rfl,Dq _,by unfold sizeLine;exact BW l1 (by decide)⟩]
 rfl
theorem VE:0≤A4 H W f:=by
 obtain ⟨R,_,e⟩:=Iu (H:=H) (W:=W) (f:=f)
 rw [←e]
 unfold B4
 rw [←ND (xs:=List.range W)]
 refine Kt fun j _=>?_
 have:=Ri (n:=H) (r:=fun i=>Bool.xor (f i j) (R i))
 have e2:cc H f R j=A9 H (fun i=>Bool.xor (f i j) (R i)):=rfl
 rw [e2]
 split<;>omega
theorem Zel (W:Nat):((List.range W).map fun _=>(8:Int)).sum=8*W:=by
 induction W with
 |zero=>rfl
 |succ n ih=>rw [De,Ea,Fb,ih];simp;omega
theorem VF (hh:H≤8) (hw:W≤8):A4 H W f≤64:=by
 obtain ⟨R,_,e⟩:=Iu (H:=H) (W:=W) (f:=f)
 rw [←e]
 unfold B4
 refine Int.le_trans (b:=((List.range W).map fun _=>(8:Int)).sum) (Kt fun j _=>?_) (by rw [Zel];omega)
 have:=Ri (n:=H) (r:=fun i=>Bool.xor (f i j) (R i))
 have e2:cc H f R j=A9 H (fun i=>Bool.xor (f i j) (R i)):=rfl
 rw [e2]
 split<;>omega
theorem Zem (hh:H≤8) (hw:W≤8):∃x:Str,∀h,Bp (.int (A4 H W f)) h=.ok (.str x) h:=by
 have h1:=VE (H:=H) (W:=W) (f:=f)
 have h2:=VF (H:=H) (W:=W) (f:=f) hh hw
 obtain ⟨n,e⟩:∃n:Nat,A4 H W f=(n:Int):=⟨(A4 H W f).toNat,by omega⟩
 rw [e]
 exact rp_int (by omega)
theorem Zen:Br (Bq H W p q) (Bq H W p q) h=.ok (.bl false) h:=by
 have py:Py (Bq H W p q) (.tuple [.tuple (((List.range H).filter p).map fun i=>.int ((i:Nat):Int)),.tuple (((List.range W).filter q).map fun i=>.int ((i:Nat):Int))]):=by
  have a:PyN 2 (Bq H W p q) _:=G2 (n:=1) (xs:=[(H,p),(W,q)]) (e:=fun x=>Ax x.1 x.2) (g:=fun x=>.tuple (((List.range x.1).filter x.2).map fun i=>.int ((i:Nat):Int))) fun x _=>G2 (n:=0) fun j _=>Nj
  exact a.py (by decide)
 change DQ _ _ h=_
 have ly:PyData.canLay0 (.tuple [.tuple (((List.range H).filter p).map fun i=>.int ((i:Nat):Int)),.tuple (((List.range W).filter q).map fun i=>.int ((i:Nat):Int))])=true:=by
  have a:PyN 2 (Bq H W p q) _:=G2 (n:=1) (xs:=[(H,p),(W,q)]) (e:=fun x=>Ax x.1 x.2) (g:=fun x=>.tuple (((List.range x.1).filter x.2).map fun i=>.int ((i:Nat):Int))) fun x _=>G2 (n:=0) fun j _=>Nj
  exact a.ly
 rw [Z8 py py,SeqAt.eqv_refl _ (SeqAt.canLay_of_shaped ?_)]
 ·rfl
 ·unfold SeqAt.shaped
  rw [ly]
  have a:PyN 2 (Bq H W p q) _:=G2 (n:=1) (xs:=[(H,p),(W,q)]) (e:=fun x=>Ax x.1 x.2) (g:=fun x=>.tuple (((List.range x.1).filter x.2).map fun i=>.int ((i:Nat):Int))) fun x _=>G2 (n:=0) fun j _=>Nj
  have:=a.dp
  simp at this ⊢
  omega
end
theorem Zeo {W:Nat} {r:Nat→Bool} (hw:W≤8):Rp 1 35 (Au W r):=
 Iz (n:=0) (k:=8) (L:=2) (fun d hd=>by
  obtain ⟨j,_,rfl⟩:=qaL.mp hd
  exact VB (by split<;>decide) (by split<;>decide)) (by simp;omega)
theorem Zep {H W:Nat} {f:Nat→Nat→Bool} (hh:H≤8) (hw:W≤8):∃x:Str,∀h,Bp (bD H W f) h=.ok (.str x) h:=
 NV (n:=2) (Iz (k:=8) (L:=35) (fun d hd=>by
  obtain ⟨j,_,rfl⟩:=qaL.mp hd
  exact Zeo hw) (by simp;omega)) (by decide) (by unfold sizeLine;decide)
theorem VG {n:Nat} {p:Nat→Bool} (hn:n≤8):Rp 1 35 (Ax n p):=ZbF (Iz (n:=0) (k:=8) (L:=2) (fun d hd=>by
 obtain ⟨i,hi,rfl⟩:=qaL.mp hd
 have:=qb8.mp (qbV.mp hi).1
 exact VB (by omega) (by omega)) (by
 rw [CC]
 exact BW (Js _ _) (by simpa using hn))) (by decide)
theorem Zeq {H W:Nat} {p q:Nat→Bool} (hh:H≤8) (hw:W≤8):∃x:Str,∀h,Bp (Bq H W p q) h=.ok (.str x) h:=
 NV (n:=2) (L:=2*(35+2)+3) (Iz (n:=1) (L:=35) (k:=2) (fun d hd=>by
  rcases qa4.mp hd with rfl |hd
  ·exact VG hh
  ·exact qaH.mp hd ▸ VG hw) (by simp)) (by decide) (by unfold sizeLine;decide)
@[irreducible] noncomputable def LM:MS:=An 2 (Ad Aj (Ab 1) (CK (mC (.int 1))))
@[irreducible] noncomputable def LN:MS:=Ay (B8 (Aw (Ad Br (Ae (Ai Bp) (Aa (Ba "Keeper" "board" IS (Ab 0) (Ac)) (Ac))) (Ae (Ai Bp) (Aa (Ab 2) (Ac))))) (Aw (Ad Br (Ae (Ai Bp) (Aa (Ba "Keeper" "left" I0 (Ab 0) (Ac)) (Ac))) (Ae (Ai Bp) (Aa (Ae DU (Aa (Ab 2) (Ac))) (Ac)))))) (Al (mC (.bl false))) (AD)
@[irreducible] noncomputable def LO:MS:=An 3 (Ba "Keeper" "best" Gr (Ab 0) (Ac))
@[irreducible] noncomputable def LP:MS:=An 4 (AN (Ac))
@[irreducible] noncomputable def Jm:MS:=BI (G6 (Aa (AN (Aa (Ae (Ai AJ) (Aa (Ab 2) (Ac))) (Aa (Ae (Ai AJ) (Aa (Ad Aj (Ab 2) (mC (.int 0))) (Ac))) (Ac)))) (Aa (Ab 3) (Ac)))) (BQ 5 6) (AY (BS (Ab 4) (Ae (Ai Be) (Aa (AI [none,some 6] (BY (Aa (Ab 5) (Ac))) (AV 0) (Aw (Ad (Ca false) (Ab 0) (Ab 1))) (Ab 0)) (Ac)))))
@[irreducible] noncomputable def LQ:MS:=Ay (B8 (Aw (Ad Br (Ae (Ai Bp) (Aa (Ab 3) (Ac))) (Ae (Ai Bp) (Aa (Ae (Ai Be) (Aa (Ab 4) (Ac))) (Ac))))) (Aw (Ad Br (Ba "Keeper" "best" Gr (Ab 0) (Ac)) (Ab 3)))) (Al (mC (.bl false))) (AD)
@[irreducible] noncomputable def LR:MS:=CG (BQ 7 8) (Ab 3)
@[irreducible] noncomputable def LU:MS:=Ay (Aw (Ad Br (Ae (Ai Cw) (Aa (AI [none] (By (Ae EA (Aa (Ab 2) (Aa (Ab 7) (Aa (Ab 8) (Ac)))))) (AV 0) (A7) (Ae (Ai Cw) (Aa (Ab 0) (Ac)))) (Ac))) (Ae DU (Aa (Ab 2) (Ac))))) (Al (mC (.bl false))) (AD)
@[irreducible] noncomputable def LV:MS:=An 9 (GN (Aw (Ad Bi (Ae (Ai AJ) (Aa (Ab 1) (Ac))) (mC (.int 1)))) (mC .non) (Am (Aa (Ae DU (Aa (Ad Aj (Ab 1) (CK (mC (.int 2)))) (Ac))) (Aa (Ae DU (Aa (Ab 2) (Ac))) (Ac)))))
@[irreducible] noncomputable def Jn:MS:=Al (Ad Bi (Ae (Ai Bp) (Aa (Ba "Keeper" "news" Ja (Ab 0) (Ac)) (Ac))) (Ae (Ai Bp) (Aa (Ab 9) (Ac))))
theorem Zer:OE=Af LM (Af LN (Af LO (Af LP (Af Jm (Af LQ (Af LR (Af LU (Af LV (Jn))))))))):=by
 unfold LM LN LO LP Jm LQ LR LU LV Jn
 rfl
section
variable {h:HD} {k e p H W:Nat} {fs:List Bk} {f:Bk}
theorem Zes {a b:Int} (ha:0≤a∧a<100) (hb:0≤b∧b<100):∃x:Str,∀h,Bp (.tup [.int a,.int b]) h=.ok (.str x) h:=by
 have one:∀{i:Int},0≤i∧i<100→Rp 0 3 (.int i):=fun {i} hi=>by
  obtain ⟨n,rfl⟩:∃n:Nat,i=(n:Int):=⟨i.toNat,by omega⟩
  have hn:n<100:=by omega
  refine ⟨.int (n:Nat),fun h m=>by cases m<;>rfl,?_,rfl,by simp [PyData.depth],?_⟩
  ·have:=VD n hn
   simpa [PyData.showable] using this
  ·exact VC n hn
 exact NV (n:=1) (L:=2*(3+2)+3) (Iz (n:=0) (L:=3) (k:=2) (fun d hd=>by
  rcases qa4.mp hd with rfl |hd
  ·exact one ha
  ·exact qaH.mp hd ▸ one hb) (by simp)) (by decide) (by unfold sizeLine;decide)
theorem Zet (hh:H≤8) (hw:W≤8):∃x:Str,∀h,Bp (FL H W fs f) h=.ok (.str x) h:=by
 unfold FL
 split
 ·exact ⟨_,fun h=>rfl⟩
 ·have u:∀g:Bk,0≤A4 H W g∧A4 H W g<100:=fun g=>⟨VE,by have:=VF (f:=g) hh hw;omega⟩
  exact Zes (u _) (u _)
theorem Zeu {l:Nat} {ds:List D} {x y:D} (E:h[l]?=some (.lst (ds++[x,y]))):Aj (.loc l) (.int (-2)) h=.ok x h:=by
 have e1:Ci (ds++[x,y]) (-2)=some x:=by
  have h1:CF (ds++[x,y]).length (-2)=some ds.length:=by
   unfold CF
   rw [if_neg (by decide)]
   simp
   omega
  unfold Ci
  rw [h1]
  simp
 simp only [Aj,Bd,E,e1]
inductive VH (k p H W l lz:Nat) (f:Bk) (R C:Nat→Bool) (c7 c8 c9:Option D) (h0:HD) (xs:List (Nat×(Nat→Bool))) (ρ:Ag) (h':HD):Prop where
 |mk (c5 c6:Option D) (dn:List (Nat×(Nat→Bool))) (f0:ρ=[some (.loc k),some (.loc p),some (bD H W f),some (Bq H W R C),some (.loc l),c5,c6,c7,c8,c9]) (f1:dn++xs=[(H,R),(W,C)]) (f2:h'[l]?=some (.lst (dn.map fun x=>Ax x.1 x.2)))
  (f3:h'[lz]?=some (.lst [.int (H:Nat),.int (W:Nat)])) (f4:Sm h0 h'):VH k p H W l lz f R C c7 c8 c9 h0 xs ρ h'
theorem Zev {l:Nat} {R C:Nat→Bool} {c5 c6 c7 c8 c9:Option D} {h0:HD} {Q:Fl×Ag→HD→Prop} (hh:1≤H∧H≤8) (hw:1≤W∧W≤8) (el:h[l]?=some (.lst [])) (hl:h0.length≤l) (s0:Sm h0 h)
 (q:∀c5 c6 h',h'[l]?=some (.lst [Ax H R,Ax W C])→Sm h0 h'→Q (.nx,[some (.loc k),some (.loc p),some (bD H W f),some (Bq H W R C),some (.loc l),c5,c6,c7,c8,c9]) h'):
 Wp (Jm [some (.loc k),some (.loc p),some (bD H W f),some (Bq H W R C),some (.loc l),c5,c6,c7,c8,c9] h) Q:=by
 unfold Jm
 have ll:=BM el
 refine Dw (src:=[(h.length,[.int (H:Nat),.int (W:Nat)])]) (xs:=[(H,R),(W,C)]) (fun x=>.tup [.int ((x.1:Nat):Int),Ax x.1 x.2]) (VH k p H W l h.length f R C c7 c8 c9 h0) ?_ (fun ys ρ h' z=>by obtain ⟨_,_,_,_,_,_,z,_⟩:=z;exact GR z) ?_ ?_
 ·simp [DH,Hu hh.1,E7]
  refine AU (by simp) fun lz h1 s1 e1 ez _=>?_
  subst ez
  have:Gd [.loc h.length,Bq H W R C] h1=.ok ([.tup [.int (H:Nat),Ax H R],.tup [.int (W:Nat),Ax W C]],[(h.length,[.int (H:Nat),.int (W:Nat)])]) h1:=by
   simp only [Gd,ZaH e1]
   rfl
  rw [this]
  exact ⟨rfl,_,_,[],rfl,rfl,s1 _ _ el,e1,s0.trans s1⟩
 ·rintro ⟨n,P⟩ xs ρ h' ⟨c5,c6,dn,rfl,f1,f2,f3,f4⟩
  refine ⟨_,rfl,?_⟩
  have hn:n≤8:=by
   have:(n,P)∈[(H,R),(W,C)]:=by rw [←f1];exact CH _ A1
   rcases qa4.mp this with z |z
   ·cases z;exact hh.2
   ·cases qaH.mp z;exact hw.2
  have hd:dn.length≤2:=by have:=congrArg List.length f1;simp at this;omega
  simp
  rw [CL f2]
  simp
  refine Pu.wp (QK (src:=[]) (xs:=List.range n) (φ:=fun i=>.int ((i:Nat):Int)) P (fun i=>.int ((i:Nat):Int)) (fun i=>[some (.int ((i:Nat):Int)),some (Ax n P)]) (Zac (by simp [BY,Aa,Ab,Ac];exact ES (by omega))) (fun x _=>rfl) (fun x hx h2 s2=>?_) (fun x hx _ h2 s2=>?_) (sz hn)) fun h2 s2=>?_
  ·simp [Pu,Aw,Ad,Ab]
   rw [Jf (qb8.mp hx)]
   simp [F0,Sm.refl]
  ·simp [Pu,Sm.refl]
  ·have e2:=s2 _ _ f2
   rw [El e2 (by simp;exact GB hd (by decide))]
   simp [B1]
   refine ⟨_,_,dn++[(n,P)],rfl,by rw [←f1];simp,?_,?_,Sm.put (f4.trans s2) hl⟩
   ·rw [DK (BM e2)]
    simp [Ax]
   ·rw [Bt (by omega)]
    exact s2 _ _ f3
 ·rintro ρ h' ⟨c5,c6,dn,rfl,f1,f2,f3,f4⟩
  rw [D9] at f1
  subst f1
  exact q _ _ h' f2 f4
theorem O3 (hh:1≤H∧H≤8) (hw:1≤W∧W≤8) (K:KpAt h k e H W fs f) (hp:h[p]?=some (.lst ((fs++[f]).map (bD H W)))):Pu (DY [.loc k,.loc p] h) h (.bl true):=by
 change Wp (As 10 OE [.loc k,.loc p] h) _
 rw [Zer]
 refine Eq.mpr AH ?_
 change Wp (Af LM (Af LN (Af LO (Af LP (Af Jm (Af LQ (Af LR (Af LU (Af LV (Jn))))))))) [some (.loc k),some (.loc p),none,none,none,none,none,none,none,none] h) _
 refine Eq.mpr A8 ?_
 unfold LM
 have hp1:h[p]?=some (.lst (fs.map (bD H W)++[bD H W f])):=by rw [hp];simp
 simp [-Ah]
 rw [OY hp1]
 try simp [-Ah]
 refine Eq.mpr Ah ?_
 refine Eq.mpr A8 ?_
 unfold LN
 obtain ⟨y,ry⟩:=Zep (f:=f) hh.2 hw.2
 obtain ⟨z,rz⟩:=Zem (f:=f) hh.2 hw.2
 simp [-Ah,Cu (m:="board") K.at_ (by decide)]
 refine (ZdV K).wp fun h1 s1=>?_
 have K1:=K.sm s1
 rw [ry]
 simp [-Ah]
 rw [ry]
 simp [-Ah,Cu (m:="left") K1.at_ (by decide)]
 refine (ZdW hh hw K1).wp fun h2 s2=>?_
 have K2:=K1.sm s2
 rw [rz]
 simp [-Ah]
 refine (Lo hh hw).wp fun h3 s3=>?_
 have K3:=K2.sm s3
 rw [rz]
 simp [-Ah]
 refine Eq.mpr Ah ?_
 refine Eq.mpr A8 ?_
 unfold LO
 obtain ⟨R,_,eR,hbest⟩:=ZdX (f:=f) hh hw
 have eT:TT H W f R (DA H (cc H f R))=A4 H W f:=by rw [←eR];exact NG
 simp [-Ah,Cu (m:="best") K3.at_ (by decide)]
 refine (hbest h3 k e fs K3).wp fun h4 s4=>?_
 have K4:=K3.sm s4
 generalize DA H (cc H f R)=C at eT hbest
 refine Eq.mpr Ah ?_
 refine Eq.mpr A8 ?_
 unfold LP
 simp [-Ah]
 refine AU (by simp) fun l h5 s5 e5 el _=>?_
 refine Eq.mpr Ah ?_
 refine Eq.mpr A8 ?_
 refine Zev (h0:=h4) hh hw e5 (by omega) s5 fun c5 c6 h6 e6 s6=>?_
 have K6:=K4.sm s6
 refine Eq.mpr Ah ?_
 refine Eq.mpr A8 ?_
 unfold LQ
 obtain ⟨v,rv⟩:=Zeq (p:=R) (q:=C) hh.2 hw.2
 simp [-Ah,rv]
 have et:Be (.loc l) h6=.ok (Bq H W R C) h6:=by simp [Be,e6,Bq]
 rw [et]
 simp [-Ah,rv,Cu (m:="best") K6.at_ (by decide)]
 refine (hbest h6 k e fs K6).wp fun h7 s7=>?_
 have K7:=K6.sm s7
 simp [-Ah,Zen]
 refine Eq.mpr Ah ?_
 refine Eq.mpr A8 ?_
 unfold LR
 simp [-Ah,Bq]
 refine Eq.mpr Ah ?_
 refine Eq.mpr A8 ?_
 unfold LU
 simp [-Ah]
 refine Pu.wp (Ks (src:=[]) (xs:=List.range H) (φ:=fun i=>Au W (CY f R C i)) (fun i=>A9 W (CY f R C i)) (fun i=>[some (Au W (CY f R C i))]) ?_ (fun x _=>rfl) (fun x hx h' s'=>?_) (sz hh.2)) fun h8 s8=>?_
 ·unfold B3
  simp
  refine (OW hh hw).wp fun h1 s1=>?_
  simp [bD,s1,Bj]
 ·simp [Pu,Vc,Sm.refl]
 have K8:=K7.sm s8
 have sumT:(List.map (fun i=>A9 W (CY f R C i)) (List.range H)).sum=A4 H W f:=by rw [←eT,←Rk];rfl
 rw [sumT]
 refine (Lo hh hw).wp fun h9 s9=>?_
 have K9:=K8.sm s9
 simp [-Ah]
 refine Eq.mpr Ah ?_
 refine Eq.mpr A8 ?_
 unfold LV
 have s09:Sm h h9:=(((((((s1.trans s2).trans s3).trans s4).trans s6).trans s7).trans s8).trans s9)
 have hp9:=s09 _ _ hp1
 simp [-Ah]
 rw [Kr hp9]
 have AQ:∀h10,Sm h9 h10→Wp (Jn [some (.loc k),some (.loc p),some (bD H W f),some (.tup [Ax H R,Ax W C]),some (.loc l),c5,c6,some (Ax H R),some (Ax W C),some (FL H W fs f)] h10) (GX fun x h'=>x=.bl true∧Sm h h'):=fun h10 s10=>by
  unfold Jn
  obtain ⟨u,ru⟩:=Zet (fs:=fs) (f:=f) hh.2 hw.2
  have K10:=K9.sm s10
  simp [Cu (m:="news") K10.at_ (by decide)]
  refine (ZdY hh hw K10).wp fun h11 s11=>?_
  rw [ru]
  simp
  rw [ru]
  simp [Gu]
  exact (s09.trans s10).trans s11
 rcases Jt fs with rfl |⟨gs,g,rfl⟩
 ·simp [-Ah]
  refine Eq.mpr Ah ?_
  exact AQ h9 (.refl _)
 ·have ne1:¬(((gs.length:Nat):Int)+2=1):=by omega
  have e2:h9[p]?=some (.lst (gs.map (bD H W)++[bD H W g,bD H W f])):=by rw [hp9];simp
  simp [-Ah,ne1]
  rw [Zeu e2]
  simp [-Ah]
  refine (Lo hh hw).wp fun h10 s10=>?_
  refine (Lo hh hw).wp fun h11 s11=>?_
  try simp [-Ah]
  refine Eq.mpr Ah ?_
  have:=AQ h11 (s10.trans s11)
  have en:FL H W (gs++[g]) f=.tup [.int (A4 H W g),.int (A4 H W f)]:=by unfold FL;simp
  rw [Ml] at this
  rw [en] at this
  exact this
end
@[irreducible] noncomputable def LW:MS:=Ir (Aw (Ad GP (Ae (Ai AJ) (Aa (Ab 1) (Ac))) (mC (.int 1)))) (Af (AY (Eu (Ab 1))) (Ay (B8 (Aw (Ad CS (Ba "Keeper" "undo" CV (Ab 0) (Ac)) (mC .non))) (Bn (Bm (Ae DY (Aa (Ab 0) (Aa (Ab 1) (Ac))))))) (Al (mC (.bl false))) (AD)))
@[irreducible] noncomputable def LY:MS:=Al (Ad Bi (DB 1 "_law_undone" [0] Cs (Ba "Keeper" "undo" CV (Ab 0) (Ac))) (mC (.str "! row")))
theorem Zew:OG=Af LW (LY):=by
 unfold LW LY
 rfl
def S3 (k e p:Nat) (h h':HD):Prop:=∀l c,l≠k→l≠e→l≠p→h[l]?=some c→h'[l]?=some c
section
variable {h:HD} {k e p H W:Nat} {fs:List Bk} {f:Bk}
theorem S3.trans {h1 h2:HD} (a:S3 k e p h h1) (b:S3 k e p h1 h2):S3 k e p h h2:=fun l c n1 n2 n3 z=>b l c n1 n2 n3 (a l c n1 n2 n3 z)
theorem VI {h':HD} (s:Sm h h'):S3 k e p h h':=fun l c _ _ _ z=>s l c z
theorem Zex {h':HD} (s:Sx k e h h'):S3 k e p h h':=fun l c n1 n2 _ z=>s l c n1 n2 z
theorem Zey {c:Cell}:S3 k e p h (h.set p c):=fun l c _ _ n z=>by rw [Bt (Ne.symm n)];exact z
theorem KpAt.set {c:Cell} (K:KpAt h k e H W fs f) (n1:p≠k) (n2:p≠e):KpAt (h.set p c) k e H W fs f:=⟨by rw [Bt n1];exact K.at_,by rw [Bt n2];exact K.er⟩
inductive VJ (k e p H W:Nat) (h0:HD) (n:Nat) (ρ:Ag) (h':HD):Prop where
 |mk (fs:List Bk) (f:Bk) (f0:ρ=[some (.loc k),some (.loc p)]) (f1:fs.length=n) (f2:KpAt h' k e H W fs f) (f3:h'[p]?=some (.lst (fs.map (bD H W)++[bD H W f]))) (f4:S3 k e p h0 h') (f5:n≤1000):VJ k e p H W h0 n ρ h'
theorem VL {Q:D→HD→Prop} (hh:1≤H∧H≤8) (hw:1≤W∧W≤8) (K:KpAt h k e H W fs f) (hp:h[p]?=some (.lst (fs.map (bD H W)++[bD H W f]))) (hl:fs.length≤1000) (tu:h[1]?=some (.tabn "_law_undone")) (n1:p≠k) (n2:p≠e)
 (q:∀h' f0,KpAt h' k e H W [] f0→h'[p]?=some (.lst [bD H W f0])→S3 k e p h h'→Q (.bl true) h'):Wp (Hr [.loc k,.loc p] h) Q:=by
 change Wp (As 2 OG [.loc k,.loc p] h) _
 rw [Zew]
 refine Eq.mpr AH ?_
 change Wp (Af LW LY [some (.loc k),some (.loc p)] h) _
 refine Eq.mpr A8 ?_
 have t1k:(1:Nat)≠k:=fun z=>by have:=K.at_;rw [←z,tu] at this;cases this
 have t1e:(1:Nat)≠e:=fun z=>by have:=K.er;rw [←z,tu] at this;cases this
 have t1p:(1:Nat)≠p:=fun z=>by rw [←z,tu] at hp;cases hp
 unfold LW
 refine ZaO (VJ k e p H W h) fs.length (by omega) ⟨fs,f,rfl,rfl,K,hp,fun _ _ _ _ _ z=>z,hl⟩ ?_
 rintro n ρ h1 ⟨fs,f,rfl,e1,K1,hp1,s1,hn⟩
 simp
 rw [Kr hp1]
 rcases Jt fs with rfl |⟨gs,g,rfl⟩
 ·simp [GP,F0]
  unfold LY
  simp
  have tu1:=s1 _ _ t1k t1e t1p tu
  refine Vb (ds:=[.loc k]) tu1 rfl ?_ fun h2 s2=>?_
  ·unfold Er
   simp [Cu (m:="undo") K1.at_ (by decide)]
   exact Vy K1
  simp [Gu]
  exact q h2 f (K1.sm s2) (s2 _ _ hp1) (s1.trans (VI s2))
 ·rw [Ml] at hp1 K1 e1
  have g1:(1:Int)<((gs.length:Nat):Int)+2:=by omega
  have e2:h1[p]?=some (.lst ((gs.map (bD H W)++[bD H W g])++[bD H W f])):=by rw [hp1];simp
  simp [g1]
  rw [CL e2]
  simp
  rw [OZ e2]
  simp
  have K2:=K1.set (c:=.lst (gs.map (bD H W)++[bD H W g])) n1 n2
  simp [Cu (m:="undo") K2.at_ (by decide)]
  refine Vz K2 fun h3 K3 s3=>?_
  have e3:h3[p]?=some (.lst ((gs++[g]).map (bD H W))):=by
   rw [s3 p _ n1 n2 (DK (BM e2))]
   simp
  have in0:CS .non .non h3=.ok (.bl false) h3:=rfl
  simp [in0]
  refine (O3 hh hw K3 e3).wp fun h4 s4=>?_
  simp [B1,Co]
  refine ⟨gs.length,by simp at e1;omega,gs,g,rfl,rfl,K3.sm s4,?_,((s1.trans Zey).trans (Zex s3)).trans (VI s4),by simp at e1;omega⟩
  rw [s4 _ _ e3]
  simp
end
@[irreducible] noncomputable def Jo:MS:=An 2 (Ae KW (Aa (Ab 0) (Aa (Ab 1) (Ac))))
@[irreducible] noncomputable def LZ:MS:=Fq 3 4 (Aa (AN (Ac)) (Aa (AN (Ac)) (Ac)))
@[irreducible] noncomputable def Hw:MS:=BI (BY (Aa (mC (.int 2)) (Ac))) (AV 5) (Af (An 6 (Ae IW (Aa (Ab 2) (Aa (Ad Av (mC (.int 1)) (Ae AZ (Aa (Ab 2) (Aa (mC (.int 5)) (Ac))))) (Aa (Ad Av (mC (.int 1)) (Ae AZ (Aa (Ab 2) (Aa (mC (.int 5)) (Ac))))) (Ac)))))) (Af (AY (BS (Ab 3) (AN (Aa (Ab 6) (Ac))))) (AY (BS (Ab 4) (Ey "Keeper" FI (Aa (Ab 6) (Ac)))))))
@[irreducible] noncomputable def L7:MS:=An 7 (Ae Hn (Aa (Ab 2) (Ac)))
@[irreducible] noncomputable def Hx:MS:=BI (BY (Aa (Ad Av (mC (.int 10)) (Ae AZ (Aa (Ab 2) (Aa (mC (.int 9)) (Ac))))) (Ac))) (AV 5) (Af (An 8 (Ad EN (Ae AZ (Aa (Ab 7) (Aa (mC (.int 3)) (Ac)))) (mC (.int 2)))) (Af (CG (CT [9,10]) (Am (Aa (Ad Aj (Ab 4) (Ab 8)) (Aa (Ad Aj (Ab 3) (Ab 8)) (Ac))))) (Af (Ay (Aw (Ad Bi (Ae AZ (Aa (Ab 7) (Aa (mC (.int 4)) (Ac)))) (mC (.int 0)))) (Ay (Aw (Ad Bi (Ae (Ai AJ) (Aa (Ab 10) (Ac))) (mC (.int 1)))) (Ay (Aw (Ad Br (FC [9] Cs (Ba "Keeper" "undo" CV (Ab 0) (Ac))) (mC (.str "! row")))) (Al (mC (.bl false))) (AD)) (Af (AY (Eu (Ab 10))) (Ay (Aw (Ad CS (Ba "Keeper" "undo" CV (Ab 9) (Ac)) (mC .non))) (Al (mC (.bl false))) (AD)))) (Af (CG (CT [11,12,13]) (Ae IV (Aa (Ab 7) (Aa (Ad Aj (Ab 10) (CK (mC (.int 1)))) (Ac))))) (Ay (Aw (Ad Fm (Ab 13) (mC .non))) (Ay (Aw (Ad Br (FC [9,11,12] Cs (Ae E6 (Aa (Ab 0) (Aa (Ab 1) (Aa (Ab 2) (Ac)))))) (mC (.str "! line")))) (Al (mC (.bl false))) (AD)) (Af (AY (BS (Ab 10) (Ab 13))) (Ay (Aw (Ad CS (Ae E6 (Aa (Ab 9) (Aa (Ab 11) (Aa (Ab 12) (Ac))))) (mC .non))) (Al (mC (.bl false))) (AD)))))) (Ay (B8 (Bn (Bm (Ae DY (Aa (Ad Aj (Ab 4) (mC (.int 0))) (Aa (Ad Aj (Ab 3) (mC (.int 0))) (Ac)))))) (Bn (Bm (Ae DY (Aa (Ad Aj (Ab 4) (mC (.int 1))) (Aa (Ad Aj (Ab 3) (mC (.int 1))) (Ac))))))) (Al (mC (.bl false))) (AD)))))
@[irreducible] noncomputable def L8:MS:=Ay (B8 (Bn (Bm (Ae Hr (Aa (Ad Aj (Ab 4) (mC (.int 0))) (Aa (Ad Aj (Ab 3) (mC (.int 0))) (Ac)))))) (Bn (Bm (Ae Hr (Aa (Ad Aj (Ab 4) (mC (.int 1))) (Aa (Ad Aj (Ab 3) (mC (.int 1))) (Ac))))))) (Al (mC (.bl false))) (AD)
@[irreducible] noncomputable def L9:MS:=An 14 (Ae KY (Aa (Ab 2) (Aa (Ad Aj (Ad Aj (Ab 3) (mC (.int 0))) (mC (.int 0))) (Ac))))
@[irreducible] noncomputable def Ma:MS:=Ay (Aw (Ad Br (FC [14] Cs (Ey "Keeper" FI (Aa (Ab 0) (Ac)))) (mC (.str "! board")))) (Al (mC (.bl false))) (AD)
@[irreducible] noncomputable def Mb:MS:=An 8 (Ad EN (Ae AZ (Aa (Ab 7) (Aa (mC (.int 3)) (Ac)))) (mC (.int 2)))
@[irreducible] noncomputable def Mc:MS:=CG (CT [9,10]) (Am (Aa (Ad Aj (Ab 4) (Ab 8)) (Aa (Ad Aj (Ab 3) (Ab 8)) (Ac))))
@[irreducible] noncomputable def Jp:MS:=Ay (Aw (Ad Bi (Ae AZ (Aa (Ab 7) (Aa (mC (.int 4)) (Ac)))) (mC (.int 0)))) (Ay (Aw (Ad Bi (Ae (Ai AJ) (Aa (Ab 10) (Ac))) (mC (.int 1)))) (Ay (Aw (Ad Br (FC [9] Cs (Ba "Keeper" "undo" CV (Ab 0) (Ac))) (mC (.str "! row")))) (Al (mC (.bl false))) (AD)) (Af (AY (Eu (Ab 10))) (Ay (Aw (Ad CS (Ba "Keeper" "undo" CV (Ab 9) (Ac)) (mC .non))) (Al (mC (.bl false))) (AD)))) (Af (CG (CT [11,12,13]) (Ae IV (Aa (Ab 7) (Aa (Ad Aj (Ab 10) (CK (mC (.int 1)))) (Ac))))) (Ay (Aw (Ad Fm (Ab 13) (mC .non))) (Ay (Aw (Ad Br (FC [9,11,12] Cs (Ae E6 (Aa (Ab 0) (Aa (Ab 1) (Aa (Ab 2) (Ac)))))) (mC (.str "! line")))) (Al (mC (.bl false))) (AD)) (Af (AY (BS (Ab 10) (Ab 13))) (Ay (Aw (Ad CS (Ae E6 (Aa (Ab 9) (Aa (Ab 11) (Aa (Ab 12) (Ac))))) (mC .non))) (Al (mC (.bl false))) (AD)))))
@[irreducible] noncomputable def Jq:MS:=Ay (B8 (Bn (Bm (Ae DY (Aa (Ad Aj (Ab 4) (mC (.int 0))) (Aa (Ad Aj (Ab 3) (mC (.int 0))) (Ac)))))) (Bn (Bm (Ae DY (Aa (Ad Aj (Ab 4) (mC (.int 1))) (Aa (Ad Aj (Ab 3) (mC (.int 1))) (Ac))))))) (Al (mC (.bl false))) (AD)
theorem Zez:Hx=BI (BY (Aa (Ad Av (mC (.int 10)) (Ae AZ (Aa (Ab 2) (Aa (mC (.int 9)) (Ac))))) (Ac))) (AV 5) (Af Mb (Af Mc (Af Jp Jq))):=by
 unfold Hx Mb Mc Jp Jq
 rfl
@[simp] theorem Zjf {ρ:Ag} {a b c:D} {i j k:Nat}:CT [i,j,k] (.tup [a,b,c]) ρ=some (((ρ.set i (some a)).set j (some b)).set k (some c)):=id rfl
structure Pr where
 k:Nat
 e:Nat
 p:Nat
 H:Nat
 W:Nat
 fs:List Bk
 f:Bk
structure PrAt (h:HD) (x:Pr):Prop where
 kp:KpAt h x.k x.e x.H x.W x.fs x.f
 ps:h[x.p]?=some (.lst (x.fs.map (bD x.H x.W)++[bD x.H x.W x.f]))
 hh:1≤x.H∧x.H≤8
 hw:1≤x.W∧x.W≤8
 n1:x.p≠x.k
 n2:x.p≠x.e
theorem PrAt.sm {h h':HD} {x:Pr} (P:PrAt h x) (s:Sm h h'):PrAt h' x:=⟨P.kp.sm s,s _ _ P.ps,P.hh,P.hw,P.n1,P.n2⟩
def Sn (S:List Nat) (h h':HD):Prop:=∀l c,l∉S→h[l]?=some c→h'[l]?=some c
theorem Sn.trans {S:List Nat} {h h1 h2:HD} (a:Sn S h h1) (b:Sn S h1 h2):Sn S h h2:=fun l c n z=>b l c n (a l c n z)
theorem VM {S:List Nat} {h h':HD} (s:Sm h h'):Sn S h h':=fun l c _ z=>s l c z
theorem FM {S:List Nat} {b:Nat} {h h':HD} (s:Smx b h h') (hb:b∈S):Sn S h h':=fun l c n z=>s l c (fun e=>n (e ▸ hb)) z
theorem VN {S:List Nat} {k e:Nat} {h h':HD} (s:Sx k e h h') (h1:k∈S) (h2:e∈S):Sn S h h':=fun l c n z=>s l c (fun q=>n (q ▸ h1)) (fun q=>n (q ▸ h2)) z
theorem VO {S:List Nat} {p:Nat} {c:Cell} {h:HD} (h1:p∈S):Sn S h (h.set p c):=fun l x n z=>by
 have ne:p≠l:=fun q=>n (q ▸ h1)
 rw [Bt ne];exact z
theorem PrAt.sn {S:List Nat} {h h':HD} {x:Pr} (P:PrAt h x) (s:Sn S h h') (h1:x.k∉S) (h2:x.e∉S) (h3:x.p∉S):PrAt h' x:=⟨⟨s _ _ h1 P.kp.at_,s _ _ h2 P.kp.er⟩,s _ _ h3 P.ps,P.hh,P.hw,P.n1,P.n2⟩
section
variable {ns:List Int} {kk b lp lk d:Nat} {h:HD} {z:Pr} {c5 c6 c8 c11 c12 c13 c14:Option D} {Q:Fl×Ag→HD→Prop}
def BC (ns:List Int) (kk b lp lk:Nat) (c5 c6 c7 c8 c9 c10 c11 c12 c13 c14:Option D):Ag:=[some (.scr ns),some (.int (kk:Nat)),some (.loc b),some (.loc lp),some (.loc lk),c5,c6,c7,c8,c9,c10,c11,c12,c13,c14]
theorem VP (P:PrAt h z) (hx:BoxAt h d) (hd:0<d) (ht:TabAt h) (dk:d≠z.k) (de:d≠z.e) (dp:d≠z.p) (t0:0≠z.k∧0≠z.e∧0≠z.p) (hl:z.fs.length≤900)
 (q:∀(fs:List Bk) (f:Bk) h' c11 c12 c13,PrAt h' {z with fs:=fs,f:=f}→fs.length≤z.fs.length+1→BoxAt h' d→Sn [z.k,z.e,z.p,d] h h'→Q (.nx,BC ns kk b lp lk c5 c6 (some (.loc d)) c8 (some (.loc z.k)) (some (.loc z.p)) c11 c12 c13 c14) h'):
 Wp (Jp (BC ns kk b lp lk c5 c6 (some (.loc d)) c8 (some (.loc z.k)) (some (.loc z.p)) c11 c12 c13 c14) h) Q:=by
 unfold Jp BC
 simp
 refine CW hx hd ht (by decide) (by decide) fun w h1 lw x1 t1 s1=>?_
 have S1:Sn [z.k,z.e,z.p,d] h h1:=FM s1 (by simp)
 have P1:PrAt h1 z:=⟨⟨s1 _ _ (Ne.symm dk) P.kp.at_,s1 _ _ (Ne.symm de) P.kp.er⟩,s1 _ _ (Ne.symm dp) P.ps,P.hh,P.hw,P.n1,P.n2⟩
 have ho:Sn [z.k,z.e,z.p,d] h h1:=S1
 by_cases w0:w=0
 ·subst w0
  simp
  rw [Kr P1.ps]
  rcases hfs:z.fs with _ |⟨g0,Jo⟩
  ·have K1:=P1.kp
   rw [hfs] at K1
   simp
   refine Vb (ds:=[.loc z.k]) t1 rfl ?_ fun h2 s2=>?_
   ·unfold Er
    simp [Cu (m:="undo") K1.at_ (by decide)]
    exact Vy K1
   simp
   have:=q z.fs z.f h2 c11 c12 c13 (P1.sm s2) (by omega) (x1.sm s2) (S1.trans (VM s2))
   exact this
  ·have hne:z.fs≠[]:=by rw [hfs];simp
   rcases Jt z.fs with h0 |⟨gs,g,h0⟩
   ·exact absurd h0 hne
   rw [Ml] at h0
   have K1:=P1.kp
   have p1:=P1.ps
   rw [h0] at K1 p1
   have e2:h1[z.p]?=some (.lst ((gs.map (bD z.H z.W)++[bD z.H z.W g])++[bD z.H z.W z.f])):=by rw [p1];simp
   rw [←hfs,h0]
   have ne1:¬(((gs.length:Nat):Int)+2=1):=by omega
   simp [ne1]
   rw [CL e2]
   simp
   rw [OZ e2]
   simp
   have K2:=K1.set (c:=.lst (gs.map (bD z.H z.W)++[bD z.H z.W g])) P.n1 P.n2
   simp [Cu (m:="undo") K2.at_ (by decide)]
   refine Vz K2 fun h3 K3 s3=>?_
   have e3:h3[z.p]?=some (.lst (gs.map (bD z.H z.W)++[bD z.H z.W g])):=by rw [s3 z.p _ P.n1 P.n2 (DK (BM e2))]
   have in0:CS .non .non h3=.ok (.bl false) h3:=rfl
   simp [in0]
   have x3:BoxAt h3 d:=by
    obtain ⟨n,en⟩:=x1
    exact ⟨n,s3 d _ dk de (by rw [Bt (Ne.symm dp)];exact en)⟩
   have:=q gs g h3 c11 c12 c13 ⟨K3,e3,P.hh,P.hw,P.n1,P.n2⟩ (by rw [h0];simp;omega) x3 ((S1.trans (VO (by simp))).trans (VN s3 (by simp) (by simp)))
   exact this
 ·have e0:¬(w:Int)=0:=by omega
  simp [e0,w0]
  rw [OY P1.ps]
  simp
  refine Zek P.hh P.hw x1 hd t1 fun t h2 dt x2 t2 s2=>?_
  have S2:Sn [z.k,z.e,z.p,d] h h2:=S1.trans (FM s2 (by simp))
  have P2:PrAt h2 z:=⟨⟨s2 _ _ (Ne.symm dk) P1.kp.at_,s2 _ _ (Ne.symm de) P1.kp.er⟩,s2 _ _ (Ne.symm dp) P1.ps,P.hh,P.hw,P.n1,P.n2⟩
  cases dt with
  |bad wd nn hbad=>
   have is0:Fm .non .non h2=.ok (.bl true) h2:=rfl
   simp [is0]
   refine Zdz (ds:=[.loc z.k,.str wd,.tup nn]) t2 rfl ?_ fun h3 s3=>?_
   ·unfold Er
    simp
    exact hbad h2 z.k z.e z.fs (.refl _) P2.kp
   simp
   exact q z.fs z.f h3 _ _ _ (P2.sm s3) (by omega) (x2.sm s3) (S2.trans (VM s3))
  |good wd nn f' hgood=>
   have is0:Fm (bD z.H z.W f') .non h2=.ok (.bl false) h2:=rfl
   simp [is0]
   rw [CL P2.ps]
   simp
   rw [El P2.ps (by simp;exact GB (show z.fs.length+1≤1000 by omega) (by decide))]
   simp
   have K3:=P2.kp.set (c:=.lst ((z.fs.map (bD z.H z.W)++[bD z.H z.W z.f])++[bD z.H z.W f'])) P.n1 P.n2
   simp at K3
   refine hgood _ z.k z.e z.fs _ K3 (by omega) fun h4 K4 s4=>?_
   have e4:=s4 z.p _ P.n1 P.n2 (DK (BM P2.ps))
   have in0:CS .non .non h4=.ok (.bl false) h4:=rfl
   simp [in0]
   have x4:BoxAt h4 d:=by
    obtain ⟨n,en⟩:=x2
    exact ⟨n,s4 d _ dk de (by rw [Bt (Ne.symm dp)];exact en)⟩
   exact q (z.fs++[z.f]) f' h4 _ _ _ ⟨K4,by rw [e4];simp,P.hh,P.hw,P.n1,P.n2⟩ (by simp) x4 ((S2.trans (VO (by simp))).trans (VN s4 (by simp) (by simp)))
end
theorem ZeA {k:Nat} {y:D} {ρ:Ag} {h:HD} (E:h[k]?=some (.ins "Keeper" [])):Ew "Keeper" "now" (.loc k) y ρ h=.ok (.nx,ρ) (h.set k (.ins "Keeper" [("now",y)])):=by unfold Ew;simp only [E];rfl
theorem ZeB {k l:Nat} {x:D} {ρ:Ag} {h:HD} (E:h[k]?=some (.ins "Keeper" [("now",x)])):Ew "Keeper" "earlier" (.loc k) (.loc l) ρ h=.ok (.nx,ρ) (h.set k (EF x l)):=by unfold Ew;simp only [E];rfl
theorem ZeC {h:HD} {k H W:Nat} {f:Bk} {Q:D→HD→Prop} (hh:1≤H∧H≤8) (hw:1≤W∧W≤8) (E:h[k]?=some (.ins "Keeper" [])) (q:∀h' e,KpAt h' k e H W [] f→h.length≤e→Sn [k] h h'→Q .non h'):Wp (FI [.loc k,bD H W f] h) Q:=by
 change Wp (As 2 OB [.loc k,bD H W f] h) _
 refine Eq.mpr AH ?_
 simp
 refine (Lj hh hw).wp fun h1 s1=>?_
 have E1:=s1 _ _ E
 try simp
 rw [ZeA E1]
 simp
 refine AU (by simp) fun l h2 s2 e2 el _=>?_
 have E2:h2[k]?=some (.ins "Keeper" [("now",bD H W f)]):=s2 _ _ (DK (BM E1))
 have hl:h.length≤l:=by rw [el,Jz];exact s1.len
 have kl:k≠l:=by have:=BM E;omega
 rw [ZeB E2]
 simp
 refine q _ l ⟨DK (BM E2),by rw [Bt kl];exact e2⟩ hl fun j c n z=>?_
 have nj:k≠j:=fun z=>n (by simp [z])
 rw [Bt nj]
 exact s2 _ _ (by rw [Bt nj];exact s1 _ _ z)
theorem ZeD {h:HD} {k:Nat} {d:D} (n:NoB h d):Er (FI [.loc k,d] h) h "NoBoard":=by
 change We (As 2 OB [.loc k,d] h) _ _
 refine Eq.mpr DD ?_
 simp
 refine (Zc7 n.1 n.2).we fun h1 s1=>?_
 exact ⟨rfl,rfl,s1⟩
section
variable {ns:List Int} {kk b lp lk d:Nat} {h:HD} {c3 c4 c5 c6 c7 c8 c9 c10 c11 c12 c13 c14:Option D} {Q:Fl×Ag→HD→Prop}
structure DL (h:HD) (b lp lk:Nat) (x y:Pr):Prop where
 t0:TabAt h
 t1:h[1]?=some (.tabn "_law_undone")
 bx:BoxAt h b
 ps:h[lp]?=some (.lst [.loc x.p,.loc y.p])
 ks:h[lk]?=some (.lst [.loc x.k,.loc y.k])
 px:PrAt h x
 py:PrAt h y
 od:1<b∧b<lp∧lp<lk∧lk<x.p∧x.p<x.k∧x.k<x.e∧x.e<y.p∧y.p<y.k∧y.k<y.e
noncomputable abbrev O4:MS:=Af (An 6 (Ae IW (Aa (Ab 2) (Aa (Ad Av (mC (.int 1)) (Ae AZ (Aa (Ab 2) (Aa (mC (.int 5)) (Ac))))) (Aa (Ad Av (mC (.int 1)) (Ae AZ (Aa (Ab 2) (Aa (mC (.int 5)) (Ac))))) (Ac)))))) (Af (AY (BS (Ab 3) (AN (Aa (Ab 6) (Ac))))) (AY (BS (Ab 4) (Ey "Keeper" FI (Aa (Ab 6) (Ac))))))
theorem VQ {dp dk:List D} (hb:1<b) (hbp:b<lp) (hpk:lp<lk) (hx:BoxAt h b) (ht:TabAt h) (tu:h[1]?=some (.tabn "_law_undone")) (ep:h[lp]?=some (.lst dp)) (ek:h[lk]?=some (.lst dk)) (lp2:dp.length≤5) (lk2:dk.length≤5)
 (q:∀z h' c6,PrAt h' z→z.fs=[]→h.length≤z.p→z.p<z.k→z.k<z.e→z.e<h'.length→BoxAt h' b→TabAt h'→h'[1]?=some (.tabn "_law_undone")→h'[lp]?=some (.lst (dp++[.loc z.p]))→h'[lk]?=some (.lst (dk++[.loc z.k]))→Sn [b,lp,lk] h h'→Q (.nx,BC ns kk b lp lk c5 c6 c7 c8 c9 c10 c11 c12 c13 c14) h'):
 Wp (O4 (BC ns kk b lp lk c5 c6 c7 c8 c9 c10 c11 c12 c13 c14) h) Q:=by
 unfold O4 BC
 simp
 refine CW hx (by omega) ht (by decide) (by decide) fun d1 h1 l1 x1 t1 s1=>?_
 simp
 refine CW x1 (by omega) t1 (by decide) (by decide) fun d2 h2 l2 x2 t2 s2=>?_
 simp
 obtain ⟨H,eH,hh⟩:∃H:Nat,(1:Int)+(d1:Int)=(H:Int)∧1≤H∧H≤8:=⟨1+d1,by omega,by omega,by omega⟩
 obtain ⟨W,eW,hw⟩:∃W:Nat,(1:Int)+(d2:Int)=(W:Int)∧1≤W∧W≤8:=⟨1+d2,by omega,by omega,by omega⟩
 rw [eH,eW]
 refine Zdw x2 hh hw fun f h3 x3 s3=>?_
 have S3':Smx b h h3:=(s1.trans s2).trans s3
 have hl3:h.length≤h3.length:=S3'.len x3.lt
 have ep3:=S3' _ _ (by omega) ep
 have ek3:=S3' _ _ (by omega) ek
 have tu3:=S3' _ _ (by omega) tu
 have t3:TabAt h3:=S3' _ _ (by omega) ht
 try simp
 rw [CL ep3]
 simp
 refine AU (by simp) fun p h4 s4 e4 el4 _=>?_
 have l4:h4.length=h3.length+1:=by rename_i eh;rw [eh];simp
 have ep4:=s4 _ _ ep3
 rw [El ep4 (by exact GB lp2 (by decide))]
 simp
 have nlk:lp≠lk:=by omega
 have np:lp≠p:=by have:=BM ep3;omega
 have ek5:(h4.set lp (.lst (dp++[.loc p])))[lk]?=some (.lst dk):=by rw [Bt nlk];exact s4 _ _ ek3
 rw [CL ek5]
 simp
 obtain ⟨h5,e5⟩:∃h5,h5=h4.set lp (.lst (dp++[.loc p])):=⟨_,rfl⟩
 have l5:h4.length=h5.length:=by rw [e5];simp
 rw [l5,←e5]
 have ek5:h5[lk]?=some (.lst dk):=by rw [e5];exact ek5
 have g5:∀l c,l≠lp→h3[l]?=some c→h5[l]?=some c:=fun l c n z=>by rw [e5,Bt (Ne.symm n)];exact s4 _ _ z
 have p5:h5[p]?=some (.lst [bD H W f]):=by rw [e5,Bt np];exact e4
 have lp5:h5[lp]?=some (.lst (dp++[.loc p])):=by rw [e5];exact DK (BM ep4)
 refine ZeC (k:=h5.length) hh hw (by simp) fun h6 e K6 le6 s6=>?_
 have old:∀l c,h5[l]?=some c→h6[l]?=some c:=fun l c z=>s6 l c (by have:=BM z;simp;omega) (Sm.app _ _ _ _ z)
 simp
 have ek6:=old _ _ ek5
 rw [El ek6 (by exact GB lk2 (by decide))]
 simp
 have ne1:lk≠h5.length:=by have:=BM ek5;omega
 have ne2:lk≠e:=by have:=BM ek5;simp at le6;omega
 have ne3:lk≠p:=by have:=BM ek3;omega
 have K7:=K6.set (c:=.lst (dk++[.loc h5.length])) ne1 ne2
 have lt6:e<h6.length:=BM K6.er
 refine q ⟨h5.length,e,p,H,W,[],f⟩ _ _ ⟨K7,by show (h6.set lk _)[p]?=_;rw [Bt ne3,old _ _ p5];rfl,hh,hw,by show p≠h5.length;omega,by show p≠e;simp at le6;omega⟩ rfl (by show h.length≤p;omega) (by show p<h5.length;omega) (by show h5.length<e;simp at le6;omega) (by show e<_;simp;exact lt6) ?_ ?_ ?_ ?_ ?_ ?_
 ·obtain ⟨n,en⟩:=x3
  exact ⟨n,by rw [Bt (by omega)];exact old _ _ (g5 _ _ (by omega) en)⟩
 ·show (h6.set lk _)[0]?=_
  rw [Bt (by omega)]
  exact old _ _ (g5 _ _ (by omega) t3)
 ·rw [Bt (by omega)]
  exact old _ _ (g5 _ _ (by omega) tu3)
 ·rw [Bt (by omega)]
  exact old _ _ lp5
 ·rw [DK (BM ek6)]
 ·intro l c n z
  have n1:l≠b:=fun q=>n (by simp [q])
  have n2:l≠lp:=fun q=>n (by simp [q])
  have n3:l≠lk:=fun q=>n (by simp [q])
  rw [Bt (Ne.symm n3)]
  exact old _ _ (g5 _ _ n2 (S3' _ _ n1 z))
inductive Md (ns:List Int) (kk b lp lk:Nat) (c7 c8 c9 c10 c11 c12 c13 c14:Option D) (xs:List Nat) (ρ:Ag) (h':HD):Prop where
 |zero (c5 c6:Option D) (f0:ρ=BC ns kk b lp lk c5 c6 c7 c8 c9 c10 c11 c12 c13 c14) (f1:xs.length=2) (f2:h'[lp]?=some (.lst [])) (f3:h'[lk]?=some (.lst [])) (f4:BoxAt h' b) (f5:TabAt h') (f6:h'[1]?=some (.tabn "_law_undone")):Md ns kk b lp lk c7 c8 c9 c10 c11 c12 c13 c14 xs ρ h'
 |one (c5 c6:Option D) (x:Pr) (f0:ρ=BC ns kk b lp lk c5 c6 c7 c8 c9 c10 c11 c12 c13 c14) (f1:xs.length=1) (f2:h'[lp]?=some (.lst [.loc x.p])) (f3:h'[lk]?=some (.lst [.loc x.k])) (f4:BoxAt h' b) (f5:TabAt h') (f6:h'[1]?=some (.tabn "_law_undone")) (f7:PrAt h' x) (f8:x.fs=[]) (f9:lk<x.p∧x.p<x.k∧x.k<x.e∧x.e<h'.length):Md ns kk b lp lk c7 c8 c9 c10 c11 c12 c13 c14 xs ρ h'
 |two (c5 c6:Option D) (x y:Pr) (f0:ρ=BC ns kk b lp lk c5 c6 c7 c8 c9 c10 c11 c12 c13 c14) (f1:xs=[]) (f2:DL h' b lp lk x y) (f8:x.fs=[]) (f9:y.fs=[]):Md ns kk b lp lk c7 c8 c9 c10 c11 c12 c13 c14 xs ρ h'
theorem ZeE (hb:1<b) (hbp:b<lp) (hpk:lp<lk) (hx:BoxAt h b) (ht:TabAt h) (tu:h[1]?=some (.tabn "_law_undone")) (ep:h[lp]?=some (.lst [])) (ek:h[lk]?=some (.lst []))
 (q:∀c5 c6 x y h',DL h' b lp lk x y→x.fs=[]→y.fs=[]→Q (.nx,BC ns kk b lp lk c5 c6 c7 c8 c9 c10 c11 c12 c13 c14) h'):Wp (Hw (BC ns kk b lp lk c5 c6 c7 c8 c9 c10 c11 c12 c13 c14) h) Q:=by
 have e:Hw=BI (BY (Aa (mC (.int 2)) (Ac))) (AV 5) O4:=by unfold Hw;rfl
 rw [e]
 refine Dw (src:=[]) (xs:=List.range 2) (fun i=>.int ((i:Nat):Int)) (Md ns kk b lp lk c7 c8 c9 c10 c11 c12 c13 c14) ?_ (fun ys ρ h' _=>Dj) ?_ ?_
 ·simp
  rw [show F6 [.int 2] h=.ok ((List.range 2).map fun k=>D.int ((k:Nat):Int),[]) h from ES (n:=2) (by decide)]
  exact ⟨rfl,.zero _ _ rfl rfl ep ek hx ht tu⟩
 ·intro i xs ρ h' I
  cases I with
  |zero c5 c6 f0 f1 f2 f3 f4 f5 f6=>
   subst f0
   refine ⟨BC ns kk b lp lk (some (.int ((i:Nat):Int))) c6 c7 c8 c9 c10 c11 c12 c13 c14,rfl,?_⟩
   refine VQ hb hbp hpk f4 f5 f6 f2 f3 (by simp) (by simp) fun z h2 c6 P zf z1 z2 z3 z4 x2 t2 u2 p2 k2 s2=>?_
   simp [B1]
   exact .one _ _ z rfl (by simpa using f1) p2 k2 x2 t2 u2 P zf ⟨by have:=BM f3;omega,z2,z3,z4⟩
  |one c5 c6 x f0 f1 f2 f3 f4 f5 f6 f7 f8 f9=>
   subst f0
   refine ⟨BC ns kk b lp lk (some (.int ((i:Nat):Int))) c6 c7 c8 c9 c10 c11 c12 c13 c14,rfl,?_⟩
   refine VQ hb hbp hpk f4 f5 f6 f2 f3 (by simp) (by simp) fun z h2 c6 P zf z1 z2 z3 z4 x2 t2 u2 p2 k2 s2=>?_
   simp [B1]
   refine .two _ _ x z rfl (by simpa using f1) ⟨t2,u2,x2,p2,k2,f7.sn s2 (by simp;omega) (by simp;omega) (by simp;omega),P,by omega⟩ f8 zf
  |two c5 c6 x y f0 f1 f2=>cases f1
 ·intro ρ h' I
  cases I with
  |zero c5 c6 f0 f1=>simp at f1
  |one c5 c6 x f0 f1=>simp at f1
  |two c5 c6 x y f0 f1 f2 f8 f9=>subst f0;exact q _ _ x y h' f2 f8 f9
inductive VR (ns:List Int) (kk b lp lk d:Nat) (c6 c14:Option D) (xs:List Nat) (ρ:Ag) (h':HD):Prop where
 |mk (c5 c8 c9 c10 c11 c12 c13:Option D) (x y:Pr) (f0:ρ=BC ns kk b lp lk c5 c6 (some (.loc d)) c8 c9 c10 c11 c12 c13 c14) (f1:DL h' b lp lk x y) (f2:BoxAt h' d) (f3:y.e<d) (f4:x.fs.length+xs.length≤20) (f5:y.fs.length+xs.length≤20):VR ns kk b lp lk d c6 c14 xs ρ h'
theorem VS {x y:Pr} (L:DL h b lp lk x y) (q:∀h',Sm h h'→Q (.nx,BC ns kk b lp lk c5 c6 c7 c8 c9 c10 c11 c12 c13 c14) h'):Wp (Jq (BC ns kk b lp lk c5 c6 c7 c8 c9 c10 c11 c12 c13 c14) h) Q:=by
 unfold Jq BC
 have i0:∀{h:HD} {l:Nat} {u v:D},h[l]?=some (.lst [u,v])→Aj (.loc l) (.int 0) h=.ok u h:=fun e=>B2 (k:=0) e rfl
 have i1:∀{h:HD} {l:Nat} {u v:D},h[l]?=some (.lst [u,v])→Aj (.loc l) (.int 1) h=.ok v h:=fun e=>B2 (k:=1) e rfl
 simp [i0 L.ks,i0 L.ps]
 refine (O3 L.px.hh L.px.hw L.px.kp (by rw [L.px.ps];simp)).wp fun h1 s1=>?_
 have k1:=s1 _ _ L.ks
 have p1:=s1 _ _ L.ps
 simp [Co,i1 k1,i1 p1]
 have P1:=L.py.sm s1
 refine (O3 P1.hh P1.hw P1.kp (by rw [P1.ps];simp)).wp fun h2 s2=>?_
 simp [Co]
 exact q h2 (s1.trans s2)
theorem ZeF {x y:Pr} (L:DL h b lp lk x y) (hx:BoxAt h d) (hd:y.e<d) (lx:x.fs.length≤20) (ly:y.fs.length≤20)
 (q:∀x' y' h' c8 c9 c10 c11 c12 c13,DL h' b lp lk x' y'→y'.e<d→BoxAt h' d→x'.fs.length≤x.fs.length+1→y'.fs.length≤y.fs.length+1→Q (.nx,BC ns kk b lp lk c5 c6 (some (.loc d)) c8 c9 c10 c11 c12 c13 c14) h'):
 Wp (Af Mb (Af Mc (Af Jp Jq)) (BC ns kk b lp lk c5 c6 (some (.loc d)) c8 c9 c10 c11 c12 c13 c14) h) Q:=by
 have od:=L.od
 refine Eq.mpr A8 ?_
 unfold Mb
 simp [-Ah,BC]
 refine CW hx (by omega) L.t0 (by decide) (by decide) fun a h1 la x1 t1 s1=>?_
 obtain ⟨z,ez,hz⟩:∃z:Nat,EN (.int (a:Nat)) (.int 2) h1=.ok (.int (z:Nat)) h1∧(z=0∨z=1):=by
  have ha:a<3:=by omega
  match a,ha with
  |0,_=>exact ⟨0,rfl,.inl rfl⟩
  |1,_=>exact ⟨0,rfl,.inl rfl⟩
  |2,_=>exact ⟨1,rfl,.inr rfl⟩
 rw [ez]
 try simp [-Ah]
 refine Eq.mpr Ah ?_
 refine Eq.mpr A8 ?_
 have ks1:=s1 _ _ (by omega) L.ks
 have ps1:=s1 _ _ (by omega) L.ps
 have tu1:=s1 _ _ (by omega) L.t1
 have px1:PrAt h1 x:=L.px.sn (FM (S:=[d]) s1 (by simp)) (by simp;omega) (by simp;omega) (by simp;omega)
 have py1:PrAt h1 y:=L.py.sn (FM (S:=[d]) s1 (by simp)) (by simp;omega) (by simp;omega) (by simp;omega)
 have bx1:BoxAt h1 b:=L.bx.smx s1 (by omega)
 unfold Mc
 rcases hz with rfl |rfl
 ·have i0:∀{l:Nat} {u v:D},h1[l]?=some (.lst [u,v])→Aj (.loc l) (.int ((0:Nat):Int)) h1=.ok u h1:=fun e=>B2 (k:=0) e rfl
  have i0':∀{l:Nat} {u v:D},h1[l]?=some (.lst [u,v])→Aj (.loc l) (.int 0) h1=.ok u h1:=fun e=>B2 (k:=0) e rfl
  simp [-Ah,i0 ks1,i0 ps1,i0' ks1,i0' ps1]
  refine Eq.mpr Ah ?_
  refine Eq.mpr A8 ?_
  refine VP (ns:=ns) (kk:=kk) (b:=b) (lp:=lp) (lk:=lk) (z:=x) px1 x1 (by omega) t1 (by omega) (by omega) (by omega) (by omega) (by omega) fun fs f h2 c11 c12 c13 P2 l2 x2 s2=>?_
  refine Eq.mpr Ah ?_
  have L2:DL h2 b lp lk {x with fs:=fs,f:=f} y:=⟨s2 _ _ (by simp;omega) t1,s2 _ _ (by simp;omega) tu1,by obtain ⟨n,en⟩:=bx1;exact ⟨n,s2 _ _ (by simp;omega) en⟩,s2 _ _ (by simp;omega) ps1,s2 _ _ (by simp;omega) ks1,P2,py1.sn s2 (by simp;omega) (by simp;omega) (by simp;omega),L.od⟩
  refine VS L2 fun h3 s3=>?_
  exact q _ y h3 _ _ _ _ _ _ ⟨L2.t0.sm s3,s3 _ _ L2.t1,L2.bx.sm s3,s3 _ _ L2.ps,s3 _ _ L2.ks,L2.px.sm s3,L2.py.sm s3,L2.od⟩ hd (x2.sm s3) l2 (by omega)
 ·have i1:∀{l:Nat} {u v:D},h1[l]?=some (.lst [u,v])→Aj (.loc l) (.int ((1:Nat):Int)) h1=.ok v h1:=fun e=>B2 (k:=1) e rfl
  have i1':∀{l:Nat} {u v:D},h1[l]?=some (.lst [u,v])→Aj (.loc l) (.int 1) h1=.ok v h1:=fun e=>B2 (k:=1) e rfl
  simp [-Ah,i1 ks1,i1 ps1,i1' ks1,i1' ps1]
  refine Eq.mpr Ah ?_
  refine Eq.mpr A8 ?_
  refine VP (ns:=ns) (kk:=kk) (b:=b) (lp:=lp) (lk:=lk) (z:=y) py1 x1 (by omega) t1 (by omega) (by omega) (by omega) (by omega) (by omega) fun fs f h2 c11 c12 c13 P2 l2 x2 s2=>?_
  refine Eq.mpr Ah ?_
  have L2:DL h2 b lp lk x {y with fs:=fs,f:=f}:=⟨s2 _ _ (by simp;omega) t1,s2 _ _ (by simp;omega) tu1,by obtain ⟨n,en⟩:=bx1;exact ⟨n,s2 _ _ (by simp;omega) en⟩,s2 _ _ (by simp;omega) ps1,s2 _ _ (by simp;omega) ks1,px1.sn s2 (by simp;omega) (by simp;omega) (by simp;omega),P2,L.od⟩
  refine VS L2 fun h3 s3=>?_
  exact q x _ h3 _ _ _ _ _ _ ⟨L2.t0.sm s3,s3 _ _ L2.t1,L2.bx.sm s3,s3 _ _ L2.ps,s3 _ _ L2.ks,L2.px.sm s3,L2.py.sm s3,L2.od⟩ hd (x2.sm s3) (by omega) l2
theorem ZeG {x y:Pr} (L:DL h b lp lk x y) (hx:BoxAt h d) (hd:y.e<d) (lx:x.fs=[]) (ly:y.fs=[])
 (q:∀x' y' h' c5 c8 c9 c10 c11 c12 c13,DL h' b lp lk x' y'→x'.fs.length≤20→y'.fs.length≤20→Q (.nx,BC ns kk b lp lk c5 c6 (some (.loc d)) c8 c9 c10 c11 c12 c13 c14) h'):Wp (Hx (BC ns kk b lp lk c5 c6 (some (.loc d)) c8 c9 c10 c11 c12 c13 c14) h) Q:=by
 have od:=L.od
 rw [Zez]
 unfold BI
 rw [Aq]
 unfold BC
 simp
 refine CW L.bx (by omega) L.t0 (by decide) (by decide) fun a h1 la x1 t1 s1=>?_
 obtain ⟨n,en,hn⟩:∃n:Nat,(10:Int)+(a:Int)=(n:Int)∧n≤18:=⟨10+a,by omega,by omega⟩
 simp
 rw [en,ES (by omega)]
 refine Eq.mpr (B0 _ _) ?_
 have L1:DL h1 b lp lk x y:=⟨t1,s1 _ _ (by omega) L.t1,x1,s1 _ _ (by omega) L.ps,s1 _ _ (by omega) L.ks,L.px.sn (FM (S:=[b]) s1 (by simp)) (by simp;omega) (by simp;omega) (by simp;omega),L.py.sn (FM (S:=[b]) s1 (by simp)) (by simp;omega) (by simp;omega) (by simp;omega),L.od⟩
 refine Ke (src:=[]) (fun i:Nat=>D.int ((i:Nat):Int)) (VR ns kk b lp lk d c6 c14) (fun ys ρ h' _=>Dj) ?_ ?_ (List.range n) _ _ ⟨_,_,_,_,_,_,_,x,y,rfl,L1,hx.smx s1 (by omega),hd,by rw [lx];simp;omega,by rw [ly];simp;omega⟩
 ·rintro i xs ρ h2 ⟨c5,c8,c9,c10,c11,c12,c13,x,y,rfl,L2,x2,hd2,f4,f5⟩
  refine ⟨BC ns kk b lp lk (some (.int ((i:Nat):Int))) c6 (some (.loc d)) c8 c9 c10 c11 c12 c13 c14,rfl,?_⟩
  simp at f4 f5
  refine ZeF L2 x2 hd2 (by omega) (by omega) fun x' y' h3 c8 c9 c10 c11 c12 c13 L3 hd3 x3 lx3 ly3=>?_
  simp [B1]
  exact ⟨_,_,_,_,_,_,_,x',y',rfl,L3,x3,hd3,by omega,by omega⟩
 ·rintro ρ h2 ⟨c5,c8,c9,c10,c11,c12,c13,x,y,rfl,L2,x2,hd2,f4,f5⟩
  simp at f4 f5
  exact q x y h2 _ _ _ _ _ _ _ L2 f4 f5
end
noncomputable abbrev ZeH:MS:=Af Jo (Af LZ (Af Hw (Af L7 (Af Hx (Af L8 (Af L9 Ma))))))
theorem ZeI {ns:List Int} {k:Nat} {h:HD} {a2 a3 a4 a5 a6 a7 a8 a9 a10 a11 a12 a13 a14:Option D} {Q:Fl×Ag→HD→Prop} (hb:∀i∈ns,Builtin.Int.intBits i≤2^20) (hk:k≤1000) (ht:TabAt h) (tu:h[1]?=some (.tabn "_law_undone"))
 (q:∀(b2 b3 b4 b5 b6 b7 b8 b9 b10 b11 b12 b13 b14:Option D) h',TabAt h'→h'[1]?=some (.tabn "_law_undone")→Q (.nx,[some (.scr ns),some (.int (k:Nat)),b2,b3,b4,b5,b6,b7,b8,b9,b10,b11,b12,b13,b14]) h'):
 Wp (ZeH [some (.scr ns),some (.int (k:Nat)),a2,a3,a4,a5,a6,a7,a8,a9,a10,a11,a12,a13,a14] h) Q:=by
 refine Eq.mpr A8 ?_
 simp only [Jo,Nf,GY,GZ,Kd,Kc,F8]
 refine Zc3 hb hk fun b h1 x1 lb s1=>?_
 have hb0:1<b:=by have:=BM tu;omega
 have t1:=ht.sm s1
 have u1:=s1 _ _ tu
 refine Eq.mpr Ah ?_
 refine Eq.mpr A8 ?_
 unfold LZ
 try simp [-Ah]
 refine AU (by simp) fun lp h2 s2 e2 el2 eh2=>?_
 refine AU (by simp) fun lk h3 s3 e3 el3 _=>?_
 try simp [-Ah]
 refine Eq.mpr Ah ?_
 refine Eq.mpr A8 ?_
 have s13:=s2.trans s3
 have hbp:b<lp:=by have:=x1.lt;omega
 have hpk:lp<lk:=by have:=BM e2;omega
 refine ZeE (ns:=ns) (kk:=k) hb0 hbp hpk (x1.sm s13) (t1.sm s13) (s13 _ _ u1) (s3 _ _ e2) e3 fun c5 c6 x y h4 L4 fx fy=>?_
 have od:=L4.od
 refine Eq.mpr Ah ?_
 refine Eq.mpr A8 ?_
 unfold L7
 simp [-Ah,BC]
 refine U8 L4.bx fun d h5 x5 x5' ne5 le5 s5=>?_
 have hd:y.e<d:=by have:=BM L4.py.kp.er;omega
 have L5:DL h5 b lp lk x y:=⟨s5 _ _ (by omega) L4.t0,s5 _ _ (by omega) L4.t1,x5,s5 _ _ (by omega) L4.ps,s5 _ _ (by omega) L4.ks,L4.px.sn (FM (S:=[b]) s5 (by simp)) (by simp;omega) (by simp;omega) (by simp;omega),L4.py.sn (FM (S:=[b]) s5 (by simp)) (by simp;omega) (by simp;omega) (by simp;omega),L4.od⟩
 refine Eq.mpr Ah ?_
 refine Eq.mpr A8 ?_
 refine ZeG (ns:=ns) (kk:=k) L5 x5' hd fx fy fun x y h6 c5 c8 c9 c10 c11 c12 c13 L6 lx ly=>?_
 have od:=L6.od
 refine Eq.mpr Ah ?_
 refine Eq.mpr A8 ?_
 unfold L8
 have i0:∀{h:HD} {l:Nat} {u v:D},h[l]?=some (.lst [u,v])→Aj (.loc l) (.int 0) h=.ok u h:=fun e=>B2 (k:=0) e rfl
 have i1:∀{h:HD} {l:Nat} {u v:D},h[l]?=some (.lst [u,v])→Aj (.loc l) (.int 1) h=.ok v h:=fun e=>B2 (k:=1) e rfl
 simp [-Ah,BC,i0 L6.ks,i0 L6.ps]
 refine VL L6.px.hh L6.px.hw L6.px.kp L6.px.ps (by omega) L6.t1 L6.px.n1 L6.px.n2 fun h7 f0 K7 p7 s7=>?_
 have S7:Sn [x.k,x.e,x.p] h6 h7:=fun l c n z=>s7 l c (fun q=>n (by simp [q])) (fun q=>n (by simp [q])) (fun q=>n (by simp [q])) z
 have py7:PrAt h7 y:=L6.py.sn S7 (by simp;omega) (by simp;omega) (by simp;omega)
 have ks7:=S7 _ _ (by simp;omega) L6.ks
 have ps7:=S7 _ _ (by simp;omega) L6.ps
 have t07:TabAt h7:=S7 _ _ (by simp;omega) L6.t0
 have t17:=S7 _ _ (by simp;omega) L6.t1
 have bx7:BoxAt h7 b:=by obtain ⟨n,en⟩:=L6.bx;exact ⟨n,S7 _ _ (by simp;omega) en⟩
 simp [-Ah,Co,i1 ks7,i1 ps7]
 refine VL py7.hh py7.hw py7.kp py7.ps (by omega) t17 py7.n1 py7.n2 fun h8 f1 K8 p8 s8=>?_
 have S8:Sn [y.k,y.e,y.p] h7 h8:=fun l c n z=>s8 l c (fun q=>n (by simp [q])) (fun q=>n (by simp [q])) (fun q=>n (by simp [q])) z
 have t08:TabAt h8:=S8 _ _ (by simp;omega) t07
 have t18:=S8 _ _ (by simp;omega) t17
 have bx8:BoxAt h8 b:=by obtain ⟨n,en⟩:=bx7;exact ⟨n,S8 _ _ (by simp;omega) en⟩
 have ps8:=S8 _ _ (by simp;omega) ps7
 have xp8:=S8 _ _ (by simp;omega) p7
 simp [-Ah,Co]
 refine Eq.mpr Ah ?_
 refine Eq.mpr A8 ?_
 unfold L9
 have j0:Aj (.loc x.p) (.int 0) h8=.ok (bD x.H x.W f0) h8:=B2 (k:=0) xp8 rfl
 simp [-Ah,i0 ps8,j0]
 refine Zdn bx8 (by omega) t08 L6.px.hh L6.px.hw fun e h9 ne x9 t9 s9=>?_
 have t19:=s9 _ _ (by omega) t18
 refine Eq.mpr Ah ?_
 unfold Ma
 simp
 refine Zdy (ds:=[e]) t9 rfl ?_ fun h10 s10=>?_
 ·unfold Er
  simp
  refine ((ZeD (ne.sm (.app _ _))).ahead (.app h9 [.ins "Keeper" []])).we fun h2 s2=>?_
  exact ⟨rfl,rfl,s2⟩
 simp
 exact q _ _ _ _ _ _ _ _ _ _ _ _ _ h10 (t9.sm s10) (s10 _ _ t19)
def IL (ns:List Int) (xs:List Nat) (ρ:Ag) (h':HD):Prop:=∃d1 d2 d3 d4 d5 d6 d7 d8 d9 d10 d11 d12 d13 d14,ρ=[some (.scr ns),d1,d2,d3,d4,d5,d6,d7,d8,d9,d10,d11,d12,d13,d14]∧(TabAt h'∧h'[1]?=some (.tabn "_law_undone"))∧∀k∈xs,k≤1000
theorem ZeJ:OH=Af (BI (BY (Aa (Ae (Bc HZ) (Aa (mC (.int 1)) (Aa (Ae (Bc Fp) (Aa (Ae (Ai AJ) (Aa (Ab 0) (Ac))) (Aa (mC (.int 2)) (Ac)))) (Ac)))) (Ac))) (AV 1) (Af Jo (Af LZ (Af Hw (Af L7 (Af Hx (Af L8 (Af L9 (Ma))))))))) (Al (mC (.bl true))):=by
 unfold Jo LZ Hw L7 Hx L8 L9 Ma
 rfl
theorem law_true (ns:List Int) (hl:ns.length≤63) (hb:∀i∈ns,Builtin.Int.intBits i≤2^20):∃h',F_law [.scr ns] [.tab,.tabn "_law_undone"]=.ok (.bl true) h':=by
 have main:Wp (F_law [.scr ns] [.tab,.tabn "_law_undone"]) fun d _=>d=.bl true:=by
  change Wp (As 15 (OH) [.scr ns] [.tab,.tabn "_law_undone"]) _
  rw [ZeJ,AH,A8]
  obtain ⟨n,en,hn⟩:∃n:Nat,(if (if (2:Int)<(ns.length:Int) then (2:Int) else (ns.length:Int))>1 then (if (2:Int)<(ns.length:Int) then (2:Int) else (ns.length:Int)) else 1)=(n:Int)∧n≤99:=by
   have h0:0≤(if (if (2:Int)<(ns.length:Int) then (2:Int) else (ns.length:Int))>1 then (if (2:Int)<(ns.length:Int) then (2:Int) else (ns.length:Int)) else 1)∧(if (if (2:Int)<(ns.length:Int) then (2:Int) else (ns.length:Int))>1 then (if (2:Int)<(ns.length:Int) then (2:Int) else (ns.length:Int)) else 1)≤99:=by
    constructor<;>(split<;>split<;>omega)
   generalize (if (if (2:Int)<(ns.length:Int) then (2:Int) else (ns.length:Int))>1 then (if (2:Int)<(ns.length:Int) then (2:Int) else (ns.length:Int)) else 1)=E at h0
   exact ⟨E.toNat,by omega,by omega⟩
  refine Dw (src:=[]) (xs:=List.range n) (fun i=>.int ((i:Nat):Int)) (IL ns) ?_ (fun ys ρ h' _=>Dj) ?_ ?_
  ·simp
   rw [en,ES (by omega)]
   exact ⟨rfl,_,_,_,_,_,_,_,_,_,_,_,_,_,_,rfl,⟨rfl,rfl⟩,fun k hk=>by have:=qb8.mp hk;omega⟩
  ·rintro x xs ρ h' ⟨d1,d2,d3,d4,d5,d6,d7,d8,d9,d10,d11,d12,d13,d14,rfl,t,hx⟩
   refine ⟨_,rfl,?_⟩
   refine ZeI hb (hx x A1) t.1 t.2 fun _ _ _ _ _ _ _ _ _ _ _ _ _ h2 t2 u2=>?_
   simp [B1]
   exact ⟨_,_,_,_,_,_,_,_,_,_,_,_,_,_,rfl,⟨t2,u2⟩,fun k hk=>hx k (A5 _ hk)⟩
  ·rintro ρ h' ⟨d1,d2,d3,d4,d5,d6,d7,d8,d9,d10,d11,d12,d13,d14,rfl,t,hx⟩
   simp
 obtain ⟨a,h',e,rfl⟩:=Wp.ex main
 exact ⟨h',e⟩
end LK
set_option maxHeartbeats 0
namespace LK
open PySem PySem.Spec PyProof.Rows L2 LS
theorem ZeK:NS KO:=⟨⟨rfl,rfl,rfl,by decide +kernel,rfl,by decide +kernel,by decide +kernel⟩,rfl,rfl,rfl,rfl,rfl,⟨_,_,_,_,_,_,_,_,_,_,_,_,_,_,_,_,_,rfl⟩⟩
section
set_option hygiene false
local macro_rules |`(tactic|infer_instance)=>`(tactic|first |((with_reducible show PE _ (.Name _ _) _);first |exact ZcI |exact YH rfl (by show mg _=_;with_reducible assumption) |exact ZQ rfl (B _ (by decide +kernel)) (by decide +kernel) |exact ZbC et (by decide +kernel)) |((with_reducible show PE _ (.Constant _ _ _) _);first |exact YE |exact YF |exact YG |exact PP) |((with_reducible show PE _ (.Tuple _ _ _) _);((with_reducible refine YV ?_);ac_rfl)) |((with_reducible show PE _ (.List _ _) _);((with_reducible refine YW ?_);ac_rfl)) |((with_reducible show PE _ (.BinOp _ .Add _ _) _);(refine Ff Y0 ?_ ?_<;>ac_rfl)) |((with_reducible show PE _ (.BinOp _ .Sub _ _) _);(refine Ff Y1 ?_ ?_<;>ac_rfl)) |((with_reducible show PE _ (.BinOp _ .Mod _ _) _);(refine Ff Y3 ?_ ?_<;>ac_rfl)) |((with_reducible show PE _ (.BinOp _ .Mult _ _) _);(refine Ff Zbx ?_ ?_<;>ac_rfl)) |((with_reducible show PE _ (.BinOp _ .Pow _ _) _);(refine Ff Y4 ?_ ?_<;>ac_rfl)) |((with_reducible show PE _ (.BinOp _ .FloorDiv _ _) _);(refine Ff Zh ?_ ?_<;>ac_rfl)) |((with_reducible show PE _ (.BinOp _ .LShift _ _) _);(refine Ff Y5 ?_ ?_<;>ac_rfl)) |((with_reducible show PE _ (.BinOp _ .BitXor _ _) _);(refine Ff Zce ?_ ?_<;>ac_rfl)) |((with_reducible show PE _ (.Subscript _ (.Slice _ _ _ _) _) _);(refine ZbS ?_ ?_ ?_<;>ac_rfl)) |((with_reducible show PE _ (.Subscript _ _ _) _);(refine Zc ?_ ?_ fun _ _=>rfl<;>ac_rfl)) |((with_reducible show PE _ (.Call (.Attribute _ "append" _) _ _ _) _);(refine ZV ?_ ?_<;>ac_rfl)) |((with_reducible show PE _ (.Call (.Attribute _ "pop" _) _ _ _) _);(refine Zcv ?_;ac_rfl)) |((with_reducible show PE _ (.Call (.Attribute _ "count" _) _ _ _) _);(refine Rv PySem.F.plainAttrs_list PySem.F.slot_list_count PySem.F.type_list_count NM Za9 Za7 ?_ ?_<;>ac_rfl)) |((with_reducible show PE _ (.Call (.Attribute _ "index" _) _ _ _) _);(refine Rv PySem.F.plainAttrs_list PySem.F.slot_list_index PySem.F.type_list_index NM Za8 Zba ?_ ?_<;>ac_rfl)) |((with_reducible show PE _ (.Call (.Name _ _) [.Lambda _ _ _ _] _ _) _);(refine ZcJ LX (fun _=>rfl) hr Kl et Sd ZeK (CaM.mono (k:=11) C10 (by decide)) ⟨⟨rfl,rfl,rfl,by kernel_rfl⟩,by decide +kernel,by kernel_rfl,rfl,by kernel_rfl⟩ (fun a cd cl A outer s H E' hr=>?_) rfl;ac_rfl)) |((with_reducible show PE _ (.Call (.Attribute _ _ _) _ _ _) _);first |(refine ZcN (by show BF l.prog w K mg base _ _ _ _;with_reducible assumption) hr (by first |exact Il |exact Io |exact Iv) ?_ ?_<;>ac_rfl) |(refine ZcO (by show BF l.prog w K mg base _ _ _ _;with_reducible assumption) hr (by first |exact Il |exact Io |exact Iv) ?_;ac_rfl)) |((with_reducible show PE _ (.Attribute _ _ _) _);(refine ZcL (by show IK K _ _;with_reducible assumption) ?_;ac_rfl)) |((with_reducible show PE _ (.Call (.Name _ _) _ _ _) _);first |(refine ZcQ (by show KN l.prog w K mg base _ _ _;with_reducible assumption) hr (by first |exact Il |exact Io |exact Iv) rfl ?_;ac_rfl) |(refine Zau (by show CaE l.prog w K mg base _ _ _;with_reducible assumption) hr (by first |exact Il |exact Io |exact Iv) ?_;ac_rfl) |exact Zcf (by show CaE l.prog w K mg base _ _ _;with_reducible assumption) hr (by first |exact Il |exact Io |exact Iv) |(refine YY (by first |exact ZU rfl |exact Za3 et |exact Zi rfl |exact Zay rfl |exact Zj rfl |exact ZbA hr.units hr.gd |exact ZS rfl |exact Zf |exact Zd) rfl (B _ (by decide +kernel)) (by decide +kernel) ?_;ac_rfl) |(refine YZ (by first |exact Zk |exact ZbO |exact Zl) rfl (B _ (by decide +kernel)) (by decide +kernel) ?_;ac_rfl)) |((with_reducible show PE _ (.ListComp _ _ _ _) _);first |(refine SH rfl ⟨rfl,by decide +kernel,by kernel_rfl,by decide +kernel,rfl,by kernel_rfl⟩ ?_ (Qj rfl) fun C D cells fp s₀ H₀ pins=>⟨?_,?_,?_⟩<;>ac_rfl) |(refine SH rfl ⟨rfl,by decide +kernel,by kernel_rfl,by decide +kernel,rfl,by kernel_rfl⟩ ?_ (Qk rfl rfl) fun C D cells fp s₀ H₀ pins=>⟨?_,?_,?_⟩<;>ac_rfl)) |((with_reducible show PE _ (.Compare _ [.Eq] _ _) _);(refine JU (RE hr.units) ?_ ?_ (Fd _)<;>ac_rfl)) |((with_reducible show PE _ (.Compare _ [.NotIn] _ _) _);(refine JU (ZcZ hr.units) ?_ ?_ (by with_unfolding_all rfl)<;>ac_rfl)) |((with_reducible show PE _ (.Compare _ [.In] _ _) _);(refine JU P5 ?_ ?_ (by with_unfolding_all rfl)<;>ac_rfl)) |((with_reducible show PE _ (.Compare _ [.Lt] _ _) _);(refine JU J2 ?_ ?_ (Fd _)<;>ac_rfl)) |((with_reducible show PE _ (.Compare _ [_,_] _ _) _);(refine YT PY PY ?_ ?_ ?_<;>ac_rfl)) |((with_reducible show PE _ (.BoolOp _ _ _) _);first |(refine YQ ?_ ?_<;>ac_rfl) |(refine YO ?_;ac_rfl)) |((with_reducible show PE _ (.UnaryOp _ _ _) _);first |(refine YR ?_;ac_rfl) |(refine Z2 ?_;ac_rfl)) |((with_reducible show PE _ (.IfExp _ _ _ _) _);(refine YS ?_ ?_ ?_<;>ac_rfl)) |((with_reducible show PE _ (.Dict _ _ _) _);exact ZbP))
local macro_rules |`(tactic|nofun)=>`(tactic|first |((with_reducible show PT _ (.Compare _ [.Eq] _ _) _);(refine F4 (RE hr.units) ?_ ?_ (Fd _)<;>ac_rfl)) |((with_reducible show PT _ (.Compare _ [.NotEq] _ _) _);(refine F4 (ZbB hr.units) ?_ ?_ (Fd _)<;>ac_rfl)) |((with_reducible show PT _ (.Compare _ [.Gt] _ _) _);(refine F4 Y2 ?_ ?_ (Fd _)<;>ac_rfl)) |((with_reducible show PT _ (.Compare _ [.In] _ _) _);(refine F4 P5 ?_ ?_ (by with_unfolding_all rfl)<;>ac_rfl)) |((with_reducible show PT _ (.Compare _ [.Is] _ _) _);(refine F4 Y6 ?_ ?_ (Fd _)<;>ac_rfl)) |((with_reducible show PT _ (.Compare _ [.IsNot] _ _) _);(refine F4 Y7 ?_ ?_ (Fd _)<;>ac_rfl)) |((with_reducible show PT _ (.Compare _ [.Lt] _ _) _);(refine F4 J2 ?_ ?_ (Fd _)<;>ac_rfl)) |((with_reducible show PT _ (.Compare _ [_,_] _ _) _);(refine YU J2 J2 ?_ ?_ ?_<;>ac_rfl)) |((with_reducible show PT _ (.UnaryOp .Not _ _) _);(refine YN ?_;ac_rfl)) |((with_reducible show PT _ (.BoolOp _ _ _) _);(refine YM (PU ?_ ?_)<;>ac_rfl)) |((with_reducible show PT _ _ _);(refine YJ ?_;ac_rfl)))
local macro_rules |`(tactic|contradiction)=>`(tactic|first |((with_reducible show PI _ _ (.Call (.Name _ _) _ _ _) _);first |(refine Zx rfl (B _ (by decide +kernel)) ?_;ac_rfl) |(refine Zy rfl (B _ (by decide +kernel)) ?_;ac_rfl) |(refine ZcF rfl (B _ (by decide +kernel)) ?_;ac_rfl) |(refine ZaB rfl (B _ (by decide +kernel)) ?_;ac_rfl)) |((with_reducible show PI _ _ _ _);(refine Zw ?_;ac_rfl)))
local macro_rules |`(tactic|bv_omega)=>`(tactic|first |((with_reducible show PS _ (.Return _ _) _);(refine P6 ?_;ac_rfl)) |((with_reducible show PS _ (.If _ _ _ _) _);(refine Zo ?_ ?_ ?_<;>ac_rfl)) |((with_reducible show PS _ (.Assign [.Name _ _] (.ListComp _ _ _ _) _) _);first |(refine SI rfl nd rfl (by first|exact .inl rfl|exact .inr rfl) ⟨rfl,by decide +kernel,by kernel_rfl,by decide +kernel,rfl,by kernel_rfl⟩ ?_ (Qj rfl) fun C D cells fp s₀ H₀ pins=>⟨?_,?_,?_⟩<;>ac_rfl) |(refine SI rfl nd rfl (by first|exact .inl rfl|exact .inr rfl) ⟨rfl,by decide +kernel,by kernel_rfl,by decide +kernel,rfl,by kernel_rfl⟩ ?_ (Qk rfl rfl) fun C D cells fp s₀ H₀ pins=>⟨?_,?_,?_⟩<;>ac_rfl)) |((with_reducible show PS _ (.Assign [.Name _ _] _ _) _);((with_reducible refine M1 ?_ ?_ ?_ ?_ ?_ ?_)<;>ac_rfl)) |((with_reducible show PS _ (.Expr _ _) _);(refine Zn ?_;ac_rfl)) |((with_reducible show PS _ (.For _ _ _ _ _) _);(refine Zz QZ rfl ?_ ?_ ?_<;>ac_rfl)) |((with_reducible show PS _ (.Assign [.Tuple _ _ _] _ _) _);first |((refine ZcY ?_ (ZcX rfl (EH (Df (by first |exact nd |exact of_decide_eq_true (by kernel_rfl)) rfl (by first|exact .inl rfl|exact .inr rfl)) (EH (Df (by first |exact nd |exact of_decide_eq_true (by kernel_rfl)) rfl (by first|exact .inl rfl|exact .inr rfl)) JF))));ac_rfl) |(refine Zq rfl nd rfl rfl (by decide) rfl rfl ?_ (by first |rfl |with_unfolding_all rfl);ac_rfl) |(refine Zcd rfl nd rfl rfl rfl (by decide) rfl rfl rfl ?_ (by first |rfl |with_unfolding_all rfl);ac_rfl) |(refine Zt ?_ ?_<;>ac_rfl)) |((with_reducible show PS _ (.Assign [.Attribute _ _ _] _ _) _);(refine ZcM (by show IK K _ _;with_reducible assumption) ?_ ?_<;>ac_rfl)) |((with_reducible show PS _ (.Assign [.Subscript _ _ _] _ _) _);(refine ZW ?_ ?_ ?_<;>ac_rfl)) |((with_reducible show PS _ (.While _ _ _ _) _);(refine ZaN QZ ?_ ?_<;>ac_rfl)) |((with_reducible show PS _ (.Raise _ _ _) _);(refine ZbD et (by decide +kernel) (by decide +kernel) rfl rfl Zas ?_;ac_rfl)))
local macro_rules |`(tactic|split)=>`(tactic|first |((with_reducible show PW _ _ _);first |(refine PU ?_ ?_<;>ac_rfl) |(refine YL ?_;ac_rfl)) |((with_reducible show Fs _ (.Name _ _) _);exact Zr (Df (by first |exact nd |exact of_decide_eq_true (by kernel_rfl)) rfl (by first|exact .inl rfl|exact .inr rfl))) |((with_reducible show Fs _ (.Tuple [_,_] _ _) _);first |exact Zs (Qu rfl (Df (by first |exact nd |exact of_decide_eq_true (by kernel_rfl)) rfl (by first|exact .inl rfl|exact .inr rfl)) (Df (by first |exact nd |exact of_decide_eq_true (by kernel_rfl)) rfl (by first|exact .inl rfl|exact .inr rfl))) |exact RH (Ms rfl (EH (Df (by first |exact nd |exact of_decide_eq_true (by kernel_rfl)) rfl (by first|exact .inl rfl|exact .inr rfl)) (EH (Df (by first |exact nd |exact of_decide_eq_true (by kernel_rfl)) rfl (by first|exact .inl rfl|exact .inr rfl)) JF)))) |((with_reducible show Fs _ (.Tuple [_,_,_] _ _) _);exact RH (Ms rfl (EH (Df (by first |exact nd |exact of_decide_eq_true (by kernel_rfl)) rfl (by first|exact .inl rfl|exact .inr rfl)) (EH (Df (by first |exact nd |exact of_decide_eq_true (by kernel_rfl)) rfl (by first|exact .inl rfl|exact .inr rfl)) (EH (Df (by first |exact nd |exact of_decide_eq_true (by kernel_rfl)) rfl (by first|exact .inl rfl|exact .inr rfl)) JF))))) |((with_reducible show PG _ (.Name _ _) _);exact Df (by first |exact nd |exact of_decide_eq_true (by kernel_rfl)) rfl (by first|exact .inl rfl|exact .inr rfl)) |((with_reducible show PG _ (.Tuple [.Name _ _,.Name _ _] _ _) _);exact Qu rfl (Df (by first |exact nd |exact of_decide_eq_true (by kernel_rfl)) rfl (by first|exact .inl rfl|exact .inr rfl)) (Df (by first |exact nd |exact of_decide_eq_true (by kernel_rfl)) rfl (by first|exact .inl rfl|exact .inr rfl))) |rfl |exact nd |exact Or.inl rfl |exact Or.inr rfl |exact ZK |(refine ZL ?_;ac_rfl) |exact Zav |(refine Zaw ?_;ac_rfl))
local macro_rules |`(tactic|ac_rfl)=>`(tactic|first |((with_reducible show PE _ _ _);infer_instance) |((with_reducible show PA _ _ _);first |with_reducible exact JY |((with_reducible refine JZ ?_ ?_ ?_)<;>ac_rfl)) |((with_reducible show PS _ _ _);bv_omega) |((with_reducible show CP _ _ _);first |with_reducible exact Zp |with_reducible exact Zm |((with_reducible refine J6 ?_);ac_rfl) |((with_reducible refine J7 ?_ ?_)<;>ac_rfl) |(refine J6 ?_;ac_rfl) |(refine J7 ?_ ?_<;>ac_rfl)) |((with_reducible show PT _ _ _);nofun) |((with_reducible show PI _ _ _ _);contradiction) |split)
section
variable {l:PySem.W.OpenLaw} {w:World} {K:PySem.W.Frag} {h base:Heap} {mg:Str→Option Value} {t_MOST_LINES:Tok} (fs:∀(i:Nat) n st,want.fs[i]?=some (n,st)→Tp.SeenF K n st) (X:K.In h) (G:h.Ns mainGlobals mg) (B:∀x∈want.bs,mg x=none) (et:etOk K=true) (M_MOST_LINES:mg "MOST_LINES"=some (.int 8 t_MOST_LINES)) (Cl_Keeper:Tp.SeenC K "Keeper" ["now","earlier"]) (ms:∀(i:Nat) n m st,wantZ.ms[i]?=some (n,m,st)→Tp.SeenM K n m st)
include fs X G B et M_MOST_LINES Cl_Keeper ms
theorem cc0:CaE l.prog w K mg base "is_whole" 1 E4:=A6 (fs 0 _ S9 rfl) X G (N:=["thing"]) (ps:=["thing"]) fun nd _ _ _ _ _ _ _ hr=>by ac_rfl
theorem cc1:CaE l.prog w K mg base "is_line_tuple" 1 Hl:=A6 (fs 1 _ Tb rfl) X G (N:=["thing"]) (ps:=["thing"]) fun nd _ _ _ _ _ _ _ hr=>by ac_rfl
theorem cc2:CaE l.prog w K mg base "row_switched" 1 KP:=A6 (fs 2 _ Td rfl) X G (N:=["row","columns","is_turned"]) (ps:=["row","columns","is_turned"]) fun nd _ _ _ _ _ _ _ hr=>by ac_rfl
theorem cc3:CaE l.prog w K mg base "counts_with_row" 1 KQ:=A6 (fs 3 _ Tf rfl) X G (N:=["counts","row"]) (ps:=["counts","row"]) fun nd _ _ _ _ _ _ _ hr=>by ac_rfl
theorem cc4:CaE l.prog w K mg base "fewest_lit" 1 Hm:=A6 (fs 4 _ Th rfl) X G (N:=["counts","high"]) (ps:=["counts","high"]) fun nd _ _ _ _ _ _ _ hr=>by ac_rfl
theorem cc5:CaE l.prog w K mg base "fuller_columns" 1 KR:=A6 (fs 5 _ Tj rfl) X G (N:=["counts","high"]) (ps:=["counts","high"]) fun nd _ _ _ _ _ _ _ hr=>by ac_rfl
theorem cc6:CaE l.prog w K mg base "light_turned" 1 KS:=A6 (fs 6 _ To rfl) X G (N:=["board","row","column","lights"]) (ps:=["board","row","column"]) fun nd _ _ _ _ _ _ _ hr=>by ac_rfl
theorem ZeL:BF l.prog w K mg base "Keeper" "change_to" 1 FG:=EZ (ms 0 _ _ Tr rfl) Cl_Keeper (N:=["self","board"]) (ps:=["self","board"]) fun nd _ _ _ _ _ _ _ hr=>by have L_Keeper:=CU Cl_Keeper;ac_rfl
theorem ZeM:BF l.prog w K mg base "Keeper" "undo" 1 CV:=EZ (ms 1 _ _ Tu rfl) Cl_Keeper (N:=["self"]) (ps:=["self"]) fun nd _ _ _ _ _ _ _ hr=>by have L_Keeper:=CU Cl_Keeper;ac_rfl
theorem ZeN:BF l.prog w K mg base "Keeper" "board" 1 IS:=EZ (ms 2 _ _ Tv rfl) Cl_Keeper (N:=["self"]) (ps:=["self"]) fun nd _ _ _ _ _ _ _ hr=>by have L_Keeper:=CU Cl_Keeper;ac_rfl
theorem cc7:CaE l.prog w K mg base "_law_cell" 1 KU:=A6 (fs 7 _ Tx rfl) X G (N:=["_law_script","_law_k"]) (ps:=["_law_script","_law_k"]) fun nd _ _ _ _ _ _ _ hr=>by ac_rfl
theorem cc8:CaE l.prog w K mg base "_law_mix" 1 KV:=A6 (fs 8 _ Tz rfl) X G (N:=["_law_cell_here","_law_k","_law_number"]) (ps:=["_law_cell_here","_law_k"]) fun nd _ _ _ _ _ _ _ hr=>by ac_rfl
theorem cc9:CaE l.prog w K mg base "_law_take" 1 AZ:=A6 (fs 9 _ TC rfl) X G (N:=["_law_box_here","_law_many","_law_left","_law_digit"]) (ps:=["_law_box_here","_law_many"]) fun nd _ _ _ _ _ _ _ hr=>by ac_rfl
theorem ZeO:CaM l.prog w K mg base "_law_kind" 1 Cs:=mkM (fs 10 _ TH rfl) X G (N:=["_law_e","_law_kinds","_law_words"]) (ps:=["_law_e"]) fun nd _ _ _ _ _ _ hr=>by ac_rfl
theorem ZeP:CaE l.prog w K mg base "_law_switched" 1 EA:=A6 (fs 11 _ TK rfl) X G (N:=["_law_board_here","_law_rows","_law_columns","_law_found","_law_number","_law_row","_law_line","_law_place","_law_light"]) (ps:=["_law_board_here","_law_rows","_law_columns"]) fun nd _ _ _ _ _ _ _ hr=>by ac_rfl
theorem ZeQ:CaE l.prog w K mg base "_law_ones" 1 IT:=A6 (fs 12 _ TM rfl) X G (N:=["_law_found","_law_number"]) (ps:=[]) fun nd _ _ _ _ _ _ _ hr=>by ac_rfl
theorem ZeR (C0:CaE l.prog w K mg base "is_whole" 1 E4):CaE l.prog w K mg base "is_between" 2 FH:=A6 (fs 13 _ TQ rfl) X G (N:=["thing","least","most"]) (ps:=["thing","least","most"]) fun nd _ _ _ _ _ _ _ hr=>by ac_rfl
theorem ZeS (C0:CaE l.prog w K mg base "is_whole" 1 E4):CaE l.prog w K mg base "is_lot" 2 IU:=A6 (fs 14 _ TU rfl) X G (N:=["thing","size","last","number"]) (ps:=["thing","size"]) fun nd _ _ _ _ _ _ _ hr=>by ac_rfl
theorem ZeT (C7:CaE l.prog w K mg base "_law_cell" 1 KU) (C8:CaE l.prog w K mg base "_law_mix" 1 KV):CaE l.prog w K mg base "_law_box" 2 KW:=A6 (fs 15 _ TX rfl) X G (N:=["_law_script","_law_k","_law_here","_law_number","_law_j"]) (ps:=["_law_script","_law_k"]) fun nd _ _ _ _ _ _ _ hr=>by ac_rfl
theorem ZeU (C9:CaE l.prog w K mg base "_law_take" 1 AZ):CaE l.prog w K mg base "_law_wide_box" 2 Hn:=A6 (fs 16 _ TZ rfl) X G (N:=["_law_box_here","_law_number","_law_many","_law_j"]) (ps:=["_law_box_here"]) fun nd _ _ _ _ _ _ _ hr=>by ac_rfl
theorem ZeV (C9:CaE l.prog w K mg base "_law_take" 1 AZ):CaE l.prog w K mg base "_law_no_board" 2 KY:=A6 (fs 17 _ T3 rfl) X G (N:=["_law_box_here","_law_board_here","_law_at","_law_place","_law_odd","_law_row","_law_bent","_law_some"]) (ps:=["_law_box_here","_law_board_here"]) fun nd _ _ _ _ _ _ _ hr=>by ac_rfl
theorem ZeW (C12:CaE l.prog w K mg base "_law_ones" 1 IT):CaE l.prog w K mg base "_law_least" 2 DU:=A6 (fs 18 _ T6 rfl) X G (N:=["_law_board_here","_law_ones_here","_law_wide","_law_masks","_law_found","_law_columns","_law_counts"]) (ps:=["_law_board_here"]) fun nd _ _ _ _ _ _ _ hr=>by ac_rfl
theorem ZeX (C9:CaE l.prog w K mg base "_law_take" 1 AZ) (C11:CaE l.prog w K mg base "_law_switched" 1 EA):CaE l.prog w K mg base "_law_deed" 2 IV:=A6 (fs 19 _ T7 rfl) X G (N:=["_law_box_here","_law_board_here","_law_high","_law_wide","_law_way","_law_row","_law_column","_law_odd","_law_tall","_law_broad","_law_some","_law_line"]) (ps:=["_law_box_here","_law_board_here"]) fun nd _ _ _ _ _ _ _ hr=>by ac_rfl
theorem ZeY (C13:CaE l.prog w K mg base "is_between" 2 FH):CaE l.prog w K mg base "is_light" 3 KZ:=A6 (fs 20 _ T8 rfl) X G (N:=["thing"]) (ps:=["thing"]) fun nd _ _ _ _ _ _ _ hr=>by ac_rfl
theorem ZeZ (C13:CaE l.prog w K mg base "is_between" 2 FH):CaE l.prog w K mg base "need_line" 3 DW:=A6 (fs 21 _ Ua rfl) X G (N:=["thing","many"]) (ps:=["thing","many"]) fun nd _ _ _ _ _ _ _ hr=>by ac_rfl
theorem Ze0 (C9:CaE l.prog w K mg base "_law_take" 1 AZ) (C16:CaE l.prog w K mg base "_law_wide_box" 2 Hn):CaE l.prog w K mg base "_law_board" 3 IW:=A6 (fs 22 _ Ub rfl) X G (N:=["_law_box_here","_law_high","_law_wide","_law_way","_law_digits","_law_dense","_law_rows","_law_number"]) (ps:=["_law_box_here","_law_high","_law_wide"]) fun nd _ _ _ _ _ _ _ hr=>by ac_rfl
theorem Ze1 (C1:CaE l.prog w K mg base "is_line_tuple" 1 Hl) (C20:CaE l.prog w K mg base "is_light" 3 KZ):CaE l.prog w K mg base "is_row" 4 K0:=A6 (fs 23 _ Ud rfl) X G (N:=["thing"]) (ps:=["thing"]) fun nd _ _ _ _ _ _ _ hr=>by ac_rfl
theorem Ze2 (C21:CaE l.prog w K mg base "need_line" 3 DW) (C6:CaE l.prog w K mg base "light_turned" 1 KS) (CKeeper__change_to:BF l.prog w K mg base "Keeper" "change_to" 1 FG):BF l.prog w K mg base "Keeper" "light" 4 Ho:=EZ (ms 3 _ _ Ug rfl) Cl_Keeper (N:=["self","row","column"]) (ps:=["self","row","column"]) fun nd _ _ _ _ _ _ _ hr=>by have L_Keeper:=CU Cl_Keeper;ac_rfl
theorem Ze3 (C1:CaE l.prog w K mg base "is_line_tuple" 1 Hl) (C23:CaE l.prog w K mg base "is_row" 4 K0):CaE l.prog w K mg base "is_board" 5 La:=A6 (fs 24 _ Uh rfl) X G (N:=["thing"]) (ps:=["thing"]) fun nd _ _ _ _ _ _ _ hr=>by ac_rfl
theorem Ze4 (C24:CaE l.prog w K mg base "is_board" 5 La):CaE l.prog w K mg base "need_board" 6 DG:=A6 (fs 25 _ Uj rfl) X G (N:=["thing"]) (ps:=["thing"]) fun nd _ _ _ _ _ _ _ hr=>by ac_rfl
theorem Ze5 (C25:CaE l.prog w K mg base "need_board" 6 DG):CaE l.prog w K mg base "row_counts" 7 Lb:=A6 (fs 26 _ Uk rfl) X G (N:=["board"]) (ps:=["board"]) fun nd _ _ _ _ _ _ _ hr=>by ac_rfl
theorem Ze6 (C25:CaE l.prog w K mg base "need_board" 6 DG) (C14:CaE l.prog w K mg base "is_lot" 2 IU):CaE l.prog w K mg base "is_switching" 7 IX:=A6 (fs 27 _ Um rfl) X G (N:=["board","thing"]) (ps:=["board","thing"]) fun nd _ _ _ _ _ _ _ hr=>by ac_rfl
theorem Ze7 (C25:CaE l.prog w K mg base "need_board" 6 DG):CaE l.prog w K mg base "turned" 7 Lc:=A6 (fs 28 _ Up rfl) X G (N:=["board"]) (ps:=["board"]) fun nd _ _ _ _ _ _ _ hr=>by ac_rfl
theorem Ze8 (C25:CaE l.prog w K mg base "need_board" 6 DG):KN l.prog w K mg base "Keeper" 7 FI:=ZcU (ms 4 _ _ Ur rfl) Cl_Keeper (N:=["self","board"]) (ps:=["self","board"]) fun nd _ _ _ _ _ _ _ hr=>by have L_Keeper:=CU Cl_Keeper;ac_rfl
theorem Ze9 (C28:CaE l.prog w K mg base "turned" 7 Lc) (C26:CaE l.prog w K mg base "row_counts" 7 Lb):CaE l.prog w K mg base "column_counts" 8 Ld:=A6 (fs 29 _ Us rfl) X G (N:=["board"]) (ps:=["board"]) fun nd _ _ _ _ _ _ _ hr=>by ac_rfl
theorem Zfa (C27:CaE l.prog w K mg base "is_switching" 7 IX):CaE l.prog w K mg base "need_switching" 8 Le:=A6 (fs 30 _ Uu rfl) X G (N:=["board","thing"]) (ps:=["board","thing"]) fun nd _ _ _ _ _ _ _ hr=>by ac_rfl
theorem Zfb (C30:CaE l.prog w K mg base "need_switching" 8 Le) (C2:CaE l.prog w K mg base "row_switched" 1 KP):CaE l.prog w K mg base "switched" 9 Hq:=A6 (fs 31 _ Uw rfl) X G (N:=["board","switching","rows","columns"]) (ps:=["board","switching"]) fun nd _ _ _ _ _ _ _ hr=>by ac_rfl
theorem Zfc (C29:CaE l.prog w K mg base "column_counts" 8 Ld) (C3:CaE l.prog w K mg base "counts_with_row" 1 KQ):CaE l.prog w K mg base "lots_with_counts" 9 DX:=A6 (fs 32 _ Uy rfl) X G (N:=["board","found","number"]) (ps:=["board"]) fun nd _ _ _ _ _ _ _ hr=>by ac_rfl
theorem Zfd (C32:CaE l.prog w K mg base "lots_with_counts" 9 DX) (C4:CaE l.prog w K mg base "fewest_lit" 1 Hm):CaE l.prog w K mg base "left_many" 10 E5:=A6 (fs 33 _ UA rfl) X G (N:=["board"]) (ps:=["board"]) fun nd _ _ _ _ _ _ _ hr=>by ac_rfl
theorem Zfe (C21:CaE l.prog w K mg base "need_line" 3 DW) (C31:CaE l.prog w K mg base "switched" 9 Hq) (CKeeper__change_to:BF l.prog w K mg base "Keeper" "change_to" 1 FG):BF l.prog w K mg base "Keeper" "row" 10 IY:=EZ (ms 5 _ _ UC rfl) Cl_Keeper (N:=["self","number"]) (ps:=["self","number"]) fun nd _ _ _ _ _ _ _ hr=>by have L_Keeper:=CU Cl_Keeper;ac_rfl
theorem Zff (C21:CaE l.prog w K mg base "need_line" 3 DW) (C31:CaE l.prog w K mg base "switched" 9 Hq) (CKeeper__change_to:BF l.prog w K mg base "Keeper" "change_to" 1 FG):BF l.prog w K mg base "Keeper" "column" 10 IZ:=EZ (ms 6 _ _ UD rfl) Cl_Keeper (N:=["self","number"]) (ps:=["self","number"]) fun nd _ _ _ _ _ _ _ hr=>by have L_Keeper:=CU Cl_Keeper;ac_rfl
theorem Zfg (C33:CaE l.prog w K mg base "left_many" 10 E5) (C32:CaE l.prog w K mg base "lots_with_counts" 9 DX) (C4:CaE l.prog w K mg base "fewest_lit" 1 Hm) (C5:CaE l.prog w K mg base "fuller_columns" 1 KR):CaE l.prog w K mg base "best_switching" 11 Lf:=A6 (fs 34 _ UE rfl) X G (N:=["board","fewest","high"]) (ps:=["board"]) fun nd _ _ _ _ _ _ _ hr=>by ac_rfl
theorem Zfh (C33:CaE l.prog w K mg base "left_many" 10 E5):BF l.prog w K mg base "Keeper" "left" 11 I0:=EZ (ms 7 _ _ UG rfl) Cl_Keeper (N:=["self"]) (ps:=["self"]) fun nd _ _ _ _ _ _ _ hr=>by have L_Keeper:=CU Cl_Keeper;ac_rfl
theorem Zfi (C33:CaE l.prog w K mg base "left_many" 10 E5):BF l.prog w K mg base "Keeper" "news" 11 Ja:=EZ (ms 8 _ _ UI rfl) Cl_Keeper (N:=["self"]) (ps:=["self"]) fun nd _ _ _ _ _ _ _ hr=>by have L_Keeper:=CU Cl_Keeper;ac_rfl
theorem Zfj (CKeeper__light:BF l.prog w K mg base "Keeper" "light" 4 Ho) (CKeeper__row:BF l.prog w K mg base "Keeper" "row" 10 IY) (CKeeper__column:BF l.prog w K mg base "Keeper" "column" 10 IZ):CaE l.prog w K mg base "_law_done" 11 E6:=A6 (fs 35 _ UK rfl) X G (N:=["_law_keeper","_law_word","_law_numbers"]) (ps:=["_law_keeper","_law_word","_law_numbers"]) fun nd _ _ _ _ _ _ _ hr=>by have L_Keeper:=CU Cl_Keeper;ac_rfl
theorem Zfk (C34:CaE l.prog w K mg base "best_switching" 11 Lf):BF l.prog w K mg base "Keeper" "best" 12 Gr:=EZ (ms 9 _ _ UL rfl) Cl_Keeper (N:=["self"]) (ps:=["self"]) fun nd _ _ _ _ _ _ _ hr=>by have L_Keeper:=CU Cl_Keeper;ac_rfl
theorem Zfl (CKeeper__board:BF l.prog w K mg base "Keeper" "board" 1 IS) (CKeeper__left:BF l.prog w K mg base "Keeper" "left" 11 I0) (C18:CaE l.prog w K mg base "_law_least" 2 DU) (CKeeper__best:BF l.prog w K mg base "Keeper" "best" 12 Gr) (C11:CaE l.prog w K mg base "_law_switched" 1 EA) (CKeeper__news:BF l.prog w K mg base "Keeper" "news" 11 Ja):CaE l.prog w K mg base "_law_stands" 13 DY:=A6 (fs 36 _ UN rfl) X G (N:=["_law_keeper","_law_past","_law_board_here","_law_found","_law_lots","_law_size","_law_lot","_law_rows","_law_columns","_law_due"]) (ps:=["_law_keeper","_law_past"]) fun nd _ _ _ _ _ _ _ hr=>by have L_Keeper:=CU Cl_Keeper;ac_rfl
theorem Zfm {c T fsd:Addr} {fdd:FuncData} (hbm:He mg base) (tb:tabP K "_law_undone"=some (c,T)) (hd:PySem.W.codeHdIn K c T=true) (Sd:SaidD K mg KO fsd fdd) (CKeeper__undo:BF l.prog w K mg base "Keeper" "undo" 1 CV) (C36:CaE l.prog w K mg base "_law_stands" 13 DY) (C10:CaM l.prog w K mg base "_law_kind" 1 Cs):CaE l.prog w K mg base "_law_undone" 14 Hr:=mkL (fs 37 _ OF rfl) X G (N:=["_law_keeper","_law_past"]) (ps:=["_law_keeper","_law_past"]) tb fun nd f A outer s H E hr=>by
 have L_Keeper:=CU Cl_Keeper;have LX:LamX "_law_undone" (Bx (AO l.prog w K) l.prog w K mg base ["_law_keeper","_law_past"] "_law_undone" (defScope OF) f (.ref c) A outer s H E) c T:=⟨rfl,tb,hd,rfl,hbm⟩
 ac_rfl
end
theorem all_mk {l:PySem.W.OpenLaw} {w:World} {K:PySem.W.Frag} {h:Heap} {mg:Str→Option Value} {fa:Addr} (HS:Tp.HasZ wantZ K) (X:K.In h) (G:h.Ns mainGlobals mg) (hfa:mg "law"=some (.ref fa)):
 ∃fd:FuncData,(∀(s:Shared) (v:Value),BindsTo s fd ⟨[v],[]⟩ [("_law_script",v)])∧∀base:Heap,K.In base→base.Ns mainGlobals mg→He mg base→FnOk l.prog w K mg base (AO l.prog w K) 15 fa fd ["_law_script"] (Dy K F_law):=by
 obtain ⟨fs,cs,bs,et,ms,cl,tbz,wx⟩:=HS
 obtain ⟨tb,hd⟩:=tbz 0 _ rfl
 obtain ⟨f_law,_,an_law,_,_,kV_law,dc_law,pm_law,cd_law,ct_law,a_law,l_law,c_law,k_law⟩:=fs 38 "law" s_law rfl
 cases LS.tab_cdG tb a_law l_law
 cases hfa.symm.trans (PySem.W.mg_of X G a_law)
 have B:=mkB bs X G
 obtain ⟨fsd,fdd,Sd⟩:=mkS (fs 39 _ KO rfl) X G
 obtain ⟨t_MOST_LINES,v_MOST_LINES⟩:=cs 0 "MOST_LINES" 8 rfl
 have M_MOST_LINES:=PySem.W.mg_of X G v_MOST_LINES
 refine ⟨PySem.W.fnOf "law" "law" (defArgs s_law) (defBody s_law) (defScope s_law) .none kV_law dc_law pm_law an_law (.ref (Tp.tbAt K "law").1) ct_law,fun s v=>.of_eq rfl,fun base _ _ hbm=>?_⟩
 have Cl_Keeper:=cl 0 "Keeper" ["now","earlier"] rfl
 have L_Keeper:=CU Cl_Keeper
 have C0:=cc0 (l:=l) (w:=w) (base:=base) fs X G B et M_MOST_LINES Cl_Keeper ms
 have C1:=cc1 (l:=l) (w:=w) (base:=base) fs X G B et M_MOST_LINES Cl_Keeper ms
 have C2:=cc2 (l:=l) (w:=w) (base:=base) fs X G B et M_MOST_LINES Cl_Keeper ms
 have C3:=cc3 (l:=l) (w:=w) (base:=base) fs X G B et M_MOST_LINES Cl_Keeper ms
 have C4:=cc4 (l:=l) (w:=w) (base:=base) fs X G B et M_MOST_LINES Cl_Keeper ms
 have C5:=cc5 (l:=l) (w:=w) (base:=base) fs X G B et M_MOST_LINES Cl_Keeper ms
 have C6:=cc6 (l:=l) (w:=w) (base:=base) fs X G B et M_MOST_LINES Cl_Keeper ms
 have CKeeper__change_to:=ZeL (l:=l) (w:=w) (base:=base) fs X G B et M_MOST_LINES Cl_Keeper ms
 have CKeeper__undo:=ZeM (l:=l) (w:=w) (base:=base) fs X G B et M_MOST_LINES Cl_Keeper ms
 have CKeeper__board:=ZeN (l:=l) (w:=w) (base:=base) fs X G B et M_MOST_LINES Cl_Keeper ms
 have C7:=cc7 (l:=l) (w:=w) (base:=base) fs X G B et M_MOST_LINES Cl_Keeper ms
 have C8:=cc8 (l:=l) (w:=w) (base:=base) fs X G B et M_MOST_LINES Cl_Keeper ms
 have C9:=cc9 (l:=l) (w:=w) (base:=base) fs X G B et M_MOST_LINES Cl_Keeper ms
 have C10:=ZeO (l:=l) (w:=w) (base:=base) fs X G B et M_MOST_LINES Cl_Keeper ms
 have C11:=ZeP (l:=l) (w:=w) (base:=base) fs X G B et M_MOST_LINES Cl_Keeper ms
 have C12:=ZeQ (l:=l) (w:=w) (base:=base) fs X G B et M_MOST_LINES Cl_Keeper ms
 have C13:=ZeR (l:=l) (w:=w) (base:=base) fs X G B et M_MOST_LINES Cl_Keeper ms C0
 have C14:=ZeS (l:=l) (w:=w) (base:=base) fs X G B et M_MOST_LINES Cl_Keeper ms C0
 have C15:=ZeT (l:=l) (w:=w) (base:=base) fs X G B et M_MOST_LINES Cl_Keeper ms C7 C8
 have C16:=ZeU (l:=l) (w:=w) (base:=base) fs X G B et M_MOST_LINES Cl_Keeper ms C9
 have C17:=ZeV (l:=l) (w:=w) (base:=base) fs X G B et M_MOST_LINES Cl_Keeper ms C9
 have C18:=ZeW (l:=l) (w:=w) (base:=base) fs X G B et M_MOST_LINES Cl_Keeper ms C12
 have C19:=ZeX (l:=l) (w:=w) (base:=base) fs X G B et M_MOST_LINES Cl_Keeper ms C9 C11
 have C20:=ZeY (l:=l) (w:=w) (base:=base) fs X G B et M_MOST_LINES Cl_Keeper ms C13
 have C21:=ZeZ (l:=l) (w:=w) (base:=base) fs X G B et M_MOST_LINES Cl_Keeper ms C13
 have C22:=Ze0 (l:=l) (w:=w) (base:=base) fs X G B et M_MOST_LINES Cl_Keeper ms C9 C16
 have C23:=Ze1 (l:=l) (w:=w) (base:=base) fs X G B et M_MOST_LINES Cl_Keeper ms C1 C20
 have CKeeper__light:=Ze2 (l:=l) (w:=w) (base:=base) fs X G B et M_MOST_LINES Cl_Keeper ms C21 C6 CKeeper__change_to
 have C24:=Ze3 (l:=l) (w:=w) (base:=base) fs X G B et M_MOST_LINES Cl_Keeper ms C1 C23
 have C25:=Ze4 (l:=l) (w:=w) (base:=base) fs X G B et M_MOST_LINES Cl_Keeper ms C24
 have C26:=Ze5 (l:=l) (w:=w) (base:=base) fs X G B et M_MOST_LINES Cl_Keeper ms C25
 have C27:=Ze6 (l:=l) (w:=w) (base:=base) fs X G B et M_MOST_LINES Cl_Keeper ms C25 C14
 have C28:=Ze7 (l:=l) (w:=w) (base:=base) fs X G B et M_MOST_LINES Cl_Keeper ms C25
 have CKeeper____init__:=Ze8 (l:=l) (w:=w) (base:=base) fs X G B et M_MOST_LINES Cl_Keeper ms C25
 have C29:=Ze9 (l:=l) (w:=w) (base:=base) fs X G B et M_MOST_LINES Cl_Keeper ms C28 C26
 have C30:=Zfa (l:=l) (w:=w) (base:=base) fs X G B et M_MOST_LINES Cl_Keeper ms C27
 have C31:=Zfb (l:=l) (w:=w) (base:=base) fs X G B et M_MOST_LINES Cl_Keeper ms C30 C2
 have C32:=Zfc (l:=l) (w:=w) (base:=base) fs X G B et M_MOST_LINES Cl_Keeper ms C29 C3
 have C33:=Zfd (l:=l) (w:=w) (base:=base) fs X G B et M_MOST_LINES Cl_Keeper ms C32 C4
 have CKeeper__row:=Zfe (l:=l) (w:=w) (base:=base) fs X G B et M_MOST_LINES Cl_Keeper ms C21 C31 CKeeper__change_to
 have CKeeper__column:=Zff (l:=l) (w:=w) (base:=base) fs X G B et M_MOST_LINES Cl_Keeper ms C21 C31 CKeeper__change_to
 have C34:=Zfg (l:=l) (w:=w) (base:=base) fs X G B et M_MOST_LINES Cl_Keeper ms C33 C32 C4 C5
 have CKeeper__left:=Zfh (l:=l) (w:=w) (base:=base) fs X G B et M_MOST_LINES Cl_Keeper ms C33
 have CKeeper__news:=Zfi (l:=l) (w:=w) (base:=base) fs X G B et M_MOST_LINES Cl_Keeper ms C33
 have C35:=Zfj (l:=l) (w:=w) (base:=base) fs X G B et M_MOST_LINES Cl_Keeper ms CKeeper__light CKeeper__row CKeeper__column
 have CKeeper__best:=Zfk (l:=l) (w:=w) (base:=base) fs X G B et M_MOST_LINES Cl_Keeper ms C34
 have C36:=Zfl (l:=l) (w:=w) (base:=base) fs X G B et M_MOST_LINES Cl_Keeper ms CKeeper__board CKeeper__left C18 CKeeper__best C11 CKeeper__news
 have C37:=Zfm (l:=l) (w:=w) (base:=base) fs X G B et M_MOST_LINES Cl_Keeper ms hbm (tbz 1 _ rfl).1 (tbz 1 _ rfl).2 Sd CKeeper__undo C36 C10
 have sc:CQ ["_law_script","_law_k","_law_box_here","_law_pasts","_law_keepers","_law_turn","_law_board_here","_law_digits","_law_at","_law_keeper","_law_past","_law_word","_law_numbers","_law_later","_law_none"] ["_law_script"] (defScope s_law):=⟨rfl,rfl,rfl,by decide +kernel,rfl,by decide +kernel,by decide +kernel⟩
 have nd:=sc.nd
 exact RI l_law c_law sc (fun ds h e=>if_neg e) (fun ds h e=>if_pos e) fun A outer s H E hr=>by
  have LX:LamX "law" (Bx (AO l.prog w K) l.prog w K mg base ["_law_script","_law_k","_law_box_here","_law_pasts","_law_keepers","_law_turn","_law_board_here","_law_digits","_law_at","_law_keeper","_law_past","_law_word","_law_numbers","_law_later","_law_none"] "law" (defScope s_law) fa (.ref (Tp.tbAt K "law").1) A outer s H E) (Tp.tbAt K "law").1 (Tp.tbAt K "law").2:=⟨rfl,tb,hd,rfl,hbm⟩
  ac_rfl
end
end LK
open PySem PySem.W PyProof.Rows
set_option maxRecDepth 100000 in
set_option maxHeartbeats 0 in
theorem PySem.Challenge.cw_lineswitch_k61_keepers_of_boards_holds : PySem.Challenge.rw_lineswitch_k61_keepers_of_boards.Holds := by
 w_on;o_law
 refine PySem.W.holds_open (q:=LK.top_q) (loose:=LK.top_loose) (d:=⟨"law",L2.defArgs LK.s_law,L2.defBody LK.s_law,L2.defScope LK.s_law,_⟩) (kwd:=[]) (Xt:=fun _=>true) (XP:=fun _ _=>True) (N:=1000000) LK.top_left Tp.saysZ_of Tp.SaysZ.keeps (fun _ _=>trivial) (fun _ _ _ _ _=>trivial) (by rfl) (by kernel_rfl) (by kernel_rfl) (fun s _=>recFacts_nil (by rfl)) (by rfl) (by assumption) (by kernel_rfl) ⟨rfl,rfl,rfl,rfl,rfl,by decide +kernel⟩ ?hw ?hc
 case hw=>w_witness2
 case hc=>exact LS.walk_hdZ (n:=63) (k:=15) (x:="_law_script") (F:=LK.F_law) rfl (by decide) rfl ⟨rfl,by decide,by decide,rfl⟩ (fun w K mg fa h HS X G hfa=>LK.all_mk HS X G hfa) LK.law_true
