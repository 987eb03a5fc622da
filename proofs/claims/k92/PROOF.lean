import PyProof.Rows.All
import Wide.All
import OpenK.AllK
import Wide.FinOn
import Lean
import PyProof.EqAt
import PyProof.EqKinds
import PyProof.TupleCall
import PyProof.ExcBaseAll.ValueError
import PyProof.ZipIter
import KE.KIsAll
import KE.KTryMore
import PyProof.ExcArgsOwn
import PyProof.ExcAttrAll.ValueError
import KE.KLam
import KE.KNestM
import PyProof.NsDelKeeps
import PyProof.Rows.CatchPack
import PyProof.ReprRoads
import PyProof.Rows.FStr
import PyProof.ListRange
import PyProof.CollectIter
import KE.KRevSl
import PyProof.ExcInit
import PyProof.ExcClass2
import PyProof.InstStore
import PyProof.InstStoreFacts
import PyProof.InstLoad
import OpenK.KMore
import PyProof.Rows.StrKeys3
import PyProof.MeetsStr
import PyProof.Rows.AttrNodeAny
import PyProof.DictItemsLoops
import PyProof.DictTable
import PyProof.MeetsDictList
import PyProof.DictStraight
import PyProof.DictUpdate
import PyProof.DictRoadsH
import PyProof.DictTruth
import PyProof.DictWalks
import PyProof.AttrMissHeap
import PyProof.ListNew
import KE.KDictOf
import PyProof.MinMaxWalk
import PyProof.StrLawsIn
import PyProof.StrBlock
import PyProof.StrCalls
import PyProof.StrWalks
import PyProof.SliceStr2
import PyProof.MeetsStr2
import PyProof.Rows.SetFrom
import PyProof.Rows.SortStr
import PyProof.DictIter
import PyProof.CollectWalk
import PyProof.SetRoads
import PyProof.Rows.SortWalk
import PyProof.ListStr
import KE.KIntText
import PySem.Challenge.RW_lineswitch_k92_texts_refused
set_option Elab.async false
set_option linter.all false
set_option maxRecDepth 100000
abbrev AB:=@PySem.Heap.get?_push_of_some
abbrev qa1:=@List.getElem?_eq_some_iff
abbrev AA:=@List.prefix_refl
abbrev Am:=@Nat.le_refl
abbrev qa4:=@List.mem_cons
abbrev AV:=@List.mem_cons_of_mem
abbrev AW:=@PySem.Heap.get?_push_size
abbrev AU:=@List.mem_cons_self
abbrev AX:=@Nat.lt_of_lt_of_le
abbrev Bi:=@List.getElem?_eq_getElem
abbrev Ax:=@PySem.Heap.lt_size
abbrev Bj:=@List.getElem?_set_ne
abbrev Bc:=@Bool.false_eq_true
abbrev Bf:=@Bool.and_eq_true
abbrev Bt:=@Bool.false_ne_true
abbrev Bu:=@List.size_toArray
abbrev A4:=@List.map_cons
abbrev Bo:=@List.length_map
abbrev qaI:=@List.mem_singleton
abbrev BV:=@List.getElem?_set_self
abbrev Bd:=@Nat.ne_of_lt
abbrev B0:=@List.getElem?_map
abbrev qaM:=@List.all_eq_true
abbrev BB:=@Nat.le_trans
abbrev qaO:=@Option.map_eq_some_iff
abbrev CM:=@List.mem_append_right
abbrev BN:=@PySem.Heap.size_push
abbrev Dr:=@List.getElem?_append_left
abbrev Cu:=@List.length_append
abbrev Di:=@PySem.Heap.get?_update_self
abbrev qaU:=@List.mem_map
abbrev B1:=@Nat.lt_irrefl
abbrev qaW:=@List.mem_append
abbrev B2:=@Nat.zero_le
abbrev qaY:=@List.mem_filter
abbrev Ee:=@List.mem_of_getElem?
abbrev Ds:=@List.lookup_cons
abbrev Du:=@List.cons_append
abbrev Ef:=@List.replicate_succ
abbrev qb3:=@Bool.eq_iff_iff
abbrev DO:=@List.length_cons
abbrev CN:=@List.map_map
abbrev Eg:=@Int.toNat_natCast
abbrev DP:=@List.append_nil
abbrev EJ:=@List.map_congr_left
abbrev Fv:=@PySem.Heap.get?_update_other
abbrev Gx:=@List.getElem?_append_right
abbrev Fw:=@List.length_filter_le
abbrev qbC:=@List.nodup_cons
abbrev EK:=@List.flatten_cons
abbrev DQ:=@Bool.not_true
abbrev qbF:=@List.length_eq_zero_iff
abbrev Gy:=@Int.eq_ofNat_of_zero_le
abbrev Fx:=@List.filterMap_cons
abbrev EL:=@List.not_mem_nil
abbrev DR:=@Nat.le_of_lt
abbrev Hx:=@List.getD_eq_getElem?_getD
abbrev Gz:=@List.mem_append_left
abbrev Hz:=@List.drop_eq_getElem_cons
abbrev qbN:=@List.mem_range
abbrev Eh:=@Nat.ne_of_gt
abbrev qbP:=@Option.isSome_iff_exists
abbrev Fy:=@List.getElem_mem
abbrev GA:=@List.getElem_of_mem
abbrev GB:=@List.prefix_append
abbrev Fz:=@Option.map_some
abbrev FA:=@Bool.or_eq_true
abbrev qbV:=@List.pairwise_cons
abbrev GC:=@List.nodup_append
abbrev HA:=@List.count_cons_of_ne
abbrev GD:=@Nat.lt_succ_self
abbrev GE:=@List.length_take
abbrev GF:=@Nat.le_of_not_lt
abbrev qc1:=@Bool.and_eq_true_iff
abbrev FB:=@Nat.succ_mul
abbrev qc3:=@List.count_eq_zero
abbrev Km:=@List.getElem?_replicate
abbrev HB:=@Nat.le_of_succ_le
abbrev HC:=@Nat.lt_succ_of_lt
abbrev HE:=@List.length_range
abbrev Kn:=@List.take_of_length_le
abbrev qc9:=@List.filter_eq_nil_iff
abbrev GG:=@Bool.or_false
abbrev GH:=@Nat.add_assoc
abbrev HF:=@Option.bind_some
abbrev HG:=@List.length_drop
abbrev GI:=@Nat.le_of_eq
abbrev HH:=@List.of_mem_zip
abbrev HI:=@List.nil_append
abbrev HJ:=@List.length_nil
abbrev HK:=@List.map_append
namespace L2
open PySem PySem.Spec PyProof.Rows
abbrev SZ:=Sum Int Str
inductive V where
 |non |bl (b:Bool) |int (i:Int) |str (x:Str) |byt (b:Array UInt8) |flt (b:UInt64) |ref (a:Addr) |ty (n:String)
 deriving DecidableEq
def RelV:V→Value→Prop
 |.non,u=>u=Value.none
 |.bl b,u=>u=Value.bool b
 |.int i,u=>∃t,u=Value.int i t
 |.str x,u=>∃t,u=Value.str x t
 |.byt b,u=>∃t,u=Value.bytes b t
 |.flt b,u=>∃t,u=Value.float b t
 |.ref a,u=>u=Value.ref a
 |.ty n,u=>u=Value.type n
abbrev Vals:List V→List Value→Prop:=Paired RelV
theorem Vals.length {xs:List V} {us:List Value} (r:Vals xs us):xs.length=us.length:=Paired.length r
theorem Vals.get:∀{xs:List V} {us:List Value} {i:Nat} {x:V},Vals xs us→xs[i]?=some x→∃u,us[i]?=some u∧RelV x u
 |_,_,_,_,.nil,e=>by simp at e
 |_,_,0,_,.cons r _,e=>by simp at e;subst e;exact ⟨_,rfl,r⟩
 |_,_,i+1,x,.cons _ t,e=>by
  obtain ⟨u,h1,h2⟩:=Vals.get (i:=i) (x:=x) t (by simpa using e)
  exact ⟨u,by simpa using h1,h2⟩
theorem Vals.set {x:V} {u:Value} (r:RelV x u):∀{xs:List V} {us:List Value} (i:Nat),Vals xs us→Vals (xs.set i x) (us.set i u)
 |_,_,_,.nil=>.nil
 |_,_,0,.cons _ t=>.cons r t
 |_,_,i+1,.cons q t=>.cons q (Vals.set r i t)
theorem Vals.append:∀{xs ys:List V} {us ws:List Value},Vals xs us→Vals ys ws→Vals (xs++ys) (us++ws)
 |_,_,_,_,.nil,s=>s
 |_,_,_,_,.cons r t,s=>.cons r (Vals.append t s)
theorem Vals.take:∀{xs:List V} {us:List Value} (n:Nat),Vals xs us→Vals (xs.take n) (us.take n)
 |_,_,0,_=>.nil
 |_,_,_+1,.nil=>.nil
 |_,_,n+1,.cons r t=>.cons r (Vals.take n t)
theorem Vals.drop:∀{xs:List V} {us:List Value} (n:Nat),Vals xs us→Vals (xs.drop n) (us.drop n)
 |_,_,0,r=>r
 |_,_,_+1,.nil=>.nil
 |_,_,n+1,.cons _ t=>Vals.drop n t
def M5:Option V→Option Value→Prop
 |some v,some u=>RelV v u
 |none,none=>True
 |_,_=>False
def kV:SZ→V
 |.inl i=>.int i
 |.inr x=>.str x
inductive HO where
 |lst (xs:List V)
 |tup (xs:List V)
 |ins (C dx:Addr) (fs:List (Str×V))
 |own (x:Addr)
 |xd (fs:List (Str×V))
 |frz (o:Obj) (u:HO)
 |tbl (ps:Array Value)
 |ext (φ:Heap→Prop)
 |mex (φ:Heap→Prop)
 |dct (φ:Heap→Prop)
abbrev Hp:=Addr→Option HO
def Ah (H:Hp) (a:Addr) (o:HO):Hp:=fun b=>if b=a then some o else H b
theorem B6 {H:Hp} {a:Addr} {o:HO}:Ah H a o a=some o:=by unfold Ah;rw [if_pos rfl]
theorem Av {H:Hp} {a b:Addr} {o:HO} (h:b≠a):Ah H a o b=H b:=by unfold Ah;rw [if_neg h]
theorem Dj {H:Hp} {a b:Addr} {o:HO} (h:H a=some o) (h':H b=none):a≠b:=by
 intro e;subst e;rw [h] at h';cases h'
section
variable (P:Program) (w:World)
inductive M6 (h:Heap) (a:Addr) (xs:List V):Prop where
 |mk (f1:xs.length≤sizeLine) (its:List Value) (n:Nat) (f2:Vals xs its) (f3:h.get? a=some {cls:=.type "list",data:=.seq its.toArray n}):M6 h a xs
def NoDict (h:Heap) (a:Addr):Prop:=∀o,h.get? a=some o→o.dict=none
inductive M7 (h:Heap) (a:Addr) (xs:List V):Prop where
 |mk (f1:xs.length≤sizeLine) (its:List Value) (f2:Vals xs its) (f3:IsTup h a its.toArray) (f4:NoDict h a):M7 h a xs
theorem NoDict.new {h:Heap} {o:Obj} (hd:o.dict=none:=by rfl) (hf:o.isFreed=false:=by rfl):NoDict (h.push o) h.objs.size:=fun u e=>by
 rw [AW _ hf] at e
 cases e
 exact hd
inductive M8 (H:Hp) (h:Heap) (a C dx:Addr) (fs:List (Str×V)):Prop where
 |mk (f1:H dx=some (.own a)) (f2:fs.length≤1000) (f3:dx≠a) (f4:h.get? a=some (PySem.W.instObj C dx)) (mA:Str→Option Value) (f5:h.Ns1 dx mA) (f6:(∀f,M5 (fs.lookup f) (mA f))∧PySem.Within mA (fs.map (·.1))):M8 H h a C dx fs
def ObjOk (P:Program) (w:World) (H:Hp) (h:Heap) (a:Addr):HO→Prop
 |.lst xs=>M6 h a xs
 |.tup xs=>M7 h a xs
 |.ins C dx fs=>M8 H h a C dx fs
 |.own _=>∃o,h.get? a=some o
 |.xd fs=>∃mA,h.Ns1 a mA∧∀f,M5 (fs.lookup f) (mA f)
 |.frz o u=>h.get? a=some o∧ObjOk P w H h a u
 |.tbl ps=>h.get? a=some {cls:=.none,data:=.fields ps}
 |.ext φ=>φ h∧(∃o,h.get? a=some o)∧∀h1 h2:Heap,φ h1→(∀o,h1.get? a=some o→h2.get? a=some o)→φ h2
 |.mex φ=>φ h∧(∃o,h.get? a=some o)∧∀h1 h2:Heap,φ h1→(∀o,h1.get? a=some o→h2.get? a=some o)→φ h2
 |.dct φ=>φ h∧(∃o,h.get? a=some o)∧∀h1 h2:Heap,φ h1→(∀o,h1.get? a=some o→h2.get? a=some o)→φ h2
def HOk (H:Hp) (h:Heap):Prop:=∀a o,H a=some o→ObjOk P w H h a o
end
section
variable {P:Program} {w:World} {H H':Hp} {h h':Heap} {a:Addr} {o:HO}
theorem ObjOk.lt (x:ObjOk P w H h a o):a<h.objs.size:=by
 cases o with
 |lst xs=>obtain ⟨_,_,_,_,e⟩:=x;exact Ax e
 |tup xs=>obtain ⟨_,_,_,p,_⟩:=x;exact p.lt
 |ins C dx fs=>obtain ⟨_,_,_,e,_⟩:=x;exact Ax e
 |own y=>obtain ⟨_,e⟩:=x;exact Ax e
 |xd fs=>obtain ⟨_,⟨_,_,_,e,_⟩,_⟩:=x;exact Ax e
 |frz ob u=>obtain ⟨e,_⟩:=x;exact Ax e
 |tbl ps=>exact Ax (show h.get? a=some _ from x)
 |ext φ=>obtain ⟨_,⟨_,e⟩,_⟩:=x;exact Ax e
 |mex φ=>obtain ⟨_,⟨_,e⟩,_⟩:=x;exact Ax e
 |dct φ=>obtain ⟨_,⟨_,e⟩,_⟩:=x;exact Ax e
theorem ObjOk.stay (x:ObjOk P w H h a o) (k:∀b u,(b=a∨H b=some (.own a))→h.get? b=some u→h'.get? b=some u)
 (ho:∀b,H b=some (.own a)→H' b=some (.own a)) (ht:∀b xs,H b=some (.tup xs)→H' b=some (.tup xs)):ObjOk P w H' h' a o:=by
 induction o with
 |lst xs=>obtain ⟨z,its,n,r,e⟩:=x;exact ⟨z,its,n,r,k _ _ (.inl rfl) e⟩
 |tup xs=>obtain ⟨z,its,r,⟨ob,e,c⟩,nd⟩:=x;exact ⟨z,its,r,⟨ob,k _ _ (.inl rfl) e,c⟩,fun o e2=>by rw [k _ _ (.inl rfl) e] at e2;cases e2;exact nd _ e⟩
 |ins C dx fs=>
  obtain ⟨d,z,ne,e,mA,⟨od,es,ep,e2,c⟩,r⟩:=x
  exact ⟨ho _ d,z,ne,k _ _ (.inl rfl) e,mA,⟨od,es,ep,k _ _ (.inr d) e2,c⟩,r⟩
 |own y=>obtain ⟨ob,e⟩:=x;exact ⟨ob,k _ _ (.inl rfl) e⟩
 |xd fs=>obtain ⟨mA,⟨od,es,ep,e,c⟩,r⟩:=x;exact ⟨mA,⟨od,es,ep,k _ _ (.inl rfl) e,c⟩,r⟩
 |frz ob u ih=>obtain ⟨e,q⟩:=x;exact ⟨k _ _ (.inl rfl) e,ih q⟩
 |tbl ps=>
  have e:h.get? a=some {cls:=.none,data:=.fields ps}:=x
  show h'.get? a=some {cls:=.none,data:=.fields ps}
  exact k a _ (.inl rfl) e
 |ext φ=>obtain ⟨p,⟨o,e⟩,st⟩:=x;exact ⟨st _ _ p fun o q=>k _ _ (.inl rfl) q,⟨o,k _ _ (.inl rfl) e⟩,st⟩
 |mex φ=>obtain ⟨p,⟨o,e⟩,st⟩:=x;exact ⟨st _ _ p fun o q=>k _ _ (.inl rfl) q,⟨o,k _ _ (.inl rfl) e⟩,st⟩
 |dct φ=>obtain ⟨p,⟨o,e⟩,st⟩:=x;exact ⟨st _ _ p fun o q=>k _ _ (.inl rfl) q,⟨o,k _ _ (.inl rfl) e⟩,st⟩
theorem HOk.lt (x:HOk P w H h) (e:H a=some o):a<h.objs.size:=(x a o e).lt
theorem HOk.fresh (x:HOk P w H h) (e:h.objs.size≤a):H a=none:=by
 cases q:H a with
 |none=>rfl
 |some u=>exact absurd (AX (x.lt q) e) (B1 _)
theorem HOk.kept (x:HOk P w H h) (k:∀b u,h.get? b=some u→h'.get? b=some u):HOk P w H h':=fun a o e=>
 (x a o e).stay (fun b u _ q=>k b u q) (fun _ q=>q) fun _ _ q=>q
theorem HOk.laid (x:HOk P w H h) (k:∀b u,h.get? b=some u→h'.get? b=some u) (hp:h.objs.size≤a) (new:ObjOk P w (Ah H a o) h' a o):HOk P w (Ah H a o) h':=fun b u e=>by
 have hn:=x.fresh hp
 by_cases hb:b=a
 ·subst hb;rw [B6] at e;cases e;exact new
 ·rw [Av hb] at e
  exact (x b u e).stay (fun c v _ q=>k c v q) (fun c q=>by rw [Av (Dj q hn)];exact q) fun c xs q=>by rw [Av (Dj q hn)];exact q
end
def Rd (H:Hp) (a:Addr) (u:HO):Prop:=H a=some u∨∃o,H a=some (.frz o u)
theorem Rd.ok {P:Program} {w:World} {H:Hp} {h:Heap} {a:Addr} {u:HO} (r:Rd H a u) (x:HOk P w H h):ObjOk P w H h a u:=by
 rcases r with r |⟨o,r⟩
 ·exact x a u r
 ·obtain ⟨_,q⟩:=x a _ r
  exact q
def HL:Option HO→Prop
 |some (.lst _)=>True
 |some (.ins _ _ _)=>True
 |some (.ext _)=>True
 |some (.mex _)=>True
 |some (.dct _)=>True
 |_=>False
section
variable {P:Program} {w:World} {H:Hp} {h h':Heap} {x e:Addr} {o':HO}
theorem HOk.write (ok:HOk P w H h) (mu:HL (H x)) (he:e=x∨H e=some (.own x)) (k:∀b u,b≠e→h.get? b=some u→h'.get? b=some u) (heo:∃u,h'.get? e=some u)
 (new:ObjOk P w (Ah H x o') h' x o'):HOk P w (Ah H x o') h':=fun b u q=>by
 have nown:∀c y,H c=some (.own y)→c≠x:=fun c y r z=>by subst z;rw [r] at mu;exact mu
 have ntup:∀c xs,H c=some (.tup xs)→c≠x:=fun c xs r z=>by subst z;rw [r] at mu;exact mu
 by_cases hb:b=x
 ·subst hb;rw [B6] at q;cases q;exact new
 ·rw [Av hb] at q
  by_cases hbe:b=e
  ·have q':H b=some (.own x):=by
    rcases he with z |z
    ·exact absurd (hbe.trans z) hb
    ·rw [hbe];exact z
   rw [q] at q';cases q'
   obtain ⟨v,hv⟩:=heo
   exact ⟨v,by rw [hbe];exact hv⟩
  ·refine (ok b u q).stay (fun c v hc r=>k c v ?_ r) (fun c r=>by rw [Av (nown c b r)];exact r) fun c xs r=>by rw [Av (ntup c xs r)];exact r
   rcases hc with rfl |hc
   ·exact hbe
   ·rintro rfl
    rcases he with z |z
    ·exact nown c b hc z
    ·rw [hc] at z;cases z;exact hb rfl
end
structure Un (fs ex:List Addr) (H H':Hp) (h h':Heap):Prop where
 keep:∀b o,h.get? b=some o→H b=none→b∉fs→b∉ex→h'.get? b=some o
 slot:∀b o,h.get? b=some o→H b=none→b∈fs→b∉ex→∃sl,h'.get? b=some {o with slots:=sl}
 free:∀b o,h.get? b=some o→H b=none→b∉ex→H' b=none
 there:∀b o,h.get? b=some o→b∉ex→∃o',h'.get? b=some o'
 tups:∀b xs,H b=some (.tup xs)→H' b=some (.tup xs)
 frzs:∀b o u,H b=some (.frz o u)→H' b=some (.frz o u)
 tbls:∀b ps,H b=some (.tbl ps)→∃more,H' b=some (.tbl (ps++more))
section
variable {fs fs' ex ex':List Addr} {H H1 H2:Hp} {h h1 h2 h':Heap} {a x e:Addr} {o:HO}
theorem Un.any (u:Un fs ex H H1 h h1) {b:Addr} {ob:Obj} (q:h.get? b=some ob) (n:H b=none) (hx:b∉ex):∃sl,h1.get? b=some {ob with slots:=sl}:=by
 by_cases hb:b∈fs
 ·exact u.slot b ob q n hb hx
 ·exact ⟨ob.slots,u.keep b ob q n hb hx⟩
theorem Un.kept (k:∀b u,h.get? b=some u→h'.get? b=some u):Un fs ex H H h h':=
 ⟨fun b ob q _ _ _=>k b ob q,fun b ob q _ _ _=>⟨ob.slots,k b ob q⟩,fun _ _ _ n _=>n,fun b ob q _=>⟨ob,k b ob q⟩,fun _ _ q=>q,fun _ _ _ q=>q,fun _ ps q=>⟨#[],by rw [q];simp⟩⟩
theorem Un.refl:Un fs ex H H h h:=Un.kept fun _ _ q=>q
theorem Un.laid (k:∀b u,h.get? b=some u→h'.get? b=some u) (hp:h.objs.size≤a) (hn:H a=none):Un fs ex H (Ah H a o) h h' where
 keep:=fun b u q _ _ _=>k b u q
 slot:=fun b u q _ _ _=>⟨u.slots,k b u q⟩
 free:=fun b u q n _=>by rw [Av (Bd (AX (Ax q) hp))];exact n
 there:=fun b u q _=>⟨u,k b u q⟩
 tups:=fun b xs q=>by rw [Av (Dj q hn)];exact q
 frzs:=fun b u xs q=>by rw [Av (Dj q hn)];exact q
 tbls:=fun b ps q=>⟨#[],by rw [Av (Dj q hn),q];simp⟩
theorem Un.write (mu:HL (H x)) (he:e=x∨H e=some (.own x)) (k:∀b u,b≠e→h.get? b=some u→h'.get? b=some u) (heo:∃u,h'.get? e=some u):Un fs ex H (Ah H x o) h h':=by
 have hx:∀b,H b=none→b≠x:=fun b n z=>by subst z;rw [n] at mu;exact mu
 have hb:∀b,H b=none→b≠e:=fun b n z=>by
  subst z
  rcases he with r |r
  ·exact hx b n r
  ·rw [n] at r;cases r
 have hm:∀b u,H b=some u→¬HL (some u)→b≠x:=fun b u q nm z=>by subst z;rw [q] at mu;exact nm mu
 refine ⟨fun b u q n _ _=>k b u (hb b n) q,fun b u q n _ _=>⟨u.slots,k b u (hb b n) q⟩,fun b u q n _=>by rw [Av (hx b n)];exact n,fun b u q _=>?_,
  fun b xs q=>by rw [Av (hm b _ q fun z=>z)];exact q,fun b u xs q=>by rw [Av (hm b _ q fun z=>z)];exact q,fun b ps q=>⟨#[],by rw [Av (hm b _ q fun z=>z),q];simp⟩⟩
 by_cases hbe:b=e
 ·subst hbe;exact heo
 ·exact ⟨u,k b u hbe q⟩
end
def HM (h:Heap) (H:Hp):List Addr:=(List.range h.objs.size).filter fun a=>(H a).isSome
def Dv (h:Heap) (H:Hp):Heap:=PySem.W.hideAll h (HM h H)
theorem S3 (h:Heap) (H:Hp):(Dv h H).objs.size=h.objs.size:=PySem.W.hideAll_size _ _
theorem S4 {h:Heap} {H:Hp} {b:Addr} {o:Obj} (e:h.get? b=some o) (n:H b=none):(Dv h H).get? b=some o:=
 PySem.W.hideAll_get _ e fun hm=>by
  have q:(H b).isSome=true:=(qaY.mp hm).2
  rw [n] at q;simp at q
theorem S5 {h:Heap} {H:Hp} {b:Addr} {o:Obj} (e:(Dv h H).get? b=some o):h.get? b=some o∧H b=none:=by
 have e':h.get? b=some o:=PySem.W.of_hideAll (HM h H) e
 refine ⟨e',?_⟩
 cases q:H b with
 |none=>rfl
 |some x=>
  have hm:b∈HM h H:=qaY.mpr ⟨qbN.mpr (Ax e'),by simp [q]⟩
  have z:(Dv h H).get? b=none:=PySem.W.hideAll_none (HM h H) hm
  rw [z] at e;cases e
def S6 (g h:Heap) (L:Addr):List (Addr×Obj):=(List.range h.objs.size).filterMap fun a=>if a=L∨(g.get? a).isSome=true then none else (h.get? a).map fun o=>(a,o)
def rest (g h:Heap) (L d:Addr):List (Addr×Obj):=(S6 g h L).filter fun p=>decide (p.1≠d)
structure Mod (K:PySem.W.Frag) (mg:Str→Option Value) (base:Heap):Prop where
 kin:K.In base
 glob:base.Ns mainGlobals mg
 blt:∃mb,base.Ns builtinsNs mb∧∀x:Str,x≠"__name__"→mb x=bootBuiltins x
 nolimit:base.NoLimit
structure Cx where
 prog:Program
 w:World
 K:PySem.W.Frag
 mg:Str→Option Value
 base:Heap
 A:Around
 N:List Str
 s₀:Shared
 H₀:Hp
 env:Env
 outer:List Env
 stack:List Env
 ex:List Addr
 fn:Str→Bool
 calm:Bool
 pn:List (Addr×Obj)
 xe:Value→Shared→Prop
def frs (l:List Env):List Addr:=l.filterMap (·.frame)
abbrev Cx.fs (X:Cx):List Addr:=frs X.outer
def HN (sc:Scope) (x:Str):Prop:=sc.names.lookup x=some .local∨sc.names.lookup x=some .cell∨sc.names.lookup x=some .free
def GJ (sc:Scope) (x:Str):Prop:=sc.names.lookup x=some .local∨sc.names.lookup x=some .cell
def M9 (env:Env) (h:Heap) (m:Str→Option Value) (x:Str) (u:Value):Prop:=
 (env.kindOf x=some .local∧m x=some u)∨((env.kindOf x=some .cell∨env.kindOf x=some .free)∧∃c,env.cells.lookup x=some c∧h.IsCell c (some u))
structure Cx.Ok (X:Cx):Prop where
 mod:Mod X.K X.mg X.base
 kind:X.env.scope.kind=.function
 glob:X.env.globals=mainGlobals
 blt:X.env.builtins=builtinsNs
 above:X.s₀.heap.objs.size≤X.env.locals
 inj:∀x y c,X.env.cells.lookup x=some c→X.env.cells.lookup y=some c→x=y
 has:∀x,(X.env.kindOf x=some .cell∨X.env.kindOf x=some .free)→∃c,X.env.cells.lookup x=some c
 cab:∀x c,X.fn x=true→X.env.cells.lookup x=some c→X.s₀.heap.objs.size≤c
 hd:X.calm=true→X.A.handled=none
 frames:X.A.frames=some X.stack
 stk:X.stack=X.outer∨(X.stack=X.env::X.outer∧X.env.frame=some X.env.locals)
 exf:∀b∈X.ex,b≠X.env.locals∧∀x c,X.env.cells.lookup x=some c→c≠b
 bs:∀b o,X.base.get? b=some o→X.s₀.heap.get? b=some o∧X.H₀ b=none
 bsz:X.base.objs.size≤X.s₀.heap.objs.size
 noex:∀b o,X.base.get? b=some o→b∉X.ex
 exfs:∀b∈X.ex,b∉X.fs
 funs:X.s₀.heap.FunFrames X.base X.outer
 frf:∀b∈X.fs,X.H₀ b=none
structure Inv (X:Cx) (pins:List (Addr×Obj)) (σ:List (Option V)) (H:Hp) (s:Shared):Prop where
 ok:X.Ok
 os:s.os=X.s₀.os
 bare:AllBare s.gens
 base:Un X.fs X.ex X.H₀ H X.s₀.heap s.heap
 loc:∃m,s.heap.Ns X.env.locals m∧∀(i:Nat) (x:Str) (v:V),X.N[i]?=some x→σ[i]?=some (some v)→HN X.env.scope x→∃u,RelV v u∧M9 X.env s.heap m x u
 cell:∀x c,X.env.cells.lookup x=some c→∃v,s.heap.IsCell c v
 free:H X.env.locals=none
 freeC:∀x c,X.env.cells.lookup x=some c→H c=none
 pin:∀p∈X.pn++pins,s.heap.get? p.1=some p.2∧H p.1=none∧p.1≠X.env.locals∧p.1∉X.fs∧∀v,p.2.data≠.cell v
 hok:HOk X.prog X.w H s.heap
 len:σ.length=X.N.length
section
variable {X:Cx} {pins:List (Addr×Obj)} {σ:List (Option V)} {H H':Hp} {s:Shared} {h':Heap}
theorem Cx.Ok.nofr (ok:X.Ok) {b:Addr} {o:Obj} (e:X.base.get? b=some o):b∉X.fs:=fun hb=>by
 have:=(ok.funs.mem hb).1
 rw [e] at this;cases this
theorem Inv.bs (I:Inv X pins σ H s):∀b o,X.base.get? b=some o→s.heap.get? b=some o∧H b=none:=fun b o e=>
 ⟨I.base.keep b o (I.ok.bs b o e).1 (I.ok.bs b o e).2 (I.ok.nofr e) (I.ok.noex b o e),I.base.free b o (I.ok.bs b o e).1 (I.ok.bs b o e).2 (I.ok.noex b o e)⟩
theorem Inv.bk (I:Inv X pins σ H s):∀b o,X.base.get? b=some o→s.heap.get? b=some o:=fun b o e=>(I.bs b o e).1
theorem Inv.mod (I:Inv X pins σ H s):Mod X.K X.mg X.base:=I.ok.mod
theorem Inv.kIn (I:Inv X pins σ H s):X.K.In s.heap:=I.ok.mod.kin.keeps I.bk
theorem Inv.nolimit (I:Inv X pins σ H s):s.heap.NoLimit:=I.ok.mod.nolimit.keeps I.bk
theorem Inv.lt (I:Inv X pins σ H s):X.env.locals<s.heap.objs.size:=let ⟨_,hn,_⟩:=I.loc;hn.lt
theorem Inv.sz (I:Inv X pins σ H s):X.s₀.heap.objs.size≤s.heap.objs.size:=BB I.ok.above (DR I.lt)
theorem Inv.nofs (I:Inv X pins σ H s) {a:Addr} (h:s.heap.objs.size≤a):a∉X.fs:=fun hb=>by
 obtain ⟨_,o,ho,_⟩:=I.ok.funs.mem hb
 exact absurd (AX (Ax ho) (BB I.sz h)) (B1 _)
theorem Inv.cne (I:Inv X pins σ H s):∀x c,X.env.cells.lookup x=some c→c≠X.env.locals:=fun x c e z=>by
 obtain ⟨v,o,ho,hd⟩:=I.cell x c e
 obtain ⟨m,⟨o',es,ep,ho',hd',_⟩,_⟩:=I.loc
 rw [z,ho'] at ho;cases ho;rw [hd'] at hd;cases hd
theorem Inv.funs (I:Inv X pins σ H s):s.heap.FunFrames X.base X.outer:=by
 have all:∀(l:List Env),(∀b∈frs l,b∈X.fs)→X.s₀.heap.FunFrames X.base l→s.heap.FunFrames X.base l:=by
  intro l
  induction l with
  |nil=>intro _ _;trivial
  |cons env r ih=>
   intro hs hl
   obtain ⟨hk,⟨L,o,hf,hn,ho,hd⟩,hr⟩:=hl
   have hL:L∈X.fs:=hs L (by unfold frs;rw [Fx,hf];exact AU)
   obtain ⟨sl,e⟩:=I.base.slot L o ho (I.ok.frf L hL) hL fun z=>I.ok.exfs L z hL
   exact ⟨hk,⟨L,_,hf,hn,e,hd⟩,ih (fun b hb=>hs b (by unfold frs;rw [Fx,hf];exact AV _ hb)) hr⟩
 exact all X.outer (fun _ hb=>hb) I.ok.funs
theorem Inv.stack (I:Inv X pins σ H s):s.heap.FunFrames X.base X.stack:=by
 rcases I.ok.stk with e |⟨e,hf⟩
 ·rw [e];exact I.funs
 ·rw [e]
  obtain ⟨m,hn,_⟩:=I.loc
  refine .cons (by rw [I.ok.kind];decide) hf hn ?_ I.funs
  exact Heap.get?_none_of_le (BB I.ok.bsz I.ok.above)
theorem Inv.stkSub (I:Inv X pins σ H s):∀b∈frs X.stack,b∈X.env.locals::X.fs:=fun b hb=>by
 rcases I.ok.stk with e |⟨e,hf⟩
 ·rw [e] at hb;exact AV _ hb
 ·rw [e] at hb
  unfold frs at hb
  rw [Fx,hf] at hb
  exact hb
theorem Inv.stkFree (I:Inv X pins σ H s):∀b∈frs X.stack,H b=none:=fun b hb=>by
 rcases qa4.mp (I.stkSub b hb) with e |hb
 ·rw [e];exact I.free
 ·obtain ⟨_,o,ho,_⟩:=I.ok.funs.mem hb
  exact I.base.free b o ho (I.ok.frf b hb) fun z=>I.ok.exfs b z hb
theorem Inv.step {g':Array GenState} {t':Nat} {d':Drawn} {ch:List Addr} (I:Inv X pins σ H s)
 (hch:∀b∈ch,(b∈X.ex∨X.s₀.heap.objs.size≤b)∧b≠X.env.locals∧(∀x c,X.env.cells.lookup x=some c→c≠b)∧∀p∈X.pn++pins,p.1≠b)
 (keep:∀b o,b≠X.env.locals→b∉X.fs→b∉ch→s.heap.get? b=some o→H b=none→h'.get? b=some o)
 (slot:∀b o,b≠X.env.locals→b∈X.fs→b∉ch→s.heap.get? b=some o→H b=none→∃sl,h'.get? b=some {o with slots:=sl}) (free:∀b o,b∉ch→s.heap.get? b=some o→H b=none→H' b=none)
 (there:∀b o,b∉ch→s.heap.get? b=some o→∃o',h'.get? b=some o')
 (tups:∀b xs,H b=some (.tup xs)→H' b=some (.tup xs)) (frzs:∀b o u,H b=some (.frz o u)→H' b=some (.frz o u)) (tbls:∀b ps,H b=some (.tbl ps)→∃more,H' b=some (.tbl (ps++more)))
 (ns:∀m,s.heap.Ns X.env.locals m→h'.Ns X.env.locals m) (hok:HOk X.prog X.w H' h') (hg:AllBare g'):
 Inv X pins σ H' {s with heap:=h',gens:=g',drawn:=d',toks:=t'}:=by
 have neL:∀b o,X.s₀.heap.get? b=some o→b≠X.env.locals:=fun b o e=>Bd (AX (Ax e) I.ok.above)
 have neC:∀b o,X.s₀.heap.get? b=some o→b∉X.ex→b∉ch:=fun b o e hx hb=>by
  rcases (hch b hb).1 with z |z
  ·exact hx z
  ·exact absurd (AX (Ax e) z) (B1 _)
 have cellK:∀x c,X.env.cells.lookup x=some c→∀v,s.heap.IsCell c v→h'.IsCell c v:=fun x c e v z1_=>by
  obtain ⟨o,ho,hd⟩:=z1_
  have nch:c∉ch:=fun z=>(hch c z).2.2.1 x c e rfl
  by_cases hc:c∈X.fs
  ·obtain ⟨sl,q⟩:=slot c o (I.cne x c e) hc nch ho (I.freeC x c e)
   exact ⟨_,q,hd⟩
  ·exact ⟨o,keep c o (I.cne x c e) hc nch ho (I.freeC x c e),hd⟩
 refine ⟨I.ok,I.os,hg,⟨fun b o e n hb hx=>?_,fun b o e n hb hx=>?_,fun b o e n hx=>?_,fun b o e hx=>?_,fun b xs e=>tups b xs (I.base.tups b xs e),fun b o xs e=>frzs b o xs (I.base.frzs b o xs e),fun b ps e=>?_⟩,?_,fun x c e=>?_,?_,fun x c e=>?_,fun p hp=>?_,hok,I.len⟩
 ·exact keep b o (neL b o e) hb (neC b o e hx) (I.base.keep b o e n hb hx) (I.base.free b o e n hx)
 ·obtain ⟨sl,e1⟩:=I.base.slot b o e n hb hx
  obtain ⟨sl',e2⟩:=slot b _ (neL b o e) hb (neC b o e hx) e1 (I.base.free b o e n hx)
  exact ⟨sl',e2⟩
 ·obtain ⟨o',e1⟩:=I.base.there b o e hx
  exact free b o' (neC b o e hx) e1 (I.base.free b o e n hx)
 ·obtain ⟨o',e1⟩:=I.base.there b o e hx
  exact there b o' (neC b o e hx) e1
 ·obtain ⟨m1,e1⟩:=I.base.tbls b ps e
  obtain ⟨m2,e2⟩:=tbls b _ e1
  exact ⟨m1++m2,by rw [e2,Array.append_assoc]⟩
 ·obtain ⟨m,hn,hl⟩:=I.loc
  refine ⟨m,ns m hn,fun i x v e1 e2 e3=>?_⟩
  obtain ⟨u,r,l⟩:=hl i x v e1 e2 e3
  refine ⟨u,r,?_⟩
  rcases l with l |⟨k,c,e,z⟩
  ·exact .inl l
  ·exact .inr ⟨k,c,e,cellK x c e _ z⟩
 ·obtain ⟨v,z⟩:=I.cell x c e
  exact ⟨v,cellK x c e v z⟩
 ·obtain ⟨m,⟨o,_,_,ho,_⟩,_⟩:=I.loc
  exact free _ o (fun z=>(hch _ z).2.1 rfl) ho I.free
 ·obtain ⟨v,o,ho,hd⟩:=I.cell x c e
  exact free c o (fun z=>(hch c z).2.2.1 x c e rfl) ho (I.freeC x c e)
 ·obtain ⟨e,n,ne,nf,d⟩:=I.pin p hp
  have nch:p.1∉ch:=fun z=>(hch p.1 z).2.2.2 p hp rfl
  exact ⟨keep p.1 p.2 ne nf nch e n,free p.1 p.2 nch e n,ne,nf,d⟩
theorem Inv.un {t':Nat} (I:Inv X pins σ H s) (u:Un X.fs [] H H' s.heap h') (hok:HOk X.prog X.w H' h'):Inv X pins σ H' {s with heap:=h',toks:=t'}:=by
 obtain ⟨m,⟨o,es,ep,ho,r⟩,_⟩:=id I.loc
 obtain ⟨sl,hL⟩:=u.any ho I.free (by simp)
 exact I.step (g':=s.gens) (d':=s.drawn) (ch:=[]) (fun _ z=>nomatch z) (fun b o _ hb _ e n=>u.keep b o e n hb (by simp)) (fun b o _ hb _ e n=>u.slot b o e n hb (by simp)) (fun b o _ e n=>u.free b o e n (by simp)) (fun b o _ e=>u.there b o e (by simp)) u.tups u.frzs u.tbls (fun m' hm=>by
  obtain ⟨o',es',ep',ho',r'⟩:=hm
  rw [ho] at ho';cases ho'
  exact ⟨_,es',ep',hL,r'⟩) hok I.bare
theorem Inv.call {g':Array GenState} {t':Nat} {d':Drawn} {ch:List Addr} (I:Inv X pins σ H s) (u:Un (frs X.stack) ch H H' s.heap h') (hok:HOk X.prog X.w H' h') (hg:AllBare g')
 (hch:∀b∈ch,(b∈X.ex∨X.s₀.heap.objs.size≤b)∧b≠X.env.locals∧(∀x c,X.env.cells.lookup x=some c→c≠b)∧∀p∈X.pn++pins,p.1≠b):
 Inv X pins σ H' {s with heap:=h',gens:=g',drawn:=d',toks:=t'}:=by
 obtain ⟨m,⟨o,es,ep,ho,r⟩,_⟩:=id I.loc
 obtain ⟨sl,hL⟩:=u.any ho I.free fun z=>(hch _ z).2.1 rfl
 exact I.step (ch:=ch) hch (fun b o hL hb hc e n=>u.keep b o e n (fun z=>(qa4.mp (I.stkSub b z)).elim hL hb) hc) (fun b o _ _ hc e n=>u.any e n hc) (fun b o hc e n=>u.free b o e n hc) (fun b o hc e=>u.there b o e hc) u.tups u.frzs u.tbls (fun m' hm=>by
  obtain ⟨o',es',ep',ho',r'⟩:=hm
  rw [ho] at ho';cases ho'
  exact ⟨_,es',ep',hL,r'⟩) hok hg
theorem Inv.turned {t':Nat} {it:Addr} (I:Inv X pins σ H s) (k:∀b o,b≠it→s.heap.get? b=some o→h'.get? b=some o) (hn:H it=none) (hL:it≠X.env.locals)
 (h1:it∈X.ex∨X.s₀.heap.objs.size≤it) (h2:∀x c,X.env.cells.lookup x=some c→c≠it) (h3:∀p∈X.pn++pins,p.1≠it):Inv X pins σ H {s with heap:=h',toks:=t'}:=by
 have nit:∀b u,H b=some u→b≠it:=fun b u e z=>by rw [z,hn] at e;cases e
 refine I.step (g':=s.gens) (d':=s.drawn) (ch:=[it]) (fun b hb=>?_) (fun b o _ _ hc e _=>k b o (fun z=>hc (by simp [z])) e) (fun b o _ _ hc e _=>⟨o.slots,k b o (fun z=>hc (by simp [z])) e⟩) (fun _ _ _ _ n=>n)
  (fun b o hc e=>⟨o,k b o (fun z=>hc (by simp [z])) e⟩) (fun _ _ e=>e) (fun _ _ _ e=>e) (fun b ps e=>⟨#[],by rw [e];simp⟩) (fun m hm=>?_) (fun b u e=>?_) I.bare
 ·have e:b=it:=by simpa using hb
  subst e
  exact ⟨h1,hL,h2,h3⟩
 ·obtain ⟨o,es,ep,ho,r⟩:=hm
  exact ⟨o,es,ep,k _ o (Ne.symm hL) ho,r⟩
 ·refine (I.hok b u e).stay (fun c v hc q=>k c v ?_ q) (fun _ q=>q) fun _ _ q=>q
  rcases hc with z |z
  ·rw [z];exact nit b u e
  ·exact nit c _ z
theorem Inv.tok (I:Inv X pins σ H s) (t:Nat):Inv X pins σ H {s with toks:=t}:=I.un (h':=s.heap) (t':=t) Un.refl I.hok
theorem Inv.kept {t':Nat} (I:Inv X pins σ H s) (k:∀b u,s.heap.get? b=some u→h'.get? b=some u):Inv X pins σ H {s with heap:=h',toks:=t'}:=I.un (Un.kept k) (I.hok.kept k)
theorem Inv.laid {a:Addr} {o:HO} {t':Nat} (I:Inv X pins σ H s) (k:∀b u,s.heap.get? b=some u→h'.get? b=some u) (hp:s.heap.objs.size≤a) (new:ObjOk X.prog X.w (Ah H a o) h' a o):
 Inv X pins σ (Ah H a o) {s with heap:=h',toks:=t'}:=I.un (Un.laid k hp (I.hok.fresh hp)) (I.hok.laid k hp new)
theorem Inv.write {x e:Addr} {o:HO} {t':Nat} (I:Inv X pins σ H s) (mu:HL (H x)) (he:e=x∨H e=some (.own x)) (k:∀b u,b≠e→s.heap.get? b=some u→h'.get? b=some u) (heo:∃u,h'.get? e=some u)
 (new:ObjOk X.prog X.w (Ah H x o) h' x o):Inv X pins σ (Ah H x o) {s with heap:=h',toks:=t'}:=I.un (Un.write mu he k heo) (I.hok.write mu he k heo new)
theorem Inv.weak {σ':List (Option V)} (I:Inv X pins σ H s) (hl:σ'.length=σ.length) (w:∀(i:Nat) v,σ'[i]?=some (some v)→σ[i]?=some (some v)):Inv X pins σ' H s:=
 ⟨I.ok,I.os,I.bare,I.base,let ⟨m,hn,hl'⟩:=I.loc;⟨m,hn,fun i x v e1 e2 e3=>hl' i x v e1 (w i v e2) e3⟩,I.cell,I.free,I.freeC,I.pin,I.hok,hl.trans I.len⟩
theorem Inv.pins_of {pins':List (Addr×Obj)} (I:Inv X pins σ H s) (h:∀p∈pins',s.heap.get? p.1=some p.2∧H p.1=none∧p.1≠X.env.locals∧p.1∉X.fs∧∀v,p.2.data≠.cell v):Inv X pins' σ H s:=
 ⟨I.ok,I.os,I.bare,I.base,I.loc,I.cell,I.free,I.freeC,fun p hp=>(qaW.mp hp).elim (fun z=>I.pin p (Gz _ z)) (h p),I.hok,I.len⟩
theorem Ko {N:List Str} (hN:N.Nodup) {i j:Nat} {x:Str} (a:N[i]?=some x) (b:N[j]?=some x):i=j:=by
 obtain ⟨h1,e1⟩:=qa1.mp a
 obtain ⟨h2,e2⟩:=qa1.mp b
 exact (List.getElem_inj hN).mp (e1.trans e2.symm)
theorem Kq {M:Model} {A:Around} {E:Value→Shared→Prop} {i:Nat} {x:Str} {v:V} {u:Value} {Q:Unit→Shared→Prop} (I:Inv X pins σ H s) (hN:X.N.Nodup) (hi:X.N[i]?=some x) (hx:GJ X.env.scope x) (r:RelV v u)
 (h:∀s',Inv X pins (σ.set i (some v)) H s'→(∃a,Heap.SameBut a s.heap s'.heap∧(a=X.env.locals∨X.env.cells.lookup x=some a))→Q () s') (hf:X.fn x=true∨X.env.scope.names.lookup x=some .local:=by first |exact .inl rfl |exact .inr rfl |assumption):wpAny M A (storeName X.env x u) Q E s:=by
 obtain ⟨m,hn,hl⟩:=id I.loc
 have hcls:(X.env.scope.kind==.class||(X.env.scope.kind==.module&&X.env.locals != X.env.globals))=false:=by rw [I.ok.kind];rfl
 have hiσ:i < σ.length:=by rw [I.len];exact (qa1.mp hi).1
 have cne:=I.cne
 have tracked:∀{a:Addr} {h':Heap},(∃o,s.heap.get? a=some o∧H a=none)→Heap.SameBut a s.heap h'→HOk X.prog X.w H h':=fun {a h'} ha hs b ob e=>by
  obtain ⟨_,_,hfree⟩:=ha
  refine (I.hok b ob e).stay (fun c w' hc q=>(hs.2 c ?_).trans q) (fun _ q=>q) fun _ _ q=>q
  rintro rfl
  rcases hc with rfl |hc
  ·rw [hfree] at e;cases e
  ·rw [hfree] at hc;cases hc
 rcases hx with hk |hk
 ·refine wpAny_storeName_local hk hn (fun h' hn' hs=>?_) hcls
  obtain ⟨oL,_,_,hoL,_⟩:=id hn
  refine h _ ⟨I.ok,I.os,I.bare,⟨fun b o e n hb hx=>?_,fun b o e n hb hx=>?_,I.base.free,fun b o e hx=>?_,I.base.tups,I.base.frzs,I.base.tbls⟩,⟨_,hn',fun j y v' e1 e2 e3=>?_⟩,fun y c e=>?_,I.free,I.freeC,fun p hp=>?_,tracked ⟨oL,hoL,I.free⟩ hs,by simpa using I.len⟩ ⟨_,hs,.inl rfl⟩
  ·exact (hs.2 b (Bd (AX (Ax e) I.ok.above))).trans (I.base.keep b o e n hb hx)
  ·obtain ⟨sl,e1⟩:=I.base.slot b o e n hb hx
   exact ⟨sl,(hs.2 b (Bd (AX (Ax e) I.ok.above))).trans e1⟩
  ·obtain ⟨o',e1⟩:=I.base.there b o e hx
   exact ⟨o',(hs.2 b (Bd (AX (Ax e) I.ok.above))).trans e1⟩
  ·by_cases hj:j=i
   ·subst hj
    rw [hi] at e1;cases e1
    rw [BV hiσ] at e2
    cases e2
    exact ⟨u,r,.inl ⟨hk,by simp⟩⟩
   ·rw [Bj (Ne.symm hj)] at e2
    obtain ⟨u',r',q⟩:=hl j y v' e1 e2 e3
    refine ⟨u',r',?_⟩
    rcases q with ⟨k,e⟩ |⟨k,c,e,z⟩
    ·refine .inl ⟨k,?_⟩
     have:y≠x:=fun e=>hj (Ko hN e1 (e ▸ hi))
     simp [this,e]
    ·exact .inr ⟨k,c,e,z.sameBut hs (cne y c e)⟩
  ·obtain ⟨w',z⟩:=I.cell y c e
   exact ⟨w',z.sameBut hs (cne y c e)⟩
  ·obtain ⟨e,n,ne,nf,d⟩:=I.pin p hp
   exact ⟨(hs.2 p.1 ne).trans e,n,ne,nf,d⟩
 ·have hfn:X.fn x=true:=by
   rcases hf with z |z
   ·exact z
   ·rw [z] at hk;cases hk
  obtain ⟨c,hc⟩:=I.ok.has x (.inl hk)
  obtain ⟨w',z⟩:=I.cell x c hc
  refine wpAny_storeName_cell I.ok.kind hk hc z (fun h' hc' hs=>?_)
  obtain ⟨oc,hoc,hocd⟩:=id z
  refine h {s with heap:=h'} ⟨I.ok,I.os,I.bare,⟨fun b o e n hb hx=>?_,fun b o e n hb hx=>?_,I.base.free,fun b o e hx=>?_,I.base.tups,I.base.frzs,I.base.tbls⟩,⟨m,hn.sameBut hs (Ne.symm (cne x c hc)),fun j y v' e1 e2 e3=>?_⟩,fun y c' e=>?_,I.free,I.freeC,fun p hp=>?_,tracked ⟨oc,hoc,I.freeC x c hc⟩ hs,by simpa using I.len⟩ ⟨c,hs,.inr hc⟩
  ·exact (hs.2 b (Bd (AX (Ax e) (I.ok.cab x c hfn hc)))).trans (I.base.keep b o e n hb hx)
  ·obtain ⟨sl,e1⟩:=I.base.slot b o e n hb hx
   exact ⟨sl,(hs.2 b (Bd (AX (Ax e) (I.ok.cab x c hfn hc)))).trans e1⟩
  ·obtain ⟨o',e1⟩:=I.base.there b o e hx
   exact ⟨o',(hs.2 b (Bd (AX (Ax e) (I.ok.cab x c hfn hc)))).trans e1⟩
  ·by_cases hj:j=i
   ·subst hj
    rw [hi] at e1;cases e1
    rw [BV hiσ] at e2
    cases e2
    exact ⟨u,r,.inr ⟨.inl hk,c,hc,hc'⟩⟩
   ·rw [Bj (Ne.symm hj)] at e2
    obtain ⟨u',r',q⟩:=hl j y v' e1 e2 e3
    refine ⟨u',r',?_⟩
    rcases q with q |⟨k,c',e,z'⟩
    ·exact .inl q
    ·refine .inr ⟨k,c',e,z'.sameBut hs ?_⟩
     rintro rfl
     exact hj (Ko hN e1 (I.ok.inj _ _ _ e hc ▸ hi))
  ·by_cases hcc:c'=c
   ·subst hcc;exact ⟨_,hc'⟩
   ·obtain ⟨w2,z2⟩:=I.cell y c' e
    exact ⟨w2,z2.sameBut hs hcc⟩
  ·obtain ⟨e,n,ne,nf,d⟩:=I.pin p hp
   refine ⟨(hs.2 p.1 ?_).trans e,n,ne,nf,d⟩
   intro q
   rw [q,hoc] at e
   have q':oc=p.2:=Option.some.inj e
   exact d w' (by rw [←q'];exact hocd)
theorem HP {M:Model} {A:Around} {E:Value→Shared→Prop} {i:Nat} {x:Str} {v:V} {u:Value} {Q:Unit→Shared→Prop} (I:Inv X pins σ H s) (hN:X.N.Nodup) (hi:X.N[i]?=some x) (hx:GJ X.env.scope x) (r:RelV v u)
 (h:∀s',Inv X pins (σ.set i (some v)) H s'→Q () s') (hf:X.fn x=true∨X.env.scope.names.lookup x=some .local:=by first |exact .inl rfl |exact .inr rfl |assumption):wpAny M A (storeName X.env x u) Q E s:=
 Kq I hN hi hx r (fun s' I' _=>h s' I') hf
theorem Inv.call' {s':Shared} {ch:List Addr} (I:Inv X pins σ H s) (ho:s'.os=s.os) (u:Un (frs X.stack) ch H H' s.heap s'.heap) (hok:HOk X.prog X.w H' s'.heap) (hg:AllBare s'.gens)
 (hch:∀b∈ch,(b∈X.ex∨X.s₀.heap.objs.size≤b)∧b≠X.env.locals∧(∀x c,X.env.cells.lookup x=some c→c≠b)∧∀p∈X.pn++pins,p.1≠b):Inv X pins σ H' s':=by
 obtain ⟨h',g',d',t',o'⟩:=s'
 have e:o'=s.os:=ho
 subst e
 exact I.call (g':=g') (t':=t') (d':=d') u hok hg hch
end
abbrev XK:=Value→Option Addr→Hp→Prop
abbrev St:=List (Option V)
abbrev VK:=V→Hp→Prop
abbrev TE:=St→Hp→VK→Prop
abbrev TT:=St→Hp→(Bool→Hp→Prop)→Prop
abbrev TA:=St→Hp→(List V→Hp→Prop)→Prop
structure CO where
 nx:St→Hp→Prop
 rt:VK
 bk:St→Hp→Prop:=fun _ _=>False
 ct:St→Hp→Prop:=fun _ _=>False
abbrev TS:=CO→St→Hp→Prop
inductive EP (X:Cx) (pins:List (Addr×Obj)) (σ:St) (Q:VK) (u:Value) (s':Shared):Prop where
 |mk (v:V) (H':Hp) (i:Inv X pins σ H' s') (r:RelV v u) (q:Q v H'):EP X pins σ Q u s'
inductive TP (X:Cx) (pins:List (Addr×Obj)) (σ:St) (Q:Bool→Hp→Prop) (b:Bool) (s':Shared):Prop where
 |mk (H':Hp) (i:Inv X pins σ H' s') (q:Q b H'):TP X pins σ Q b s'
inductive AP (X:Cx) (pins:List (Addr×Obj)) (σ:St) (Q:List V→Hp→Prop) (us:List Value) (s':Shared):Prop where
 |mk (vs:List V) (H':Hp) (i:Inv X pins σ H' s') (r:Vals vs us) (q:Q vs H'):AP X pins σ Q us s'
inductive SN (X:Cx) (pins:List (Addr×Obj)) (q:St→Hp→Prop) (s':Shared):Prop where
 |mk (σ':St) (H':Hp) (i:Inv X pins σ' H' s') (p:q σ' H'):SN X pins q s'
inductive SR (X:Cx) (pins:List (Addr×Obj)) (q:V→Hp→Prop) (u:Value) (s':Shared):Prop where
 |mk (v:V) (σ':St) (H':Hp) (i:Inv X pins σ' H' s') (r:RelV v u) (p:q v H'):SR X pins q u s'
def SP (X:Cx) (pins:List (Addr×Obj)) (D:CO) (f:Flow) (s':Shared):Prop:=
 match f with
 |.next=>SN X pins D.nx s'
 |.brk=>SN X pins D.bk s'
 |.cont=>SN X pins D.ct s'
 |.ret u=>SR X pins D.rt u s'
def PE (X:Cx) (e:Expr) (t:TE):Prop:=
 ∀(pins:List (Addr×Obj)) (s:Shared) (σ:St) (H:Hp) (Q:VK),Inv X pins σ H s→t σ H Q→wpAny (model X.prog X.w) X.A (eval e X.env) (EP X pins σ Q) X.xe s
def PT (X:Cx) (e:Expr) (t:TT):Prop:=
 ∀(pins:List (Addr×Obj)) (s:Shared) (σ:St) (H:Hp) (Q:Bool→Hp→Prop),Inv X pins σ H s→t σ H Q→wpAny (model X.prog X.w) X.A (isTrue e X.env (eval e X.env)) (TP X pins σ Q) X.xe s
def PW (X:Cx) (e:Expr) (t:TT):Prop:=
 ∀(DG:Sem Value) (pins:List (Addr×Obj)) (s:Shared) (σ:St) (H:Hp) (Q:Bool→Hp→Prop),Inv X pins σ H s→t σ H Q→wpAny (model X.prog X.w) X.A (isTrue e X.env DG) (TP X pins σ Q) X.xe s
theorem PW.pt {X:Cx} {e:Expr} {t:TT} (h:PW X e t):PT X e t:=h _
def PA (X:Cx) (es:List Expr) (t:TA):Prop:=
 ∀(pos:Pos) (pins:List (Addr×Obj)) (s:Shared) (σ:St) (H:Hp) (Q:List V→Hp→Prop),Inv X pins σ H s→t σ H Q→wpAny (model X.prog X.w) X.A (spliced (backTo pos (starEach es X.env))) (AP X pins σ Q) X.xe s
def PS (X:Cx) (st:Stmt) (t:TS):Prop:=
 ∀(pins:List (Addr×Obj)) (s:Shared) (σ:St) (H:Hp) (D:CO),Inv X pins σ H s→t D σ H→wpAny (model X.prog X.w) X.A (exec st X.env) (SP X pins D) X.xe s
def Cw (X:Cx) (st:List Stmt) (t:TS):Prop:=
 ∀(pins:List (Addr×Obj)) (s:Shared) (σ:St) (H:Hp) (D:CO),Inv X pins σ H s→t D σ H→wpAny (model X.prog X.w) X.A (execs st X.env) (SP X pins D) X.xe s
theorem An {α:Type} {t:Sem α} {Q Q':α→Shared→Prop} {M:Model} {A:Around} {E:Value→Shared→Prop} {s:Shared} (h:wpAny M A t Q E s) (hQ:∀a s,Q a s→Q' a s):wpAny M A t Q' E s:=wpAny_mono h hQ fun _ _ x=>x
section
variable {X:Cx}
def Na (i:Nat):TE:=fun σ H Q=>∃v,σ[i]?=some (some v)∧Q v H
def tC (v:V):TE:=fun _ H Q=>Q v H
theorem Kr {i:Nat} {x:Str} {pos:Pos} (hN:X.N[i]?=some x) (hv:HN X.env.scope x) (hd:(x==("__debug__":Str))=false:=by decide) (hcd:(x==("__classdict__":Str))=false:=by decide):PE X (.Name x pos) (Na i):=by
 intro pins s σ H Q I h
 obtain ⟨v,e,h⟩:=h
 obtain ⟨m,hn,hl⟩:=I.loc
 obtain ⟨u,r,l⟩:=hl i x v hN e hv
 have Ay:EP X pins σ Q u s:=⟨v,H,I,r,h⟩
 rcases l with ⟨hk,hm⟩ |⟨hk,c,hc,hcell⟩
 ·exact wpAny_Name (wpAny_loadName_local I.ok.kind hk hn hm Ay) hd
 ·rcases hk with hk |hk
  ·exact wpAny_Name (wpAny_loadName_cell I.ok.kind hk hc hcell Ay) hd
  ·exact wpAny_Name (wpAny_loadName_free I.ok.kind hk hc hcell Ay hcd) hd
theorem Nb {i j pos}:PE X (.Constant (.int i) j pos) (tC (.int i)):=fun _ _ _ H _ I h=>wpAny_Constant_int ⟨.int i,H,I.tok _,⟨_,rfl⟩,h⟩
theorem S7 {b j pos}:PE X (.Constant (.bool b) j pos) (tC (.bl b)):=fun _ _ _ H _ I h=>Constant_bool ⟨.bl b,H,I,rfl,h⟩
theorem S8 {j pos}:PE X (.Constant .none j pos) (tC .non):=fun _ _ _ H _ I h=>Constant_none ⟨.non,H,I,rfl,h⟩
theorem S9 {x j pos}:PE X (.Constant (.str x) j pos) (tC (.str x)):=fun _ _ _ H _ I h=>Calls.Constant_str ⟨.str x,H,I.tok _,⟨_,rfl⟩,h⟩
def Gl (X:Cx) (x:Str):Prop:=X.env.kindOf x=some .globalImplicit
theorem FC {E:Value→Shared→Prop} {pins:List (Addr×Obj)} {s:Shared} {σ:St} {H:Hp} {x:Str} {u:Value} {pos:Pos} {Q:Value→Shared→Prop} (I:Inv X pins σ H s) (hg:Gl X x) (hm:X.mg x=some u) (h:Q u s)
 (hd:(x==("__debug__":Str))=false:=by decide):wpAny (model X.prog X.w) X.A (eval (.Name x pos) X.env) Q E s:=
 Calls.Name_function_global I.ok.kind hg (Calls.loadGlobal_global (by rw [I.ok.glob];exact I.mod.glob.keeps I.bk) hm h) hd
theorem HQ {E:Value→Shared→Prop} {pins:List (Addr×Obj)} {s:Shared} {σ:St} {H:Hp} {x:Str} {u:Value} {pos:Pos} {Q:Value→Shared→Prop} (I:Inv X pins σ H s) (hg:Gl X x) (hm:X.mg x=none) (hv:bootBuiltins x=some u) (h:Q u s)
 (hn:x≠"__name__":=by decide) (hd:(x==("__debug__":Str))=false:=by decide):wpAny (model X.prog X.w) X.A (eval (.Name x pos) X.env) Q E s:=by
 obtain ⟨mb,h1,h2⟩:=I.mod.blt
 exact Calls.Name_function_global I.ok.kind hg (Calls.loadGlobal_builtin (by rw [I.ok.glob];exact I.mod.glob.keeps I.bk) hm (by rw [I.ok.blt];exact h1.keeps I.bk) ((h2 x hn).trans hv) h) hd
theorem Nd {x:Str} {v:V} {u:Value} {pos:Pos} (hg:Gl X x) (hm:X.mg x=some u) (r:RelV v u) (hd:(x==("__debug__":Str))=false:=by decide):PE X (.Name x pos) (tC v):=
 fun _ _ _ H _ I h=>FC I hg hm ⟨v,H,I,r,h⟩ hd
theorem Ta {x:Str} {v:V} {u:Value} {pos:Pos} (hg:Gl X x) (hm:X.mg x=none) (hv:bootBuiltins x=some u) (r:RelV v u) (hn:x≠"__name__":=by decide) (hd:(x==("__debug__":Str))=false:=by decide):PE X (.Name x pos) (tC v):=
 fun _ _ _ H _ I h=>HQ I hg hm hv ⟨v,H,I,r,h⟩ hn hd
variable {a b:Expr} {ta tb:TE} {pos:Pos}
variable {tA tB':TT} {rest:List Expr}
def Tc (t u:TT):TT:=fun σ H Q=>t σ H fun c H1=>if c=true then Q true H1 else u σ H1 Q
def Td (t:TT):TT:=fun σ H Q=>t σ H fun c H1=>Q (!c) H1
theorem Te (ha:PT X a tA):PW X (.BoolOp .Or [a] pos) tA:=by
 intro wh pins s σ H Q I h
 refine isTrue_or (An (ha pins s σ H Q I h) fun c s1 e=>?_)
 cases c with
 |false=>exact isTrue_or_nil e
 |true=>exact e
theorem Tf (ha:PT X a tA) (hb:PW X (.BoolOp .Or (b::rest) pos) tB'):PW X (.BoolOp .Or (a::b::rest) pos) (Tc tA tB'):=by
 intro wh pins s σ H Q I h
 refine isTrue_or (An (ha pins s σ H _ I h) fun c s1 z9_=>?_)
 obtain ⟨H1,I1,q1⟩:=z9_
 cases c with
 |true=>exact ⟨H1,I1,q1⟩
 |false=>exact hb wh pins s1 σ H1 Q I1 q1
theorem Tg (ha:PT X a tA):PT X (.UnaryOp .Not a pos) (Td tA):=by
 intro pins s σ H Q I h
 exact isTrue_not (An (ha pins s σ H (fun c H1=>Q (!c) H1) I h) fun c s1 z=>by cases z with |mk H1 I1 q=>exact ⟨H1,I1,q⟩)
def Th (ta tb:TE):TE:=fun σ H Q=>ta σ H fun x H1=>∃c,x=.bl c∧if c=true then tb σ H1 Q else Q (.bl false) H1
def Zb3 (ta tb:TE):TE:=fun σ H Q=>ta σ H fun x H1=>∃c,x=.bl c∧if c=true then Q (.bl true) H1 else tb σ H1 Q
def Ti (ta:TE):TE:=fun σ H Q=>ta σ H fun x H1=>∃c,x=.bl c∧Q (.bl (!c)) H1
theorem Tj {op} {t:TE} (h:PE X a t):PE X (.BoolOp op [a] pos) t:=fun pins s σ H Q I hw=>BoolOp_one (h pins s σ H Q I hw)
theorem Tn (ha:PE X a ta) (hb:PE X (.BoolOp .And (b::rest) pos) tb):PE X (.BoolOp .And (a::b::rest) pos) (Th ta tb):=by
 intro pins s σ H Q I h
 refine BoolOp_and (An (ha pins s σ H _ I h) fun v s1 z10_=>?_)
 obtain ⟨x,H1,I1,r1,q1⟩:=z10_
 obtain ⟨c,rfl,q1⟩:=q1
 cases r1
 refine wpAny_truthy_bool ?_
 cases c with
 |true=>exact hb pins s1 σ H1 Q I1 q1
 |false=>exact ⟨.bl false,H1,I1,rfl,q1⟩
theorem To (ha:PE X a ta):PE X (.UnaryOp .Not a pos) (Ti ta):=by
 intro pins s σ H Q I h
 refine UnaryOp_ (An (ha pins s σ H _ I h) fun v s1 z12_=>?_)
 obtain ⟨x,H1,I1,r1,q1⟩:=z12_
 obtain ⟨c,rfl,q1⟩:=q1
 cases r1
 exact not_of (wpAny_truthy_bool ⟨.bl (!c),H1,I1,rfl,q1⟩)
def tIf (t:TT) (ta tb:TE):TE:=fun σ H Q=>t σ H fun c H1=>if c=true then ta σ H1 Q else tb σ H1 Q
end
def SqL (K:PySem.W.Frag) (H:Hp) (a:Addr) (xs:List V):Prop:=
 Rd H a (.lst xs)∨
  ∃(o:Obj) (its:Array Value) (n:Nat),K.lookup a=some o∧o.cls=.type "list"∧o.dict=none∧o.data=.seq its n∧its.size≤sizeLine∧Vals xs its.toList
def SqT (K:PySem.W.Frag) (H:Hp) (a:Addr) (xs:List V):Prop:=
 Rd H a (.tup xs)∨
  ∃(o:Obj) (its:Array Value) (n:Nat),K.lookup a=some o∧o.cls=.type "tuple"∧o.data=.seq its n∧its.size≤sizeLine∧Vals xs its.toList
def Tq:Value→Option V
 |.none=>some .non
 |.bool b=>some (.bl b)
 |.int i _=>some (.int i)
 |.str x _=>some (.str x)
 |.bytes b _=>some (.byt b)
 |.float b _=>some (.flt b)
 |.ref a=>some (.ref a)
 |.type n=>some (.ty n)
 |_=>none
theorem RelV.abs {x:V} {u:Value} (r:RelV x u):Tq u=some x:=by
 cases x with
 |non=>cases r;rfl
 |bl _=>cases r;rfl
 |int _=>obtain ⟨t,rfl⟩:=r;rfl
 |str _=>obtain ⟨t,rfl⟩:=r;rfl
 |byt _=>obtain ⟨t,rfl⟩:=r;rfl
 |flt _=>obtain ⟨t,rfl⟩:=r;rfl
 |ref _=>cases r;rfl
 |ty _=>cases r;rfl
theorem RelV.inj {x y:V} {u:Value} (r:RelV x u) (q:RelV y u):x=y:=Option.some.inj (r.abs.symm.trans q.abs)
theorem Vals.inj {xs ys:List V} {us:List Value} (h:Vals xs us) (g:Vals ys us):xs=ys:=by
 induction h generalizing ys with
 |nil=>cases g;rfl
 |cons r t ih=>cases g with |cons r' t'=>rw [r.inj r',ih t']
section
variable {X:Cx} {pins:List (Addr×Obj)} {σ:St} {H:Hp} {s:Shared} {a:Addr} {xs ys:List V}
theorem SqL.of {K:PySem.W.Frag} (h:H a=some (.lst xs)):SqL K H a xs:=.inl (.inl h)
theorem SqT.of {K:PySem.W.Frag} (h:H a=some (.tup xs)):SqT K H a xs:=.inl (.inl h)
theorem Inv.list (I:Inv X pins σ H s) (h:SqL X.K H a xs):∃its:List Value,Vals xs its∧PlainL s.heap a its.toArray∧xs.length≤sizeLine:=by
 rcases h with h |⟨o,its,n,hk,hc,hd,hs,hz,r⟩
 ·obtain ⟨z,its,n,r,e⟩:=h.ok I.hok
  exact ⟨its,r,⟨_,n,e,rfl,rfl,rfl⟩,z⟩
 ·refine ⟨its.toList,r,⟨o,n,I.kIn a o hk,hc,hd,by simpa using hs⟩,?_⟩
  have e:=r.length
  simp only [Array.length_toList] at e
  omega
theorem Inv.tuple (I:Inv X pins σ H s) (h:SqT X.K H a xs):∃its:List Value,Vals xs its∧IsTup s.heap a its.toArray∧xs.length≤sizeLine:=by
 rcases h with h |⟨o,its,n,hk,hc,hs,hz,r⟩
 ·obtain ⟨z,its,r,p,_⟩:=h.ok I.hok
  exact ⟨its,r,p,z⟩
 ·refine ⟨its.toList,r,⟨o,I.kIn a o hk,hc,n,by simpa using hs⟩,?_⟩
  have e:=r.length
  simp only [Array.length_toList] at e
  omega
theorem Inv.list_inj (I:Inv X pins σ H s) (h:SqL X.K H a xs) (h':SqL X.K H a ys):xs=ys:=by
 obtain ⟨its,r,⟨o,n,e,_,_,d⟩,_⟩:=I.list h
 obtain ⟨its',r',⟨o',n',e',_,_,d'⟩,_⟩:=I.list h'
 rw [e] at e';cases e'
 rw [d] at d'
 injection d' with d1 _
 have:its=its':=by simpa using congrArg Array.toList d1
 subst this
 exact r.inj r'
theorem Inv.tuple_inj (I:Inv X pins σ H s) (h:SqT X.K H a xs) (h':SqT X.K H a ys):xs=ys:=by
 obtain ⟨its,r,⟨o,e,_,n,d⟩,_⟩:=I.tuple h
 obtain ⟨its',r',⟨o',e',_,n',d'⟩,_⟩:=I.tuple h'
 rw [e] at e';cases e'
 rw [d] at d'
 injection d' with d1 _
 have:its=its':=by simpa using congrArg Array.toList d1
 subst this
 exact r.inj r'
end
section
variable {X:Cx} {pins:List (Addr×Obj)} {σ:St} {H:Hp} {s:Shared} {E:Value→Shared→Prop}
end
section
variable {X:Cx} {st:Stmt} {rest:List Stmt} {t u:TS} {e:Expr} {te:TE} {pos:Pos}
def Tr:TS:=fun D σ H=>D.nx σ H
def Tt (t u:TS):TS:=fun D σ H=>t {D with nx:=u D} σ H
theorem Tu:Cw X [] Tr:=fun _ _ σ H _ I h=>wpAny_execs_nil ⟨σ,H,I,h⟩
theorem Tv (h1:PS X st t) (h2:Cw X rest u):Cw X (st::rest) (Tt t u):=by
 intro pins s σ H D I h
 refine wpAny_execs_cons (An (h1 pins s σ H {D with nx:=u D} I h) fun f s1 q=>?_)
 cases f with
 |next=>
  obtain ⟨σ',H',I',q⟩:=q
  exact h2 pins s1 σ' H' D I' q
 |ret v=>exact q
 |brk=>exact q
 |cont=>exact q
theorem Tw (h1:PS X st t):Cw X [st] t:=by
 intro pins s σ H D I h
 refine wpAny_execs_cons (An (h1 pins s σ H D I h) fun f s1 q=>?_)
 cases f with
 |next=>exact wpAny_execs_nil q
 |ret v=>exact q
 |brk=>exact q
 |cont=>exact q
theorem Inv.quiet {pins:List (Addr×Obj)} {σ:St} {H:Hp} {s:Shared} (I:Inv X pins σ H s):interactive X.env=false:=by simp [interactive,I.ok.kind]
def Tx (te:TE):TS:=fun D σ H=>te σ H fun _ H1=>D.nx σ H1
theorem Tz (he:PE X e te) (hs:swapsWith e none pos.line X.env=pure false:=by rfl):PS X (.Expr e pos) (Tx te):=by
 intro pins s σ H D I h
 exact wpAny_Expr_any (An (he pins s σ H _ I h) fun v s1 z16_=>by obtain ⟨x,H1,I1,r1,q1⟩:=z16_;exact (⟨σ,H1,I1,q1⟩)) I.quiet hs
def TB (te:TE):TS:=fun D σ H=>te σ H D.rt
theorem TC (he:PE X e te):PS X (.Return (some e) pos) (TB te):=by
 intro pins s σ H D I h
 exact wpAny_Return_some (An (he pins s σ H _ I h) fun v s1 z17_=>by obtain ⟨x,H1,I1,r1,q1⟩:=z17_;exact (⟨x,σ,H1,I1,r1,q1⟩))
def TF (c:TT) (t u:TS):TS:=fun D σ H=>c σ H fun b H1=>if b=true then t D σ H1 else u D σ H1
theorem TH {c:Expr} {a b:List Stmt} {tc:TT} (hc:PT X c tc) (ha:Cw X a t) (hb:Cw X b u):PS X (.If c a b pos) (TF tc t u):=by
 intro pins s σ H D I h
 refine wpAny_If (An (hc pins s σ H _ I h) fun d s1 z18_=>?_)
 obtain ⟨H1,I1,q1⟩:=z18_
 cases d with
 |true=>exact ha pins s1 σ H1 D I1 q1
 |false=>exact hb pins s1 σ H1 D I1 q1
def TJ:TS:=fun _ _ _=>False
theorem TK {sts:List Stmt}:Cw X sts TJ:=fun _ _ _ _ _ _ h=>h.elim
end
abbrev TG:=V→St→Hp→(St→Hp→Prop)→Prop
abbrev DS:=List V→St→Hp→(St→Hp→Prop)→Prop
def PG (X:Cx) (target:Expr) (t:TG):Prop:=
 ∀(pins:List (Addr×Obj)) (s:Shared) (σ:St) (H:Hp) (v:V) (u:Value) (Q:St→Hp→Prop),Inv X pins σ H s→RelV v u→t v σ H Q→
  wpAny (model X.prog X.w) X.A (assign target X.env u) (fun _ s'=>SN X pins Q s') X.xe s
def HU (X:Cx) (ts:List Expr) (t:DS):Prop:=
 ∀(pins:List (Addr×Obj)) (s:Shared) (σ:St) (H:Hp) (vs:List V) (us:List Value) (Q:St→Hp→Prop),Inv X pins σ H s→Vals vs us→t vs σ H Q→
  wpAny (model X.prog X.w) X.A (assignInOrder ((assignEach ts X.env).map (·.2)) us) (fun _ s'=>SN X pins Q s') X.xe s
abbrev Ks:=V→V→V→Hp→(Hp→Prop)→Prop
def Nf (X:Cx) (t:Ks):Prop:=
 ∀(pins:List (Addr×Obj)) (s:Shared) (σ:St) (H:Hp) (o i v:V) (ov iv u:Value) (Q:Hp→Prop),Inv X pins σ H s→RelV o ov→RelV i iv→RelV v u→t o i v H Q→
  wpAny (model X.prog X.w) X.A (setItem ov iv u) (fun _ s'=>∃H',Inv X pins σ H' s'∧Q H') X.xe s
section
variable {X:Cx} {pos:Pos}
def BO (i:Nat):TG:=fun v σ H Q=>Q (σ.set i (some v)) H
theorem EN {i:Nat} {x:Str} (hN:X.N.Nodup) (hi:X.N[i]?=some x) (hx:GJ X.env.scope x) (hf:X.fn x=true∨X.env.scope.names.lookup x=some .local:=by first |exact .inl rfl |exact .inr rfl |assumption):PG X (.Name x pos) (BO i):=by
 intro pins s σ H v u Q I r h
 exact wpAny_assign_Name (HP I hN hi hx r (fun s' I'=>⟨_,H,I',h⟩) hf)
def Ei:DS:=fun vs σ H Q=>vs=[]∧Q σ H
def B7 (t:TG) (u:DS):DS:=fun vs σ H Q=>∃v r,vs=v::r∧t v σ H fun σ' H'=>u r σ' H' Q
theorem Ng:HU X [] Ei:=by
 intro pins s σ H vs us Q I r h
 obtain ⟨e,h⟩:=h
 subst e
 cases r
 exact assignInOrder_nil ⟨σ,H,I,h⟩
theorem GK {e:Expr} {es:List Expr} {t:TG} {u:DS} (h1:PG X e t) (h2:HU X es u)
 (hs:(assignEach (e::es) X.env).map (·.2)=assign e X.env::(assignEach es X.env).map (·.2):=by rfl):HU X (e::es) (B7 t u):=by
 intro pins s σ H vs us Q I r h
 obtain ⟨v,vr,e1,h⟩:=h
 subst e1
 cases r with
 |cons r rr=>
  rw [hs]
  refine assignInOrder_cons (An (h1 pins s σ H _ _ _ I r h) fun _ s1 z19_=>?_)
  obtain ⟨σ1,H1,I1,q1⟩:=z19_
  exact h2 pins s1 σ1 H1 _ _ Q I1 rr q1
def Ej (K:PySem.W.Frag) (n:Nat) (t:DS):TG:=fun v σ H Q=>∃a xs,v=.ref a∧SqT K H a xs∧xs.length=n∧t xs σ H Q
theorem Nh {es:List Expr} {k:Nat} {t:DS} {n:Nat} (hc:X.calm=true) (h:HU X es t)
 (hn:(assignEach es X.env).length=n:=by rfl) (hst:(assignEach es X.env).findIdx? (·.1)=none:=by rfl):PG X (.Tuple es k pos) (Ej X.K n t):=by
 intro pins s σ H v u Q I r hw
 obtain ⟨a,xs,e1,hq,hl,hw⟩:=hw
 subst e1
 cases r
 obtain ⟨its,rv,ht,hz⟩:=I.tuple hq
 refine assign_Tuple_tuple (I.ok.hd hc) ht (by simp [hn,←hl,rv.length]) hst fun h' hx=>?_
 have I1:Inv X pins σ H {s with heap:=h'}:=I.kept (t':=s.toks) fun b o e=>hx b o (Bd (Ax e)) e
 exact h pins _ σ H xs _ Q I1 (by simpa using rv) hw
def TL (to ti:TE) (t:Ks):TG:=fun v σ H Q=>to σ H fun o H1=>ti σ H1 fun i H2=>t o i v H2 fun H3=>Q σ H3
theorem TM {o i:Expr} {to ti:TE} {t:Ks} (ho:PE X o to) (hi:PE X i ti) (hs:Nf X t)
 (ha:∀v,assign (.Subscript o i pos) X.env v=(do
  let ov ←holding [v] (eval o X.env)
  let iv ←holding [v,ov] (eval i X.env)
  standAt pos
  holding [v,ov,iv] (setItem ov iv v)
  release [v,ov,iv] []):=by intro _;rfl):PG X (.Subscript o i pos) (TL to ti t):=by
 intro pins s σ H v u Q I r h
 rw [ha]
 refine wpAny_bind (wpAny_holding (An (ho pins s σ H _ I h) fun ov s1 z20_=>?_))
 obtain ⟨x,H1,I1,r1,q1⟩:=z20_
 refine wpAny_bind (wpAny_holding (An (hi pins s1 σ H1 _ I1 q1) fun iv s2 z21_=>?_))
 obtain ⟨y,H2,I2,r2,q2⟩:=z21_
 refine wpAny_bind (wpAny_standAt (wpAny_bind (wpAny_holding (An (hs pins s2 σ H2 x y v ov iv u _ I2 r1 r2 r q2) fun _ s3 z22_=>?_))))
 obtain ⟨H3,I3,q3⟩:=z22_
 exact wpAny_release ⟨σ,H3,I3,q3⟩
def Ni (te:TE) (g:TG):TS:=fun D σ H=>te σ H fun x H1=>g x σ H1 D.nx
theorem Nj {tg e:Expr} {te:TE} {g:TG} (he:PE X e te) (hg:PG X tg g) (hs:swapsWithSole [tg] e pos.line X.env=pure false:=by rfl) (hw:swappedStores [tg] e X.env=pure none:=by rfl)
 (h1:(assignEach [tg] X.env).map (·.2)=[assign tg X.env]:=by rfl):PS X (.Assign [tg] e pos) (Ni te g):=by
 intro pins s σ H D I h
 refine wpAny_Assign_stores (An (he pins s σ H _ I h) fun v s1 z23_=>?_) hs hw
 obtain ⟨x,H1,I1,r1,q1⟩:=z23_
 rw [h1]
 exact An (hg pins s1 σ H1 x v _ I1 r1 q1) fun _ s2 q=>q
theorem TN {i:Nat} {x:Str} {e:Expr} {te:TE} {pos':Pos} (hN:X.N.Nodup) (hi:X.N[i]?=some x) (hx:GJ X.env.scope x) (he:PE X e te) (hs:swapsWith e (some (.Name x pos')) pos.line X.env=pure false:=by rfl) (hf:X.fn x=true∨X.env.scope.names.lookup x=some .local:=by first |exact .inl rfl |exact .inr rfl |assumption):
 PS X (.Assign [.Name x pos'] e pos) (Ni te (BO i)):=by
 intro pins s σ H D I h
 refine wpAny_Assign_Name (An (he pins s σ H _ I h) fun v s1 z24_=>?_) hs
 obtain ⟨y,H1,I1,r1,q1⟩:=z24_
 exact HP I1 hN hi hx r1 (fun s2 I2=>⟨_,H1,I2,q1⟩) hf
def TQ (i j:Nat) (ta:TA):TS:=fun D σ H=>ta σ H fun vs H1=>∃v w,vs=[v,w]∧D.nx ((σ.set i (some v)).set j (some w)) H1
theorem TU {i j:Nat} {x y:Str} {a b:Expr} {ta:TA} {px py pt:Pos} {kt k2 pt2} (hc:X.calm=true) (hN:X.N.Nodup) (hi:X.N[i]?=some x) (hj:X.N[j]?=some y) (hij:i≠j)
 (hx:X.env.scope.names.lookup x=some .local) (hy:X.env.scope.names.lookup y=some .local) (ha:PA X [a,b] ta)
 (hw:swappedStores [.Tuple [.Name x px,.Name y py] kt pt] (.Tuple [a,b] k2 pt2) X.env=pure (some [x,y]))
 (hs:swapsWithSole [.Tuple [.Name x px,.Name y py] kt pt] (.Tuple [a,b] k2 pt2) pos.line X.env=pure false:=by rfl):
 PS X (.Assign [.Tuple [.Name x px,.Name y py] kt pt] (.Tuple [a,b] k2 pt2) pos) (TQ i j ta):=by
 intro pins s σ H D I h
 rw [exec_Assign_arm]
 refine wpAny_bind (wpAny_standAt ?_)
 rw [hs]
 refine wpAny_bind (wpAny_pure ?_)
 rw [if_neg (by decide)]
 refine wpAny_bind (Tuple_ (An (ha _ pins s σ H _ I h) fun us s1 z25_=>?_))
 obtain ⟨vs,H1,I1,r1,q1⟩:=z25_
 obtain ⟨v,w,e1,q1⟩:=q1
 subst e1
 obtain ⟨u1,u2,rfl,rv,rw'⟩:∃u1 u2,us=[u1,u2]∧RelV v u1∧RelV w u2:=by
  cases r1 with
  |cons p q=>
   cases q with
   |cons p' q'=>
    cases q'
    exact ⟨_,_,rfl,p,p'⟩
 refine wpAny_newObj_type ?_ (by show 2≤sizeLine;decide)
 have I2:Inv X pins σ H1 {s1 with heap:=s1.heap.push {cls:=.type "tuple",data:=.seq [u1,u2].toArray}}:=I1.kept (t':=s1.toks) fun b o e=>AB _ e
 rw [hw]
 refine wpAny_bind (wpAny_pure ?_)
 show wpAny (model X.prog X.w) X.A (do rule "assign.swapped-stores";let items ←unpackItems (.ref s1.heap.objs.size) 2 none;assignInOrder [fun v=>bindName X.env y v,fun v=>bindName X.env x v] items.reverse;pure Flow.next) _ _ _
 refine wpAny_bind (wpAny_rule (wpAny_bind (unpackItems_tuple (items:=#[u1,u2]) (I.ok.hd hc) (IsTup.new s1.heap _) fun h' hx'=>?_)))
 have I3:=I2.kept (h':=h') (t':=s1.toks) fun b o e=>hx' b o (Bd (Ax e)) e
 show wpAny _ _ (assignInOrder [fun v=>bindName X.env y v,fun v=>bindName X.env x v] [u2,u1] >>=fun _=>pure Flow.next) _ _ _
 refine wpAny_bind (assignInOrder_cons (wpAny_bindName (HP I3 hN hj (.inl hy) rw' (fun s2 I4=>?_) (.inr hy))))
 refine assignInOrder_cons (wpAny_bindName (HP I4 hN hi (.inl hx) rv (fun s3 I5=>assignInOrder_nil (wpAny_pure ?_)) (.inr hx)))
 rw [List.set_comm _ _ (Ne.symm hij)] at I5
 exact ⟨_,H1,I5,q1⟩
end
section
variable {X:Cx} {pos:Pos}
end
structure It where
 go:Nat→Hp→Prop
 yld:Nat→Hp→V→Hp→Prop
 stop:Nat→Hp→Prop
def DT (X:Cx) (pins:List (Addr×Obj)) (H:Hp) (b:Addr):Prop:=
 H b=none∧b≠X.env.locals∧b∉X.fs∧(b∈X.ex∨X.s₀.heap.objs.size≤b)∧(∀x c,X.env.cells.lookup x=some c→c≠b)∧∀p∈X.pn++pins,p.1≠b
theorem Inv.fpOk {X:Cx} {pins:List (Addr×Obj)} {σ:St} {H H':Hp} {s:Shared} {b:Addr} (I:Inv X pins σ H s) (hb:s.heap.objs.size≤b) (hn:H' b=none):DT X pins H' b:=by
 refine ⟨hn,Eh (AX I.lt hb),I.nofs hb,.inr (BB I.sz hb),fun x c e z=>?_,fun p hp z=>?_⟩
 ·obtain ⟨v,q⟩:=I.cell x c e
  exact absurd (AX q.lt (by rw [z];exact hb)) (B1 _)
 ·exact absurd (AX (Ax (I.pin p hp).1) (by rw [z];exact hb)) (B1 _)
structure GL (P:Program) (w:World) (K:PySem.W.Frag) (tg:Expr) (J:It) (fp:List Addr) (it:Addr) (tn:Nat→Heap→Prop):Prop where
 mem:it∈fp
 obj:∀i h,tn i h→∀b∈fp,∃o,h.get? b=some o∧∀v,o.data≠.cell v
 keep:∀i h h',tn i h→(∀b∈fp,∀o,h.get? b=some o→h'.get? b=some o)→tn i h'
 item:∀(X:Cx),X.prog=P→X.w=w→X.K=K→X.calm=true→∀(i:Nat) (pins:List (Addr×Obj)) (s:Shared) (σ:St) (H:Hp) (E:Value→Shared→Prop),Inv X pins σ H s→(∀b∈fp,DT X pins H b)→tn i s.heap→J.go i H→
  wpAny (model P w) X.A (pyNext (.ref it)) (fun r s1=>∃u,r=some u∧
   wpAny (model P w) X.A (letOwnedTupleGo tg (.ref it) u) (fun _ s2=>∃x H',Inv X pins σ H' s2∧RelV x u∧J.yld i H x H'∧tn (i+1) s2.heap∧∀b∈fp,H' b=none) E s1) E s
 done:∀(X:Cx),X.prog=P→X.w=w→X.K=K→X.calm=true→∀(i:Nat) (pins:List (Addr×Obj)) (s:Shared) (σ:St) (H:Hp) (E:Value→Shared→Prop),Inv X pins σ H s→(∀b∈fp,DT X pins H b)→tn i s.heap→J.stop i H→
  wpAny (model P w) X.A (pyNext (.ref it)) (fun r s1=>r=none∧Inv X pins σ H s1) E s
 self:∀(A:Around) (i:Nat) (s:Shared) (Q:Value→Shared→Prop) (E:Value→Shared→Prop),tn i s.heap→Q (.ref it) s→wpAny (model P w) A (pyIter (.ref it)) Q E s
abbrev TI:=St→Hp→(It→Hp→Prop)→Prop
inductive HV (X:Cx) (pins:List (Addr×Obj)) (σ:St) (tg:Expr) (R:It→Hp→Prop) (itv:Value) (s2:Shared):Prop where
 |mk (it:Addr) (fp:List Addr) (tn:Nat→Heap→Prop) (J:It) (H':Hp) (e:itv=.ref it) (i:Inv X pins σ H' s2) (t:GL X.prog X.w X.K tg J fp it tn) (st:tn 0 s2.heap) (f:∀b∈fp,DT X pins H' b) (r:R J H'):HV X pins σ tg R itv s2
def PI (X:Cx) (tg iter:Expr) (wi:TI):Prop:=
 ∀(pins:List (Addr×Obj)) (s:Shared) (σ:St) (H:Hp) (R:It→Hp→Prop),Inv X pins σ H s→wi σ H R→
  wpAny (model X.prog X.w) X.A (eval iter X.env) (fun v s1=>wpAny (model X.prog X.w) X.A (pyIter v) (HV X pins σ tg R) X.xe s1) X.xe s
theorem HW {M:Model} {A:Around} {E:Value→Shared→Prop} {s:Shared} {tg:Expr} {it:Addr} {u:Value} {o:Obj} {n:String} {vs:Array Value} {Q:Unit→Shared→Prop} (ho:s.heap.get? it=some o) (hc:o.cls=.type n) (hd:o.data=.fields vs)
 (hn:["enumerate","zip","dict_itemiterator","dict_reverseitemiterator","odict_iterator","itertools.zip_longest","itertools.pairwise"].contains n=false) (hQ:Q () s):wpAny M A (letOwnedTupleGo tg (.ref it) u) Q E s:=by
 unfold letOwnedTupleGo
 cases tg<;>first
  |exact wpAny_pure hQ
  |(cases u<;>first
   |exact wpAny_pure hQ
   |(refine wpAny_bind (wpAny_load ho ?_)
     rw [hc,hd]
     show wpAny M A (if (["enumerate","zip","dict_itemiterator","dict_reverseitemiterator","odict_iterator","itertools.zip_longest","itertools.pairwise"].contains n&&vs[0]?==some (rawInt _))=true then _ else _) Q E s
     rw [if_neg (by intro h;rw [hn,Bool.false_and] at h;cases h)]
     exact wpAny_pure hQ))
def GM (K:PySem.W.Frag) (a:Addr):It:=
 ⟨fun i H=>∃xs x,SqL K H a xs∧xs[i]?=some x,fun i H x H'=>H'=H∧∀xs,SqL K H a xs→xs[i]?=some x,fun i H=>∃xs,SqL K H a xs∧xs.length≤i⟩
def GN (K:PySem.W.Frag) (a:Addr):It:=
 ⟨fun i H=>∃xs x,SqT K H a xs∧xs[i]?=some x,fun i H x H'=>H'=H∧∀xs,SqT K H a xs→xs[i]?=some x,fun i H=>∃xs,SqT K H a xs∧xs.length≤i⟩
def HX (lo:Int) (n:Nat):It:=⟨fun i _=>i<n,fun i H x H'=>H'=H∧x=.int (lo+i),fun i _=>n≤i⟩
theorem TV {P:Program} {w:World} {K:PySem.W.Frag} {tg:Expr} (a it:Addr):GL P w K tg (GM K a) [it] it (fun i h=>h.IsListIter it a i) where
 mem:=by simp
 obj:=fun i h st b hb=>by
  have e:b=it:=by simpa using hb
  subst e
  obtain ⟨o,e,c,d⟩:=st
  exact ⟨o,e,fun v z=>by rw [d] at z;cases z⟩
 keep:=fun i h h' st k=>st.at fun o e=>k it (by simp) o e
 item:=by
  intro X hP hw hK hc i pins s σ H E I hf st hg
  subst hP hw hK
  obtain ⟨xs,x,hq,hx⟩:=hg
  obtain ⟨its,rv,p,hz⟩:=I.list hq
  obtain ⟨u,hu,ru⟩:=rv.get hx
  obtain ⟨f0,f1,f2,f3,f4,f5⟩:=hf it (by simp)
  refine wpAny_pyNext_list_item st p.isList (x:=u) (by simpa using hu) fun h' st' sb=>?_
  have I1:Inv X pins σ H {s with heap:=h'}:=I.turned (t':=s.toks) (fun b o hb e=>(sb.2 b hb).trans e) f0 f1 f3 f4 f5
  obtain ⟨o,e,c,d⟩:=id st'
  exact ⟨u,rfl,HW (s:={s with heap:=h'}) e c d (by decide) ⟨x,H,I1,ru,⟨rfl,fun ys hy=>by rw [I.list_inj hy hq];exact hx⟩,st',fun b hb=>(hf b hb).1⟩⟩
 done:=by
  intro X hP hw hK hc i pins s σ H E I hf st hg
  subst hP hw hK
  obtain ⟨xs,hq,hx⟩:=hg
  obtain ⟨its,rv,p,hz⟩:=I.list hq
  obtain ⟨f0,f1,f2,f3,f4,f5⟩:=hf it (by simp)
  have hl:=rv.length
  exact wpAny_pyNext_list_end (I.ok.hd hc) st p.isList (by simp;omega) fun h' eb=>⟨rfl,I.turned (t':=s.toks) (fun b o hb e=>eb b o hb e) f0 f1 f3 f4 f5⟩
 self:=fun _ _ _ _ _ st h=>wpAny_pyIter_listiter st h
theorem TX {P:Program} {w:World} {K:PySem.W.Frag} {tg:Expr} (a it:Addr):GL P w K tg (GN K a) [it] it (fun i h=>h.IsTupleIter it a i) where
 mem:=by simp
 obj:=fun i h st b hb=>by
  have e:b=it:=by simpa using hb
  subst e
  obtain ⟨o,e,c,d⟩:=st
  exact ⟨o,e,fun v z=>by rw [d] at z;cases z⟩
 keep:=fun i h h' st k=>st.at fun o e=>k it (by simp) o e
 item:=by
  intro X hP hw hK hc i pins s σ H E I hf st hg
  subst hP hw hK
  obtain ⟨xs,x,hq,hx⟩:=hg
  obtain ⟨its,rv,p,hz⟩:=I.tuple hq
  obtain ⟨u,hu,ru⟩:=rv.get hx
  obtain ⟨f0,f1,f2,f3,f4,f5⟩:=hf it (by simp)
  refine wpAny_pyNext_tuple_item st (show s.heap.IsTuple a its.toArray from p) (x:=u) (by simpa using hu) fun h' st' sb=>?_
  have I1:Inv X pins σ H {s with heap:=h'}:=I.turned (t':=s.toks) (fun b o hb e=>(sb.2 b hb).trans e) f0 f1 f3 f4 f5
  obtain ⟨o,e,c,d⟩:=id st'
  exact ⟨u,rfl,HW (s:={s with heap:=h'}) e c d (by decide) ⟨x,H,I1,ru,⟨rfl,fun ys hy=>by rw [I.tuple_inj hy hq];exact hx⟩,st',fun b hb=>(hf b hb).1⟩⟩
 done:=by
  intro X hP hw hK hc i pins s σ H E I hf st hg
  subst hP hw hK
  obtain ⟨xs,hq,hx⟩:=hg
  obtain ⟨its,rv,p,hz⟩:=I.tuple hq
  obtain ⟨f0,f1,f2,f3,f4,f5⟩:=hf it (by simp)
  have hl:=rv.length
  exact wpAny_pyNext_tuple_end (I.ok.hd hc) st (show s.heap.IsTuple a its.toArray from p) (by simp;omega) fun h' eb=>⟨rfl,I.turned (t':=s.toks) (fun b o hb e=>eb b o hb e) f0 f1 f3 f4 f5⟩
 self:=fun _ _ _ _ _ st h=>wpAny_pyIter_tupleiter st h
theorem TY {P:Program} {w:World} {K:PySem.W.Frag} {tg:Expr} (it:Addr) (lo:Int) (n:Nat):GL P w K tg (HX lo n) [it] it (fun i h=>IsRangeIter h it (lo+(i:Nat)*1) ((n:Int) - (i:Nat)) 1) where
 mem:=by simp
 obj:=fun i h st b hb=>by
  have e:b=it:=by simpa using hb
  subst e
  exact ⟨_,st,fun v z=>by
   have z':Data.fields _=Data.cell v:=z
   cases z'⟩
 keep:=fun i h h' st k=>k it (by simp) _ st
 item:=by
  intro X hP hw hK hc i pins s σ H E I hf st hg
  subst hP hw hK
  obtain ⟨f0,f1,f2,f3,f4,f5⟩:=hf it (by simp)
  have W:=Walks.range (prog:=X.prog) (w:=X.w) (I.ok.hd hc) it lo 1 n
  refine W.item i s _ _ hg st fun v h' tk hv st' kk=>?_
  obtain ⟨t,rfl⟩:=hv
  have I1:Inv X pins σ H {s with heap:=h',toks:=tk}:=I.turned (fun b o hb e=>kk b o (by simpa using hb) e) f0 f1 f3 f4 f5
  refine ⟨_,rfl,HW (s:={s with heap:=h',toks:=tk}) (n:="range_iterator") st' rfl rfl (by decide) ⟨.int (lo+i),H,I1,⟨t,?_⟩,⟨rfl,rfl⟩,st',fun b hb=>(hf b hb).1⟩⟩
  rw [Int.mul_one]
 done:=by
  intro X hP hw hK hc i pins s σ H E I hf st hg
  subst hP hw hK
  obtain ⟨f0,f1,f2,f3,f4,f5⟩:=hf it (by simp)
  exact wpAny_pyNext_range_end (I.ok.hd hc) st (by have:n≤i:=hg;omega) fun h' eb=>⟨rfl,I.turned (t':=s.toks) (fun b o hb e=>eb b o hb e) f0 f1 f3 f4 f5⟩
 self:=fun _ _ _ _ _ st h=>wpAny_pyIter_rangeiter st h
section
variable {X:Cx} {tg:Expr}
theorem TZ {pins:List (Addr×Obj)} {σ:St} {H:Hp} {s:Shared} {R:It→Hp→Prop} {E:Value→Shared→Prop} {lo hi:Int} {t u v:Tok} {tk:Nat} (I:Inv X pins σ H s) (h1:-(2^62)≤lo) (h2:lo<2^62) (h3:-(2^62)≤hi) (h4:hi<2^62)
 (q:R (HX lo (hi - lo).toNat) H):wpAny (model X.prog X.w) X.A (pyIter (.ref s.heap.objs.size)) (HV X pins σ tg R) E {s with heap:=s.heap.push {cls:=.type "range",data:=.fields #[.int lo t,.int hi u,.int 1 v]},toks:=tk}:=by
 refine wpAny_pyIter_range (IsRange.new ..) (small_one h1 h2 h3 h4) ?_
 have I1:Inv X pins σ H {s with heap:=s.heap.push {cls:=.type "range",data:=.fields #[.int lo t,.int hi u,.int 1 v]},toks:=tk}:=I.kept fun b o e=>AB _ e
 refine ⟨(s.heap.push {cls:=.type "range",data:=.fields #[.int lo t,.int hi u,.int 1 v]}).objs.size,[(s.heap.push {cls:=.type "range",data:=.fields #[.int lo t,.int hi u,.int 1 v]}).objs.size],_,_,H,rfl,
  I1.kept (t':=tk) fun b o e=>AB _ e,TY _ lo (hi - lo).toNat,?_,fun b hb=>?_,q⟩
 ·have e1:lo+((0:Nat):Int)*1=lo:=by simp
  have e2:(((hi - lo).toNat:Nat):Int) - ((0:Nat):Int)=Builtin.Range.rangeSize lo hi 1:=by rw [rangeSize_one];split<;>omega
  show IsRangeIter _ _ (lo+((0:Nat):Int)*1) ((((hi - lo).toNat:Nat):Int) - ((0:Nat):Int)) 1
  rw [e1,e2]
  exact AW _ rfl
 ·have e:b=(s.heap.push {cls:=.type "range",data:=.fields #[.int lo t,.int hi u,.int 1 v]}).objs.size:=by simpa using hb
  subst e
  exact I1.fpOk (Am _) (I1.hok.fresh (Am _))
def T1 (ta:TA):TI:=fun σ H R=>ta σ H fun vs H1=>∃j:Int,vs=[.int j]∧-(2^62)≤j∧j<2^62∧R (HX 0 j.toNat) H1
theorem T3 {a:Expr} {ta:TA} {p pos:Pos} (hg:Gl X "range") (hm:X.mg "range"=none) (ha:PA X [a] ta) (hs:starEach [a] X.env=[(false,eval a X.env)]:=by rfl):PI X tg (.Call (.Name "range" p) [a] [] pos) (T1 ta):=by
 intro pins s σ H R I h
 refine Call_ (HQ I hg hm boot_range (PyProof.Rows.callWith_type1 (An (ha pos pins s σ H _ I h) fun us s1 z37_=>?_) hs rfl))
 obtain ⟨vs,H1,I1,r1,q1⟩:=z37_
 obtain ⟨j,e,q1,q2,q⟩:=q1
 subst e
 cases r1 with
 |cons r rr=>
  cases rr
  obtain ⟨t,rfl⟩:=r
  exact call_range_1 (TZ I1 (by omega) (by omega) q1 q2 (by simpa using q))
def T4 (wi:TI) (g:TG) (tb:TS):TS:=fun D σ H=>wi σ H fun J H1=>∃W:Nat→Nat→St→Hp→Prop,(∃m,W 0 m σ H1)∧∀i m σ H,W i m σ H→
 (J.stop i H∧D.nx σ H)∨(J.go i H∧∃N:St→Hp→Prop,(∀σ' H',N σ' H'→∃m',m' < m∧W (i+1) m' σ' H')∧∀x H',J.yld i H x H'→g x σ H' fun σ2 H2=>tb {D with nx:=N,ct:=N,bk:=D.nx} σ2 H2)
def GO (fp:List Addr) (h:Heap):List (Addr×Obj):=fp.filterMap fun b=>(h.get? b).map fun o=>(b,o)
theorem HY {fp:List Addr} {h:Heap} {b:Addr} {o:Obj} (hb:b∈fp) (e:h.get? b=some o):(b,o)∈GO fp h:=List.mem_filterMap.mpr ⟨b,hb,by rw [e];rfl⟩
theorem T6 {fp:List Addr} {h:Heap} {p:Addr×Obj} (hp:p∈GO fp h):p.1∈fp∧h.get? p.1=some p.2:=by
 obtain ⟨b,hb,e⟩:=List.mem_filterMap.mp hp
 cases q:h.get? b with
 |none=>rw [q] at e;cases e
 |some o=>
  rw [q] at e
  have e':(b,o)=p:=Option.some.inj e
  subst e'
  exact ⟨hb,q⟩
theorem Inv.pinned {pins:List (Addr×Obj)} {σ:St} {H:Hp} {s:Shared} {fp:List Addr} (I:Inv X pins σ H s) (hf:∀b∈fp,DT X pins H b) (ho:∀b∈fp,∃o,s.heap.get? b=some o∧∀v,o.data≠.cell v):Inv X (pins++GO fp s.heap) σ H s:=
 I.pins_of fun p hp=>(qaW.mp hp).elim (fun z=>I.pin p (CM _ z)) fun z=>by
  obtain ⟨hb,e⟩:=T6 z
  obtain ⟨f0,f1,f2,_⟩:=hf p.1 hb
  obtain ⟨o,e',d⟩:=ho p.1 hb
  rw [e] at e';cases e'
  exact ⟨e,f0,f1,f2,d⟩
theorem Inv.unpinned {pins pl:List (Addr×Obj)} {σ:St} {H:Hp} {s:Shared} (I:Inv X (pins++pl) σ H s):Inv X pins σ H s:=I.pins_of fun p hp=>I.pin p (CM _ (Gz _ hp))
inductive Kt (X:Cx) (pins:List (Addr×Obj)) (tn:Nat→Heap→Prop) (fp:List Addr) (W:Nat→Nat→St→Hp→Prop) (n:Nat) (s':Shared):Prop where
 |mk (i:Nat) (σ':St) (H':Hp) (ii:Inv X pins σ' H' s') (st:tn i s'.heap) (fr:∀b∈fp,H' b=none) (w:W i n σ' H'):Kt X pins tn fp W n s'
theorem T7 {iter:Expr} {body:List Stmt} {wi:TI} {g:TG} {tb:TS} {pos:Pos} (hp:PassesOwn (model X.prog X.w) X.A X.env X.xe) (hc:X.calm=true) (hi:PI X tg iter wi) (hg:PG X tg g) (hb:Cw X body tb)
 (hs:∀x,foldedSetIterable iter X.env x=pure x:=by intro _;rfl):PS X (.For tg iter body [] pos) (T4 wi g tb):=by
 intro pins s σ H D I h
 refine wpAny_For (An (hi pins s σ H _ I h) fun v s1 h1=>An h1 fun itv s2 h2=>?_) hs
 obtain ⟨it,fp,tn,J,H2,e,I2,T,st2,f2,W,⟨m0,w0⟩,turn⟩:=h2
 subst e
 have stat:∀{H':Hp},(∀b∈fp,H' b=none)→∀b∈fp,DT X pins H' b:=fun hn b hb=>⟨hn b hb,(f2 b hb).2⟩
 refine codeAny_forLoop_any (Kt X pins tn fp W) ?_ m0 ⟨0,σ,H2,I2,st2,fun b hb=>(f2 b hb).1,w0⟩
 rintro n s3 ⟨i,σ3,H3,I3,st3,fr3,w3⟩
 rcases turn i n σ3 H3 w3 with ⟨stop,qn⟩ |⟨go,N,hN,step⟩
 ·refine wpAny_passesOwn hp (An (T.done X rfl rfl rfl hc i pins s3 σ3 H3 X.xe I3 (stat fr3) st3 stop) fun r s4 z39_=>?_)
  obtain ⟨hr,I4⟩:=z39_
  subst hr
  exact wpAny_execs_nil ⟨σ3,H3,I4,qn⟩
 ·refine wpAny_passesOwn hp (An (T.item X rfl rfl rfl hc i pins s3 σ3 H3 X.xe I3 (stat fr3) st3 go) fun r s4 z40_=>?_)
  obtain ⟨u,hr,h4⟩:=z40_
  subst hr
  refine wpAny_passesOwn hp (An h4 fun _ s5 z41_=>?_)
  obtain ⟨x,H5,I5,r5,y5,st5,fr5⟩:=z41_
  have I5':=I5.pinned (stat fr5) (T.obj _ _ st5)
  refine wpAny_passesOwn hp (An (hg _ s5 σ3 H5 x u _ I5' r5 (step x H5 y5)) fun _ s6 z42_=>?_)
  obtain ⟨σ6,H6,I6,q6⟩:=z42_
  refine wpAny_passesOwn hp (An (hb _ s6 σ6 H6 _ I6 q6) fun f s7 q7=>?_)
  have again:∀{σ7:St} {H7:Hp},Inv X (pins++GO fp s5.heap) σ7 H7 s7→N σ7 H7→∃m,m<n∧Kt X pins tn fp W m s7:=fun {σ7 H7} I7 n7=>by
   obtain ⟨m',hm,w7⟩:=hN σ7 H7 n7
   refine ⟨m',hm,i+1,σ7,H7,I7.unpinned,T.keep _ _ _ st5 fun b hb o e=>(I7.pin (b,o) (CM _ (CM _ (HY hb e)))).1,fun b hb=>?_,w7⟩
   obtain ⟨o,e,d⟩:=T.obj _ _ st5 b hb
   exact (I7.pin (b,o) (CM _ (CM _ (HY hb e)))).2.1
  cases f with
  |next=>obtain ⟨σ7,H7,I7,n7⟩:=q7;exact again I7 n7
  |cont=>obtain ⟨σ7,H7,I7,n7⟩:=q7;exact again I7 n7
  |brk=>obtain ⟨σ7,H7,I7,q7⟩:=q7;exact ⟨σ7,H7,I7.unpinned,q7⟩
  |ret v=>obtain ⟨x7,σ7,H7,I7,r7,q7⟩:=q7;exact ⟨x7,σ7,H7,I7.unpinned,r7,q7⟩
end
abbrev R2:=V→V→Hp→VK→Prop
def OpR (X:Cx) (f:Value→Value→Sem Value) (r:R2):Prop:=
 ∀(pins:List (Addr×Obj)) (s:Shared) (σ:St) (H:Hp) (x y:V) (v u:Value) (Q:VK),Inv X pins σ H s→RelV x v→RelV y u→r x y H Q→
  wpAny (model X.prog X.w) X.A (f v u) (EP X pins σ Q) X.xe s
def Ku (X:Cx) (f:Value→Sem Value) (r:V→Hp→VK→Prop):Prop:=
 ∀(pins:List (Addr×Obj)) (s:Shared) (σ:St) (H:Hp) (x:V) (v:Value) (Q:VK),Inv X pins σ H s→RelV x v→r x H Q→
  wpAny (model X.prog X.w) X.A (f v) (EP X pins σ Q) X.xe s
def B3 (X:Cx) (f:Value) (r:List V→Hp→VK→Prop):Prop:=
 ∀(pins:List (Addr×Obj)) (s:Shared) (σ:St) (H:Hp) (xs:List V) (us:List Value) (Q:VK),Inv X pins σ H s→Vals xs us→r xs H Q→
  wpAny (model X.prog X.w) X.A (call f us) (EP X pins σ Q) X.xe s
def T8 (X:Cx) (r:V→Hp→(Bool→Hp→Prop)→Prop):Prop:=
 ∀(pins:List (Addr×Obj)) (s:Shared) (σ:St) (H:Hp) (x:V) (v:Value) (Q:Bool→Hp→Prop),Inv X pins σ H s→RelV x v→r x H Q→
  wpAny (model X.prog X.w) X.A (truthy v) (TP X pins σ Q) X.xe s
def HZ (r:R2) (ta tb:TE):TE:=fun σ H Q=>ta σ H fun x H1=>tb σ H1 fun y H2=>r x y H2 Q
def Nk (r:V→Hp→VK→Prop) (ta:TE):TE:=fun σ H Q=>ta σ H fun x H1=>r x H1 Q
def rI (C:Int→Int→Prop) (g:Int→Int→V):R2:=fun x y H Q=>∃i j,x=.int i∧y=.int j∧C i j∧Q (g i j) H
def FD (g:Int→Int→V):R2:=fun x y H Q=>∃i j,x=.int i∧y=.int j∧Q (g i j) H
def rU (g:Int→V):V→Hp→VK→Prop:=fun x H Q=>∃i,x=.int i∧Q (g i) H
section
variable {X:Cx} {a b c:Expr} {ta tb tc:TE} {pos:Pos}
theorem Kv (ha:PE X a ta) (hb:PE X b tb) {pins:List (Addr×Obj)} {s:Shared} {σ:St} {H:Hp} {R:V→V→Hp→Prop} (I:Inv X pins σ H s)
 (h:ta σ H fun x H1=>tb σ H1 fun y H2=>R x y H2) {Q:Value→Shared→Prop} {f:Value→Value→Sem Value}
 (hf:∀v u s2 x y H2,Inv X pins σ H2 s2→RelV x v→RelV y u→R x y H2→wpAny (model X.prog X.w) X.A (f v u) Q X.xe s2):
 wpAny (model X.prog X.w) X.A (eval a X.env) (fun v s₁=>wpAny (model X.prog X.w) X.A (eval b X.env) (fun u s₂=>wpAny (model X.prog X.w) X.A (f v u) Q X.xe s₂) X.xe s₁) X.xe s:=by
 refine An (ha pins s σ H _ I h) fun v s1 z44_=>?_
 obtain ⟨x,H1,I1,r1,q1⟩:=z44_
 refine An (hb pins s1 σ H1 _ I1 q1) fun u s2 z45_=>?_
 obtain ⟨y,H2,I2,r2,q2⟩:=z45_
 exact hf v u s2 x y H2 I2 r1 r2 q2
theorem T9 {op:Operator} {r:R2} (ho:OpR X (binaryOp op) r) (ha:PE X a ta) (hb:PE X b tb):PE X (.BinOp a op b pos) (HZ r ta tb):=by
 intro pins s σ H Q I h
 exact wpAny_BinOp (Kv ha hb I h fun v u s2 x y H2 I2 rx ry q=>ho pins s2 σ H2 x y v u Q I2 rx ry q)
theorem Nl {op:UnaryOp} {r:V→Hp→VK→Prop} (ho:Ku X (unaryOp op) r) (ha:PE X a ta):PE X (.UnaryOp op a pos) (Nk r ta):=by
 intro pins s σ H Q I h
 exact UnaryOp_ (An (ha pins s σ H _ I h) fun v s1 z46_=>by obtain ⟨x,H1,I1,r1,q1⟩:=z46_;exact (ho pins s1 σ H1 x v Q I1 r1 q1))
theorem Kw {f:Value→Value→Sem Value} {C:Int→Int→Prop} {g:Int→Int→Int}
 (rule:∀(i j:Int) (t u:Tok) (s:Shared) (Q:Value→Shared→Prop) (E:Value→Shared→Prop),C i j→Q (.int (g i j) s.toks) {s with toks:=s.toks+1}→wpAny (model X.prog X.w) X.A (f (.int i t) (.int j u)) Q E s):
 OpR X f (rI C fun i j=>.int (g i j)):=by
 intro pins s σ H x y v u Q I rx ry h
 obtain ⟨i,j,rfl,rfl,hc,q⟩:=h
 obtain ⟨t,rfl⟩:=rx
 obtain ⟨t',rfl⟩:=ry
 exact rule i j t t' s _ _ hc ⟨.int (g i j),H,I.tok _,⟨_,rfl⟩,q⟩
theorem Ua {f:Value→Value→Sem Value} {g:Int→Int→Int}
 (rule:∀(i j:Int) (t u:Tok) (s:Shared) (Q:Value→Shared→Prop) (E:Value→Shared→Prop),Q (.int (g i j) s.toks) {s with toks:=s.toks+1}→wpAny (model X.prog X.w) X.A (f (.int i t) (.int j u)) Q E s):
 OpR X f (FD fun i j=>.int (g i j)):=by
 intro pins s σ H x y v u Q I rx ry h
 obtain ⟨i,j,rfl,rfl,q⟩:=h
 obtain ⟨t,rfl⟩:=rx
 obtain ⟨t',rfl⟩:=ry
 exact rule i j t t' s _ _ ⟨.int (g i j),H,I.tok _,⟨_,rfl⟩,q⟩
theorem Nm {f:Value→Value→Sem Value} {g:Int→Int→Bool}
 (rule:∀(i j:Int) (t u:Tok) (s:Shared) (Q:Value→Shared→Prop) (E:Value→Shared→Prop),Q (.bool (g i j)) s→wpAny (model X.prog X.w) X.A (f (.int i t) (.int j u)) Q E s):
 OpR X f (FD fun i j=>.bl (g i j)):=by
 intro pins s σ H x y v u Q I rx ry h
 obtain ⟨i,j,rfl,rfl,q⟩:=h
 obtain ⟨t,rfl⟩:=rx
 obtain ⟨t',rfl⟩:=ry
 exact rule i j t t' s _ _ ⟨.bl (g i j),H,I,rfl,q⟩
def Nn (i j:Int):Prop:=0<j∧j<1073741824
def Kx (i j:Int):Prop:=0≤j∧j≤1000000∧i.natAbs<2^64
def CMul (i j:Int):Prop:=(-(2^64)<i∧i<2^64)∨(-(2^64)<j∧j<2^64)
theorem CMul.ok {i j:Int} (h:CMul i j):IntMulOk i j:=by
 rcases h with ⟨h1,h2⟩ |⟨h1,h2⟩
 ·exact .of_left (intBits_le_64 h1 h2)
 ·exact .of_right (intBits_le_64 h1 h2)
theorem op_add:OpR X (binaryOp .Add) (FD fun i j=>.int (i+j)):=Ua fun _ _ _ _ _ _ _ q=>add_int q
theorem Ub:OpR X (binaryOp .Mod) (rI (fun _ j=>0<j) fun i j=>.int (i % j)):=Kw fun i j _ _ _ _ _ hc q=>by
 have h1:(0:Int)<j:=hc
 exact mod_int' (by omega) (by rw [Int.fmod_eq_emod_of_nonneg i (by omega)];exact q)
theorem Uc {f:Value→Sem Value} {g:Int→Int}
 (rule:∀(i:Int) (t:Tok) (s:Shared) (Q:Value→Shared→Prop) (E:Value→Shared→Prop),Q (.int (g i) s.toks) {s with toks:=s.toks+1}→wpAny (model X.prog X.w) X.A (f (.int i t)) Q E s):
 Ku X f (rU fun i=>.int (g i)):=by
 intro pins s σ H x v Q I rx h
 obtain ⟨i,rfl,q⟩:=h
 obtain ⟨t,rfl⟩:=rx
 exact rule i t s _ _ ⟨.int (g i),H,I.tok _,⟨_,rfl⟩,q⟩
theorem Np:Ku X (unaryOp .USub) (rU fun i=>.int (-i)):=Uc fun _ _ _ _ _ q=>neg_int q
end
def Nq:V→V→Bool
 |.non,.non=>true |.non,.int _=>true |.int _,.non=>true |.non,.bl _=>true |.bl _,.non=>true |.non,.str _=>true |.str _,.non=>true
 |.int _,.int _=>true |.bl _,.bl _=>true |.str _,.str _=>true |.byt _,.byt _=>true
 |.int _,.str _=>true |.str _,.int _=>true |.bl _,.str _=>true |.str _,.bl _=>true
 |_,_=>false
def Ud:R2:=fun x y H Q=>Nq x y=true∧Q (.bl (decide (x=y))) H
def Ue:R2:=fun x y H Q=>Nq x y=true∧Q (.bl (!decide (x=y))) H
theorem Nr {i j:Int}:decide (V.int i=V.int j)=(i==j):=by
 rw [qb3]
 simp
theorem Nt {i j:Bool}:decide (V.bl i=V.bl j)=(i==j):=by
 rw [qb3]
 simp
theorem H0 {i j:Str}:decide (V.str i=V.str j)=(i==j):=by
 rw [qb3]
 simp
theorem Nu {i j:Array UInt8}:decide (V.byt i=V.byt j)=(i.toList==j.toList):=by
 rw [qb3]
 cases i
 cases j
 simp
section
variable {X:Cx} {a b c:Expr} {ta tb tc:TE} {pos:Pos}
theorem A5 {pins:List (Addr×Obj)} {σ:St} {H:Hp} {s:Shared} {Q:VK} {k k':Bool} (I:Inv X pins σ H s) (q:Q (.bl k) H) (e:k=k'):EP X pins σ Q (.bool k') s:=by
 subst e
 exact ⟨.bl k,H,I,rfl,q⟩
theorem op_eq:OpR X (compareOp .Eq) Ud:=by
 intro pins s σ H x y v u Q I rx ry h
 obtain ⟨hs,q⟩:=h
 cases x with
 |non=>
  cases rx
  cases y with
  |non=>cases ry;exact PySem.EqNone.eq_none_none (A5 I q (by simp))
  |bl j=>cases ry;exact PySem.EqNone.eq_none_bool (A5 I q (by simp))
  |int j=>obtain ⟨t',rfl⟩:=ry;exact PySem.EqNone.eq_none_int (A5 I q (by simp))
  |str j=>obtain ⟨t',rfl⟩:=ry;exact PySem.EqNone.eq_none_str (A5 I q (by simp))
  |_=>exact absurd (show false=true from hs) Bt
 |bl i=>
  cases rx
  cases y with
  |non=>cases ry;exact PySem.EqNone.eq_bool_none (A5 I q (by simp))
  |bl j=>cases ry;exact eq_bool (A5 I q Nt)
  |str j=>obtain ⟨t',rfl⟩:=ry;exact PySem.EqMixed.eq_bool_str (A5 I q (by simp))
  |_=>exact absurd (show false=true from hs) Bt
 |int i=>
  obtain ⟨t,rfl⟩:=rx
  cases y with
  |non=>cases ry;exact PySem.EqNone.eq_int_none (A5 I q (by simp))
  |int j=>obtain ⟨t',rfl⟩:=ry;exact eq_int (A5 I q Nr)
  |str j=>obtain ⟨t',rfl⟩:=ry;exact PySem.EqMixed.eq_int_str (A5 I q (by simp))
  |_=>exact absurd (show false=true from hs) Bt
 |str i=>
  obtain ⟨t,rfl⟩:=rx
  cases y with
  |non=>cases ry;exact PySem.EqNone.eq_str_none (A5 I q (by simp))
  |bl j=>cases ry;exact PySem.EqMixed.eq_str_bool (A5 I q (by simp))
  |int j=>obtain ⟨t',rfl⟩:=ry;exact PySem.EqMixed.eq_str_int (A5 I q (by simp))
  |str j=>obtain ⟨t',rfl⟩:=ry;exact eq_str (A5 I q H0)
  |_=>exact absurd (show false=true from hs) Bt
 |byt i=>
  obtain ⟨t,rfl⟩:=rx
  cases y with
  |byt j=>obtain ⟨t',rfl⟩:=ry;exact PySem.W.eq_bytes (A5 I q Nu)
  |_=>exact absurd (show false=true from hs) Bt
 |_=>cases y<;>exact absurd (show false=true from hs) Bt
theorem op_ne:OpR X (compareOp .NotEq) Ue:=by
 intro pins s σ H x y v u Q I rx ry h
 obtain ⟨hs,q⟩:=h
 cases x with
 |non=>
  cases rx
  cases y with
  |non=>cases ry;exact PySem.EqNone.ne_none_none (A5 I q (by simp))
  |bl j=>cases ry;exact PySem.EqNone.ne_none_bool (A5 I q (by simp))
  |int j=>obtain ⟨t',rfl⟩:=ry;exact PySem.EqNone.ne_none_int (A5 I q (by simp))
  |str j=>obtain ⟨t',rfl⟩:=ry;exact PySem.EqNone.ne_none_str (A5 I q (by simp))
  |_=>exact absurd (show false=true from hs) Bt
 |bl i=>
  cases rx
  cases y with
  |non=>cases ry;exact PySem.EqNone.ne_bool_none (A5 I q (by simp))
  |bl j=>cases ry;exact ne_bool (A5 I q (congrArg not Nt))
  |str j=>obtain ⟨t',rfl⟩:=ry;exact PySem.EqMixed.ne_bool_str (A5 I q (by simp))
  |_=>exact absurd (show false=true from hs) Bt
 |int i=>
  obtain ⟨t,rfl⟩:=rx
  cases y with
  |non=>cases ry;exact PySem.EqNone.ne_int_none (A5 I q (by simp))
  |int j=>obtain ⟨t',rfl⟩:=ry;exact ne_int (A5 I q (congrArg not Nr))
  |str j=>obtain ⟨t',rfl⟩:=ry;exact PySem.EqMixed.ne_int_str (A5 I q (by simp))
  |_=>exact absurd (show false=true from hs) Bt
 |str i=>
  obtain ⟨t,rfl⟩:=rx
  cases y with
  |non=>cases ry;exact PySem.EqNone.ne_str_none (A5 I q (by simp))
  |bl j=>cases ry;exact PySem.EqMixed.ne_str_bool (A5 I q (by simp))
  |int j=>obtain ⟨t',rfl⟩:=ry;exact PySem.EqMixed.ne_str_int (A5 I q (by simp))
  |str j=>obtain ⟨t',rfl⟩:=ry;exact ne_str (A5 I q (congrArg not H0))
  |_=>exact absurd (show false=true from hs) Bt
 |byt i=>
  obtain ⟨t,rfl⟩:=rx
  cases y with
  |byt j=>obtain ⟨t',rfl⟩:=ry;exact PySem.W.ne_bytes (A5 I q (congrArg not Nu))
  |_=>exact absurd (show false=true from hs) Bt
 |_=>cases y<;>exact absurd (show false=true from hs) Bt
theorem Ug:OpR X (compareOp .Lt) (FD fun i j=>.bl (decide (i<j))):=Nm fun _ _ _ _ _ _ _ q=>lt_int q
theorem Uh:OpR X (compareOp .LtE) (FD fun i j=>.bl (decide (i≤j))):=Nm fun _ _ _ _ _ _ _ q=>le_int q
theorem Ui:OpR X (compareOp .Is) (fun x y H Q=>y=.non∧Q (.bl (decide (x=.non))) H):=by
 intro pins s σ H x y v u Q I rx ry h
 obtain ⟨rfl,q⟩:=h
 cases ry
 refine is_none_gen (A5 I q ?_)
 cases x<;>first
  |(cases rx;rfl)
  |(obtain ⟨t,rfl⟩:=rx;rfl)
theorem OpR.or {f:Value→Value→Sem Value} {r r':R2} (h:OpR X f r) (h':OpR X f r'):OpR X f (fun x y H Q=>r x y H Q∨r' x y H Q):=by
 intro pins s σ H x y v u Q I rx ry q
 rcases q with q |q
 ·exact h pins s σ H x y v u Q I rx ry q
 ·exact h' pins s σ H x y v u Q I rx ry q
theorem FE (b:Expr) {op:CmpOp} (h:op≠.In:=by decide) (h2:op≠.NotIn:=by decide):behindInMarks op b=false:=by
 have e1:(op==CmpOp.In)=false:=by cases op<;>first |rfl |exact absurd rfl h
 have e2:(op==CmpOp.NotIn)=false:=by cases op<;>first |rfl |exact absurd rfl h2
 cases b with
 |Set elts k p=>
  show (k==0&&(op==.In||op==.NotIn)&&elts.all (constantsAlone 8))=false
  rw [e1,e2,Bool.or_self,Bool.and_false,Bool.false_and]
 |_=>rfl
theorem Uj {op:CmpOp} {r:R2} (ho:OpR X (compareOp op) r) (ha:PE X a ta) (hb:PE X b tb) (hm:behindInMarks op b=false):PE X (.Compare a [op] [b] pos) (HZ r ta tb):=by
 intro pins s σ H Q I h
 exact wpAny_Compare1 (Kv ha hb I h fun v u s2 x y H2 I2 rx ry q=>ho pins s2 σ H2 x y v u Q I2 rx ry q) hm
def Nv (t:TE):TT:=fun σ H Q=>t σ H fun x H'=>∃k,x=.bl k∧Q k H'
theorem Uk {op:CmpOp} {r:R2} (ho:OpR X (compareOp op) r) (ha:PE X a ta) (hb:PE X b tb) (hm:behindInMarks op b=false):PT X (.Compare a [op] [b] pos) (Nv (HZ r ta tb)):=by
 intro pins s σ H Q I h
 refine wpAny_isTrue_Compare1 (An (ha pins s σ H _ I h) fun v s1 ⟨x,H1,I1,r1,q1⟩=>An (hb pins s1 σ H1 _ I1 q1) ?_) hm
 rintro u s2 ⟨y,H2,I2,r2,q2⟩
 refine An (ho pins s2 σ H2 x y v u _ I2 r1 r2 q2) fun c s3 z49_=>?_
 obtain ⟨z,H3,I3,r3,k,e,q3⟩:=z49_
 subst e
 cases r3
 exact wpAny_truthy_bool ⟨H3,I3,q3⟩
def Ky (r r':R2) (ta tb tc:TE):TE:=fun σ H Q=>ta σ H fun x H1=>tb σ H1 fun y H2=>r x y H2 fun z H3=>∃k,z=.bl k∧
 (if k=true then tc σ H3 fun w' H4=>r' y w' H4 Q else Q (.bl false) H3)
theorem Ul {op op':CmpOp} {r r':R2} (ho:OpR X (compareOp op) r) (ho':OpR X (compareOp op') r') (ha:PE X a ta) (hb:PE X b tb) (hc:PE X c tc)
 (hm:lastMarks [op,op'] [b,c]=false:=by with_unfolding_all rfl):PE X (.Compare a [op,op'] [b,c] pos) (Ky r r' ta tb tc):=by
 intro pins s σ H Q I h
 refine Compare_chain (An (ha pins s σ H _ I h) fun v s1 ⟨x,H1,I1,r1,q1⟩=>chain_link (An (hb pins s1 σ H1 _ I1 q1) ?_)) hm
 rintro u s2 ⟨y,H2,I2,r2,q2⟩
 refine An (ho pins s2 σ H2 x y v u _ I2 r1 r2 q2) fun d s3 z52_=>?_
 obtain ⟨z,H3,I3,r3,k,e,q3⟩:=z52_
 subst e
 cases r3
 refine wpAny_truthy_bool ?_
 cases k with
 |false=>exact ite_ff ⟨.bl false,H3,I3,rfl,q3⟩
 |true=>exact ite_tt (chain_last (An (hc pins s3 σ H3 _ I3 q3) fun w' s4 z53_=>by obtain ⟨z',H4,I4,r4,q4⟩:=z53_;exact (ho' pins s4 σ H4 y z' u w' Q I4 r2 r4 q4)))
theorem Um {op op':CmpOp} {r r':R2} (ho:OpR X (compareOp op) r) (ho':OpR X (compareOp op') r') (ha:PE X a ta) (hb:PE X b tb) (hc:PE X c tc)
 (hm:lastMarks [op,op'] [b,c]=false:=by with_unfolding_all rfl):PT X (.Compare a [op,op'] [b,c] pos) (Nv (Ky r r' ta tb tc)):=by
 intro pins s σ H Q I h
 refine isTrue_chain (An (ha pins s σ H _ I h) fun v s1 ⟨x,H1,I1,r1,q1⟩=>test_link (An (hb pins s1 σ H1 _ I1 q1) ?_)) hm
 rintro u s2 ⟨y,H2,I2,r2,q2⟩
 refine An (ho pins s2 σ H2 x y v u _ I2 r1 r2 q2) fun d s3 z56_=>?_
 obtain ⟨z,H3,I3,r3,k,e,q3⟩:=z56_
 subst e
 cases r3
 refine wpAny_truthy_bool ?_
 cases k with
 |false=>
  obtain ⟨k',e',q'⟩:=q3
  cases e'
  exact ite_ff ⟨H3,I3,q'⟩
 |true=>
  refine ite_tt (test_last (An (hc pins s3 σ H3 _ I3 q3) ?_))
  rintro w' s4 ⟨z',H4,I4,r4,q4⟩
  refine An (ho' pins s4 σ H4 y z' u w' _ I4 r2 r4 q4) fun d' s5 z58_=>?_
  obtain ⟨z2,H5,I5,r5,k2,e2,q5⟩:=z58_
  subst e2
  cases r5
  exact wpAny_truthy_bool ⟨H5,I5,q5⟩
def Kz (K:PySem.W.Frag) (x:V) (H:Hp) (k:Bool):Prop:=
 match x with
 |.non=>k=false
 |.bl b=>k=b
 |.int i=>k=(i != 0)
 |.str y=>y.length≤sizeLine∧k=((y.length:Int) != 0)
 |.byt y=>y.size≤sizeLine∧k=((y.size:Int) != 0)
 |.ref p=>(∃xs,SqL K H p xs∧k=!xs.isEmpty)∨(∃xs,SqT K H p xs∧k=!xs.isEmpty)
 |_=>False
theorem Nw {xs:List V} {its:List Value} (r:Vals xs its):(!its.toArray.isEmpty)=!xs.isEmpty:=by
 cases r<;>simp
theorem Ek:(sizeLine:Nat)<2^63:=by rw [sizeLine_eq];decide
theorem Uo:T8 X (fun x H Q=>∃k,Kz X.K x H k∧Q k H):=by
 intro pins s σ H x v Q I rx h
 obtain ⟨k,e,q⟩:=h
 have hl:=Ek
 have hs:sizeLine=16777216:=sizeLine_eq
 cases x with
 |non=>
  cases rx
  have e':k=false:=e
  subst e'
  exact truthy_none ⟨H,I,q⟩
 |bl b=>
  cases rx
  have e':k=b:=e
  subst e'
  exact wpAny_truthy_bool ⟨H,I,q⟩
 |int i=>
  obtain ⟨t,rfl⟩:=rx
  have e':k=(i != 0):=e
  subst e'
  exact PySem.P.truthy_int ⟨H,I,q⟩
 |str y=>
  obtain ⟨t,rfl⟩:=rx
  obtain ⟨hy,e'⟩:y.length≤sizeLine∧k=((y.length:Int) != 0):=e
  subst e'
  exact PySem.P.truthy_str (by omega) ⟨H,I.tok _,q⟩
 |byt y=>
  obtain ⟨t,rfl⟩:=rx
  obtain ⟨hy,e'⟩:y.size≤sizeLine∧k=((y.size:Int) != 0):=e
  subst e'
  exact PySem.W.truthy_bytes (by omega) ⟨H,I.tok _,q⟩
 |ref p=>
  cases rx
  have e':(∃xs,SqL X.K H p xs∧k=!xs.isEmpty)∨(∃xs,SqT X.K H p xs∧k=!xs.isEmpty):=e
  rcases e' with ⟨xs,hx,e'⟩ |⟨xs,hx,e'⟩
  ·subst e'
   obtain ⟨its,r,pl,hz⟩:=I.list hx
   have hlen:=r.length
   exact wpAny_truthy_list pl.isList (by simp only [Bu];omega) ⟨H,I.tok _,by rw [Nw r];exact q⟩
  ·subst e'
   obtain ⟨its,r,pl,hz⟩:=I.tuple hx
   have hlen:=r.length
   exact truthy_tuple pl (by simp only [Bu];omega) ⟨H,I.tok _,by rw [Nw r];exact q⟩
 |_=>exact (show False from e).elim
theorem Up (ha:PE X a ta) (he:∀DG,isTrue a X.env DG=(do let v ←DG;standAt a.pos;holding [v] (truthy v))):
 PT X a (fun σ H Q=>ta σ H fun x H'=>∃k,Kz X.K x H' k∧Q k H'):=by
 intro pins s σ H Q I h
 exact isTrue_plain (An (ha pins s σ H _ I h) fun v s1 z59_=>by obtain ⟨x,H1,I1,r1,q1⟩:=z59_;exact (Uo pins s1 σ H1 x v Q I1 r1 q1)) (he _)
theorem Uq:OpR X (binaryOp .Add) (fun x y H Q=>∃i j,x=.str i∧y=.str j∧i.length+j.length≤sizeLine∧Q (.str (i++j)) H):=by
 intro pins s σ H x y v u Q I rx ry h
 obtain ⟨i,j,rfl,rfl,hz,q⟩:=h
 obtain ⟨t,rfl⟩:=rx
 obtain ⟨t',rfl⟩:=ry
 exact add_str (fun t' tk=>⟨.str (i++j),H,I.tok _,⟨_,rfl⟩,q⟩) hz
theorem Cy {x:V} {us:List Value} (r:Vals [x] us):∃u,us=[u]∧RelV x u:=by
 cases r with
 |cons r1 r2=>cases r2;exact ⟨_,rfl,r1⟩
theorem Ia {x y:V} {us:List Value} (r:Vals [x,y] us):∃u w',us=[u,w']∧RelV x u∧RelV y w':=by
 cases r with
 |cons r1 r2=>
  cases r2 with
  |cons r3 r4=>cases r4;exact ⟨_,_,rfl,r1,r3⟩
theorem Ur (hc:X.calm=true):B3 X (.builtin "max") (fun xs H Q=>∃i j,xs=[.int i,.int j]∧Q (.int (if j>i then j else i)) H):=by
 intro pins s σ H xs us Q I r h
 obtain ⟨i,j,rfl,q⟩:=h
 obtain ⟨u,w',rfl,⟨t,rfl⟩,⟨t',rfl⟩⟩:=Ia r
 refine max_two_ints (I.ok.hd hc) fun h' tk k=>⟨_,H,I.kept k,?_,q⟩
 by_cases hj:j>i
 ·rw [if_pos hj,if_pos hj];exact ⟨_,rfl⟩
 ·rw [if_neg hj,if_neg hj];exact ⟨_,rfl⟩
theorem Us (hc:X.calm=true):B3 X (.builtin "min") (fun xs H Q=>∃i j,xs=[.int i,.int j]∧Q (.int (if j<i then j else i)) H):=by
 intro pins s σ H xs us Q I r h
 obtain ⟨i,j,rfl,q⟩:=h
 obtain ⟨u,w',rfl,⟨t,rfl⟩,⟨t',rfl⟩⟩:=Ia r
 refine min_two_ints (I.ok.hd hc) fun h' tk k=>⟨_,H,I.kept k,?_,q⟩
 by_cases hj:j<i
 ·rw [if_pos hj,if_pos hj];exact ⟨_,rfl⟩
 ·rw [if_neg hj,if_neg hj];exact ⟨_,rfl⟩
theorem Ut:B3 X (.type "int") (fun xs H Q=>(∃i,xs=[.int i]∧Q (.int i) H)∨∃k,xs=[.bl k]∧Q (.int (if k then 1 else 0)) H):=by
 intro pins s σ H xs us Q I r h
 rcases h with ⟨i,rfl,q⟩ |⟨k,rfl,q⟩
 ·obtain ⟨u,rfl,t,rfl⟩:=Cy r
  exact call_int_int ⟨.int i,H,I,⟨_,rfl⟩,q⟩
 ·obtain ⟨u,rfl,r1⟩:=Cy r
  cases r1
  exact call_int_bool ⟨.int (if k then 1 else 0),H,I.tok _,⟨_,rfl⟩,q⟩
end
structure ObjM (h:Heap) (x dx C:Addr) (mA:Str→Option Value):Prop where
 obj:h.get? x=some (PySem.W.instObj C dx)
 ns:h.Ns1 dx mA
 ne:dx≠x
theorem Uu {h:Heap} {dx:Addr} {mA:Str→Option Value} (n:h.Ns1 dx mA):∃od,h.get? dx=some od∧∀name,PySem.W.lookIn name od=some (mA name):=by
 obtain ⟨o,es,ep,ho,hd,hk,_,hm⟩:=n
 refine ⟨o,ho,fun name=>?_⟩
 have e:=hm name
 unfold nsFind findBy at e
 rw [←Array.find?_toList] at e
 unfold PySem.W.lookIn
 rw [hd]
 dsimp only
 split
 ·rename_i y q
  rw [q] at e
  exact congrArg some e
 ·rename_i q
  rw [q] at e
  have a:es.toList.any (·.refKey)=false:=by
   rw [List.any_eq_false]
   intro y hy
   obtain ⟨z,t,hkey⟩:=hk y (Array.mem_toList_iff.mp hy)
   simp [DictEntry.refKey,hkey]
  have a':¬es.toList.any (·.refKey)=true:=by rw [a];exact Bt
  rw [if_neg a']
  exact congrArg some e
theorem ObjM.look {h:Heap} {x dx C:Addr} {mA:Str→Option Value} (I:ObjM h x dx C mA):∃od,PySem.W.InstAt h x (PySem.W.instObj C dx) C (some od)∧∀name,PySem.W.lookIn name od=some (mA name):=
 let ⟨od,ho,hl⟩:=Uu I.ns
 ⟨od,⟨I.obj,rfl,rfl,ho⟩,hl⟩
section
variable {prog:Program} {w:World} {A:Around} {E:Value→Shared→Prop} {s:Shared} {K:PySem.W.Frag} {x dx C f:Addr} {mA:Str→Option Value} {name:Str} {v:Value}
end
def Nx (f:Str) (v:V):List (Str×V)→List (Str×V)
 |[]=>[(f,v)]
 |(g,x)::r=>if g=f then (g,v)::r else (g,x)::Nx f v r
section
variable {P:Program} {w:World} {H H':Hp} {h h':Heap} {a C dx:Addr} {fs fs':List (Str×V)}
end
structure Cls (K:PySem.W.Frag) (C:Addr):Prop where
 pg:PySem.W.plainGet K C Str.empty=true
 hd:PySem.W.hasDictIn K C=true
 po:PySem.W.plainOver K C=true
 sa:PySem.W.findIn K (.ref C) "__setattr__"=some (some (.builtin "object.__setattr__"))
theorem Cls.get {K:PySem.W.Frag} {C:Addr} (c:Cls K C) (f:Str):PySem.W.plainGet K C f=true:=c.pg
def NoAttr (K:PySem.W.Frag) (C:Addr) (f:Str):Prop:=PySem.W.findIn K (.ref C) f=some none
structure Uv (K:PySem.W.Frag) (C:Addr) (m:Str) (f:Addr):Prop where
 at_:PySem.W.findIn K (.ref C) m=some (some (.ref f))
 fn:PySem.W.isFn K (.ref f)=true
 kp:PySem.W.keepIn K (.ref f)=true
section
variable {X:Cx} {pins:List (Addr×Obj)} {σ:St} {H:Hp} {s:Shared} {a C dx:Addr} {fs:List (Str×V)} {f:Str} {v:V} {A:Around} {E:Value→Shared→Prop}
theorem Inv.made (I:Inv X pins σ H s):Inv X pins σ (Ah (Ah H s.heap.objs.size (.own (s.heap.objs.size+1))) (s.heap.objs.size+1) (.ins C s.heap.objs.size []))
 {s with heap:=(s.heap.push PySem.W.emptyDict).push (PySem.W.instObj C s.heap.objs.size)}:=by
 have e1:(s.heap.push PySem.W.emptyDict).get? s.heap.objs.size=some PySem.W.emptyDict:=AW s.heap rfl
 have e2:((s.heap.push PySem.W.emptyDict).push (PySem.W.instObj C s.heap.objs.size)).get? (s.heap.objs.size+1)=some (PySem.W.instObj C s.heap.objs.size):=by
  have:=AW (s.heap.push PySem.W.emptyDict) (o:=PySem.W.instObj C s.heap.objs.size) rfl
  rwa [BN] at this
 have e3:(s.heap.push PySem.W.emptyDict).Ns s.heap.objs.size (fun _=>none):=⟨PySem.W.emptyDict,#[],_,e1,rfl,(fun e he=>absurd he (by simp)),fun _=>rfl⟩
 have I1:=I.laid (a:=s.heap.objs.size) (o:=.own (s.heap.objs.size+1)) (h':=s.heap.push PySem.W.emptyDict) (t':=s.toks) (fun b u q=>AB _ q) (Am _) ⟨_,e1⟩
 refine I1.laid (a:=s.heap.objs.size+1) (o:=.ins C s.heap.objs.size []) (t':=s.toks) (fun b u q=>AB _ q) (GI (BN _ _)) ?_
 have ne:s.heap.objs.size≠s.heap.objs.size+1:=Bd (GD _)
 refine ⟨by rw [Av ne,B6],B2 _,ne,e2,fun _=>none,(Heap.Ns1.of_empty e3).at fun o q=>AB _ q,fun _=>True.intro,fun y hy=>absurd rfl hy⟩
end
def Zb4 (K:PySem.W.Frag) (ta:TE) (f:Str):TE:=fun σ H Q=>ta σ H fun x H1=>∃a C dx fs v,x=.ref a∧H1 a=some (.ins C dx fs)∧Cls K C∧NoAttr K C f∧fs.lookup f=some v∧Q v H1
def Zb5 (K:PySem.W.Frag) (ta tv:TE) (f:Str):TS:=fun D σ H=>tv σ H fun y H1=>ta σ H1 fun x H2=>∃a C dx fs,x=.ref a∧H2 a=some (.ins C dx fs)∧Cls K C∧NoAttr K C f∧fs.length<1000∧
 D.nx σ (Ah H2 a (.ins C dx (Nx f y fs)))
section
variable {X:Cx} {o e value:Expr} {f:Str} {pos pos' tpos:Pos} {ta tv:TE}
end
section
variable {X:Cx} {pins:List (Addr×Obj)} {σ:St} {H:Hp} {s:Shared} {A:Around} {E:Value→Shared→Prop} {Q:Value→Shared→Prop} {c:Value} {b:Bool}
inductive Dw (K:PySem.W.Frag) (H:Hp):V→Value→Prop where
 |non:Dw K H .non (.type "NoneType")
 |bl (x:Bool):Dw K H (.bl x) (.type "bool")
 |int (i:Int):Dw K H (.int i) (.type "int")
 |str (x:Str):Dw K H (.str x) (.type "str")
 |flt (x:UInt64):Dw K H (.flt x) (.type "float")
 |lst {a:Addr} {xs:List V} (e:H a=some (.lst xs)):Dw K H (.ref a) (.type "list")
 |frz {a:Addr} {o:Obj} {xs:List V} (e:H a=some (.frz o (.lst xs))):Dw K H (.ref a) (.type "list")
 |tup {a:Addr} {xs:List V} (e:H a=some (.tup xs)):Dw K H (.ref a) (.type "tuple")
theorem Uw {x:V} {u t:Value} (I:Inv X pins σ H s) (rx:RelV x u) (ty:Dw X.K H x t) (e:PySem.W.kitOne X.K t c=some b) (h:∀tk,Q (.bool b) {s with toks:=tk}):
 wpAny (model X.prog X.w) A (call (.builtin "isinstance") [u,c]) Q E s:=by
 cases ty with
 |non=>cases (show u=Value.none from rx);exact PySem.W.kia_one PySem.W.kitx_none I.kIn True.intro e (fun z=>nomatch z) h
 |bl y=>cases (show u=Value.bool y from rx);exact PySem.W.kia_one PySem.W.kitx_bool I.kIn True.intro e (fun z=>nomatch z) h
 |int i=>obtain ⟨t,q⟩:=(show ∃t,u=Value.int i t from rx);cases q;exact PySem.W.kia_one PySem.W.kitx_int I.kIn True.intro e (fun z=>nomatch z) h
 |str y=>obtain ⟨t,q⟩:=(show ∃t,u=Value.str y t from rx);cases q;exact PySem.W.kia_one PySem.W.kitx_str I.kIn True.intro e (fun z=>nomatch z) h
 |flt y=>obtain ⟨t,q⟩:=(show ∃t,u=Value.float y t from rx);cases q;exact PySem.W.kia_one PySem.W.kitx_float I.kIn True.intro e (fun z=>nomatch z) h
 |@lst a xs ea=>
  cases (show u=Value.ref a from rx)
  obtain ⟨_,_,n,_,h1⟩:=(show ObjOk X.prog X.w H s.heap a (.lst xs) from I.hok a _ ea)
  exact PySem.W.kia_one PySem.W.kitx_list I.kIn ⟨_,h1,rfl⟩ e (fun z=>nomatch z) h
 |@frz a ob xs ea=>
  cases (show u=Value.ref a from rx)
  obtain ⟨_,_,_,n,_,h1⟩:=(show ObjOk X.prog X.w H s.heap a (.frz ob (.lst xs)) from I.hok a _ ea)
  exact PySem.W.kia_one PySem.W.kitx_list I.kIn ⟨_,h1,rfl⟩ e (fun z=>nomatch z) h
 |@tup a xs ea=>
  cases (show u=Value.ref a from rx)
  obtain ⟨_,_,_,p,_⟩:=(show ObjOk X.prog X.w H s.heap a (.tup xs) from I.hok a _ ea)
  obtain ⟨o,h1,h2,_⟩:=p
  exact PySem.W.kia_one PySem.W.kitx_tuple I.kIn ⟨o,h1,h2⟩ e (fun z=>nomatch z) h
end
structure Room (k:Nat) (A:Around):Prop where
 hd:A.handled=none
 dp:A.depth+3*k+5<recursionLimit
 un:A.units+16*k+200<cLine
 gd:A.guards=some []
theorem Room.mono {j k:Nat} {A:Around} (r:Room k A) (h:j≤k):Room j A:=⟨r.hd,by have:=r.dp;omega,by have:=r.un;omega,r.gd⟩
theorem Room.deeper {k:Nat} {A:Around} (r:Room (k+1) A) (env:Env):Room k (A.deeper env):=
 ⟨r.hd,by have:=r.dp;show A.depth+1+3*k+5<_;omega,by have:=r.un;show A.units+3+16*k+200<_;omega,r.gd⟩
theorem Room.depth {k:Nat} {A:Around} (r:Room k A):A.depth<recursionLimit:=by have:=r.dp;omega
theorem Room.units {k:Nat} {A:Around} (r:Room k A):A.units+64<cLine:=by have:=r.un;omega
def Ux:TA:=fun _ H Q=>Q [] H
def Uy (ta:TE) (tr:TA):TA:=fun σ H Q=>ta σ H fun x H1=>tr σ H1 fun xs H2=>Q (x::xs) H2
section
variable {X:Cx} {e:Expr} {es:List Expr} {te:TE} {t:TA} {pos:Pos}
theorem Ib:PA X [] Ux:=fun _ _ _ _ H Q I h=>Calls.spliced_nil ⟨[],H,I,.nil,h⟩
theorem Ic (ha:PE X e te) (hr:PA X es t) (hs:starEach (e::es) X.env=(false,eval e X.env)::starEach es X.env:=by rfl):PA X (e::es) (Uy te t):=by
 intro pos pins s σ H Q I h
 rw [hs]
 show wpAny _ _ (spliced ((false,eval e X.env)::backTo pos (starEach es X.env))) _ _ s
 refine Calls.spliced_cons (An (ha pins s σ H _ I h) fun u s1 z68_=>?_)
 obtain ⟨x,H1,I1,r1,q1⟩:=z68_
 exact An (hr pos pins s1 σ H1 _ I1 q1) fun us s2 z69_=>by obtain ⟨xs,H2,I2,r2,q2⟩:=z69_;exact (⟨x::xs,H2,I2,.cons r1 r2,q2⟩)
def Uz (t:TA):TE:=fun σ H Q=>t σ H fun xs H1=>xs.length≤sizeLine∧∀p,H1 p=none→Q (.ref p) (Ah H1 p (.tup xs))
def UA (t:TA):TE:=fun σ H Q=>t σ H fun xs H1=>xs.length≤sizeLine∧∀p,H1 p=none→Q (.ref p) (Ah H1 p (.lst xs))
theorem UB {x1} (h:PA X es t):PE X (.Tuple es x1 pos) (Uz t):=by
 intro pins s σ H Q I hq
 refine wpAny_Tuple_spliced (An (h pos pins s σ H _ I hq) fun us s1 ⟨xs,H1,I1,r,z,q⟩=>⟨by rw [←r.length];exact z,?_⟩)
 have hf:H1 s1.heap.objs.size=none:=I1.hok.fresh (Am _)
 refine ⟨.ref s1.heap.objs.size,Ah H1 s1.heap.objs.size (.tup xs),I1.laid (t':=s1.toks) (fun b u e=>AB _ e) (Am _) ?_,rfl,q _ hf⟩
 exact ⟨z,us,r,⟨_,AW _ rfl,rfl,_,rfl⟩,NoDict.new⟩
theorem UC (h:PA X es t):PE X (.List es pos) (UA t):=by
 intro pins s σ H Q I hq
 refine wpAny_List_spliced (An (h pos pins s σ H _ I hq) fun us s1 ⟨xs,H1,I1,r,z,q⟩=>⟨by rw [←r.length];exact z,?_⟩)
 have hf:H1 s1.heap.objs.size=none:=I1.hok.fresh (Am _)
 refine ⟨.ref s1.heap.objs.size,Ah H1 s1.heap.objs.size (.lst xs),I1.laid (t':=s1.toks) (fun b u e=>AB _ e) (Am _) ?_,rfl,q _ hf⟩
 exact ⟨z,us,0,r,AW _ rfl⟩
end
abbrev Sp:=List V→Hp→VK→XK→Prop
abbrev Dk:=List Env→Hp→Shared→XK→Value→Shared→Prop
structure El (P:Program) (w:World) (K:PySem.W.Frag) (mg:Str→Option Value) (base:Heap) (A:Around) (outer:List Env) (s:Shared) (H:Hp):Prop where
 frames:A.frames=some outer
 mod:Mod K mg base
 bs:∀b o,base.get? b=some o→s.heap.get? b=some o∧H b=none
 bsz:base.objs.size≤s.heap.objs.size
 funs:s.heap.FunFrames base outer
 frf:∀b∈frs outer,H b=none
 hok:HOk P w H s.heap
 bare:AllBare s.gens
inductive CE (outer:List Env) (P:Program) (w:World) (H:Hp) (s:Shared) (Q:VK) (u:Value) (s':Shared):Prop where
 |mk (v:V) (H':Hp) (os:s'.os=s.os) (bare:AllBare s'.gens) (un:Un (frs outer) [] H H' s.heap s'.heap) (hok:HOk P w H' s'.heap) (r:RelV v u) (q:Q v H'):CE outer P w H s Q u s'
def CR (CX:Dk) (outer:List Env) (P:Program) (w:World) (H:Hp) (s:Shared) (Q:VK) (E:XK) (r:Result) (s':Shared):Prop:=
 match r with
 |.ok (.ret u)=>CE outer P w H s Q u s'
 |.ok _=>False
 |.error e=>CX outer H s E e s'
structure FnOk (P:Program) (w:World) (K:PySem.W.Frag) (mg:Str→Option Value) (base:Heap) (CX:Dk) (k:Nat) (f:Addr) (fd:FuncData) (ps:List Str) (sp:Sp):Prop where
 len:∀vs H Q E,sp vs H Q E→vs.length=ps.length
 run:∀(A:Around) (outer:List Env) (s:Shared) (H:Hp) (args:Args) (us:List Value) (vs:List V) (Q:VK) (E:XK),Room k A→El P w K mg base A outer s H→BindsTo s fd args (ps.zip us)→Vals vs us→sp vs H Q E→
  codeAny (model P w) A (.call (.ref f) args) (CR CX outer P w H s Q E) s
theorem FnOk.mono {P:Program} {w:World} {K:PySem.W.Frag} {mg:Str→Option Value} {base:Heap} {CX:Dk} {j k:Nat} {f:Addr} {fd:FuncData} {ps:List Str} {sp:Sp} (F:FnOk P w K mg base CX j f fd ps sp) (h:j≤k):
 FnOk P w K mg base CX k f fd ps sp:=⟨F.len,fun A outer s H args us vs Q E hr=>F.run A outer s H args us vs Q E (hr.mono h)⟩
theorem FnOk.imp {P:Program} {w:World} {K:PySem.W.Frag} {mg:Str→Option Value} {base:Heap} {CX:Dk} {k:Nat} {f:Addr} {fd:FuncData} {ps:List Str} {sp sp':Sp} (F:FnOk P w K mg base CX k f fd ps sp)
 (h:∀vs H Q E,sp' vs H Q E→sp vs H Q E):FnOk P w K mg base CX k f fd ps sp':=
 ⟨fun vs H Q E q=>F.len vs H Q E (h _ _ _ _ q),fun A outer s H args us vs Q E hr he hb hv hs=>F.run A outer s H args us vs Q E hr he hb hv (h _ _ _ _ hs)⟩
section
variable {X:Cx} {pins:List (Addr×Obj)} {σ:St} {H:Hp} {s s':Shared}
theorem Inv.env0 (I:Inv X pins σ H s):El X.prog X.w X.K X.mg X.base X.A X.stack s H:=
 ⟨I.ok.frames,I.ok.mod,I.bs,BB I.ok.bsz I.sz,I.stack,I.stkFree,I.hok,I.bare⟩
theorem Inv.after {Q:VK} {u:Value} (I:Inv X pins σ H s) (h:CE X.stack X.prog X.w H s Q u s'):EP X pins σ Q u s':=by
 obtain ⟨v,H',os,bare,un,hok,r,q⟩:=h
 obtain ⟨hh,g,d,t,os'⟩:=s'
 obtain rfl:os'=s.os:=os
 exact ⟨v,H',I.call (h':=hh) (g':=g) (d':=d) (t':=t) (ch:=[]) un hok bare (fun b z=>absurd z (by simp)),r,q⟩
end
def UD (sp:Sp) (dvs:List V) (E:XK) (t:TA):TE:=fun σ H Q=>t σ H fun vs H1=>sp (vs++dvs) H1 Q E
def Zb6 (C:Addr) (m:Str) (sp:Sp) (dvs:List V) (E:XK) (ta:TE) (t:TA):TE:=fun σ H Q=>ta σ H fun x H1=>∃a dx fs,x=.ref a∧H1 a=some (.ins C dx fs)∧fs.lookup m=none∧
 t σ H1 fun vs H2=>sp (x::(vs++dvs)) H2 Q E
def Zb7 (C:Addr) (sp:Sp) (dvs:List V) (E:XK) (t:TA):TE:=fun σ H Q=>t σ H fun vs H1=>∀x dx,H1 x=none→H1 dx=none→dx≠x→
 sp (.ref x::(vs++dvs)) (Ah (Ah H1 dx (.own x)) x (.ins C dx [])) (fun v H2=>v=.non∧Q (.ref x) H2) E
def Binds (K:PySem.W.Frag) (fd:FuncData) (ps:List Str) (ds:List Value):Prop:=
 ∀(s:Shared) (us:List Value),K.In s.heap→(us++ds).length=ps.length→BindsTo s fd ⟨us,[]⟩ (ps.zip (us++ds))
theorem Binds.all {K:PySem.W.Frag} {fd:FuncData} {ps:List Str} (h:∀us:List Value,us.length=ps.length→bindArgs fd ⟨us,[]⟩=pure (ps.zip us)):Binds K fd ps []:=fun s us _ hl=>by
 rw [DP] at hl ⊢
 exact .of_eq (h us hl)
def Em (CX:Dk) (X:Cx) (E:XK):Prop:=∀(pins:List (Addr×Obj)) (σ:St) (H:Hp) (s:Shared) (e:Value) (s':Shared),Inv X pins σ H s→CX X.stack H s E e s'→X.xe e s'
section
variable {X:Cx} {CX:Dk} {k:Nat} {f C:Addr} {fd:FuncData} {ps:List Str} {sp:Sp} {dvs:List V} {ds:List Value} {E:XK} {x m:Str} {p pos apos:Pos} {e o:Expr} {es:List Expr} {ta:TE} {t:TA}
theorem Ny {pins:List (Addr×Obj)} {σ:St} {H:Hp} {s:Shared} {Q:VK} {us:List Value} {vs:List V} (F:FnOk X.prog X.w X.K X.mg X.base CX k f fd ps sp) (hr:Room k X.A) (hb:Binds X.K fd ps ds) (hd:Vals dvs ds) (hx:Em CX X E)
 (I:Inv X pins σ H s) (r:Vals vs us) (h:sp (vs++dvs) H Q E):wpAny (model X.prog X.w) X.A (call (.ref f) us) (EP X pins σ Q) X.xe s:=by
 have r2:Vals (vs++dvs) (us++ds):=r.append hd
 have hl:(us++ds).length=ps.length:=by rw [←r2.length];exact F.len _ _ _ _ h
 refine wpAny_call (codeAny_mono (F.run X.A X.stack s H ⟨us,[]⟩ (us++ds) (vs++dvs) Q E hr I.env0 (hb s us I.kIn hl) r2 h) fun r s' hq=>?_)
 cases r with
 |error e=>exact hx pins σ H s e s' I hq
 |ok fl=>
  cases fl with
  |ret u=>exact I.after hq
  |next=>exact False.elim hq
  |brk=>exact False.elim hq
  |cont=>exact False.elim hq
theorem UE (F:FnOk X.prog X.w X.K X.mg X.base CX k f fd ps sp) (hr:Room k X.A) (hg:Gl X x) (hm:X.mg x=some (.ref f)) (hk:PySem.W.keepIn X.K (.ref f)=true) (hb:Binds X.K fd ps ds) (hd:Vals dvs ds) (hx:Em CX X E)
 (ha:PA X (e::es) t) (hdb:(x==("__debug__":Str))=false:=by decide) (he:starEach (e::es) X.env=(false,eval e X.env)::starEach es X.env:=by rfl) (hpl:(backTo pos (starEach es X.env)).any (·.1)=false:=by rfl):
 PE X (.Call (.Name x p) (e::es) [] pos) (UD sp dvs E t):=by
 intro pins s σ H Q I h
 refine wpAny_Call_Name_kw (FC I hg hm ?_ hdb)
 refine PySem.W.callWith_K (h₀:=X.base) I.ok.mod.kin hk (An (ha pos pins s σ H _ I h) ?_) he hpl
 rintro us s1 ⟨vs,H1,I1,r,q⟩
 refine ⟨I1.kIn,?_⟩
 exact Ny F hr hb hd hx I1 r q
structure Mk (K:PySem.W.Frag) (C f:Addr):Prop where
 makes:PySem.W.makesIn K C=true
 init:PySem.W.findIn K (.ref C) "__init__"=some (some (.ref f))
 fn:PySem.W.isFn K (.ref f)=true
 kp:PySem.W.keepIn K (.ref C)=true
end
section
variable {X:Cx} {CX:Dk} {k:Nat} {f C:Addr} {fd:FuncData} {ps ks:List Str} {sp:Sp} {E:XK} {x m:Str} {p pos apos kpos:Pos} {e o:Expr} {es:List Expr} {kws:List Keyword} {te ta:TE} {t tk:TA} {nm:Option Str}
variable {g:List Value→List Value→List Value} {gV:List V→List V→List V}
end
structure CP (N P:List Str) (sc:Scope):Prop where
 kind:sc.kind=.function
 co:sc.isCoroutine=false
 gen:sc.isGenerator=false
 nd:N.Nodup
 pre:N.take P.length=P
 par:∀x∈P,sc.names.lookup x=some .local∨sc.names.lookup x=some .cell
 nofree:∀y∈sc.names,y.2≠.free
theorem Nz {kindOf:Str→Option NameKind} {x:Str}:∀{binds:List (Str×Value)} {m:Str→Option Value},(∀v,(x,v)∉binds)→bindL kindOf binds m x=m x
 |[],_,_=>rfl
 |(n,v)::r,m,h=>by
  unfold bindL
  rw [Nz fun w hw=>h w (AV _ hw)]
  split
  ·have:x≠n:=by rintro rfl;exact h v AU
   simp [this]
  ·rfl
theorem NA {kindOf:Str→Option NameKind} {x:Str}:∀{binds:List (Str×Value)} {m:Str→Option Value},(∀v,(x,v)∉binds)→bindC kindOf binds m x=m x
 |[],_,_=>rfl
 |(n,v)::r,m,h=>by
  unfold bindC
  rw [NA fun w hw=>h w (AV _ hw)]
  split
  ·rfl
  ·have:x≠n:=by rintro rfl;exact h v AU
   simp [this]
theorem KA {kindOf:Str→Option NameKind} {x:Str} {v:Value}:∀{P:List Str} {vs:List Value} {i:Nat} {m:Str→Option Value},P.Nodup→P[i]?=some x→vs[i]?=some v→kindOf x=some .local→
 bindL kindOf (P.zip vs) m x=some v
 |[],_,_,_,_,h,_,_=>by simp at h
 |_::_,[],_,_,_,_,h,_=>by simp at h
 |p::P,w::vs,0,m,nd,h1,h2,hk=>by
  simp at h1 h2;subst h1;subst h2
  show bindL kindOf ((p,w)::P.zip vs) m p=_
  unfold bindL
  rw [Nz fun v hv=>(qbC.mp nd).1 (HH hv).1,if_pos hk]
  simp
 |p::P,w::vs,i+1,m,nd,h1,h2,hk=>by
  show bindL kindOf ((p,w)::P.zip vs) m x=_
  unfold bindL
  exact KA (i:=i) (qbC.mp nd).2 (by simpa using h1) (by simpa using h2) hk
theorem KB {kindOf:Str→Option NameKind} {x:Str} {v:Value}:∀{P:List Str} {vs:List Value} {i:Nat} {m:Str→Option Value},P.Nodup→P[i]?=some x→vs[i]?=some v→kindOf x≠some .local→
 bindC kindOf (P.zip vs) m x=some v
 |[],_,_,_,_,h,_,_=>by simp at h
 |_::_,[],_,_,_,_,h,_=>by simp at h
 |p::P,w::vs,0,m,nd,h1,h2,hk=>by
  simp at h1 h2;subst h1;subst h2
  show bindC kindOf ((p,w)::P.zip vs) m p=_
  unfold bindC
  rw [NA fun v hv=>(qbC.mp nd).1 (HH hv).1,if_neg hk]
  simp
 |p::P,w::vs,i+1,m,nd,h1,h2,hk=>by
  show bindC kindOf ((p,w)::P.zip vs) m x=_
  unfold bindC
  exact KB (i:=i) (qbC.mp nd).2 (by simpa using h1) (by simpa using h2) hk
def start (N:List Str) (vs:List V):St:=vs.map some++List.replicate (N.length - vs.length) none
def Bv (CX:Dk) (P:Program) (w:World) (K:PySem.W.Frag) (mg:Str→Option Value) (base:Heap) (N:List Str) (qual:Str) (scope:Scope) (f:Addr) (cd:Value) (A:Around) (outer:List Env) (s:Shared) (H:Hp) (E:XK):Cx where
 prog:=P
 w:=w
 K:=K
 mg:=mg
 base:=base
 A:=A.deeper (envOfC qual scope s.heap.objs.size f cd)
 N:=N
 s₀:=s
 H₀:=H
 env:=envOfC qual scope s.heap.objs.size f cd
 outer:=outer
 stack:=envOfC qual scope s.heap.objs.size f cd::outer
 ex:=[]
 calm:=true
 fn:=fun _=>true
 pn:=[]
 xe:=fun e s'=>wpAny (model P w) (A.deeper (envOfC qual scope s.heap.objs.size f cd)) (leaving (envOfC qual scope s.heap.objs.size f cd) e) (fun _ s''=>CX outer H s E e s'') (fun e' s''=>CX outer H s E e' s'') s'
theorem Ie {sc:Scope} {n:Nat} {x:Str} (h:sc.names.lookup x=some .cell):∃c,(cellsFrom n sc.names []).lookup x=some c:=by
 have q:=PySem.W.cellsFrom_some sc.names n [] (.inl h)
 exact qbP.mp q
theorem NB {CX:Dk} {P:Program} {w:World} {K:PySem.W.Frag} {mg:Str→Option Value} {base:Heap} {N ps:List Str} {qual:Str} {scope:Scope} {f:Addr} {cd:Value} {A:Around} {outer:List Env} {s s1:Shared} {H:Hp} {E:XK} {us:List Value} {vs:List V}
 (S:CP N ps scope) (hd:A.handled=none) (e0:El P w K mg base A outer s H) (hl:vs.length=ps.length) (r:Vals vs us)
 (x:InCallC s s.heap.objs.size (bindL (envOfC qual scope s.heap.objs.size f cd).kindOf (ps.zip us) fun _=>none) (cellsFrom (s.heap.objs.size+1) scope.names []) (bindC (envOfC qual scope s.heap.objs.size f cd).kindOf (ps.zip us) fun _=>none) s1):
 Inv (Bv CX P w K mg base N qual scope f cd A outer s H E) [] (start N vs) H s1:=by
 have hpl:ps.length≤N.length:=by have:=congrArg List.length S.pre;rw [GE] at this;omega
 obtain ⟨h1,tk,rfl,hk⟩:=x.done
 have noA:∀b:Addr,b∉(Bv CX P w K mg base N qual scope f cd A outer s H E).ex:=fun b z=>absurd (show b∈([]:List Addr) from z) (by simp)
 refine ⟨⟨e0.mod,S.kind,rfl,rfl,Am _,fun y z c h1 h2=>?_,fun y hy=>?_,fun y c _ h=>?_,fun _=>hd,Around.frames_deeper e0.frames,.inr ⟨rfl,rfl⟩,fun b z=>absurd z (noA b),e0.bs,e0.bsz,fun b _ _=>noA b,fun b z=>absurd z (noA b),e0.funs,e0.frf⟩,
  rfl,e0.bare,Un.kept hk,⟨_,x.toInCall.ns,fun i y v h1 h2 h3=>?_⟩,fun y c h=>⟨_,x.cell y c h⟩,e0.hok.fresh (Am _),fun y c h=>?_,fun p hp=>absurd (show p∈([]:List (Addr×Obj)) from hp) (by simp),e0.hok.kept hk,?_⟩
 ·exact name_of_addr x.apart (PySem.mem_of_lookup h1) (PySem.mem_of_lookup h2)
 ·have hy:scope.names.lookup y=some .cell∨scope.names.lookup y=some .free:=hy
  rcases hy with hy |hy
  ·exact Ie hy
  ·exact absurd rfl (S.nofree _ (PySem.mem_of_lookup hy))
 ·exact DR (x.above y c (PySem.mem_of_lookup h))
 ·have hi:i<vs.length:=by
   unfold start at h2
   by_cases hi:i<vs.length
   ·exact hi
   ·rw [Gx (by simpa using hi)] at h2
    rw [Km] at h2
    split at h2<;>cases h2
  have ha:vs[i]?=some v:=by
   unfold start at h2
   rw [Dr (by simpa using hi),B0] at h2
   cases e:vs[i]? with
   |none=>rw [e] at h2;cases h2
   |some a=>rw [e] at h2;cases h2;rfl
  obtain ⟨u,hu,rv⟩:=r.get ha
  have hp:ps[i]?=some y:=by
   rw [←S.pre,List.getElem?_take_of_lt (by omega)];exact h1
  have ndP:ps.Nodup:=by rw [←S.pre];exact S.nd.sublist (List.take_sublist _ _)
  refine ⟨u,rv,?_⟩
  rcases S.par y (Ee hp) with k |k
  ·exact .inl ⟨k,KA ndP hp hu k⟩
  ·obtain ⟨c,e⟩:=Ie (n:=s.heap.objs.size+1) k
   refine .inr ⟨.inl k,c,e,?_⟩
   have q:=x.cell y c e
   rw [KB ndP hp hu (by show scope.names.lookup y≠_;rw [k];decide)] at q
   exact q
 ·exact e0.hok.fresh (DR (x.above y c (PySem.mem_of_lookup h)))
 ·unfold start
  show _=N.length
  rw [Cu,Bo,List.length_replicate]
  omega
theorem NC {CX:Dk} {P:Program} {w:World} {K:PySem.W.Frag} {mg:Str→Option Value} {base:Heap} {k:Nat} {f:Addr} {name qual:Str} {params:Arguments} {body:List Stmt} {scope:Scope} {dV kV doc pm cdv ct oc:Value} {an od:Option Addr}
 {osl:Array (Option Value)} {N ps:List Str} {sp:Sp} (lk:K.lookup f=some ⟨oc,od,.func (PySem.W.fnOf name qual params body scope dV kV doc pm an cdv ct),osl⟩) (hcd:PySem.W.codeIn K cdv qual=true) (S:CP N ps scope)
 (len:∀vs H Q E,sp vs H Q E→vs.length=ps.length)
 (hbody:∀(A:Around) (outer:List Env) (s:Shared) (H:Hp) (vs:List V) (Q:VK) (E:XK),Room k (A.deeper (envOfC qual scope s.heap.objs.size f cdv))→sp vs H Q E→
  ∃t,Cw (Bv CX P w K mg base N qual scope f cdv A outer s H E) body t∧t {nx:=fun _ H'=>Q .non H',rt:=Q} (start N vs) H):
 FnOk P w K mg base CX (k+1) f (PySem.W.fnOf name qual params body scope dV kV doc pm an cdv ct) ps sp:=by
 refine ⟨len,fun A outer s H args us vs Q E hr e0 hb r hsp=>?_⟩
 have hl:=len _ _ _ _ hsp
 have KX:K.In s.heap:=e0.mod.kin.keeps fun b o e=>(e0.bs b o e).1
 have lim:s.heap.NoLimit:=e0.mod.nolimit.keeps fun b o e=>(e0.bs b o e).1
 have hkind:∀y∈ps.zip us,scope.names.lookup y.1=some .local∨(scope.names.lookup y.1=some .cell∧((cellsFrom (s.heap.objs.size+1) scope.names []).lookup y.1).isSome=true):=fun z81_ hy=>by
  obtain ⟨n,v⟩:=z81_
  rcases S.par n (HH hy).1 with q |q
  ·exact .inl q
  ·exact .inr ⟨q,PySem.W.cellsFrom_some _ _ _ (.inl q)⟩
 refine codeAny_call_function hr.depth (KX _ _ lk) rfl S.co S.gen rfl (PySem.W.codeRec_of KX hcd) (hb _ _ _ _ ?_)
 refine wpAny_newFunctionEnv_cells S.kind hkind fun env he s1 x=>?_
 subst he
 refine ⟨lim.keeps x.toInCall.keep,codeAny_func ?_⟩
 obtain ⟨t,ht,hq⟩:=hbody A outer s H vs Q E (hr.deeper _) hsp
 have I:Inv (Bv CX P w K mg base N qual scope f cdv A outer s H E) [] (start N vs) H s1:=NB S hr.hd e0 hl r x
 refine wpAny_mono (ht [] s1 (start N vs) H _ I hq) (fun fl s' hs=>?_) fun e s' hs=>hs
 have Ay:∀{σ':St} {H':Hp} {v:V} {u:Value},Inv (Bv CX P w K mg base N qual scope f cdv A outer s H E) [] σ' H' s'→RelV v u→Q v H'→CE outer P w H s Q u s':=
  fun {σ' H' v u} J rv q=>⟨v,H',J.os,J.bare,J.base,J.hok,rv,q⟩
 cases fl with
 |ret u=>
  obtain ⟨v,σ',H',J,rv,q⟩:=hs
  exact Ay J rv q
 |next=>
  obtain ⟨σ',H',J,q⟩:=hs
  exact Ay (v:=V.non) (u:=Value.none) J rfl q
 |brk=>
  obtain ⟨_,_,_,q⟩:=hs
  exact False.elim q
 |cont=>
  obtain ⟨_,_,_,q⟩:=hs
  exact False.elim q
section
variable {X:Cx} {x:Str} {p pos:Pos} {e:Expr} {es:List Expr} {t:TA} {id T:String} {r:List V→Hp→VK→Prop}
def ND (r:List V→Hp→VK→Prop) (t:TA):TE:=fun σ H Q=>t σ H fun vs H1=>r vs H1 Q
theorem NF (hc:B3 X (.builtin id) r) (hg:Gl X x) (hm:X.mg x=none) (hv:bootBuiltins x=some (.builtin id)) (ha:PA X (e::es) t) (hn:x≠"__name__":=by decide) (hdb:(x==("__debug__":Str))=false:=by decide)
 (he:starEach (e::es) X.env=(false,eval e X.env)::starEach es X.env:=by rfl) (hpl:(backTo pos (starEach es X.env)).any (·.1)=false:=by rfl):PE X (.Call (.Name x p) (e::es) [] pos) (ND r t):=by
 intro pins s σ H Q I h
 refine wpAny_Call_Name_kw (HQ I hg hm hv ?_ hn hdb)
 exact PyProof.Rows.callWith_builtin1 (An (ha pos pins s σ H _ I h) fun us s1 z82_=>by obtain ⟨vs,H1,I1,r1,q1⟩:=z82_;exact (hc pins s1 σ H1 vs us Q I1 r1 q1)) he hpl
theorem KC (hc:B3 X (.type T) r) (hg:Gl X x) (hm:X.mg x=none) (hv:bootBuiltins x=some (.type T)) (ha:PA X (e::es) t) (hn:x≠"__name__":=by decide) (hdb:(x==("__debug__":Str))=false:=by decide)
 (he:starEach (e::es) X.env=(false,eval e X.env)::starEach es X.env:=by rfl) (hpl:(backTo pos (starEach es X.env)).any (·.1)=false:=by rfl):PE X (.Call (.Name x p) (e::es) [] pos) (ND r t):=by
 intro pins s σ H Q I h
 refine wpAny_Call_Name_kw (HQ I hg hm hv ?_ hn hdb)
 exact PyProof.Rows.callWith_type1 (An (ha pos pins s σ H _ I h) fun us s1 z83_=>by obtain ⟨vs,H1,I1,r1,q1⟩:=z83_;exact (hc pins s1 σ H1 vs us Q I1 r1 q1)) he hpl
end
end L2
namespace HT
open PySem PyProof.Rows
def lexLt:List Int→List Int→Bool
 |[],[]=>false
 |[],_::_=>true
 |_::_,[]=>false
 |x::xs,y::ys=>if x=y then lexLt xs ys else decide (x<y)
section
open PySem.SeqAt
open PySem.AutoSeq1 (wpAny_loadPart')
open PySem.MeetsSeq PySem.MeetsSeq2 PySem.MeetsSeq3
end
section
variable {prog:Program} {w:World} {A:Around} {E:Value→Shared→Prop} {s:Shared}
theorem cat_tup {t b:Addr} {vs ws:List Value} {Q:Value→Shared→Prop} (ht:IsTup s.heap t vs.toArray) (hb:IsTup s.heap b ws.toArray) (hv:vs≠[])
 (h1:ws=[]→Q (.ref t) s) (h2:ws≠[]→Q (.ref s.heap.objs.size) {s with heap:=s.heap.push {cls:=.type "tuple",data:=.seq (vs++ws).toArray}})
 (hsz:vs.length+ws.length≤sizeLine):wpAny (model prog w) A (binaryOp .Add (.ref t) (.ref b)) Q E s:=by
 obtain ⟨⟨cls,dd,data,sl⟩,ho,hc,n,hd⟩:=id ht
 obtain ⟨⟨cls2,dd2,data2,sl2⟩,ho2,hc2,n2,hd2⟩:=id hb
 simp only at hc hd hc2 hd2
 subst hc hd hc2 hd2
 have e:vs.toArray++ws.toArray=(vs++ws).toArray:=by simp
 by_cases hw:ws=[]
 ·exact concat_meets ⟨_,ho,rfl⟩ ⟨_,ho2,rfl⟩ noFill_tuple_add seq_tuple_add PySem.F.slot_tuple_add PySem.F.entry_tuple_add (PySem.F.args_tuple_add_2 _ _)
   (tuple_addW1 t b vs.toArray ws.toArray n n2 dd dd2 sl sl2 (by simpa using hv) (by simp [hw])) ⟨ho,ho2,h1 hw⟩
 ·refine concat_meets ⟨_,ho,rfl⟩ ⟨_,ho2,rfl⟩ noFill_tuple_add seq_tuple_add PySem.F.slot_tuple_add PySem.F.entry_tuple_add (PySem.F.args_tuple_add_2 _ _)
   (tuple_addW2 t b vs.toArray ws.toArray n n2 dd dd2 sl sl2 (by simpa using hv) (by simpa using hw) (by rw [Bu,Bu];exact hsz)) ⟨ho,ho2,?_⟩
  rw [e]
  exact h2 hw
def sIx (n d:Nat):Option Int→Nat
 |none=>d
 |some v=>if v<0 then (v+(n:Int)).toNat else min v.toNat n
theorem sIx_nat (n d k:Nat):sIx n d (some (k:Int))=min k n:=by
 show (if (k:Int)<0 then ((k:Int)+(n:Int)).toNat else min (k:Int).toNat n)=min k n
 rw [if_neg (by omega),Eg]
theorem sIx_le (n d:Nat) (hd:d≤n) (o:Option Int):sIx n d o≤n:=by
 cases o with
 |none=>exact hd
 |some v=>
  show (if v<0 then (v+(n:Int)).toNat else min v.toNat n)≤n
  by_cases hv:v<0
  ·rw [if_pos hv];omega
  ·rw [if_neg hv];exact Nat.min_le_right _ _
theorem clip_eq (v:Int) (n d:Nat):(if v<0 then max (v+(n:Int)) 0 else min v (n:Int))=((sIx n d (some v):Nat):Int):=by
 show (if v<0 then max (v+(n:Int)) 0 else min v (n:Int))=(((if v<0 then (v+(n:Int)).toNat else min v.toNat n):Nat):Int)
 by_cases hv:v<0
 ·simp only [if_pos hv];omega
 ·simp only [if_neg hv];omega
end
end HT
namespace L2
open PySem PySem.Spec PyProof.Rows
abbrev TO:=St→Hp→(Option Int→Hp→Prop)→Prop
def PO (X:Cx) (e:Option Expr) (t:TO):Prop:=
 ∀(pins:List (Addr×Obj)) (s:Shared) (σ:St) (H:Hp) (Q:Option Int→Hp→Prop),Inv X pins σ H s→t σ H Q→
  wpAny (model X.prog X.w) X.A (evalPart e X.env) (fun u s'=>∃o H',Inv X pins σ H' s'∧IsPart u o∧Q o H') X.xe s
def UF:TO:=fun _ H Q=>Q none H
def UG (t:TE):TO:=fun σ H Q=>t σ H fun x H1=>∃i,x=.int i∧Q (some i) H1
section
variable {X:Cx} {e:Expr} {te:TE} {lo hi:Option Expr} {tl th:TO} {pos p2:Pos}
theorem UH:PO X none UF:=by
 intro pins s σ H Q I h
 rw [evalPart_none]
 exact wpAny_pure ⟨none,H,I,.none,h⟩
theorem UI (h:PE X e te):PO X (some e) (UG te):=by
 intro pins s σ H Q I hw
 rw [evalPart_some]
 refine An (h pins s σ H _ I hw) fun u s1 z84_=>?_
 obtain ⟨x,H1,I1,r1,q1⟩:=z84_
 obtain ⟨i,rfl,q⟩:=q1
 obtain ⟨t,rfl⟩:=r1
 exact ⟨some i,H1,I1,.int i t,q⟩
def SlR (X:Cx) (r:V→Option Int→Option Int→Hp→VK→Prop):Prop:=
 ∀(pins:List (Addr×Obj)) (s:Shared) (σ:St) (H:Hp) (x:V) (v vl vu:Value) (lo hi:Option Int) (sl:Addr) (Q:VK),Inv X pins σ H s→RelV x v→s.heap.IsSliceOf sl vl vu .none→IsPart vl lo→IsPart vu hi→r x lo hi H Q→
  ∃T id,typeLookup (.type T) "__getitem__"=pure (some (.builtin id))∧s.TypeIs v T∧wpAny (model X.prog X.w) X.A (getItem v (.ref sl)) (EP X pins σ Q) X.xe s
theorem SlR.or {r r':V→Option Int→Option Int→Hp→VK→Prop} (h:SlR X r) (h':SlR X r'):SlR X (fun x lo hi H Q=>r x lo hi H Q∨r' x lo hi H Q):=by
 intro pins s σ H x v vl vu lo hi sl Q I rx hs pl pu q
 rcases q with q |q
 ·exact h pins s σ H x v vl vu lo hi sl Q I rx hs pl pu q
 ·exact h' pins s σ H x v vl vu lo hi sl Q I rx hs pl pu q
def UJ (r:V→Option Int→Option Int→Hp→VK→Prop) (te:TE) (tl th:TO):TE:=fun σ H Q=>te σ H fun x H1=>tl σ H1 fun l H2=>th σ H2 fun u H3=>r x l u H3 Q
theorem UK {r:V→Option Int→Option Int→Hp→VK→Prop} (hr:SlR X r) (he:PE X e te) (hl:PO X lo tl) (hu:PO X hi th):PE X (.Subscript e (.Slice lo hi none p2) pos) (UJ r te tl th):=by
 intro pins s σ H Q I h
 refine Subscript_ (An (he pins s σ H _ I h) fun v s1 z85_=>?_)
 obtain ⟨x,H1,I1,r1,q1⟩:=z85_
 refine wpAny_Slice (An (hl pins s1 σ H1 _ I1 q1) ?_)
 rintro vl s2 ⟨l,H2,I2,pl,q2⟩
 refine An (hu pins s2 σ H2 _ I2 q2) fun vu s3 z87_=>?_
 obtain ⟨u,H3,I3,pu,q3⟩:=z87_
 rw [evalPart_none]
 refine wpAny_pure ?_
 have I4:Inv X pins σ H3 {s3 with heap:=s3.heap.push {cls:=.type "slice",data:=.fields #[vl,vu,.none]}}:=I3.kept (t':=s3.toks) fun b ob q=>AB _ q
 obtain ⟨T,id,hT,ht,hg⟩:=hr pins {s3 with heap:=s3.heap.push {cls:=.type "slice",data:=.fields #[vl,vu,.none]}} σ H3 x v vl vu l u s3.heap.objs.size Q I4 r1 (Heap.IsSliceOf.new ..) pl pu q3
 show wpAny (model X.prog X.w) X.A (subscriptTail e (.Slice lo hi none p2) v (.ref s3.heap.objs.size)) (EP X pins σ Q) X.xe {s3 with heap:=s3.heap.push {cls:=.type "slice",data:=.fields #[vl,vu,.none]}}
 exact tail_any (ops:=[.ref s3.heap.objs.size,v]) ht hT hg (by with_unfolding_all rfl)
def KG (xs:List V) (lo hi:Option Int):List V:=(xs.drop (HT.sIx xs.length 0 lo)).take (HT.sIx xs.length xs.length hi - HT.sIx xs.length 0 lo)
def Zb8 (K:PySem.W.Frag):V→Option Int→Option Int→Hp→VK→Prop:=fun x lo hi H Q=>∃a xs,x=.ref a∧SqT K H a xs∧
 ¬(HT.sIx xs.length 0 lo=0∧HT.sIx xs.length xs.length hi=xs.length)∧∀p,H p=none→Q (.ref p) (Ah H p (.tup (KG xs lo hi)))
def UL (K:PySem.W.Frag):R2:=fun x y H Q=>∃a b xs ys,x=.ref a∧y=.ref b∧SqT K H a xs∧SqT K H b ys∧xs≠[]∧xs.length+ys.length≤sizeLine∧
 (ys=[]→Q (.ref a) H)∧(ys≠[]→∀p,H p=none→Q (.ref p) (Ah H p (.tup (xs++ys))))
theorem Vals.nil_iff {xs:List V} {us:List Value} (r:Vals xs us):us=[]↔xs=[]:=by
 cases r with
 |nil=>simp
 |cons _ _=>simp
theorem op_catT:OpR X (binaryOp .Add) (UL X.K):=by
 intro pins s σ H x y v u Q I rx ry h
 obtain ⟨a,b,xs,ys,rfl,rfl,ha,hb,hx,hz,q1,q2⟩:=h
 cases rx
 cases ry
 obtain ⟨its,r1,p1,_⟩:=I.tuple ha
 obtain ⟨its2,r2,p2,_⟩:=I.tuple hb
 refine HT.cat_tup p1 p2 (fun z=>hx (r1.nil_iff.mp z)) (fun z=>⟨.ref a,H,I,rfl,q1 (r2.nil_iff.mp z)⟩) (fun z=>?_) (by rw [←r1.length,←r2.length];exact hz)
 refine ⟨.ref s.heap.objs.size,_,I.laid (t':=s.toks) (o:=.tup (xs++ys)) (fun b ob q=>AB _ q) (Am _) ?_,rfl,q2 (fun w=>z (r2.nil_iff.mpr w)) _ (I.hok.fresh (Am _))⟩
 exact ⟨by rw [Cu];exact hz,_,r1.append r2,IsTup.new _ _,NoDict.new⟩
end
def B8 (n:Nat) (i:Int):Option Nat:=if 0≤i then (if i<n then some i.toNat else none) else if -(n:Int)≤i then some (i+n).toNat else none
def BC {α:Type} (xs:List α) (i:Int):Option α:=(B8 xs.length i).bind fun j=>xs[j]?
theorem NG {n:Nat} {i:Int} {j:Nat} (h:B8 n i=some j):seqIndex? i n=some j∧j<n∧-(n:Int)≤i∧i<n:=by
 unfold B8 at h
 by_cases h0:0≤i
 ·rw [if_pos h0] at h
  by_cases h1:i<n
  ·rw [if_pos h1] at h
   have e:i.toNat=j:=Option.some.inj h
   exact ⟨by rw [seqIndex_of h0 h1,e],by omega,by omega,h1⟩
  ·rw [if_neg h1] at h;cases h
 ·rw [if_neg h0] at h
  by_cases h1:-(n:Int)≤i
  ·rw [if_pos h1] at h
   have e:(i+n).toNat=j:=Option.some.inj h
   exact ⟨by rw [seqIndex_neg (by omega) h1,e],by omega,h1,by omega⟩
  ·rw [if_neg h1] at h;cases h
theorem KH {α:Type} {xs:List α} {i:Int} {v:α} (h:BC xs i=some v):∃j,seqIndex? i xs.length=some j∧xs[j]?=some v∧j<xs.length∧-(xs.length:Int)≤i∧i<xs.length:=by
 unfold BC at h
 cases e:B8 xs.length i with
 |none=>rw [e] at h;cases h
 |some j=>
  rw [e] at h
  obtain ⟨h1,h2,h3,h4⟩:=NG e
  exact ⟨j,h1,h,h2,h3,h4⟩
def KI (b:Expr):Prop:=∀o i,subscripted b false o i=operate [o,i] (getItem o i)
def IxR (X:Cx) (r:R2):Prop:=
 ∀(value slice:Expr) (pins:List (Addr×Obj)) (s:Shared) (σ:St) (H:Hp) (x y:V) (v u:Value) (Q:VK),Inv X pins σ H s→RelV x v→RelV y u→r x y H Q→
  subscripted slice false v u=operate [v,u] (getItem v u)→wpAny (model X.prog X.w) X.A (subscriptTail value slice v u) (EP X pins σ Q) X.xe s
def KJ (X:Cx) (id:String) (r:V→List V→Hp→VK→Prop):Prop:=
 ∀(pins:List (Addr×Obj)) (s:Shared) (σ:St) (H:Hp) (x:V) (xs:List V) (v:Value) (us:List Value) (Q:VK),Inv X pins σ H s→RelV x v→Vals xs us→r x xs H Q→
  wpAny (model X.prog X.w) X.A (call (.builtin id) (v::us)) (EP X pins σ Q) X.xe s
section
variable {X:Cx} {a b:Expr} {ta tb:TE} {pos:Pos}
theorem IxR.or {r r':R2} (h:IxR X r) (h':IxR X r'):IxR X (fun x y H Q=>r x y H Q∨r' x y H Q):=by
 intro value slice pins s σ H x y v u Q I rx ry q hs
 rcases q with q |q
 ·exact h value slice pins s σ H x y v u Q I rx ry q hs
 ·exact h' value slice pins s σ H x y v u Q I rx ry q hs
theorem NH {r:R2} (hr:IxR X r) (ha:PE X a ta) (hb:PE X b tb) (hs:KI b):PE X (.Subscript a b pos) (HZ r ta tb):=by
 intro pins s σ H Q I h
 exact Subscript_ (Kv ha hb I h fun v u s2 x y H2 I2 rx ry q=>hr a b pins s2 σ H2 x y v u Q I2 rx ry q (hs _ _))
def UM (K:PySem.W.Frag):R2:=fun x y H Q=>∃p xs i v,x=.ref p∧y=.int i∧SqL K H p xs∧BC xs i=some v∧Q v H
def UN (K:PySem.W.Frag):R2:=fun x y H Q=>∃p xs i v,x=.ref p∧y=.int i∧SqT K H p xs∧BC xs i=some v∧Q v H
def UO:R2:=fun x y H Q=>∃z i c,x=.str z∧y=.int i∧z.length≤sizeLine∧BC z.cps.toList i=some c∧Q (.str ⟨#[c]⟩) H
theorem ix_list:IxR X (UM X.K):=by
 intro value slice pins s σ H x y v u Q I rx ry h hs
 obtain ⟨p,xs,i,z,rfl,rfl,hq,he,q⟩:=h
 cases rx
 obtain ⟨t,rfl⟩:=ry
 obtain ⟨its,r,pl,hz⟩:=I.list hq
 obtain ⟨j,h1,h2,h3,h4,h5⟩:=KH he
 obtain ⟨w,ew,rw'⟩:=r.get h2
 have hl:=r.length
 have hn:=Ek
 have Ay:EP X pins σ Q w s:=⟨z,H,I,rw',q⟩
 by_cases h0:0≤i
 ·have hj:i.toNat=j:=by
   rw [seqIndex_of h0 h5] at h1
   exact Option.some.inj h1
  exact item_listR pl.isList h0 (by omega) (by rw [hj];simpa using ew) Ay hs
 ·have hj:(i+(its.toArray.size:Int)).toNat=j:=by
   rw [seqIndex_neg (by omega) h4] at h1
   rw [Bu,←hl]
   exact Option.some.inj h1
  exact subscriptTail_builtinR (x:=w) pl.isList.typeIs slot_list_getitem.lookup
   (wpAny_getItem_list_neg (Q:=fun r s'=>r=w∧EP X pins σ Q r s') pl.isList (by omega) (by rw [Bu]<;>omega) (by omega) (by rw [hj];simpa using ew) ⟨rfl,Ay⟩) hs
theorem ix_tup:IxR X (UN X.K):=by
 intro value slice pins s σ H x y v u Q I rx ry h hs
 obtain ⟨p,xs,i,z,rfl,rfl,hq,he,q⟩:=h
 cases rx
 obtain ⟨t,rfl⟩:=ry
 obtain ⟨its,r,pl,hz⟩:=I.tuple hq
 obtain ⟨j,h1,h2,h3,h4,h5⟩:=KH he
 obtain ⟨w,ew,rw'⟩:=r.get h2
 have hl:=r.length
 have hn:=Ek
 have Ay:EP X pins σ Q w s:=⟨z,H,I,rw',q⟩
 exact subscriptTail_builtinR (x:=w) pl.typeIs slot_tuple_getitem.lookup
  (getItem_tuple (j:=j) (Q:=fun r s'=>r=w∧EP X pins σ Q r s') pl (by omega) (by omega) (by rw [Bu,←hl];exact h1) (by simpa using ew) ⟨rfl,Ay⟩) hs
theorem UP:IxR X UO:=by
 intro value slice pins s σ H x y v u Q I rx ry h hs
 obtain ⟨z,i,c,rfl,rfl,hz,he,q⟩:=h
 obtain ⟨t,rfl⟩:=rx
 obtain ⟨t',rfl⟩:=ry
 obtain ⟨j,h1,h2,h3,h4,h5⟩:=KH he
 have hl:z.cps.toList.length=z.length:=by simp [Str.length]
 rw [hl] at h1 h4 h5
 have hn:=Ek
 exact tail_any (typeIs_str s z t) slot_str_getitem.lookup (getItem_str (c:=c) (by
  have e1:decide (i < -(2^63:Int))=false:=decide_eq_false (by omega)
  have e2:decide (i≥2^63)=false:=decide_eq_false (by omega)
  rw [e1,e2,GG]) (by rw [h1];simpa using h2) ⟨.str ⟨#[c]⟩,H,I.tok _,⟨_,rfl⟩,q⟩) hs
theorem UQ (its:List Value) (n j:Nat) (u:Value):Obj.mapSeq (·.setIfInBounds j u) {cls:=.type "list",data:=.seq its.toArray n}={cls:=.type "list",data:=.seq (its.set j u).toArray n}:=by
 simp [Obj.mapSeq]
theorem Inv.lst {pins:List (Addr×Obj)} {σ:St} {H:Hp} {s:Shared} {p:Addr} {xs:List V} (I:Inv X pins σ H s) (h:H p=some (.lst xs)):
 ∃(its:List Value) (n:Nat),Vals xs its∧s.heap.get? p=some {cls:=.type "list",data:=.seq its.toArray n}∧xs.length≤sizeLine:=by
 obtain ⟨z,its,n,r,e⟩:=I.hok p _ h
 exact ⟨its,n,r,e,z⟩
theorem Inv.lstUpd {pins:List (Addr×Obj)} {σ:St} {H:Hp} {s:Shared} {p:Addr} {xs ys:List V} {its its':List Value} {n n':Nat} {f:Obj→Obj} (I:Inv X pins σ H s) (h:H p=some (.lst xs))
 (ho:s.heap.get? p=some {cls:=.type "list",data:=.seq its.toArray n}) (hf:f {cls:=.type "list",data:=.seq its.toArray n}={cls:=.type "list",data:=.seq its'.toArray n'}) (r:Vals ys its') (hz:ys.length≤sizeLine) (t:Nat):
 Inv X pins σ (Ah H p (.lst ys)) {s with heap:=s.heap.update p f,toks:=t}:=by
 have e:(s.heap.update p f).get? p=some {cls:=.type "list",data:=.seq its'.toArray n'}:=by
  rw [Di f ho (by rw [hf]<;>rfl),hf]
 refine I.write (x:=p) (e:=p) (by rw [h];trivial) (.inl rfl) (fun b u hb q=>(Fv _ _ (Ne.symm hb)).trans q) ⟨_,e⟩ ?_
 exact ⟨hz,its',n',r,e⟩
def UR:V→V→V→Hp→(Hp→Prop)→Prop:=fun o i v H Q=>∃p xs k j,o=.ref p∧i=.int k∧H p=some (.lst xs)∧B8 xs.length k=some j∧Q (Ah H p (.lst (xs.set j v)))
theorem US:Nf X UR:=by
 intro pins s σ H o i v ov iv u Q I ro ri rv h
 obtain ⟨p,xs,k,j,rfl,rfl,hp,hj,q⟩:=h
 cases ro
 obtain ⟨t,rfl⟩:=ri
 obtain ⟨its,n,r,ho,hz⟩:=I.lst hp
 obtain ⟨h1,h2,h3,h4⟩:=NG hj
 have hl:=r.length
 have hn:=Ek
 have I':Inv X pins σ (Ah H p (.lst (xs.set j v))) {s with heap:=s.heap.update p (Obj.mapSeq (·.setIfInBounds j u))}:=
  I.lstUpd hp ho (UQ its n j u) (r.set rv j) (by rw [List.length_set];exact hz) s.toks
 by_cases h0:0≤k
 ·have hk:k.toNat=j:=by
   rw [seqIndex_of h0 h4] at h1
   exact Option.some.inj h1
  exact PySem.W.ki_setAt ho h0 (by omega) (by rw [Bu,←hl];exact h4) (by rw [hk];exact ⟨_,I',q⟩)
 ·have hk:(k+(its.toArray.size:Int)).toNat=j:=by
   rw [seqIndex_neg (by omega) h3] at h1
   rw [Bu,←hl]
   exact Option.some.inj h1
  exact PySem.W.ki_setBack ho (by omega) (by rw [Bu,←hl];exact h3) (by omega) (by rw [hk];exact ⟨_,I',q⟩)
def CQ:V→Bool
 |.non=>true
 |.bl _=>true
 |.int _=>true
 |.str _=>true
 |_=>false
def Dl:V→V→Bool
 |.non,.non=>true
 |.bl a,.bl b=>a==b
 |.bl a,.int b=>(if a then 1 else 0)==b
 |.int a,.bl b=>a==(if b then 1 else 0)
 |.int a,.int b=>a==b
 |.str a,.str b=>a==b
 |_,_=>false
theorem UT {A:Around} {s:Shared} {y x:V} {u v:Value} (ry:RelV y u) (rx:RelV x v) (fy:CQ y=true) (fx:CQ x=true):SeqAt.EqAt A s u v (Dl y x):=by
 cases y with
 |non=>
  cases ry
  cases x with
  |non=>cases rx;exact SeqAt.EqAt.same _
  |bl b=>cases rx;exact SeqAt.EqAt.none_bool b
  |int b=>obtain ⟨t,rfl⟩:=rx;exact SeqAt.EqAt.none_int b t
  |str b=>obtain ⟨t,rfl⟩:=rx;exact SeqAt.EqAt.none_str b t
  |_=>exact absurd (show false=true from fx) Bt
 |bl a=>
  cases ry
  cases x with
  |non=>cases rx;exact SeqAt.EqAt.bool_none a
  |bl b=>cases rx;exact SeqAt.EqAt.bool_bool a b
  |int b=>obtain ⟨t,rfl⟩:=rx;exact SeqAt.EqAt.bool_int a b t
  |str b=>obtain ⟨t,rfl⟩:=rx;exact SeqAt.EqAt.bool_str a b t
  |_=>exact absurd (show false=true from fx) Bt
 |int a=>
  obtain ⟨t',rfl⟩:=ry
  cases x with
  |non=>cases rx;exact SeqAt.EqAt.int_none a t'
  |bl b=>cases rx;exact SeqAt.EqAt.int_bool a t' b
  |int b=>obtain ⟨t,rfl⟩:=rx;exact SeqAt.EqAt.int_int a t' b t
  |str b=>obtain ⟨t,rfl⟩:=rx;exact SeqAt.EqAt.int_str a t' b t
  |_=>exact absurd (show false=true from fx) Bt
 |str a=>
  obtain ⟨t',rfl⟩:=ry
  cases x with
  |non=>cases rx;exact SeqAt.EqAt.str_none a t'
  |bl b=>cases rx;exact SeqAt.EqAt.str_bool a t' b
  |int b=>obtain ⟨t,rfl⟩:=rx;exact SeqAt.EqAt.str_int a t' b t
  |str b=>obtain ⟨t,rfl⟩:=rx;exact SeqAt.EqAt.str_str a t' b t
  |_=>exact absurd (show false=true from fx) Bt
 |_=>exact absurd (show false=true from fy) Bt
def Ci (x:V) (u:Value):Bool:=match u with
 |.none=>Dl .non x
 |.bool b=>Dl (.bl b) x
 |.int i _=>Dl (.int i) x
 |.str z _=>Dl (.str z) x
 |_=>false
theorem Ig {x y:V} {u:Value} (r:RelV y u) (f:CQ y=true):Ci x u=Dl y x:=by
 cases y with
 |non=>cases r;rfl
 |bl b=>cases r;rfl
 |int i=>obtain ⟨t,rfl⟩:=r;rfl
 |str z=>obtain ⟨t,rfl⟩:=r;rfl
 |_=>exact absurd (show false=true from f) Bt
theorem KL {x:V}:∀{xs:List V} {us:List Value},Vals xs us→xs.all CQ=true→us.any (Ci x)=xs.any fun y=>Dl y x
 |_,_,.nil,_=>rfl
 |y::xs,u::us,.cons r t,f=>by
  rw [List.all_cons,Bf] at f
  rw [List.any_cons,List.any_cons,Ig r f.1,KL t f.2]
theorem GP {A:Around} {s:Shared} {x:V} {v:Value} (rx:RelV x v) (fx:CQ x=true):∀{xs:List V} {us:List Value},Vals xs us→xs.all CQ=true→∀u∈us,SeqAt.EqAt A s u v (Ci x u)
 |_,_,.nil,_=>fun u hu=>by cases hu
 |y::xs,u::us,.cons r t,f=>fun u' hu=>by
  rw [List.all_cons,Bf] at f
  rcases qa4.mp hu with rfl |hu
  ·rw [Ig r f.1];exact UT r rx f.1 fx
  ·exact GP rx fx t f.2 u' hu
def Ih (x:V) (xs:List V):Bool:=xs.any fun y=>Dl y x
def NI (K:PySem.W.Frag) (neg:Bool):R2:=fun x y H Q=>∃p xs,y=.ref p∧(SqL K H p xs∨SqT K H p xs)∧CQ x=true∧xs.all CQ=true∧Q (.bl (if neg then !Ih x xs else Ih x xs)) H
theorem UU:OpR X (compareOp .In) (NI X.K false):=by
 intro pins s σ H x y v u Q I rx ry h
 obtain ⟨p,xs,rfl,hq,fx,fs,q⟩:=h
 cases ry
 rcases hq with hq |hq
 ·obtain ⟨its,r,pl,hz⟩:=I.list hq
  refine SeqAt.in_listAt (Ci x) pl.isList (fun w hw=>GP rx fx r fs w (by simpa using hw)) ⟨.bl _,H,I,rfl,?_⟩
  rw [show its.toArray.any (Ci x)=its.any (Ci x) by simp,KL r fs]
  exact q
 ·obtain ⟨its,r,pl,hz⟩:=I.tuple hq
  refine SeqAt.in_tupleAt (Ci x) pl (fun w hw=>GP rx fx r fs w (by simpa using hw)) ⟨.bl _,H,I,rfl,?_⟩
  rw [show its.toArray.any (Ci x)=its.any (Ci x) by simp,KL r fs]
  exact q
theorem UV:OpR X (compareOp .NotIn) (fun x y H Q=>∃i j,x=.str i∧y=.str j∧Q (.bl (!(!(Builtin.Str.occurrences j i 0 j.length 1).isEmpty))) H):=by
 intro pins s σ H x y v u Q I rx ry h
 obtain ⟨i,j,rfl,rfl,q⟩:=h
 obtain ⟨t,rfl⟩:=rx
 obtain ⟨t',rfl⟩:=ry
 exact notIn_str ⟨.bl _,H,I,rfl,q⟩
theorem UW:B3 X (.builtin "len") (fun xs H Q=>∃p ys,xs=[.ref p]∧(SqL X.K H p ys∨SqT X.K H p ys)∧Q (.int ys.length) H):=by
 intro pins s σ H xs us Q I r h
 obtain ⟨p,ys,rfl,hq,q⟩:=h
 obtain ⟨u,rfl,rx⟩:=Cy r
 cases rx
 have hn:=Ek
 rcases hq with hq |hq
 ·obtain ⟨its,r',pl,hz⟩:=I.list hq
  have hlen:=r'.length
  exact Calls.call_len_list pl.isList (by simp only [Bu]<;>omega) ⟨.int ys.length,H,I.tok _,⟨s.toks+1,by rw [Bu,hlen]⟩,q⟩
 ·obtain ⟨its,r',pl,hz⟩:=I.tuple hq
  have hlen:=r'.length
  exact len_tuple pl (by simp only [Bu]<;>omega) ⟨.int ys.length,H,I.tok _,⟨s.toks+1,by rw [Bu,hlen]⟩,q⟩
theorem UX:B3 X (.builtin "len") (fun xs H Q=>∃z,xs=[.str z]∧z.length≤sizeLine∧Q (.int z.length) H):=by
 intro pins s σ H xs us Q I r h
 obtain ⟨z,rfl,hz,q⟩:=h
 obtain ⟨u,rfl,t,rfl⟩:=Cy r
 have hn:=Ek
 exact len_str (by omega) ⟨.int z.length,H,I.tok _,⟨_,rfl⟩,q⟩
theorem UY:B3 X (.type "tuple") (fun xs H Q=>∃p ys,xs=[.ref p]∧((SqL X.K H p ys∧∀l,H l=none→Q (.ref l) (Ah H l (.tup ys)))∨(SqT X.K H p ys∧Q (.ref p) H))):=by
 intro pins s σ H xs us Q I r h
 obtain ⟨p,ys,rfl,h⟩:=h
 obtain ⟨u,rfl,rx⟩:=Cy r
 cases rx
 rcases h with ⟨hq,q⟩ |⟨hq,q⟩
 ·obtain ⟨its,r',pl,hz⟩:=I.list hq
  have hlen:=r'.length
  refine call_tuple_list pl.isList (fun h' kp=>?_) (by simp only [Bu]<;>omega)
  have I1:Inv X pins σ H {s with heap:=h'}:=I.kept (t':=s.toks) kp
  have I2:Inv X pins σ (Ah H h'.objs.size (.tup ys)) {s with heap:=h'.push {cls:=.type "tuple",data:=.seq its.toArray}}:=
   I1.laid (t':=s.toks) (fun b o e=>AB _ e) (Am _) (show ObjOk X.prog X.w _ _ _ (.tup ys) from ⟨hz,its,r',IsTup.new _ _,NoDict.new⟩)
  exact ⟨.ref h'.objs.size,_,I2,rfl,q _ (I1.hok.fresh (Am _))⟩
 ·obtain ⟨its,r',pl,hz⟩:=I.tuple hq
  exact call_tuple_same pl ⟨.ref p,H,I,rfl,q⟩
def NJ (K:PySem.W.Frag) (T:String) (x:V) (H:Hp):Prop:=match x with
 |.str _=>T="str"
 |.int _=>T="int"
 |.ref p=>(T="list"∧∃xs,SqL K H p xs)∨(T="tuple"∧∃o,K.lookup p=some o∧o.cls=.type "tuple"∧o.dict=none)
 |_=>False
theorem KM {pins:List (Addr×Obj)} {σ:St} {H:Hp} {s:Shared} {T:String} {x:V} {v:Value} (I:Inv X pins σ H s) (r:RelV x v) (ty:NJ X.K T x H):
 s.TypeIs v T∧∀a,v=.ref a→∃ob,s.heap.get? a=some ob∧ob.dict=none:=by
 cases x with
 |str z=>
  obtain ⟨t,rfl⟩:=r
  cases (show T="str" from ty)
  exact ⟨typeIs_str s z t,fun _ e=>nomatch e⟩
 |int i=>
  obtain ⟨t,rfl⟩:=r
  cases (show T="int" from ty)
  exact ⟨typeIs_int s i t,fun _ e=>nomatch e⟩
 |ref p=>
  cases r
  rcases ty with ⟨rfl,xs,hq⟩ |⟨rfl,o,hk,hc,hd⟩
  ·obtain ⟨its,_,pl,_⟩:=I.list hq
   refine ⟨pl.isList.typeIs,fun a e=>?_⟩
   cases e
   obtain ⟨o,n,e,c,hd,_⟩:=pl
   exact ⟨o,e,hd⟩
  ·refine ⟨⟨o,I.kIn p o hk,hc⟩,fun a e=>?_⟩
   cases e
   exact ⟨o,I.kIn _ o hk,hd⟩
 |_=>exact False.elim ty
def UZ (K:PySem.W.Frag) (T:String) (r:V→List V→Hp→VK→Prop) (to:TE) (t:TA):TE:=fun σ H Q=>to σ H fun x H1=>NJ K T x H1∧t σ H1 fun xs H2=>r x xs H2 Q
variable {o e:Expr} {es:List Expr} {to:TE} {t:TA} {name:Str} {apos cpos:Pos} {T id:String} {r:V→List V→Hp→VK→Prop}
theorem U0 (pa:PlainAttrs T) (slot:Slot T name id) (hty:typeOf (.builtin id)=pure (.type "method_descriptor")) (hm:KJ X id r) (ho:PE X o to) (ha:PA X (e::es) t)
 (hbase:attributeBase o name X.env (eval o X.env)=eval o X.env:=by rfl)
 (hfew:((backTo cpos (starEach (e::es) X.env)).all (fun x=>!x.1)&&(backToKw cpos (keywordEach [] X.env)).all (fun x=>x.1.isSome)
  &&decide ((e::es).length+([]:List Keyword).length+(if ([]:List Keyword).isEmpty then 0 else 1)<30))=true:=by rfl)
 (hline:(apos.endLine==cpos.line)=true:=by rfl) (hs:starEach (e::es) X.env=(false,eval e X.env)::starEach es X.env:=by rfl) (hplain:(backTo cpos (starEach es X.env)).any (·.1)=false:=by rfl):
 PE X (.Call (.Attribute o name apos) (e::es) [] cpos) (UZ X.K T r to t):=by
 intro pins s σ H Q I h
 refine wpAny_Call_method_late hbase hfew hline rfl (An (ho pins s σ H _ I h) fun v s1 z89_=>?_)
 obtain ⟨x,H1,I1,r1,ty,q1⟩:=z89_
 obtain ⟨h1,h2⟩:=KM I1 r1 ty
 refine ⟨T,id,pa,slot,hty,h1,h2,?_⟩
 have hA:=ha cpos pins s1 σ H1 _ I1 q1
 rw [hs] at hA ⊢
 refine Calls.callWith_builtin (by show (false||(backTo cpos (starEach es X.env)).any (·.1))=false;rw [hplain]<;>rfl) (Calls.evalArgs_plain ?_)
 exact An hA fun us s2 z90_=>by obtain ⟨vs,H2,I2,r2,q2⟩:=z90_;exact (hm pins s2 σ H2 x vs v us Q I2 r1 r2 q2)
end
def U1 (X:Cx) (id:String) (r:V→List V→Hp→VK→Prop):Prop:=
 ∀(pins:List (Addr×Obj)) (s:Shared) (σ:St) (H:Hp) (x:V) (xs:List V) (v:Value) (us:List Value) (Q:VK),Inv X pins σ H s→RelV x v→Vals xs us→r x xs H Q→
  wpAny (model X.prog X.w) X.A (call (.builtin id) (v::us)) (EP X pins σ Q) X.xe s
theorem Vals.one {x:V} {us:List Value} (h:Vals [x] us):∃u,us=[u]∧RelV x u:=by
 cases h with
 |cons r t=>cases t;exact ⟨_,rfl,r⟩
theorem Vals.reverse {xs:List V} {us:List Value} (h:Vals xs us):Vals xs.reverse us.reverse:=by
 induction h with
 |nil=>exact .nil
 |cons r t ih=>rw [List.reverse_cons,List.reverse_cons];exact Vals.append ih (.cons r .nil)
theorem Vals.rep {xs:List V} {us:List Value} (h:Vals xs us):∀k:Nat,Vals (List.replicate k xs).flatten (List.replicate k us).flatten
 |0=>.nil
 |k+1=>by
  rw [Ef,Ef,EK,EK]
  exact Vals.append h (Vals.rep h k)
theorem Ii (its:List Value):∀(k:Nat) (acc:List Value),
 List.foldl (fun x1 x2=>x1++x2) acc.toArray (List.replicate k its.toArray)=(acc++(List.replicate k its).flatten).toArray
 |0,acc=>by simp
 |k+1,acc=>by
  have e:acc.toArray++its.toArray=(acc++its).toArray:=by simp
  have e2:(acc++its)++(List.replicate k its).flatten=acc++(List.replicate (k+1) its).flatten:=by
   rw [Ef,EK,List.append_assoc]
  rw [←e2,←Ii its k (acc++its),←e,Ef,List.foldl_cons]
section
variable {X:Cx} {pins:List (Addr×Obj)} {σ:St} {H:Hp} {s:Shared} {l b:Addr} {xs ys zs:List V}
theorem Inv.lset {its its':List Value} {n:Nat} {f:Array Value→Array Value} {t':Nat} (I:Inv X pins σ H s) (hH:H l=some (.lst xs))
 (e:s.heap.get? l=some {cls:=.type "list",data:=.seq its.toArray n}) (hf:f its.toArray=its'.toArray) (hv:Vals ys its') (hz:ys.length≤sizeLine):
 Inv X pins σ (Ah H l (.lst ys)) {s with heap:=s.heap.update l (Obj.mapSeq f),toks:=t'}:=by
 have q:=PySem.IsL.update e f
 rw [hf] at q
 refine I.write (x:=l) (e:=l) (by rw [hH];exact trivial) (.inl rfl) (fun b' u hb hu=>(Fv s.heap (Obj.mapSeq f) (Ne.symm hb)).trans hu) ⟨_,q⟩ ?_
 exact ⟨hz,its',_,hv,q⟩
theorem Inv.lnew {its:List Value} {t':Nat} (I:Inv X pins σ H s) (hv:Vals ys its) (hz:ys.length≤sizeLine):
 Inv X pins σ (Ah H s.heap.objs.size (.lst ys)) {s with heap:=s.heap.push {cls:=.type "list",data:=.seq its.toArray},toks:=t'}:=
 I.laid (fun _ _ q=>AB _ q) (Am _) ⟨hz,its,0,hv,AW _ rfl⟩
theorem Inv.fresh (I:Inv X pins σ H s):H s.heap.objs.size=none:=I.hok.fresh (Am _)
theorem Inv.lstM (I:Inv X pins σ H s) (hH:H l=some (.lst xs)):xs.length≤sizeLine∧∃(its:List Value) (n:Nat),Vals xs its∧xs.length=its.length∧s.heap.get? l=some {cls:=.type "list",data:=.seq its.toArray n}:=by
 obtain ⟨z,its,n,r,e⟩:=I.hok l _ hH
 exact ⟨z,its,n,r,r.length,e⟩
theorem U2 {n:Nat} (h:n≤sizeLine):Builtin.List.listTooLong n=false:=by
 unfold Builtin.List.listTooLong
 exact decide_eq_false (by omega)
end
section
variable {X:Cx}
def U3:V→List V→Hp→VK→Prop:=fun x vs H Q=>∃l xs y,x=.ref l∧vs=[y]∧H l=some (.lst xs)∧xs.length<sizeLine∧Q .non (Ah H l (.lst (xs++[y])))
theorem U4:U1 X "list.append" U3:=by
 intro pins s σ H x vs v us Q I rx rv h
 obtain ⟨l,xs,y,rfl,rfl,hH,hz,q⟩:=h
 cases rx
 obtain ⟨u,rfl,ru⟩:=rv.one
 obtain ⟨z,its,n,r,hl,e⟩:=I.lstM hH
 refine call_meets F.slot_list_append ⟨_,e,rfl⟩ F.entry_list_append (F.args_list_append_2 _ _) (PySem.list_append l its.toArray n u (by rw [Bu];omega)) ⟨e,?_⟩
 refine ⟨.non,_,I.lset (its':=its++[u]) hH e (by simp) (r.append (.cons ru .nil)) ?_,rfl,q⟩
 rw [Cu,List.length_singleton]
 omega
def U5:R2:=fun x y H Q=>∃l b xs zs,x=.ref l∧y=.ref b∧H l=some (.lst xs)∧H b=some (.lst zs)∧xs.length+zs.length≤sizeLine∧∀p,H p=none→Q (.ref p) (Ah H p (.lst (xs++zs)))
theorem op_cat:OpR X (binaryOp .Add) U5:=by
 intro pins s σ H x y v u Q I rx ry h
 obtain ⟨l,b,xs,zs,rfl,rfl,hH,hB,hz,q⟩:=h
 cases rx
 cases ry
 obtain ⟨z,its,n,r,hl,e⟩:=I.lstM hH
 obtain ⟨z2,its2,n2,r2,hl2,e2⟩:=I.lstM hB
 refine PySem.P.add_list e e2 ?_ (by rw [Bu,Bu];omega)
 have ea:its.toArray++its2.toArray=(its++its2).toArray:=by simp
 rw [ea]
 exact ⟨.ref _,_,I.lnew (t':=s.toks) (r.append r2) (by rw [Cu];omega),rfl,q _ I.fresh⟩
def U6:R2:=fun x y H Q=>∃l k xs,x=.ref l∧y=.int k∧H l=some (.lst xs)∧-(2^63)≤k∧k<2^63∧xs.length*k.toNat≤sizeLine∧
 ∀p,H p=none→Q (.ref p) (Ah H p (.lst (List.replicate k.toNat xs).flatten))
theorem Ij {α:Type} (xs:List α) (k:Nat):(List.replicate k xs).flatten.length=k*xs.length:=by
 induction k with
 |zero=>simp
 |succ k ih=>rw [Ef,EK,Cu,ih,FB,Nat.add_comm]
theorem U7:OpR X (binaryOp .Mult) U6:=by
 intro pins s σ H x y v u Q I rx ry h
 obtain ⟨l,k,xs,rfl,rfl,hH,h1,h2,hz,q⟩:=h
 cases rx
 obtain ⟨t,rfl⟩:=ry
 obtain ⟨z,its,n,r,hl,e⟩:=I.lstM hH
 have hlen:its.toArray.size*k.toNat≤sizeLine:=by rw [Bu,←hl];exact hz
 have hcap:¬its.toArray.size*k.toNat>(2^63 - 1) / 8:=by
  have:(sizeLine:Nat)≤(2^63 - 1) / 8:=by decide
  omega
 have hfit:¬(!Builtin.List.listFitsIndex k)=true:=by
  rw [fitsIndex_both h1 h2]
  exact Bt
 have hlong:¬Builtin.List.listTooLong (its.toArray.size*k.toNat)=true:=by
  rw [U2 hlen]
  exact Bt
 have hnew:List.foldl (fun x1 x2=>x1++x2) #[] (List.replicate (if its.toArray.isEmpty=true then 0 else k.toNat) its.toArray)=(List.replicate k.toNat its).flatten.toArray:=by
  have f0:∀m:Nat,List.foldl (fun x1 x2=>x1++x2) #[] (List.replicate m its.toArray)=(List.replicate m its).flatten.toArray:=fun m=>by
   have:=Ii its m []
   rw [HI] at this
   exact this
  rw [f0]
  cases its with
  |nil=>simp
  |cons a r'=>rw [if_neg (by simp)]
 refine wpAny_binaryOp_repeat_ref (T:="list") (U:="int") (by decide) ⟨_,e,rfl⟩ (fun s'=>typeIs_int s' k t) noFill_list_mul F.fills_int_mul F.slot_int_rmul repeat_list F.slot_int_index.lookup
  (call_meets F.slot_int_rmul (typeIs_int s k t) F.entry_int_rmul (F.args_int_rmul_2 _ _) (int___rmul___int_list k t l its.toArray n)
   ⟨e,rfl,⟨_,e,rfl⟩,call_meets F.slot_list_mul ⟨_,e,rfl⟩ F.entry_list_mul (F.args_list_mul_2 _ _) (AutoListH.list___mul___list_int_3 l its.toArray n k t hfit hcap hlong) ⟨e,?_⟩⟩)
 rw [hnew]
 exact ⟨.ref _,_,I.lnew (t':=s.toks) (r.rep k.toNat) (by rw [Ij,Nat.mul_comm];exact hz),rfl,q _ I.fresh⟩
end
section
variable {prog:Program} {w:World} {A:Around} {E:Value→Shared→Prop} {s:Shared}
end
section
variable {X:Cx}
end
end L2
namespace Att
open PySem PySem.W PySem.Calls PyProof.Rows
theorem U8 {P:Params} {h:Heap}:∀(ns:List Int) (vs:List Value),WellAll P h vs (ns.map WData.int)→IntsAre vs ns:=by
 intro ns
 induction ns with
 |nil=>
  intro vs w
  rw [List.map_nil] at w
  cases w
  exact .nil
 |cons n ns ih=>
  intro vs w
  rw [A4] at w
  cases w with
  |cons a b=>
   cases a
   exact .cons _ _ (ih _ b)
theorem U9 {l:OpenLaw} {n:Nat} (hn:l.most=some n) {P:Params} {h:Heap} {args:List WData} {vals:List Value}
 (hpre:l.row.toRowW.claim.pre args=true) (hwl:WellAll P h vals args):
 ∃a vs ns,vals=[Value.ref a]∧args=[WData.list (ns.map WData.int)]∧h.get? a=some {cls:=.type "list",data:=.seq vs.toArray}∧IntsAre vs ns∧ns.length≤n:=by
 have hsh:WShape.hasAll [] args [.list .int]=true:=(pre_splitW hpre).1
 have hc:l.pre.holds [] {args:=args}=true:=(pre_splitW hpre).2
 obtain ⟨d,r,rfl,h1,h2⟩:=hasAllW_cons hsh
 obtain rfl:=hasAllW_nil h2
 obtain ⟨xs,rfl,h3⟩:=hasW_list h1
 obtain ⟨ns,rfl⟩:=items_int h3
 have hlen:ns.length≤n:=by
  unfold OpenLaw.pre at hc
  have h4:(WTm.not (.lt (.lit (.int (n:Int))) (.len (.arg 0)))).holds [] {args:=[.list (ns.map .int)]}=true:=by
   have h4:=(holds_andW hc).1
   rw [hn] at h4
   exact h4
  have h5:=condW_of h4 (w_not (w_lt w_lit (w_len_list (w_arg rfl))))
  rw [Bo] at h5
  refine GF fun q=>?_
  have q':(n:Int)<((ns.length:Nat):Int):=by omega
  first
   |(rw [decide_eq_true q'] at h5;exact absurd h5 (by decide))
   |(simp at h5;omega)
 cases hwl with
 |cons w1 w2=>
  cases w2
  cases w1 with
  |list ho hall=>exact ⟨_,_,ns,rfl,rfl,ho,U8 ns _ hall,hlen⟩
theorem Va (l:OpenLaw) (args:List WData):l.row.toRowW.claim.post args (.bool true) args=true:=
 postW_of (r:=l.row.toRowW) (X:=(true==true))
  (show WShape.has [] (.bool true) .bool=true by first |rfl |decide |simp [WShape.has,WShape.arms,WShape.armsAll])
  (show (WTm.eq .res (.lit (.bool true))).value [] {args:=args,res:=some (.bool true),after:=args}=some (.bool (true==true)) from w_eq_bool (w_res rfl) w_lit) rfl
section
variable {prog:Program} {w:World} {A:Around} {E:Value→Shared→Prop} {s:Shared} {K:Frag}
end
end Att
namespace L2
open PySem PySem.Spec PyProof.Rows
theorem vals_ints:∀{vs:List Value} {ns:List Int},IntsAre vs ns→Vals (ns.map V.int) vs
 |_,_,.nil=>.nil
 |_,_,.cons n t h=>.cons ⟨t,rfl⟩ (vals_ints h)
def defArgs (s:Stmt):Arguments:=match s with
 |.FunctionDef _ a _ _ _ _ _ _ _ _=>a
 |_=>{posonlyargs:=[],args:=[],vararg:=none,kwonlyargs:=[],kw_defaults:=[],kwarg:=none,defaults:=[]}
def defBody (s:Stmt):List Stmt:=match s with
 |.FunctionDef _ _ b _ _ _ _ _ _ _=>b
 |_=>[]
def defScope (s:Stmt):Scope:=match s with
 |.FunctionDef _ _ _ _ _ _ sc _ _ _=>sc
 |_=>{kind:=.function,names:=[],isGenerator:=false,isCoroutine:=false}
abbrev NK:Dk:=fun _ _ _ _ _ _=>False
abbrev E0:XK:=fun _ _ _=>False
inductive NL (K:PySem.W.Frag) (x qual:Str) (st:Stmt) (f:Addr) (fd:FuncData):Prop where
 |mk (oc:Value) (od:Option Addr) (kV doc pm:Value) (an:Option Addr) (cdv ct:Value) (osl:Array (Option Value)) (f1:fd=PySem.W.fnOf x qual (defArgs st) (defBody st) (defScope st) .none kV doc pm an cdv ct) (f2:K.lookup f=some ⟨oc,od,.func fd,osl⟩) (f3:PySem.W.codeIn K cdv qual=true):NL K x qual st f fd
structure Fun (K:PySem.W.Frag) (x qual:Str) (st:Stmt) (f:Addr) (fd:FuncData):Prop where
 ex:NL K x qual st f fd
 kp:PySem.W.keepIn K (.ref f)=true
section
variable {P:Program} {w:World} {K:PySem.W.Frag} {mg:Str→Option Value} {base:Heap}
theorem Fun.binds {x qual:Str} {st:Stmt} {f:Addr} {fd:FuncData} {ps:List Str} (F:Fun K x qual st f fd)
 (h:∀(kV doc pm:Value) (an:Option Addr) (cdv ct:Value) (us:List Value),us.length=ps.length→bindArgs (PySem.W.fnOf x qual (defArgs st) (defBody st) (defScope st) .none kV doc pm an cdv ct) ⟨us,[]⟩=pure (ps.zip us)):Binds K fd ps []:=by
 obtain ⟨oc,od,kV,doc,pm,an,cdv,ct,osl,rfl,lk,hcd⟩:=F.ex
 exact .all (h kV doc pm an cdv ct)
theorem KN {x qual:Str} {st:Stmt} {f:Addr} {oc:Value} {od an:Option Addr} {osl:Array (Option Value)} {kV doc pm cdv ct:Value} (l:K.lookup f=some ⟨oc,od,.func (PySem.W.fnOf x qual (defArgs st) (defBody st) (defScope st) .none kV doc pm an cdv ct),osl⟩)
 (c:PySem.W.codeIn K cdv qual=true) (k:PySem.W.keepIn K (.ref f)=true):Fun K x qual st f (PySem.W.fnOf x qual (defArgs st) (defBody st) (defScope st) .none kV doc pm an cdv ct):=⟨⟨oc,od,kV,doc,pm,an,cdv,ct,osl,rfl,l,c⟩,k⟩
end
section
variable {X:Cx}
end
end L2
namespace LS
open PySem PySem.Spec PyProof.Rows L2
inductive D where
 |non |bl (b:Bool) |int (i:Int) |str (x:Str) |tup (ds:List D) |loc (l:Nat) |scr (ns:List Int) |adr (a:Addr) |ty (n:String) |exc (n:Str) (fs:List (Str×Int)) |edic |glo (n:Str) |clo (a:Addr) (vs:List V) (ds:List D)
inductive AM where
 |i (n:Int) |t (ns:List Int) |b (rs:List (List Int))
 deriving DecidableEq
def kD:AM→D
 |.i n=>.int n
 |.t ns=>.tup (ns.map D.int)
 |.b rs=>.tup (rs.map fun r=>.tup (r.map D.int))
inductive Cell where
 |lst (ds:List D) |tabn (g:Str) |dic (fz:Bool) (kvs:List (AM×D)) |ins (n:Str) (fs:List (Str×D))
abbrev Cell.tab:Cell:=.tabn "law"
def NM (g:Str):Str:=g++(".<locals>.":Str)
def A6 (g:Str):Str:=NM g++("<lambda>":Str)
abbrev HD:=List Cell
abbrev Ae:=List (Option D)
inductive Out (α:Type) where
 |ok (a:α) (h:HD) |err (C:Value) (fs:List (Str×D)) (h:HD) |stuck
def Out.bind {α β:Type} (o:Out α) (k:α→HD→Out β):Out β:=match o with
 |.ok a h=>k a h
 |.err C fs h=>.err C fs h
 |.stuck=>.stuck
@[simp] theorem Out.bind_ok {α β:Type} (a:α) (h:HD) (k:α→HD→Out β):(Out.ok a h).bind k=k a h:=rfl
@[simp] theorem Out.bind_err {α β:Type} (C:Value) (fs:List (Str×D)) (h:HD) (k:α→HD→Out β):(Out.err C fs h:Out α).bind k=.err C fs h:=rfl
@[simp] theorem Out.bind_stuck {α β:Type} (k:α→HD→Out β):(Out.stuck:Out α).bind k=.stuck:=rfl
def KO:HO→Bool
 |.tup _=>true
 |.frz _ _=>true
 |.ext _=>true
 |.xd _=>true
 |_=>false
def Kp (H H':Hp):Prop:=∀b o,H b=some o→KO o=true→H' b=some o
theorem Kp.refl (H:Hp):Kp H H:=fun _ _ e _=>e
theorem Kp.trans {H H1 H2:Hp} (a:Kp H H1) (b:Kp H1 H2):Kp H H2:=fun c o e i=>b c o (a c o e i) i
theorem Kp.new {H:Hp} {p:Addr} {o:HO} (h:H p=none):Kp H (Ah H p o):=fun b u e _=>by rw [Av (Dj e h)];exact e
theorem Kp.set {H:Hp} {p:Addr} {o u:HO} (h:H p=some o) (i:KO o=false):Kp H (Ah H p u):=fun b w e iw=>by
 rw [Av]
 ·exact e
 ·intro z
  rw [z,h] at e;cases e;rw [i] at iw;cases iw
def FzL (K:PySem.W.Frag) (H:Hp) (a:Addr) (xs:List V):Prop:=(∃o,H a=some (.frz o (.lst xs)))∨SqL K (fun _=>none) a xs
theorem Kp.fzL {K:PySem.W.Frag} {H H':Hp} {a:Addr} {xs:List V} (k:Kp H H') (h:FzL K H a xs):FzL K H' a xs:=by
 rcases h with ⟨o,h⟩ |h
 ·exact .inl ⟨o,k _ _ h rfl⟩
 ·exact .inr h
theorem FzL.sq {K:PySem.W.Frag} {H:Hp} {a:Addr} {xs:List V} (h:FzL K H a xs):SqL K H a xs:=by
 rcases h with ⟨o,h⟩ |(h |⟨o,h⟩) |h
 ·exact .inl (.inr ⟨o,h⟩)
 ·cases h
 ·cases h
 ·exact .inr h
def En (C:Addr) (da:Option Addr) (a:Addr) (h:Heap):Prop:=∃o vs,h.get? a=some o∧o.cls=.ref C∧(∀d,da=some d→o.dict=some d)∧o.data=.fields vs
def KP (a:Addr) (h:Heap):Prop:=a≠sysModules∧∃o ep,h.get? a=some o∧o.ExactDict∧o.data=.dict #[] ep
mutual
def DV (K:PySem.W.Frag) (m:List Addr) (H:Hp):D→V→Prop
 |.non,v=>v=.non
 |.bl b,v=>v=.bl b
 |.int i,v=>v=.int i
 |.str x,v=>v=.str x
 |.tup ds,v=>∃a vs,v=.ref a∧H a=some (.tup vs)∧DVs K m H ds vs
 |.loc l,v=>∃a,v=.ref a∧m[l]?=some a
 |.scr ns,v=>∃a,v=.ref a∧FzL K H a (ns.map V.int)
 |.adr a,v=>v=.ref a
 |.ty n,v=>v=.ty n
 |.exc n fs,v=>∃a C da,v=.ref a∧PySem.W.nsIn K mainGlobals n=some (some (.ref C))∧H a=some (.ext (En C da a))∧∀f i,fs.lookup f=some i→∃d fv,da=some d∧H d=some (.xd fv)∧fv.lookup f=some (.int i)
 |.edic,v=>∃a,v=.ref a∧H a=some (.ext (KP a))
 |.glo n,v=>∃a,v=.ref a∧PySem.W.nsIn K mainGlobals n=some (some (.ref a))
 |.clo a vs ds,v=>v=.ref a∧DVs K m H ds vs
def DVs (K:PySem.W.Frag) (m:List Addr) (H:Hp):List D→List V→Prop
 |[],vs=>vs=[]
 |d::ds,vs=>∃v r,vs=v::r∧DV K m H d v∧DVs K m H ds r
end
section
variable {K:PySem.W.Frag} {m m':List Addr} {H H':Hp}
theorem KQ {l:Nat} {a:Addr} (p:m <+:m') (h:m[l]?=some a):m'[l]?=some a:=by
 obtain ⟨t,rfl⟩:=p
 have hl:l<m.length:=(qa1.mp h).1
 rw [Dr hl];exact h
mutual
theorem DV.keep (p:m <+:m') (k:Kp H H'):∀{d:D} {v:V},DV K m H d v→DV K m' H' d v
 |.non,_,h=>by simpa [DV] using h
 |.bl _,_,h=>by simpa [DV] using h
 |.int _,_,h=>by simpa [DV] using h
 |.str _,_,h=>by simpa [DV] using h
 |.tup ds,_,h=>by
  simp only [DV] at h ⊢
  obtain ⟨a,vs,e,q,r⟩:=h
  exact ⟨a,vs,e,k _ _ q rfl,DVs.keep p k r⟩
 |.loc l,_,h=>by
  simp only [DV] at h ⊢
  obtain ⟨a,e,q⟩:=h
  exact ⟨a,e,KQ p q⟩
 |.scr ns,_,h=>by
  simp only [DV] at h ⊢
  obtain ⟨a,e,q⟩:=h
  exact ⟨a,e,k.fzL q⟩
 |.adr _,_,h=>by simpa [DV] using h
 |.ty _,_,h=>by simpa [DV] using h
 |.exc _ _,_,h=>by
  simp only [DV] at h ⊢
  obtain ⟨a,C,da,e,q,r,t⟩:=h
  exact ⟨a,C,da,e,q,k _ _ r rfl,fun f i z=>let ⟨d,fv,z1,z2,z3⟩:=t f i z;⟨d,fv,z1,k _ _ z2 rfl,z3⟩⟩
 |.edic,_,h=>by
  simp only [DV] at h ⊢
  obtain ⟨a,e,r⟩:=h
  exact ⟨a,e,k _ _ r rfl⟩
 |.glo _,_,h=>by simpa [DV] using h
 |.clo _ _ ds,_,h=>by
  simp only [DV] at h ⊢
  exact ⟨h.1,DVs.keep p k h.2⟩
theorem DVs.keep (p:m <+:m') (k:Kp H H'):∀{ds:List D} {vs:List V},DVs K m H ds vs→DVs K m' H' ds vs
 |[],_,h=>by simpa [DVs] using h
 |d::ds,_,h=>by
  simp only [DVs] at h ⊢
  obtain ⟨v,r,e,q,t⟩:=h
  exact ⟨v,r,e,DV.keep p k q,DVs.keep p k t⟩
end
theorem DVs.nil:DVs K m H [] []:=by simp [DVs]
theorem DVs.cons {d:D} {v:V} {ds:List D} {vs:List V} (h:DV K m H d v) (t:DVs K m H ds vs):DVs K m H (d::ds) (v::vs):=by
 simp only [DVs];exact ⟨v,vs,rfl,h,t⟩
theorem DVs.len:∀{ds:List D} {vs:List V},DVs K m H ds vs→ds.length=vs.length
 |[],_,h=>by simp only [DVs] at h;subst h;rfl
 |d::ds,_,h=>by
  simp only [DVs] at h
  obtain ⟨v,r,e,_,t⟩:=h
  subst e
  simp [DVs.len t]
theorem DVs.get:∀{ds:List D} {vs:List V} {i:Nat} {d:D},DVs K m H ds vs→ds[i]?=some d→∃v,vs[i]?=some v∧DV K m H d v
 |[],_,_,_,_,e=>by simp at e
 |d::ds,_,i,x,h,e=>by
  simp only [DVs] at h
  obtain ⟨v,r,rfl,q,t⟩:=h
  cases i with
  |zero=>simp at e;subst e;exact ⟨v,rfl,q⟩
  |succ i=>
   obtain ⟨w,h1,h2⟩:=DVs.get (i:=i) t (by simpa using e)
   exact ⟨w,by simpa using h1,h2⟩
theorem DVs.app:∀{ds es:List D} {vs ws:List V},DVs K m H ds vs→DVs K m H es ws→DVs K m H (ds++es) (vs++ws)
 |[],_,_,_,h,t=>by simp only [DVs] at h;subst h;exact t
 |d::ds,_,_,_,h,t=>by
  simp only [DVs] at h
  obtain ⟨v,r,rfl,q,u⟩:=h
  exact .cons q (DVs.app u t)
theorem DVs.set:∀{ds:List D} {vs:List V} {d:D} {v:V} (i:Nat),DVs K m H ds vs→DV K m H d v→DVs K m H (ds.set i d) (vs.set i v)
 |[],_,_,_,_,h,_=>by simp only [DVs] at h;subst h;exact .nil
 |d::ds,_,_,_,i,h,q'=>by
  simp only [DVs] at h
  obtain ⟨v,r,rfl,q,u⟩:=h
  cases i with
  |zero=>exact .cons q' u
  |succ i=>exact .cons q (DVs.set i u q')
theorem DVs.take:∀{ds:List D} {vs:List V} (n:Nat),DVs K m H ds vs→DVs K m H (ds.take n) (vs.take n)
 |_,_,0,_=>by simpa using (DVs.nil:DVs K m H [] [])
 |[],_,n+1,h=>by simp only [DVs] at h;subst h;exact .nil
 |d::ds,_,n+1,h=>by
  simp only [DVs] at h
  obtain ⟨v,r,rfl,q,u⟩:=h
  exact .cons q (DVs.take n u)
theorem DVs.drop:∀{ds:List D} {vs:List V} (n:Nat),DVs K m H ds vs→DVs K m H (ds.drop n) (vs.drop n)
 |_,_,0,h=>by simpa using h
 |[],_,n+1,h=>by simp only [DVs] at h;subst h;exact .nil
 |d::ds,_,n+1,h=>by
  simp only [DVs] at h
  obtain ⟨v,r,rfl,q,u⟩:=h
  simpa using DVs.drop n u
theorem DVs.rep {ds:List D} {vs:List V} (h:DVs K m H ds vs):∀n,DVs K m H (List.replicate n ds).flatten (List.replicate n vs).flatten
 |0=>by simpa using (DVs.nil:DVs K m H [] [])
 |n+1=>by
  rw [Ef,EK,Ef,EK]
  exact h.app (DVs.rep h n)
def FG (q:Str) (c:Addr) (h:Heap):Prop:=h.CodeRec (.ref c) q
def tabP (K:PySem.W.Frag) (g:Str):Option (Addr×Addr):=match PySem.W.nsIn K mainGlobals g with
 |some (some (.ref f))=>(match K.lookup f with
  |some ⟨_,_,.func fd,_⟩=>(match fd.code with
   |.ref c=>(match K.lookup c with
    |some ⟨_,_,.fields vs,_⟩=>(match (vs[11]?:Option Value) with
     |some (.ref P)=>some (c,P)
     |_=>none)
    |_=>none)
   |_=>none)
  |_=>none)
 |_=>none
def TabIs (K:PySem.W.Frag) (g:Str) (H:Hp) (a:Addr):Prop:=(∃c,tabP K g=some (c,a))∧∃ps,H a=some (.tbl ps)∧TriplesOk ps.toList∧∀pos cv,codeAmong pos ps.toList=some cv→∃c,cv=.ref c∧H c=some (.ext (FG (A6 g) c))
theorem TabIs.keep {K:PySem.W.Frag} {g:Str} {H H':Hp} {a:Addr} (t:TabIs K g H a) (k:Kp H H') (e:H' a=H a):TabIs K g H' a:=by
 obtain ⟨z,ps,h1,h2,h3⟩:=t
 exact ⟨z,ps,e.trans h1,h2,fun pos cv q=>let ⟨c,q1,q2⟩:=h3 pos cv q;⟨c,q1,k _ _ q2 rfl⟩⟩
def KR (hs:List Int):Int:=reduceHash (Builtin.Tuple.tupleHashOf hs)
def Vb:AM→Int
 |.i n=>hashInt n
 |.t ns=>KR (ns.map hashInt)
 |.b rs=>KR (rs.map fun r=>KR (r.map hashInt))
def Vc (p:AM×V×V) (e:DictEntry):Prop:=e.hash=Vb p.1∧RelV p.2.1 e.key∧RelV p.2.2 e.val
def Cz (a:Addr) (es:List (AM×V×V)) (h:Heap):Prop:=(a==sysModules)=false∧es.length≤sizeLine∧(es.map (·.1)).Nodup∧∃o us ep,h.get? a=some o∧o.ExactDict∧o.data=.dict us ep∧Paired Vc es us.toList
def EntD (K:PySem.W.Frag) (m:List Addr) (H:Hp):List (AM×D)→List (AM×V×V)→Prop
 |[],es=>es=[]
 |p::r,es=>∃kv vv r',es=(p.1,kv,vv)::r'∧DV K m H (kD p.1) kv∧DV K m H p.2 vv∧EntD K m H r r'
theorem EntD.keep {K:PySem.W.Frag} {m m':List Addr} {H H':Hp} (p:m <+:m') (k:Kp H H'):∀{kvs:List (AM×D)} {es:List (AM×V×V)},EntD K m H kvs es→EntD K m' H' kvs es
 |[],_,h=>h
 |_::_,_,h=>by
  obtain ⟨kv,vv,r',e,d1,d2,t⟩:=h
  exact ⟨kv,vv,r',e,d1.keep p k,d2.keep p k,t.keep p k⟩
def DicH (fz:Bool) (H:Hp) (a:Addr) (es:List (AM×V×V)):Prop:=match fz with
 |true=>∃o,H a=some (.frz o (.dct (Cz a es)))
 |false=>H a=some (.dct (Cz a es))
theorem DicH.some {fz:Bool} {H:Hp} {a:Addr} {es:List (AM×V×V)} (d:DicH fz H a es):∃o,H a=some o:=by
 cases fz with
 |true=>obtain ⟨o,e⟩:=d;exact ⟨_,e⟩
 |false=>exact ⟨_,d⟩
theorem DicH.same {fz:Bool} {H H':Hp} {a:Addr} {es:List (AM×V×V)} (d:DicH fz H a es) (e:H' a=H a):DicH fz H' a es:=by
 cases fz with
 |true=>obtain ⟨o,z⟩:=d;exact ⟨o,e.trans z⟩
 |false=>exact e.trans d
theorem DicH.rd {fz:Bool} {H:Hp} {a:Addr} {es:List (AM×V×V)} (d:DicH fz H a es):Rd H a (.dct (Cz a es)):=by
 cases fz with
 |true=>obtain ⟨o,z⟩:=d;exact .inr ⟨o,z⟩
 |false=>exact .inl d
def FDs (K:PySem.W.Frag) (m:List Addr) (H:Hp):List (Str×D)→List (Str×V)→Prop
 |[],vs=>vs=[]
 |p::r,vs=>∃v r',vs=(p.1,v)::r'∧DV K m H p.2 v∧FDs K m H r r'
theorem FDs.keep {K:PySem.W.Frag} {m m':List Addr} {H H':Hp} (p:m <+:m') (k:Kp H H'):∀{fs:List (Str×D)} {vs:List (Str×V)},FDs K m H fs vs→FDs K m' H' fs vs
 |[],_,h=>h
 |_::_,_,h=>by
  obtain ⟨v,r',e,d,t⟩:=h
  exact ⟨v,r',e,d.keep p k,t.keep p k⟩
inductive InsR (K:PySem.W.Frag) (m:List Addr) (H:Hp) (n:Str) (fs:List (Str×D)) (a:Addr):Prop where
 |mk (C dx:Addr) (fv:List (Str×V)) (f1:PySem.W.nsIn K mainGlobals n=some (some (.ref C))) (f2:H a=some (.ins C dx fv)) (f3:FDs K m H fs fv):InsR K m H n fs a
theorem InsR.keep {K:PySem.W.Frag} {m m':List Addr} {H H':Hp} {n:Str} {fs:List (Str×D)} {a:Addr} (x:InsR K m H n fs a) (p:m <+:m') (k:Kp H H') (e:H' a=H a):InsR K m' H' n fs a:=by
 obtain ⟨C,dx,fv,h1,h2,h3⟩:=x
 exact ⟨C,dx,fv,h1,e.trans h2,h3.keep p k⟩
def Ik (K:PySem.W.Frag) (m:List Addr) (H:Hp):Cell→Addr→Prop
 |.lst ds,a=>∃vs,H a=some (.lst vs)∧DVs K m H ds vs
 |.tabn g,a=>TabIs K g H a
 |.ins n fs,a=>InsR K m H n fs a
 |.dic fz kvs,a=>∃es,DicH fz H a es∧EntD K m H kvs es
structure HR (K:PySem.W.Frag) (m:List Addr) (h:HD) (H:Hp):Prop where
 len:m.length=h.length
 nd:m.Nodup
 cells:∀(l:Nat) (c:Cell) (a:Addr),h[l]?=some c→m[l]?=some a→Ik K m H c a
theorem HR.at {h:HD} {l:Nat} {c:Cell} (r:HR K m h H) (e:h[l]?=some c):∃a,m[l]?=some a∧Ik K m H c a:=by
 have hl:l<h.length:=(qa1.mp e).1
 have:l<m.length:=by rw [r.len];exact hl
 exact ⟨m[l],Bi this,r.cells l c _ e (Bi this)⟩
theorem HR.mem {h:HD} {a:Addr} (r:HR K m h H) (ha:a∈m):H a≠none:=by
 obtain ⟨l,hl,rfl⟩:=GA ha
 have hl':l<h.length:=by rw [←r.len];exact hl
 have:=r.cells l h[l] m[l] (Bi hl') (Bi hl)
 cases hc:h[l] with
 |lst ds=>
  rw [hc] at this
  obtain ⟨vs,e,_⟩:=this
  rw [e];simp
 |ins n fs=>
  rw [hc] at this
  obtain ⟨_,_,_,_,e,_⟩:=this
  rw [e];simp
 |tabn g=>
  rw [hc] at this
  obtain ⟨_,ps,e,_⟩:=this
  rw [e];simp
 |dic fz kvs=>
  rw [hc] at this
  obtain ⟨es,e,_⟩:=this
  obtain ⟨o,e⟩:=e.some
  rw [e];simp
theorem HR.same {h:HD} (r:HR K m h H) (k:Kp H H') (s:∀a∈m,H' a=H a):HR K m h H':=by
 refine ⟨r.len,r.nd,fun l c a e q=>?_⟩
 have hm:a∈m:=Ee q
 have:=r.cells l c a e q
 cases c with
 |lst ds=>
  obtain ⟨vs,e1,e2⟩:=this
  exact ⟨vs,by rw [s a hm];exact e1,e2.keep (AA _) k⟩
 |tabn g=>exact TabIs.keep this k (s a hm)
 |ins n fs=>exact InsR.keep this (AA _) k (s a hm)
 |dic fz kvs=>
  obtain ⟨es,e1,e2⟩:=this
  exact ⟨es,e1.same (s a hm),e2.keep (AA _) k⟩
theorem HR.new {h:HD} {p:Addr} {o:HO} (r:HR K m h H) (hp:H p=none):HR K m h (Ah H p o):=
 r.same (.new hp) fun a ha=>Av fun z=>r.mem ha (z ▸ hp)
theorem HR.newCell {h:HD} {p:Addr} {o:HO} {c:Cell} (r:HR K m h H) (hp:H p=none) (hc:Ik K (m++[p]) (Ah H p o) c p):HR K (m++[p]) (h++[c]) (Ah H p o):=by
 have hpm:p∉m:=fun z=>r.mem z hp
 refine ⟨by simp [r.len],?_,fun l c' a e q=>?_⟩
 ·rw [GC]
  refine ⟨r.nd,by simp,fun a ha b hb=>?_⟩
  rw [qaI] at hb
  subst hb
  intro z;subst z;exact hpm ha
 ·by_cases hl:l<m.length
  ·rw [Dr hl] at q
   rw [Dr (by rw [←r.len];exact hl)] at e
   have:=r.cells l c' a e q
   have hne:a≠p:=fun z=>hpm (z ▸ Ee q)
   cases c' with
   |lst ds=>
    obtain ⟨vs,e1,e2⟩:=this
    exact ⟨vs,by rw [Av hne];exact e1,e2.keep (GB _ _) (.new hp)⟩
   |tabn g=>exact TabIs.keep this (.new hp) (Av hne)
   |ins n fs=>exact InsR.keep this (GB _ _) (.new hp) (Av hne)
   |dic fz kvs=>
    obtain ⟨es,e1,e2⟩:=this
    exact ⟨es,e1.same (Av hne),e2.keep (GB _ _) (.new hp)⟩
  ·have h1:m.length≤l:=GF hl
   rw [Gx h1] at q
   rw [Gx (by rw [←r.len];exact h1)] at e
   have e0:l - m.length=0:=by
    cases hz:l - m.length with
    |zero=>rfl
    |succ n=>rw [hz] at q;simp at q
   rw [←r.len] at e
   rw [e0] at q e
   simp at q e
   subst q e
   exact hc
theorem HR.setCell {h:HD} {p:Addr} {l:Nat} {o u:HO} {c:Cell} (r:HR K m h H) (hl:m[l]?=some p) (ho:H p=some o) (i:KO o=false) (hc:Ik K m (Ah H p u) c p):HR K m (h.set l c) (Ah H p u):=by
 refine ⟨by simp [r.len],r.nd,fun j c' a e q=>?_⟩
 by_cases hj:j=l
 ·subst hj
  rw [hl] at q;cases q
  have hlt:j<h.length:=by rw [←r.len];exact (qa1.mp hl).1
  rw [BV hlt] at e
  cases e
  exact hc
 ·rw [Bj (Ne.symm hj)] at e
  have:=r.cells j c' a e q
  have hne:a≠p:=by
   intro z
   subst z
   obtain ⟨h1,e1⟩:=qa1.mp q
   obtain ⟨h2,e2⟩:=qa1.mp hl
   exact hj ((List.getElem_inj r.nd).mp (e1.trans e2.symm))
  cases c' with
  |lst ds=>
   obtain ⟨vs,e1,e2⟩:=this
   exact ⟨vs,by rw [Av hne];exact e1,e2.keep (AA _) (.set ho i)⟩
  |tabn g=>exact TabIs.keep this (.set ho i) (Av hne)
  |ins n fs=>exact InsR.keep this (AA _) (.set ho i) (Av hne)
  |dic fz kvs=>
   obtain ⟨es,e1,e2⟩:=this
   exact ⟨es,e1.same (Av hne),e2.keep (AA _) (.set ho i)⟩
def ER (K:PySem.W.Frag) (m:List Addr) (H:Hp) (ρ:Ae) (σ:L2.St):Prop:=ρ.length=σ.length∧∀(i:Nat) (d:D),ρ[i]?=some (some d)→∃v,σ[i]?=some (some v)∧DV K m H d v
theorem ER.keep {ρ:Ae} {σ:L2.St} (p:m <+:m') (k:Kp H H') (e:ER K m H ρ σ):ER K m' H' ρ σ:=⟨e.1,fun i d h=>let ⟨v,a,b⟩:=e.2 i d h;⟨v,a,b.keep p k⟩⟩
theorem ER.set {ρ:Ae} {σ:L2.St} {i:Nat} {d:D} {v:V} (e:ER K m H ρ σ) (r:DV K m H d v):ER K m H (ρ.set i (some d)) (σ.set i (some v)):=by
 refine ⟨by simp [e.1],fun j d' h=>?_⟩
 by_cases hj:i=j
 ·subst hj
  by_cases hl:i < ρ.length
  ·rw [BV hl] at h
   cases h
   exact ⟨v,by rw [BV (by rw [←e.1];exact hl)],r⟩
  ·rw [List.getElem?_eq_none (by simp;omega)] at h;cases h
 ·rw [Bj hj] at h
  obtain ⟨w,a,b⟩:=e.2 j d' h
  exact ⟨w,by rw [Bj hj];exact a,b⟩
theorem ER.start {N:List Str} {ds:List D} {vs:List V} (h:DVs K m H ds vs):ER K m H (ds.map some++List.replicate (N.length - ds.length) none) (L2.start N vs):=by
 refine ⟨by simp [L2.start,h.len],fun i d e=>?_⟩
 by_cases hl:i<ds.length
 ·rw [Dr (by simpa using hl),B0] at e
  obtain ⟨d',e1⟩:∃d',ds[i]?=some d':=⟨ds[i],Bi hl⟩
  rw [e1] at e
  simp at e
  subst e
  obtain ⟨v,q,r⟩:=h.get e1
  refine ⟨v,?_,r⟩
  unfold L2.start
  rw [Dr (by simpa [←h.len] using hl),B0,q]
  rfl
 ·rw [Gx (by simpa using GF hl)] at e
  rw [Km] at e
  split at e<;>cases e
def XD (K:PySem.W.Frag) (m:List Addr) (H:Hp) (fs:List (Str×D)) (da:Option Addr):Prop:=
 ∀f d,fs.lookup f=some d→∃a fv v,da=some a∧H a=some (.xd fv)∧fv.lookup f=some v∧DV K m H d v
def Post {α β:Type} (K:PySem.W.Frag) (R:List Addr→Hp→α→β→Prop) (m:List Addr) (H:Hp) (E:XK) (Q:β→Hp→Prop):Out α→Prop
 |.ok a h'=>∀v m' H',m <+:m'→Kp H H'→HR K m' h' H'→R m' H' a v→Q v H'
 |.err C fs h'=>∀da m' H',m <+:m'→Kp H H'→HR K m' h' H'→XD K m' H' fs da→E C da H'
 |.stuck=>False
theorem Post.ahead {α β:Type} {R:List Addr→Hp→α→β→Prop} {E:XK} {Q:β→Hp→Prop} {o:Out α} (p:m <+:m') (k:Kp H H') (h:Post K R m H E Q o):Post K R m' H' E Q o:=by
 cases o with
 |ok a h'=>exact fun v m2 H2 p2 k2=>h v m2 H2 (p.trans p2) (k.trans k2)
 |err C fs h'=>exact fun da m2 H2 p2 k2=>h da m2 H2 (p.trans p2) (k.trans k2)
 |stuck=>exact h
theorem Post.bind {α β γ δ:Type} {R:List Addr→Hp→α→β→Prop} {R':List Addr→Hp→γ→δ→Prop} {E:XK} {Q:δ→Hp→Prop} {Q':β→Hp→Prop} {o:Out α} {k:α→HD→Out γ}
 (h:Post K R' m H E Q (o.bind k)) (f:∀a h1 v m1 H1,o=.ok a h1→m <+:m1→Kp H H1→HR K m1 h1 H1→R m1 H1 a v→Post K R' m1 H1 E Q (k a h1)→Q' v H1):Post K R m H E Q' o:=by
 cases o with
 |ok a h1=>exact fun v m1 H1 p kk hr r=>f a h1 v m1 H1 rfl p kk hr r (h.ahead p kk)
 |err C fs h1=>exact h
 |stuck=>exact h
theorem Post.mono {α β:Type} {R:List Addr→Hp→α→β→Prop} {E:XK} {Q Q':β→Hp→Prop} {o:Out α} (h:Post K R m H E Q o) (f:∀v H',Q v H'→Q' v H'):Post K R m H E Q' o:=by
 cases o with
 |ok a h1=>exact fun v m1 H1 p k hr r=>f _ _ (h v m1 H1 p k hr r)
 |err C fs h1=>exact h
 |stuck=>exact h
end
abbrev ME:=Ae→HD→Out D
abbrev MT:=Ae→HD→Out Bool
abbrev MA:=Ae→HD→Out (List D)
inductive Fl where
 |nx |bk |ct |rt (d:D)
abbrev MS:=Ae→HD→Out (Fl×Ae)
def rD (K:PySem.W.Frag):List Addr→Hp→D→V→Prop:=fun m H d v=>DV K m H d v
def rB:List Addr→Hp→Bool→Bool→Prop:=fun _ _ a b=>a=b
def FH (K:PySem.W.Frag):List Addr→Hp→List D→List V→Prop:=fun m H d v=>DVs K m H d v
inductive tM {α β:Type} (K:PySem.W.Frag) (R:List Addr→Hp→α→β→Prop) (E:XK) (f:Ae→HD→Out α) (σ:L2.St) (H:Hp) (Q:β→Hp→Prop):Prop where
 |mk (m:List Addr) (ρ:Ae) (h:HD) (hr:HR K m h H) (er:ER K m H ρ σ) (p:Post K R m H E Q (f ρ h)):tM K R E f σ H Q
abbrev tD (K:PySem.W.Frag) (E:XK) (f:ME):TE:=tM K (rD K) E f
abbrev GQ (K:PySem.W.Frag) (E:XK) (f:MT):TT:=tM K rB E f
abbrev NO (K:PySem.W.Frag) (E:XK) (f:MA):TA:=tM K (FH K) E f
def NP (K:PySem.W.Frag) (m:List Addr) (H:Hp) (D:CO):Fl×Ae→Prop
 |(.nx,ρ)=>∀σ,ER K m H ρ σ→D.nx σ H
 |(.bk,ρ)=>∀σ,ER K m H ρ σ→D.bk σ H
 |(.ct,ρ)=>∀σ,ER K m H ρ σ→D.ct σ H
 |(.rt d,_)=>∀v,DV K m H d v→D.rt v H
def PostS (K:PySem.W.Frag) (m:List Addr) (H:Hp) (E:XK) (D:CO):Out (Fl×Ae)→Prop
 |.ok a h'=>∀m' H',m <+:m'→Kp H H'→HR K m' h' H'→NP K m' H' D a
 |.err C fs h'=>∀da m' H',m <+:m'→Kp H H'→HR K m' h' H'→XD K m' H' fs da→E C da H'
 |.stuck=>False
inductive FI (K:PySem.W.Frag) (E:XK) (g:MS) (D:CO) (σ:L2.St) (H:Hp):Prop where
 |mk (m:List Addr) (ρ:Ae) (h:HD) (hr:HR K m h H) (er:ER K m H ρ σ) (p:PostS K m H E D (g ρ h)):FI K E g D σ H
theorem PostS.ahead {K:PySem.W.Frag} {m m':List Addr} {H H':Hp} {E:XK} {D:CO} {o:Out (Fl×Ae)} (p:m <+:m') (k:Kp H H') (h:PostS K m H E D o):PostS K m' H' E D o:=by
 cases o with
 |ok a h'=>exact fun m2 H2 p2 k2=>h m2 H2 (p.trans p2) (k.trans k2)
 |err C fs h'=>exact fun da m2 H2 p2 k2=>h da m2 H2 (p.trans p2) (k.trans k2)
 |stuck=>exact h
abbrev Ev (X:Cx) (E:XK) (e:Expr) (f:ME):Prop:=PE X e (tD X.K E f)
abbrev Dx (X:Cx) (E:XK) (e:Expr) (f:MT):Prop:=PT X e (GQ X.K E f)
abbrev Cj (X:Cx) (E:XK) (es:List Expr) (f:MA):Prop:=PA X es (NO X.K E f)
abbrev Ex (X:Cx) (E:XK) (st:Stmt) (g:MS):Prop:=PS X st (FI X.K E g)
abbrev B4 (X:Cx) (E:XK) (sts:List Stmt) (g:MS):Prop:=Cw X sts (FI X.K E g)
section
variable {X:Cx}
theorem BD {e:Expr} {t t':TE} (h:PE X e t) (i:∀σ H Q,t' σ H Q→t σ H Q):PE X e t':=fun pins s σ H Q I q=>h pins s σ H Q I (i σ H Q q)
theorem Il {e:Expr} {t t':TT} (h:PT X e t) (i:∀σ H Q,t' σ H Q→t σ H Q):PT X e t':=fun pins s σ H Q I q=>h pins s σ H Q I (i σ H Q q)
theorem NQ {e:List Expr} {t t':TA} (h:PA X e t) (i:∀σ H Q,t' σ H Q→t σ H Q):PA X e t':=fun pos pins s σ H Q I q=>h pos pins s σ H Q I (i σ H Q q)
theorem Eo {e:Stmt} {t t':TS} (h:PS X e t) (i:∀D σ H,t' D σ H→t D σ H):PS X e t':=fun pins s σ H D I q=>h pins s σ H D I (i D σ H q)
theorem KS {e:List Stmt} {t t':TS} (h:Cw X e t) (i:∀D σ H,t' D σ H→t D σ H):Cw X e t':=fun pins s σ H D I q=>h pins s σ H D I (i D σ H q)
end
end LS
namespace LS
open PySem PySem.Spec PyProof.Rows L2
section
variable {X:Cx} {E:XK} {a b c:Expr} {pos:Pos} {f g k:ME}
def Aa (i:Nat):ME:=fun ρ h=>match ρ[i]? with
 |some (some d)=>.ok d h
 |_=>.stuck
theorem KU {i:Nat} (h:PE X a (Na i)):Ev X E a (Aa i):=BD h fun σ H Q z1_=>by
 obtain ⟨m,ρ,hd,hr,er,p⟩:=z1_
 unfold Aa at p
 split at p
 ·rename_i d e
  obtain ⟨v,e1,r⟩:=er.2 i d e
  exact ⟨v,e1,p v m H (AA _) (.refl _) hr r⟩
 ·exact p.elim
def mC (d:D):ME:=fun _ h=>.ok d h
theorem EO {d:D} {v:V} (h:PE X a (tC v)) (r:∀m H,DV X.K m H d v):Ev X E a (mC d):=BD h fun σ H Q z2_=>by obtain ⟨m,ρ,hd,hr,er,p⟩:=z2_;exact (p v m H (AA _) (.refl _) hr (r m H))
theorem Vd {i:Int} {j:Nat}:Ev X E (.Constant (.int i) j pos) (mC (.int i)):=EO Nb fun _ _=>by simp [DV]
theorem Ve {i:Bool} {j:Nat}:Ev X E (.Constant (.bool i) j pos) (mC (.bl i)):=EO S7 fun _ _=>by simp [DV]
theorem Vf {j:Nat}:Ev X E (.Constant .none j pos) (mC .non):=EO S8 fun _ _=>by simp [DV]
theorem NR {x:Str} {j:Nat}:Ev X E (.Constant (.str x) j pos) (mC (.str x)):=EO S9 fun _ _=>by simp [DV]
theorem Vg {x:Str} {i:Int} {t:Tok} {pos:Pos} (hg:Gl X x) (hm:X.mg x=some (.int i t)) (hd:(x==("__debug__":Str))=false:=by decide):Ev X E (.Name x pos) (mC (.int i)):=
 EO (Nd (v:=.int i) hg hm ⟨t,rfl⟩ hd) fun _ _=>by simp [DV]
def Af (op:D→D→HD→Out D) (f g:ME):ME:=fun ρ h=>(f ρ h).bind fun x h1=>(g ρ h1).bind fun y h2=>op x y h2
theorem GR {op:D→D→HD→Out D} {Q:VK} {R:V→V→Hp→Prop} {σ:L2.St} {H:Hp} (h:tD X.K E (Af op f g) σ H Q)
 (i:∀m H2 h2 x y v u,HR X.K m h2 H2→DV X.K m H2 x v→DV X.K m H2 y u→Post X.K (rD X.K) m H2 E Q (op x y h2)→R v u H2):tD X.K E f σ H fun v H1=>tD X.K E g σ H1 fun u H2=>R v u H2:=by
 obtain ⟨m,ρ,hd,hr,er,p⟩:=h
 refine ⟨m,ρ,hd,hr,er,Post.bind p fun x h1 v m1 H1 _ p1 k1 hr1 r1 q1=>?_⟩
 refine ⟨m1,ρ,h1,hr1,er.keep p1 k1,Post.bind q1 fun y h2 u m2 H2 _ p2 k2 hr2 r2 q2=>?_⟩
 exact i m2 H2 h2 x y v u hr2 (DV.keep p2 k2 r1) r2 q2
def Bw (X:Cx) (f:Value→Value→Sem Value) (op:D→D→HD→Out D):Prop:=
 ∃r:R2,OpR X f r∧∀m H h E x y v u Q,HR X.K m h H→DV X.K m H x v→DV X.K m H y u→Post X.K (rD X.K) m H E Q (op x y h)→r v u H Q
theorem Im {o:Operator} {op:D→D→HD→Out D} (ho:Bw X (binaryOp o) op) (ha:Ev X E a f) (hb:Ev X E b g):Ev X E (.BinOp a o b pos) (Af op f g):=by
 obtain ⟨r,ho,i⟩:=ho
 exact BD (T9 ho ha hb) fun σ H Q h=>GR h fun m H2 h2 x y v u hr rx ry q=>i m H2 h2 E x y v u Q hr rx ry q
theorem NS {o:CmpOp} {op:D→D→HD→Out D} (ho:Bw X (compareOp o) op) (ha:Ev X E a f) (hb:Ev X E b g) (hm:behindInMarks o b=false):Ev X E (.Compare a [o] [b] pos) (Af op f g):=by
 obtain ⟨r,ho,i⟩:=ho
 exact BD (Uj ho ha hb hm) fun σ H Q h=>GR h fun m H2 h2 x y v u hr rx ry q=>i m H2 h2 E x y v u Q hr rx ry q
def GS:D→HD→Out Bool
 |.bl b,h=>.ok b h
 |_,_=>.stuck
def AO (f:ME):MT:=fun ρ h=>(f ρ h).bind GS
theorem NU {m:List Addr} {H:Hp} {x:D} {v:V} {h:HD} {Q:Bool→Hp→Prop} (hr:HR X.K m h H) (r:DV X.K m H x v) (q:Post X.K rB m H E Q (GS x h)):∃k,v=.bl k∧Q k H:=by
 cases x with
 |bl b=>
  simp only [DV] at r
  exact ⟨b,r,q b m H (AA _) (.refl _) hr rfl⟩
 |_=>exact q.elim
theorem FJ {o:CmpOp} {op:D→D→HD→Out D} (ho:Bw X (compareOp o) op) (ha:Ev X E a f) (hb:Ev X E b g) (hm:behindInMarks o b=false):Dx X E (.Compare a [o] [b] pos) (AO (Af op f g)):=by
 obtain ⟨r,ho,i⟩:=ho
 refine Il (Uk ho ha hb hm) fun σ H Q h=>?_
 obtain ⟨m,ρ,hd,hr,er,p⟩:=h
 have h':tD X.K E (Af op f g) σ H fun x H'=>∃k,x=.bl k∧Q k H':=
  ⟨m,ρ,hd,hr,er,Post.bind p fun x h1 v m1 H1 _ p1 k1 hr1 r1 q1=>NU hr1 r1 q1⟩
 exact GR h' fun m H2 h2 x y v u hr rx ry q=>i m H2 h2 E x y v u _ hr rx ry q
def CS:D→HD→Out Bool
 |.non,h=>.ok false h
 |.bl b,h=>.ok b h
 |.int i,h=>.ok (i != 0) h
 |.tup ds,h=>.ok (!ds.isEmpty) h
 |.loc l,h=>match h[l]? with
  |some (.lst ds)=>.ok (!ds.isEmpty) h
  |_=>.stuck
 |_,_=>.stuck
def BI (f:ME):MT:=fun ρ h=>(f ρ h).bind CS
theorem NV {α β:Type} {xs:List α} {ys:List β} (h:xs.length=ys.length):xs.isEmpty=ys.isEmpty:=by
 cases xs<;>cases ys<;>simp_all
theorem Vh {m:List Addr} {H:Hp} {x:D} {v:V} {h:HD} {Q:Bool→Hp→Prop} (hr:HR X.K m h H) (r:DV X.K m H x v) (q:Post X.K rB m H E Q (CS x h)):∃k,Kz X.K v H k∧Q k H:=by
 have go:∀k,CS x h=.ok k h→Q k H:=fun k e=>by rw [e] at q;exact q k m H (AA _) (.refl _) hr rfl
 cases x with
 |non=>simp only [DV] at r;subst r;exact ⟨false,rfl,go _ rfl⟩
 |bl b=>simp only [DV] at r;subst r;exact ⟨b,rfl,go _ rfl⟩
 |int i=>simp only [DV] at r;subst r;exact ⟨_,rfl,go _ rfl⟩
 |str x=>exact q.elim
 |tup ds=>
  simp only [DV] at r
  obtain ⟨p,vs,rfl,hp,dv⟩:=r
  exact ⟨_,.inr ⟨vs,SqT.of hp,rfl⟩,by rw [←NV dv.len];exact go _ rfl⟩
 |loc l=>
  simp only [DV] at r
  obtain ⟨p,rfl,hp⟩:=r
  simp only [CS] at q
  split at q
  ·rename_i ds e
   obtain ⟨vs,e1,dv⟩:=hr.cells l _ p e hp
   exact ⟨_,.inl ⟨vs,SqL.of e1,rfl⟩,by rw [←NV dv.len];exact q _ m H (AA _) (.refl _) hr rfl⟩
  ·exact q.elim
 |scr ns=>exact q.elim
 |adr a=>exact q.elim
 |ty a=>exact q.elim
 |exc n fs=>exact q.elim
 |edic=>exact q.elim
 |glo n=>exact q.elim
 |clo a vs ds=>exact q.elim
theorem Vi (ha:Ev X E a f) (he:∀DG,isTrue a X.env DG=(do let v ←DG;standAt a.pos;holding [v] (truthy v)):=by intro _;rfl):Dx X E a (BI f):=
 Il (Up ha he) fun σ H Q z3_=>by obtain ⟨m,ρ,hd,hr,er,p⟩:=z3_;exact (⟨m,ρ,hd,hr,er,Post.bind p fun x h1 v m1 H1 _ p1 k1 hr1 r1 q1=>Vh hr1 r1 q1⟩)
variable {tf tg:MT} {rest:List Expr}
def Io (f g:MT):MT:=fun ρ h=>(f ρ h).bind fun b h1=>if b=true then g ρ h1 else .ok false h1
def CA (f g:MT):MT:=fun ρ h=>(f ρ h).bind fun b h1=>if b=true then .ok true h1 else g ρ h1
def Bx (f:MT):MT:=fun ρ h=>(f ρ h).bind fun b h1=>.ok (!b) h1
abbrev Ip (X:Cx) (E:XK) (e:Expr) (f:MT):Prop:=PW X e (GQ X.K E f)
theorem Vj {e:Expr} {t t':TT} (h:PW X e t) (i:∀σ H Q,t' σ H Q→t σ H Q):PW X e t':=fun wh pins s σ H Q I q=>h wh pins s σ H Q I (i σ H Q q)
theorem Vk (ha:Dx X E a tf):Ip X E (.BoolOp .Or [a] pos) tf:=Te ha
theorem NW (ha:Dx X E a tf) (hb:Ip X E (.BoolOp .Or (b::rest) pos) tg):Ip X E (.BoolOp .Or (a::b::rest) pos) (CA tf tg):=
 Vj (Tf ha hb) fun σ H Q z5_=>by obtain ⟨m,ρ,hd,hr,er,p⟩:=z5_;exact (⟨m,ρ,hd,hr,er,Post.bind p fun x h1 v m1 H1 _ p1 k1 hr1 r1 q1=>by
  cases r1
  cases x with
  |false=>exact ⟨m1,ρ,h1,hr1,er.keep p1 k1,q1⟩
  |true=>exact q1 true m1 H1 (AA _) (.refl _) hr1 rfl⟩)
theorem Vl (h:Ip X E a tf):Dx X E a tf:=PW.pt h
theorem Vm (ha:Dx X E a tf):Dx X E (.UnaryOp .Not a pos) (Bx tf):=
 Il (Tg ha) fun σ H Q z6_=>by obtain ⟨m,ρ,hd,hr,er,p⟩:=z6_;exact (⟨m,ρ,hd,hr,er,Post.bind p fun x h1 v m1 H1 _ p1 k1 hr1 r1 q1=>by
  cases r1
  exact q1 _ m1 H1 (AA _) (.refl _) hr1 rfl⟩)
def DU (f g:ME):ME:=fun ρ h=>(f ρ h).bind fun x h1=>match x with
 |.bl true=>g ρ h1
 |.bl false=>.ok (.bl false) h1
 |_=>.stuck
def NX (f g:ME):ME:=fun ρ h=>(f ρ h).bind fun x h1=>match x with
 |.bl true=>.ok (.bl true) h1
 |.bl false=>g ρ h1
 |_=>.stuck
def Iq (f:ME):ME:=fun ρ h=>(f ρ h).bind fun x h1=>match x with
 |.bl b=>.ok (.bl (!b)) h1
 |_=>.stuck
theorem Vn {o:BoolOp} (h:Ev X E a f):Ev X E (.BoolOp o [a] pos) f:=Tj h
theorem Vo (ha:Ev X E a f) (hb:Ev X E (.BoolOp .And (b::rest) pos) g):Ev X E (.BoolOp .And (a::b::rest) pos) (DU f g):=
 BD (Tn ha hb) fun σ H Q ⟨m,ρ,hd,hr,er,p⟩=>⟨m,ρ,hd,hr,er,Post.bind p fun x h1 v m1 H1 _ p1 k1 hr1 r1 q1=>by
  cases x with
  |bl b=>
   refine ⟨b,by simpa [rD,DV] using r1,?_⟩
   cases b with
   |true=>exact ⟨m1,ρ,h1,hr1,er.keep p1 k1,q1⟩
   |false=>exact q1 _ m1 H1 (AA _) (.refl _) hr1 (by simp [rD,DV])
  |_=>exact q1.elim⟩
theorem Vp (ha:Ev X E a f):Ev X E (.UnaryOp .Not a pos) (Iq f):=
 BD (To ha) fun σ H Q z9_=>by obtain ⟨m,ρ,hd,hr,er,p⟩:=z9_;exact (⟨m,ρ,hd,hr,er,Post.bind p fun x h1 v m1 H1 _ p1 k1 hr1 r1 q1=>by
  cases x with
  |bl b=>exact ⟨b,by simpa [rD,DV] using r1,q1 _ m1 H1 (AA _) (.refl _) hr1 (by simp [rD,DV])⟩
  |_=>exact q1.elim⟩)
def NY (t:MT) (f g:ME):ME:=fun ρ h=>(t ρ h).bind fun b h1=>if b=true then f ρ h1 else g ρ h1
def CT (op op':D→D→HD→Out D) (f g k:ME):ME:=fun ρ h=>(f ρ h).bind fun x h1=>(g ρ h1).bind fun y h2=>(op x y h2).bind fun z h3=>match z with
 |.bl true=>(k ρ h3).bind fun w h4=>op' y w h4
 |.bl false=>.ok (.bl false) h3
 |_=>.stuck
theorem NZ {r r':R2} {op op':D→D→HD→Out D} {o o':Value→Value→Sem Value} (i:∀m H h E x y v u Q,HR X.K m h H→DV X.K m H x v→DV X.K m H y u→Post X.K (rD X.K) m H E Q (op x y h)→r v u H Q)
 (i':∀m H h E x y v u Q,HR X.K m h H→DV X.K m H x v→DV X.K m H y u→Post X.K (rD X.K) m H E Q (op' x y h)→r' v u H Q) {σ:L2.St} {H:Hp} {Q:VK} (h:tD X.K E (CT op op' f g k) σ H Q):
 Ky r r' (tD X.K E f) (tD X.K E g) (tD X.K E k) σ H Q:=by
 obtain ⟨m,ρ,hd,hr,er,p⟩:=h
 refine ⟨m,ρ,hd,hr,er,Post.bind p fun x h1 v m1 H1 _ p1 k1 hr1 r1 q1=>?_⟩
 refine ⟨m1,ρ,h1,hr1,er.keep p1 k1,Post.bind q1 fun y h2 u m2 H2 _ p2 k2 hr2 r2 q2=>?_⟩
 refine i m2 H2 h2 E x y v u _ hr2 (DV.keep p2 k2 r1) r2 (Post.bind q2 fun z h3 w m3 H3 _ p3 k3 hr3 r3 q3=>?_)
 cases z with
 |bl b=>
  refine ⟨b,by simpa [rD,DV] using r3,?_⟩
  cases b with
  |false=>exact q3 _ m3 H3 (AA _) (.refl _) hr3 (by simp [rD,DV])
  |true=>
   refine ⟨m3,ρ,h3,hr3,((er.keep p1 k1).keep p2 k2).keep p3 k3,Post.bind q3 fun z h4 w' m4 H4 _ p4 k4 hr4 r4 q4=>?_⟩
   exact i' m4 H4 h4 E y z u w' Q hr4 (DV.keep p4 k4 (DV.keep p3 k3 r2)) r4 q4
 |_=>exact q3.elim
theorem Vq {o o':CmpOp} {op op':D→D→HD→Out D} (ho:Bw X (compareOp o) op) (ho':Bw X (compareOp o') op') (ha:Ev X E a f) (hb:Ev X E b g) (hc:Ev X E c k)
 (hm:lastMarks [o,o'] [b,c]=false:=by with_unfolding_all rfl):Ev X E (.Compare a [o,o'] [b,c] pos) (CT op op' f g k):=by
 obtain ⟨r,ho,i⟩:=ho
 obtain ⟨r',ho',i'⟩:=ho'
 exact BD (Ul ho ho' ha hb hc hm) fun σ H Q h=>NZ (o:=compareOp o) (o':=compareOp o') i i' h
theorem N0 {o o':CmpOp} {op op':D→D→HD→Out D} (ho:Bw X (compareOp o) op) (ho':Bw X (compareOp o') op') (ha:Ev X E a f) (hb:Ev X E b g) (hc:Ev X E c k)
 (hm:lastMarks [o,o'] [b,c]=false:=by with_unfolding_all rfl):Dx X E (.Compare a [o,o'] [b,c] pos) (AO (CT op op' f g k)):=by
 obtain ⟨r,ho,i⟩:=ho
 obtain ⟨r',ho',i'⟩:=ho'
 refine Il (Um ho ho' ha hb hc hm) fun σ H Q h=>?_
 obtain ⟨m,ρ,hd,hr,er,p⟩:=h
 exact NZ (o:=compareOp o) (o':=compareOp o') i i' ⟨m,ρ,hd,hr,er,Post.bind p fun x h1 v m1 H1 _ p1 k1 hr1 r1 q1=>NU hr1 r1 q1⟩
variable {es:List Expr} {fa:MA}
def Ac:MA:=fun _ h=>.ok [] h
def Ab (f:ME) (r:MA):MA:=fun ρ h=>(f ρ h).bind fun x h1=>(r ρ h1).bind fun xs h2=>.ok (x::xs) h2
theorem Ir:Cj X E [] Ac:=NQ Ib fun σ H Q z11_=>by obtain ⟨m,ρ,hd,hr,er,p⟩:=z11_;exact (p [] m H (AA _) (.refl _) hr .nil)
theorem Iu (ha:Ev X E a f) (hr:Cj X E es fa) (hs:starEach (a::es) X.env=(false,eval a X.env)::starEach es X.env:=by rfl):Cj X E (a::es) (Ab f fa):=
 NQ (Ic ha hr hs) fun σ H Q z12_=>by obtain ⟨m,ρ,hd,hr,er,p⟩:=z12_;exact (⟨m,ρ,hd,hr,er,Post.bind p fun x h1 v m1 H1 _ p1 k1 hr1 r1 q1=>
  ⟨m1,ρ,h1,hr1,er.keep p1 k1,Post.bind q1 fun xs h2 vs m2 H2 _ p2 k2 hr2 r2 q2=>q2 _ m2 H2 (AA _) (.refl _) hr2 (DVs.cons (DV.keep p2 k2 r1) r2)⟩⟩)
def BJ (fa:MA):ME:=fun ρ h=>(fa ρ h).bind fun xs h1=>if xs.length≤sizeLine then .ok (.tup xs) h1 else .stuck
def Bg (xs:List D) (h:HD):Out D:=if xs.length≤sizeLine then .ok (.loc h.length) (h++[.lst xs]) else .stuck
def AD (fa:MA):ME:=fun ρ h=>(fa ρ h).bind Bg
theorem FK {m:List Addr} {H:Hp} {h:HD} {xs:List D} {vs:List V} {Q:VK} (hr:HR X.K m h H) (r:DVs X.K m H xs vs) (q:Post X.K (rD X.K) m H E Q (.ok (.tup xs) h)):∀p,H p=none→Q (.ref p) (Ah H p (.tup vs)):=fun p hp=>
 q (.ref p) m _ (AA _) (.new hp) (hr.new hp) (by simp only [rD,DV];exact ⟨p,vs,rfl,B6,r.keep (AA _) (.new hp)⟩)
theorem ES {m:List Addr} {H:Hp} {h:HD} {xs:List D} {vs:List V} {Q:VK} (hr:HR X.K m h H) (r:DVs X.K m H xs vs) (q:Post X.K (rD X.K) m H E Q (Bg xs h)):vs.length≤sizeLine∧∀p,H p=none→Q (.ref p) (Ah H p (.lst vs)):=by
 unfold Bg at q
 by_cases hz:xs.length≤sizeLine
 ·rw [if_pos hz] at q
  refine ⟨by rw [←r.len];exact hz,fun p hp=>?_⟩
  refine q (.ref p) (m++[p]) _ (GB _ _) (.new hp) (hr.newCell hp ⟨vs,B6,r.keep (GB _ _) (.new hp)⟩) ?_
  simp only [rD,DV]
  exact ⟨p,rfl,by rw [←hr.len];simp⟩
 ·rw [if_neg hz] at q;exact q.elim
theorem Vr {x1:Nat} (h:Cj X E es fa):Ev X E (.Tuple es x1 pos) (BJ fa):=
 BD (UB h) fun σ H Q z13_=>by obtain ⟨m,ρ,hd,hr,er,p⟩:=z13_;exact (⟨m,ρ,hd,hr,er,Post.bind p fun xs h1 vs m1 H1 _ p1 k1 hr1 r1 q1=>by
  by_cases hz:xs.length≤sizeLine
  ·rw [if_pos hz] at q1
   exact ⟨by rw [←DVs.len r1];exact hz,FK hr1 r1 q1⟩
  ·rw [if_neg hz] at q1;exact q1.elim⟩)
theorem Vs (h:Cj X E es fa):Ev X E (.List es pos) (AD fa):=
 BD (UC h) fun σ H Q z14_=>by obtain ⟨m,ρ,hd,hr,er,p⟩:=z14_;exact (⟨m,ρ,hd,hr,er,Post.bind p fun xs h1 vs m1 H1 _ p1 k1 hr1 r1 q1=>ES hr1 r1 q1⟩)
inductive Iv (K:PySem.W.Frag) (F:List D→HD→Out D) (vs:List V) (H:Hp) (Q:VK) (E:XK):Prop where
 |mk (m:List Addr) (ds:List D) (h:HD) (hr:HR K m h H) (r:DVs K m H ds vs) (p:Post K (rD K) m H E0 Q (F ds h)):Iv K F vs H Q E
def Ar (n:Nat) (F:List D→HD→Out D):Prop:=∀ds h,ds.length≠n→F ds h=.stuck
theorem Ar.len {K:PySem.W.Frag} {n:Nat} {F:List D→HD→Out D} (ar:Ar n F) {vs:List V} {H:Hp} {Q:VK} {E':XK} (h:Iv K F vs H Q E'):vs.length=n:=by
 obtain ⟨m,ds,hd,hr,r,p⟩:=h
 rw [←r.len]
 by_cases e:ds.length=n
 ·exact e
 ·rw [ar ds hd e] at p;exact p.elim
def ar0 (F:HD→Out D):List D→HD→Out D:=fun ds h=>match ds with
 |[]=>F h
 |_=>.stuck
def Ai (F:D→HD→Out D):List D→HD→Out D:=fun ds h=>match ds with
 |[a]=>F a h
 |_=>.stuck
def AY (F:D→D→HD→Out D):List D→HD→Out D:=fun ds h=>match ds with
 |[a,b]=>F a b h
 |_=>.stuck
def Vt (F:D→D→D→HD→Out D):List D→HD→Out D:=fun ds h=>match ds with
 |[a,b,c]=>F a b c h
 |_=>.stuck
def Ad (F:List D→HD→Out D) (fa:MA):ME:=fun ρ h=>(fa ρ h).bind F
def B9 (X:Cx) (f:Value) (F:List D→HD→Out D):Prop:=
 ∃r:List V→Hp→VK→Prop,B3 X f r∧∀m H h E ds vs Q,HR X.K m h H→DVs X.K m H ds vs→Post X.K (rD X.K) m H E Q (F ds h)→r vs H Q
theorem Vu {id:String} {F:List D→HD→Out D} {x:Str} {p pos:Pos} {e:Expr} (hc:B9 X (.builtin id) F) (hg:Gl X x) (hm:X.mg x=none) (hv:bootBuiltins x=some (.builtin id)) (ha:Cj X E (e::es) fa) (hn:x≠"__name__":=by decide) (hdb:(x==("__debug__":Str))=false:=by decide)
 (hs:starEach (e::es) X.env=(false,eval e X.env)::starEach es X.env:=by rfl) (hpl:(backTo pos (starEach es X.env)).any (·.1)=false:=by rfl):Ev X E (.Call (.Name x p) (e::es) [] pos) (Ad F fa):=by
 obtain ⟨r,hc,i⟩:=hc
 exact BD (NF hc hg hm hv ha hn hdb hs hpl) fun σ H Q z17_=>by obtain ⟨m,ρ,hd,hr,er,p⟩:=z17_;exact (⟨m,ρ,hd,hr,er,Post.bind p fun xs h1 vs m1 H1 e1 p1 k1 hr1 r1 q1=>i m1 H1 h1 E xs vs Q hr1 r1 q1⟩)
theorem Vv {id:String} {F:List D→HD→Out D} {x:Str} {p pos:Pos} {e:Expr} (hc:B9 X (.type id) F) (hg:Gl X x) (hm:X.mg x=none) (hv:bootBuiltins x=some (.type id)) (ha:Cj X E (e::es) fa) (hn:x≠"__name__":=by decide) (hdb:(x==("__debug__":Str))=false:=by decide)
 (hs:starEach (e::es) X.env=(false,eval e X.env)::starEach es X.env:=by rfl) (hpl:(backTo pos (starEach es X.env)).any (·.1)=false:=by rfl):Ev X E (.Call (.Name x p) (e::es) [] pos) (Ad F fa):=by
 obtain ⟨r,hc,i⟩:=hc
 exact BD (KC hc hg hm hv ha hn hdb hs hpl) fun σ H Q z18_=>by obtain ⟨m,ρ,hd,hr,er,p⟩:=z18_;exact (⟨m,ρ,hd,hr,er,Post.bind p fun xs h1 vs m1 H1 e1 p1 k1 hr1 r1 q1=>i m1 H1 h1 E xs vs Q hr1 r1 q1⟩)
end
section
variable {X:Cx} {E:XK}
theorem AN {K:PySem.W.Frag} {m:List Addr} {H:Hp} {h:HD} {d:D} {v:V} {Q:VK} (hr:HR K m h H) (q:Post K (rD K) m H E Q (.ok d h)) (r:DV K m H d v):Q v H:=q v m H (AA _) (.refl _) hr r
theorem op_catT0:OpR X (binaryOp .Add) (fun x y H Q=>∃a b ys,x=.ref a∧y=.ref b∧SqT X.K H a []∧SqT X.K H b ys∧Q (.ref b) H):=by
 intro pins s σ H x y v u Q I rx ry h
 obtain ⟨a,b,ys,rfl,rfl,ha,hb,q⟩:=h
 cases rx
 cases ry
 obtain ⟨its,r1,p1,_⟩:=I.tuple ha
 obtain ⟨its2,r2,p2,_⟩:=I.tuple hb
 cases r1
 obtain ⟨⟨cls,dd,data,sl⟩,ho,hc,n,hd⟩:=id p1
 obtain ⟨⟨cls2,dd2,data2,sl2⟩,ho2,hc2,n2,hd2⟩:=id p2
 simp only at hc hd hc2 hd2
 subst hc hd hc2 hd2
 exact concat_meets ⟨_,ho,rfl⟩ ⟨_,ho2,rfl⟩ noFill_tuple_add seq_tuple_add PySem.F.slot_tuple_add PySem.F.entry_tuple_add (PySem.F.args_tuple_add_2 _ _)
  (tuple_addW0 a b _ its2.toArray n n2 dd dd2 sl sl2 (by simp)) ⟨ho,ho2,⟨.ref b,H,I,rfl,q⟩⟩
def Aj:D→D→HD→Out D
 |.int i,.int j,h=>.ok (.int (i+j)) h
 |.str x,.str y,h=>if x.length+y.length≤sizeLine then .ok (.str (x++y)) h else .stuck
 |.tup xs,.tup ys,h=>if xs.length+ys.length≤sizeLine then .ok (.tup (xs++ys)) h else .stuck
 |.loc l,.loc k,h=>match h[l]?,h[k]? with
  |some (.lst xs),some (.lst ys)=>Bg (xs++ys) h
  |_,_=>.stuck
 |_,_,_=>.stuck
theorem Vw:Bw X (binaryOp .Add) Aj:=by
 refine ⟨_,op_add.or (op_catT0.or (op_catT.or (op_cat.or Uq))),fun m H h E x y v u Q hr rx ry q=>?_⟩
 unfold Aj at q
 split at q
 ·simp only [DV] at rx ry
  subst rx ry
  exact .inl ⟨_,_,rfl,rfl,AN hr q (by simp [DV])⟩
 ·simp only [DV] at rx ry
  subst rx ry
  split at q
  ·rename_i hz
   exact .inr (.inr (.inr (.inr ⟨_,_,rfl,rfl,hz,AN hr q (by simp [DV])⟩)))
  ·exact q.elim
 ·rename_i xs ys
  simp only [DV] at rx ry
  obtain ⟨a,vs,rfl,ha,dx⟩:=rx
  obtain ⟨b,ws,rfl,hb,dy⟩:=ry
  split at q
  ·rename_i hz
   cases xs with
   |nil=>
    simp only [DVs] at dx
    subst dx
    exact .inr (.inl ⟨a,b,ws,rfl,rfl,SqT.of ha,SqT.of hb,AN hr q (by simp only [DV];exact ⟨b,ws,rfl,hb,dy⟩)⟩)
   |cons x xs=>
    refine .inr (.inr (.inl ⟨a,b,vs,ws,rfl,rfl,SqT.of ha,SqT.of hb,?_,by rw [←dx.len,←dy.len];exact hz,fun e=>?_,fun e=>?_⟩))
    ·intro e;have:=dx.len;rw [e] at this;simp at this
    ·subst e
     have:ys=[]:=by have:=dy.len;simpa using this
     subst this
     exact AN hr q (by simp only [DV];exact ⟨a,vs,rfl,ha,by simpa using dx⟩)
    ·exact FK hr (dx.app dy) q
  ·exact q.elim
 ·simp only [DV] at rx ry
  obtain ⟨a,rfl,ha⟩:=rx
  obtain ⟨b,rfl,hb⟩:=ry
  split at q
  ·rename_i xs ys e1 e2
   obtain ⟨vs,h1,d1⟩:=hr.cells _ _ a e1 ha
   obtain ⟨ws,h2,d2⟩:=hr.cells _ _ b e2 hb
   obtain ⟨z,q'⟩:=ES hr (d1.app d2) q
   exact .inr (.inr (.inr (.inl ⟨a,b,vs,ws,rfl,rfl,h1,h2,by simpa using z,q'⟩)))
  ·exact q.elim
 ·exact q.elim
def EU (f:Int→Int→D) (c:Int→Int→Prop) [∀i j,Decidable (c i j)]:D→D→HD→Out D
 |.int i,.int j,h=>if c i j then .ok (f i j) h else .stuck
 |_,_,_=>.stuck
theorem N1 {o:Value→Value→Sem Value} {f:Int→Int→V} {g:Int→Int→D} {c c':Int→Int→Prop} [∀i j,Decidable (c' i j)] (h:OpR X o (rI c f)) (hc:∀i j,c' i j→c i j) (hg:∀m H i j,DV X.K m H (g i j) (f i j)):Bw X o (EU g c'):=by
 refine ⟨_,h,fun m H h E x y v u Q hr rx ry q=>?_⟩
 unfold EU at q
 split at q
 ·simp only [DV] at rx ry
  subst rx ry
  split at q
  ·rename_i hc'
   exact ⟨_,_,rfl,rfl,hc _ _ hc',AN hr q (hg _ _ _ _)⟩
  ·exact q.elim
 ·exact q.elim
def Ep (f:Int→Int→D):D→D→HD→Out D
 |.int i,.int j,h=>.ok (f i j) h
 |_,_,_=>.stuck
theorem N2 {o:Value→Value→Sem Value} {f:Int→Int→V} {g:Int→Int→D} (h:OpR X o (FD f)) (hg:∀m H i j,DV X.K m H (g i j) (f i j)):Bw X o (Ep g):=by
 refine ⟨_,h,fun m H h E x y v u Q hr rx ry q=>?_⟩
 unfold Ep at q
 split at q
 ·simp only [DV] at rx ry
  subst rx ry
  exact ⟨_,_,rfl,rfl,AN hr q (hg _ _ _ _)⟩
 ·exact q.elim
abbrev Zb9:=Ep fun i j=>.int (i - j)
abbrev GT:=Ep fun i j=>.bl (decide (i<j))
abbrev CB:=Ep fun i j=>.bl (decide (i≤j))
abbrev gtD:=Ep fun i j=>.bl (decide (j<i))
theorem Iw:Bw X (compareOp .Lt) GT:=N2 Ug fun _ _ _ _=>by simp [DV]
theorem Iz:Bw X (compareOp .LtE) CB:=N2 Uh fun _ _ _ _=>by simp [DV]
instance (i j:Int):Decidable (CMul i j):=by unfold CMul;infer_instance
instance (i j:Int):Decidable (Nn i j):=by unfold Nn;infer_instance
instance (i j:Int):Decidable (Kx i j):=by unfold Kx;infer_instance
abbrev EV:=EU (fun i j=>.int (i % j)) fun _ j=>0<j
theorem Vx:Bw X (binaryOp .Mod) EV:=N1 Ub (fun _ _ h=>h) fun _ _ _ _=>by simp [DV]
abbrev Zca:=EU (fun i j=>.int (i^j.toNat)) Kx
def Zcb:D→D→HD→Out D
 |.int i,.int j,h=>if CMul i j then .ok (.int (i*j)) h else .stuck
 |.loc l,.int k,h=>match h[l]? with
  |some (.lst xs)=>if -(2^63)≤k∧k<2^63 then Bg (List.replicate k.toNat xs).flatten h else .stuck
  |_=>.stuck
 |_,_,_=>.stuck
theorem op_isB:OpR X (compareOp .Is) (fun x y H Q=>∃b c,x=.bl b∧y=.bl c∧Q (.bl (b==c)) H):=by
 intro pins s σ H x y v u Q I rx ry h
 obtain ⟨b,c,rfl,rfl,q⟩:=h
 cases rx
 cases ry
 exact wpAny_is_plain rfl ⟨.bl _,H,I,by cases b<;>cases c<;>rfl,q⟩
def KV:D→Bool
 |.non=>true
 |_=>false
def Es:D→D→HD→Out D
 |.bl b,.bl c,h=>.ok (.bl (b==c)) h
 |x,.non,h=>.ok (.bl (KV x)) h
 |_,_,_=>.stuck
def Vy:D→D→HD→Out D
 |.bl b,.bl c,h=>.ok (.bl (!(b==c))) h
 |x,.non,h=>.ok (.bl (!KV x)) h
 |_,_,_=>.stuck
theorem Vz {m:List Addr} {H:Hp} {x:D} {v:V} (r:DV X.K m H x v):decide (v=.non)=KV x:=by
 cases x<;>simp only [DV] at r<;>first |(subst r;rfl) |(obtain ⟨_,rfl,_⟩:=r;rfl) |(obtain ⟨_,_,rfl,_⟩:=r;rfl) |(obtain ⟨_,_,_,rfl,_⟩:=r;rfl) |(obtain ⟨rfl,_⟩:=r;rfl)
theorem VA:Bw X (compareOp .Is) Es:=by
 refine ⟨_,op_isB.or Ui,fun m H h E x y v u Q hr rx ry q=>?_⟩
 unfold Es at q
 split at q
 ·simp only [DV] at rx ry
  subst rx ry
  exact .inl ⟨_,_,rfl,rfl,AN hr q (by simp [DV])⟩
 ·simp only [DV] at ry
  subst ry
  exact .inr ⟨rfl,AN hr q (by simp [DV,Vz rx])⟩
 ·exact q.elim
end
def AH {α:Type}:List (Option α)→Option (List α)
 |[]=>some []
 |none::_=>none
 |some a::r=>(AH r).map (a::·)
def AR (h:HD):Nat→D→Option PyData
 |_,.non=>some .none
 |_,.bl b=>some (.bool b)
 |_,.int i=>some (.int i)
 |_,.str x=>some (.str x)
 |n+1,.tup ds=>(AH (ds.map (AR h n))).map .tuple
 |n+1,.loc l=>match h[l]? with
  |some (.lst ds)=>(AH (ds.map (AR h n))).map .list
  |_=>none
 |_,_=>none
section
variable {X:Cx} {E:XK} {pins:List (Addr×Obj)} {σ:L2.St} {H:Hp} {s:Shared} {m:List Addr} {h:HD}
theorem KW {n:Nat} (ih:∀(d:D) (v:V) (u:Value) (p:PyData),DV X.K m H d v→RelV v u→AR h n d=some p→∃as,Reads s.heap u p as):
 ∀(ds:List D) (vs:List V) (us:List Value) (ps:List PyData),DVs X.K m H ds vs→Vals vs us→AH (ds.map (AR h n))=some ps→∃as,ReadsAll s.heap us ps as
 |[],vs,us,ps,r,q,e=>by
  simp only [DVs] at r
  subst r
  cases q
  simp [AH] at e
  subst e
  exact ⟨[],.nil⟩
 |d::ds,vs,us,ps,r,q,e=>by
  simp only [DVs] at r
  obtain ⟨v,w,rfl,rv,rw'⟩:=r
  cases q with
  |cons q1 q2=>
   rw [A4] at e
   cases ed:AR h n d with
   |none=>rw [ed] at e;simp [AH] at e
   |some p=>
    rw [ed] at e
    simp only [AH,qaO] at e
    obtain ⟨ps',e1,rfl⟩:=e
    obtain ⟨as,h1⟩:=ih d v _ p rv q1 ed
    obtain ⟨bs,h2⟩:=KW ih ds w _ ps' rw' q2 e1
    exact ⟨as++bs,.cons h1 h2⟩
theorem KY (hok:HOk X.prog X.w H s.heap) (hr:HR X.K m h H):∀(n:Nat) (d:D) (v:V) (u:Value) (p:PyData),DV X.K m H d v→RelV v u→AR h n d=some p→∃as,Reads s.heap u p as:=by
 intro n
 induction n with
 |zero=>
  intro d v u p r q e
  cases d<;>simp only [AR,DV,Option.some.injEq] at e r<;>try (cases e;done)
  ·subst e r;cases q;exact ⟨[],.none⟩
  ·subst e r;cases q;exact ⟨[],.bool _⟩
  ·subst e r;obtain ⟨t,rfl⟩:=q;exact ⟨[],.int _ _⟩
  ·subst e r;obtain ⟨t,rfl⟩:=q;exact ⟨[],.str _ _⟩
 |succ n ih=>
  intro d v u p r q e
  cases d with
  |non=>simp only [AR,DV,Option.some.injEq] at e r;subst e r;cases q;exact ⟨[],.none⟩
  |bl b=>simp only [AR,DV,Option.some.injEq] at e r;subst e r;cases q;exact ⟨[],.bool _⟩
  |int i=>simp only [AR,DV,Option.some.injEq] at e r;subst e r;obtain ⟨t,rfl⟩:=q;exact ⟨[],.int _ _⟩
  |str x=>simp only [AR,DV,Option.some.injEq] at e r;subst e r;obtain ⟨t,rfl⟩:=q;exact ⟨[],.str _ _⟩
  |tup ds=>
   simp only [AR,DV,qaO] at e r
   obtain ⟨a,vs,rfl,ha,dv⟩:=r
   obtain ⟨ps,e1,rfl⟩:=e
   cases q
   obtain ⟨_,its,rv,⟨o,ho,hc,k,hd⟩,_⟩:=hok a _ ha
   obtain ⟨as,h1⟩:=KW ih ds vs its ps dv rv e1
   exact ⟨as,.tuple ho hc hd (by simpa using h1)⟩
  |loc l=>
   simp only [DV] at r
   obtain ⟨a,rfl,ha⟩:=r
   cases q
   simp only [AR] at e
   split at e
   ·rename_i ds el
    simp only [qaO] at e
    obtain ⟨ps,e1,rfl⟩:=e
    obtain ⟨vs,hv,dv⟩:=hr.cells l _ a el ha
    obtain ⟨_,its,k,rv,ho⟩:=hok a _ hv
    obtain ⟨as,h1⟩:=KW ih ds vs its ps dv rv e1
    exact ⟨_,.list ho rfl rfl (by simpa using h1)⟩
   ·cases e
  |scr ns=>simp [AR] at e
  |adr a=>simp [AR] at e
  |ty a=>simp [AR] at e
  |exc n fs=>simp [AR] at e
  |edic=>simp [AR] at e
  |glo n=>simp [AR] at e
  |clo a vs ds=>simp [AR] at e
def Eu (f:PyData→PyData→Bool):D→D→HD→Out D:=fun x y h=>match AR h 8 x,AR h 8 y with
 |some p,some q=>if SeqAt.shaped p=true∧SeqAt.shaped q=true then .ok (.bl (f p q)) h else .stuck
 |_,_=>.stuck
abbrev GU:=Eu PyData.eqv
abbrev CU:=Eu fun p q=>!PyData.eqv p q
theorem N3 {o:CmpOp} {f:PyData→PyData→Bool}
 (rule:∀{s:Shared} {a b:Value} {p q:PyData} {as bs:List Addr} {Q:Value→Shared→Prop},Reads s.heap a p as→Reads s.heap b q bs→SeqAt.shaped p=true→SeqAt.shaped q=true→Q (.bool (f p q)) s→wpAny (model X.prog X.w) X.A (compareOp o a b) Q X.xe s):
 Bw X (compareOp o) (Eu f):=by
 refine ⟨fun v u H Q=>∃m h x y,HR X.K m h H∧DV X.K m H x v∧DV X.K m H y u∧Post X.K (rD X.K) m H E0 Q (Eu f x y h),?_,fun m H h E x y v u Q hr rx ry q=>⟨m,h,x,y,hr,rx,ry,?_⟩⟩
 ·intro pins s σ H x y v u Q I rx ry hq
  obtain ⟨m,h,dx,dy,hr,r1,r2,q⟩:=hq
  unfold Eu at q
  split at q
  ·rename_i p p' e1 e2
   split at q
   ·rename_i hs
    obtain ⟨as,h1⟩:=KY I.hok hr 8 dx x v p r1 rx e1
    obtain ⟨bs,h2⟩:=KY I.hok hr 8 dy y u p' r2 ry e2
    exact rule h1 h2 hs.1 hs.2 ⟨.bl _,H,I,rfl,AN hr q (by simp [DV])⟩
   ·exact q.elim
  ·exact q.elim
 ·unfold Eu at q ⊢
  split
  ·split
   ·rename_i e1 e2 hs
    rw [e1,e2] at q
    simp only [hs] at q
    exact q
   ·rename_i e1 e2 hs
    rw [e1,e2] at q
    simp only [hs] at q
    exact q.elim
  ·rename_i hn
   split at q
   ·rename_i e1 e2
    exact (hn _ _ e1 e2).elim
   ·exact q.elim
theorem VB (hu:X.A.units+64<cLine):Bw X (compareOp .Eq) GU:=N3 fun ra rb ha hb h=>eq_dataH ra rb ha hb hu h
theorem VC (hu:X.A.units+64<cLine):Bw X (compareOp .NotEq) CU:=N3 fun ra rb ha hb h=>ne_dataH ra rb ha hb hu h
def Ck:D→Option V
 |.non=>some .non
 |.bl b=>some (.bl b)
 |.int i=>some (.int i)
 |.str x=>some (.str x)
 |_=>none
theorem IA {d:D} {v w:V} (r:DV X.K m H d v) (e:Ck d=some w):v=w∧CQ v=true:=by
 cases d<;>simp only [Ck,Option.some.injEq,DV] at e r<;>first |(subst e r;exact ⟨rfl,rfl⟩) |cases e
theorem IB:∀{ds:List D} {vs ws:List V},DVs X.K m H ds vs→AH (ds.map Ck)=some ws→vs=ws∧vs.all CQ=true
 |[],vs,ws,r,e=>by
  simp only [DVs] at r
  simp [AH] at e
  subst r e
  exact ⟨rfl,rfl⟩
 |d::ds,vs,ws,r,e=>by
  simp only [DVs] at r
  obtain ⟨v,w,rfl,rv,rw'⟩:=r
  rw [A4] at e
  cases ed:Ck d with
  |none=>rw [ed] at e;simp [AH] at e
  |some p=>
   rw [ed] at e
   simp only [AH,qaO] at e
   obtain ⟨ps',e1,rfl⟩:=e
   obtain ⟨h1,h2⟩:=IA rv ed
   obtain ⟨h3,h4⟩:=IB rw' e1
   subst h1 h3
   exact ⟨rfl,by simp [h2,h4]⟩
def A7:D→HD→Option (List D)
 |.tup ds,_=>some ds
 |.loc l,h=>match h[l]? with
  |some (.lst ds)=>some ds
  |_=>none
 |.scr ns,_=>some (ns.map .int)
 |_,_=>none
theorem N4 {ns:List Int}:DVs X.K m H (ns.map .int) (ns.map V.int):=by
 induction ns with
 |nil=>exact .nil
 |cons n ns ih=>exact .cons (by simp [DV]) ih
theorem KZ {d:D} {v:V} {ds:List D} (hr:HR X.K m h H) (r:DV X.K m H d v) (e:A7 d h=some ds):∃p vs,v=.ref p∧(SqL X.K H p vs∨SqT X.K H p vs)∧DVs X.K m H ds vs:=by
 cases d with
 |tup xs=>
  simp only [DV,A7,Option.some.injEq] at r e
  subst e
  obtain ⟨a,vs,rfl,ha,dv⟩:=r
  exact ⟨a,vs,rfl,.inr (SqT.of ha),dv⟩
 |loc l=>
  simp only [DV] at r
  obtain ⟨a,rfl,ha⟩:=r
  simp only [A7] at e
  split at e
  ·rename_i xs el
   cases e
   obtain ⟨vs,hv,dv⟩:=hr.cells l _ a el ha
   exact ⟨a,vs,rfl,.inl (SqL.of hv),dv⟩
  ·cases e
 |scr ns=>
  simp only [DV,A7,Option.some.injEq] at r e
  subst e
  obtain ⟨a,rfl,ha⟩:=r
  exact ⟨a,_,rfl,.inl ha.sq,N4⟩
 |_=>simp [A7] at e
def EW (neg:Bool):D→D→HD→Out D:=fun x y h=>match A7 y h with
 |none=>.stuck
 |some ds=>match Ck x,AH (ds.map Ck) with
  |some v,some vs=>.ok (.bl (if neg then !Ih v vs else Ih v vs)) h
  |_,_=>.stuck
theorem VD {neg:Bool}:∀m H h E x y v u Q,HR X.K m h H→DV X.K m H x v→DV X.K m H y u→Post X.K (rD X.K) m H E Q (EW neg x y h)→NI X.K neg v u H Q:=fun m H h E x y v u Q hr rx ry q=>by
 unfold EW at q
 split at q
 ·exact q.elim
 ·rename_i ds e
  split at q
  ·rename_i w ws e1 e2
   obtain ⟨p,vs,rfl,hs,dv⟩:=KZ hr ry e
   obtain ⟨h1,h2⟩:=IA rx e1
   obtain ⟨h3,h4⟩:=IB dv e2
   subst h1 h3
   exact ⟨p,vs,rfl,hs,h2,h4,AN hr q (by simp [DV])⟩
  ·exact q.elim
theorem VE:Bw X (compareOp .In) (EW false):=⟨_,UU,VD⟩
def AS:D→D→HD→Out D:=fun x y h=>match A7 x h,y with
 |some ds,.int i=>match BC ds i with
  |some d=>.ok d h
  |none=>.stuck
 |_,_=>.stuck
theorem VF {ds:List D} {vs:List V} {i:Int} {d:D} (r:DVs X.K m H ds vs) (e:BC ds i=some d):∃v,BC vs i=some v∧DV X.K m H d v:=by
 unfold BC at e ⊢
 rw [r.len] at e
 cases k:B8 vs.length i with
 |none=>rw [k] at e;cases e
 |some j=>
  rw [k] at e
  exact r.get e
theorem VG {a b:Expr} {pos:Pos} {f g:ME} (ha:Ev X E a f) (hb:Ev X E b g) (hs:KI b):Ev X E (.Subscript a b pos) (Af AS f g):=
 BD (NH (ix_list.or ix_tup) ha hb hs) fun σ H Q hq=>GR hq fun m H2 h2 x y v u hr rx ry q=>by
  unfold AS at q
  split at q
  ·rename_i ds i e
   split at q
   ·rename_i d ed
    simp only [DV] at ry
    subst ry
    obtain ⟨p,vs,rfl,hsq,dv⟩:=KZ hr rx e
    obtain ⟨w,e1,r1⟩:=VF dv ed
    rcases hsq with hsq |hsq
    ·exact .inl ⟨p,vs,i,w,rfl,rfl,hsq,e1,AN hr q r1⟩
    ·exact .inr ⟨p,vs,i,w,rfl,rfl,hsq,e1,AN hr q r1⟩
   ·exact q.elim
  ·exact q.elim
def By:D→HD→Out D:=fun x h=>match A7 x h with
 |some ds=>.ok (.int ds.length) h
 |none=>.stuck
theorem Ew {F:D→HD→Out D} {ds:List D} {vs:List V} {Q:VK} {C:Prop} (r:DVs X.K m H ds vs) (q:Post X.K (rD X.K) m H E Q (Ai F ds h)) (k:∀d v,vs=[v]→DV X.K m H d v→Post X.K (rD X.K) m H E Q (F d h)→C):C:=by
 unfold Ai at q
 split at q
 ·simp only [DVs] at r
  obtain ⟨v,w,rfl,rv,rfl⟩:=r
  exact k _ v rfl rv q
 ·exact q.elim
theorem IC {F:D→D→HD→Out D} {ds:List D} {vs:List V} {Q:VK} {C:Prop} (r:DVs X.K m H ds vs) (q:Post X.K (rD X.K) m H E Q (AY F ds h)) (k:∀d d' v v',vs=[v,v']→DV X.K m H d v→DV X.K m H d' v'→Post X.K (rD X.K) m H E Q (F d d' h)→C):C:=by
 unfold AY at q
 split at q
 ·simp only [DVs] at r
  obtain ⟨v,w,rfl,rv,v',w',rfl,rv',rfl⟩:=r
  exact k _ _ v v' rfl rv rv' q
 ·exact q.elim
theorem VH:B9 X (.builtin "len") (Ai By):=by
 refine ⟨_,UW,fun m H h E ds vs Q hr r q=>Ew r q fun d v ev rv q=>?_⟩
 unfold By at q
 split at q
 ·rename_i xs e
  obtain ⟨p,ws,rfl,hs,dv⟩:=KZ hr rv e
  exact ⟨p,ws,ev,hs,by rw [←dv.len];exact AN hr q (by simp [DV])⟩
 ·exact q.elim
def CDv (i j:Int):Prop:=0<j∧j<18446744073709551616
instance (i j:Int):Decidable (CDv i j):=by unfold CDv;infer_instance
theorem CDv.no {i j:Int} (h:CDv i j):Builtin.divisionGoesByPylong i j=false:=by
 refine PyProof.noPylong_of_log2 ?_
 have h0:j.natAbs≠0:=by have:=h.1;omega
 have h1:j.natAbs<2^64:=by have:=h.2;have:=h.1;omega
 exact Nat.lt_trans ((Nat.log2_lt h0).mpr h1) (by decide)
theorem VI:B3 X (.builtin "divmod") (fun xs H Q=>∃i j,xs=[.int i,.int j]∧CDv i j∧∀p,H p=none→Q (.ref p) (Ah H p (.tup [.int (i / j),.int (i % j)]))):=by
 intro pins s σ H xs us Q I r h
 obtain ⟨i,j,rfl,hc,q⟩:=h
 obtain ⟨u,w',rfl,⟨t,rfl⟩,⟨t',rfl⟩⟩:=Ia r
 have h1:=hc.1
 refine divmod_int (by omega) ?_ (.inl hc.no)
 rw [Int.fdiv_eq_ediv_of_nonneg i (by omega),Int.fmod_eq_emod_of_nonneg i (by omega)]
 have hn:H s.heap.objs.size=none:=I.hok.fresh (Am _)
 refine ⟨.ref s.heap.objs.size,_,?_,rfl,q _ hn⟩
 refine I.laid (fun b o e=>AB _ e) (Am _) ⟨by simp only [DO,HJ];rw [sizeLine_eq];decide,[.int (i / j) s.toks,.int (i % j) (s.toks+1)],.cons ⟨_,rfl⟩ (.cons ⟨_,rfl⟩ .nil),?_,NoDict.new⟩
 exact ⟨_,AW s.heap rfl,rfl,0,rfl⟩
def GV:D→D→HD→Out D
 |.int i,.int j,h=>if CDv i j then .ok (.tup [.int (i / j),.int (i % j)]) h else .stuck
 |_,_,_=>.stuck
theorem VJ:B9 X (.builtin "divmod") (AY GV):=by
 refine ⟨_,VI,fun m H h E ds vs Q hr r q=>IC r q fun d d' v v' ev rv rv' q=>?_⟩
 unfold GV at q
 split at q
 ·split at q
  ·rename_i i j hc
   simp only [DV] at rv rv'
   subst rv rv'
   exact ⟨i,j,ev,hc,FK hr (.cons (by simp [DV]) (.cons (by simp [DV]) .nil)) q⟩
  ·exact q.elim
 ·exact q.elim
theorem VL:OpR X (binaryOp .FloorDiv) (rI CDv fun i j=>.int (i / j)):=Kw fun i j _ _ _ _ _ hc q=>by
 have h1:=hc.1
 exact floordiv_int (by omega) (by rw [Int.fdiv_eq_ediv_of_nonneg i (by omega)];exact q) (.inl hc.no)
abbrev ID:=EU (fun i j=>.int (i / j)) CDv
theorem VM:Bw X (binaryOp .FloorDiv) ID:=N1 VL (fun _ _ h=>h) fun _ _ _ _=>by simp [DV]
def DW:D→D→HD→Out D
 |.int i,.int j,h=>.ok (.int (if j>i then j else i)) h
 |_,_,_=>.stuck
def DX:D→D→HD→Out D
 |.int i,.int j,h=>.ok (.int (if j<i then j else i)) h
 |_,_,_=>.stuck
theorem VN (hc:X.calm=true):B9 X (.builtin "max") (AY DW):=by
 refine ⟨_,Ur hc,fun m H h E ds vs Q hr r q=>IC r q fun d d' v v' ev rv rv' q=>?_⟩
 unfold DW at q
 split at q
 ·simp only [DV] at rv rv'
  subst rv rv'
  exact ⟨_,_,ev,AN hr q (by simp [DV])⟩
 ·exact q.elim
theorem VO (hc:X.calm=true):B9 X (.builtin "min") (AY DX):=by
 refine ⟨_,Us hc,fun m H h E ds vs Q hr r q=>IC r q fun d d' v v' ev rv rv' q=>?_⟩
 unfold DX at q
 split at q
 ·simp only [DV] at rv rv'
  subst rv rv'
  exact ⟨_,_,ev,AN hr q (by simp [DV])⟩
 ·exact q.elim
def intOfD:D→HD→Out D
 |.int i,h=>.ok (.int i) h
 |.bl b,h=>.ok (.int (if b then 1 else 0)) h
 |_,_=>.stuck
theorem VP:B9 X (.type "int") (Ai intOfD):=by
 refine ⟨_,Ut,fun m H h E ds vs Q hr r q=>Ew r q fun d v ev rv q=>?_⟩
 unfold intOfD at q
 split at q
 ·simp only [DV] at rv;subst rv
  exact .inl ⟨_,ev,AN hr q (by simp [DV])⟩
 ·simp only [DV] at rv;subst rv
  exact .inr ⟨_,ev,AN hr q (by simp [DV])⟩
 ·exact q.elim
def Be:D→HD→Out D:=fun x h=>match x with
 |.tup ds=>.ok (.tup ds) h
 |.loc l=>match h[l]? with
  |some (.lst ds)=>.ok (.tup ds) h
  |_=>.stuck
 |_=>.stuck
theorem VQ:B9 X (.type "tuple") (Ai Be):=by
 refine ⟨_,UY,fun m H h E ds vs Q hr r q=>Ew r q fun d v ev rv q=>?_⟩
 unfold Be at q
 split at q
 ·simp only [DV] at rv
  obtain ⟨a,ws,rfl,ha,dv⟩:=rv
  exact ⟨a,ws,ev,.inr ⟨SqT.of ha,AN hr q (by simp only [DV];exact ⟨a,ws,rfl,ha,dv⟩)⟩⟩
 ·split at q
  ·rename_i ds' el
   simp only [DV] at rv
   obtain ⟨a,rfl,ha⟩:=rv
   obtain ⟨ws,hv,dv⟩:=hr.cells _ _ a el ha
   exact ⟨a,ws,ev,.inl ⟨SqL.of hv,FK hr dv q⟩⟩
  ·exact q.elim
 ·exact q.elim
end
theorem PostS.bind {α β:Type} {K:PySem.W.Frag} {m:List Addr} {H:Hp} {R:List Addr→Hp→α→β→Prop} {E:XK} {Q':β→Hp→Prop} {Dn:CO} {o:Out α} {k:α→HD→Out (Fl×Ae)}
 (h:PostS K m H E Dn (o.bind k)) (f:∀a h1 v m1 H1,o=.ok a h1→m <+:m1→Kp H H1→HR K m1 h1 H1→R m1 H1 a v→PostS K m1 H1 E Dn (k a h1)→Q' v H1):Post K R m H E Q' o:=by
 cases o with
 |ok a h1=>exact fun v m1 H1 p kk hr r=>f a h1 v m1 H1 rfl p kk hr r (h.ahead p kk)
 |err C fs h1=>exact h
 |stuck=>exact h
theorem PostS.here {K:PySem.W.Frag} {m:List Addr} {H:Hp} {E:XK} {Dn:CO} {a:Fl×Ae} {h:HD} (hr:HR K m h H) (p:PostS K m H E Dn (.ok a h)):NP K m H Dn a:=p m H (AA _) (.refl _) hr
section
variable {X:Cx} {E:XK} {st:Stmt} {sts b1 b2:List Stmt} {g g1 g2:MS} {e:Expr} {f:ME} {pos:Pos} {t:MT}
def A0:MS:=fun ρ h=>.ok (.nx,ρ) h
def Ag (g1 g2:MS):MS:=fun ρ h=>(g1 ρ h).bind fun x h1=>match x with
 |(.nx,ρ1)=>g2 ρ1 h1
 |y=>.ok y h1
theorem VR:B4 X E [] A0:=KS Tu fun Dn σ H z1_=>by obtain ⟨m,ρ,h,hr,er,p⟩:=z1_;exact ((p.here hr) σ er)
theorem IE (h:Ex X E st g):B4 X E [st] g:=Tw h
theorem IF (h1:Ex X E st g1) (h2:B4 X E sts g2):B4 X E (st::sts) (Ag g1 g2):=
 KS (Tv h1 h2) fun Dn σ H z2_=>by
  obtain ⟨m,ρ,h,hr,er,p⟩:=z2_
  refine ⟨m,ρ,h,hr,er,?_⟩
  unfold Ag at p
  cases o:g1 ρ h with
  |stuck=>rw [o] at p;exact p
  |err C fs h1=>rw [o] at p;exact p
  |ok x h1=>
   rw [o] at p
   obtain ⟨fl,ρ1⟩:=x
   intro m1 H1 p1 k1 hr1
   cases fl with
   |nx=>exact fun σ1 er1=>⟨m1,ρ1,h1,hr1,er1,PostS.ahead p1 k1 p⟩
   |bk=>exact p m1 H1 p1 k1 hr1
   |ct=>exact p m1 H1 p1 k1 hr1
   |rt d=>exact p m1 H1 p1 k1 hr1
def Cm (f:ME):MS:=fun ρ h=>(f ρ h).bind fun _ h1=>.ok (.nx,ρ) h1
theorem VS (he:Ev X E e f) (hs:swapsWith e none pos.line X.env=pure false:=by rfl):Ex X E (.Expr e pos) (Cm f):=
 Eo (Tz he hs) fun Dn σ H z3_=>by obtain ⟨m,ρ,h,hr,er,p⟩:=z3_;exact (⟨m,ρ,h,hr,er,PostS.bind p fun x h1 v m1 H1 _ p1 k1 hr1 r1 q1=>(q1.here hr1) σ (er.keep p1 k1)⟩)
def Aq (f:ME):MS:=fun ρ h=>(f ρ h).bind fun d h1=>.ok (.rt d,ρ) h1
theorem N5 (he:Ev X E e f):Ex X E (.Return (some e) pos) (Aq f):=
 Eo (TC he) fun Dn σ H z4_=>by obtain ⟨m,ρ,h,hr,er,p⟩:=z4_;exact (⟨m,ρ,h,hr,er,PostS.bind p fun x h1 v m1 H1 _ p1 k1 hr1 r1 q1=>(q1.here hr1) v r1⟩)
def AQ (t:MT) (g1 g2:MS):MS:=fun ρ h=>(t ρ h).bind fun b h1=>if b=true then g1 ρ h1 else g2 ρ h1
theorem VT {c:Expr} (hc:Dx X E c t) (ha:B4 X E b1 g1) (hb:B4 X E b2 g2):Ex X E (.If c b1 b2 pos) (AQ t g1 g2):=
 Eo (TH hc ha hb) fun Dn σ H z5_=>by obtain ⟨m,ρ,h,hr,er,p⟩:=z5_;exact (⟨m,ρ,h,hr,er,PostS.bind p fun x h1 v m1 H1 _ p1 k1 hr1 r1 q1=>by
  cases r1
  cases x with
  |true=>exact ⟨m1,ρ,h1,hr1,er.keep p1 k1,q1⟩
  |false=>exact ⟨m1,ρ,h1,hr1,er.keep p1 k1,q1⟩⟩)
def N6:MS:=fun _ _=>.stuck
theorem VU:B4 X E sts N6:=KS TK fun Dn σ H z7_=>by obtain ⟨m,ρ,h,hr,er,p⟩:=z7_;exact (p)
def Ao (i:Nat) (f:ME):MS:=fun ρ h=>(f ρ h).bind fun d h1=>.ok (.nx,ρ.set i (some d)) h1
theorem K0 {i:Nat} {x:Str} {pos':Pos} (hN:X.N.Nodup) (hi:X.N[i]?=some x) (hx:GJ X.env.scope x) (he:Ev X E e f) (hs:swapsWith e (some (.Name x pos')) pos.line X.env=pure false:=by rfl) (hf:X.fn x=true∨X.env.scope.names.lookup x=some .local:=by first |exact .inl rfl |exact .inr rfl |assumption):
 Ex X E (.Assign [.Name x pos'] e pos) (Ao i f):=
 Eo (TN hN hi hx he hs hf) fun Dn σ H z9_=>by obtain ⟨m,ρ,h,hr,er,p⟩:=z9_;exact (⟨m,ρ,h,hr,er,PostS.bind p fun x h1 v m1 H1 _ p1 k1 hr1 r1 q1=>(q1.here hr1) _ ((er.keep p1 k1).set r1)⟩)
def CC (i j:Nat) (fa:MA):MS:=fun ρ h=>(fa ρ h).bind fun ds h1=>match ds with
 |[x,y]=>.ok (.nx,(ρ.set i (some x)).set j (some y)) h1
 |_=>.stuck
theorem VV {i j:Nat} {x y:Str} {a b:Expr} {fa:MA} {px py pt:Pos} {kt k2:Nat} {pt2:Pos} (hc:X.calm=true) (hN:X.N.Nodup) (hi:X.N[i]?=some x) (hj:X.N[j]?=some y) (hij:i≠j)
 (hx:X.env.scope.names.lookup x=some .local) (hy:X.env.scope.names.lookup y=some .local) (ha:Cj X E [a,b] fa)
 (hw:swappedStores [.Tuple [.Name x px,.Name y py] kt pt] (.Tuple [a,b] k2 pt2) X.env=pure (some [x,y]))
 (hs:swapsWithSole [.Tuple [.Name x px,.Name y py] kt pt] (.Tuple [a,b] k2 pt2) pos.line X.env=pure false:=by rfl):
 Ex X E (.Assign [.Tuple [.Name x px,.Name y py] kt pt] (.Tuple [a,b] k2 pt2) pos) (CC i j fa):=
 Eo (TU hc hN hi hj hij hx hy ha hw hs) fun Dn σ H z10_=>by obtain ⟨m,ρ,h,hr,er,p⟩:=z10_;exact (⟨m,ρ,h,hr,er,PostS.bind p fun x h1 v m1 H1 _ p1 k1 hr1 r1 q1=>by
  split at q1
  ·simp only [FH,DVs] at r1
   obtain ⟨v,w,rfl,rv,v',w',rfl,rv',rfl⟩:=r1
   exact ⟨v,v',rfl,(q1.here hr1) _ (((er.keep p1 k1).set rv).set rv')⟩
  ·exact q1.elim⟩)
abbrev MG:=D→Ae→Option Ae
def Ey (X:Cx) (tg:Expr) (sg:MG):Prop:=
 ∃gg:TG,PG X tg gg∧∀m H d v ρ σ ρ' Q,DV X.K m H d v→ER X.K m H ρ σ→sg d ρ=some ρ'→(∀σ',ER X.K m H ρ' σ'→Q σ' H)→gg v σ H Q
def Ap (i:Nat):MG:=fun d ρ=>some (ρ.set i (some d))
def IG (i j:Nat):MG:=fun d ρ=>match d with
 |.tup [x,y]=>some ((ρ.set i (some x)).set j (some y))
 |_=>none
theorem VW {i:Nat} {x:Str} (h:PG X (.Name x pos) (BO i)):Ey X (.Name x pos) (Ap i):=⟨_,h,fun m H d v ρ σ ρ' Q r er e q=>by
 simp only [Ap,Option.some.injEq] at e
 subst e
 exact q _ (er.set r)⟩
theorem VX {i j:Nat} {x y:Str} {px py:Pos} {kt:Nat} (h:PG X (.Tuple [.Name x px,.Name y py] kt pos) (Ej X.K 2 (B7 (BO i) (B7 (BO j) Ei)))):Ey X (.Tuple [.Name x px,.Name y py] kt pos) (IG i j):=⟨_,h,fun m H d v ρ σ ρ' Q r er e q=>by
 unfold IG at e
 split at e
 ·rename_i a b
  cases e
  simp only [DV,DVs] at r
  obtain ⟨p,vs,rfl,hp,v1,w1,rfl,r1,v2,w2,rfl,r2,rfl⟩:=r
  exact ⟨p,_,rfl,SqT.of hp,rfl,v1,_,rfl,v2,_,rfl,rfl,q _ ((er.set r1).set r2)⟩
 ·cases e⟩
def EX (sg:MG) (f:ME):MS:=fun ρ h=>(f ρ h).bind fun d h1=>match sg d ρ with
 |some ρ1=>.ok (.nx,ρ1) h1
 |none=>.stuck
theorem VY {tg:Expr} {sg:MG} (he:Ev X E e f) (hg:Ey X tg sg) (hs:swapsWithSole [tg] e pos.line X.env=pure false:=by rfl) (hw:swappedStores [tg] e X.env=pure none:=by rfl)
 (h1:(assignEach [tg] X.env).map (·.2)=[assign tg X.env]:=by rfl):Ex X E (.Assign [tg] e pos) (EX sg f):=by
 obtain ⟨gg,hg,i⟩:=hg
 exact Eo (Nj he hg hs hw h1) fun Dn σ H z11_=>by obtain ⟨m,ρ,h,hr,er,p⟩:=z11_;exact (⟨m,ρ,h,hr,er,PostS.bind p fun x h1 v m1 H1 _ p1 k1 hr1 r1 q1=>by
  split at q1
  ·rename_i ρ1 es
   exact i m1 H1 x v ρ σ ρ1 _ r1 (er.keep p1 k1) es fun σ' er'=>(q1.here hr1) σ' er'
  ·exact q1.elim⟩)
abbrev AK:=List (Nat×List D)
def Bz (src:AK) (items:List D) (h:HD):Prop:=∀p∈src,h[p.1]?=some (.lst p.2)
theorem DY {items:List D} {h:HD}:Bz [] items h:=fun p z=>nomatch z
theorem GW {items ds:List D} {h:HD} {l:Nat} (e:h[l]?=some (.lst ds)):Bz [(l,ds)] items h:=fun p z=>by
 rw [qaI] at z
 subst z
 exact e
def K1 (K:PySem.W.Frag):List Addr→Hp→(List D×AK)→It→Prop:=fun m1 H1 x J=>
 ∀i m2 h2 H2,m1 <+:m2→Kp H1 H2→HR K m2 h2 H2→Bz x.2 x.1 h2→
  (i<x.1.length→J.go i H2∧∀y H3,J.yld i H2 y H3→Kp H2 H3∧HR K m2 h2 H3∧∃d,x.1[i]?=some d∧DV K m2 H3 d y)∧(i=x.1.length→J.stop i H2)
abbrev MI:=Ae→HD→Out (List D×AK)
abbrev FL (X:Cx) (E:XK) (tg iter:Expr) (it:MI):Prop:=PI X tg iter (tM X.K (K1 X.K) E it)
theorem K2 {tg iter:Expr} {w w':TI} (h:PI X tg iter w) (i:∀σ H R,w' σ H R→w σ H R):PI X tg iter w':=fun pins s σ H R I q=>h pins s σ H R I (i σ H R q)
theorem VZ {tg l:Expr} {tl:TE} (hl:PE X l tl):PI X tg l (fun σ H R=>tl σ H fun x H1=>∃a,x=.ref a∧(((∃xs,SqL X.K H1 a xs)∧R (GM X.K a) H1)∨((∃xs,SqT X.K H1 a xs)∧R (GN X.K a) H1))):=by
 intro pins s σ H R I h
 refine An (hl pins s σ H _ I h) fun v s1 z12_=>?_
 obtain ⟨x,H1,I1,r1,q1⟩:=z12_
 obtain ⟨a,e,q⟩:=q1
 subst e
 cases r1
 rcases q with ⟨⟨xs,hq⟩,q⟩ |⟨⟨xs,hq⟩,q⟩
 ·obtain ⟨its,rv,p,hz⟩:=I1.list hq
  refine wpAny_pyIter_list p.isList ?_
  refine ⟨s1.heap.objs.size,[s1.heap.objs.size],_,_,H1,rfl,I1.kept (t':=s1.toks) fun b o e=>AB _ e,TV a _,⟨_,AW _ rfl,rfl,rfl⟩,fun b hb=>?_,q⟩
  have e:b=s1.heap.objs.size:=by simpa using hb
  subst e
  exact I1.fpOk (Am _) (I1.hok.fresh (Am _))
 ·obtain ⟨its,rv,p,hz⟩:=I1.tuple hq
  refine wpAny_pyIter_tuple (show s1.heap.IsTuple a its.toArray from p) ?_
  refine ⟨s1.heap.objs.size,[s1.heap.objs.size],_,_,H1,rfl,I1.kept (t':=s1.toks) fun b o e=>AB _ e,TX a _,⟨_,AW _ rfl,rfl,rfl⟩,fun b hb=>?_,q⟩
  have e:b=s1.heap.objs.size:=by simpa using hb
  subst e
  exact I1.fpOk (Am _) (I1.hok.fresh (Am _))
def EY:D→List D→AK
 |.loc l,ds=>[(l,ds)]
 |_,_=>[]
def CD (d:D) (h:HD):Out (List D×AK):=match A7 d h with
 |some ds=>.ok (ds,EY d ds) h
 |none=>.stuck
def AI (f:ME):MI:=fun ρ h=>(f ρ h).bind CD
theorem Kp.lget {H H':Hp} {a:Addr} {K:PySem.W.Frag} {xs:List V} (k:Kp H H') (h:FzL K H a xs):SqL K H' a xs:=(k.fzL h).sq
theorem N7 {K:PySem.W.Frag} {a:Addr} {m:List Addr} {H:Hp} {h:HD} {i:Nat} {items:List D} {vs:List V} (hr:HR K m h H) (hs:SqL K H a vs) (dv:DVs K m H items vs) (uniq:∀ys,SqL K H a ys→ys=vs∨True):
 (i<items.length→(GM K a).go i H∧∀y H3,(GM K a).yld i H y H3→Kp H H3∧HR K m h H3∧∃d,items[i]?=some d∧DV K m H3 d y)∧(i=items.length→(GM K a).stop i H):=by
 refine ⟨fun hi=>?_,fun hi=>⟨vs,hs,by rw [←dv.len];exact GI hi.symm⟩⟩
 have hd:items[i]?=some items[i]:=Bi hi
 obtain ⟨v,e1,r1⟩:=dv.get hd
 refine ⟨⟨vs,v,hs,e1⟩,fun y H3 z13_=>?_⟩
 obtain ⟨e3,hy⟩:=z13_
 subst e3
 have:=hy vs hs
 rw [e1] at this
 cases this
 exact ⟨.refl _,hr,_,hd,r1⟩
theorem V0 {K:PySem.W.Frag} {a:Addr} {m:List Addr} {H:Hp} {h:HD} {i:Nat} {items:List D} {vs:List V} (hr:HR K m h H) (hs:SqT K H a vs) (dv:DVs K m H items vs):
 (i<items.length→(GN K a).go i H∧∀y H3,(GN K a).yld i H y H3→Kp H H3∧HR K m h H3∧∃d,items[i]?=some d∧DV K m H3 d y)∧(i=items.length→(GN K a).stop i H):=by
 refine ⟨fun hi=>?_,fun hi=>⟨vs,hs,by rw [←dv.len];exact GI hi.symm⟩⟩
 have hd:items[i]?=some items[i]:=Bi hi
 obtain ⟨v,e1,r1⟩:=dv.get hd
 refine ⟨⟨vs,v,hs,e1⟩,fun y H3 z14_=>?_⟩
 obtain ⟨e3,hy⟩:=z14_
 subst e3
 have:=hy vs hs
 rw [e1] at this
 cases this
 exact ⟨.refl _,hr,_,hd,r1⟩
theorem V1 {tg a:Expr} (ha:Ev X E a f):FL X E tg a (AI f):=
 K2 (VZ ha) fun σ H R ⟨m,ρ,h,hr,er,p⟩=>⟨m,ρ,h,hr,er,Post.bind p fun x h1 v m1 H1 _ p1 k1 hr1 r1 q1=>by
  unfold CD at q1
  split at q1
  ·rename_i ds eds
   cases x with
   |tup xs=>
    simp only [A7,Option.some.injEq] at eds
    subst eds
    simp only [rD,DV] at r1
    obtain ⟨a,vs,rfl,ha,dv⟩:=r1
    refine ⟨a,rfl,.inr ⟨⟨vs,SqT.of ha⟩,q1 _ m1 H1 (AA _) (.refl _) hr1 fun i m2 h2 H2 p2 k2 hr2 _=>?_⟩⟩
    exact V0 hr2 (SqT.of (k2 _ _ ha rfl)) (dv.keep p2 k2)
   |loc l=>
    simp only [rD,DV] at r1
    obtain ⟨a,rfl,ha⟩:=r1
    simp only [A7] at eds
    split at eds
    ·rename_i xs el
     cases eds
     obtain ⟨vs,hv,dv⟩:=hr1.cells l _ a el ha
     refine ⟨a,rfl,.inl ⟨⟨vs,SqL.of hv⟩,q1 _ m1 H1 (AA _) (.refl _) hr1 fun i m2 h2 H2 p2 k2 hr2 hs=>?_⟩⟩
     obtain ⟨ws,hw,dw⟩:=hr2.cells l _ a (hs _ AU) (KQ p2 ha)
     exact N7 hr2 (SqL.of hw) dw fun _ _=>.inr trivial
    ·cases eds
   |scr ns=>
    simp only [A7,Option.some.injEq] at eds
    subst eds
    simp only [rD,DV] at r1
    obtain ⟨a,rfl,ha⟩:=r1
    refine ⟨a,rfl,.inl ⟨⟨_,ha.sq⟩,q1 _ m1 H1 (AA _) (.refl _) hr1 fun i m2 h2 H2 p2 k2 hr2 _=>?_⟩⟩
    exact N7 hr2 (k2.lget ha) N4 fun _ _=>.inr trivial
   |_=>simp [A7] at eds
  ·exact q1.elim⟩
def EZ (lo:Int) (n:Nat):List D:=(List.range n).map fun k=>.int (lo+(k:Nat))
theorem V2 {K:PySem.W.Frag} {m1:List Addr} {H1:Hp} (lo:Int) (n:Nat):K1 K m1 H1 (EZ lo n,[]) (HX lo n):=fun i m2 h2 H2 p2 k2 hr2 _=>by
 refine ⟨fun hi=>?_,fun hi=>?_⟩
 ·have hi':i<n:=by simpa [EZ] using hi
  refine ⟨hi',fun y H3 z16_=>?_⟩
  obtain ⟨e3,ey⟩:=z16_
  subst e3 ey
  refine ⟨.refl _,hr2,.int (lo+i),?_,by simp [DV]⟩
  simp [EZ,List.getElem?_range,hi']
 ·show n≤i
  have hi':i=n:=by simpa [EZ] using hi
  omega
@[irreducible] noncomputable def FM:List D→HD→Out (List D×AK):=fun ds h=>match ds with
  |[.int j]=>@ite _ (-(2^62)≤j∧j<2^62) (Classical.propDecidable _) (.ok (EZ 0 j.toNat,[]) h) .stuck
  |_=>.stuck
@[irreducible] noncomputable def N8:List D→HD→Out (List D×AK):=fun ds h=>match ds with
  |[.int i,.int j]=>@ite _ ((-(2^62)≤i∧i<2^62)∧-(2^62)≤j∧j<2^62) (Classical.propDecidable _) (.ok (EZ i (j - i).toNat,[]) h) .stuck
  |_=>.stuck
noncomputable def CV (fa:MA):MI:=fun ρ h=>(fa ρ h).bind FM
noncomputable def N9 (fa:MA):MI:=fun ρ h=>(fa ρ h).bind N8
theorem V3 {tg a:Expr} {fa:MA} {p pos:Pos} (hg:Gl X "range") (hm:X.mg "range"=none) (ha:Cj X E [a] fa) (hs:starEach [a] X.env=[(false,eval a X.env)]:=by rfl):FL X E tg (.Call (.Name "range" p) [a] [] pos) (CV fa):=
 K2 (T3 hg hm ha hs) fun σ H R z17_=>by obtain ⟨m,ρ,h,hr,er,p⟩:=z17_;exact (⟨m,ρ,h,hr,er,Post.bind p fun x h1 v m1 H1 _ p1 k1 hr1 r1 q1=>by
  unfold FM at q1
  split at q1
  ·split at q1
   ·rename_i hj
    simp only [FH,DVs,DV] at r1
    obtain ⟨v,w,rfl,rfl,rfl⟩:=r1
    exact ⟨_,rfl,hj.1,hj.2,q1 _ m1 H1 (AA _) (.refl _) hr1 (V2 0 _)⟩
   ·exact q1.elim
  ·exact q1.elim⟩)
open Classical in
noncomputable def Dy (src:AK) (items:List D) (sg:MG) (body:MS):List D→MS
 |[]=>fun ρ h=>if Bz src items h then .ok (.nx,ρ) h else .stuck
 |d::ds=>fun ρ h=>if Bz src items h then match sg d ρ with
   |none=>.stuck
   |some ρ1=>(body ρ1 h).bind fun x h2=>match x with
    |(.nx,ρ2)=>Dy src items sg body ds ρ2 h2
    |(.ct,ρ2)=>Dy src items sg body ds ρ2 h2
    |(.bk,ρ2)=>.ok (.nx,ρ2) h2
    |(.rt d,ρ2)=>.ok (.rt d,ρ2) h2
  else .stuck
noncomputable def Bq (it:MI) (sg:MG) (body:MS):MS:=fun ρ h=>(it ρ h).bind fun x h1=>Dy x.2 x.1 sg body x.1 ρ h1
inductive Oa (K:PySem.W.Frag) (E:XK) (Dn:CO) (src:AK) (items:List D) (sg:MG) (g:MS) (m1:List Addr) (H1:Hp) (i n:Nat) (σ2:L2.St) (H2:Hp):Prop where
 |mk (e:n=items.length - i) (l:i≤items.length) (m2:List Addr) (ρ2:Ae) (h2:HD) (p:m1 <+:m2) (k:Kp H1 H2) (hr:HR K m2 h2 H2) (er:ER K m2 H2 ρ2 σ2) (q:PostS K m2 H2 E Dn (Dy src items sg g (items.drop i) ρ2 h2)):Oa K E Dn src items sg g m1 H1 i n σ2 H2
inductive Ob (K:PySem.W.Frag) (E:XK) (Dn:CO) (src:AK) (items:List D) (sg:MG) (g:MS) (m1:List Addr) (H1:Hp) (i:Nat) (σ2:L2.St) (H2:Hp):Prop where
 |mk (m2:List Addr) (ρ2:Ae) (h2:HD) (p:m1 <+:m2) (k:Kp H1 H2) (hr:HR K m2 h2 H2) (er:ER K m2 H2 ρ2 σ2) (q:PostS K m2 H2 E Dn (Dy src items sg g (items.drop i) ρ2 h2)):Ob K E Dn src items sg g m1 H1 i σ2 H2
theorem V4 {tg iter:Expr} {body:List Stmt} {it:MI} {sg:MG} {g:MS} (hp:PassesOwn (model X.prog X.w) X.A X.env X.xe) (hc:X.calm=true) (hi:FL X E tg iter it) (hg:Ey X tg sg) (hb:B4 X E body g)
 (hs:∀x,foldedSetIterable iter X.env x=pure x:=by intro _;rfl):Ex X E (.For tg iter body [] pos) (Bq it sg g):=by
 obtain ⟨gg,hg,ig⟩:=hg
 refine Eo (T7 hp hc hi hg hb hs) ?_
 rintro Dn σ H ⟨m,ρ,h,hr,er,p⟩
 refine ⟨m,ρ,h,hr,er,PostS.bind p fun x h1 J m1 H1 _ p1 k1 hr1 r1 q1=>?_⟩
 obtain ⟨items,src⟩:=x
 refine ⟨Oa X.K E Dn src items sg g m1 H1,⟨items.length,rfl,B2 _,m1,ρ,h1,AA _,.refl _,hr1,er.keep p1 k1,by simpa using q1⟩,?_⟩
 rintro i n σ2 H2 ⟨rfl,hi,m2,ρ2,h2,p2,k2,hr2,er2,q2⟩
 by_cases hlt:i<items.length
 ·rw [Hz hlt] at q2
  unfold Dy at q2
  split at q2
  ·rename_i hs
   obtain ⟨hgo,hy⟩:=(r1 i m2 h2 H2 p2 k2 hr2 hs).1 hlt
   refine .inr ⟨hgo,Ob X.K E Dn src items sg g m1 H1 (i+1),fun σ5 H5 z20_=>by obtain ⟨m5,ρ5,h5,a1,a2,a3,a4,a5⟩:=z20_;exact (⟨items.length - (i+1),by omega,rfl,hlt,m5,ρ5,h5,a1,a2,a3,a4,a5⟩),fun y H3 hyl=>?_⟩
   obtain ⟨k3,hr3,d,ed,rd⟩:=hy y H3 hyl
   have ed':d=items[i]:=by rw [Bi hlt] at ed;exact (Option.some.inj ed).symm
   subst ed'
   split at q2
   ·exact q2.elim
   ·rename_i ρ3 es
    refine ig m2 H3 _ y ρ2 σ2 ρ3 _ rd (er2.keep (AA _) k3) es fun σ4 er4=>?_
    refine ⟨m2,ρ3,h2,hr3,er4,?_⟩
    have q3:=PostS.ahead (AA _) k3 q2
    cases o:g ρ3 h2 with
    |stuck=>rw [o] at q3;exact q3
    |err C fs h5=>rw [o] at q3;exact q3
    |ok z h5=>
     rw [o] at q3
     obtain ⟨fl,ρ5⟩:=z
     intro m5 H5 p5 k5 hr5
     have pk:m1 <+:m5:=p2.trans p5
     have kk:Kp H1 H5:=(k2.trans k3).trans k5
     cases fl with
     |nx=>exact fun σ5 er5=>⟨m5,ρ5,h5,pk,kk,hr5,er5,PostS.ahead p5 k5 q3⟩
     |ct=>exact fun σ5 er5=>⟨m5,ρ5,h5,pk,kk,hr5,er5,PostS.ahead p5 k5 q3⟩
     |bk=>exact fun σ5 er5=>q3 m5 H5 p5 k5 hr5 σ5 er5
     |rt d=>exact fun v rv=>q3 m5 H5 p5 k5 hr5 v rv
  ·exact q2.elim
 ·have he:i=items.length:=Nat.le_antisymm hi (GF hlt)
  subst he
  rw [List.drop_length] at q2
  unfold Dy at q2
  split at q2
  ·rename_i hs
   exact .inl ⟨(r1 _ m2 h2 H2 p2 k2 hr2 hs).2 rfl,(q2.here hr2) σ2 er2⟩
  ·exact q2.elim
end
section
variable {M:Model} {A:Around} {E:Value→Shared→Prop} {s:Shared}
theorem K3 {env:Env}:∀(names:List (Str×NameKind)) (acc:List (Str×Addr)),(∀y∈names,y.2=.free→∃c,env.cells.lookup y.1=some c)→
 ∃cl:List (Str×Addr),(forIn names acc (fun (x:Str×NameKind) (cs:List (Str×Addr))=>match x with
  |(name,kind)=>if (kind==NameKind.free)=true then do let y ←cellOf env name;pure (ForInStep.yield ((name,y)::cs)) else pure (ForInStep.yield cs)):Sem (List (Str×Addr)))=pure cl∧
  (∀x c,(x,c)∈cl→(x,c)∈acc∨(env.cells.lookup x=some c∧(x,NameKind.free)∈names))∧(∀y∈names,y.2=.free→∃c,(y.1,c)∈cl)∧(∀p∈acc,p∈cl)
 |[],acc,_=>⟨acc,rfl,fun x c h=>.inl h,fun y hy=>absurd hy (by simp),fun p h=>h⟩
 |(name,kind)::r,acc,h=>by
  rw [List.forIn_cons]
  by_cases hk:kind=.free
  ·subst hk
   obtain ⟨c,hc⟩:=h (name,.free) AU rfl
   obtain ⟨cl,e,h1,h2,h3⟩:=K3 (env:=env) r ((name,c)::acc) (fun y hy=>h y (AV _ hy))
   refine ⟨cl,?_,fun x c' hm=>?_,fun y hy hf=>?_,fun p hp=>h3 p (AV _ hp)⟩
   ·rw [←e]
    have:cellOf env name=pure c:=by unfold cellOf;rw [hc]
    simp only [this,beq_self_eq_true,if_true,pure_bind]
   ·rcases h1 x c' hm with q |⟨q1,q2⟩
    ·rcases qa4.mp q with q |q
     ·cases q;exact .inr ⟨hc,AU⟩
     ·exact .inl q
    ·exact .inr ⟨q1,AV _ q2⟩
   ·rcases qa4.mp hy with q |q
    ·subst q;exact ⟨c,h3 _ AU⟩
    ·exact h2 y q hf
  ·obtain ⟨cl,e,h1,h2,h3⟩:=K3 (env:=env) r acc (fun y hy=>h y (AV _ hy))
   refine ⟨cl,?_,fun x c' hm=>?_,fun y hy hf=>?_,h3⟩
   ·rw [←e]
    have hk':(kind==NameKind.free)=false:=by simpa using hk
    simp only [hk',Bc,if_false,pure_bind]
   ·rcases h1 x c' hm with q |⟨q1,q2⟩
    ·exact .inl q
    ·exact .inr ⟨q1,AV _ q2⟩
   ·rcases qa4.mp hy with q |q
    ·subst q;exact absurd hf hk
    ·exact h2 y q hf
theorem Oc {scope:Scope} {env:Env} (h:∀y∈scope.names,y.2=.free→∃c,env.cells.lookup y.1=some c):
 ∃cl:List (Str×Addr),closureFor scope env=pure cl∧(∀x c,(x,c)∈cl→env.cells.lookup x=some c∧(x,NameKind.free)∈scope.names)∧(∀y∈scope.names,y.2=.free→∃c,(y.1,c)∈cl):=by
 obtain ⟨cl,e,h1,h2,h3⟩:=K3 (env:=env) scope.names [] h
 refine ⟨cl,?_,fun x c hm=>?_,h2⟩
 ·unfold closureFor
  simp only [bind_pure]
  exact e
 ·rcases h1 x c hm with q |q
  ·exact nomatch q
  ·exact q
theorem V5 {scope:Scope} {globals:Addr} {cl:List (Str×Addr)} {qual:Str} {around:Env} {Q:Env→Shared→Prop}
 (h:Q (newEnv scope s.heap.objs.size globals (cellsFrom (s.heap.objs.size+1) scope.names cl) qual none .none (some around) builtinsNs) {s with heap:=pushCells (s.heap.push {cls:=.type "dict",data:=.dict #[]}) scope.names}):
 wpAny M A (newFunctionEnv scope globals cl [] qual none .none (some around)) Q E s:=by
 simp only [newFunctionEnv,Option.isSome_some,if_true]
 refine wpAny_bind (wpAny_alloc ?_)
 refine wpAny_bind (wpAny_layCells _ (fun name kind cells=>by cases hkc:kind==NameKind.cell<;>simp [hkc]) _ _ _ _ ?_)
 simp only [List.forIn_nil,pure_bind]
 refine wpAny_pure ?_
 rw [show ({s with heap:=s.heap.push {cls:=.type "dict",data:=.dict #[]}}:Shared).heap.objs.size=s.heap.objs.size+1 from BN ..]
 exact h
end
section
variable {prog:Program} {w:World} {A:Around} {R:Result→Shared→Prop} {s:Shared}
theorem V6 {elt target iter:Expr} {ifs:List Expr} {scope:Scope} {pos:Pos} {it acc:Value} {env:Env} (I:Nat→Shared→Prop)
 (turn:∀n s,I n s→wpAny (model prog w) A (pyNext it) (fun r s₁=>match r with
  |none=>R (.ok .next) s₁
  |some v=>wpAny (model prog w) A (letOwnedTupleGo target it v) (fun _ s₁'=>wpAny (model prog w) A (assign target env v) (fun _ s₂=>
   wpAny (model prog w) A (forIn ifs true fun c r=>if r=true then do let ok ←isTrue c env (eval c env);pure (ForInStep.yield ok) else pure (ForInStep.yield r)) (fun ok s₃=>
    if ok=true then wpAny (model prog w) A (eval elt env) (fun x s₄=>
     wpAny (model prog w) A (call (.builtin "list.append") [acc,x]) (fun _ s₅=>∃m,m<n∧I m s₅) (notedBy (model prog w) A env fun e s'=>R (.error e) s') s₄) (notedBy (model prog w) A env fun e s'=>R (.error e) s') s₃
    else ∃m,m<n∧I m s₃) (notedBy (model prog w) A env fun e s'=>R (.error e) s') s₂) (notedBy (model prog w) A env fun e s'=>R (.error e) s') s₁') (notedBy (model prog w) A env fun e s'=>R (.error e) s') s₁) (notedBy (model prog w) A env fun e s'=>R (.error e) s') s)
 (n:Nat) (h:I n s):
 codeAny (model prog w) A (.compLoop (.ListComp elt [⟨target,iter,ifs,0⟩] scope pos) 0 it acc env) R s:=by
 refine codeAny_loop rfl I (fun n s hI=>?_) n h
 show wpAny _ A ((compTurn (.ListComp elt [⟨target,iter,ifs,0⟩] scope pos) 0 it acc env).onRaise (fun x=>do noteFrame x env;theTreesLotGoes x)) _ _ s
 refine wpAny_noted ?_
 rw [compTurn_list]
 refine wpAny_bind (wpAny_standAt (wpAny_bind (wpAny_mono (turn n s hI) (fun r s₁ h₁=>?_) fun _ _ h'=>h')))
 cases r with
 |none=>exact wpAny_pure h₁
 |some v=>
  refine wpAny_bind (wpAny_mono h₁ (fun _ s₁' h₁'=>?_) fun _ _ h'=>h')
  refine wpAny_bind (wpAny_mono h₁' (fun _ s₂ h₂=>wpAny_bind (wpAny_mono h₂ (fun ok s₃ h₃=>?_) fun _ _ h'=>h')) fun _ _ h'=>h')
  cases ok with
  |false=>exact wpAny_pure ⟨rfl,h₃⟩
  |true=>
   exact wpAny_bind (wpAny_bind (wpAny_mono h₃ (fun x s₄ h₄=>wpAny_bind (wpAny_mono h₄ (fun _ s₅ h₅=>wpAny_pure (wpAny_pure ⟨rfl,h₅⟩)) fun _ _ h'=>h')) fun _ _ h'=>h'))
end
def GX (X:Cx) (ifs:List Expr) (t:TT):Prop:=∀(pins:List (Addr×Obj)) (s:Shared) (σ:L2.St) (H:Hp) (Q:Bool→Hp→Prop),Inv X pins σ H s→t σ H Q→
 wpAny (model X.prog X.w) X.A (forIn ifs true fun c r=>if r=true then do let ok ←isTrue c X.env (eval c X.env);pure (ForInStep.yield ok) else pure (ForInStep.yield r)) (TP X pins σ Q) X.xe s
theorem V7 {X:Cx}:GX X [] (fun _ H Q=>Q true H):=fun _ _ _ H _ I h=>wpAny_tests_nil ⟨H,I,h⟩
theorem V8 {X:Cx} {c:Expr} {t:TT} (h:PT X c t):GX X [c] t:=fun pins s σ H Q I q=>wpAny_tests_one (h pins s σ H Q I q)
def Od (env:Env) (scope:Scope) (C:Addr) (cells:List (Str×Addr)):Env:=
 {scope:=relabel scope env,locals:=C,globals:=env.globals,cells:=cells,qual:=env.qual,func:=none,code:=env.code,frame:=env.frame,builtins:=env.builtins}
def BP (X:Cx) (Nc:List Str) (scope:Scope) (C D:Addr) (cells:List (Str×Addr)) (fp:List Addr) (s₀:Shared) (H₀:Hp) (pins:List (Addr×Obj)):Cx:=
 {X with N:=Nc,s₀:=s₀,H₀:=H₀,env:=Od X.env scope C cells,outer:=X.stack,stack:=X.stack,ex:=D::fp,fn:=fun x=>scope.names.lookup x==some .cell,pn:=X.pn++pins,xe:=fun _ _=>False}
def Bp (cs:List (Option Nat)) (σ:L2.St):L2.St:=cs.map fun o=>o.bind fun j=>(σ[j]?).join
def Sub (σ σ':L2.St):Prop:=σ.length=σ'.length∧∀(i:Nat) v,σ[i]?=some (some v)→σ'[i]?=some (some v)
def K4 (cs:List (Option Nat)) (wi:TI) (g:TG) (tc:TT) (te:TE):TE:=fun σ H Q=>wi σ H fun J H1=>∃W:Nat→Nat→List V→Hp→Prop,(∃n,W 0 n [] H1)∧∀i n acc H,W i n acc H→
 (J.stop i H∧acc.length≤sizeLine∧∀p,H p=none→Q (.ref p) (Ah H p (.lst acc)))∨
 (J.go i H∧acc.length<sizeLine∧∀x H',J.yld i H x H'→g x (Bp cs σ) H' fun σ2 H2=>Sub (Bp cs σ) σ2∧tc σ2 H2 fun b H3=>if b=true then te σ2 H3 fun y H4=>∃n',n' < n∧W (i+1) n' (acc++[y]) H4 else ∃n',n' < n∧W (i+1) n' acc H3)
theorem K5:∀(names:List (Str×NameKind)) (h:Heap) (acc:List (Str×Addr)) (x:Str) (c:Addr),(x,c)∈cellsFrom h.objs.size names acc→(x,c)∈acc∨(h.objs.size≤c∧(x,NameKind.cell)∈names∧(pushCells h names).IsCell c none)
 |[],_,_,_,_,m=>.inl m
 |(name,kind)::r,h,acc,x,c,m=>by
  unfold cellsFrom at m
  unfold pushCells
  split at m
  ·rename_i hk
   rw [if_pos hk]
   have hk':kind=.cell:=by simpa using hk
   have e:h.objs.size+1=(h.push {cls:=.type "cell",data:=.cell none}).objs.size:=(BN ..).symm
   rw [e] at m
   rcases K5 r _ _ x c m with q |⟨q1,q2,q3⟩
   ·rcases qa4.mp q with q |q
    ·cases q
     refine .inr ⟨Am _,by rw [hk'];exact AU,?_⟩
     exact (show (h.push {cls:=.type "cell",data:=.cell none}).IsCell h.objs.size none from ⟨_,AW _ rfl,rfl⟩).keeps fun b o e=>pushCells_keeps _ _ b o e
    ·exact .inl q
   ·exact .inr ⟨by rw [←e] at q1;exact HB q1,AV _ q2,q3⟩
  ·rename_i hk
   rw [if_neg hk]
   rcases K5 r h acc x c m with q |⟨q1,q2,q3⟩
   ·exact .inl q
   ·exact .inr ⟨q1,AV _ q2,q3⟩
theorem K6:∀(names:List (Str×NameKind)) (h:Heap) (acc:List (Str×Addr)),(∀x c,(x,c)∈acc→c<h.objs.size)→(∀x y c,(x,c)∈acc→(y,c)∈acc→x=y)→
 ∀x y c,(x,c)∈cellsFrom h.objs.size names acc→(y,c)∈cellsFrom h.objs.size names acc→x=y
 |[],_,_,_,i=>i
 |(name,kind)::r,h,acc,lt,i=>by
  unfold cellsFrom
  split
  ·have e:h.objs.size+1=(h.push {cls:=.type "cell",data:=.cell none}).objs.size:=(BN ..).symm
   rw [e]
   refine K6 r _ _ (fun x c m=>?_) (fun x y c m m'=>?_)
   ·rw [←e]
    rcases qa4.mp m with q |q
    ·cases q;exact GD _
    ·exact HC (lt x c q)
   ·rcases qa4.mp m with q |q<;>rcases qa4.mp m' with q' |q'
    ·cases q;cases q';rfl
    ·cases q;exact absurd (lt y _ q') (B1 _)
    ·cases q';exact absurd (lt x _ q) (B1 _)
    ·exact i x y c q q'
  ·exact K6 r h acc lt i
theorem lookup_mem {α:Type} {l:List (Str×α)} {x:Str} {k:α} (nd:(l.map (·.1)).Nodup) (h:(x,k)∈l):l.lookup x=some k:=by
 induction l with
 |nil=>cases h
 |cons p r ih=>
  obtain ⟨y,j⟩:=p
  rw [A4,qbC] at nd
  rw [Ds]
  rcases qa4.mp h with e |e
  ·cases e;simp
  ·have:x≠y:=by
    rintro rfl
    exact nd.1 (qaU.mpr ⟨(x,k),e,rfl⟩)
   have hb:(x==y)=false:=by simpa using this
   rw [hb]
   exact ih nd.2 e
theorem V9 {env:Env} {x n:Str} {j:NameKind} {r:List (Str×NameKind)} {k:NameKind} (h:List.lookup x ((if (j==NameKind.free&&env.scope.kind==.function&&env.kindOf n==some .cell)=true then (n,NameKind.cell) else (n,j))::r)=some k):
 (x=n∧(k=j∨(j=.free∧k=.cell)))∨(x≠n∧List.lookup x r=some k):=by
 by_cases hx:x=n
 ·subst hx
  refine .inl ⟨rfl,?_⟩
  split at h
  ·rename_i hc
   rw [Ds] at h
   simp only [beq_self_eq_true] at h
   cases h
   simp only [Bf] at hc
   exact .inr ⟨by simpa using hc.1.1,rfl⟩
  ·rw [Ds] at h
   simp only [beq_self_eq_true] at h
   cases h
   exact .inl rfl
 ·have hb:(x==n)=false:=by simpa using hx
  refine .inr ⟨hx,?_⟩
  split at h<;>(rw [Ds] at h;simp only [hb] at h;exact h)
theorem Oe {scope:Scope} {env:Env} {x:Str} {k:NameKind}:(relabel scope env).names.lookup x=some k→∃k0,scope.names.lookup x=some k0∧(k=k0∨(k0=.free∧k=.cell)):=by
 show (scope.names.map _).lookup x=some k→_
 induction scope.names with
 |nil=>intro h;cases h
 |cons p r ih=>
  obtain ⟨n,j⟩:=p
  intro h
  rw [A4] at h
  rw [Ds]
  rcases V9 h with ⟨hx,hk⟩ |⟨hx,hr⟩
  ·subst hx
   simp only [beq_self_eq_true]
   exact ⟨j,rfl,hk⟩
  ·have hb:(x==n)=false:=by simpa using hx
   rw [hb]
   exact ih hr
structure GY (X:Cx) (scope:Scope) (Nc:List Str) (cs:List (Option Nat)):Prop where
 kind:scope.kind=.function
 loc:∀y∈scope.names,y.2=.local→scope.names.lookup y.1=some .local
 free:∀y∈scope.names,y.2=.free→X.env.kindOf y.1=some .cell∨X.env.kindOf y.1=some .free
 nd:(scope.names.map (·.1)).Nodup
 len:cs.length=Nc.length
 out:∀(i:Nat) (x:Str) (j:Nat),Nc[i]?=some x→cs[i]?=some (some j)→X.N[j]?=some x∧scope.names.lookup x=some .free
theorem Wa {a b:Addr} (h:a<b):@LT.lt Nat instLTNat a b:=h
theorem CF {a b:Addr} (h:@LT.lt Nat instLTNat a b):a≠b:=Bd h
theorem FN {a b:Addr} (h:@LT.lt Nat instLTNat a b):b≠a:=Ne.symm (Bd h)
section
variable {X:Cx} {pins:List (Addr×Obj)} {σ:L2.St} {H:Hp} {s:Shared}
theorem Wb {scope:Scope} {Nc:List Str} {cs:List (Option Nat)} {fp:List Addr} {cl:List (Str×Addr)} (S:GY X scope Nc cs) (I:Inv X pins σ H s) (f:∀b∈fp,DT X pins H b) (ob:∀b∈fp,∃o,s.heap.get? b=some o)
 (hcl:∀x c,(x,c)∈cl→X.env.cells.lookup x=some c∧(x,NameKind.free)∈scope.names) (hcl2:∀y∈scope.names,y.2=.free→∃c,(y.1,c)∈cl) {s3:Shared} (e3:s3={s with heap:=s.heap.push {cls:=.type "list",data:=.seq ([]:List Value).toArray}}):
 Inv (BP X Nc scope s3.heap.objs.size s.heap.objs.size (cellsFrom (s3.heap.objs.size+1) scope.names cl) fp s3 H pins) [] (Bp cs σ) H
  {s3 with heap:=pushCells (s3.heap.push {cls:=.type "dict",data:=.dict #[]}) scope.names}:=by
 have k3:∀b o,s.heap.get? b=some o→s3.heap.get? b=some o:=fun b o e=>by subst e3;exact AB _ e
 have IU:s3.heap.objs.size=s.heap.objs.size+1:=by subst e3;exact BN ..
 have szd:(s3.heap.push {cls:=.type "dict",data:=.dict #[]}).objs.size=s3.heap.objs.size+1:=BN ..
 have k34:∀b o,s3.heap.get? b=some o→(pushCells (s3.heap.push {cls:=.type "dict",data:=.dict #[]}) scope.names).get? b=some o:=fun b o e=>pushCells_keeps _ _ b o (AB _ e)
 have k4:∀b o,s.heap.get? b=some o→(pushCells (s3.heap.push {cls:=.type "dict",data:=.dict #[]}) scope.names).get? b=some o:=fun b o e=>k34 b o (k3 b o e)
 have cllt:∀x c,(x,c)∈cl→c<s.heap.objs.size:=fun x c m=>by
  obtain ⟨v,q⟩:=I.cell x c (hcl x c m).1
  exact q.lt
 have cm:∀x c,(cellsFrom (s3.heap.objs.size+1) scope.names cl).lookup x=some c→(x,c)∈cl∨(s3.heap.objs.size+1≤c∧(x,NameKind.cell)∈scope.names∧(pushCells (s3.heap.push {cls:=.type "dict",data:=.dict #[]}) scope.names).IsCell c none):=fun x c e=>by
  have m:=mem_of_lookup e
  rw [←szd] at m
  have:=K5 scope.names _ cl x c m
  rw [szd] at this
  exact this
 have frs_lt:∀b∈frs X.stack,b<s.heap.objs.size:=fun b hb=>by
  obtain ⟨_,o,ho,_⟩:=I.stack.mem hb
  exact Ax ho
 have nfs:∀b,b≠X.env.locals→b∉X.fs→b∉frs X.stack:=fun b h1 h2 hb=>by
  rcases qa4.mp (I.stkSub b hb) with q |q
  ·exact h1 q
  ·exact h2 q
 have ok:(BP X Nc scope s3.heap.objs.size s.heap.objs.size (cellsFrom (s3.heap.objs.size+1) scope.names cl) fp s3 H pins).Ok:=by
  refine ⟨I.ok.mod,S.kind,I.ok.glob,I.ok.blt,Am _,fun x y c e1 e2=>?_,fun x hx=>?_,fun x c hf e=>?_,I.ok.hd,I.ok.frames,.inl rfl,fun b hb=>?_,fun b o e=>?_,?_,fun b o e hb=>?_,fun b hb=>?_,?_,I.stkFree⟩
  ·have m1:=mem_of_lookup e1
   have m2:=mem_of_lookup e2
   have m1':(x,c)∈cellsFrom (s3.heap.push {cls:=.type "dict",data:=.dict #[]}).objs.size scope.names cl:=by rw [szd];exact m1
   have m2':(y,c)∈cellsFrom (s3.heap.push {cls:=.type "dict",data:=.dict #[]}).objs.size scope.names cl:=by rw [szd];exact m2
   exact K6 scope.names (s3.heap.push {cls:=.type "dict",data:=.dict #[]}) cl (fun x c m=>by rw [szd,IU];exact AX (cllt x c m) (by omega))
    (fun x y c a b=>I.ok.inj x y c (hcl x c a).1 (hcl y c b).1) x y c m1' m2'
  ·have:∃k,(relabel scope X.env).names.lookup x=some k∧(k=.cell∨k=.free):=by
    rcases hx with q |q
    ·exact ⟨_,q,.inl rfl⟩
    ·exact ⟨_,q,.inr rfl⟩
   obtain ⟨k,e1,hk⟩:=this
   obtain ⟨k0,e0,hk0⟩:=Oe e1
   refine qbP.mp (PySem.W.cellsFrom_some _ _ _ ?_)
   have:k0=.cell∨k0=.free:=by
    rcases hk0 with q |⟨q,_⟩
    ·rw [←q];exact hk
    ·exact .inr q
   rcases this with q |q
   ·subst q;exact .inl e0
   ·subst q
    obtain ⟨c,hc⟩:=hcl2 _ (mem_of_lookup e0) rfl
    refine .inr ?_
    cases hl:cl.lookup x with
    |some c'=>rfl
    |none=>
     exfalso
     have:∀p∈cl,p.1≠x:=fun p hp e=>by
      have h2:=List.lookup_eq_none_iff.mp hl p hp
      rw [e] at h2
      simp at h2
     exact this _ hc rfl
  ·have hk:scope.names.lookup x=some .cell:=by
    have:(scope.names.lookup x==some NameKind.cell)=true:=hf
    simpa using this
   rcases cm x c e with q |⟨q1,_,_⟩
   ·have:=lookup_mem S.nd (hcl x c q).2
    rw [hk] at this
    cases this
   ·exact HB q1
  ·rcases qa4.mp hb with q |q
   ·subst q
    refine ⟨CF (show _<s3.heap.objs.size by omega),fun x c e=>?_⟩
    rcases cm x c e with q |⟨q1,_,_⟩
    ·exact Bd (cllt x c q)
    ·exact FN (AX (by omega) q1)
   ·obtain ⟨o,ho⟩:=ob b q
    have hlt:=Wa (Ax ho)
    refine ⟨CF (show _<s3.heap.objs.size by omega),fun x c e=>?_⟩
    rcases cm x c e with q2 |⟨q1,_,_⟩
    ·exact (f b q).2.2.2.2.1 x c (hcl x c q2).1
    ·exact FN (AX (by omega) q1)
  ·obtain ⟨h1,h2⟩:=I.bs b o e
   exact ⟨k3 b o h1,h2⟩
  ·show X.base.objs.size≤s3.heap.objs.size
   have:=BB I.ok.bsz I.sz
   omega
  ·obtain ⟨h1,h2⟩:=I.bs b o e
   rcases qa4.mp hb with q |q
   ·exact absurd q (CF (Ax h1))
   ·rcases (f b q).2.2.2.1 with z |z
    ·exact I.ok.noex b o e z
    ·exact absurd (AX (Ax (I.ok.bs b o e).1) z) (B1 _)
  ·rcases qa4.mp hb with q |q
   ·subst q
    intro z
    exact absurd (frs_lt _ z) (B1 _)
   ·exact nfs b (f b q).2.1 (f b q).2.2.1
  ·exact I.stack.of_keeps fun b o e _=>⟨o,k3 b o e,rfl⟩
 refine ⟨ok,rfl,?_,?_,?_,fun x c e=>?_,?_,fun x c e=>?_,fun p hp=>?_,I.hok.kept k4,?_⟩
 ·show AllBare s3.gens
  subst e3;exact I.bare
 ·exact Un.kept k34
 ·refine ⟨fun _=>none,(Heap.Ns.new s3.heap (.type "dict")).keeps (pushCells_keeps _ _),fun i x v e1 e2 e3'=>?_⟩
  unfold Bp at e2
  rw [B0] at e2
  cases ec:cs[i]? with
  |none=>rw [ec] at e2;cases e2
  |some o=>
   rw [ec] at e2
   cases o with
   |none=>cases e2
   |some j=>
    simp only [Fz,HF,Option.some.injEq] at e2
    have e2':σ[j]?=some (some v):=by
     cases ej:σ[j]? with
     |none=>rw [ej] at e2;cases e2
     |some w=>rw [ej] at e2;simp at e2;rw [e2]
    obtain ⟨hN,hfr⟩:=S.out i x j e1 ec
    have hfm:=mem_of_lookup hfr
    have hkind:=S.free _ hfm rfl
    obtain ⟨m,hn,hl⟩:=I.loc
    obtain ⟨u,r,look⟩:=hl j x v hN e2' (by
     rcases hkind with q |q
     ·exact .inr (.inl q)
     ·exact .inr (.inr q))
    refine ⟨u,r,.inr ?_⟩
    rcases look with ⟨q,_⟩ |⟨_,c,ec',hc⟩
    ·rcases hkind with z |z<;>(rw [q] at z;cases z)
    ·obtain ⟨c',hc'⟩:=hcl2 _ hfm rfl
     have hv:(BP X Nc scope s3.heap.objs.size s.heap.objs.size (cellsFrom (s3.heap.objs.size+1) scope.names cl) fp s3 H pins).env.kindOf x=some .cell∨(BP X Nc scope s3.heap.objs.size s.heap.objs.size (cellsFrom (s3.heap.objs.size+1) scope.names cl) fp s3 H pins).env.kindOf x=some .free:=by
      rcases e3' with z |z |z
      ·obtain ⟨k0,a1,a2⟩:=Oe z
       rw [hfr] at a1
       cases a1
       rcases a2 with a2 |⟨_,a2⟩<;>cases a2
      ·exact .inl z
      ·exact .inr z
     refine ⟨hv,c,?_,hc.keeps k4⟩
     obtain ⟨c2,h2⟩:=ok.has x hv
     rw [h2]
     rcases cm x c2 h2 with q |⟨_,q,_⟩
     ·rw [←ec',(hcl x c2 q).1]
     ·have:=lookup_mem S.nd q
      rw [hfr] at this
      cases this
 ·rcases cm x c e with q |⟨_,_,q⟩
  ·obtain ⟨v,z⟩:=I.cell x c (hcl x c q).1
   exact ⟨v,z.keeps k4⟩
  ·exact ⟨none,q⟩
 ·exact I.hok.fresh (show s.heap.objs.size≤s3.heap.objs.size by omega)
 ·rcases cm x c e with q |⟨q,_,_⟩
  ·exact I.freeC x c (hcl x c q).1
  ·exact I.hok.fresh (by omega)
 ·have hp':p∈X.pn++pins:=by
   rcases qaW.mp hp with q |q
   ·exact q
   ·exact absurd q (by simp)
  obtain ⟨a1,a2,a3,a4,a5⟩:=I.pin p hp'
  refine ⟨k4 _ _ a1,a2,?_,nfs p.1 a3 a4,a5⟩
  show p.1≠s3.heap.objs.size
  exact CF (AX (Ax a1) (by omega))
 ·show (Bp cs σ).length=Nc.length
  simp [Bp,S.len]
end
section
variable {X:Cx} {elt tg iter:Expr} {ifs:List Expr} {scope:Scope} {pos:Pos} {Nc:List Str} {cs:List (Option Nat)} {wi:TI} {g:TG} {tc:TT} {te:TE}
theorem Wc {pins:List (Addr×Obj)} {σ:L2.St} {H H':Hp} {s s3 s':Shared} {fp:List Addr} {C:Addr} {cells:List (Str×Addr)} {po:List (Addr×Obj)} {σc:L2.St} {acc:List V} {its:List Value} {n:Nat}
 (I:Inv X pins σ H s) (f:∀b∈fp,DT X pins H b) (e3:s3={s with heap:=s.heap.push {cls:=.type "list",data:=.seq ([]:List Value).toArray}}) (hC:C=s3.heap.objs.size)
 (I':Inv (BP X Nc scope C s.heap.objs.size cells fp s3 H pins) po σc H' s') (hD:H' s.heap.objs.size=none) (hl:acc.length≤sizeLine) (rv:Vals acc its) (ho:s'.heap.get? s.heap.objs.size=some {cls:=.type "list",data:=.seq its.toArray n})
 {h':Heap} (sb:Heap.SameBut C s'.heap h'):Inv X pins σ (Ah H' s.heap.objs.size (.lst acc)) {s' with heap:=h'}:=by
 have k3:∀b o,s.heap.get? b=some o→s3.heap.get? b=some o:=fun b o e=>by subst e3;exact AB _ e
 have IU:s3.heap.objs.size=s.heap.objs.size+1:=by subst e3;exact BN ..
 have CU:∀b o,s.heap.get? b=some o→b≠s.heap.objs.size:=fun b o e=>CF (Ax e)
 have neC:∀b o,s.heap.get? b=some o→b≠C:=fun b o e=>by rw [hC];exact CF (AX (Ax e) (by omega))
 have DC:s.heap.objs.size≠C:=by rw [hC];exact CF (by omega)
 have U:Un (frs X.stack) (s.heap.objs.size::fp) H H' s3.heap s'.heap:=I'.base
 have exn:∀b o,s.heap.get? b=some o→b∉fp→b∉s.heap.objs.size::fp:=fun b o e hx hb=>by
  rcases qa4.mp hb with z |z
  ·exact CU b o e z
  ·exact hx z
 have neT:∀b u,H' b=some u→b≠s.heap.objs.size:=fun b u e=>Dj e hD
 have hCn:H' C=none:=I'.free
 refine I.call' (s':={s' with heap:=h'}) (ch:=fp) ?_ ?_ ?_ I'.bare ?_
 ·show s'.os=s.os
  have:=I'.os
  rw [this]
  show s3.os=s.os
  subst e3;rfl
 ·refine ⟨fun b o e nn hb hx=>?_,fun b o e nn hb hx=>?_,fun b o e nn hx=>?_,fun b o e hx=>?_,fun b xs e=>?_,fun b o u e=>?_,fun b ps e=>?_⟩
  ·exact (sb.2 b (neC b o e)).trans (U.keep b o (k3 b o e) nn hb (exn b o e hx))
  ·obtain ⟨sl,z⟩:=U.slot b o (k3 b o e) nn hb (exn b o e hx)
   exact ⟨sl,(sb.2 b (neC b o e)).trans z⟩
  ·rw [Av (CU b o e)]
   exact U.free b o (k3 b o e) nn (exn b o e hx)
  ·obtain ⟨o',z⟩:=U.there b o (k3 b o e) (exn b o e hx)
   exact ⟨o',(sb.2 b (neC b o e)).trans z⟩
  ·have z:=U.tups b xs e
   rw [Av (neT b _ z)]
   exact z
  ·have z:=U.frzs b o u e
   rw [Av (neT b _ z)]
   exact z
  ·obtain ⟨more,z⟩:=U.tbls b ps e
   exact ⟨more,by rw [Av (neT b _ z)];exact z⟩
 ·intro b u e
  by_cases hb:b=s.heap.objs.size
  ·subst hb
   rw [B6] at e
   cases e
   exact ⟨hl,its,n,rv,(sb.2 _ DC).trans ho⟩
  ·rw [Av hb] at e
   refine (I'.hok b u e).stay (fun c v hc z=>(sb.2 c ?_).trans z) (fun c z=>by rw [Av (neT c _ z)];exact z) fun c xs z=>by rw [Av (neT c _ z)];exact z
   rcases hc with rfl |hc
   ·exact Dj e hCn
   ·exact Dj hc hCn
 ·intro b hb
  obtain ⟨_,f1,_,f3,f4,f5⟩:=f b hb
  exact ⟨f3,f1,f4,f5⟩
inductive Of (W:Nat→Nat→List V→Hp→Prop) (Xc:Cx) (σc:L2.St) (tn:Nat→Heap→Prop) (fp:List Addr) (Da:Addr) (n:Nat) (s':Shared):Prop where
 |mk (i:Nat) (acc:List V) (H':Hp) (its:List Value) (k:Nat) (w:W i n acc H') (ii:Inv Xc [] σc H' s') (st:tn i s'.heap) (fr:∀b∈fp,H' b=none) (hD:H' Da=none) (rv:Vals acc its) (ho:s'.heap.get? Da=some {cls:=.type "list",data:=.seq its.toArray k}):Of W Xc σc tn fp Da n s'
theorem Wd {use:Option (Value→Sem Unit)} {QQ:Value→Shared→Prop} {ppos:Pos} {pins:List (Addr×Obj)} {s:Shared} {σ:L2.St} {H:Hp} {Q:VK} (hcalm:X.calm=true) (S:GY X scope Nc cs) (hi:PI X tg iter wi)
 (hb:∀(C D:Addr) (cells:List (Str×Addr)) (fp:List Addr) (s₀:Shared) (H₀:Hp) (pins:List (Addr×Obj)),PG (BP X Nc scope C D cells fp s₀ H₀ pins) tg g∧GX (BP X Nc scope C D cells fp s₀ H₀ pins) ifs tc∧PE (BP X Nc scope C D cells fp s₀ H₀ pins) elt te)
 (hsf:∀x,foldedSetIterable iter X.env x=pure x) (I:Inv X pins σ H s) (h:K4 cs wi g tc te σ H Q)
 (Ay:∀(s6:Shared) (C D:Addr) (H7:Hp) (m6:Str→Option Value),s6.heap.Ns C m6→H7 C=none→X.s₀.heap.objs.size≤C→C≠X.env.locals→(∀x c,X.env.cells.lookup x=some c→c≠C)→(∀p∈X.pn++pins,p.1≠C)→
  (∀h',Heap.SameBut C s6.heap h'→Inv X pins σ H7 {s6 with heap:=h'})→Q (.ref D) H7→compPost (model X.prog X.w) X.A X.xe use QQ (.ref D) C (.ok .next) s6):
 wpAny (model X.prog X.w) X.A (comprehension (.ListComp elt [⟨tg,iter,ifs,0⟩] scope pos) scope X.env ppos (newList []) false (eval iter X.env) use) QQ X.xe s:=by
 obtain ⟨cl,hclos,hcl,hcl2⟩:=Oc (scope:=scope) (env:=X.env) fun y hy hf=>I.ok.has y.1 (S.free y hy hf)
 refine wpAny_comprehension_free (use:=use) rfl hsf hclos S.kind S.loc (An (hi pins s σ H _ I h) fun xv s1 h1=>An h1 fun itv s2 h2=>?_)
 obtain ⟨it,fp,tn,J,H2,e,I2,T,st2,f2,W,⟨n0,w0⟩,turn⟩:=h2
 subst e
 refine wpAny_newObj_type ?_
 generalize e3:({s2 with heap:=s2.heap.push {cls:=.type "list",data:=.seq ([]:List Value).toArray}}:Shared)=s3
 refine V5 ?_
 have ob2:∀b∈fp,∃o,s2.heap.get? b=some o:=fun b hb=>let ⟨o,e,_⟩:=T.obj _ _ st2 b hb;⟨o,e⟩
 have I4:=Wb (fp:=fp) (cl:=cl) S I2 f2 ob2 hcl hcl2 e3.symm
 generalize e4:({s3 with heap:=pushCells (s3.heap.push {cls:=.type "dict",data:=.dict #[]}) scope.names}:Shared)=s4 at I4
 generalize ecl:cellsFrom (s3.heap.objs.size+1) scope.names cl=cells at I4
 obtain ⟨pg,pt,pe⟩:=hb s3.heap.objs.size s2.heap.objs.size cells fp s3 H2 pins
 generalize eX:BP X Nc scope s3.heap.objs.size s2.heap.objs.size cells fp s3 H2 pins=Xc at I4 pg pt pe
 have xP:Xc.prog=X.prog:=by subst eX;rfl
 have xw:Xc.w=X.w:=by subst eX;rfl
 have xK:Xc.K=X.K:=by subst eX;rfl
 have xA:Xc.A=X.A:=by subst eX;rfl
 have xE:Xc.env=Od X.env scope s3.heap.objs.size cells:=by subst eX;rfl
 have xL:Xc.env.locals=s3.heap.objs.size:=by subst eX;rfl
 have xe:Xc.xe=fun _ _=>False:=by subst eX;rfl
 have xc:Xc.calm=true:=by subst eX;exact hcalm
 have xex:Xc.ex=s2.heap.objs.size::fp:=by subst eX;rfl
 have okc:=I4.ok
 have k3:∀b o,s2.heap.get? b=some o→s3.heap.get? b=some o:=fun b o e=>by subst e3;exact AB _ e
 have IU:s3.heap.objs.size=s2.heap.objs.size+1:=by subst e3;exact BN ..
 have k34:∀b o,s3.heap.get? b=some o→s4.heap.get? b=some o:=fun b o e=>by subst e4;exact pushCells_keeps _ _ b o (AB _ e)
 have hDC:s2.heap.objs.size≠Xc.env.locals:=by rw [xL];exact CF (by omega)
 have hDcell:∀x c,Xc.env.cells.lookup x=some c→c≠s2.heap.objs.size:=fun x c e=>(okc.exf _ (by rw [xex];exact AU)).2 x c e
 have hDpin:∀p∈Xc.pn,p.1≠s2.heap.objs.size:=fun p hp=>by
  have hp':p∈X.pn++pins:=by subst eX;exact hp
  exact CF (Ax (I2.pin p hp').1)
 have hDfp:s2.heap.objs.size∉fp:=fun hm=>by
  obtain ⟨o,e⟩:=ob2 _ hm
  exact absurd (Ax e) (B1 _)
 have hDex:s2.heap.objs.size∈Xc.ex:=by rw [xex];exact AU
 have hDfs:s2.heap.objs.size∉Xc.fs:=okc.exfs _ hDex
 have fpC:∀{po:List (Addr×Obj)} {H':Hp},(∀b∈fp,H' b=none)→(∀p∈po,p.1=s2.heap.objs.size)→∀b∈fp,DT Xc po H' b:=fun {po H'} hn hp b hb=>by
  have hbx:b∈Xc.ex:=by rw [xex];exact AV _ hb
  refine ⟨hn b hb,(okc.exf b hbx).1,okc.exfs b hbx,.inl hbx,(okc.exf b hbx).2,fun p hpp=>?_⟩
  rcases qaW.mp hpp with z |z
  ·have hp':p∈X.pn++pins:=by subst eX;exact z
   exact (f2 b hb).2.2.2.2.2 p hp'
  ·rw [hp p z]
   intro e
   exact hDfp (e ▸ hb)
 have loop:∀sx,sx=s4→codeAny (model X.prog X.w) X.A (.compLoop (.ListComp elt [⟨tg,iter,ifs,0⟩] scope pos) 0 (.ref it) (.ref s2.heap.objs.size) Xc.env)
  (compPost (model X.prog X.w) X.A X.xe use QQ (.ref s2.heap.objs.size) s3.heap.objs.size) sx:=by
  rintro sx rfl
  refine V6 (Of W Xc (Bp cs σ) tn fp s2.heap.objs.size) ?_ n0
   ⟨0,[],H2,[],0,w0,I4,?_,fun b hb=>(f2 b hb).1,I2.hok.fresh (Am _),.nil,?_⟩
  ·rintro n s5 ⟨i,acc,H5,its,k,w5,I5,st5,fr5,hD5,rv5,ho5⟩
   have pin1:Inv Xc [(s2.heap.objs.size,{cls:=.type "list",data:=.seq its.toArray k})] (Bp cs σ) H5 s5:=I5.pins_of fun p hp=>by
    rw [qaI] at hp
    subst hp
    exact ⟨ho5,hD5,hDC,hDfs,fun v z=>by cases z⟩
   have pone:∀p∈[((s2.heap.objs.size:Addr),({cls:=.type "list",data:=.seq its.toArray k}:Obj))],p.1=s2.heap.objs.size:=fun p hp=>by
    rw [qaI] at hp;subst hp;rfl
   rcases turn i n acc H5 w5 with ⟨stop,hlen,qn⟩ |⟨go,hlen,step⟩
   ·have z1:=T.done Xc xP xw xK xc i _ s5 (Bp cs σ) H5 (fun _ _=>False) pin1 (fpC fr5 pone) st5 stop
    rw [xA] at z1
    refine wpAny_mono z1 (fun r s6 z1_=>?_) fun _ _ z=>False.elim z
    obtain ⟨hr,I6⟩:=z1_
    subst hr
    obtain ⟨m6,hn6,_⟩:=I6.loc
    obtain ⟨ho6,hD6,_⟩:=I6.pin _ (CM _ AU)
    rw [xL] at hn6
    have lt2:∀b,b<s2.heap.objs.size→b≠s3.heap.objs.size:=fun b hb=>CF (AX hb (by omega))
    refine Ay s6 s3.heap.objs.size s2.heap.objs.size (Ah H5 s2.heap.objs.size (.lst acc)) m6 hn6 ?_ (BB I2.sz (by omega)) ?_ ?_ ?_ ?_ (qn _ hD6)
    ·rw [Av (FN (by omega))]
     have:=I6.free
     rw [xL] at this
     exact this
    ·obtain ⟨m2,hn2,_⟩:=I2.loc
     exact Ne.symm (lt2 _ hn2.lt)
    ·intro x c hx
     obtain ⟨v,hv⟩:=I2.cell x c hx
     obtain ⟨o,ho,_⟩:=hv
     exact lt2 _ (Ax ho)
    ·intro p hp
     exact lt2 _ (Ax (I2.pin p hp).1)
    ·intro h' sb
     subst eX
     exact Wc I2 f2 e3.symm rfl I6 hD6 hlen rv5 ho6 sb
   ·have z1:=T.item Xc xP xw xK xc i _ s5 (Bp cs σ) H5 (fun _ _=>False) pin1 (fpC fr5 pone) st5 go
    rw [xA] at z1
    refine wpAny_mono z1 (fun r s6 z2_=>?_) fun _ _ z=>False.elim z
    obtain ⟨u,hr,h6⟩:=z2_
    subst hr
    refine wpAny_mono h6 (fun _ s7 z3_=>?_) fun _ _ z=>False.elim z
    obtain ⟨x,H7,I7,r7,y7,st7,fr7⟩:=z3_
    have I7':=I7.pinned (fp:=fp) (fpC fr7 pone) (T.obj _ _ st7)
    have z2:=pg _ s7 (Bp cs σ) H7 x u _ I7' r7 (step x H7 y7)
    rw [xP,xw,xA,xe] at z2
    refine wpAny_mono z2 (fun _ s8 z4_=>?_) fun _ _ z=>False.elim z
    obtain ⟨σ8,H8,I8,sub8,q8⟩:=z4_
    have z3:=pt _ s8 σ8 H8 _ I8 q8
    rw [xP,xw,xA,xe] at z3
    refine wpAny_mono z3 (fun ok s9 z5_=>?_) fun _ _ z=>False.elim z
    obtain ⟨H9,I9,q9⟩:=z5_
    have back:∀{sy:Shared} {Hy:Hp},Inv Xc ([(s2.heap.objs.size,{cls:=.type "list",data:=.seq its.toArray k})]++GO fp s7.heap) σ8 Hy sy→
     Inv Xc [] (Bp cs σ) Hy sy∧tn (i+1) sy.heap∧(∀b∈fp,Hy b=none)∧Hy s2.heap.objs.size=none∧sy.heap.get? s2.heap.objs.size=some {cls:=.type "list",data:=.seq its.toArray k}:=fun {sy Hy} Iy=>by
     obtain ⟨ho,hD,_⟩:=Iy.pin _ (CM _ (Gz _ AU))
     refine ⟨(Iy.pins_of fun p hp=>absurd hp (by simp)).weak (sub8.1) (fun j v z=>sub8.2 j v z),T.keep _ _ _ st7 fun b hb o e=>(Iy.pin (b,o) (CM _ (CM _ (HY hb e)))).1,fun b hb=>?_,hD,ho⟩
     obtain ⟨o,e,_⟩:=T.obj _ _ st7 b hb
     exact (Iy.pin (b,o) (CM _ (CM _ (HY hb e)))).2.1
    cases ok with
    |false=>
     simp only [Bc,if_false] at q9 ⊢
     obtain ⟨n',hn',w'⟩:=q9
     obtain ⟨a1,a2,a3,a4,a5⟩:=back I9
     exact ⟨n',hn',i+1,acc,H9,its,k,w',a1,a2,a3,a4,rv5,a5⟩
    |true=>
     simp only [if_true] at q9 ⊢
     have z4:=pe _ s9 σ8 H9 _ I9 q9
     rw [xP,xw,xA,xe] at z4
     refine wpAny_mono z4 (fun y s10 z6_=>?_) fun _ _ z=>False.elim z
     obtain ⟨yv,H10,I10,r10,n',hn',w'⟩:=z6_
     obtain ⟨a1,a2,a3,a4,a5⟩:=back I10
     have hlen':=rv5.length
     refine wpAny_list_append_plain ⟨k,a5⟩ (fun h' ⟨k',hl'⟩ sb=>?_) (by rw [Bu];omega)
     have tu:Inv Xc [] (Bp cs σ) H10 {s10 with heap:=h'}:=a1.turned (t':=s10.toks) (it:=s2.heap.objs.size) (fun b o hb e=>(sb.2 b hb).trans e) a4 hDC (.inl hDex) hDcell (fun p hp=>by
      rcases qaW.mp hp with z |z
      ·exact hDpin p z
      ·exact absurd z (by simp))
     refine ⟨n',hn',i+1,acc++[yv],H10,its++[y],k',w',tu,T.keep _ _ _ a2 (fun b hb o e=>(sb.2 b (fun z=>hDfp (z ▸ hb))).trans e),a3,a4,rv5.append (.cons r10 .nil),?_⟩
     rw [hl']
     simp
  ·exact T.keep _ _ _ st2 fun b hb o e=>k34 b o (k3 b o e)
  ·refine k34 _ _ ?_
   subst e3
   exact AW _ rfl
 have Ay:=loop s4 rfl
 have hst4:tn 0 s4.heap:=T.keep _ _ _ st2 fun b hb o e=>k34 b o (k3 b o e)
 rw [xE] at Ay
 have:=codeAny_compStart_list Ay (T.self X.A 0 s4 _ _ hst4 Ay)
 exact this
theorem Wf (hcalm:X.calm=true) (S:GY X scope Nc cs) (hi:PI X tg iter wi)
 (hb:∀(C D:Addr) (cells:List (Str×Addr)) (fp:List Addr) (s₀:Shared) (H₀:Hp) (pins:List (Addr×Obj)),PG (BP X Nc scope C D cells fp s₀ H₀ pins) tg g∧GX (BP X Nc scope C D cells fp s₀ H₀ pins) ifs tc∧PE (BP X Nc scope C D cells fp s₀ H₀ pins) elt te)
 (hsf:∀x,foldedSetIterable iter X.env x=pure x:=by intro _;rfl):PE X (.ListComp elt [⟨tg,iter,ifs,0⟩] scope pos) (K4 cs wi g tc te):=by
 intro pins s σ H Q I h
 rw [eval_ListComp]
 exact Wd (use:=none) hcalm S hi hb hsf I h fun s6 C D H7 m6 hn _ _ _ _ _ inv q=>⟨m6,hn,fun h' sb=>⟨.ref D,H7,inv h' sb,rfl,q⟩⟩
end
def noErr {α:Type}:Out α→Out α
 |.ok a h=>.ok a h
 |_=>.stuck
@[simp] theorem Zcc {α:Type} (a:α) (h:HD):noErr (.ok a h)=.ok a h:=rfl
theorem Og {α β γ δ:Type} {K:PySem.W.Frag} {R:List Addr→Hp→α→β→Prop} {R':List Addr→Hp→γ→δ→Prop} {m:List Addr} {H:Hp} {E:XK} {Q:δ→Hp→Prop} {Q':β→Hp→Prop} {o:Out α} {k:α→HD→Out γ}
 (h:Post K R' m H E Q ((noErr o).bind k)) (f:∀a h1 v m1 H1,o=.ok a h1→m <+:m1→Kp H H1→HR K m1 h1 H1→R m1 H1 a v→Post K R' m1 H1 E Q (k a h1)→Q' v H1):Post K R m H E0 Q' o:=by
 cases o with
 |ok a h1=>exact fun v m1 H1 p kk hr r=>f a h1 v m1 H1 rfl p kk hr r (Post.ahead p kk h)
 |err C fs h1=>exact False.elim h
 |stuck=>exact False.elim h
def BW (cs:List (Option Nat)) (ρ:Ae):Ae:=cs.map fun o=>o.bind fun j=>(ρ[j]?).join
theorem join_some {α:Type} {l:List (Option α)} {j:Nat} {a:α}:(l[j]?).join=some a↔l[j]?=some (some a):=by
 cases h:l[j]? with
 |none=>simp
 |some o=>simp
theorem ER.comp {K:PySem.W.Frag} {m:List Addr} {H:Hp} {ρ:Ae} {σ:L2.St} (cs:List (Option Nat)) (er:ER K m H ρ σ):ER K m H (BW cs ρ) (Bp cs σ):=by
 refine ⟨by simp [BW,Bp],fun i d e=>?_⟩
 unfold BW at e
 rw [B0] at e
 cases ec:cs[i]? with
 |none=>rw [ec] at e;cases e
 |some o=>
  rw [ec] at e
  cases o with
  |none=>cases e
  |some j=>
   simp only [Fz,HF,Option.some.injEq] at e
   obtain ⟨v,e1,r⟩:=er.2 j d (join_some.mp e)
   refine ⟨v,?_,r⟩
   unfold Bp
   rw [B0,ec]
   simp only [Fz,HF,Option.some.injEq]
   exact join_some.mpr e1
theorem Sub.set {cs:List (Option Nat)} {σ:L2.St} {σ':L2.St} {i:Nat} {v:V} (h:cs[i]?=some none) (s:Sub (Bp cs σ) σ'):Sub (Bp cs σ) (σ'.set i (some v)):=by
 refine ⟨by rw [s.1];simp,fun j w e=>?_⟩
 have hj:i≠j:=by
  rintro rfl
  unfold Bp at e
  rw [B0,h] at e
  cases e
 rw [Bj hj]
 exact s.2 j w e
theorem Sub.refl (σ:L2.St):Sub σ σ:=⟨rfl,fun _ _ h=>h⟩
def IH (K:PySem.W.Frag) (cs:List (Option Nat)) (gg:TG) (sg:MG):Prop:=
 ∀m H d v ρ σ0 ρ' Q,DV K m H d v→ER K m H ρ (Bp cs σ0)→sg d ρ=some ρ'→(∀σ',Sub (Bp cs σ0) σ'→ER K m H ρ' σ'→Q σ' H)→gg v (Bp cs σ0) H Q
theorem Wg {K:PySem.W.Frag} {cs:List (Option Nat)} {i:Nat} (h:cs[i]?=some none):IH K cs (BO i) (Ap i):=fun m H d v ρ σ0 ρ' Q r er e q=>by
 simp only [Ap,Option.some.injEq] at e
 subst e
 exact q _ ((Sub.refl _).set h) (er.set r)
abbrev II (X:Cx) (E:XK) (ifs:List Expr) (t:MT):Prop:=GX X ifs (GQ X.K E t)
def AZ:MT:=fun _ h=>.ok true h
theorem Wh {X:Cx} {E:XK}:II X E [] AZ:=fun pins s σ H Q I z1_=>by obtain ⟨m,ρ,h,hr,er,p⟩:=z1_;exact (V7 pins s σ H Q I (p true m H (AA _) (.refl _) hr rfl))
theorem Wi {X:Cx} {E:XK} {c:Expr} {t:MT} (h:Dx X E c t):II X E [c] t:=V8 h
open Classical in
noncomputable def CG (src:AK) (items:List D) (sg:MG) (t:MT) (f:ME) (ρc:Ae):List D→HD→Out (List D)
 |[],h=>if Bz src items h then .ok [] h else .stuck
 |d::ds,h=>if Bz src items h then match sg d ρc with
   |none=>.stuck
   |some ρ1=>(noErr (t ρ1 h)).bind fun b h1=>if b=true then (noErr (f ρ1 h1)).bind fun y h2=>(CG src items sg t f ρc ds h2).bind fun ys h3=>.ok (y::ys) h3 else CG src items sg t f ρc ds h1
  else .stuck
noncomputable def Az (cs:List (Option Nat)) (it:MI) (sg:MG) (t:MT) (f:ME):ME:=fun ρ h=>(it ρ h).bind fun x h1=>if x.1.length≤sizeLine then (CG x.2 x.1 sg t f (BW cs ρ) x.1 h1).bind Bg else .stuck
theorem Out.bind_assoc {α β γ:Type} (o:Out α) (k:α→HD→Out β) (l:β→HD→Out γ):(o.bind k).bind l=o.bind fun a h=>(k a h).bind l:=by cases o<;>rfl
section
variable {X:Cx} {E:XK} {elt tg iter:Expr} {ifs:List Expr} {scope:Scope} {pos:Pos} {Nc:List Str} {cs:List (Option Nat)} {it:MI} {gg:TG} {sg:MG} {t:MT} {f:ME}
inductive Oh (K:PySem.W.Frag) (E:XK) (Q:VK) (src:AK) (items:List D) (sg:MG) (t:MT) (f:ME) (ρc:Ae) (m1:List Addr) (H1:Hp) (i n:Nat) (acc:List V) (H2:Hp):Prop where
 |mk (e:n=items.length - i) (l:i≤items.length) (a:acc.length≤i) (m2:List Addr) (h2:HD) (dacc:List D) (p:m1 <+:m2) (k:Kp H1 H2) (hr:HR K m2 h2 H2) (da:DVs K m2 H2 dacc acc) (q:Post K (rD K) m2 H2 E Q ((CG src items sg t f ρc (items.drop i) h2).bind fun ys h3=>Bg (dacc++ys) h3)):Oh K E Q src items sg t f ρc m1 H1 i n acc H2
theorem Wj (hg:IH X.K cs gg sg):∀σ H Q,tD X.K E (Az cs it sg t f) σ H Q→K4 cs (tM X.K (K1 X.K) E it) gg (GQ X.K E0 t) (tD X.K E0 f) σ H Q:=by
 refine ?_
 rintro σ H Q ⟨m,ρ,h,hr,er,p⟩
 refine ⟨m,ρ,h,hr,er,Post.bind p fun x h1 J m1 H1 _ p1 k1 hr1 r1 q1=>?_⟩
 obtain ⟨items,src⟩:=x
 dsimp only at q1
 split at q1
 ·rename_i hz
  have er1:ER X.K m1 H1 (BW cs ρ) (Bp cs σ):=(er.keep p1 k1).comp cs
  refine ⟨Oh X.K E Q src items sg t f (BW cs ρ) m1 H1,
   ⟨items.length,rfl,B2 _,Am _,m1,h1,[],AA _,.refl _,hr1,.nil,by simpa using q1⟩,?_⟩
  rintro i n acc H2 ⟨rfl,hi',ha,m2,h2,dacc,p2,k2,hr2,da,q2⟩
  by_cases hlt:i<items.length
  ·rw [Hz hlt] at q2
   unfold CG at q2
   split at q2
   ·rename_i hs
    obtain ⟨hgo,hy⟩:=(r1 i m2 h2 H2 p2 k2 hr2 hs).1 hlt
    refine .inr ⟨hgo,by omega,fun y H3 hyl=>?_⟩
    obtain ⟨k3,hr3,d,ed,rd⟩:=hy y H3 hyl
    have ed':d=items[i]:=by rw [Bi hlt] at ed;exact (Option.some.inj ed).symm
    subst ed'
    split at q2
    ·exact q2.elim
    ·rename_i ρ3 es
     have er3:ER X.K m2 H3 (BW cs ρ) (Bp cs σ):=er1.keep p2 (k2.trans k3)
     refine hg m2 H3 _ y (BW cs ρ) σ ρ3 _ rd er3 es fun σ4 sub4 er4=>⟨sub4,m2,ρ3,h2,hr3,er4,?_⟩
     rw [Out.bind_assoc] at q2
     refine Og (Post.ahead (AA _) k3 q2) fun b h5 v m5 H5 _ p5 k5 hr5 r5 q5=>?_
     cases r5
     cases b with
     |false=>
      simp only [Bc,if_false] at q5 ⊢
      exact ⟨items.length - (i+1),by omega,rfl,hlt,by omega,m5,h5,dacc,p2.trans p5,(k2.trans k3).trans k5,hr5,DVs.keep p5 (k3.trans k5) da,q5⟩
     |true=>
      simp only [if_true] at q5 ⊢
      rw [Out.bind_assoc] at q5
      refine ⟨m5,ρ3,h5,hr5,er4.keep p5 k5,Og q5 fun z h6 w m6 H6 _ p6 k6 hr6 r6 q6=>?_⟩
      refine ⟨items.length - (i+1),by omega,rfl,hlt,by simp;omega,m6,h6,dacc++[z],(p2.trans p5).trans p6,((k2.trans k3).trans k5).trans k6,hr6,(DVs.keep (p5.trans p6) ((k3.trans k5).trans k6) da).app (.cons r6 .nil),?_⟩
      rw [Out.bind_assoc] at q6
      simp only [Out.bind_ok] at q6
      simpa using q6
   ·exact q2.elim
  ·have he:i=items.length:=Nat.le_antisymm hi' (GF hlt)
   subst he
   rw [List.drop_length] at q2
   unfold CG at q2
   split at q2
   ·rename_i hs
    simp only [Out.bind_ok,DP] at q2
    obtain ⟨z1,z2⟩:=ES hr2 da q2
    exact .inl ⟨(r1 _ m2 h2 H2 p2 k2 hr2 hs).2 rfl,z1,z2⟩
   ·exact q2.elim
 ·exact q1.elim
theorem Wk (hcalm:X.calm=true) (S:GY X scope Nc cs) (hi:FL X E tg iter it) (hg:IH X.K cs gg sg)
 (hb:∀(C D:Addr) (cells:List (Str×Addr)) (fp:List Addr) (s₀:Shared) (H₀:Hp) (pins:List (Addr×Obj)),PG (BP X Nc scope C D cells fp s₀ H₀ pins) tg gg∧II (BP X Nc scope C D cells fp s₀ H₀ pins) E0 ifs t∧Ev (BP X Nc scope C D cells fp s₀ H₀ pins) E0 elt f)
 (hsf:∀x,foldedSetIterable iter X.env x=pure x:=by intro _;rfl):Ev X E (.ListComp elt [⟨tg,iter,ifs,0⟩] scope pos) (Az cs it sg t f):=by
 exact BD (Wf (g:=gg) (tc:=GQ X.K E0 t) (te:=tD X.K E0 f) hcalm S hi hb hsf) (Wj hg)
end
section
variable {X:Cx} {E:XK}
def CW:D→HD→Option String
 |.non,_=>some "NoneType"
 |.bl _,_=>some "bool"
 |.int _,_=>some "int"
 |.str _,_=>some "str"
 |.tup _,_=>some "tuple"
 |.loc l,h=>match h[l]? with
  |some (.lst _)=>some "list"
  |_=>none
 |_,_=>none
theorem Wl {m:List Addr} {H:Hp} {h:HD} {d:D} {v:V} {t:String} (hr:HR X.K m h H) (r:DV X.K m H d v) (e:CW d h=some t):Dw X.K H v (.type t):=by
 cases d with
 |non=>simp only [CW,Option.some.injEq,DV] at e r;subst e r;exact .non
 |bl b=>simp only [CW,Option.some.injEq,DV] at e r;subst e r;exact .bl _
 |int i=>simp only [CW,Option.some.injEq,DV] at e r;subst e r;exact .int _
 |str x=>simp only [CW,Option.some.injEq,DV] at e r;subst e r;exact .str _
 |tup ds=>simp only [CW,Option.some.injEq,DV] at e r;subst e;obtain ⟨a,vs,rfl,ha,_⟩:=r;exact .tup ha
 |loc l=>
  simp only [DV] at r
  obtain ⟨a,rfl,ha⟩:=r
  simp only [CW] at e
  split at e
  ·rename_i ds el
   cases e
   obtain ⟨vs,hv,_⟩:=hr.cells l _ a el ha
   exact .lst hv
  ·cases e
 |_=>simp [CW] at e
def subL:List (String×String×Bool):=[("NoneType","int",false),("bool","int",true),("int","int",true),("str","int",false),("tuple","int",false),("list","int",false),("NoneType","bool",false),("bool","bool",true),("int","bool",false),("str","bool",false),("tuple","bool",false),("list","bool",false),("NoneType","tuple",false),("bool","tuple",false),("int","tuple",false),("str","tuple",false),("tuple","tuple",true),("list","tuple",false),("NoneType","str",false),("bool","str",false),("int","str",false),("str","str",true),("tuple","str",false),("list","str",false),("NoneType","list",false),("bool","list",false),("int","list",false),("str","list",false),("tuple","list",false),("list","list",true),("dict","int",false),("dict","bool",false),("dict","tuple",false),("dict","str",false),("dict","list",false)]
def IJ (t c:String):Option Bool:=(subL.find? fun p=>p.1==t&&p.2.1==c).map fun p=>p.2.2
theorem Wm {K:PySem.W.Frag}:∀p∈subL,PySem.W.kitOne K (.type p.1) (.type p.2.1)=some p.2.2:=by
 unfold subL
 simp only [List.forall_mem_cons]
 exact ⟨rfl,rfl,rfl,rfl,rfl,rfl,rfl,rfl,rfl,rfl,rfl,rfl,rfl,rfl,rfl,rfl,rfl,rfl,rfl,rfl,rfl,rfl,rfl,rfl,rfl,rfl,rfl,rfl,rfl,rfl,rfl,rfl,rfl,rfl,rfl,fun _ h=>nomatch h⟩
theorem Oi {K:PySem.W.Frag} {t c:String} {b:Bool} (h:IJ t c=some b):PySem.W.kitOne K (.type t) (.type c)=some b:=by
 unfold IJ at h
 rw [qaO] at h
 obtain ⟨p,hp,rfl⟩:=h
 have e:=List.find?_some hp
 rw [Bf,beq_iff_eq,beq_iff_eq] at e
 rw [←e.1,←e.2]
 exact Wm p (List.mem_of_find?_eq_some hp)
def Bk:D→D→HD→Out D:=fun x y h=>match y,CW x h with
 |.ty T,some t=>match IJ t T with
  |some b=>.ok (.bl b) h
  |none=>.stuck
 |_,_=>.stuck
theorem Wn {x:Str} {T:String} {pos:Pos} (hg:Gl X x) (hm:X.mg x=none) (hv:bootBuiltins x=some (.type T)) (hn:x≠"__name__":=by decide) (hd:(x==("__debug__":Str))=false:=by decide):Ev X E (.Name x pos) (mC (.ty T)):=
 EO (Ta (v:=.ty T) hg hm hv rfl hn hd) fun _ _=>by simp [DV]
theorem Wo {h h2 h':Heap} {it:Addr} (k:∀b o,h.get? b=some o→h2.get? b=some o) (hit:h.objs.size≤it) (hk:∀b o,b∉[it]→h2.get? b=some o→h'.get? b=some o):∀b o,h.get? b=some o→h'.get? b=some o:=fun b o e=>
 hk b o (by rw [qaI];exact CF (AX (Ax e) hit)) (k b o e)
def K7:D→Option Int
 |.int i=>some i
 |_=>none
def Oj:D→HD→Out D:=fun x h=>match A7 x h with
 |some ds=>match AH (ds.map K7) with
  |some ns=>.ok (.int ns.sum) h
  |none=>.stuck
 |none=>.stuck
theorem Wq (hc:X.calm=true):B3 X (.builtin "all") (fun xs H Q=>∃(p:Addr) (bs:List Bool),xs=[.ref p]∧SqL X.K H p (bs.map V.bl)∧Q (.bl (bs.all id)) H):=by
 intro pins s σ H xs us Q I r h
 obtain ⟨p,bs,rfl,hs,q⟩:=h
 obtain ⟨u,rfl,rx⟩:=Cy r
 cases rx
 have hh:X.A.in1.handled=none:=I.ok.hd hc
 obtain ⟨its,rv,pl,hz⟩:=I.list hs
 have hl:=rv.length
 rw [Bo] at hl
 have hlt:p<s.heap.objs.size:=by obtain ⟨_,e,_⟩:=pl.isList;exact Ax e
 have item:∀(i:Nat) (v:Value),its.toArray[i]?=some v→v=.bool (bs.getD i true):=fun i v e=>by
  have e':its[i]?=some v:=by simpa using e
  have hi:i<its.length:=(qa1.mp e').1
  have hn:(bs.map V.bl)[i]?=some (V.bl (bs.getD i true)):=by
   rw [B0,Bi (by omega)]
   simp [Hx,Bi (show i<bs.length by omega)]
  obtain ⟨u,h1,h2⟩:=rv.get hn
  rw [e'] at h1
  cases h1
  exact h2
 refine call_all_walk (wpAny_pyIter_list pl.isList ?_)
 refine ⟨s.heap.objs.size,[s.heap.objs.size,p],[s.heap.objs.size],its.toArray.size,_,_,fun i=>bs.getD i true,rfl,Walks.list (A:=X.A.in1) hh _ p (CF hlt) its.toArray,⟨⟨_,AW _ rfl,rfl,rfl⟩,pl.isList.push _⟩,fun i v s' Q' E' e hQ=>?_,fun h' tk hk=>?_⟩
 ·rw [item i v e]
  exact wpAny_truthy_bool hQ
 ·have e:(List.range its.toArray.size).all (fun i=>bs.getD i true)=bs.all id:=by
   rw [Bu,←hl]
   apply qb3.mpr
   simp only [qaM,qbN,id]
   constructor
   ·intro h b hb
    obtain ⟨i,hi,rfl⟩:=GA hb
    have:=h i hi
    simpa [Hx,Bi hi] using this
   ·intro h i hi
    have:=h bs[i] (Fy hi)
    simpa [Hx,Bi hi] using this
  rw [e]
  exact ⟨.bl _,H,I.kept (Wo (fun b o e=>AB _ e) (Am _) hk),rfl,q⟩
def FO:D→Option Bool
 |.bl b=>some b
 |_=>none
def CY:D→HD→Out D:=fun x h=>match x with
 |.loc l=>match h[l]? with
  |some (.lst ds)=>match AH (ds.map FO) with
   |some bs=>.ok (.bl (bs.all id)) h
   |none=>.stuck
  |_=>.stuck
 |_=>.stuck
theorem Ol {m:List Addr} {H:Hp}:∀{ds:List D} {vs:List V} {bs:List Bool},DVs X.K m H ds vs→AH (ds.map FO)=some bs→vs=bs.map V.bl
 |[],vs,ns,r,e=>by
  simp only [DVs] at r
  simp [AH] at e
  subst r e
  rfl
 |d::ds,vs,ns,r,e=>by
  simp only [DVs] at r
  obtain ⟨v,w,rfl,rv,rw'⟩:=r
  rw [A4] at e
  cases d with
  |bl i=>
   simp only [FO,AH,qaO] at e
   obtain ⟨ns',e1,rfl⟩:=e
   simp only [DV] at rv
   subst rv
   rw [Ol rw' e1]
   rfl
  |_=>simp [FO,AH] at e
theorem Wr (hc:X.calm=true):B9 X (.builtin "all") (Ai CY):=by
 refine ⟨_,Wq hc,fun m H h E ds vs Q hr r q=>Ew r q fun d v ev rv q=>?_⟩
 unfold CY at q
 split at q
 ·rename_i l
  split at q
  ·rename_i xs el
   split at q
   ·rename_i bs eb
    simp only [DV] at rv
    obtain ⟨a,rfl,ha⟩:=rv
    obtain ⟨ws,hv,dv⟩:=hr.cells _ _ a el ha
    have:=Ol dv eb
    subst this
    exact ⟨a,bs,ev,SqL.of hv,AN hr q (by simp [DV])⟩
   ·exact q.elim
  ·exact q.elim
 ·exact q.elim
def FP:D→D→HD→Out D:=fun x y h=>match x with
 |.loc l=>match h[l]? with
  |some (.lst ds)=>if ds.length<sizeLine then .ok .non (h.set l (.lst (ds++[y]))) else .stuck
  |_=>.stuck
 |_=>.stuck
def BG:D→HD→Out D:=fun x h=>match x with
 |.loc l=>match h[l]? with
  |some (.lst _)=>.ok x h
  |_=>.stuck
 |_=>.stuck
def Dm (f g:ME):ME:=fun ρ h=>((f ρ h).bind BG).bind fun x h1=>(g ρ h1).bind fun y h2=>FP x y h2
theorem Ws {o e:Expr} {f g:ME} {apos cpos:Pos} (ho:Ev X E o f) (he:Ev X E e g)
 (hbase:attributeBase o "append" X.env (eval o X.env)=eval o X.env:=by rfl)
 (hfew:((backTo cpos (starEach [e] X.env)).all (fun x=>!x.1)&&(backToKw cpos (keywordEach [] X.env)).all (fun x=>x.1.isSome)
  &&decide ([e].length+([]:List Keyword).length+(if ([]:List Keyword).isEmpty then 0 else 1)<30))=true:=by rfl)
 (hline:(apos.endLine==cpos.line)=true:=by rfl) (hs:starEach [e] X.env=(false,eval e X.env)::starEach [] X.env:=by rfl) (hplain:(backTo cpos (starEach [] X.env)).any (·.1)=false:=by rfl):
 Ev X E (.Call (.Attribute o "append" apos) [e] [] cpos) (Dm f g):=
 BD (U0 PySem.F.plainAttrs_list PySem.F.slot_list_append PySem.F.type_list_append U4 ho (Iu he Ir hs) hbase hfew hline hs hplain) fun σ H Q z1_=>by
  obtain ⟨m,ρ,h,hr,er,p⟩:=z1_
  refine ⟨m,ρ,h,hr,er,?_⟩
  unfold Dm at p
  rw [Out.bind_assoc] at p
  refine Post.bind p fun x h1 v m1 H1 eo p1 k1 hr1 r1 q1=>?_
  clear eo
  unfold BG at q1
  split at q1
  ·rename_i l
   split at q1
   ·rename_i ds el
    simp only [Out.bind_ok] at q1
    have r1':=r1
    simp only [rD,DV] at r1'
    obtain ⟨a,rfl,ha⟩:=r1'
    obtain ⟨ws,hv,dv⟩:=hr1.cells l _ a el ha
    refine ⟨.inl ⟨rfl,ws,SqL.of hv⟩,m1,ρ,h1,hr1,er.keep p1 k1,?_⟩
    have q2:Post X.K (rD X.K) m1 H1 E Q ((Ab g Ac ρ h1).bind fun ys h2=>match ys with
     |[y]=>FP (.loc l) y h2
     |_=>.stuck):=by
     unfold Ab Ac
     rw [Out.bind_assoc]
     exact q1
    refine Post.bind q2 fun ys h2 vs m2 H2 eo p2 k2 hr2 r2 q3=>?_
    clear eo
    split at q3
    ·rename_i y
     simp only [FH,DVs] at r2
     obtain ⟨yv,w,rfl,ry,rfl⟩:=r2
     unfold FP at q3
     simp only at q3
     split at q3
     ·rename_i ds2 el2
      split at q3
      ·rename_i hz
       have ha2:=KQ p2 ha
       obtain ⟨ws2,hv2,dv2⟩:=hr2.cells l _ a el2 ha2
       refine ⟨a,ws2,yv,rfl,rfl,hv2,by rw [←dv2.len];exact hz,?_⟩
       refine q3 .non m2 _ (AA _) (.set hv2 rfl) (hr2.setCell ha2 hv2 rfl ⟨_,B6,?_⟩) (by simp [rD,DV])
       exact (dv2.app (.cons ry .nil)).keep (AA _) (.set hv2 rfl)
      ·exact q3.elim
     ·exact q3.elim
    ·exact q3.elim
   ·exact q1.elim
  ·exact q1.elim
def FQ:D→D→D→HD→Out (Fl×Ae)→Out (Fl×Ae):=fun o i v h k=>match o,i with
 |.loc l,.int n=>match h[l]? with
  |some (.lst ds)=>match B8 ds.length n with
   |some j=>match k with
    |.ok a _=>.ok a (h.set l (.lst (ds.set j v)))
    |_=>.stuck
   |none=>.stuck
  |_=>.stuck
 |_,_=>.stuck
def IK (fo fi fv:ME):MS:=fun ρ h=>(fv ρ h).bind fun v h1=>(fo ρ h1).bind fun o h2=>(fi ρ h2).bind fun i h3=>FQ o i v h3 (.ok (.nx,ρ) h3)
theorem Wt {o i e:Expr} {fo fi fv:ME} {pos pos':Pos} (ho:Ev X E o fo) (hi:Ev X E i fi) (he:Ev X E e fv)
 (ha:∀v,assign (.Subscript o i pos') X.env v=(do
  let ov ←holding [v] (eval o X.env)
  let iv ←holding [v,ov] (eval i X.env)
  standAt pos'
  holding [v,ov,iv] (setItem ov iv v)
  release [v,ov,iv] []):=by intro _;rfl)
 (hs:swapsWithSole [.Subscript o i pos'] e pos.line X.env=pure false:=by rfl) (hw:swappedStores [.Subscript o i pos'] e X.env=pure none:=by rfl)
 (h1:(assignEach [.Subscript o i pos'] X.env).map (·.2)=[assign (.Subscript o i pos') X.env]:=by rfl):Ex X E (.Assign [.Subscript o i pos'] e pos) (IK fo fi fv):=
 Eo (Nj he (TM ho hi US ha) hs hw h1) fun Dn σ H ⟨m,ρ,h,hr,er,p⟩=>⟨m,ρ,h,hr,er,PostS.bind p fun v h1 vv m1 H1 eo1 p1 k1 hr1 r1 q1=>by
  refine ⟨m1,ρ,h1,hr1,er.keep p1 k1,PostS.bind q1 fun ov h2 vo m2 H2 eo2 p2 k2 hr2 r2 q2=>?_⟩
  refine ⟨m2,ρ,h2,hr2,(er.keep p1 k1).keep p2 k2,PostS.bind q2 fun iv h3 vi m3 H3 eo3 p3 k3 hr3 r3 q3=>?_⟩
  clear eo1 eo2 eo3
  unfold FQ at q3
  split at q3
  ·rename_i l n
   split at q3
   ·rename_i ds el
    split at q3
    ·rename_i j ej
     have ro:=DV.keep p3 k3 r2
     simp only [DV] at ro
     obtain ⟨a,rfl,ha⟩:=ro
     have ri:=r3
     simp only [rD,DV] at ri
     subst ri
     obtain ⟨ws,hv,dv⟩:=hr3.cells l _ a el ha
     refine ⟨a,ws,n,j,rfl,rfl,hv,by rw [←dv.len];exact ej,?_⟩
     have rvv:=DV.keep p3 k3 (DV.keep p2 k2 r1)
     have hr4:HR X.K m3 (h3.set l (.lst (ds.set j v))) (Ah H3 a (.lst (ws.set j vv))):=hr3.setCell ha hv rfl ⟨_,B6,(dv.set j rvv).keep (AA _) (.set hv rfl)⟩
     exact q3 m3 _ (AA _) (.set hv rfl) hr4 σ ((((er.keep p1 k1).keep p2 k2).keep p3 k3).keep (AA _) (.set hv rfl))
    ·exact q3.elim
   ·exact q3.elim
  ·exact q3.elim⟩
end
def AF (n:Nat) (g:MS):List D→HD→Out D:=fun ds h=>(g (ds.map some++List.replicate (n - ds.length) none) h).bind fun x h1=>match x with
 |(.nx,_)=>.ok .non h1
 |(.rt d,_)=>.ok d h1
 |_=>.stuck
open AutoSeq1 (wpAny_loadPart')
section
variable {prog:Program} {w:World} {A:Around} {E:Value→Shared→Prop} {s:Shared}
end
section
variable {prog:Program} {w:World} {A:Around} {E:Value→Shared→Prop} {s:Shared}
end
def Ite (K:PySem.W.Frag) (t:Addr) (xs:List V):It:=⟨fun i H=>i<xs.length∧SqT K H t xs,fun i H x H'=>∃p v,H p=none∧x=.ref p∧xs[i]?=some v∧H'=Ah H p (.tup [.int i,v]),fun i H=>i=xs.length∧SqT K H t xs⟩
section
variable {X:Cx} {E:XK}
def K8 (ds:List D):List D:=ds.mapIdx fun i d=>.tup [.int (i:Nat),d]
def Om:List D→HD→Out (List D×AK):=fun ds h=>match ds with
 |[.tup xs]=>.ok (K8 xs,[]) h
 |_=>.stuck
def On (fa:MA):MI:=fun ρ h=>(fa ρ h).bind Om
end
end LS
namespace LS
open PySem PySem.Spec PyProof.Rows L2
section
variable {prog:Program} {w:World} {A:Around} {E:Value→Shared→Prop} {s:Shared}
end
section
variable {X:Cx} {E:XK} {e:Expr} {f:ME}
def K9:D→HD→Out D:=fun x h=>match x with
 |.tup [a,b]=>.ok (.tup [b,a]) h
 |_=>.stuck
def Oo (f:ME):ME:=fun ρ h=>(f ρ h).bind K9
end
structure CSc (X:Cx) (scope:Scope) (Nc:List Str) (cs:List (Option Nat)):Prop where
 kind:scope.kind=.function
 loc:(scope.names.all fun y=>y.2 != .local||scope.names.lookup y.1==some .local)=true
 free:(scope.names.all fun y=>y.2 != .free||(X.env.kindOf y.1==some .cell||X.env.kindOf y.1==some .free))=true
 nd:(scope.names.map (·.1)).Nodup
 len:cs.length=Nc.length
 out:((Nc.zip cs).all fun p=>match p.2 with
  |none=>true
  |some j=>X.N[j]?==some p.1&&scope.names.lookup p.1==some .free)=true
theorem CSc.ok {X:Cx} {scope:Scope} {Nc:List Str} {cs:List (Option Nat)} (S:CSc X scope Nc cs):GY X scope Nc cs:=by
 refine ⟨S.kind,fun y hy e=>?_,fun y hy e=>?_,S.nd,S.len,fun i x j h1 h2=>?_⟩
 ·have:=qaM.mp S.loc y hy
  rw [e] at this
  simpa using this
 ·have:=qaM.mp S.free y hy
  rw [e] at this
  simpa using this
 ·have hz:(Nc.zip cs)[i]?=some (x,some j):=by
   rw [List.getElem?_zip_eq_some]
   exact ⟨h1,h2⟩
  have:=qaM.mp S.out (x,some j) (Ee hz)
  simpa using this
structure Dn (K:PySem.W.Frag) (mg:Str→Option Value) (x:Str) (ps:List Str) (st:Stmt) (f:Addr) (fd:FuncData):Prop where
 fn:Fun K x x st f fd
 bd:Binds K fd ps []
 mg:mg x=some (.ref f)
section
variable {X:Cx} {E:XK}
theorem Wu {a:Expr} {f:ME} {pos:Pos} (ha:Ev X E a f):Ev X E (.UnaryOp .USub a pos) (fun ρ h=>(f ρ h).bind fun x h1=>match x with
 |.int i=>.ok (.int (-i)) h1
 |_=>.stuck):=
 BD (Nl Np ha) fun σ H Q z1_=>by obtain ⟨m,ρ,h,hr,er,p⟩:=z1_;exact (⟨m,ρ,h,hr,er,Post.bind p fun x h1 v m1 H1 eo p1 k1 hr1 r1 q1=>by
  clear eo
  split at q1
  ·simp only [rD,DV] at r1
   subst r1
   exact ⟨_,rfl,AN hr1 q1 (by simp [DV])⟩
  ·exact q1.elim⟩)
def GZ (f:ME):ME:=fun ρ h=>(f ρ h).bind fun x h1=>match x with
    |.int i=>.ok (.int (-i)) h1
    |_=>.stuck
theorem Wv {i j:Nat} {x y:Str} {px py tp:Pos} {kt:Nat} (hc:X.calm=true) (h1:PG X (.Name x px) (BO i)) (h2:PG X (.Name y py) (BO j)):PG X (.Tuple [.Name x px,.Name y py] kt tp) (Ej X.K 2 (B7 (BO i) (B7 (BO j) Ei))):=
 Nh hc (GK h1 (GK h2 Ng))
end
def CMl (i j:Int):Prop:=CMul i j∨(Builtin.Int.intBits i≤16777216∧Builtin.Int.intBits j≤16777216)
instance (i j:Int):Decidable (CMl i j):=by unfold CMl;infer_instance
theorem CMl.ok {i j:Int} (h:CMl i j):IntMulOk i j:=by
 rcases h with h |⟨h1,h2⟩
 ·exact h.ok
 ·unfold IntMulOk
  intro z
  simp only [Bf,decide_eq_true_eq] at z
  have:=z.2
  unfold Builtin.Int.intTooBig at this
  simp only [decide_eq_true_eq] at this
  have hb:(bitsLine:Int)=134217728:=by first |rfl |decide
  omega
variable {X:Cx}
theorem op_mul':OpR X (binaryOp .Mult) (rI CMl fun i j=>.int (i*j)):=Kw fun _ _ _ _ _ _ _ hc q=>mul_int q hc.ok
def CH:D→D→HD→Out D
 |.int i,.int j,h=>if CMl i j then .ok (.int (i*j)) h else .stuck
 |.loc l,.int k,h=>match h[l]? with
  |some (.lst xs)=>if -(2^63)≤k∧k<2^63 then Bg (List.replicate k.toNat xs).flatten h else .stuck
  |_=>.stuck
 |_,_,_=>.stuck
theorem Ww:Bw X (binaryOp .Mult) CH:=by
 refine ⟨_,op_mul'.or U7,fun m H h E x y v u Q hr rx ry q=>?_⟩
 unfold CH at q
 split at q
 ·simp only [DV] at rx ry
  subst rx ry
  split at q
  ·rename_i hc
   exact .inl ⟨_,_,rfl,rfl,hc,AN hr q (by simp [DV])⟩
  ·exact q.elim
 ·simp only [DV] at rx ry
  obtain ⟨a,rfl,ha⟩:=rx
  subst ry
  split at q
  ·rename_i k _ xs e
   split at q
   ·rename_i hk
    obtain ⟨vs,h1,d1⟩:=hr.cells _ _ a e ha
    obtain ⟨z,q'⟩:=ES hr (d1.rep k.toNat) q
    refine .inr ⟨a,k,vs,rfl,rfl,h1,hk.1,hk.2,?_,q'⟩
    rw [Ij] at z
    rw [Nat.mul_comm];exact z
   ·exact q.elim
  ·exact q.elim
 ·exact q.elim
end LS
namespace Att
open PySem PySem.W PySem.Calls PyProof.Rows
theorem Wx {ns:List Int} (h:WData.layable (.list (ns.map WData.int))=true):∀n∈ns,Builtin.Int.intBits n≤2^20:=by
 have hw:WData.weight (.list (ns.map WData.int))≤2^20:=(layableW_iff.mp h).2.2
 have key:∀(ns:List Int) (b:Nat),WData.weightAll (ns.map WData.int)≤b→∀n∈ns,Builtin.Int.intBits n≤b:=by
  intro ns
  induction ns with
  |nil=>intro b _ n hn;cases hn
  |cons m r ih=>
   intro b hb n hn
   have e:WData.weightAll ((m::r).map WData.int)=Builtin.Int.intBits m+1+WData.weightAll (r.map WData.int):=by
    simp only [A4,WData.weightAll,WData.weight]
    rfl
   rw [e] at hb
   rcases qa4.mp hn with z |z
   ·subst z;omega
   ·exact ih b (by omega) n z
 exact key ns _ (by simpa only [WData.weight] using hw)
theorem attach_bits {l:OpenLaw} {n:Nat} {q:Program} {loose:List Str} {XP:(Str→Option Value)→Heap→Prop} {YP:World→Heap→Prop} {d:DefRec}
 (hn:l.most=some n) (hdf:d.params.defaults=[])
 (call:∀(w:World) (s₀ s₁:Shared) (mg mb:Str→Option Value) (fa:Addr) (o:Obj) (pm cd doc:Value) (a:Addr) (vs:List Value) (ns:List Int),(∀n∈ns,Builtin.Int.intBits n≤2^20)→
  Ground q loose [] XP w s₀ mg mb s₁.heap→YP w s₁.heap→
  s₁.heap.get? fa=some o→o.data=.func (docDef d.name d.params d.body d.scope pm cd doc)→s₁.heap.CodeRec cd d.name→mg d.name=some (.ref fa)→
  s₁.heap.get? a=some {cls:=.type "list",data:=.seq vs.toArray}→IntsAre vs ns→ns.length≤n→s₁.gens=#[]→
  codeAny (model l.prog w) callerA (.call (.ref fa) ⟨[.ref a],[]⟩) (fun r s'=>r=.ok (.ret (.bool true))∧OldK s₁.heap s'.heap∧s'.os=s₁.os∧AllBare s'.gens) s₁):
 WalkO q loose XP YP l.row.toRowW d [] (fun f vs=>PySem.call f vs):=by
 intro w s₀ s₁ mg mb G Y fa o pm cd doc dV kV ho hd hcd hD hmg hg args vals as hpre hlay hrd hwl hlo
 obtain rfl:dV=.none:=Dflts.none hD hdf
 obtain rfl:kV=.none:=Dflts.noKw hD
 obtain ⟨a,vs,ns,rfl,rfl,hobj,hints,hlen⟩:=U9 hn hpre hwl
 have hb:=Wx (layableW_arg hlay _ AU)
 refine enter_call (codeAny_mono (call w s₀ s₁ mg mb fa o pm cd doc a vs ns hb G Y ho (fd_plain hd) hcd hmg hobj hints hlen hg) fun r s' hq=>?_)
 obtain ⟨rfl,h2,h3,h4⟩:=hq
 exact ⟨.inl ⟨.bool true,.bool true,[],rfl,fun _=>rfl,.bool true,Va l _,fun _=>⟨List.Pairwise.nil,fun _ hm=>(nomatch hm)⟩⟩,h2,h3,h4⟩
end Att
namespace LS
open PySem PySem.Spec PyProof.Rows L2
def Wp {α:Type} (o:Out α) (Q:α→HD→Prop):Prop:=match o with
 |.ok a h=>Q a h
 |_=>False
section
variable {α β:Type} {o:Out α} {Q Q':α→HD→Prop}
@[simp] theorem Ca (a:α) (h:HD):Wp (.ok a h) Q=Q a h:=rfl
@[simp] theorem Zcd:Wp .stuck Q=False:=rfl
theorem BK {o':Out α} (e:o=o') (h:Wp o' Q):Wp o Q:=e ▸ h
theorem Al {k:α→HD→Out β} {Q:β→HD→Prop}:Wp (o.bind k) Q=Wp o fun a h=>Wp (k a h) Q:=by cases o<;>rfl
theorem Wp.mono (h:Wp o Q) (f:∀a h,Q a h→Q' a h):Wp o Q':=by
 cases o with
 |ok a h'=>exact f _ _ h
 |_=>exact h.elim
theorem Wp.ex (h:Wp o Q):∃a h',o=.ok a h'∧Q a h':=by
 cases o with
 |ok a h'=>exact ⟨a,h',rfl,h⟩
 |_=>exact h.elim
end
def Sm (h h':HD):Prop:=∀(l:Nat) (c:Cell),h[l]?=some c→h'[l]?=some c
theorem Sm.refl (h:HD):Sm h h:=fun _ _ e=>e
theorem Sm.trans {h h1 h2:HD} (a:Sm h h1) (b:Sm h1 h2):Sm h h2:=fun l c e=>b l c (a l c e)
theorem Sm.app (h t:HD):Sm h (h++t):=fun l c e=>by
 rw [Dr (qa1.mp e).1];exact e
def Pu {α:Type} (o:Out α) (h:HD) (a:α):Prop:=Wp o fun x h'=>x=a∧Sm h h'
section
variable {α β:Type} {o:Out α} {h:HD} {a:α}
theorem Pu.wp {Q:α→HD→Prop} (p:Pu o h a) (k:∀h',Sm h h'→Q a h'):Wp o Q:=Wp.mono p fun x h' z1_=>by obtain ⟨e,s⟩:=z1_;subst e;exact k h' s
theorem Pu.ok:Pu (.ok a h) h a:=⟨rfl,.refl _⟩
theorem Pu.bind {k:α→HD→Out β} {b:β} (p:Pu o h a) (q:∀h',Sm h h'→Pu (k a h') h' b):Pu (o.bind k) h b:=by
 unfold Pu
 rw [Al]
 exact p.wp fun h' s=>Wp.mono (q h' s) fun x h2 z2_=>by obtain ⟨e,s2⟩:=z2_;exact (⟨e,s.trans s2⟩)
theorem Pu.noErr (p:Pu o h a):Pu (noErr o) h a:=by
 obtain ⟨x,h',e,q⟩:=Wp.ex p
 rw [e];exact q
theorem Pu.eq {b:α} (p:Pu o h a) (e:a=b):Pu o h b:=e ▸ p
end
def Oq (i j:Nat) (ρ:Ae) (ds:List D) (h:HD):Out (Fl×Ae):=match ds with
 |[x,y]=>.ok (.nx,(ρ.set i (some x)).set j (some y)) h
 |_=>.stuck
def IP (o:Option Ae) (h:HD):Out (Fl×Ae):=match o with
 |some ρ1=>.ok (.nx,ρ1) h
 |none=>.stuck
def IS (g:HD→Out D) (x:D) (h:HD):Out D:=match x with
 |.bl true=>g h
 |.bl false=>.ok (.bl false) h
 |_=>.stuck
def La (g:HD→Out D) (x:D) (h:HD):Out D:=match x with
 |.bl true=>.ok (.bl true) h
 |.bl false=>g h
 |_=>.stuck
def Ot (x:D) (h:HD):Out D:=match x with
 |.bl b=>.ok (.bl (!b)) h
 |_=>.stuck
def Ou (x:D) (h:HD):Out D:=match x with
 |.int i=>.ok (.int (-i)) h
 |_=>.stuck
@[simp] theorem Zce {i j:Nat} {ρ:Ae} {x y:D} {h:HD} {Q:Fl×Ae→HD→Prop}:Wp (Oq i j ρ [x,y] h) Q=Q (.nx,(ρ.set i (some x)).set j (some y)) h:=rfl
@[simp] theorem Zcf {ρ:Ae} {h:HD} {Q:Fl×Ae→HD→Prop}:Wp (IP (some ρ) h) Q=Q (.nx,ρ) h:=rfl
@[simp] theorem Zcg {g:HD→Out D} {h:HD}:IS g (.bl true) h=g h:=rfl
@[simp] theorem Zch {g:HD→Out D} {h:HD}:IS g (.bl false) h=.ok (.bl false) h:=rfl
@[simp] theorem Zci {g:HD→Out D} {h:HD}:La g (.bl true) h=.ok (.bl true) h:=rfl
@[simp] theorem Zcj {g:HD→Out D} {h:HD}:La g (.bl false) h=g h:=rfl
@[simp] theorem Zck {b:Bool} {h:HD}:Ot (.bl b) h=.ok (.bl (!b)) h:=rfl
@[simp] theorem Zcl {i:Int} {h:HD}:Ou (.int i) h=.ok (.int (-i)) h:=rfl
def Lb (g:MS) (Q:Fl×Ae→HD→Prop):Fl×Ae→HD→Prop
 |(.nx,ρ),h=>Wp (g ρ h) Q
 |y,h=>Q y h
def FR (Q:D→HD→Prop):Fl×Ae→HD→Prop
 |(.nx,_),h=>Q .non h
 |(.rt d,_),h=>Q d h
 |_,_=>False
section
variable {ρ:Ae} {h:HD} {Q:Fl×Ae→HD→Prop} {QB:D→HD→Prop} {g g1 g2:MS} {f:ME} {t:MT}
@[simp] theorem As:Lb g Q (.nx,ρ) h=Wp (g ρ h) Q:=rfl
@[simp] theorem Zcm {d:D}:Lb g Q (.rt d,ρ) h=Q (.rt d,ρ) h:=rfl
@[simp] theorem Zcn:FR QB (.nx,ρ) h=QB .non h:=rfl
@[simp] theorem Zco {d:D}:FR QB (.rt d,ρ) h=QB d h:=rfl
@[simp] theorem A9:Wp (Ag g1 g2 ρ h) Q=Wp (g1 ρ h) (Lb g2 Q):=by
  unfold Ag
  rw [Al]
  congr 1
  funext x h'
  obtain ⟨fl,ρ1⟩:=x
  cases fl<;>rfl
theorem Bl {n:Nat} {ds:List D}:Wp (AF n g ds h) QB=Wp (g (ds.map some++List.replicate (n - ds.length) none) h) (FR QB):=by
 unfold AF
 rw [Al]
 congr 1
 funext x h'
 obtain ⟨fl,ρ1⟩:=x
 cases fl<;>rfl
@[simp] theorem Zcp:Wp (A0 ρ h) Q=Q (.nx,ρ) h:=rfl
@[simp] theorem Ov:Wp (Cm f ρ h) Q=Wp (f ρ h) fun _ h1=>Q (.nx,ρ) h1:=by unfold Cm;rw [Al];rfl
@[simp] theorem Lc:Wp (Aq f ρ h) Q=Wp (f ρ h) fun d h1=>Q (.rt d,ρ) h1:=by unfold Aq;rw [Al];rfl
@[simp] theorem DZ {i:Nat}:Wp (Ao i f ρ h) Q=Wp (f ρ h) fun d h1=>Q (.nx,ρ.set i (some d)) h1:=by unfold Ao;rw [Al];rfl
@[simp] theorem Zcq:Wp (AQ t g1 g2 ρ h) Q=Wp (t ρ h) fun b h1=>Wp (if b=true then g1 ρ h1 else g2 ρ h1) Q:=by unfold AQ;rw [Al]
@[simp] theorem Zcr {i j:Nat} {fa:MA}:Wp (CC i j fa ρ h) Q=Wp (fa ρ h) fun ds h1=>Wp (Oq i j ρ ds h1) Q:=by unfold CC;rw [Al];rfl
@[simp] theorem Zcs {sg:MG}:Wp (EX sg f ρ h) Q=Wp (f ρ h) fun d h1=>Wp (IP (sg d ρ) h1) Q:=by unfold EX;rw [Al];rfl
@[simp] theorem Zct {fo fi fv:ME}:Wp (IK fo fi fv ρ h) Q=Wp (fv ρ h) fun v h1=>Wp (fo ρ h1) fun o h2=>Wp (fi ρ h2) fun i h3=>Wp (FQ o i v h3 (.ok (.nx,ρ) h3)) Q:=by
  unfold IK;simp only [Al]
end
section
variable {ρ:Ae} {h:HD} {Q:D→HD→Prop} {QB:Bool→HD→Prop} {QA:List D→HD→Prop} {f g k:ME} {t u:MT} {fa:MA} {op op':D→D→HD→Out D} {F:List D→HD→Out D}
theorem Ld {i:Nat} {d:D} (e:ρ[i]?=some (some d)):Wp (Aa i ρ h) Q=Q d h:=by unfold Aa;rw [e];rfl
@[simp] theorem G0 {d:D} {r:Ae}:Wp (Aa 0 (some d::r) h) Q=Q d h:=rfl
@[simp] theorem Ow {i:Nat} {x:Option D} {r:Ae}:Wp (Aa (i+1) (x::r) h) Q=Wp (Aa i r h) Q:=rfl
@[simp] theorem Ox {d:D}:Wp (mC d ρ h) Q=Q d h:=rfl
@[simp] theorem FS:Wp (Af op f g ρ h) Q=Wp (f ρ h) fun x h1=>Wp (g ρ h1) fun y h2=>Wp (op x y h2) Q:=by unfold Af;simp only [Al]
@[simp] theorem D0:Wp (Ad F fa ρ h) Q=Wp (fa ρ h) fun ds h1=>Wp (F ds h1) Q:=by unfold Ad;rw [Al]
@[simp] theorem D1:Wp (Ac ρ h) QA=QA [] h:=rfl
@[simp] theorem Dz:Wp (Ab f fa ρ h) QA=Wp (f ρ h) fun x h1=>Wp (fa ρ h1) fun xs h2=>QA (x::xs) h2:=by unfold Ab;simp only [Al];rfl
@[simp] theorem Zcu:Wp (BJ fa ρ h) Q=Wp (fa ρ h) fun xs h1=>Wp (if xs.length≤sizeLine then .ok (.tup xs) h1 else .stuck) Q:=by unfold BJ;simp only [Al]
@[simp] theorem Zcv:Wp (AD fa ρ h) Q=Wp (fa ρ h) fun xs h1=>Wp (Bg xs h1) Q:=by unfold AD;simp only [Al]
@[simp] theorem Zcw:Wp (AO f ρ h) QB=Wp (f ρ h) fun x h1=>Wp (GS x h1) QB:=by unfold AO;rw [Al]
@[simp] theorem Zcx:Wp (BI f ρ h) QB=Wp (f ρ h) fun x h1=>Wp (CS x h1) QB:=by unfold BI;rw [Al]
@[simp] theorem Zcy:Wp (Bx t ρ h) QB=Wp (t ρ h) fun b h1=>QB (!b) h1:=by unfold Bx;rw [Al];rfl
@[simp] theorem Zcz:Wp (Io t u ρ h) QB=Wp (t ρ h) fun b h1=>Wp (if b=true then u ρ h1 else .ok false h1) QB:=by unfold Io;rw [Al]
@[simp] theorem ZcA:Wp (CA t u ρ h) QB=Wp (t ρ h) fun b h1=>Wp (if b=true then .ok true h1 else u ρ h1) QB:=by unfold CA;rw [Al]
@[simp] theorem ZcB:Wp (DU f g ρ h) Q=Wp (f ρ h) fun x h1=>Wp (IS (g ρ) x h1) Q:=by unfold DU;rw [Al];rfl
@[simp] theorem ZcC:Wp (NX f g ρ h) Q=Wp (f ρ h) fun x h1=>Wp (La (g ρ) x h1) Q:=by unfold NX;rw [Al];rfl
@[simp] theorem ZcD:Wp (Iq f ρ h) Q=Wp (f ρ h) fun x h1=>Wp (Ot x h1) Q:=by unfold Iq;rw [Al];rfl
@[simp] theorem ZcE:Wp (GZ f ρ h) Q=Wp (f ρ h) fun x h1=>Wp (Ou x h1) Q:=by unfold GZ;rw [Al];rfl
@[simp] theorem ZcF:Wp (NY t f g ρ h) Q=Wp (t ρ h) fun b h1=>Wp (if b=true then f ρ h1 else g ρ h1) Q:=by unfold NY;rw [Al]
@[simp] theorem ZcG:Wp (CT op op' f g k ρ h) Q=Wp (f ρ h) fun x h1=>Wp (g ρ h1) fun y h2=>Wp (op x y h2) fun z h3=>Wp (IS (fun h=>(k ρ h).bind fun w h4=>op' y w h4) z h3) Q:=by unfold CT;simp only [Al];rfl
@[simp] theorem ZcH:Wp (Oo f ρ h) Q=Wp (f ρ h) fun x h1=>Wp (K9 x h1) Q:=by unfold Oo;rw [Al]
@[simp] theorem ZcI:Wp (Dm f g ρ h) Q=Wp (f ρ h) fun x h1=>Wp (BG x h1) fun x h1=>Wp (g ρ h1) fun y h2=>Wp (FP x y h2) Q:=by unfold Dm;simp only [Al]
@[simp] theorem ZcJ:Wp (AZ ρ h) QB=QB true h:=rfl
theorem A3 {xs:List D} (hn:xs.length≤sizeLine) (q:∀l h',Sm h h'→h'[l]?=some (.lst xs)→l=h.length→h'=h++[.lst xs]→Q (.loc l) h'):Wp (Bg xs h) Q:=by
 unfold Bg
 rw [if_pos hn]
 exact q h.length _ (.app _ _) (by simp) rfl rfl
end
section
variable {ρ:Ae} {h:HD} {QI:(List D×AK)→HD→Prop} {f:ME} {fa:MA}
@[simp] theorem Oy:Wp (AI f ρ h) QI=Wp (f ρ h) fun d h1=>Wp (CD d h1) QI:=by unfold AI;rw [Al]
@[simp] theorem ZcK:Wp (CV fa ρ h) QI=Wp (fa ρ h) fun d h1=>Wp (FM d h1) QI:=by unfold CV;rw [Al]
@[simp] theorem ZcL:Wp (N9 fa ρ h) QI=Wp (fa ρ h) fun d h1=>Wp (N8 d h1) QI:=by unfold N9;rw [Al]
@[simp] theorem ZcM:Wp (On fa ρ h) QI=Wp (fa ρ h) fun d h1=>Wp (Om d h1) QI:=by unfold On;rw [Al]
theorem FT {n:Nat} (hn:n≤1000):FM [.int (n:Int)] h=.ok ((List.range n).map fun k=>D.int ((k:Nat):Int),[]) h:=by
 have:(-(2^62):Int)≤(n:Int)∧(n:Int)<2^62:=by omega
 unfold FM
 simp only
 rw [if_pos this]
 simp [EZ]
end
theorem Oz {α:Type} {src:AK} {items:List D} {sg:MG} {t:MT} {f:ME} {ρc:Ae} (φ:α→D) (g:α→Bool) (e:α→D) (ρ1:α→Ae):
 ∀(xs:List α) (h:HD),(∀h',Sm h h'→Bz src items h')→(∀x∈xs,sg (φ x) ρc=some (ρ1 x))→(∀x∈xs,∀h',Sm h h'→Pu (t (ρ1 x) h') h' (g x))→(∀x∈xs,g x=true→∀h',Sm h h'→Pu (f (ρ1 x) h') h' (e x))→
  Pu (CG src items sg t f ρc (xs.map φ) h) h ((xs.filter g).map e)
 |[],h,hs,_,_,_=>by
  simp only [List.map_nil,List.filter_nil,CG]
  rw [if_pos (hs h (.refl _))]
  exact .ok
 |x::xs,h,hs,hg,ht,hf=>by
  simp only [A4,CG]
  rw [if_pos (hs h (.refl _)),hg x AU]
  simp only
  refine Pu.bind (ht x AU h (.refl _)).noErr fun h1 s1=>?_
  have ih:∀h2,Sm h h2→Pu (CG src items sg t f ρc (xs.map φ) h2) h2 ((xs.filter g).map e):=fun h2 s2=>Oz φ g e ρ1 xs h2 (fun h' s'=>hs h' (s2.trans s'))
   (fun y hy=>hg y (AV _ hy)) (fun y hy h' s'=>ht y (AV _ hy) h' (s2.trans s')) (fun y hy gy h' s'=>hf y (AV _ hy) gy h' (s2.trans s'))
  cases hgx:g x with
  |false=>
   rw [if_neg Bt,List.filter_cons_of_neg (by simp [hgx])]
   exact ih h1 s1
  |true=>
   rw [if_pos rfl,List.filter_cons_of_pos hgx]
   refine Pu.bind (hf x AU hgx h1 s1).noErr fun h2 s2=>?_
   exact Pu.bind (ih h2 (s1.trans s2)) fun h3 _=>.ok
theorem Le {α:Type} {xs:List α}:xs.filter (fun _=>true)=xs:=List.filter_eq_self.mpr fun _ _=>rfl
section
variable {α:Type} {cs:List (Option Nat)} {it:MI} {sg:MG} {t:MT} {f:ME} {ρ:Ae} {h:HD} {src:AK} {xs:List α} {φ:α→D}
theorem G1 {Q:D→HD→Prop} (g:α→Bool) (e:α→D) (ρ1:α→Ae) (hi:Wp (it ρ h) fun x h'=>x=(xs.map φ,src)∧Sm h h'∧∀h2,Sm h' h2→Bz src (xs.map φ) h2) (hn:xs.length≤sizeLine)
 (hg:∀x∈xs,sg (φ x) (BW cs ρ)=some (ρ1 x)) (ht:∀x∈xs,∀h',Sm h h'→Pu (t (ρ1 x) h') h' (g x)) (hf:∀x∈xs,g x=true→∀h',Sm h h'→Pu (f (ρ1 x) h') h' (e x))
 (q:∀l h',Sm h h'→h'[l]?=some (.lst ((xs.filter g).map e))→Q (.loc l) h'):Wp (Az cs it sg t f ρ h) Q:=by
 unfold Az
 rw [Al]
 refine Wp.mono hi fun x h1 z4_=>?_
 obtain ⟨ex,s1,hs⟩:=z4_
 subst ex
 rw [if_pos (by simpa using hn),Al]
 refine (Oz φ g e ρ1 xs h1 hs hg (fun x hx h' s'=>ht x hx h' (s1.trans s')) (fun x hx gx h' s'=>hf x hx gx h' (s1.trans s'))).wp fun h2 s2=>?_
 refine A3 ?_ fun l h3 s3 e3 _ _=>q l h3 ((s1.trans s2).trans s3) e3
 rw [Bo]
 exact BB (Fw _ _) hn
theorem Wy (g:α→Bool) (e:α→D) (ρ1:α→Ae) (hi:Wp (it ρ h) fun x h'=>x=(xs.map φ,src)∧Sm h h'∧∀h2,Sm h' h2→Bz src (xs.map φ) h2) (hn:xs.length≤sizeLine)
 (hg:∀x∈xs,sg (φ x) (BW cs ρ)=some (ρ1 x)) (ht:∀x∈xs,∀h',Sm h h'→Pu (t (ρ1 x) h') h' (g x)) (hf:∀x∈xs,g x=true→∀h',Sm h h'→Pu (f (ρ1 x) h') h' (e x)):
 Pu (Ad (Ai Be) (Ab (Az cs it sg t f) Ac) ρ h) h (.tup ((xs.filter g).map e)):=by
 unfold Pu
 rw [D0,Dz]
 refine G1 g e ρ1 hi hn hg ht hf fun l h' s' e'=>?_
 rw [D1]
 simp only [Ai,Be,e']
 exact ⟨rfl,s'⟩
theorem Wz (e:α→D) (ρ1:α→Ae) (hi:Wp (it ρ h) fun x h'=>x=(xs.map φ,src)∧Sm h h'∧∀h2,Sm h' h2→Bz src (xs.map φ) h2) (hn:xs.length≤sizeLine)
 (hg:∀x∈xs,sg (φ x) (BW cs ρ)=some (ρ1 x)) (hf:∀x∈xs,∀h',Sm h h'→Pu (f (ρ1 x) h') h' (e x)):
 Pu (Ad (Ai Be) (Ab (Az cs it sg AZ f) Ac) ρ h) h (.tup (xs.map e)):=by
 have:=Wy (t:=AZ) (f:=f) (fun _=>true) e ρ1 hi hn hg (fun x hx h' s'=>(.ok:Pu (.ok true h') h' true)) (fun x hx _ h' s'=>hf x hx h' s')
 rw [Le] at this
 exact this
theorem OA {β γ:Type} {f:β→Option γ} {g:β→γ}:∀{xs:List β},(∀x∈xs,f x=some (g x))→AH (xs.map f)=some (xs.map g)
 |[],_=>rfl
 |x::xs,hf=>by
  simp only [A4,hf x AU,AH,OA (fun y hy=>hf y (AV _ hy)),Fz]
theorem WA (b:α→Bool) (ρ1:α→Ae) (hi:Wp (it ρ h) fun x h'=>x=(xs.map φ,src)∧Sm h h'∧∀h2,Sm h' h2→Bz src (xs.map φ) h2) (hn:xs.length≤sizeLine)
 (hg:∀x∈xs,sg (φ x) (BW cs ρ)=some (ρ1 x)) (hf:∀x∈xs,∀h',Sm h h'→Pu (f (ρ1 x) h') h' (.bl (b x))):
 Pu (Ad (Ai CY) (Ab (Az cs it sg AZ f) Ac) ρ h) h (.bl (xs.all b)):=by
 unfold Pu
 rw [D0,Dz]
 refine G1 (fun _=>true) (fun x=>.bl (b x)) ρ1 hi hn hg (fun x hx h' s'=>(.ok:Pu (.ok true h') h' true)) (fun x hx _ h' s'=>hf x hx h' s') fun l h' s' e'=>?_
 rw [D1]
 rw [Le] at e'
 simp only [Ai,CY,e',CN]
 rw [OA (f:=FO∘fun x=>D.bl (b x)) (g:=b) (fun x _=>rfl)]
 refine ⟨?_,s'⟩
 simp [List.all_map]
end
def Cn (I:Ae→HD→Prop) (Q:Fl×Ae→HD→Prop):Fl×Ae→HD→Prop
 |(.nx,ρ),h=>I ρ h
 |(.ct,ρ),h=>I ρ h
 |(.bk,ρ),h=>Q (.nx,ρ) h
 |(.rt d,ρ),h=>Q (.rt d,ρ) h
theorem IT {α:Type} {src:AK} {items:List D} {sg:MG} {body:MS} {Q:Fl×Ae→HD→Prop} (φ:α→D) (I:List α→Ae→HD→Prop) (ho:∀xs ρ h,I xs ρ h→Bz src items h)
 (step:∀x xs ρ h,I (x::xs) ρ h→∃ρ1,sg (φ x) ρ=some ρ1∧Wp (body ρ1 h) (Cn (I xs) Q)) (done:∀ρ h,I [] ρ h→Q (.nx,ρ) h):∀(xs:List α) (ρ:Ae) (h:HD),I xs ρ h→Wp (Dy src items sg body (xs.map φ) ρ h) Q
 |[],ρ,h,i=>by
  simp only [List.map_nil,Dy]
  rw [if_pos (ho _ _ _ i)]
  exact done ρ h i
 |x::xs,ρ,h,i=>by
  simp only [A4,Dy]
  rw [if_pos (ho _ _ _ i)]
  obtain ⟨ρ1,e,w⟩:=step x xs ρ h i
  rw [e]
  simp only
  rw [Al]
  refine Wp.mono w fun y h' k=>?_
  obtain ⟨fl,ρ2⟩:=y
  cases fl with
  |nx=>exact IT φ I ho step done xs ρ2 h' k
  |ct=>exact IT φ I ho step done xs ρ2 h' k
  |bk=>exact k
  |rt d=>exact k
theorem Ez {α:Type} {src:AK} {it:MI} {sg:MG} {body:MS} {Q:Fl×Ae→HD→Prop} {ρ:Ae} {h:HD} {xs:List α} (φ:α→D) (I:List α→Ae→HD→Prop) (hi:Wp (it ρ h) fun x h'=>x=(xs.map φ,src)∧I xs ρ h') (ho:∀ys ρ h,I ys ρ h→Bz src (xs.map φ) h)
 (step:∀x xs ρ h,I (x::xs) ρ h→∃ρ1,sg (φ x) ρ=some ρ1∧Wp (body ρ1 h) (Cn (I xs) Q)) (done:∀ρ h,I [] ρ h→Q (.nx,ρ) h):Wp (Bq it sg body ρ h) Q:=by
 unfold Bq
 rw [Al]
 refine Wp.mono hi fun x h1 z5_=>?_
 obtain ⟨e,i⟩:=z5_
 subst e
 exact IT φ I ho step done xs ρ h1 i
def Py (d:D) (p:PyData):Prop:=AR [] 8 d=some p∧SeqAt.shaped p=true
@[simp] theorem sz0:(0≤sizeLine)=True:=eq_true (B2 _)
@[simp] theorem sz1:(1≤sizeLine)=True:=eq_true (by unfold sizeLine;omega)
@[simp] theorem sz2:(2≤sizeLine)=True:=eq_true (by unfold sizeLine;omega)
@[simp] theorem IU:(3≤sizeLine)=True:=eq_true (by unfold sizeLine;omega)
@[simp] theorem sz4:(4≤sizeLine)=True:=eq_true (by unfold sizeLine;omega)
@[simp] theorem sz5:(5≤sizeLine)=True:=eq_true (by unfold sizeLine;omega)
section
variable {h:HD} {a b c:D} {ds es:List D} {i j:Int} {F1:D→HD→Out D} {F2:D→D→HD→Out D} {F3:D→D→D→HD→Out D}
@[simp] theorem WB:Ai F1 [a] h=F1 a h:=rfl
@[simp] theorem ZcN:AY F2 [a,b] h=F2 a b h:=rfl
@[simp] theorem ZcO:Vt F3 [a,b,c] h=F3 a b c h:=rfl
@[simp] theorem ZcP {b:Bool}:GS (.bl b) h=.ok b h:=rfl
@[simp] theorem ZcQ {b:Bool}:CS (.bl b) h=.ok b h:=rfl
@[simp] theorem ZcR:CS .non h=.ok false h:=rfl
@[simp] theorem ZcS:CS (.int i) h=.ok (i != 0) h:=rfl
@[simp] theorem ZcT:CS (.tup ds) h=.ok (!ds.isEmpty) h:=rfl
@[simp] theorem ZcU:Bk (.int i) (.ty "int") h=.ok (.bl true) h:=rfl
@[simp] theorem ZcV:Bk (.int i) (.ty "bool") h=.ok (.bl false) h:=rfl
@[simp] theorem ZcW:Bk (.int i) (.ty "tuple") h=.ok (.bl false) h:=rfl
@[simp] theorem ZcX:Bk (.tup ds) (.ty "tuple") h=.ok (.bl true) h:=rfl
@[simp] theorem ZcY:Bk (.tup ds) (.ty "int") h=.ok (.bl false) h:=rfl
@[simp] theorem ZcZ:Aj (.int i) (.int j) h=.ok (.int (i+j)) h:=rfl
@[simp] theorem WC {f:Int→Int→D}:Ep f (.int i) (.int j) h=.ok (f i j) h:=rfl
@[simp] theorem Zc0 {b c:Bool}:Es (.bl b) (.bl c) h=.ok (.bl (b==c)) h:=rfl
@[simp] theorem Zc1 {b c:Bool}:Vy (.bl b) (.bl c) h=.ok (.bl (!(b==c))) h:=rfl
@[simp] theorem Zc2:By (.tup ds) h=.ok (.int ds.length) h:=rfl
@[simp] theorem Zc3 {ns:List Int}:By (.scr ns) h=.ok (.int ns.length) h:=by simp [By,A7]
@[simp] theorem Zc4:CD (.tup ds) h=.ok (ds,[]) h:=rfl
@[simp] theorem Zc5:Be (.tup ds) h=.ok (.tup ds) h:=rfl
@[simp] theorem Zc6:K9 (.tup [a,b]) h=.ok (.tup [b,a]) h:=rfl
@[simp] theorem Zc7:DW (.int i) (.int j) h=.ok (.int (if j>i then j else i)) h:=rfl
@[simp] theorem Zc8:DX (.int i) (.int j) h=.ok (.int (if j<i then j else i)) h:=rfl
@[simp] theorem WD {b:Bool}:intOfD (.bl b) h=.ok (.int (if b then 1 else 0)) h:=rfl
@[simp] theorem Zc9:intOfD (.int i) h=.ok (.int i) h:=rfl
@[simp] theorem Zda {ρ:Ae} {k:Nat}:Ap k a ρ=some (ρ.set k (some a)):=rfl
@[simp] theorem Zdb {ρ:Ae} {k l:Nat}:IG k l (.tup [a,b]) ρ=some ((ρ.set k (some a)).set l (some b)):=rfl
@[simp] theorem Zdc {b c:Bool}:GU (.bl b) (.bl c) h=.ok (.bl (b==c)) h:=rfl
@[simp] theorem Zdd {b c:Bool}:CU (.bl b) (.bl c) h=.ok (.bl (!(b==c))) h:=rfl
@[simp] theorem Zde:GU (.int i) (.int j) h=.ok (.bl (i==j)) h:=rfl
@[simp] theorem Zdf:CU (.int i) (.int j) h=.ok (.bl (!(i==j))) h:=rfl
theorem Lf {l:Nat} (e:h[l]?=some (.lst ds)):Be (.loc l) h=.ok (.tup ds) h:=by simp only [Be,e]
theorem FU {l:Nat} (e:h[l]?=some (.lst ds)):BG (.loc l) h=.ok (.loc l) h:=by simp only [BG,e]
theorem IV {l:Nat} (e:h[l]?=some (.lst ds)) (hn:ds.length<sizeLine):FP (.loc l) a h=.ok .non (h.set l (.lst (ds++[a]))):=by simp only [FP,e];rw [if_pos hn]
theorem ix_tup {k:Nat} (e:ds[k]?=some a):AS (.tup ds) (.int (k:Nat)) h=.ok a h:=by
 have hk:k<ds.length:=(qa1.mp e).1
 have e1:BC ds ((k:Nat):Int)=some a:=by
  unfold BC B8
  rw [if_pos (by omega),if_pos (by omega)]
  simpa using e
 simp only [AS,A7,e1]
@[simp] theorem Zdg:AS (.tup [a,b]) (.int 0) h=.ok a h:=rfl
@[simp] theorem Zdh:AS (.tup [a,b]) (.int 1) h=.ok b h:=rfl
theorem WE {ns:List Int} {k:Nat} (e:ns[k]?=some i):AS (.scr ns) (.int (k:Nat)) h=.ok (.int i) h:=by
 have hk:k<ns.length:=(qa1.mp e).1
 have e1:BC (ns.map D.int) ((k:Nat):Int)=some (.int i):=by
  unfold BC B8
  rw [if_pos (by omega),if_pos (by simpa using hk)]
  simp [e]
 simp only [AS,A7,e1]
theorem FV {l k:Nat} (el:h[l]?=some (.lst ds)) (e:ds[k]?=some a):AS (.loc l) (.int (k:Nat)) h=.ok a h:=by
 have hk:k<ds.length:=(qa1.mp e).1
 have e1:BC ds ((k:Nat):Int)=some a:=by
  unfold BC B8
  rw [if_pos (by omega),if_pos (by omega)]
  simpa using e
 simp only [AS,A7,el,e1]
theorem WG {l k:Nat} {ρ:Ae} (el:h[l]?=some (.lst ds)) (hk:k<ds.length):FQ (.loc l) (.int (k:Nat)) a h (.ok (.nx,ρ) h)=.ok (.nx,ρ) (h.set l (.lst (ds.set k a))):=by
 have:B8 ds.length ((k:Nat):Int)=some k:=by
  unfold B8
  rw [if_pos (by omega),if_pos (by omega)]
  simp
 simp only [FQ,el,this]
end
noncomputable def G2 (cs:List (Option Nat)) (it:MI) (sg:MG) (t:MT) (f:ME):ME:=Ad (Ai Be) (Ab (Az cs it sg t f) Ac)
noncomputable def Lg (cs:List (Option Nat)) (it:MI) (sg:MG) (t:MT) (f:ME):ME:=Ad (Ai CY) (Ab (Az cs it sg t f) Ac)
section
variable {α:Type} {cs:List (Option Nat)} {it:MI} {sg:MG} {t:MT} {f:ME} {ρ:Ae} {h:HD} {src:AK} {xs:List α} {φ:α→D}
@[simp] theorem WH:Ad (Ai Be) (Ab (Az cs it sg t f) Ac) ρ h=G2 cs it sg t f ρ h:=rfl
@[simp] theorem Zdi:Ad (Ai CY) (Ab (Az cs it sg t f) Ac) ρ h=Lg cs it sg t f ρ h:=rfl
def Do (o:Out (List D×AK)) (h:HD) (ds:List D) (src:AK):Prop:=Wp o fun x h'=>x=(ds,src)∧Sm h h'∧∀h2,Sm h' h2→Bz src ds h2
theorem IW (e:α→D) (ρ1:α→Ae) (hi:Do (it ρ h) h (xs.map φ) src) (hg:∀x∈xs,sg (φ x) (BW cs ρ)=some (ρ1 x)) (hf:∀x∈xs,∀h',Sm h h'→Pu (f (ρ1 x) h') h' (e x)) (hn:xs.length≤sizeLine):
 Pu (G2 cs it sg AZ f ρ h) h (.tup (xs.map e)):=Wz e ρ1 hi hn hg hf
theorem IX (b:α→Bool) (ρ1:α→Ae) (hi:Do (it ρ h) h (xs.map φ) src) (hg:∀x∈xs,sg (φ x) (BW cs ρ)=some (ρ1 x)) (hf:∀x∈xs,∀h',Sm h h'→Pu (f (ρ1 x) h') h' (.bl (b x))) (hn:xs.length≤sizeLine):
 Pu (Lg cs it sg AZ f ρ h) h (.bl (xs.all b)):=WA b ρ1 hi hn hg hf
theorem IY {ds:List D}:Do (AI (Aa 0) (some (.tup ds)::ρ) h) h ds []:=by
 simp [Do,Sm.refl,Bz]
theorem Lh {ds:List D} {o:Out (List D×AK)} (e:o=.ok (ds,[]) h):Do o h ds []:=by
 rw [e];simp [Do,Sm.refl,Bz]
end
section
variable {h:HD} {i j:Int}
theorem IZ (h1:-18446744073709551616<j) (h2:j<18446744073709551616):CH (.int i) (.int j) h=.ok (.int (i*j)) h:=by
 have:CMl i j:=.inl (.inr ⟨by omega,by omega⟩)
 simp only [CH];rw [if_pos this]
theorem Li (h1:-18446744073709551616<i) (h2:i<18446744073709551616):CH (.int i) (.int j) h=.ok (.int (i*j)) h:=by
 have:CMl i j:=.inl (.inl ⟨by omega,by omega⟩)
 simp only [CH];rw [if_pos this]
theorem WI (h1:Builtin.Int.intBits i≤16777216) (h2:Builtin.Int.intBits j≤16777216):CH (.int i) (.int j) h=.ok (.int (i*j)) h:=by
 have:CMl i j:=.inr ⟨h1,h2⟩
 simp only [CH];rw [if_pos this]
theorem I0 (h1:0<j):EV (.int i) (.int j) h=.ok (.int (i % j)) h:=by
 simp only [EV,EU];rw [if_pos h1]
theorem WJ (h1:0<j) (h2:j<18446744073709551616):ID (.int i) (.int j) h=.ok (.int (i / j)) h:=by
 have:CDv i j:=⟨h1,h2⟩
 simp only [ID,EU];rw [if_pos this]
theorem WK (h1:0<j) (h2:j<18446744073709551616):GV (.int i) (.int j) h=.ok (.tup [.int (i / j),.int (i % j)]) h:=by
 have:CDv i j:=⟨h1,h2⟩
 simp only [GV];rw [if_pos this]
end
theorem OB {α:Type} {o:Out α} {Q:α→HD→Prop}:Wp (noErr o) Q=Wp o Q:=by cases o<;>rfl
theorem OC {src:AK} {items:List D} {sg:MG} {t:MT} {f:ME} {ρc:Ae} (φ:Nat→D) (I:HD→Prop) (T:Nat→Bool→Prop) (R:Nat→D→Prop) (ρ1:Nat→Ae) (hs:∀h,I h→Bz src items h):
 ∀(xs:List Nat) (h:HD),xs.Nodup→I h→(∀x∈xs,sg (φ x) ρc=some (ρ1 x))→(∀x∈xs,∀h,I h→Wp (t (ρ1 x) h) fun b h1=>T x b∧if b=true then Wp (f (ρ1 x) h1) (fun y h2=>I h2∧R x y) else I h1)→
  Wp (CG src items sg t f ρc (xs.map φ) h) fun ys h'=>I h'∧∃(g:Nat→Bool) (e:Nat→D),ys=(xs.filter g).map e∧(∀x∈xs,g x=true→R x (e x))∧∀x∈xs,T x (g x)
 |[],h,_,i,_,_=>by
  simp only [List.map_nil,CG]
  rw [if_pos (hs h i)]
  exact ⟨i,fun _=>true,fun _=>.non,rfl,by simp,by simp⟩
 |x::xs,h,hd,i,hg,ht=>by
  simp only [A4,CG]
  rw [if_pos (hs h i),hg x AU]
  simp only
  rw [Al,OB]
  rw [qbC] at hd
  refine Wp.mono (ht x AU h i) fun b h1 z1_=>?_
  obtain ⟨tb,w⟩:=z1_
  have ih:∀h2,I h2→_:=fun h2 i2=>OC φ I T R ρ1 hs xs h2 hd.2 i2 (fun y hy=>hg y (AV _ hy)) (fun y hy=>ht y (AV _ hy))
  cases b with
  |false=>
   rw [if_neg Bt] at w ⊢
   refine Wp.mono (ih h1 w) ?_
   rintro ys h' ⟨i',g,e,ey,hr,tr⟩
   refine ⟨i',fun y=>if y=x then false else g y,e,?_,?_,?_⟩
   ·rw [List.filter_cons_of_neg (by simp),ey]
    congr 1
    refine List.filter_congr fun y hy=>?_
    rw [if_neg]
    intro z;subst z;exact hd.1 hy
   ·intro y hy gy
    rcases qa4.mp hy with z |z
    ·subst z;simp at gy
    ·refine hr y z ?_
     by_cases hz:y=x
     ·subst hz;exact absurd z hd.1
     ·simpa [hz] using gy
   ·intro y hy
    by_cases hz:y=x
    ·subst hz;simpa using tb
    ·simp only [if_neg hz]
     exact tr y (by rcases qa4.mp hy with z |z;exact absurd z hz;exact z)
  |true=>
   rw [if_pos rfl] at w ⊢
   rw [Al,OB]
   refine Wp.mono w fun y h2 z3_=>?_
   obtain ⟨i2,ry⟩:=z3_
   rw [Al]
   refine Wp.mono (ih h2 i2) ?_
   rintro ys h' ⟨i',g,e,ey,hr,tr⟩
   refine ⟨i',fun z=>if z=x then true else g z,fun z=>if z=x then y else e z,?_,?_,?_⟩
   ·rw [List.filter_cons_of_pos (by simp),A4,if_pos rfl,ey]
    congr 1
    rw [show xs.filter (fun z=>if z=x then true else g z)=xs.filter g from List.filter_congr fun z hz=>by
     rw [if_neg]
     intro q;subst q;exact hd.1 hz]
    refine EJ fun z hz=>?_
    rw [if_neg]
    intro q;subst q;exact hd.1 (qaY.mp hz).1
   ·intro z hz gz
    by_cases q:z=x
    ·subst q;simpa using ry
    ·rcases qa4.mp hz with w |w
     ·exact absurd w q
     ·simp only [if_neg q] at gz ⊢
      exact hr z w gz
   ·intro z hz
    by_cases q:z=x
    ·subst q;simpa using tb
    ·simp only [if_neg q]
     exact tr z (by rcases qa4.mp hz with w |w;exact absurd w q;exact w)
theorem OD {cs:List (Option Nat)} {it:MI} {sg:MG} {t:MT} {f:ME} {ρ:Ae} {h:HD} {src:AK} {xs:List Nat} {Q:D→HD→Prop} (φ:Nat→D) (I:HD→Prop) (T:Nat→Bool→Prop) (R:Nat→D→Prop) (ρ1:Nat→Ae) (hi:Wp (it ρ h) fun x h'=>x=(xs.map φ,src)∧I h') (hs:∀h,I h→Bz src (xs.map φ) h)
 (hnew:∀h c,I h→I (h++[c])) (hd:xs.Nodup) (hn:xs.length≤sizeLine) (hg:∀x∈xs,sg (φ x) (BW cs ρ)=some (ρ1 x)) (ht:∀x∈xs,∀h,I h→Wp (t (ρ1 x) h) fun b h1=>T x b∧if b=true then Wp (f (ρ1 x) h1) (fun y h2=>I h2∧R x y) else I h1)
 (q:∀h' (g:Nat→Bool) (e:Nat→D),I h'→(∀x∈xs,g x=true→R x (e x))→(∀x∈xs,T x (g x))→Q (.tup ((xs.filter g).map e)) h'):Wp (G2 cs it sg t f ρ h) Q:=by
 unfold G2
 rw [D0,Dz]
 unfold Az
 rw [Al]
 refine Wp.mono hi fun x h1 z5_=>?_
 obtain ⟨ex,i1⟩:=z5_
 subst ex
 rw [if_pos (by simpa using hn),Al]
 refine Wp.mono (OC φ I T R ρ1 hs xs h1 hd i1 hg ht) fun ys h2 z6_=>?_
 obtain ⟨i2,g,e,ey,hr,tr⟩:=z6_
 subst ey
 refine A3 ?_ fun l h3 s3 e3 _ eh=>?_
 ·rw [Bo]
  exact BB (Fw _ _) hn
 ·rw [D1]
  simp only [Ai,Be,e3]
  refine q h3 g e ?_ hr tr
  rw [eh]
  exact hnew _ _ i2
structure PyN (n:Nat) (d:D) (p:PyData):Prop where
 rd:∀k,n≤k→AR [] k d=some p
 ly:p.canLay0=true
 dp:p.depth≤n
theorem PyN.py {n:Nat} {d:D} {p:PyData} (h:PyN n d p) (hn:n≤8):Py d p:=⟨h.rd 8 hn,by
 unfold SeqAt.shaped
 rw [h.ly]
 have:=h.dp
 simp
 omega⟩
def KD {α:Type}:Sem α→Prop
 |.pure _=>True
 |.raise _=>True
 |.unsupported _=>True
 |.finish _=>True
 |.rule _ k=>KD (k ())
 |.at _ k=>KD (k ())
 |.load _ _ k=>∀o,KD (k o)
 |.update _ _ f k=>(∀o,(f o).dict=o.dict∧(o.isFreed=false→(f o).isFreed=false))∧KD (k ())
 |.loadIfAlive _ k=>∀o,KD (k o)
 |.point _ k=>KD (k ())
 |.register _ _=>True
 |.alloc _ k=>∀a,KD (k a)
 |.fresh k=>∀a,KD (k a)
 |.ask k=>∀a,KD (k a)
 |.choose _ _ k=>∀a,KD (k a)
 |.os _ _ k=>∀a,KD (k a)
 |.call ..=>False
 |.handled _ k=>∀a,KD (k a)
 |.genState _ k=>∀a,KD (k a)
 |.newGen _ k=>∀a,KD (k a)
 |.resume ..=>False
 |.yield ..=>True
 |.stack k=>∀a,KD (k a)
 |.fork ..=>True
 |.thread k=>∀a,KD (k a)
 |.await ..=>True
def Dicts (h h':Heap):Prop:=∀b o,h.get? b=some o→∃o',h'.get? b=some o'∧o'.dict=o.dict
theorem Dicts.refl (h:Heap):Dicts h h:=fun _ o e=>⟨o,e,rfl⟩
theorem Dicts.trans {h h1 h2:Heap} (a:Dicts h h1) (b:Dicts h1 h2):Dicts h h2:=fun c o e=>by
 obtain ⟨o1,e1,d1⟩:=a c o e
 obtain ⟨o2,e2,d2⟩:=b c o1 e1
 exact ⟨o2,e2,d2.trans d1⟩
theorem WL {α:Type} {M:Model} {Γ:PySem.Ctx} {Q:α→Pos→Shared→Prop} {E:Value→Pos→Shared→Prop}:∀(t:Sem α) (p:Pos) (s:Shared),KD t→Sem.wp M Γ t Q E p s→Sem.wp M Γ t (fun a p s'=>Q a p s'∧Dicts s.heap s'.heap) (fun a p s'=>E a p s'∧Dicts s.heap s'.heap) p s:=by
 have lift:∀(t:Sem α) (p:Pos) (h0:Heap) (s:Shared),Dicts h0 s.heap→Sem.wp M Γ t (fun a p s'=>Q a p s'∧Dicts s.heap s'.heap) (fun a p s'=>E a p s'∧Dicts s.heap s'.heap) p s→Sem.wp M Γ t (fun a p s'=>Q a p s'∧Dicts h0 s'.heap) (fun a p s'=>E a p s'∧Dicts h0 s'.heap) p s:=
  fun t p h0 s d w=>Sem.wp_mono M Γ t (fun a p s' z=>⟨z.1,d.trans z.2⟩) (fun a p s' z=>⟨z.1,d.trans z.2⟩) p s w
 intro t
 induction t with
 |pure a=>exact fun p s _ w=>⟨w,.refl _⟩
 |raise e=>exact fun p s _ w=>⟨w,.refl _⟩
 |unsupported w=>exact fun p s _ w=>w.elim
 |finish w=>exact fun p s _ w=>w.elim
 |rule t k ih=>exact fun p s kd w=>ih () p s kd w
 |«at» t k ih=>exact fun p s kd w=>ih () t s kd w
 |load a x k ih=>exact fun p s kd ⟨o,e,w⟩=>⟨o,e,ih o p s (kd o) w⟩
 |update a x f k ih=>
  refine fun p s kd ⟨e,w⟩=>⟨e,lift _ p s.heap {s with heap:=s.heap.update a f} (fun b o eb=>?_) (ih () p _ kd.2 w)⟩
  by_cases hb:b=a
  ·subst hb
   obtain ⟨d1,d2⟩:=kd.1 o
   exact ⟨f o,Di f eb (d2 (Heap.get?_some_iff.mp eb).2),d1⟩
  ·exact ⟨o,(Fv s.heap f (Ne.symm hb)).trans eb,rfl⟩
 |alloc o k ih=>exact fun p s kd w=>lift _ p s.heap {s with heap:=s.heap.push o} (fun b ob eb=>⟨ob,AB _ eb,rfl⟩) (ih _ p {s with heap:=s.heap.push o} (kd _) w)
 |loadIfAlive a k ih=>exact fun p s kd w=>ih _ p s (kd _) w
 |point l k ih=>exact fun p s kd w=>ih () p s kd w
 |register a k ih=>exact fun p s kd w=>w.elim
 |fresh k ih=>exact fun p s kd w=>ih _ p {s with toks:=s.toks+1} (kd _) w
 |ask k ih=>exact fun p s kd w=>ih _ p s (kd _) w
 |choose src n k ih=>exact fun p s kd ⟨z,w⟩=>⟨z,ih _ p {s with drawn:=s.drawn.bump src} (kd _) w⟩
 |os q l k ih=>exact fun p s kd w=>ih _ p {s with os:=(Os.step s.os q).1} (kd _) w
 |call c h g l k ih=>exact fun p s kd w=>kd.elim
 |handled o k ih=>exact fun p s kd w=>ih _ p s (kd _) w
 |newGen c k ih=>exact fun p s kd w=>ih _ p {s with gens:=s.gens.push (.fresh c)} (kd _) w
 |genState g k ih=>exact fun p s kd ⟨st,e,w⟩=>⟨st,e,ih _ p s (kd _) w⟩
 |resume g r l k ih=>exact fun p s kd w=>kd.elim
 |yield v g l k ih=>exact fun p s kd w=>w.elim
 |stack k ih=>exact fun p s kd w=>ih _ p s (kd _) w
 |fork c k ih=>exact fun p s kd w=>w.elim
 |thread k ih=>exact fun p s kd w=>ih _ p s (kd _) w
 |await a t b l k ih=>exact fun p s kd w=>w.elim
theorem G3 {α:Type} {M:Model} {A:Around} {t:Sem α} {Q:α→Shared→Prop} {E:Value→Shared→Prop} {s:Shared} (kd:KD t) (h:wpAny M A t Q E s):wpAny M A t (fun a s'=>Q a s'∧Dicts s.heap s'.heap) (fun a s'=>E a s'∧Dicts s.heap s'.heap) s:=
 fun Γ p hΓ=>WL t p s kd (h Γ p hΓ)
theorem KD.bind {α β:Type} {f:α→Sem β}:∀{t:Sem α},KD t→(∀a,KD (f a))→KD (t >>=f):=by
 intro t
 induction t with
 |pure a=>exact fun _ h=>h a
 |raise e=>exact fun _ _=>True.intro
 |unsupported w=>exact fun _ _=>True.intro
 |finish w=>exact fun _ _=>True.intro
 |rule t k ih=>exact fun kd h=>ih () kd h
 |«at» t k ih=>exact fun kd h=>ih () kd h
 |load a x k ih=>exact fun kd h o=>ih o (kd o) h
 |update a x g k ih=>exact fun kd h=>⟨kd.1,ih () kd.2 h⟩
 |alloc o k ih=>exact fun kd h a=>ih a (kd a) h
 |loadIfAlive a k ih=>exact fun kd h a=>ih a (kd a) h
 |point l k ih=>exact fun kd h=>ih () kd h
 |register a k ih=>exact fun kd h=>True.intro
 |fresh k ih=>exact fun kd h a=>ih a (kd a) h
 |ask k ih=>exact fun kd h a=>ih a (kd a) h
 |choose src n k ih=>exact fun kd h a=>ih a (kd a) h
 |os q l k ih=>exact fun kd h a=>ih a (kd a) h
 |call c h g l k ih=>exact fun kd h=>kd.elim
 |handled o k ih=>exact fun kd h a=>ih a (kd a) h
 |newGen c k ih=>exact fun kd h a=>ih a (kd a) h
 |genState g k ih=>exact fun kd h a=>ih a (kd a) h
 |resume g r l k ih=>exact fun kd h=>kd.elim
 |yield v g l k ih=>exact fun kd h=>True.intro
 |stack k ih=>exact fun kd h a=>ih a (kd a) h
 |fork c k ih=>exact fun kd h=>True.intro
 |thread k ih=>exact fun kd h a=>ih a (kd a) h
 |await a t b l k ih=>exact fun kd h=>True.intro
theorem EA {α:Type} {c:Prop} [Decidable c] {a b:Sem α} (ha:KD a) (hb:KD b):KD (if c then a else b):=by split<;>assumption
theorem Lj {a:Addr}:KD (load a):=fun _=>True.intro
theorem WM {f:Array Value→Array Value} (o:Obj):(Obj.mapFields f o).dict=o.dict∧(o.isFreed=false→(Obj.mapFields f o).isFreed=false):=by
 obtain ⟨c,d,dt,sl⟩:=o
 cases dt<;>exact ⟨rfl,fun h=>h⟩
theorem WN {v:Value}:KD (fieldsOf v):=by
 unfold fieldsOf
 split
 ·exact KD.bind Lj fun o=>by split<;>exact True.intro
 ·exact True.intro
theorem Ja {v:Value} {i:Nat}:KD (field v i):=by
 unfold field
 exact KD.bind WN fun o=>by split<;>exact True.intro
theorem Lk {v x:Value} {i:Nat}:KD (setField v i x):=by
 unfold setField
 split
 ·unfold updateField
  refine KD.bind Lj fun o=>?_
  split
  ·exact EA ⟨WM,True.intro⟩ True.intro
  ·exact True.intro
 ·exact True.intro
theorem Ll {v:Value} {o:Option Addr}:KD (setFlight v o):=by
 unfold setFlight
 exact KD.bind Ja fun o=>EA Lk True.intro
theorem WO {n:String} {vs:List Value}:KD (newFields n vs):=by
 unfold newFields newObj
 unfold newObjAsIs
 dsimp only
 split
 ·exact True.intro
 ·exact fun a=>True.intro
theorem OE:∀{l:List Env},KD (readyFrames l)
 |[]=>True.intro
 |env::outer=>by
  unfold readyFrames
  split
  ·refine KD.bind Lj fun o=>EA True.intro (KD.bind ?_ fun b=>KD.bind ?_ fun v=>KD.bind ⟨fun o=>⟨rfl,fun h=>?_⟩,True.intro⟩ fun _=>OE)
   ·unfold behindIsImport
    exact EA True.intro (EA True.intro (KD.bind Ja fun _=>True.intro))
   ·unfold keptBack
    split
    ·exact EA True.intro fun _=>True.intro
    ·exact True.intro
   ·obtain ⟨c,d,dt,sl⟩:=o
    cases dt<;>exact h
  ·exact True.intro
theorem WQ {env:Env}:KD (PySem.frameOf env):=by
 unfold PySem.frameOf
 refine KD.bind (fun _=>True.intro) fun l=>KD.bind ?_ fun o=>?_
 ·unfold frameObject
  split
  ·exact True.intro
  ·exact KD.bind OE fun _=>True.intro
 ·split<;>exact True.intro
theorem WR {f:Addr} {b:Bool}:KD (entryPlaceOf f b):=by
 unfold entryPlaceOf
 intro l
 show KD (match l.find? _ with |some (_,pos)=>_ |none=>_)
 split<;>exact True.intro
theorem OF {e:Value} {env:Env}:KD (noteFrame e env):=by
 unfold noteFrame
 split
 ·refine KD.bind Ja fun hd=>?_
  have Ay:∀f:Addr,KD (do setField e 1 (←EntryCells.newEntry hd (←PySem.frameOf env) .none (rawInt f) .none (←entryPlaceOf f (hd != .none)))):=fun f=>
   KD.bind WQ fun _=>KD.bind WR fun _=>KD.bind WO fun _=>Lk
  refine EA (KD.bind Ja fun x=>EA True.intro (KD.bind Lk fun _=>?_)) ?_
  ·exact Ay _
  ·exact Ay _
 ·exact True.intro
theorem OG {e:Value} {env:Env}:KD (leaving env e):=by
 unfold leaving
 exact KD.bind OF fun _=>Ll
open Classical in
noncomputable def blank (p:Addr→Prop) (h:Heap):Heap:=⟨h.objs.mapIdx fun i o=>if p i then {o with data:=.freed} else o,h.life⟩
theorem E1 {p:Addr→Prop} {h:Heap} {b:Addr} (hp:p b):(blank p h).get? b=none:=by
 unfold blank Heap.get?
 simp only [Array.getElem?_mapIdx]
 cases e:h.objs[b]? with
 |none=>rfl
 |some o=>simp [hp]
theorem E2 {p:Addr→Prop} {h:Heap} {b:Addr} (hp:¬p b):(blank p h).get? b=h.get? b:=by
 unfold blank Heap.get?
 simp only [Array.getElem?_mapIdx]
 cases e:h.objs[b]? with
 |none=>rfl
 |some o=>simp [hp]
theorem Lm {p:Addr→Prop} {h:Heap}:(blank p h).StaysIn h:=fun b o e=>by
 by_cases hp:p b
 ·rw [E1 hp] at e;cases e
 ·rw [E2 hp] at e;exact e
inductive Jb (h0 h:Heap) (H:Hp) (a:Addr) (C:Value) (da:Option Addr):Prop where
 |mk (new:h0.get? a=none) (no:H a=none) (oe:Obj) (vs:Array Value) (a0:Value) (T:Addr) (oT:Obj) (ts:Array Value) (e1:h.get? a=some oe) (e2:oe.cls=C∧vs[0]?=some a0) (e3:oe.data=.fields vs) (e4:vs[1]?=some (.ref T)) (e5:h0.get? T=none) (e6:H T=none) (e7:T≠a) (e8:h.get? T=some oT) (e9:oT.data=.fields ts) (e10:ts[3]?=some .none) (e11:oe.dict=da):Jb h0 h H a C da
abbrev CI (n:Str):Value:=.str n 0
inductive AL (P:Program) (w:World) (K:PySem.W.Frag) (outer:List Env) (H:Hp) (s:Shared) (E:XK) (e:Value) (s':Shared):Prop where
 |mk (a C:Addr) (n:Str) (da:Option Addr) (H':Hp) (ee:e=.ref a) (os:s'.os=s.os) (bare:AllBare s'.gens) (un:Un (frs outer) [] H H' s.heap s'.heap) (hok:HOk P w H' s'.heap) (fly:Jb s.heap s'.heap H' a (.ref C) da) (nm:PySem.W.nsIn K mainGlobals n=some (some (.ref C))) (q:E (CI n) da H'):AL P w K outer H s E e s'
theorem Jc {h base:Heap} {p:Addr→Prop}:∀{l:List Env},h.FunFrames base l→(∀b∈frs l,p b)→h.FunFrames (blank p h) l
 |[],_,_=>trivial
 |env::rest,⟨k,⟨L,o,hf,_,ho,hd⟩,r⟩,hp=>⟨k,⟨L,o,hf,E1 (hp L (by unfold frs;rw [Fx,hf];exact AU)),ho,hd⟩,
  Jc r fun b hb=>hp b (by
   unfold frs at hb ⊢
   rw [Fx,hf]
   exact AV _ hb)⟩
theorem Ln {P:Program} {w:World} {H:Hp} {h:Heap} {a:Addr} {o:HO} (x:ObjOk P w H h a o):∃ob,h.get? a=some ob:=by
 cases o with
 |lst xs=>obtain ⟨_,_,_,_,e⟩:=x;exact ⟨_,e⟩
 |tup xs=>obtain ⟨_,_,_,⟨_,e,_⟩,_⟩:=x;exact ⟨_,e⟩
 |own y=>exact x
 |ins C dx fs=>obtain ⟨_,_,_,e,_⟩:=x;exact ⟨_,e⟩
 |xd fs=>obtain ⟨_,⟨_,_,_,e,_⟩,_⟩:=x;exact ⟨_,e⟩
 |frz ob u=>obtain ⟨e,_⟩:=x;exact ⟨_,e⟩
 |tbl ps=>exact ⟨_,x⟩
 |ext φ=>exact x.2.1
 |mex φ=>exact x.2.1
 |dct φ=>exact x.2.1
structure Lv (X:Cx) (E:XK):Prop where
 xe:∀e s',wpAny (model X.prog X.w) X.A (leaving X.env e) (fun _ s''=>AL X.prog X.w X.K X.outer X.H₀ X.s₀ E e s'') (fun e' s''=>AL X.prog X.w X.K X.outer X.H₀ X.s₀ E e' s'') s'→X.xe e s'
 stk:X.stack=X.env::X.outer
 fr:X.env.frame=some X.env.locals
 ex:X.ex=[]
theorem Jd {P:Program} {w:World} {K:PySem.W.Frag} {mg:Str→Option Value} {base:Heap} {N:List Str} {qual:Str} {scope:Scope} {f:Addr} {cd:Value} {A:Around} {outer:List Env} {s:Shared} {H:Hp} {E:XK}:Lv (Bv (AL P w K) P w K mg base N qual scope f cd A outer s H E) E:=
 ⟨fun _ _ h=>h,rfl,rfl,rfl⟩
section
variable {X:Cx} {E:XK}
theorem Lv.frs (lv:Lv X E):L2.frs X.stack=X.env.locals::X.fs:=by
 rw [lv.stk];unfold L2.frs;rw [Fx,lv.fr];rfl
theorem OH {pins:List (Addr×Obj)} {σ:L2.St} {H':Hp} {s':Shared} {h':Heap} {a T:Addr} {C:Value} (lv:Lv X E)
 (I:Inv X pins σ H' s')
 (na:X.s₀.heap.get? a=none) (nT:X.s₀.heap.get? T=none) (ha:H' a=none) (hT:H' T=none) {a0:Value}
 (L:Heap.LeftW (blank (fun b=>b=a∨b=T∨b∈frs X.stack) s'.heap) X.stack a C a0 s'.heap h') {da:Option Addr} {oa:Obj} (ea:s'.heap.get? a=some oa) (ed:oa.dict=da) (dd:Dicts s'.heap h'):
 Un X.fs [] X.H₀ H' X.s₀.heap h'∧HOk X.prog X.w H' h'∧Jb X.s₀.heap h' H' a C da:=by
 obtain ⟨stay,ff,⟨oe,vs,T2,oT,ts,e1,e2,e3,e4,e5,e6,e7,e8,e9⟩,ups⟩:=L
 have e11:oe.dict=da:=by
  obtain ⟨o',q1,q2⟩:=dd a oa ea
  rw [e1] at q1
  cases q1
  exact q2.trans ed
 have B:Un X.fs [] X.H₀ H' X.s₀.heap s'.heap:=by have:=I.base;rw [lv.ex] at this;exact this
 have stk:=I.stack
 have frNone:∀b∈frs X.stack,H' b=none:=fun b hb=>I.stkFree b hb
 have keepOf:∀b o,¬(b=a∨b=T∨b∈frs X.stack)→s'.heap.get? b=some o→h'.get? b=some o:=fun b o hb e=>stay b o (by rw [E2 hb];exact e)
 have notL:∀b o,X.s₀.heap.get? b=some o→b∉X.fs→b∉frs X.stack:=fun b o e hb z=>by
  rw [lv.frs] at z
  rcases qa4.mp z with z |z
  ·have:=Ax e
   rw [z] at this
   exact absurd (AX this I.ok.above) (B1 _)
  ·exact hb z
 have old:∀b o,X.s₀.heap.get? b=some o→b≠a∧b≠T:=fun b o e=>⟨fun z=>(by rw [z,na] at e;cases e),fun z=>(by rw [z,nT] at e;cases e)⟩
 have noFields:∀b,b∈frs X.stack→∃o,s'.heap.get? b=some o∧∀vs,o.data≠.fields vs:=fun b hb=>(stk.mem hb).2
 have any:∀b o,X.s₀.heap.get? b=some o→s'.heap.get? b≠none→∃o',h'.get? b=some o':=fun b o e hn=>by
  cases e':s'.heap.get? b with
  |none=>exact absurd e' hn
  |some o'=>
   by_cases hb:b∈frs X.stack
   ·obtain ⟨o2,h2,d2⟩:=noFields b hb
    obtain ⟨sl,h3⟩:=ups b o2 h2 d2
    exact ⟨_,h3⟩
   ·exact ⟨o',keepOf b o' (fun z=>by rcases z with z |z |z;exact (old b o e).1 z;exact (old b o e).2 z;exact hb z) e'⟩
 refine ⟨⟨fun b o e n hb hx=>?_,fun b o e n hb hx=>?_,B.free,fun b o e hx=>?_,B.tups,B.frzs,B.tbls⟩,fun b o e=>?_,na,ha,oe,vs,a0,T2,oT,ts,e1,e2,e3,e4,?_,?_,e6,e7,e8,e9,e11⟩
 ·exact keepOf b o (fun z=>by rcases z with z |z |z;exact (old b o e).1 z;exact (old b o e).2 z;exact notL b o e hb z) (B.keep b o e n hb hx)
 ·obtain ⟨sl,h1⟩:=B.slot b o e n hb hx
  have hb':b∈frs X.stack:=by rw [lv.frs];exact AV _ hb
  obtain ⟨o2,h2,d2⟩:=noFields b hb'
  rw [h1] at h2
  cases h2
  obtain ⟨sl2,h3⟩:=ups b _ h1 d2
  exact ⟨sl2,h3⟩
 ·obtain ⟨o',h1⟩:=B.there b o e hx
  exact any b o e (by rw [h1];simp)
 ·refine (I.hok b o e).stay (fun c u hc q=>keepOf c u (fun z=>?_) q) (fun _ q=>q) fun _ _ q=>q
  have hc':H' c≠none:=by
   rcases hc with rfl |hc
   ·rw [e];simp
   ·rw [hc];simp
  rcases z with z |z |z
  ·exact hc' (z ▸ ha)
  ·exact hc' (z ▸ hT)
  ·exact hc' (frNone c z)
 ·cases q:X.s₀.heap.get? T2 with
  |none=>rfl
  |some o=>
   exfalso
   obtain ⟨o',h1⟩:=B.there T2 o q (by simp)
   by_cases hb:T2∈frs X.stack
   ·obtain ⟨o2,h2,d2⟩:=noFields T2 hb
    obtain ⟨sl,h3⟩:=ups T2 o2 h2 d2
    rw [h3] at e7
    cases e7
    exact d2 _ e8
   ·rw [E2 (fun z=>by rcases z with z |z |z;exact (old T2 o q).1 z;exact (old T2 o q).2 z;exact hb z),h1] at e5
    cases e5
 ·cases q:H' T2 with
  |none=>rfl
  |some o=>
   exfalso
   by_cases hb:T2=a∨T2=T∨T2∈frs X.stack
   ·rcases hb with z |z |z
    ·rw [z,ha] at q;cases q
    ·rw [z,hT] at q;cases q
    ·rw [frNone T2 z] at q;cases q
   ·rw [E2 hb] at e5
    obtain ⟨ob,eb⟩:=Ln (I.hok T2 o q)
    rw [eb] at e5
    cases e5
theorem Lv.older (lv:Lv X E) {pins:List (Addr×Obj)} {σ:L2.St} {H1:Hp} {s1:Shared} (I:Inv X pins σ H1 s1):∀b,s1.heap.get? b=none→X.s₀.heap.get? b=none:=fun b hb=>by
 cases q:X.s₀.heap.get? b with
 |none=>rfl
 |some o=>
  obtain ⟨o',h1⟩:=I.base.there b o q (by rw [lv.ex];simp)
  rw [hb] at h1;cases h1
theorem Lo (lv:Lv X E):Em (AL X.prog X.w X.K) X E:=by
 rintro pins σ H1 s1 e s' I ⟨a,C,n,da,H',ee,os,bare,un,hok,fly,nm,q⟩
 subst ee
 have I':Inv X pins σ H' s':=I.call' os un hok bare (fun b hb=>absurd hb (by simp))
 obtain ⟨fnew,fno,oe,vs,a0,T,oT,ts,e1,e2,e3,e4,e5,e6,e7,e8,e9,e10,e11⟩:=fly
 have fro:X.A.frames=some (X.env::X.outer):=by rw [←lv.stk];exact I'.ok.frames
 have stk:s'.heap.FunFrames X.base (X.env::X.outer):=by have:=I'.stack;rw [lv.stk] at this;exact this
 have run:=G3 OG (wpAny_leaving_nextW (M:=model X.prog X.w) (E:=fun _ _=>False) (Q:=fun _ s''=>∃h',s''={s' with heap:=h'}∧Heap.LeftW (blank (fun b=>b=a∨b=T∨b∈frs X.stack) s'.heap) (X.env::X.outer) a (.ref C) a0 s'.heap h') (base:=blank (fun b=>b=a∨b=T∨b∈frs X.stack) s'.heap) (cls:=.ref C) (a0:=a0) fro (Jc stk fun b hb=>.inr (.inr (by rw [lv.stk];exact hb))) lv.fr
  ⟨oe,vs,T,oT,ts,e1,e2,e3,e4,E1 (.inr (.inl rfl)),e7,e8,e9,e10⟩ Lm (E1 (.inl rfl)) fun h' L=>⟨h',rfl,L⟩)
 refine lv.xe _ _ (wpAny_mono run (fun _ s'' z=>?_) fun _ _ z=>z.1.elim)
 obtain ⟨⟨h',rfl,L⟩,D⟩:=z
 obtain ⟨u1,u2,u3⟩:=OH lv I' (lv.older I a fnew) (lv.older I T e5) fno e6 (by rw [lv.stk] at *;exact L) e1 e11 D
 exact ⟨a,C,n,da,H',rfl,I'.os,bare,u1,u2,u3,nm,q⟩
theorem WS (lv:Lv X E) {pins:List (Addr×Obj)} {σ:L2.St} {H1:Hp} {s1:Shared} {a C:Addr} {n:Str} {da:Option Addr} {oe:Obj} {vs:Array Value} {a0:Value} (I':Inv X pins σ H1 s1)
 (e1:s1.heap.get? a=some oe) (ec:oe.cls=.ref C) (e3:oe.data=.fields vs) (v0:vs[0]?=some a0) (v1:vs[1]?=some .none) (ed:oe.dict=da) (new:X.s₀.heap.get? a=none) (fresh:H1 a=none) (nm:PySem.W.nsIn X.K mainGlobals n=some (some (.ref C))) (q:E (CI n) da H1):X.xe (.ref a) s1:=by
 have fro:X.A.frames=some (X.env::X.outer):=by rw [←lv.stk];exact I'.ok.frames
 have stk:s1.heap.FunFrames X.base (X.env::X.outer):=by have:=I'.stack;rw [lv.stk] at this;exact this
 have run:=G3 OG (wpAny_leaving_firstW (M:=model X.prog X.w) (E:=fun _ _=>False) (Q:=fun _ s''=>∃h',s''={s1 with heap:=h'}∧Heap.LeftW (blank (fun b=>b=a∨b=a∨b∈frs X.stack) s1.heap) (X.env::X.outer) a oe.cls a0 s1.heap h') (base:=blank (fun b=>b=a∨b=a∨b∈frs X.stack) s1.heap) (a0:=a0) fro (Jc stk fun b hb=>.inr (.inr (by rw [lv.stk];exact hb))) lv.fr
  e1 Lm (E1 (.inl rfl)) e3 v1 v0 fun h2 L=>⟨h2,rfl,L⟩)
 refine lv.xe _ _ (wpAny_mono run (fun _ s'' z=>?_) fun _ _ z=>z.1.elim)
 obtain ⟨⟨h',rfl,L⟩,D⟩:=z
 obtain ⟨u1,u2,u3⟩:=OH lv I' new new fresh fresh (by rw [lv.stk] at *;exact L) e1 ed D
 rw [ec] at u3
 exact ⟨a,C,n,da,H1,rfl,I'.os,I'.bare,u1,u2,u3,nm,q⟩
theorem WT (lv:Lv X E) {pins:List (Addr×Obj)} {σ:L2.St} {H1:Hp} {s1:Shared} {h':Heap} {a C:Addr} {n:Str} {vs:List Value} (I:Inv X pins σ H1 s1)
 (m:Heap.MadeExcOf s1.heap h' a (.ref C) vs) (nm:PySem.W.nsIn X.K mainGlobals n=some (some (.ref C))) (q:E (CI n) none H1):X.xe (.ref a) {s1 with heap:=h'}:=by
 have I':Inv X pins σ H1 {s1 with heap:=h'}:=I.kept m.keeps
 obtain ⟨t,e1,e2,e3⟩:=m.there
 have fresh:H1 a=none:=by
  cases q:H1 a with
  |none=>rfl
  |some o=>
   obtain ⟨ob,eb⟩:=Ln (I.hok a o q)
   rw [m.new] at eb;cases eb
 exact WS lv I' e1 rfl rfl rfl rfl rfl (lv.older I a m.new) fresh nm q
end
section
variable {P:Program} {w:World} {K:PySem.W.Frag} {mg:Str→Option Value} {base:Heap} {N:List Str} {qual:Str} {scope:Scope} {f:Addr} {cd:Value} {A:Around} {outer:List Env} {s:Shared} {H:Hp} {E:XK}
theorem OI:Em (AL P w K) (Bv (AL P w K) P w K mg base N qual scope f cd A outer s H E) E:=Lo Jd
theorem WU {pins:List (Addr×Obj)} {σ:L2.St} {H1:Hp} {s1:Shared} {h':Heap} {a C:Addr} {n:Str} {vs:List Value} (I:Inv (Bv (AL P w K) P w K mg base N qual scope f cd A outer s H E) pins σ H1 s1)
 (m:Heap.MadeExcOf s1.heap h' a (.ref C) vs) (nm:PySem.W.nsIn K mainGlobals n=some (some (.ref C))) (q:E (CI n) none H1):(Bv (AL P w K) P w K mg base N qual scope f cd A outer s H E).xe (.ref a) {s1 with heap:=h'}:=WT Jd I m nm q
end
inductive OJ (h:Heap) (C:Addr) (bmB:List Value) (newId:String):Prop where
 |mk (bm:List Value) (N:Addr) (nm q:Str) (bs:List Value) (hdct:Bool) (sn:List Str) (sub:List Value) (ab:Bool) (col:Option Bool) (dd:Option Addr) (k0 k1 k2 k3 k5:Option Value) (mN:Str→Option Value)
  (hC:h.get? C=some (excClassObj nm q C N bs bm hdct sn sub ab col dd k0 k1 k2 k3 k5 newId)) (hN:h.Ns N mN) (hni:mN "__init__"=none) (T:OwnTail h bmB bm):OJ h C bmB newId
def Lp (K:PySem.W.Frag) (C:Addr) (bmB:List Value) (newId:String):Prop:=∀h:Heap,K.In h→OJ h C bmB newId
def clsOf:Data→Option ClassData
 |.cls c=>some c
 |_=>none
theorem WV {d:Data} {c:ClassData} (h:clsOf d=some c):d=.cls c:=by
 cases d<;>first |(cases h;rfl) |cases h
inductive OK {α:Type} (l:List α):Prop where
 |mk (a b c d e f:α) (q:l=[a,b,c,d,e,f]):OK l
theorem WW {α:Type} {l:List α} (h:l.length=6):OK l:=by
 cases l with
 |nil=>cases h
 |cons a l=>cases l with
  |nil=>cases h
  |cons b l=>cases l with
   |nil=>cases h
   |cons c l=>cases l with
    |nil=>cases h
    |cons d l=>cases l with
     |nil=>cases h
     |cons e l=>cases l with
      |nil=>cases h
      |cons f l=>cases l with
       |nil=>exact ⟨a,b,c,d,e,f,rfl⟩
       |cons g l=>cases h
def Je (K:PySem.W.Frag) (C:Addr) (bmB:List Value) (newId:String) (o:Obj) (cd:ClassData):Bool:=
 decide (o.cls=.type "type")&&(decide (cd.mro=.ref C::cd.mro.tail)&&(!cd.hasDel&&(PySem.W.tailIn K bmB cd.mro.tail&&(PySem.W.nsOkIn K cd.ns&&(PySem.W.nsIn K cd.ns "__init__"==some none&&(decide (o.slots.toList.length=6)&&decide (o.slots.toList[4]?=some (some (.builtin newId)))))))))
def Lq (K:PySem.W.Frag) (C:Addr) (bmB:List Value) (newId:String):Bool:=match K.lookup C with
 |some o=>(match clsOf o.data with
  |some cd=>Je K C bmB newId o cd
  |none=>false)
 |none=>false
theorem WX {K:PySem.W.Frag} {C:Addr} {bmB:List Value} {newId:String} (q:Lq K C bmB newId=true):Lp K C bmB newId:=by
 intro h X
 unfold Lq at q
 cases lk:K.lookup C with
 |none=>rw [lk] at q;cases q
 |some o=>
  rw [lk] at q
  replace q:(match clsOf o.data with |some cd=>Je K C bmB newId o cd |none=>false)=true:=q
  cases ec:clsOf o.data with
  |none=>rw [ec] at q;cases q
  |some cd=>
   rw [ec] at q
   replace q:Je K C bmB newId o cd=true:=q
   unfold Je at q
   simp only [Bf,decide_eq_true_eq,Bool.not_eq_true',beq_iff_eq] at q
   obtain ⟨e1,e2,e3,e4,e5,e6,e7,e8⟩:=q
   obtain ⟨cls,od,dt,⟨sl⟩⟩:=o
   obtain ⟨nm,bs,mro,ns,qn,hd,sn,sub,ab,col,del⟩:=cd
   replace ec:=WV ec
   simp only at ec e1 e2 e3 e4 e5 e6 e7 e8
   obtain ⟨k0,k1,k2,k3,k4,k5,rfl⟩:=WW e7
   cases mro with
   |nil=>cases e2
   |cons c bm=>
    cases e2
    cases Option.some.inj e8
    subst ec e1 e3
    exact ⟨_,_,_,_,_,_,_,_,_,_,_,_,_,_,_,_,h.nsMap ns,X _ _ lk,.of_isNs (PySem.W.isNs_of_in X e5),PySem.W.nsMap_none_of_in X e5 e6,PySem.W.tail_of_in X e4⟩
abbrev G4:List Value:=[.type "ValueError",.type "Exception",.type "BaseException",.type "object"]
def Lr (X:Cx) (E:XK):Prop:=∀(pins:List (Addr×Obj)) (σ:L2.St) (H1:Hp) (s1:Shared) (h':Heap) (a C:Addr) (n:Str) (vs:List Value),Inv X pins σ H1 s1→Heap.MadeExcOf s1.heap h' a (.ref C) vs→PySem.W.nsIn X.K mainGlobals n=some (some (.ref C))→E (CI n) none H1→X.xe (.ref a) {s1 with heap:=h'}
theorem WY {P:Program} {w:World} {K:PySem.W.Frag} {mg:Str→Option Value} {base:Heap} {N:List Str} {qual:Str} {scope:Scope} {f:Addr} {cd:Value} {A:Around} {outer:List Env} {s:Shared} {H:Hp} {E:XK}:
 Lr (Bv (AL P w K) P w K mg base N qual scope f cd A outer s H E) E:=fun pins σ H1 s1 h' a C n vs I m nm q=>WU I m nm q
section
variable {X:Cx} {E:XK}
def E3 (n:Str) (fa:MA):MS:=fun ρ h=>(fa ρ h).bind fun xs h1=>if xs.length≤sizeLine then .err (CI n) [] h1 else .stuck
theorem WZ {x:Str} {C:Addr} {e:Expr} {es:List Expr} {fa:MA} {np cpos pos:Pos} (O:Lp X.K C G4 "ValueError.__new__") (nmC:PySem.W.nsIn X.K mainGlobals x=some (some (.ref C))) (hg:Gl X x) (hc:X.calm=true) (th:Lr X E) (ha:Cj X E (e::es) fa)
 (hdb:(x==("__debug__":Str))=false:=by decide) (he:starEach (e::es) X.env=(false,eval e X.env)::starEach es X.env:=by rfl) (hpl:(backTo cpos (starEach (e::es) X.env)).any (·.1)=false:=by rfl):
 Ex X E (.Raise (some (.Call (.Name x np) (e::es) [] cpos)) none pos) (E3 x fa):=by
 rintro pins s σ H D I ⟨m,ρ,h,hr,er,p⟩
 have hm:X.mg x=some (.ref C):=PySem.W.mg_of I.mod.kin I.mod.glob nmC
 obtain ⟨bm,NN,nm,q,bs,hdct,sn,sub,ab,col,dd,k0,k1,k2,k3,k5,mN,hC,hN,hni,T⟩:=O X.base I.mod.kin
 refine wpAny_Raise_call_subT (C:=C) (nm:=nm) (q:=q) (N:=NN) (bs:=bs) (bm:=bm) (hdct:=hdct) (sn:=sn) (sub:=sub) (ab:=ab) (col:=col) (dd:=dd) (k0:=k0) (k1:=k1) (k2:=k2) (k3:=k3) (k5:=k5)
  PySem.F.excBase_ValueError (mN:=mN) (T.hasType PySem.F.excBase_ValueError.hasBase) (I.ok.hd hc) hpl hni (FC I hg hm ⟨rfl,?_⟩ hdb)
 have hh:=ha cpos pins s σ H (fun vs H1=>vs.length≤sizeLine∧E (CI x) none H1) I ⟨m,ρ,h,hr,er,PostS.bind p fun xs h1 vs m1 H1 _ p1 k1 hr1 r1 q1=>by
  split at q1
  ·rename_i hz
   exact ⟨by rw [←DVs.len r1];exact hz,q1 none m1 H1 (AA _) (.refl _) hr1 (fun f d z=>by cases z)⟩
  ·exact q1.elim⟩
 rw [he] at hh ⊢
 exact Calls.evalArgs_plain (An hh fun us s1 z1_=>by obtain ⟨vs,H1,I1,r,hl,q1⟩:=z1_;exact (⟨rfl,by rw [←r.length];exact hl,I1.bk _ _ hC,hN.keeps I1.bk,T.keeps I1.bk,fun h' a z=>th pins σ H1 s1 h' a C x us I1 z nmC q1⟩))
inductive CZ (K:PySem.W.Frag) (F:List D→HD→Out D) (vs:List V) (H:Hp) (Q:VK) (E:XK):Prop where
 |mk (m:List Addr) (ds:List D) (h:HD) (hr:HR K m h H) (r:DVs K m H ds vs) (p:Post K (rD K) m H E Q (F ds h)):CZ K F vs H Q E
theorem OL {P:Program} {w:World} {K:PySem.W.Frag} {X:Cx}:Em (AL P w K) X E0:=fun _ _ _ _ _ _ _ z2_=>by obtain ⟨_,_,_,_,_,_,_,_,_,_,_,_,q⟩:=z2_;exact (q.elim)
theorem Jf {K:PySem.W.Frag} {n:Nat} {F:List D→HD→Out D} (ar:Ar n F) {vs:List V} {H:Hp} {Q:VK} {E':XK} (h:CZ K F vs H Q E'):vs.length=n:=by
 obtain ⟨m,ds,hd,hr,r,p⟩:=h
 rw [←r.len]
 by_cases e:ds.length=n
 ·exact e
 ·rw [ar ds hd e] at p;exact p.elim
structure CaE (P:Program) (w:World) (K:PySem.W.Frag) (mg:Str→Option Value) (base:Heap) (x:Str) (k:Nat) (F:List D→HD→Out D):Prop where
 ex:∃(f:Addr) (fd:FuncData) (ps:List Str),FnOk P w K mg base (AL P w K) k f fd ps (CZ K F)∧Binds K fd ps []∧mg x=some (.ref f)∧PySem.W.keepIn K (.ref f)=true
theorem W0 {k k':Nat} {F:List D→HD→Out D} {fa:MA} {x:Str} {p pos:Pos} {e:Expr} {es:List Expr} (C:CaE X.prog X.w X.K X.mg X.base x k F) (hr:Room k' X.A) (hx:Em (AL X.prog X.w X.K) X E) (ha:Cj X E (e::es) fa) (hk:k≤k':=by decide) (hg:Gl X x:=by rfl)
 (hdb:(x==("__debug__":Str))=false:=by decide) (he:starEach (e::es) X.env=(false,eval e X.env)::starEach es X.env:=by rfl) (hpl:(backTo pos (starEach es X.env)).any (·.1)=false:=by rfl):
 Ev X E (.Call (.Name x p) (e::es) [] pos) (Ad F fa):=by
 obtain ⟨f,fd,ps,G,hb,hm,hkp⟩:=C.ex
 exact BD (UE (E:=E) G (hr.mono hk) hg hm hkp hb .nil hx ha hdb he hpl) fun σ H Q z3_=>by obtain ⟨m,ρ,hd,hr,er,p⟩:=z3_;exact (⟨m,ρ,hd,hr,er,Post.bind p fun xs h1 vs m1 H1 e1 p1 k1 hr1 r1 q1=>by
  rw [DP]
  exact ⟨m1,xs,h1,hr1,r1,q1⟩⟩)
theorem W1 {P:Program} {w:World} {K:PySem.W.Frag} {mg:Str→Option Value} {base:Heap} {x qual:Str} {st:Stmt} {f:Addr} {fd:FuncData} {N ps:List Str} {k:Nat} {F:List D→HD→Out D} {g:MS} (Fn:Fun K x qual st f fd) (S:CP N ps (defScope st)) (ar:Ar ps.length F)
 (hg:∀ds h,ds.length=ps.length→F ds h=AF N.length g ds h)
 (hbody:∀(cdv:Value) (A:Around) (outer:List Env) (s:Shared) (H:Hp) (E:XK),Room k (A.deeper (envOfC qual (defScope st) s.heap.objs.size f cdv))→B4 (Bv (AL P w K) P w K mg base N qual (defScope st) f cdv A outer s H E) E (defBody st) g):FnOk P w K mg base (AL P w K) (k+1) f fd ps (CZ K F):=by
 obtain ⟨oc,od,kV,doc,pm,an,cdv,ct,osl,rfl,lk,hcd⟩:=Fn.ex
 refine NC lk hcd S (fun vs H Q E h=>Jf ar h) fun A outer s H vs Q E hr h=>?_
 refine ⟨_,hbody cdv A outer s H E hr,?_⟩
 have hl:=Jf ar h
 obtain ⟨m,ds,hd,hr1,r,p⟩:=h
 have hld:ds.length=ps.length:=by rw [r.len];exact hl
 refine ⟨m,ds.map some++List.replicate (N.length - ds.length) none,hd,hr1,ER.start r,?_⟩
 rw [hg ds hd hld] at p
 unfold AF at p
 cases o:g (ds.map some++List.replicate (N.length - ds.length) none) hd with
 |stuck=>rw [o] at p;exact p
 |err C fs h1=>rw [o] at p;exact p
 |ok a h1=>
  rw [o] at p
  obtain ⟨fl,ρ1⟩:=a
  intro m1 H1 p1 k1 hr1
  cases fl with
  |nx=>exact fun σ er=>p .non m1 H1 p1 k1 hr1 (by simp [rD,DV])
  |bk=>exact False.elim p
  |ct=>exact False.elim p
  |rt d=>exact fun v rv=>p v m1 H1 p1 k1 hr1 rv
end
theorem W2 {P:Program} {w:World} {K:PySem.W.Frag} {mg:Str→Option Value} {base:Heap} {N:List Str} {qual:Str} {scope:Scope} {f:Addr} {cd:Value} {A:Around} {outer:List Env} {s:Shared} {H:Hp} {E:XK}:
 PassesOwn (model P w) (Bv (AL P w K) P w K mg base N qual scope f cd A outer s H E).A (Bv (AL P w K) P w K mg base N qual scope f cd A outer s H E).env (Bv (AL P w K) P w K mg base N qual scope f cd A outer s H E).xe:=by
 passes_own
section
variable {X:Cx} {E:XK}
abbrev MO:=Ae→HD→Out (Option Int)
abbrev Jg (X:Cx) (E:XK) (e:Option Expr) (f:MO):Prop:=PO X e (tM X.K (fun _ _ a b=>a=b) E f)
def AE:MO:=fun _ h=>.ok none h
def AC (f:ME):MO:=fun ρ h=>(f ρ h).bind fun x h1=>match x with
 |.int i=>.ok (some i) h1
 |_=>.stuck
theorem OM {e:Option Expr} {t t':TO} (h:PO X e t) (i:∀σ H Q,t' σ H Q→t σ H Q):PO X e t':=fun pins s σ H Q I q=>h pins s σ H Q I (i σ H Q q)
theorem W3:Jg X E none AE:=OM UH fun σ H Q z1_=>by obtain ⟨m,ρ,h,hr,er,p⟩:=z1_;exact (p none m H (AA _) (.refl _) hr rfl)
theorem W4 {e:Expr} {f:ME} (he:Ev X E e f):Jg X E (some e) (AC f):=OM (UI he) fun σ H Q z2_=>by obtain ⟨m,ρ,h,hr,er,p⟩:=z2_;exact (⟨m,ρ,h,hr,er,Post.bind p fun x h1 v m1 H1 eo p1 k1 hr1 r1 q1=>by
 clear eo
 split at q1
 ·rename_i i
  simp only [rD,DV] at r1
  exact ⟨i,r1,q1 (some i) m1 H1 (AA _) (.refl _) hr1 rfl⟩
 ·exact q1.elim⟩)
def Jh (xs:List D) (lo hi:Option Int):List D:=(xs.drop (HT.sIx xs.length 0 lo)).take (HT.sIx xs.length xs.length hi - HT.sIx xs.length 0 lo)
def ON (x:D) (lo hi:Option Int) (h:HD):Out D:=match x with
 |.tup xs=>if HT.sIx xs.length 0 lo=0∧HT.sIx xs.length xs.length hi=xs.length then .stuck else .ok (.tup (Jh xs lo hi)) h
 |_=>.stuck
def OO (f:ME) (lo hi:MO):ME:=fun ρ h=>(f ρ h).bind fun x h1=>(lo ρ h1).bind fun l h2=>(hi ρ h2).bind fun u h3=>ON x l u h3
theorem DVs.cut {K:PySem.W.Frag} {m:List Addr} {H:Hp} {ds:List D} {vs:List V} (r:DVs K m H ds vs) (lo hi:Option Int):DVs K m H (Jh ds lo hi) (KG vs lo hi):=by
 unfold Jh KG
 rw [r.len]
 exact (r.drop _).take _
def OP (o i x y:D) (ρ:Ae) (h:HD):Out (Fl×Ae):=match x,y with
 |.int a,.int b=>FQ o i (.int (a+b)) h (.ok (.nx,ρ) h)
 |_,_=>.stuck
def OQ (o i:D) (h:HD):Out D:=match o,i with
 |.loc l,.int n=>if 0≤n then (match h[l]? with
  |some (.lst ds)=>(match ds[n.toNat]? with
   |some d=>.ok d h
   |none=>.stuck)
  |_=>.stuck) else .stuck
 |_,_=>.stuck
def OR (fo fi fv:ME):MS:=fun ρ h=>(fo ρ h).bind fun o h1=>(fi ρ h1).bind fun i h2=>(OQ o i h2).bind fun x h3=>(fv ρ h3).bind fun y h4=>OP o i x y ρ h4
end
theorem vals_ints:∀{ns:List Int} {its:List Value},Vals (ns.map V.int) its→∃ys:List (Int×Tok),its=ys.map (fun p=>Value.int p.1 p.2)∧ys.map (·.1)=ns
 |[],its,r=>by cases r;exact ⟨[],rfl,rfl⟩
 |n::ns,its,r=>by
  cases r with
  |cons r1 r2=>
   obtain ⟨t,rfl⟩:=r1
   obtain ⟨ys,rfl,e⟩:=vals_ints r2
   exact ⟨(n,t)::ys,rfl,by simp [e]⟩
section
variable {X:Cx}
def Zdj:List Int→Int
 |[]=>0
 |n::ns=>ns.foldl min n
def OT (f:List Int→Int):D→HD→Out D:=fun x h=>match x with
 |.loc l=>match h[l]? with
  |some (.lst ds)=>match AH (ds.map K7) with
   |some ns=>if ns=[] then .stuck else .ok (.int (f ns)) h
   |none=>.stuck
  |_=>.stuck
 |_=>.stuck
end
def Zdk (K:PySem.W.Frag) (t:Addr):It:=⟨fun i H=>∃xs,SqL K H t xs∧i<xs.length,fun i H x H'=>∃p v,H p=none∧x=.ref p∧(∀xs:List V,SqL K H t xs→xs[i]?=some v)∧H'=Ah H p (.tup [.int i,v]),fun i H=>∃xs,SqL K H t xs∧i=xs.length⟩
section
variable {X:Cx} {E:XK}
def OU:List D→HD→Out (List D×AK):=fun ds h=>match ds with
 |[.tup xs]=>.ok (K8 xs,[]) h
 |[.loc l]=>match h[l]? with
  |some (.lst xs)=>.ok (K8 xs,[(l,xs)]) h
  |_=>.stuck
 |_=>.stuck
def OV (fa:MA):MI:=fun ρ h=>(fa ρ h).bind OU
end
section
variable {prog:Program} {w:World} {A:Around} {E:Value→Shared→Prop} {s:Shared} {z TI TO p q:Addr} {f g:List Addr} {n1 n2 k:Nat} {P1 P2:Nat→Value→Prop} {S1 S2:Nat→Heap→Prop} {a b:Value}
end
open AutoSeq1 (wpAny_loadPart')
def ItAt:Bool→Heap→Addr→Addr→Nat→Prop
 |true,h,it,l,i=>h.IsTupleIter it l i
 |false,h,it,l,i=>h.IsListIter it l i
def SqA:Bool→Heap→Addr→Array Value→Prop
 |true,h,l,xs=>h.IsTuple l xs
 |false,h,l,xs=>h.IsList l xs
def W5 (k:Bool) (l:Addr):Obj:={cls:=.type (if k then "tuple_iterator" else "list_iterator"),data:=.fields #[.ref l,.int 0 0]}
theorem ItAt.obj {k:Bool} {h:Heap} {it l:Addr} {i:Nat} (x:ItAt k h it l i):∃o,h.get? it=some o∧∀v,o.data≠.cell v:=by
 cases k
 ·obtain ⟨o,e,c,d⟩:=x
  exact ⟨o,e,fun v z=>by rw [d] at z;cases z⟩
 ·obtain ⟨o,e,c,d⟩:=x
  exact ⟨o,e,fun v z=>by rw [d] at z;cases z⟩
theorem ItAt.at {k:Bool} {h h':Heap} {it l:Addr} {i:Nat} (x:ItAt k h it l i) (f:∀o,h.get? it=some o→h'.get? it=some o):ItAt k h' it l i:=by
 cases k
 ·exact Heap.IsListIter.at x f
 ·exact Heap.IsTupleIter.at x f
section
variable {X:Cx} {pins:List (Addr×Obj)} {σ:L2.St} {H:Hp} {s:Shared}
end
theorem SqA.push {k:Bool} {h:Heap} {l:Addr} {xs:Array Value} (x:SqA k h l xs) (o:Obj):SqA k (h.push o) l xs:=by
 cases k
 ·exact Heap.IsList.push x o
 ·exact Heap.IsTuple.push x o
theorem ItAt.new {k:Bool} {h:Heap} {it l:Addr} (e:h.get? it=some (W5 k l)):ItAt k h it l 0:=by
 cases k
 ·exact ⟨_,e,rfl,rfl⟩
 ·exact ⟨_,e,rfl,rfl⟩
section
variable {X:Cx} {E:XK}
def W6 (xs ys:List D):List D:=List.zipWith (fun a b=>.tup [a,b]) xs ys
def OW:D→HD→Option (List D×AK)
 |.tup xs,_=>some (xs,[])
 |.loc l,h=>match h[l]? with
  |some (.lst xs)=>some (xs,[(l,xs)])
  |_=>none
 |_,_=>none
def OX:List D→HD→Out (List D×AK):=fun ds h=>match ds with
 |[x,y]=>match OW x h,OW y h with
  |some (xs,s1),some (ys,s2)=>.ok (W6 xs ys,s1++s2) h
  |_,_=>.stuck
 |_=>.stuck
def OY (fa:MA):MI:=fun ρ h=>(fa ρ h).bind OX
end
end LS
namespace LS
open PySem PySem.Spec PyProof.Rows L2
section
variable {ρ:Ae} {h:HD} {QI:(List D×AK)→HD→Prop} {Q:D→HD→Prop} {QO:Option Int→HD→Prop} {QS:Fl×Ae→HD→Prop} {f fo fi fv:ME} {lo hi:MO} {fa:MA}
@[simp] theorem Zdl:Wp (OV fa ρ h) QI=Wp (fa ρ h) fun d h1=>Wp (OU d h1) QI:=by unfold OV;rw [Al]
@[simp] theorem Zdm:Wp (OY fa ρ h) QI=Wp (fa ρ h) fun d h1=>Wp (OX d h1) QI:=by unfold OY;rw [Al]
@[simp] theorem Zdn:Wp (OO f lo hi ρ h) Q=Wp (f ρ h) fun x h1=>Wp (lo ρ h1) fun l h2=>Wp (hi ρ h2) fun u h3=>Wp (ON x l u h3) Q:=by unfold OO;simp only [Al]
@[simp] theorem Zdo:Wp (AE ρ h) QO=QO none h:=id rfl
@[simp] theorem Zdp:Wp (AC f ρ h) QO=Wp (f ρ h) fun x h1=>Wp (match x with
  |.int i=>(.ok (some i) h1:Out (Option Int))
  |_=>.stuck) QO:=by unfold AC;rw [Al]<;>rfl
@[simp] theorem Zdq:Wp (OR fo fi fv ρ h) QS=Wp (fo ρ h) fun o h1=>Wp (fi ρ h1) fun i h2=>Wp (OQ o i h2) fun x h3=>Wp (fv ρ h3) fun y h4=>Wp (OP o i x y ρ h4) QS:=by unfold OR;simp only [Al]
theorem Ls {l:Nat} {ds:List D} (e:h[l]?=some (.lst ds)):CD (.loc l) h=.ok (ds,[(l,ds)]) h:=by
 simp only [CD,A7,e,EY]
theorem E4 {l:Nat} {ds:List D} (e:h[l]?=some (.lst ds)):By (.loc l) h=.ok (.int ds.length) h:=by
 simp only [By,A7,e]
theorem OZ {a:D}:∀n:Nat,(List.replicate n [a]).flatten=List.replicate n a
 |0=>rfl
 |n+1=>by rw [Ef,EK,OZ n];rfl
theorem W7 {l n:Nat} {a:D} (e:h[l]?=some (.lst [a])) (hn:n≤1000):CH (.loc l) (.int (n:Nat)) h=Bg (List.replicate n a) h:=by
 have:(-(2^63):Int)≤(n:Int)∧(n:Int)<2^63:=by omega
 simp only [CH,e]
 rw [if_pos this]
 simp [OZ]
end
noncomputable def W8 (cs:List (Option Nat)) (it:MI) (sg:MG) (t:MT) (f:ME):ME:=Ad (Ai Oj) (Ab (Az cs it sg t f) Ac)
noncomputable def W9 (F:List Int→Int) (cs:List (Option Nat)) (it:MI) (sg:MG) (t:MT) (f:ME):ME:=Ad (Ai (OT F)) (Ab (Az cs it sg t f) Ac)
section
variable {α:Type} {cs:List (Option Nat)} {it:MI} {sg:MG} {t:MT} {f:ME} {ρ:Ae} {h:HD} {src:AK} {xs:List α} {φ:α→D} {F:List Int→Int}
@[simp] theorem Zdr:Ad (Ai Oj) (Ab (Az cs it sg t f) Ac) ρ h=W8 cs it sg t f ρ h:=rfl
@[simp] theorem Zds:Ad (Ai (OT F)) (Ab (Az cs it sg t f) Ac) ρ h=W9 F cs it sg t f ρ h:=rfl
end
section
variable {X:Cx} {E:XK}
end
section
variable {X:Cx}
def O0:D→HD→Out D:=fun x h=>match x with
 |.loc l=>match h[l]? with
  |some (.lst ds)=>match AH (ds.map FO) with
   |some bs=>.ok (.bl (bs.any id)) h
   |none=>.stuck
  |_=>.stuck
 |_=>.stuck
end
noncomputable def Xa (cs:List (Option Nat)) (it:MI) (sg:MG) (t:MT) (f:ME):ME:=Ad (Ai O0) (Ab (Az cs it sg t f) Ac)
section
variable {α:Type} {cs:List (Option Nat)} {it:MI} {sg:MG} {t:MT} {f:ME} {ρ:Ae} {h:HD} {src:AK} {xs:List α} {φ:α→D}
@[simp] theorem Zdt:Ad (Ai O0) (Ab (Az cs it sg t f) Ac) ρ h=Xa cs it sg t f ρ h:=rfl
end
end LS
namespace LS
open PySem PySem.Spec PyProof.Rows L2 PySem.W
structure EC (K:Frag) (C:Addr):Prop where
 ga:findIn K (.ref C) "__getattribute__"=some (some (.builtin "BaseException.__getattribute__"))
 gt:findIn K (.ref C) "__getattr__"=some none
 cl:(clsIn K C).isSome=true
 ac:findIn K (.ref C) "__class__"=some (some (.builtin "object.__class__"))
 sg:specialIn K (.builtin "object.__class__") "__get__"=some (some (.builtin "getset_descriptor.__get__"))
 tk:takesIn K (.builtin "object.__class__")=some true
 mo:mroIn K C (.type "object")=some true
 mb:mroIn K C (.type "BaseException")=some true
section
variable {prog:Program} {w:World} {A:Around} {E:Value→Shared→Prop} {s:Shared} {K:Frag} {x C:Addr} {ox:Obj} {od:Option Obj}
def TyAt (x C:Addr) (h:Heap):Prop:=∃o,h.get? x=some o∧o.cls=.ref C
theorem TyAt.type {M:Model} {h:Heap} (t:TyAt x C h):Looks M h (typeOf (.ref x)) (.ref C):=by
 obtain ⟨o,h1,h2⟩:=t
 exact h2 ▸ (Looks.ld h1).andThen .now
theorem Xb {M:Model} {h:Heap} (c:EC K C) (X:K.In h):Looks M h (Builtin.ObjectAttr.find (.ref x) (.ref C) "__class__") (.bind (.builtin "getset_descriptor.__get__") (.builtin "object.__class__")):=by
 have L1:=looks_findIn (M:=M) X c.ac
 have L2:Looks M h (Builtin.ObjectAttr.getOf (some (.builtin "object.__class__"))) (some (.builtin "getset_descriptor.__get__")):=looks_specialIn X c.sg
 have L3:=looks_takesIn (M:=M) X c.tk
 refine L1.andThen (L2.andThen ?_)
 exact (show Looks M h (Builtin.ObjectAttr.dataDescriptor? (some (.builtin "object.__class__")) (some (.builtin "getset_descriptor.__get__"))) (some (.builtin "getset_descriptor.__get__",.builtin "object.__class__")) from L3.andThen .now).andThen (Looks.tag .now)
theorem Xd {R:Result→Shared→Prop} {tp:Value} (X:K.In s.heap) (I:TyAt x C s.heap) (hm:mroIn K C (.type "object")=some true)
 (h:R (.ok (.ret (.ref C))) s):codeAny (model prog w) A (.call (.builtin "getset_descriptor.__get__") ⟨[.builtin "object.__class__",.ref x,tp],[]⟩) R s:=by
 obtain ⟨hh,g,dr,t,os⟩:=s
 have L0:=I.type (M:=model prog w)
 have L1:=looks_mroIn (M:=model prog w) X hm
 refine codeAny_call_builtin KF.slot_gs.plain KF.entry_gs (KF.slot_gs.check _ _ _ _ _ _ _ _ KF.type_class (KF.args_gs _ _ _) ?_)
 unfold Builtin.«getset_descriptor.__get__» Builtin.Getset_descriptor.descrGet
 rw [dga_obj]
 refine wpAny_bind (wpAny_pure ?_)
 unfold Builtin.Getset_descriptor.descrGetter Builtin.Getset_descriptor.descrCheckInstance Builtin.Getset_descriptor.descrNameAndClass isInstance
 simp only [KF.owner_class]
 repeat lk
 refine ⟨Code.quiet_builtin _ (by decide +kernel),codeAny_builtin KF.entry_class ?_⟩
 unfold Builtin.«object.__class__» shownTypeOf
 repeat lk
 exact h
theorem Xe {Q:Option Value→Shared→Prop} (c:EC K C) (X:K.In s.heap) (I:TyAt x C s.heap) (h:Q (some (.ref C)) {s with toks:=s.toks+1}):wpAny (model prog w) A (getAttr? (.ref x) "__class__") Q E s:=by
 obtain ⟨hh,g,d,t,os⟩:=s
 have L0:=I.type (M:=model prog w)
 have L1:=looks_findIn (M:=model prog w) X c.ga
 have L2:=looks_findIn (M:=model prog w) X c.gt
 have LF:=Xb (M:=model prog w) (x:=x) c X
 have LB:=looks_mroIn (M:=model prog w) X c.mb
 have ha:=F.args_bexc_ga (.ref x) (.str "__class__" t)
 have hk:builtinKind "BaseException.__getattribute__"=some .slot:=by decide +kernel
 have hsplit:splitId "BaseException.__getattribute__"=some ("BaseException","__getattribute__"):=by decide +kernel
 have hx2:(Value.builtin "BaseException.__getattribute__"==Value.builtin "object.__getattribute__")=false:=by decide +kernel
 have hx1:(onTheHeap (Value.ref C)&&Value.builtin "BaseException.__getattribute__"==Value.builtin "object.__getattribute__")=false:=by rw [hx2];rfl
 unfold getAttr? getAttrBy? getAttrBy
 refine wpAny_bind (wpAny_mkText (wpAny_bind (wpAny_attempt (wpAny_holding (wpAny_bind (L0.at (wpAny_bind (L1.at ?_))))))))
 dsimp only
 rw [hx1]
 simp only [Bc,if_false]
 unfold getAttrByItsOwn hookBefore
 refine wpAny_bind ?_
 show wpAny _ _ (typeLookup (.ref C) "__getattr__") _ _ _
 refine L2.at ?_
 refine wpAny_bind (wpAny_attempt (wpAny_holding ?_))
 unfold callGetattribute boundAndCalled
 simp only [Bool.false_and,Bc,if_false]
 rw [PySem.F.attr_ValueError.ga.bind (.ref x)]
 refine wpAny_bind (wpAny_pure (wpAny_call (codeAny_call_builtin PySem.F.attr_ValueError.ga.plain F.entry_bexc_ga ?_)))
 simp only [checkBuiltinCall,hk,hsplit]
 refine wpAny_bind ?_
 unfold isInstance
 refine wpAny_bind (L0.at (LB.at ?_))
 wp_step
 unfold Builtin.«object.__getattribute__»
 repeat lk
 refine wpAny_run (Xd (s:=⟨hh,g,d,t+1,os⟩) X I c.mo ?_) (by intro z;cases z)
 refine wpAny_pure (wpAny_pure ?_)
 exact handed_on rfl (wpAny_pure h)
theorem Xf (c:EC K C):KitX K (.ref x) (.ref C) (TyAt x C) where
 ty:=fun _ _ _ I=>I.type
 it:=fun _ _ X _=>by
  obtain ⟨cdD,hcD⟩:=qbP.mp c.cl
  unfold clsIn at hcD
  split at hcD
  ·rename_i c' d' cd' sl' ho
   intro A' Q' E' s' k q
   unfold isType loadHead
   exact wpAny_bind (wpAny_loadPart (k _ _ (X _ _ ho)) (wpAny_pure q))
  ·cases hcD
 ne:=fun h tp dd its n sl X htp=>by
  obtain ⟨cdD,hcD⟩:=qbP.mp c.cl
  refine Bool.eq_false_iff.mpr fun q=>?_
  have e:C=tp:=Value.ref.inj (beq_iff_eq.mp q)
  subst e
  unfold clsIn at hcD
  split at hcD
  ·rename_i c' d' cd' sl' ho
   have z:=(X _ _ ho).symm.trans htp
   cases z
  ·cases hcD
 ca:=fun X I k=>Xe c X I k
end
def excNames:List Str:=["NoBoard","NoLine","NoSwitching","NoNumber","Unlike","NoNet","NoPlace","NoText","NoRow","TooMany","SwitchError"]
def Br (n n':Str):Bool:=n==n'||n'=="SwitchError"
def Lu (K:Frag) (C:Addr):Bool:=
 findIn K (.ref C) "__getattribute__"==some (some (.builtin "BaseException.__getattribute__"))&&findIn K (.ref C) "__getattr__"==some none&&(clsIn K C).isSome&&
 findIn K (.ref C) "__class__"==some (some (.builtin "object.__class__"))&&specialIn K (.builtin "object.__class__") "__get__"==some (some (.builtin "getset_descriptor.__get__"))&&
 takesIn K (.builtin "object.__class__")==some true&&mroIn K C (.type "object")==some true&&mroIn K C (.type "BaseException")==some true
theorem Xg {K:Frag} {C:Addr} (h:Lu K C=true):EC K C:=by
 unfold Lu at h
 simp only [Bf,beq_iff_eq] at h
 obtain ⟨⟨⟨⟨⟨⟨⟨h1,h2⟩,h3⟩,h4⟩,h5⟩,h6⟩,h7⟩,h8⟩:=h
 exact ⟨h1,h2,h3,h4,h5,h6,h7,h8⟩
def DA (K:Frag) (n:Str):Option Addr:=match nsIn K mainGlobals n with
 |some (some (.ref C))=>some C
 |_=>none
theorem O1 {K:Frag} {n:Str} {C:Addr} (h:DA K n=some C):nsIn K mainGlobals n=some (some (.ref C)):=by
 unfold DA at h
 split at h
 ·rename_i e;cases h;exact e
 ·cases h
def Lw (K:Frag) (n:Str) (C S:Addr):Bool:=
 Lu K C&&kitOne K (.ref C) (.type "ValueError")==some true&&(n=="TooMany"||Lq K C G4 "ValueError.__new__")&&exmOne K (.ref C) (.ref S)==some true&&
  excNames.all fun n'=>match DA K n' with
   |some C'=>kitOne K (.ref C) (.ref C')==some (Br n n')
   |none=>false
def etOk (K:Frag):Bool:=match DA K "SwitchError" with
 |some S=>excNames.all fun n=>match DA K n with
  |some C=>Lw K n C S
  |none=>false
 |none=>false
structure ET (K:Frag) (n:Str) (C:Addr):Prop where
 ec:EC K C
 ve:kitOne K (.ref C) (.type "ValueError")=some true
 at_:n≠"TooMany"→Lp K C G4 "ValueError.__new__"
 sw:∀S,nsIn K mainGlobals "SwitchError"=some (some (.ref S))→exmOne K (.ref C) (.ref S)=some true
 sub:∀n' C',n'∈excNames→nsIn K mainGlobals n'=some (some (.ref C'))→kitOne K (.ref C) (.ref C')=some (Br n n')
theorem Ji {K:Frag} (h:etOk K=true) {n:Str} {C:Addr} (hn:n∈excNames) (hC:nsIn K mainGlobals n=some (some (.ref C))):ET K n C:=by
 unfold etOk at h
 split at h
 ·rename_i S hS
  have h1:=qaM.mp h n hn
  have e:DA K n=some C:=by unfold DA;rw [hC]
  rw [e] at h1
  have h1:Lw K n C S=true:=h1
  unfold Lw at h1
  simp only [Bf,beq_iff_eq,FA] at h1
  obtain ⟨⟨⟨⟨a1,a2⟩,a3⟩,a4⟩,a5⟩:=h1
  refine ⟨Xg a1,a2,fun z=>WX (a3.resolve_left z),fun S' hS'=>?_,fun n' C' hn' hC'=>?_⟩
  ·have:=O1 hS
   rw [this] at hS'
   cases hS'
   exact a4
  ·have z:=qaM.mp a5 n' hn'
   have e':DA K n'=some C':=by unfold DA;rw [hC']
   rw [e'] at z
   exact beq_iff_eq.mp z
 ·cases h
section
variable {X:Cx} {E:XK}
theorem O2 {x:Str} {a:Addr} {pos:Pos} (hg:Gl X x) (hn:nsIn X.K mainGlobals x=some (some (.ref a))) (hd:(x==("__debug__":Str))=false:=by decide):Ev X E (.Name x pos) (mC (.glo x)):=
 fun pins s σ H Q I z1_=>by obtain ⟨m,ρ,h,hr,er,p⟩:=z1_;exact (FC I hg (mg_of I.mod.kin I.mod.glob hn) ⟨.ref a,H,I,rfl,p (.ref a) m H (AA _) (.refl _) hr (by simp only [rD,DV];exact ⟨a,rfl,hn⟩)⟩ hd)
def Co {α:Type}:Out α→Prop
 |.err _ _ _=>False
 |_=>True
theorem Post.noE {α β:Type} {K:Frag} {R:List Addr→Hp→α→β→Prop} {m:List Addr} {H:Hp} {E E':XK} {Q:β→Hp→Prop} {o:Out α} (n:Co o) (h:Post K R m H E Q o):Post K R m H E' Q o:=by
 cases o with
 |ok a h1=>exact h
 |err C fs h1=>exact False.elim n
 |stuck=>exact h
theorem O3 {f:Value} {F:List D→HD→Out D} (hF:∀ds h,Co (F ds h))
 (hc:∀(pins:List (Addr×Obj)) (s:Shared) (σ:L2.St) (H:Hp) (m:List Addr) (h:HD) (ds:List D) (vs:List V) (us:List Value) (Q:VK),Inv X pins σ H s→HR X.K m h H→DVs X.K m H ds vs→Vals vs us→Post X.K (rD X.K) m H E0 Q (F ds h)→
  wpAny (model X.prog X.w) X.A (call f us) (EP X pins σ Q) X.xe s):B9 X f F:=
 ⟨fun vs H Q=>∃m h ds,HR X.K m h H∧DVs X.K m H ds vs∧Post X.K (rD X.K) m H E0 Q (F ds h),fun pins s σ H vs us Q I r z2_=>by obtain ⟨m,h,ds,hr,rd,q⟩:=z2_;exact (hc pins s σ H m h ds vs us Q I hr rd r q),fun m H h E ds vs Q hr rd q=>⟨m,h,ds,hr,rd,Post.noE (hF ds h) q⟩⟩
def Aw:D→D→HD→Out D:=fun x y h=>match x with
 |.exc n _=>(match y with
  |.glo n'=>if n∈excNames∧n'∈excNames then .ok (.bl (Br n n')) h else .stuck
  |.ty T=>if n∈excNames∧T="ValueError" then .ok (.bl true) h else .stuck
  |_=>.stuck)
 |.edic=>(match y with
  |.ty T=>(match IJ "dict" T with
   |some b=>.ok (.bl b) h
   |none=>.stuck)
  |_=>.stuck)
 |_=>Bk x y h
theorem Xh (pins:List (Addr×Obj)) (s:Shared) (σ:L2.St) (H:Hp) (m:List Addr) (h:HD) (x y:D) (v v':V) (u u':Value) (Q:VK) (I:Inv X pins σ H s) (hr:HR X.K m h H) (rx:DV X.K m H x v) (ry:DV X.K m H y v') (r:RelV v u) (r':RelV v' u')
 (q:Post X.K (rD X.K) m H E0 Q (Bk x y h)):wpAny (model X.prog X.w) X.A (call (.builtin "isinstance") [u,u']) (EP X pins σ Q) X.xe s:=by
 unfold Bk at q
 split at q
 ·rename_i T t et
  split at q
  ·rename_i b eb
   simp only [DV] at ry
   subst ry
   cases (show u'=Value.type T from r')
   exact Uw I r (Wl hr rx et) (Oi eb) fun tk=>⟨.bl b,H,I.tok _,rfl,AN hr q (by simp [DV])⟩
  ·exact q.elim
 ·exact q.elim
theorem Xi (et:etOk X.K=true):B9 X (.builtin "isinstance") (AY Aw):=by
 refine O3 (fun ds h=>?_) fun pins s σ H m h ds vs us Q I hr rd r q=>IC rd q fun x y v v' ev rx ry q=>?_
 ·unfold AY Aw Bk
  repeat' split
  all_goals trivial
 ·subst ev
  obtain ⟨u,u',rfl,r1,r2⟩:=Ia r
  unfold Aw at q
  split at q
  ·rename_i n fs
   simp only [DV] at rx
   obtain ⟨a,C,da,rfl,hC,ha,_⟩:=rx
   cases (show u=Value.ref a from r1)
   obtain ⟨⟨o,ws,ho,hcl,hdi,hdat⟩,_⟩:=(show ObjOk X.prog X.w H s.heap a (.ext (En C da a)) from I.hok a _ ha)
   have key:∀(c:Value) (b:Bool),EC X.K C→kitOne X.K (.ref C) c=some b→Q (.bl b) H→wpAny (model X.prog X.w) X.A (call (.builtin "isinstance") [.ref a,c]) (EP X pins σ Q) X.xe s:=by
    intro c b ec e q
    exact kia_one (Xf ec) I.kIn ⟨o,ho,hcl⟩ e (fun z=>nomatch z) fun tk=>⟨.bl b,H,I.tok _,rfl,q⟩
   split at q
   ·rename_i n'
    split at q
    ·rename_i hn
     simp only [DV] at ry
     obtain ⟨C',rfl,hC'⟩:=ry
     cases (show u'=Value.ref C' from r2)
     have t:=Ji et hn.1 hC
     exact key _ _ t.ec (t.sub n' C' hn.2 hC') (AN hr q (by simp [DV]))
    ·exact q.elim
   ·rename_i T
    split at q
    ·rename_i hn
     simp only [DV] at ry
     subst ry
     cases (show u'=Value.type T from r2)
     obtain ⟨hn,rfl⟩:=hn
     have t:=Ji et hn hC
     exact key _ _ t.ec t.ve (AN hr q (by simp [DV]))
    ·exact q.elim
   ·exact q.elim
  ·split at q
   ·rename_i T
    split at q
    ·rename_i b eb
     simp only [DV] at rx ry
     obtain ⟨a,rfl,ha⟩:=rx
     subst ry
     cases (show u=Value.ref a from r1)
     cases (show u'=Value.type T from r2)
     obtain ⟨⟨_,o,ep,ho,hx,hd⟩,_⟩:=(show ObjOk X.prog X.w H s.heap a (.ext (KP a)) from I.hok a _ ha)
     exact kia_one kitx_dict I.kIn ⟨o,ho,hx.1⟩ (Oi eb) (fun z=>nomatch z) fun tk=>⟨.bl b,H,I.tok _,rfl,AN hr q (by simp [DV])⟩
    ·exact q.elim
   ·exact q.elim
  ·exact Xh pins s σ H m h x y v v' u u' Q I hr rx ry r1 r2 q
end
section
variable {X:Cx} {E:XK}
def Ba (chk:D→HD→Out D) (op:D→D→HD→Out D) (f g:ME):ME:=fun ρ h=>((f ρ h).bind chk).bind fun x h1=>(g ρ h1).bind fun y h2=>op x y h2
def O4 (X:Cx) (T:String) (x:V) (H:Hp):Prop:=∀(pins:List (Addr×Obj)) (σ:L2.St) (s:Shared) (u:Value),Inv X pins σ H s→RelV x u→s.TypeIs u T∧∀a,u=.ref a→∃ob,s.heap.get? a=some ob∧ob.dict=none
def Xj (X:Cx) (T:String) (r:V→List V→Hp→VK→Prop) (to:TE) (t:TA):TE:=fun σ H Q=>to σ H fun x H1=>O4 X T x H1∧t σ H1 fun xs H2=>r x xs H2 Q
theorem Xk {o e:Expr} {es:List Expr} {to:TE} {t:TA} {name:Str} {apos cpos:Pos} {T id:String} {r:V→List V→Hp→VK→Prop} (pa:PlainAttrs T) (slot:Slot T name id) (hty:typeOf (.builtin id)=pure (.type "method_descriptor")) (hm:KJ X id r) (ho:PE X o to) (ha:PA X (e::es) t)
 (hbase:attributeBase o name X.env (eval o X.env)=eval o X.env:=by rfl)
 (hfew:((backTo cpos (starEach (e::es) X.env)).all (fun x=>!x.1)&&(backToKw cpos (keywordEach [] X.env)).all (fun x=>x.1.isSome)
  &&decide ((e::es).length+([]:List Keyword).length+(if ([]:List Keyword).isEmpty then 0 else 1)<30))=true:=by rfl)
 (hline:(apos.endLine==cpos.line)=true:=by rfl) (hs:starEach (e::es) X.env=(false,eval e X.env)::starEach es X.env:=by rfl) (hplain:(backTo cpos (starEach es X.env)).any (·.1)=false:=by rfl):
 PE X (.Call (.Attribute o name apos) (e::es) [] cpos) (Xj X T r to t):=by
 intro pins s σ H Q I h
 refine wpAny_Call_method_late hbase hfew hline rfl (An (ho pins s σ H _ I h) fun v s1 z1_=>?_)
 obtain ⟨x,H1,I1,r1,ty,q1⟩:=z1_
 obtain ⟨h1,h2⟩:=ty pins σ s1 v I1 r1
 refine ⟨T,id,pa,slot,hty,h1,h2,?_⟩
 have hA:=ha cpos pins s1 σ H1 _ I1 q1
 rw [hs] at hA ⊢
 refine Calls.callWith_builtin (by show (false||(backTo cpos (starEach es X.env)).any (·.1))=false;rw [hplain]<;>rfl) (Calls.evalArgs_plain ?_)
 exact An hA fun us s2 z2_=>by obtain ⟨vs,H2,I2,r2,q2⟩:=z2_;exact (hm pins s2 σ H2 x vs v us Q I2 r1 r2 q2)
structure Lx (X:Cx) (T:String) (chk:D→HD→Out D):Prop where
 two:∀x h,chk x h=.ok x h∨chk x h=.stuck
 ty:∀m H h x v,HR X.K m h H→DV X.K m H x v→chk x h=.ok x h→O4 X T v H
def DB (X:Cx) (id:String) (op:D→D→HD→Out D):Prop:=
 ∀(pins:List (Addr×Obj)) (s:Shared) (σ:L2.St) (H:Hp) (m:List Addr) (h:HD) (x y:D) (v yv:V) (u uy:Value) (Q:VK),Inv X pins σ H s→HR X.K m h H→DV X.K m H x v→DV X.K m H y yv→RelV v u→RelV yv uy→Post X.K (rD X.K) m H E0 Q (op x y h)→
  wpAny (model X.prog X.w) X.A (call (.builtin id) [u,uy]) (EP X pins σ Q) X.xe s
theorem EB {o e:Expr} {f g:ME} {name:Str} {T id:String} {chk:D→HD→Out D} {op:D→D→HD→Out D} {apos cpos:Pos} (pa:PlainAttrs T) (slot:Slot T name id) (hty:typeOf (.builtin id)=pure (.type "method_descriptor"))
 (hc:Lx X T chk) (hn:∀x y h,Co (op x y h)) (hm:DB X id op) (ho:Ev X E o f) (he:Ev X E e g)
 (hbase:attributeBase o name X.env (eval o X.env)=eval o X.env:=by rfl)
 (hfew:((backTo cpos (starEach [e] X.env)).all (fun x=>!x.1)&&(backToKw cpos (keywordEach [] X.env)).all (fun x=>x.1.isSome)
  &&decide ([e].length+([]:List Keyword).length+(if ([]:List Keyword).isEmpty then 0 else 1)<30))=true:=by rfl)
 (hline:(apos.endLine==cpos.line)=true:=by rfl) (hs:starEach [e] X.env=(false,eval e X.env)::starEach [] X.env:=by rfl) (hplain:(backTo cpos (starEach [] X.env)).any (·.1)=false:=by rfl):
 Ev X E (.Call (.Attribute o name apos) [e] [] cpos) (Ba chk op f g):=by
 have hr:KJ X id (fun v vs H Q=>∃m h x y yv,vs=[yv]∧HR X.K m h H∧DV X.K m H x v∧DV X.K m H y yv∧Post X.K (rD X.K) m H E0 Q (op x y h)):=by
  rintro pins s σ H v vs u us Q I r rs ⟨m,h,x,y,yv,ev,hr,rx,ry,q⟩
  subst ev
  obtain ⟨uy,rfl,r2⟩:=Cy rs
  exact hm pins s σ H m h x y v yv u uy Q I hr rx ry r r2 q
 refine BD (Xk pa slot hty hr ho (Iu he Ir hs) hbase hfew hline hs hplain) fun σ H Q z3_=>?_
 obtain ⟨m,ρ,h,hr,er,p⟩:=z3_
 refine ⟨m,ρ,h,hr,er,?_⟩
 unfold Ba at p
 rw [Out.bind_assoc] at p
 refine Post.bind p fun x h1 v m1 H1 eo p1 k1 hr1 r1 q1=>?_
 clear eo
 rcases hc.two x h1 with ec |ec
 ·rw [ec] at q1
  simp only [Out.bind_ok] at q1
  refine ⟨hc.ty m1 H1 h1 x v hr1 r1 ec,m1,ρ,h1,hr1,er.keep p1 k1,?_⟩
  have q2:Post X.K (rD X.K) m1 H1 E Q ((Ab g Ac ρ h1).bind fun ys h2=>match ys with
   |[y]=>op x y h2
   |_=>.stuck):=by
   unfold Ab Ac
   rw [Out.bind_assoc]
   exact q1
  refine Post.bind q2 fun ys h2 vs m2 H2 eo p2 k2 hr2 r2 q3=>?_
  clear eo
  split at q3
  ·rename_i y
   simp only [FH,DVs] at r2
   obtain ⟨yv,w,rfl,ry,rfl⟩:=r2
   exact ⟨m2,h2,x,y,yv,rfl,hr2,DV.keep p2 k2 r1,ry,Post.noE (hn x y h2) q3⟩
  ·exact q3.elim
 ·rw [ec] at q1
  exact q1.elim
theorem Ly:Lx X "list" BG where
 two:=fun x h=>by
  unfold BG
  split
  ·split
   ·exact .inl rfl
   ·exact .inr rfl
  ·exact .inr rfl
 ty:=fun m H h x v hr r e=>by
  unfold BG at e
  split at e
  ·rename_i l
   split at e
   ·rename_i ds el
    simp only [DV] at r
    obtain ⟨a,rfl,ha⟩:=r
    obtain ⟨ws,hv,dv⟩:=hr.cells l _ a el ha
    exact fun pins σ s u I ru=>KM I ru (.inl ⟨rfl,ws,SqL.of hv⟩)
   ·cases e
  ·cases e
def FW (x:V) (xs:List V):Nat:=xs.countP fun y=>Dl y x
theorem O5 {x:V}:∀{xs:List V} {us:List Value},Vals xs us→xs.all CQ=true→us.countP (Ci x)=FW x xs
 |_,_,.nil,_=>rfl
 |y::xs,u::us,.cons r t,f=>by
  rw [List.all_cons,Bf] at f
  unfold FW
  rw [List.countP_cons,List.countP_cons,Ig r f.1,O5 t f.2]
  rfl
def FX:D→D→HD→Out D:=fun x y h=>match A7 x h with
 |none=>.stuck
 |some ds=>match Ck y,AH (ds.map Ck) with
  |some v,some vs=>.ok (.int (FW v vs)) h
  |_,_=>.stuck
theorem Xl (x y:D) (h:HD):Co (FX x y h):=by
 unfold FX
 repeat' split
 all_goals trivial
def E5:D→D→HD→Out D:=fun x y h=>(BG x h).bind fun _ _=>FX x y h
theorem Xm:DB X "list.count" E5:=by
 intro pins s σ H m h x y v yv u uy Q I hr rx ry r r2 q
 unfold E5 at q
 rcases (Ly (X:=X)).two x h with ec |ec
 ·rw [ec] at q
  simp only [Out.bind_ok] at q
  unfold BG at ec
  split at ec
  ·rename_i l
   split at ec
   ·rename_i ds el
    unfold FX A7 at q
    simp only [el] at q
    split at q
    ·rename_i w ws e1 e2
     simp only [DV] at rx
     obtain ⟨a,rfl,ha⟩:=rx
     cases (show u=Value.ref a from r)
     obtain ⟨vs,hv,dv⟩:=hr.cells l _ a el ha
     obtain ⟨h1,h2⟩:=IA ry e1
     obtain ⟨h3,h4⟩:=IB dv e2
     subst h1 h3
     obtain ⟨z,its,n,rr,hl,e⟩:=I.lstM hv
     refine call_meets F.slot_list_count ⟨_,e,rfl⟩ F.entry_list_count (F.args_list_count_2 _ _) (PySem.SeqAt.list_countAt a its.toArray n none #[] uy (Ci yv)) ⟨e,fun w hw=>GP r2 h2 rr h4 w (by simpa using hw),?_⟩
     refine ⟨.int _,H,I.tok _,⟨_,rfl⟩,?_⟩
     rw [show (its.toArray.toList.countP (Ci yv))=FW yv vs by rw [←O5 rr h4]]
     exact AN hr q (by simp [DV])
    ·exact q.elim
   ·cases ec
  ·cases ec
 ·rw [ec] at q;exact q.elim
def Jj (x:V) (xs:List V):Option Nat:=xs.findIdx? fun y=>Dl y x
def E6:D→D→HD→Out D:=fun x y h=>match x with
 |.loc l=>(match h[l]? with
  |some (.lst ds)=>(match Ck y,AH (ds.map Ck) with
   |some v,some vs=>(match Jj v vs with
    |some j=>.ok (.int j) h
    |none=>.stuck)
   |_,_=>.stuck)
  |_=>.stuck)
 |_=>.stuck
theorem Xn (x y:D) (h:HD):Co (E6 x y h):=by
 unfold E6
 repeat' split
 all_goals trivial
theorem Xo (x y:D) (h:HD):Co (E5 x y h):=by
 unfold E5
 rcases (show BG x h=.ok x h∨BG x h=.stuck by
  unfold BG
  split
  ·split
   ·exact .inl rfl
   ·exact .inr rfl
  ·exact .inr rfl) with e |e
 ·rw [e];exact Xl x y h
 ·rw [e];trivial
theorem O6 {xs:List V} {us:List Value} (r:Vals xs us) {x:V} (f:xs.all CQ=true) {j:Nat} (hj:j<us.length):Ci x us[j]=Dl (xs[j]'(by rw [r.length];exact hj)) x:=by
 have hx:j<xs.length:=by rw [r.length];exact hj
 obtain ⟨u,e,ru⟩:=r.get (Bi hx)
 rw [Bi hj] at e
 cases e
 exact Ig ru (qaM.mp f _ (Fy hx))
theorem Xp:DB X "list.index" E6:=by
 intro pins s σ H m h x y v yv u uy Q I hr rx ry r r2 q
 unfold E6 at q
 split at q
 ·rename_i l
  split at q
  ·rename_i ds el
   split at q
   ·rename_i w ws e1 e2
    split at q
    ·rename_i j ej
     simp only [DV] at rx
     obtain ⟨a,rfl,ha⟩:=rx
     cases (show u=Value.ref a from r)
     obtain ⟨vs,hv,dv⟩:=hr.cells l _ a el ha
     obtain ⟨h1,h2⟩:=IA ry e1
     obtain ⟨h3,h4⟩:=IB dv e2
     subst h1 h3
     obtain ⟨z,its,n,rr,hl,e⟩:=I.lstM hv
     unfold Jj at ej
     rw [List.findIdx?_eq_some_iff_getElem] at ej
     obtain ⟨hj,hit,hno⟩:=ej
     have hji:j<its.length:=by rw [←hl];exact hj
     have hsl:(j:Int)<2^63 - 1:=by have:=Ek;omega
     refine call_meets F.slot_list_index ⟨_,e,rfl⟩ F.entry_list_index (F.args_list_index_2 _ _) (PySem.SeqAt.list_indexAt a its.toArray n none #[] uy (Ci yv) j (by simpa using hji) hsl ?_ ?_) ⟨e,fun w hw=>GP r2 h2 rr h4 w (by simpa using hw),?_⟩
     ·have:=O6 rr h4 (x:=yv) hji
      simp only [List.getElem_toArray]
      rw [this];exact hit
     ·intro k hk hkj
      have hk':k<its.length:=by simpa using hk
      have:=O6 rr h4 (x:=yv) hk'
      simp only [List.getElem_toArray]
      rw [this]
      simpa using hno k hkj
     ·exact ⟨.int _,H,I.tok _,⟨_,rfl⟩,AN hr q (by simp [DV])⟩
    ·exact q.elim
   ·exact q.elim
  ·exact q.elim
 ·exact q.elim
end
variable {g:Str}
theorem Xq {pos:Pos} {l r:List Value} {cv:Value} (_:TriplesOk l) (e:codeAmong pos l=some cv):codeAmong pos (l++r)=some cv:=by
 rename_i ht
 clear ht
 fun_induction codeAmong pos l with
 |case1 line t col u c rest h=>rw [Du,Du,Du,codeAmong,if_pos h];exact e
 |case2 line t col u c rest h ih=>rw [Du,Du,Du,codeAmong,if_neg h];exact ih e
 |case3=>cases e
theorem O7 {pos p2:Pos} {c cv:Value}:∀{l:List Value},TriplesOk l→codeAmong p2 (l++[rawInt pos.line,rawInt pos.col,c])=some cv→codeAmong p2 l=some cv∨cv=c
 |[],_,e=>by
  simp only [HI,rawInt,codeAmong] at e
  split at e
  ·exact .inr (Option.some.inj e).symm
  ·cases e
 |.int i t::.int j u::c'::l,h,e=>by
  simp only [codeAmong,Du] at e ⊢
  split at e
  ·rename_i z
   rw [if_pos z];exact .inl e
  ·rename_i z
   rw [if_neg z];exact O7 (by simpa [TriplesOk] using h) e
theorem HR.tab {K:Frag} {m:List Addr} {h:HD} {H H':Hp} {P:Addr} {g:Str} {l0:Nat} (r:HR K m h H) (k:Kp H H') (s:∀b,b≠P→H b≠none→H' b=H b) (t:TabIs K g H' P) (tt:TabIs K g H P) (hl0:h[l0]?=some (.tabn g)) (hm0:m[l0]?=some P):HR K m h H':=by
 refine ⟨r.len,r.nd,fun l c a e q=>?_⟩
 have hm:a∈m:=Ee q
 have hn:H a≠none:=r.mem hm
 have:=r.cells l c a e q
 cases c with
 |lst ds=>
  obtain ⟨vs,e1,e2⟩:=this
  have ha:a≠P:=by
   rintro rfl
   obtain ⟨_,ps,z,_⟩:=tt
   rw [z] at e1;cases e1
  exact ⟨vs,by rw [s a ha hn];exact e1,e2.keep (AA _) k⟩
 |ins n fs=>
  obtain ⟨C,dx,fv,e0,e1,e2⟩:=this
  have ha:a≠P:=by
   rintro rfl
   obtain ⟨_,ps,z,_⟩:=tt
   rw [z] at e1;cases e1
  exact ⟨C,dx,fv,e0,by rw [s a ha hn];exact e1,e2.keep (AA _) k⟩
 |tabn g'=>
  by_cases ha:a=P
  ·subst ha
   have hl:l=l0:=by
    obtain ⟨h1,e1⟩:=qa1.mp q
    obtain ⟨h2,e2⟩:=qa1.mp hm0
    exact (List.getElem_inj r.nd).mp (e1.trans e2.symm)
   subst hl
   rw [hl0] at e
   cases e
   exact t
  ·exact TabIs.keep this k (s a ha hn)
 |dic fz kvs=>
  obtain ⟨es,e1,e2⟩:=this
  have ha:a≠P:=by
   rintro rfl
   obtain ⟨_,ps,z,_⟩:=tt
   cases fz with
   |true=>obtain ⟨o,q⟩:=e1;rw [z] at q;cases q
   |false=>exact absurd (z.symm.trans e1) (by intro w;cases w)
  exact ⟨es,e1.same (s a ha hn),e2.keep (AA _) k⟩
structure LamX (g:Str) (X:Cx) (c P:Addr):Prop where
 code:X.env.code=.ref c
 tp:tabP X.K g=some (c,P)
 hd:codeHdIn X.K c P=true
 qual:X.env.qual=NM g
 bm:∃bm o,X.mg "__builtins__"=some (.ref bm)∧bm≠builtinsNs∧X.base.get? bm=some o∧o.cls=.type "module"∧o.dict=some builtinsNs∧o.data=.plain
section
variable {X:Cx} {E:Value→Shared→Prop} {c P:Addr} {pins:List (Addr×Obj)} {σ:L2.St} {H:Hp} {s:Shared}
theorem LamX.builtins (L:LamX g X c P) (I:Inv X pins σ H s) (t:TabIs X.K g H P):s.heap.BuiltinsAt X.mg P:=by
 obtain ⟨bm,o,h1,h2,h3,h4,h5,h6⟩:=L.bm
 obtain ⟨e,n⟩:=I.bs bm o h3
 refine ⟨bm,o,h1,h2,fun z=>?_,fun z=>?_,e,h4,h5,h6⟩
 ·obtain ⟨og,es,ep,e1,e2,_⟩:=I.mod.glob
  rw [z,e1] at h3
  cases h3
  rw [e2] at h6;cases h6
 ·obtain ⟨_,ps,q,_⟩:=t
  rw [z,q] at n;cases n
theorem Xr {params:Arguments} {body:Expr} {scope:Scope} {pos:Pos} {clos:List (Str×Addr)} {Q:Value→Shared→Prop} {A:Around} (L:LamX g X c P) (I:Inv X pins σ H s) (t:TabIs X.K g H P) (hdef:defaultsOf params X.env=([],[])) (hcl:closureFor scope X.env=pure clos)
 (k:∀(f' c':Addr) (ctv pm:Value) (h':Heap) (tk:Nat) (H':Hp),Inv X pins σ H' {s with heap:=h',toks:=tk}→Kp H H'→TabIs X.K g H' P→(∀b,b≠P→H b≠none→H' b=H b)→(∀b o,b≠P→s.heap.get? b=some o→h'.get? b=some o)→s.heap.objs.size≤f'→
  H' f'=none→h'.get? f'=some (kla_obj "<lambda>" (A6 g) params body scope clos pm c' ctv)→(∃ps,H' P=some (.tbl ps)∧codeAmong pos ps.toList=some (.ref c'))→Q (.ref f') {s with heap:=h',toks:=tk}):
 wpAny (model X.prog X.w) A (eval (.Lambda params body scope pos) X.env) Q E s:=by
 have hB:=L.builtins I t
 have hg:s.heap.Ns mainGlobals X.mg:=I.mod.glob.keeps I.bk
 have hCd:CodeHd s.heap c P:=codeHd_of_K I.kIn L.hd
 obtain ⟨ht1,ps,hps,htr,hcs⟩:=id t
 have hP:s.heap.get? P=some (tabObj ps):=I.hok P _ hps
 have hgP:mainGlobals≠P:=fun z=>by
  obtain ⟨og,es,ep,e1,e2,_⟩:=I.mod.glob
  have:=(I.bs _ _ e1).2
  rw [z,hps] at this;cases this
 have hq:X.env.qual++"<lambda>"=(A6 g):=by rw [L.qual];rfl
 refine kla_eval hdef ?_
 rw [hq]
 cases hc:codeAmong pos ps.toList with
 |some cv=>
  obtain ⟨c',rfl,hx⟩:=hcs pos cv hc
  refine kla_makeFunctionHit (mg:=X.mg) hcl I.ok.glob hg L.code hCd hP htr hc hB fun ctv h' tk hk hsz=>?_
  have hk2:∀b o,s.heap.get? b=some o→(h'.push (kla_obj "<lambda>" (A6 g) params body scope clos ((X.mg "__name__").getD .none) c' ctv)).get? b=some o:=fun b o e=>AB _ (hk b o e)
  exact k _ c' ctv _ _ tk H (I.kept hk2) (.refl _) t (fun _ _ _=>rfl) (fun b o _ e=>hk2 b o e) hsz (I.hok.fresh hsz) (AW _ rfl) ⟨ps,hps,hc⟩
 |none=>
  refine kla_makeFunction (mg:=X.mg) hcl I.ok.glob hg L.code hCd hP htr hc hgP hB fun c' ctv h' tk hx hge hlt hrec htb=>?_
  generalize ho:kla_obj "<lambda>" (A6 g) params body scope clos ((X.mg "__name__").getD .none) c' ctv=fo
  have hk2:∀b o,b≠P→s.heap.get? b=some o→(h'.push fo).get? b=some o:=fun b o hb e=>AB _ (hx b o hb e)
  have hPs:P<s.heap.objs.size:=Ax hP
  have hc'P:c'≠P:=FN (AX hPs hge)
  have hc'n:H c'=none:=I.hok.fresh hge
  generalize hps':ps++#[rawInt pos.line,rawInt pos.col,.ref c']=ps' at htb
  have tl:ps'.toList=ps.toList++[rawInt pos.line,rawInt pos.col,.ref c']:=by rw [←hps'];simp
  have hH:∀b,b≠P→H b≠none→Ah (Ah H P (.tbl ps')) c' (.ext (FG (A6 g) c')) b=H b:=fun b hb hn=>by
   have:b≠c':=fun z=>hn (z ▸ hc'n)
   rw [Av this,Av hb]
  have hHP:Ah (Ah H P (.tbl ps')) c' (.ext (FG (A6 g) c')) P=some (.tbl ps'):=by rw [Av (Ne.symm hc'P),B6]
  have kp:Kp H (Ah (Ah H P (.tbl ps')) c' (.ext (FG (A6 g) c'))):=fun b o e i=>by
   have:b≠P:=fun z=>by rw [z,hps] at e;cases e;cases i
   rw [hH b this (by rw [e];simp)];exact e
  have lt':∀b o,s.heap.get? b=some o→b≠c':=fun b o e=>CF (AX (Ax e) hge)
  have un:Un X.fs [] H (Ah (Ah H P (.tbl ps')) c' (.ext (FG (A6 g) c'))) s.heap (h'.push fo):=by
   have neP:∀{b},H b=none→b≠P:=fun {b} n z=>by rw [z,hps] at n;cases n
   refine ⟨fun b o e n _ _=>hk2 b o (neP n) e,fun b o e n _ _=>⟨o.slots,hk2 b o (neP n) e⟩,fun b o e n _=>?_,fun b o e _=>?_,fun b xs e=>?_,fun b o u e=>?_,fun b qs e=>?_⟩
   ·rw [Av (lt' b o e),Av (neP n)];exact n
   ·by_cases hb:b=P
    ·subst hb;exact ⟨_,AB _ htb⟩
    ·exact ⟨o,hk2 b o hb e⟩
   ·rw [hH b (fun z=>by rw [z,hps] at e;cases e) (by rw [e];simp)];exact e
   ·rw [hH b (fun z=>by rw [z,hps] at e;cases e) (by rw [e];simp)];exact e
   ·by_cases hb:b=P
    ·subst hb
     rw [hps] at e;cases e
     exact ⟨_,by rw [hHP,←hps']⟩
    ·exact ⟨#[],by rw [hH b hb (by rw [e];simp),e];simp⟩
  have hok:HOk X.prog X.w (Ah (Ah H P (.tbl ps')) c' (.ext (FG (A6 g) c'))) (h'.push fo):=by
   intro b o e
   by_cases hb:b=c'
   ·subst hb
    rw [B6] at e
    cases e
    have r1:(h'.push fo).CodeRec (.ref b) (A6 g):=hrec.keeps fun b o e=>AB _ e
    refine ⟨r1,?_,fun h1 h2 z1 z2=>?_⟩
    ·obtain ⟨c2,oc,vs,t2,e1,e2,_⟩:=r1
     cases e1
     exact ⟨oc,e2⟩
    ·obtain ⟨c2,oc,vs,t2,e1,e2,e3⟩:=z1
     cases e1
     exact ⟨_,oc,vs,t2,rfl,z2 _ e2,e3⟩
   ·by_cases hbP:b=P
    ·subst hbP
     rw [hHP] at e
     cases e
     exact AB _ htb
    ·rw [Av hb,Av hbP] at e
     refine (I.hok b o e).stay (fun d u hd q=>hk2 d u ?_ q) (fun d q=>?_) fun d xs q=>?_
     ·rcases hd with rfl |hd
      ·exact hbP
      ·exact fun z=>by rw [z,hps] at hd;cases hd
     ·rw [hH d (fun z=>by rw [z,hps] at q;cases q) (by rw [q];simp)];exact q
     ·rw [hH d (fun z=>by rw [z,hps] at q;cases q) (by rw [q];simp)];exact q
  have hsz:s.heap.objs.size≤h'.objs.size:=DR (Nat.lt_of_le_of_lt hge hlt)
  refine k _ c' ctv ((X.mg "__name__").getD .none) _ tk _ (I.un un hok) kp ⟨ht1,ps',hHP,?_,fun p2 cv e=>?_⟩ hH hk2 hsz ?_ (by rw [←ho];exact AW _ rfl) ⟨ps',hHP,?_⟩
  ·rw [tl];exact TriplesOk_snoc _ _ _ _ htr
  ·rw [tl] at e
   rcases O7 htr e with z |z
   ·obtain ⟨c2,z1,z2⟩:=hcs p2 cv z
    exact ⟨c2,z1,kp _ _ z2 rfl⟩
   ·exact ⟨c',z,B6⟩
  ·have n1:h'.objs.size≠c':=FN hlt
   have n2:h'.objs.size≠P:=FN (AX hPs hsz)
   rw [Av n1,Av n2];exact I.hok.fresh hsz
  ·rw [tl];exact codeAmong_snoc _ htr hc
end
end LS
namespace LS
open PySem PySem.Spec PyProof.Rows L2 PySem.W
variable {g:Str}
def DD (g:Str) (P:Program) (w:World) (K:Frag) (mg:Str→Option Value) (base:Heap) (N:List Str) (scope:Scope) (a:Addr) (cd:Value) (cl:List (Str×Addr)) (A:Around) (outer:List Env) (s:Shared) (H:Hp) (E:XK):Cx where
 prog:=P
 w:=w
 K:=K
 mg:=mg
 base:=base
 A:=A.deeper (envX (A6 g) scope s.heap.objs.size a cd cl)
 N:=N
 s₀:=s
 H₀:=H
 env:=envX (A6 g) scope s.heap.objs.size a cd cl
 outer:=outer
 stack:=envX (A6 g) scope s.heap.objs.size a cd cl::outer
 ex:=[]
 calm:=true
 fn:=fun _=>false
 pn:=[]
 xe:=fun e s'=>wpAny (model P w) (A.deeper (envX (A6 g) scope s.heap.objs.size a cd cl)) (leaving (envX (A6 g) scope s.heap.objs.size a cd cl) e) (fun _ s''=>AL P w K outer H s E e s'') (fun e' s''=>AL P w K outer H s E e' s'') s'
theorem Xs {P:Program} {w:World} {K:Frag} {mg:Str→Option Value} {base:Heap} {N:List Str} {scope:Scope} {a:Addr} {cd:Value} {cl:List (Str×Addr)} {A:Around} {outer:List Env} {s:Shared} {H:Hp} {E:XK}:
 Lv (DD g P w K mg base N scope a cd cl A outer s H E) E:=⟨fun _ _ h=>h,rfl,rfl,rfl⟩
theorem O8 {P:Program} {w:World} {K:Frag} {mg:Str→Option Value} {base:Heap} {N:List Str} {scope:Scope} {a:Addr} {cd:Value} {cl:List (Str×Addr)} {A:Around} {outer:List Env} {s:Shared} {H:Hp} {E:XK}:
 Em (AL P w K) (DD g P w K mg base N scope a cd cl A outer s H E) E:=Lo Xs
structure G5 (h:Heap) (H:Hp) (outer:List Env) (N:List Str) (scope:Scope) (cl:List (Str×Addr)) (vs:List V):Prop where
 len:vs.length=N.length
 inj:∀x y c,cl.lookup x=some c→cl.lookup y=some c→x=y
 has:∀x,scope.names.lookup x=some .free→∃c,cl.lookup x=some c
 cell:∀x c,cl.lookup x=some c→(∃v,h.IsCell c v)∧H c=none∧c∉frs outer
 val:∀(i:Nat) (x:Str) (v:V),N[i]?=some x→vs[i]?=some v→scope.names.lookup x=some .free∧∃c u,cl.lookup x=some c∧h.IsCell c (some u)∧RelV v u
structure LamSc (scope:Scope):Prop where
 kind:scope.kind=.function
 co:scope.isCoroutine=false
 gen:scope.isGenerator=false
 only:(scope.names.all fun y=>y.2 != .cell)=true
theorem LamSc.nocell {scope:Scope} (S:LamSc scope):∀x∈scope.names,x.2≠.cell:=fun x hx e=>by
 have:=qaM.mp S.only x hx
 rw [e] at this
 simp at this
section
variable {P:Program} {w:World} {K:Frag} {mg:Str→Option Value} {base:Heap} {N:List Str} {scope:Scope} {a c':Addr} {pm ctv:Value} {params:Arguments} {body:Expr} {cl:List (Str×Addr)} {A:Around} {outer:List Env} {s:Shared} {H:Hp} {E:XK} {vs:List V}
theorem Xu {cd:Value} {h1:Heap} {t1:Nat} (S:LamSc scope) (hd:A.handled=none) (e0:El P w K mg base A outer s H) (C:G5 s.heap H outer N scope cl vs) (ns:h1.Ns s.heap.objs.size (fun _=>none)) (hk:∀b o,s.heap.get? b=some o→h1.get? b=some o):
 Inv (DD g P w K mg base N scope a cd cl A outer s H E) [] (vs.map some) H {s with heap:=h1,toks:=t1}:=by
 have noA:∀b:Addr,b∉(DD g P w K mg base N scope a cd cl A outer s H E).ex:=fun b z=>absurd (show b∈([]:List Addr) from z) (by simp)
 refine ⟨⟨e0.mod,S.kind,rfl,rfl,Am _,C.inj,fun x hx=>?_,fun x c hf=>(by cases hf),fun _=>hd,Around.frames_deeper e0.frames,.inr ⟨rfl,rfl⟩,fun b z=>absurd z (noA b),e0.bs,e0.bsz,fun b _ _=>noA b,fun b z=>absurd z (noA b),e0.funs,e0.frf⟩,
  rfl,e0.bare,Un.kept hk,⟨_,ns,fun i x v e1 e2 _=>?_⟩,fun x c e=>?_,e0.hok.fresh (Am _),fun x c e=>(C.cell x c e).2.1,fun p hp=>absurd (show p∈([]:List (Addr×Obj)) from hp) (by simp),e0.hok.kept hk,?_⟩
 ·have hx':scope.names.lookup x=some .cell∨scope.names.lookup x=some .free:=hx
  rcases hx' with z |z
  ·exact absurd rfl (S.nocell _ (mem_of_lookup z))
  ·exact C.has x z
 ·rw [B0] at e2
  cases ev:vs[i]? with
  |none=>rw [ev] at e2;cases e2
  |some v'=>
   rw [ev] at e2
   cases e2
   obtain ⟨hf,c,u,e3,e4,r⟩:=C.val i x v e1 ev
   exact ⟨u,r,.inr ⟨.inr hf,c,e3,e4.keeps hk⟩⟩
 ·obtain ⟨⟨v,q⟩,_⟩:=C.cell x c e
  exact ⟨v,q.keeps hk⟩
 ·show (vs.map some).length=N.length
  rw [Bo];exact C.len
theorem Xv {k:Nat} {f:ME} {Q:VK} (S:LamSc scope) (hr:Room (k+1) A) (e0:El P w K mg base A outer s H) (C:G5 s.heap H outer N scope cl vs) (ho:s.heap.get? a=some (kla_obj "<lambda>" (A6 g) params body scope cl pm c' ctv)) (hcd:s.heap.CodeRec (.ref c') (A6 g))
 (hbind:bindArgs (kla_fn "<lambda>" (A6 g) params body scope cl pm (.ref c') ctv) ⟨[],[]⟩=pure [])
 (hb:Room k (A.deeper (envX (A6 g) scope s.heap.objs.size a (.ref c') cl))→Ev (DD g P w K mg base N scope a (.ref c') cl A outer s H E) E body f)
 (q:∃m ds h,HR K m h H∧DVs K m H ds vs∧Post K (rD K) m H E Q (f (ds.map some) h)):codeAny (model P w) A (.call (.ref a) ⟨[],[]⟩) (CR (AL P w K) outer P w H s Q E) s:=by
 refine kla_callFunE hr.depth ho rfl S.co S.gen rfl hcd ?_
 rw [hbind]
 have lim:s.heap.NoLimit:=e0.mod.nolimit.keeps fun b o e=>(e0.bs b o e).1
 refine wpAny_pure (wpAny_newFunctionEnv S.nocell (fun y hy=>by cases hy) (fun h₁ hns hsb=>⟨lim.fresh _ hsb,?_⟩) S.kind)
 have hk₁:∀b o,s.heap.get? b=some o→h₁.get? b=some o:=fun b o e=>hsb.extBut b o (Bd (Ax e)) (AB _ e)
 have I:Inv (DD g P w K mg base N scope a (.ref c') cl A outer s H E) [] (vs.map some) H {s with heap:=h₁,toks:=s.toks+0}:=Xu S hr.hd e0 C hns hk₁
 obtain ⟨m,ds,h,hr1,r,p⟩:=q
 have er:ER K m H (ds.map some) (vs.map some):=by
  refine ⟨by simp [r.len],fun i d e=>?_⟩
  rw [B0] at e
  cases ed:ds[i]? with
  |none=>rw [ed] at e;cases e
  |some d'=>
   rw [ed] at e
   cases e
   obtain ⟨v,e1,r1⟩:=r.get ed
   exact ⟨v,by rw [B0,e1];rfl,r1⟩
 refine kla_codeExpr (wpAny_mono (hb (hr.deeper _) [] _ _ H Q I ⟨m,ds.map some,h,hr1,er,p⟩) (fun u s' hs=>?_) fun e s' hs=>hs)
 obtain ⟨v,H',J,rv,qv⟩:=hs
 exact ⟨v,H',J.os,J.bare,J.base,J.hok,rv,qv⟩
end
end LS
namespace LS
open PySem PySem.Spec PyProof.Rows L2 PySem.W
variable {g:Str}
structure RoomM (k:Nat) (A:Around):Prop where
 dp:A.depth+3*k+5<recursionLimit
 un:A.units+16*k+200<cLine
 gd:A.guards=some []
theorem RoomM.deeper {k:Nat} {A:Around} (r:RoomM (k+1) A) (env:Env):RoomM k (A.deeper env):=
 ⟨by have:=r.dp;show A.depth+1+3*k+5<_;omega,by have:=r.un;show A.units+3+16*k+200<_;omega,r.gd⟩
theorem RoomM.units {k:Nat} {A:Around} (r:RoomM k A):A.units+64<cLine:=by have:=r.un;omega
theorem RoomM.mono {j k:Nat} {A:Around} (r:RoomM k A) (h:j≤k):RoomM j A:=⟨by have:=r.dp;omega,by have:=r.un;omega,r.gd⟩
theorem RoomM.of {k:Nat} {A:Around} (r:Room k A) (e:Option Value):RoomM k (A.mark e):=⟨r.dp,r.un,r.gd⟩
def FY (P:Program) (w:World) (K:Frag) (mg:Str→Option Value) (base:Heap) (N:List Str) (qual:Str) (scope:Scope) (f:Addr) (cd:Value) (A:Around) (outer:List Env) (s:Shared) (H:Hp):Cx:=
 {Bv NK P w K mg base N qual scope f cd A outer s H E0 with calm:=false,xe:=fun _ _=>False}
theorem Xw {P:Program} {w:World} {K:Frag} {mg:Str→Option Value} {base:Heap} {N ps:List Str} {qual:Str} {scope:Scope} {f:Addr} {cd:Value} {A:Around} {outer:List Env} {s s1:Shared} {H:Hp} {us:List Value} {vs:List V}
 (S:CP N ps scope) (e0:El P w K mg base A outer s H) (hl:vs.length=ps.length) (r:Vals vs us)
 (x:InCallC s s.heap.objs.size (bindL (envOfC qual scope s.heap.objs.size f cd).kindOf (ps.zip us) fun _=>none) (cellsFrom (s.heap.objs.size+1) scope.names []) (bindC (envOfC qual scope s.heap.objs.size f cd).kindOf (ps.zip us) fun _=>none) s1):
 Inv (FY P w K mg base N qual scope f cd A outer s H) [] (start N vs) H s1:=by
 have hpl:ps.length≤N.length:=by have:=congrArg List.length S.pre;rw [GE] at this;omega
 obtain ⟨h1,tk,rfl,hk⟩:=x.done
 have noA:∀b:Addr,b∉(FY P w K mg base N qual scope f cd A outer s H).ex:=fun b z=>absurd (show b∈([]:List Addr) from z) (by simp)
 refine ⟨⟨e0.mod,S.kind,rfl,rfl,Am _,fun y z c h1 h2=>?_,fun y hy=>?_,fun y c _ h=>?_,fun z=>(nomatch z),Around.frames_deeper e0.frames,.inr ⟨rfl,rfl⟩,fun b z=>absurd z (noA b),e0.bs,e0.bsz,fun b _ _=>noA b,fun b z=>absurd z (noA b),e0.funs,e0.frf⟩,
  rfl,e0.bare,Un.kept hk,⟨_,x.toInCall.ns,fun i y v h1 h2 h3=>?_⟩,fun y c h=>⟨_,x.cell y c h⟩,e0.hok.fresh (Am _),fun y c h=>?_,fun p hp=>absurd (show p∈([]:List (Addr×Obj)) from hp) (by simp),e0.hok.kept hk,?_⟩
 ·exact name_of_addr x.apart (PySem.mem_of_lookup h1) (PySem.mem_of_lookup h2)
 ·have hy:scope.names.lookup y=some .cell∨scope.names.lookup y=some .free:=hy
  rcases hy with hy |hy
  ·exact Ie hy
  ·exact absurd rfl (S.nofree _ (PySem.mem_of_lookup hy))
 ·exact DR (x.above y c (PySem.mem_of_lookup h))
 ·have hi:i<vs.length:=by
   unfold L2.start at h2
   by_cases hi:i<vs.length
   ·exact hi
   ·rw [Gx (by simpa using hi)] at h2
    rw [Km] at h2
    split at h2<;>cases h2
  have ha:vs[i]?=some v:=by
   unfold L2.start at h2
   rw [Dr (by simpa using hi),B0] at h2
   cases e:vs[i]? with
   |none=>rw [e] at h2;cases h2
   |some a=>rw [e] at h2;cases h2;rfl
  obtain ⟨u,hu,rv⟩:=r.get ha
  have hp:ps[i]?=some y:=by
   rw [←S.pre,List.getElem?_take_of_lt (by omega)];exact h1
  have ndP:ps.Nodup:=by rw [←S.pre];exact S.nd.sublist (List.take_sublist _ _)
  refine ⟨u,rv,?_⟩
  rcases S.par y (Ee hp) with k |k
  ·exact .inl ⟨k,KA ndP hp hu k⟩
  ·obtain ⟨c,e⟩:=Ie (n:=s.heap.objs.size+1) k
   refine .inr ⟨.inl k,c,e,?_⟩
   have q:=x.cell y c e
   rw [KB ndP hp hu (by show scope.names.lookup y≠_;rw [k];decide)] at q
   exact q
 ·exact e0.hok.fresh (DR (x.above y c (PySem.mem_of_lookup h)))
 ·unfold L2.start
  show _=N.length
  rw [Cu,Bo,List.length_replicate]
  omega
structure O9 (P:Program) (w:World) (K:Frag) (mg:Str→Option Value) (base:Heap) (k:Nat) (f:Addr) (fd:FuncData) (ps:List Str) (F:List D→HD→Out D):Prop where
 run:∀(A:Around) (outer:List Env) (s:Shared) (H:Hp) (args:Args) (us:List Value) (vs:List V) (Q:VK),RoomM k A→El P w K mg base A outer s H→BindsTo s fd args (ps.zip us)→Vals vs us→Iv K F vs H Q E0→
  codeAny (model P w) A (.call (.ref f) args) (CR NK outer P w H s Q E0) s
theorem Xx {P:Program} {w:World} {K:Frag} {mg:Str→Option Value} {base:Heap} {x qual:Str} {st:Stmt} {f:Addr} {fd:FuncData} {N ps:List Str} {k:Nat} {F:List D→HD→Out D} {g:MS} (Fn:Fun K x qual st f fd) (S:CP N ps (defScope st)) (ar:Ar ps.length F)
 (hg:∀ds h,ds.length=ps.length→F ds h=AF N.length g ds h)
 (hbody:∀(cdv:Value) (A:Around) (outer:List Env) (s:Shared) (H:Hp),RoomM k (A.deeper (envOfC qual (defScope st) s.heap.objs.size f cdv))→B4 (FY P w K mg base N qual (defScope st) f cdv A outer s H) E0 (defBody st) g):O9 P w K mg base (k+1) f fd ps F:=by
 obtain ⟨oc,od,kV,doc,pm,an,cdv,ct,osl,rfl,lk,hcd⟩:=Fn.ex
 refine ⟨fun A outer s H args us vs Q hr e0 hb r hsp=>?_⟩
 have hl:vs.length=ps.length:=ar.len hsp
 have KX:K.In s.heap:=e0.mod.kin.keeps fun b o e=>(e0.bs b o e).1
 have lim:s.heap.NoLimit:=e0.mod.nolimit.keeps fun b o e=>(e0.bs b o e).1
 have hkind:∀y∈ps.zip us,(defScope st).names.lookup y.1=some .local∨((defScope st).names.lookup y.1=some .cell∧((cellsFrom (s.heap.objs.size+1) (defScope st).names []).lookup y.1).isSome=true):=fun z1_ hy=>by
  obtain ⟨n,v⟩:=z1_
  rcases S.par n (HH hy).1 with q |q
  ·exact .inl q
  ·exact .inr ⟨q,PySem.W.cellsFrom_some _ _ _ (.inl q)⟩
 refine codeAny_call_function (by have:=hr.dp;omega) (KX _ _ lk) rfl S.co S.gen rfl (PySem.W.codeRec_of KX hcd) (hb _ _ _ _ ?_)
 refine wpAny_newFunctionEnv_cells S.kind hkind fun env he s1 x=>?_
 subst he
 refine ⟨lim.keeps x.toInCall.keep,codeAny_func ?_⟩
 have I:Inv (FY P w K mg base N qual (defScope st) f cdv A outer s H) [] (start N vs) H s1:=Xw S e0 hl r x
 have Ay:∀{σ':L2.St} {H':Hp} {v:V} {u:Value} {s':Shared},Inv (FY P w K mg base N qual (defScope st) f cdv A outer s H) [] σ' H' s'→RelV v u→Q v H'→CE outer P w H s Q u s':=
  fun {σ' H' v u s'} J rv q=>⟨v,H',J.os,J.bare,J.base,J.hok,rv,q⟩
 have post:FI K E0 g {nx:=fun _ H'=>Q .non H',rt:=Q} (start N vs) H:=by
  obtain ⟨m,ds,hd,hr1,r,p⟩:=hsp
  have hld:ds.length=ps.length:=by rw [r.len];exact hl
  refine ⟨m,ds.map some++List.replicate (N.length - ds.length) none,hd,hr1,ER.start r,?_⟩
  rw [hg ds hd hld] at p
  unfold AF at p
  cases o:g (ds.map some++List.replicate (N.length - ds.length) none) hd with
  |stuck=>rw [o] at p;exact p
  |err C fs h1=>rw [o] at p;exact p
  |ok a h1=>
   rw [o] at p
   obtain ⟨fl,ρ1⟩:=a
   intro m1 H1 p1 k1 hr1
   cases fl with
   |nx=>exact fun σ er=>p .non m1 H1 p1 k1 hr1 (by simp [rD,DV])
   |bk=>exact False.elim p
   |ct=>exact False.elim p
   |rt d=>exact fun v rv=>p v m1 H1 p1 k1 hr1 rv
 refine wpAny_mono (hbody cdv A outer s H (hr.deeper _) [] s1 (start N vs) H _ I post) (fun fl s' hs=>?_) fun e s' hs=>hs.elim
 cases fl with
 |ret u=>
  obtain ⟨v,σ',H',J,rv,q⟩:=hs
  exact Ay J rv q
 |next=>
  obtain ⟨σ',H',J,q⟩:=hs
  exact Ay (v:=V.non) (u:=Value.none) J rfl q
 |brk=>
  obtain ⟨_,_,_,q⟩:=hs
  exact False.elim q
 |cont=>
  obtain ⟨_,_,_,q⟩:=hs
  exact False.elim q
structure CaM (P:Program) (w:World) (K:Frag) (mg:Str→Option Value) (base:Heap) (x:Str) (k:Nat) (F:List D→HD→Out D):Prop where
 ex:∃(f:Addr) (fd:FuncData) (ps:List Str),O9 P w K mg base k f fd ps F∧Binds K fd ps []∧mg x=some (.ref f)∧PySem.W.keepIn K (.ref f)=true∧Ar ps.length F
section
variable {X:Cx} {E:XK}
theorem Xy {k k':Nat} {F:List D→HD→Out D} {fa:MA} {x:Str} {p pos:Pos} {e:Expr} {es:List Expr} (C:CaM X.prog X.w X.K X.mg X.base x k F) (hr:RoomM k' X.A) (ha:Cj X E0 (e::es) fa) (hk:k≤k':=by decide) (hg:Gl X x:=by rfl)
 (hdb:(x==("__debug__":Str))=false:=by decide) (he:starEach (e::es) X.env=(false,eval e X.env)::starEach es X.env:=by rfl) (hpl:(backTo pos (starEach es X.env)).any (·.1)=false:=by rfl):
 Ev X E0 (.Call (.Name x p) (e::es) [] pos) (Ad F fa):=by
 obtain ⟨f,fd,ps,G,hb,hm,hkp,ar⟩:=C.ex
 rintro pins s σ H Q I ⟨m,ρ,hd,hr1,er,pp⟩
 refine wpAny_Call_Name_kw (FC I hg hm ?_ hdb)
 have post:NO X.K E0 fa σ H (fun vs H1=>Iv X.K F vs H1 Q E0):=⟨m,ρ,hd,hr1,er,Post.bind pp fun xs h1 vs m1 H1 e1 p1 k1 hr1 r1 q1=>⟨m1,xs,h1,hr1,r1,q1⟩⟩
 refine PySem.W.callWith_K (h₀:=X.base) I.ok.mod.kin hkp (An (ha pos pins s σ H _ I post) ?_) he hpl
 rintro us s1 ⟨vs,H1,I1,r,q⟩
 refine ⟨I1.kIn,?_⟩
 have hl:us.length=ps.length:=by rw [←r.length];exact ar.len q
 have hb':=hb s1 us I1.kIn (by rw [DP];exact hl)
 rw [DP] at hb'
 refine wpAny_call (codeAny_mono (G.run X.A X.stack s1 H1 ⟨us,[]⟩ us vs Q (hr.mono hk) I1.env0 hb' r q) fun r s' hq=>?_)
 cases r with
 |error e=>exact False.elim hq
 |ok fl=>
  cases fl with
  |ret u=>exact I1.after hq
  |next=>exact False.elim hq
  |brk=>exact False.elim hq
  |cont=>exact False.elim hq
end
end LS
namespace LS
open PySem PySem.Spec PyProof.Rows L2 PySem.W
variable {g:Str}
theorem Pa {P:Program} {w:World} {fs:List Addr} {H H':Hp} {h0 h h':Heap} {a T:Addr} {C a0:Value} (B:Un fs [] H H' h0 h) (hok:HOk P w H' h) (na:h0.get? a=none) (nT:h0.get? T=none) (ha:H' a=none) (hT:H' T=none)
 (frNone:∀b∈fs,H' b=none) (noFields:∀b∈fs,∃o,h.get? b=some o∧∀vs,o.data≠.fields vs) (stay:(blank (fun b=>b=a∨b=T∨b∈fs) h).StaysIn h') (ups:∀b o,h.get? b=some o→(∀vs,o.data≠.fields vs)→∃sl,h'.get? b=some {o with slots:=sl})
 (tr:h'.TracedW (blank (fun b=>b=a∨b=T∨b∈fs) h) a C a0) {da:Option Addr} {oa:Obj} (ea:h.get? a=some oa) (ed:oa.dict=da) (dd:Dicts h h'):Un fs [] H H' h0 h'∧HOk P w H' h'∧Jb h0 h' H' a C da:=by
 obtain ⟨oe,vs,T2,oT,ts,e1,e2,e3,e4,e5,e6,e7,e8,e9⟩:=tr
 have e11:oe.dict=da:=by
  obtain ⟨o',q1,q2⟩:=dd a oa ea
  rw [e1] at q1
  cases q1
  exact q2.trans ed
 have keepOf:∀b o,¬(b=a∨b=T∨b∈fs)→h.get? b=some o→h'.get? b=some o:=fun b o hb e=>stay b o (by rw [E2 hb];exact e)
 have old:∀b o,h0.get? b=some o→b≠a∧b≠T:=fun b o e=>⟨fun z=>(by rw [z,na] at e;cases e),fun z=>(by rw [z,nT] at e;cases e)⟩
 have any:∀b o,h0.get? b=some o→h.get? b≠none→∃o',h'.get? b=some o':=fun b o e hn=>by
  cases e':h.get? b with
  |none=>exact absurd e' hn
  |some o'=>
   by_cases hb:b∈fs
   ·obtain ⟨o2,h2,d2⟩:=noFields b hb
    obtain ⟨sl,h3⟩:=ups b o2 h2 d2
    exact ⟨_,h3⟩
   ·exact ⟨o',keepOf b o' (fun z=>by rcases z with z |z |z;exact (old b o e).1 z;exact (old b o e).2 z;exact hb z) e'⟩
 refine ⟨⟨fun b o e n hb hx=>?_,fun b o e n hb hx=>?_,B.free,fun b o e hx=>?_,B.tups,B.frzs,B.tbls⟩,fun b o e=>?_,na,ha,oe,vs,a0,T2,oT,ts,e1,e2,e3,e4,?_,?_,e6,e7,e8,e9,e11⟩
 ·exact keepOf b o (fun z=>by rcases z with z |z |z;exact (old b o e).1 z;exact (old b o e).2 z;exact hb z) (B.keep b o e n hb hx)
 ·obtain ⟨sl,h1⟩:=B.slot b o e n hb hx
  obtain ⟨o2,h2,d2⟩:=noFields b hb
  rw [h1] at h2
  cases h2
  obtain ⟨sl2,h3⟩:=ups b _ h1 d2
  exact ⟨sl2,h3⟩
 ·obtain ⟨o',h1⟩:=B.there b o e hx
  exact any b o e (by rw [h1];simp)
 ·refine (hok b o e).stay (fun c u hc q=>keepOf c u (fun z=>?_) q) (fun _ q=>q) fun _ _ q=>q
  have hc':H' c≠none:=by
   rcases hc with rfl |hc
   ·rw [e];simp
   ·rw [hc];simp
  rcases z with z |z |z
  ·exact hc' (z ▸ ha)
  ·exact hc' (z ▸ hT)
  ·exact hc' (frNone c z)
 ·cases q:h0.get? T2 with
  |none=>rfl
  |some o=>
   exfalso
   obtain ⟨o',h1⟩:=B.there T2 o q (by simp)
   by_cases hb:T2∈fs
   ·obtain ⟨o2,h2,d2⟩:=noFields T2 hb
    obtain ⟨sl,h3⟩:=ups T2 o2 h2 d2
    rw [h3] at e7
    cases e7
    exact d2 _ e8
   ·rw [E2 (fun z=>by rcases z with z |z |z;exact (old T2 o q).1 z;exact (old T2 o q).2 z;exact hb z),h1] at e5
    cases e5
 ·cases q:H' T2 with
  |none=>rfl
  |some o=>
   exfalso
   by_cases hb:T2=a∨T2=T∨T2∈fs
   ·rcases hb with z |z |z
    ·rw [z,ha] at q;cases q
    ·rw [z,hT] at q;cases q
    ·rw [frNone T2 z] at q;cases q
   ·rw [E2 hb] at e5
    obtain ⟨ob,eb⟩:=Ln (hok T2 o q)
    rw [eb] at e5
    cases e5
theorem Xz {M:Model} {A:Around} {E:Value→Shared→Prop} {s:Shared} {base:Heap} {env:Env} {outer:List Env} {L e:Addr} {C a0:Value} {Q:Unit→Shared→Prop} (fr:A.frames=some (env::outer)) (lo:env.frame=some L) (fl:Heap.FlyingW base (env::outer) e C a0 s.heap)
 (q:∀h',Heap.HeldW base (env::outer) e C a0 L h'→s.heap.UpToSlots h'→Dicts s.heap h'→Q () {s with heap:=h'}):wpAny M A (noteFrame (.ref e) env) Q E s:=by
 refine wpAny_mono (G3 OF (wpAny_looks_onW (M:=M) (A:=A) (E:=fun _ _=>False) (Q:=fun _ s'=>∃h',s'={s with heap:=h'}∧Heap.HeldW base (env::outer) e C a0 L h'∧s.heap.UpToSlots h') fr lo fl fun h' z1 z2=>⟨h',rfl,z1,z2⟩)) (fun _ s' z=>?_) fun _ _ z=>z.1.elim
 obtain ⟨⟨h',rfl,z1,z2⟩,D⟩:=z
 exact q h' z1 z2 D
theorem XA {M:Model} {A:Around} {E:Value→Shared→Prop} {s:Shared} {base:Heap} {l:List Env} {e L:Addr} {C a0:Value} {Q:Unit→Shared→Prop} (held:Heap.HeldW base l e C a0 L s.heap)
 (q:∀h',Heap.FlyingW base l e C a0 h'→s.heap.UpToSlots h'→Dicts s.heap h'→Q () {s with heap:=h'}):wpAny M A (setFlight (.ref e) none) Q E s:=by
 refine wpAny_mono (G3 Ll (wpAny_landsW (M:=M) (A:=A) (E:=fun _ _=>False) (Q:=fun _ s'=>∃h',s'={s with heap:=h'}∧Heap.FlyingW base l e C a0 h'∧s.heap.UpToSlots h') held fun h' z1 z2=>⟨h',rfl,z1,z2⟩)) (fun _ s' z=>?_) fun _ _ z=>z.1.elim
 obtain ⟨⟨h',rfl,z1,z2⟩,D⟩:=z
 exact q h' z1 z2 D
theorem XB {M:Model} {A:Around} {E:Value→Shared→Prop} {s:Shared} {base:Heap} {l:List Env} {e:Addr} {C a0:Value} {Q:Unit→Shared→Prop} (held:Heap.FlyingW base l e C a0 s.heap)
 (q:∀h',Heap.FlyingW base l e C a0 h'→s.heap.UpToSlots h'→Dicts s.heap h'→Q () {s with heap:=h'}):wpAny M A (setFlight (.ref e) none) Q E s:=by
 refine wpAny_mono (G3 Ll (lands_againW (M:=M) (A:=A) (E:=fun _ _=>False) (Q:=fun _ s'=>∃h',s'={s with heap:=h'}∧Heap.FlyingW base l e C a0 h'∧s.heap.UpToSlots h') held fun h' z1 z2=>⟨h',rfl,z1,z2⟩)) (fun _ s' z=>?_) fun _ _ z=>z.1.elim
 obtain ⟨⟨h',rfl,z1,z2⟩,D⟩:=z
 exact q h' z1 z2 D
section
variable {X:Cx} {pins:List (Addr×Obj)} {σ:L2.St} {H:Hp} {s:Shared}
theorem Inv.track {a:Addr} {o:HO} (I:Inv X pins σ H s) (new:X.s₀.heap.get? a=none) (no:H a=none) (hL:a≠X.env.locals) (hc:∀x c,X.env.cells.lookup x=some c→c≠a) (hp:∀p∈X.pn++pins,p.1≠a) (ok:ObjOk X.prog X.w (Ah H a o) s.heap a o):
 Inv X pins σ (Ah H a o) s:=by
 have ne:∀b u,H b=some u→b≠a:=fun b u e=>Dj e no
 refine ⟨I.ok,I.os,I.bare,⟨I.base.keep,I.base.slot,fun b ob e n hx=>?_,I.base.there,fun b xs e=>?_,fun b ob u e=>?_,fun b ps e=>?_⟩,I.loc,I.cell,?_,fun x c e=>?_,fun p hp'=>?_,fun b u e=>?_,I.len⟩
 ·rw [Av (fun z=>by rw [z,new] at e;cases e)];exact I.base.free b ob e n hx
 ·have:=I.base.tups b xs e
  rw [Av (ne _ _ this)];exact this
 ·have:=I.base.frzs b ob u e
  rw [Av (ne _ _ this)];exact this
 ·obtain ⟨more,this⟩:=I.base.tbls b ps e
  exact ⟨more,by rw [Av (ne _ _ this)];exact this⟩
 ·rw [Av (Ne.symm hL)];exact I.free
 ·rw [Av (hc x c e)];exact I.freeC x c e
 ·obtain ⟨a1,a2,a3⟩:=I.pin p hp'
  exact ⟨a1,by rw [Av (hp p hp')];exact a2,a3⟩
 ·by_cases hb:b=a
  ·subst hb
   rw [B6] at e
   cases e
   exact ok
  ·rw [Av hb] at e
   exact (I.hok b u e).stay (fun _ _ _ q=>q) (fun c q=>by rw [Av (ne _ _ q)];exact q) fun c xs q=>by rw [Av (ne _ _ q)];exact q
theorem Inv.locals {σ':L2.St} {h':Heap} {m':Str→Option Value} {t':Nat} (I:Inv X pins σ H s) (hn':h'.Ns X.env.locals m') (hs:Heap.SameBut X.env.locals s.heap h')
 (hl:∀(i:Nat) (x:Str) (v:V),X.N[i]?=some x→σ'[i]?=some (some v)→HN X.env.scope x→∃u,RelV v u∧M9 X.env h' m' x u) (len:σ'.length=σ.length):Inv X pins σ' H {s with heap:=h',toks:=t'}:=by
 obtain ⟨m,hn,_⟩:=id I.loc
 obtain ⟨oL,_,_,hoL,_⟩:=id hn
 have neL:∀b o,X.s₀.heap.get? b=some o→b≠X.env.locals:=fun b o e=>Bd (AX (Ax e) I.ok.above)
 refine ⟨I.ok,I.os,I.bare,⟨fun b o e n hb hx=>?_,fun b o e n hb hx=>?_,I.base.free,fun b o e hx=>?_,I.base.tups,I.base.frzs,I.base.tbls⟩,⟨_,hn',hl⟩,fun y c e=>?_,I.free,I.freeC,fun p hp=>?_,fun b ob e=>?_,len.trans I.len⟩
 ·exact (hs.2 b (neL b o e)).trans (I.base.keep b o e n hb hx)
 ·obtain ⟨sl,e1⟩:=I.base.slot b o e n hb hx
  exact ⟨sl,(hs.2 b (neL b o e)).trans e1⟩
 ·obtain ⟨o',e1⟩:=I.base.there b o e hx
  exact ⟨o',(hs.2 b (neL b o e)).trans e1⟩
 ·obtain ⟨v,z⟩:=I.cell y c e
  exact ⟨v,z.sameBut hs (I.cne y c e)⟩
 ·obtain ⟨a1,a2,a3,a4⟩:=I.pin p hp
  exact ⟨(hs.2 _ a3).trans a1,a2,a3,a4⟩
 ·refine (I.hok b ob e).stay (fun c w' hc q=>(hs.2 c ?_).trans q) (fun _ q=>q) fun _ _ q=>q
  rintro rfl
  have hfree:=I.free
  rcases hc with rfl |hc
  ·rw [hfree] at e;cases e
  ·rw [hfree] at hc;cases hc
theorem XC {M:Model} {A:Around} {E:Value→Shared→Prop} {n:Str} {pos:Pos} {i:Nat} {Q:Unit→Shared→Prop} (I:Inv X pins σ H s) (hN:X.N.Nodup) (hi:X.N[i]?=some n) (hl:X.env.kindOf n=some .local)
 (h:∀s',Inv X pins (σ.set i none) H s'→Q () s'):wpAny M A (do bindName X.env n .none;unbindBehindTheSuite X.env n pos) Q E s:=by
 have hp:(X.env.scope.kind==.class||(X.env.scope.kind==.module&&X.env.locals != X.env.globals))=false:=by rw [I.ok.kind];rfl
 refine wpAny_bind (wpAny_bindName (Kq (v:=.non) I hN hi (.inl hl) rfl (fun s1 I1 _=>?_) (.inr hl)))
 unfold unbindBehindTheSuite
 refine wpAny_onRaise ?_
 unfold unbindName
 refine wpAny_bind (wpAny_point (wpAny_bind ?_))
 unfold deleteName
 simp only [hl,hp]
 rw [if_neg (by decide)]
 obtain ⟨m1,hn1,hl1⟩:=I1.loc
 have hin:(m1 n).isSome=true:=by
  have hiσ:i < σ.length:=by rw [I.len];exact (qa1.mp hi).1
  obtain ⟨u,_,lk⟩:=hl1 i n .non hi (by rw [BV hiσ]) (.inl hl)
  rcases lk with ⟨_,z⟩ |⟨z,_⟩
  ·rw [z];rfl
  ·rcases z with z |z<;>(rw [hl] at z;cases z)
 refine wpAny_bind (wpAny_nsDel_keeps hn1 fun h2 v hn2 hs2=>?_)
 simp only [hin,if_true,DQ,Bc,if_false]
 refine wpAny_pure (wpAny_point (h _ (Inv.locals (t':=s1.toks) (I1.weak (σ':=σ.set i none) (by simp) fun j v' e=>?_) hn2 hs2 (fun j x v' e1 e2 e3=>?_) rfl)))
 ·by_cases hj:i=j
  ·subst hj
   have hiσ:i < σ.length:=by rw [I.len];exact (qa1.mp hi).1
   rw [BV hiσ] at e;cases e
  ·rw [Bj hj] at e ⊢;exact e
 ·have hj:i≠j:=by
   rintro rfl
   have hiσ:i < σ.length:=by rw [I.len];exact (qa1.mp hi).1
   rw [BV hiσ] at e2;cases e2
  rw [Bj hj] at e2
  obtain ⟨u,r,lk⟩:=hl1 j x v' e1 (by rw [Bj hj];exact e2) e3
  have hx:x≠n:=fun z=>hj (Ko hN hi (z ▸ e1))
  refine ⟨u,r,?_⟩
  rcases lk with ⟨k1,k2⟩ |⟨k1,c,k2,k3⟩
  ·exact .inl ⟨k1,(if_neg hx).trans k2⟩
  ·exact .inr ⟨k1,c,k2,k3.sameBut hs2 (I1.cne x c k2)⟩
end
end LS
namespace LS
open PySem PySem.Spec PyProof.Rows L2 PySem.W
variable {g:Str}
def D2:List (Str×D)→Option (List (Str×Int))
 |[]=>some []
 |(f,.int i)::r=>(D2 r).map fun l=>(f,i)::l
 |_=>none
theorem Pb:∀{fs:List (Str×D)} {is:List (Str×Int)} {f:Str} {i:Int},D2 fs=some is→is.lookup f=some i→fs.lookup f=some (.int i)
 |[],is,f,i,e,l=>by cases e;cases l
 |(g,d)::r,is,f,i,e,l=>by
  cases d with
  |int j=>
   simp only [D2] at e
   cases er:D2 r with
   |none=>rw [er] at e;cases e
   |some l2=>
    rw [er] at e
    cases e
    rw [Ds] at l ⊢
    cases hb:f==g with
    |true=>rw [hb] at l;cases l;rfl
    |false=>rw [hb] at l;exact Pb er l
  |_=>cases e
open Classical in
noncomputable def Jk (j:Nat) (g:Str) (a:Addr) (vs:List V) (Fk:List D→HD→Out D) (f:ME):MS:=fun ρ h=>match (ρ[0]?:Option (Option D)),(h[j]?:Option Cell) with
 |some (some (.clo a' vs' ds)),some (.tabn g')=>if g'=g∧a'=a∧vs'=vs then (match f (ds.map some) h with
  |.ok _ h1=>.ok (.nx,ρ) h1
  |.err (.str n _) fs h1=>if n∈excNames then (match D2 fs with
   |some is=>(match Fk [.exc n is] h1 with
    |.ok d h2=>.ok (.nx,(ρ.set 1 (some d)).set 2 none) h2
    |_=>.stuck)
   |none=>.stuck) else .stuck
  |_=>.stuck) else .stuck
 |_,_=>.stuck
structure SaidX (g:Str) (X:Cx) (P a c':Addr) (lpos:Pos) (Nc:List Str) (params:Arguments) (body:Expr) (scope:Scope) (cl:List (Str×Addr)) (pm ctv:Value) (vs:List V):Prop where
 N:X.N=(["_law_call","_law_word","_law_e"]:List Str)
 k0:X.env.kindOf "_law_call"=some .local
 k1:X.env.kindOf "_law_word"=some .local
 k2:X.env.kindOf "_law_e"=some .local
 tp:∃c,tabP X.K g=some (c,P)
 tb:∃ps,X.H₀ P=some (.tbl ps)∧TriplesOk ps.toList∧codeAmong lpos ps.toList=some (.ref c')
 ob:X.s₀.heap.get? a=some (kla_obj "<lambda>" (A6 g) params body scope cl pm c' ctv)
 no:X.H₀ a=none
 nf:a∉X.fs
 clo:G5 X.s₀.heap X.H₀ X.outer Nc scope cl vs
section
variable {X:Cx} {E:XK} {P a c':Addr} {lpos:Pos} {Nc:List Str} {params:Arguments} {body:Expr} {scope:Scope} {cl:List (Str×Addr)} {pm ctv:Value} {vs:List V}
theorem XE {M:Model} {A:Around} {E:Value→Shared→Prop} {s:Shared} {a:Addr} {o:Obj} {fd:FuncData} {Q:Value→Shared→Prop} {env:Env} {pos:Pos} (h0:s.heap.get? a=some o) (hd:o.data=.func fd) (h:wpAny M A (call (.ref a) []) Q E s):
 wpAny M A (callWith pos (.ref a) [] (backTo pos (starEach [] env)) []) Q E s:=
 callWith_of (P:=fun h=>h.get? a=some o) rfl (fun h e=>⟨.frame,.inl rfl,(Looks.ld (part:=none) e).andThen (by rw [hd];exact .now)⟩) (evalArgs_nil3 ⟨h0,h⟩)
theorem SaidX.cloNow (S:SaidX g X P a c' lpos Nc params body scope cl pm ctv vs) (lv:Lv X E) {pins:List (Addr×Obj)} {σ:L2.St} {H:Hp} {s:Shared} (I:Inv X pins σ H s):G5 s.heap H X.stack Nc scope cl vs∧s.heap.get? a=some (kla_obj "<lambda>" (A6 g) params body scope cl pm c' ctv):=by
 have B:Un X.fs [] X.H₀ H X.s₀.heap s.heap:=by have:=I.base;rw [lv.ex] at this;exact this
 have keep:∀c v,X.s₀.heap.IsCell c v→X.H₀ c=none→c∉X.fs→s.heap.IsCell c v:=fun c v z1_ n f=>by obtain ⟨o,e,d⟩:=z1_;exact (⟨o,B.keep c o e n f (by simp),d⟩)
 refine ⟨⟨S.clo.len,S.clo.inj,S.clo.has,fun x c e=>?_,fun i x v e1 e2=>?_⟩,B.keep a _ S.ob S.no S.nf (by simp)⟩
 ·obtain ⟨⟨v,q⟩,n,f⟩:=S.clo.cell x c e
  obtain ⟨o,e1,d⟩:=id q
  refine ⟨⟨v,keep c v q n f⟩,B.free c o e1 n (by simp),fun z=>?_⟩
  rw [lv.frs] at z
  rcases qa4.mp z with z |z
  ·exact absurd (AX (Ax e1) I.ok.above) (by rw [z];exact B1 _)
  ·exact f z
 ·obtain ⟨hf,c,u,e3,e4,r⟩:=S.clo.val i x v e1 e2
  obtain ⟨_,n,f⟩:=S.clo.cell x c e3
  exact ⟨hf,c,u,e3,keep c _ e4 n f,r⟩
def ED (X:Cx) (e:Addr):Cx:={X with A:=X.A.mark (some (.ref e)),calm:=false,xe:=fun _ _=>False}
theorem Inv.marked {pins:List (Addr×Obj)} {σ:L2.St} {H:Hp} {s:Shared} {e:Addr} (I:Inv X pins σ H s):Inv (ED X e) pins σ H s:=
 ⟨⟨I.ok.mod,I.ok.kind,I.ok.glob,I.ok.blt,I.ok.above,I.ok.inj,I.ok.has,I.ok.cab,fun z=>(nomatch z),I.ok.frames,I.ok.stk,I.ok.exf,I.ok.bs,I.ok.bsz,I.ok.noex,I.ok.exfs,I.ok.funs,I.ok.frf⟩,I.os,I.bare,I.base,I.loc,I.cell,I.free,I.freeC,I.pin,I.hok,I.len⟩
theorem Inv.unmarked {pins:List (Addr×Obj)} {σ:L2.St} {H:Hp} {s:Shared} {e:Addr} (ok:X.Ok) (I:Inv (ED X e) pins σ H s):Inv X pins σ H s:=
 ⟨ok,I.os,I.bare,I.base,I.loc,I.cell,I.free,I.freeC,I.pin,I.hok,I.len⟩
theorem XF {j:Nat} {k:Nat} {Fk:List D→HD→Out D} {f:ME} {p4 p5 p6 p7 p8 p9 p10 p11 p12 p13 p14:Pos} (lv:Lv X E) (S:SaidX g X P a c' lpos Nc params body scope cl pm ctv vs) (hr:Room (k+1) X.A) (et:etOk X.K=true) (hsw:∃Sw,nsIn X.K mainGlobals "SwitchError"=some (some (.ref Sw)))
 (hgS:X.env.kindOf "SwitchError"=some .globalImplicit) (hgK:X.env.kindOf "_law_kind"=some .globalImplicit)
 (hkind:CaM X.prog X.w X.K X.mg X.base "_law_kind" k Fk) (hL:LamSc scope) (hbind:bindArgs (kla_fn "<lambda>" (A6 g) params body scope cl pm (.ref c') ctv) ⟨[],[]⟩=pure [])
 (hb:∀(s:Shared) (H:Hp) (E':XK),Room k (X.A.deeper (envX (A6 g) scope s.heap.objs.size a (.ref c') cl))→Ev (DD g X.prog X.w X.K X.mg X.base Nc scope a (.ref c') cl X.A X.stack s H E') E' body f):
 Ex X E (.Try [.Expr (.Call (.Name "_law_call" p4) [] [] p5) p6] [.ExceptHandler (some (.Name "SwitchError" p7)) (some "_law_e") [.Assign [.Name "_law_word" p8] (.Call (.Name "_law_kind" p9) [.Name "_law_e" p10] [] p11) p12] p13] [] [] p14) (Jk j g a vs Fk f):=by
 rintro pins s σ H Dn I ⟨m,ρ,h,hr1,er,p⟩
 refine Classical.byContradiction fun nG=>?_
 have hN0:X.N[0]?=some ("_law_call":Str):=by rw [S.N];rfl
 have hN1:X.N[1]?=some ("_law_word":Str):=by rw [S.N];rfl
 have hN2:X.N[2]?=some ("_law_e":Str):=by rw [S.N];rfl
 have nd:X.N.Nodup:=by rw [S.N];decide +kernel
 obtain ⟨Sw,hSw⟩:=hsw
 unfold Jk at p
 split at p
 ·rename_i a' vs' ds g' e0 et0
  split at p
  ·rename_i hav
   obtain ⟨hgg,rfl,rfl⟩:=hav
   have hgg:=hgg.symm
   subst hgg
   obtain ⟨C,ob⟩:=S.cloNow lv I
   obtain ⟨v0,hv0,rv0⟩:=er.2 0 _ e0
   simp only [DV] at rv0
   obtain ⟨rfl,rds⟩:=rv0
   obtain ⟨aP,haP,tab⟩:=hr1.at et0
   obtain ⟨⟨cc,htp⟩,ps2,hps2,htr2,hcs2⟩:=tab
   obtain ⟨cc',htp'⟩:=S.tp
   rw [htp'] at htp
   cases htp
   obtain ⟨ps,hps,htr,hca⟩:=S.tb
   obtain ⟨more,hmore⟩:=I.base.tbls P ps hps
   have hca2:codeAmong lpos ps2.toList=some (.ref c'):=by
    have e:=hmore.symm.trans hps2
    cases e
    rw [Array.toList_append]
    exact Xq htr hca
   obtain ⟨c2,e2,hx2⟩:=hcs2 lpos _ hca2
   cases e2
   have hcd:s.heap.CodeRec (.ref c') (A6 g):=(I.hok c' _ hx2).1
   have run:∀(Q:VK) (E':XK),Post X.K (rD X.K) m H E' Q (f (ds.map some) h)→codeAny (model X.prog X.w) X.A (.call (.ref a') ⟨[],[]⟩) (CR (AL X.prog X.w X.K) X.stack X.prog X.w H s Q E') s:=fun Q E' q=>
    Xv hL hr I.env0 C ob hcd hbind (hb s H E') ⟨m,ds,h,hr1,rds,q⟩
   have start:∀{Q:Flow→Shared→Prop} {EE:Value→Shared→Prop},codeAny (model X.prog X.w) X.A (.call (.ref a') ⟨[],[]⟩) (fun r s'=>match r with |.ok (.ret u)=>Q .next s' |.error e=>EE e s' |_=>False) s→
    wpAny (model X.prog X.w) X.A (execs [.Expr (.Call (.Name "_law_call" p4) [] [] p5) p6] X.env) Q EE s:=fun {Q EE} hc=>by
    refine wpAny_execs_cons (wpAny_Expr_any (wpAny_Call_Name_kw ?_) I.quiet rfl)
    obtain ⟨m0,hn0,hl0⟩:=I.loc
    obtain ⟨u,ru,lk⟩:=hl0 0 "_law_call" (.ref a') hN0 hv0 (.inl S.k0)
    cases (show u=Value.ref a' from ru)
    rcases lk with ⟨hk,hm⟩ |⟨z,_⟩
    ·refine wpAny_Name (wpAny_loadName_local I.ok.kind hk hn0 hm (XE ob rfl (wpAny_call (codeAny_mono hc fun r s' hq=>?_)))) (by decide)
     cases r with
     |error e=>exact hq
     |ok fl=>
      cases fl with
      |ret u=>exact wpAny_execs_nil hq
      |next=>exact hq.elim
      |brk=>exact hq.elim
      |cont=>exact hq.elim
    ·rcases z with z |z<;>(rw [S.k0] at z;cases z)
   refine nG (wpAny_Try_except (start ?_))
   clear nG
   refine Classical.byContradiction fun nG=>?_
   cases ho:f (ds.map some) h with
   |stuck=>rw [ho] at p;exact p.elim
   |ok d h1=>
    rw [ho] at p
    refine nG (codeAny_mono (run (fun v H'=>∃m',m <+:m'∧Kp H H'∧HR X.K m' h1 H') E0 (by rw [ho];exact fun v m' H' p1 k1 hr' _=>⟨m',p1,k1,hr'⟩)) fun r s' hq=>?_)
    cases r with
    |error e=>
     obtain ⟨_,_,_,_,_,_,_,_,_,_,_,_,q⟩:=hq
     exact q.elim
    |ok fl=>
     cases fl with
     |ret u=>
      obtain ⟨v,H',os,bare,un,hok,_,m',p1,k1,hr'⟩:=hq
      exact wpAny_execs_nil ⟨σ,H',I.call' os un hok bare (fun b hb=>absurd hb (by simp)),p m' H' p1 k1 hr' σ (er.keep p1 k1)⟩
     |next=>exact hq.elim
     |brk=>exact hq.elim
     |cont=>exact hq.elim
   |err Cv fs h1=>
    rw [ho] at p
    cases Cv with
    |str n t=>
     simp only at p
     split at p
     ·rename_i hn
      refine nG (codeAny_mono (run (fun _ _=>False) (fun C' da H'=>C'=.str n t∧∃m',m <+:m'∧Kp H H'∧HR X.K m' h1 H'∧XD X.K m' H' fs da) (by rw [ho];exact fun da m' H' p1 k1 hr' xd=>⟨rfl,m',p1,k1,hr',xd⟩)) fun r s1 hq=>?_)
      clear nG
      cases r with
      |ok fl=>
       cases fl with
       |ret u=>obtain ⟨_,_,_,_,_,_,_,z⟩:=hq;exact z.elim
       |next=>exact hq.elim
       |brk=>exact hq.elim
       |cont=>exact hq.elim
      |error e=>
       obtain ⟨ae,Cc,n',da,H',rfl,os,bare,un,hok,fly,nm,hE,m',p1,k1,hr',xd⟩:=hq
       refine Classical.byContradiction fun nG=>?_
       have hnn:n'=n:=by cases hE;rfl
       subst hnn
       have I1:Inv X pins σ H' s1:=I.call' os un hok bare (fun b hb=>absurd hb (by simp))
       obtain ⟨fnew,fno,oe,ws,a0,T,oT,ts,e1,e2,e3,e4,e5,e6,e7,e8,e9,e10,e11⟩:=fly
       have fro:X.A.frames=some (X.env::X.outer):=by rw [←lv.stk];exact I1.ok.frames
       have stk:s1.heap.FunFrames X.base (X.env::X.outer):=by have:=I1.stack;rw [lv.stk] at this;exact this
       have frN:∀b∈frs X.stack,H' b=none:=fun b hb=>I1.stkFree b hb
       have frO:∀b∈frs X.stack,∃o,s1.heap.get? b=some o∧∀vs,o.data≠.fields vs:=fun b hb=>(I1.stack.mem hb).2
       have fly0:Heap.FlyingW (blank (fun b=>b=ae∨b=T∨b∈frs X.stack) s1.heap) (X.env::X.outer) ae (.ref Cc) a0 s1.heap:=
        ⟨Lm,E1 (.inl rfl),Jc stk fun b hb=>.inr (.inr (by rw [lv.stk];exact hb)),oe,ws,T,oT,ts,e1,e2,e3,e4,E1 (.inr (.inl rfl)),e7,e8,e9,e10⟩
       refine nG (Xz fro lv.fr fly0 fun h4 held4 sm4 D4=>?_)
       clear nG
       refine XA held4 fun h5 held5 sm5 D5=>?_
       refine Classical.byContradiction fun nG=>?_
       obtain ⟨un5,hok5,fly5⟩:=Pa un hok fnew e5 fno e6 frN frO held5.1 (sm4.trans sm5) held5.2.2.2 e1 e11 (D4.trans D5)
       have I5:Inv X pins σ H' {s1 with heap:=h5}:=I.call' (s':={s1 with heap:=h5}) os un5 hok5 bare (fun b hb=>absurd hb (by simp))
       have hmS:X.mg "SwitchError"=some (.ref Sw):=mg_of I.mod.kin I.mod.glob hSw
       have T5:=Ji et hn nm
       obtain ⟨_,_,oe5,ws5,_,_,_,_,f1,f2,f3,_⟩:=id fly5
       refine nG (wpAny_handleBy_cons (codeAny_handlers_test ?_) (by intro q;cases q))
       clear nG
       refine Calls.Name_function_global I5.ok.kind hgS (Calls.loadGlobal_global (by rw [I5.ok.glob];exact I5.mod.glob.keeps I5.bk) hmS ?_) (by decide)
       refine (exm_one (M:=model X.prog X.w) I5.kIn (TyAt.type ⟨oe5,f1,f2.1⟩) (T5.sw Sw hSw)).here ?_
       simp only [if_true]
       refine codeAny_handlers_suite_as (XB held5 fun h6 held6 sm6 D6=>?_)
       obtain ⟨un6,hok6,fly6⟩:=Pa un hok fnew e5 fno e6 frN frO held6.1 ((sm4.trans sm5).trans sm6) held6.2.2.2 e1 e11 ((D4.trans D5).trans D6)
       have I6:Inv X pins σ H' {s1 with heap:=h6}:=I.call' (s':={s1 with heap:=h6}) os un6 hok6 bare (fun b hb=>absurd hb (by simp))
       obtain ⟨_,_,oe6,ws6,_,_,_,_,g1,g2,g3,_,_,_,_,_,_,_,g11⟩:=id fly6
       have older:∀b,s.heap.get? b=none→X.s₀.heap.get? b=none:=lv.older I
       have xok:ObjOk X.prog X.w (Ah H' ae (.ext (En Cc da ae))) h6 ae (.ext (En Cc da ae)):=
        ⟨⟨oe6,ws6,g1,g2.1,fun d z=>g11.trans z,g3⟩,⟨oe6,g1⟩,fun ha hb' z2_ k'=>by obtain ⟨o,w',z1,z2,z3,z4⟩:=z2_;exact (⟨o,w',k' o z1,z2,z3,z4⟩)⟩
       have neL:ae≠X.env.locals:=fun z=>by
        obtain ⟨mL,⟨oL,_,_,hoL,_⟩,_⟩:=I.loc
        rw [←z,fnew] at hoL;cases hoL
       have neC:∀x c,X.env.cells.lookup x=some c→c≠ae:=fun x c ex z=>by
        obtain ⟨v,o,hoc,_⟩:=I.cell x c ex
        rw [z,fnew] at hoc;cases hoc
       have neP:∀q∈X.pn++pins,q.1≠ae:=fun q hq z=>by
        have:=(I.pin q hq).1
        rw [z,fnew] at this;cases this
       have I6':=LS.Inv.track I6 (older ae fnew) fno neL neC neP xok
       have kx:Kp H' (Ah H' ae (.ext (En Cc da ae))):=.new fno
       refine Kq (v:=.ref ae) I6' nd hN2 (.inl S.k2) rfl (fun s7 I7 _=>?_) (.inr S.k2)
       split at p
       rename_i is his
       split at p
       ·rename_i d h2 hk2
        have hr7:HR X.K m' h1 (Ah H' ae (.ext (En Cc da ae))):=hr'.new fno
        have er7:ER X.K m' (Ah H' ae (.ext (En Cc da ae))) (ρ.set 2 (some (.exc n' is))) (σ.set 2 (some (.ref ae))):=
         ((er.keep p1 k1).keep (AA _) kx).set (by simp only [DV];exact ⟨ae,Cc,da,rfl,nm,B6,fun f i z=>by
           obtain ⟨b,fv,v,q1,q2,q3,q4⟩:=xd f _ (Pb his z)
           simp only [DV] at q4
           exact ⟨b,fv,q1,by rw [Av (Dj q2 fno)];exact q2,by rw [q3,q4]⟩⟩)
        have hρ:2 < ρ.length:=by rw [er.1,I.len,S.N];decide
        have sx:B4 (ED X ae) E0 [.Assign [.Name "_law_word" p8] (.Call (.Name "_law_kind" p9) [.Name "_law_e" p10] [] p11) p12] (Ao 1 (Ad Fk (Ab (Aa 2) Ac))):=
         IE (K0 (X:=ED X ae) (i:=1) nd hN1 (Or.inl S.k1) (Xy (X:=ED X ae) hkind (RoomM.of hr _) (Iu (KU (X:=ED X ae) (Kr (X:=ED X ae) hN2 (.inl S.k2))) Ir) (Nat.le_succ _) hgK) (hf:=.inr S.k1))
        have post:FI (ED X ae).K E0 (Ao 1 (Ad Fk (Ab (Aa 2) Ac))) {nx:=fun σ' H''=>Dn.nx (σ'.set 2 none) H'',rt:=fun _ _=>False} (σ.set 2 (some (.ref ae))) (Ah H' ae (.ext (En Cc da ae))):=by
         refine ⟨m',ρ.set 2 (some (.exc n' is)),h1,hr7,er7,?_⟩
         have ev:Ao 1 (Ad Fk (Ab (Aa 2) Ac)) (ρ.set 2 (some (.exc n' is))) h1=.ok (.nx,(ρ.set 2 (some (.exc n' is))).set 1 (some d)) h2:=by
          unfold Ao Ad Ab Ac Aa
          rw [BV hρ]
          simp only [Out.bind_ok]
          rw [hk2]
          rfl
         rw [ev]
         intro m2 H2 p2 k2 hr2 σ' er2
         refine p m2 H2 (p1.trans p2) ((k1.trans kx).trans k2) hr2 _ ⟨by simp [er2.1.symm],fun i di e=>?_⟩
         by_cases hi:2=i
         ·subst hi
          rw [BV (by simpa using hρ)] at e
          cases e
         ·rw [Bj hi] at e
          obtain ⟨v,z1,z2⟩:=er2.2 i di (by
           by_cases h1i:1=i
           ·subst h1i
            rw [BV (by omega)] at e
            rw [BV (by simp;omega)];exact e
           ·rw [Bj h1i] at e
            rw [Bj h1i,Bj hi];exact e)
          exact ⟨v,by rw [Bj hi];exact z1,z2⟩
        refine wpAny_mono (sx pins s7 _ _ _ (Inv.marked I7) post) (fun fl s8 h8=>?_) fun _ _ z=>False.elim z
        cases fl with
        |next=>
         obtain ⟨σ',H'',I8,q8⟩:=h8
         exact XC (Inv.unmarked I.ok I8) nd hN2 S.k2 fun s9 I9=>⟨_,H'',I9,q8⟩
        |ret u=>obtain ⟨_,_,_,_,_,z⟩:=h8;exact False.elim z
        |brk=>obtain ⟨_,_,_,z⟩:=h8;exact False.elim z
        |cont=>obtain ⟨_,_,_,z⟩:=h8;exact False.elim z
       ·exact p.elim
       ·exact p.elim
     ·exact p.elim
    |_=>exact p.elim
  ·exact p.elim
 ·exact p.elim
end
end LS
namespace LS
open PySem PySem.Spec PyProof.Rows L2 PySem.W
variable {g:Str}
noncomputable def Lz (Fk:List D→HD→Out D):Out D→Out D
 |.ok _ h1=>.ok (.str "told") h1
 |.err (.str n _) fs h1=>if n∈excNames then (match D2 fs with
  |some is=>(match Fk [.exc n is] h1 with
   |.ok d h2=>.ok d h2
   |_=>.stuck)
  |none=>.stuck) else .stuck
 |_=>.stuck
noncomputable def D3 (j:Nat) (g:Str) (cs:List Nat) (Fk:List D→HD→Out D) (f:ME):ME:=fun ρ h=>match (h[j]?:Option Cell),AH (cs.map fun j=>(ρ[j]?).join) with
 |some (.tabn g'),some ds=>if g'=g then Lz Fk (f (ds.map some) h) else .stuck
 |_,_=>.stuck
noncomputable abbrev Pc (cs:List Nat) (Fk:List D→HD→Out D) (f:ME):ME:=D3 0 "law" cs Fk f
structure LSc (X:Cx) (scope:Scope) (Nc:List Str) (cs:List Nat):Prop where
 lam:LamSc scope
 nd:(scope.names.map (·.1)).Nodup
 free:(scope.names.all fun y=>y.2 != .free||(X.env.kindOf y.1==some .cell||X.env.kindOf y.1==some .free))=true
 len:cs.length=Nc.length
 out:((Nc.zip cs).all fun p=>X.N[p.2]?==some p.1&&scope.names.lookup p.1==some .free)=true
theorem LSc.at_ {X:Cx} {scope:Scope} {Nc:List Str} {cs:List Nat} (S:LSc X scope Nc cs) {i j:Nat} {x:Str} (h1:Nc[i]?=some x) (h2:cs[i]?=some j):X.N[j]?=some x∧scope.names.lookup x=some .free:=by
 have hz:(Nc.zip cs)[i]?=some (x,j):=by
  rw [List.getElem?_zip_eq_some]
  exact ⟨h1,h2⟩
 have:=qaM.mp S.out (x,j) (Ee hz)
 simpa using this
theorem LSc.fr {X:Cx} {scope:Scope} {Nc:List Str} {cs:List Nat} (S:LSc X scope Nc cs):∀y∈scope.names,y.2=.free→X.env.kindOf y.1=some .cell∨X.env.kindOf y.1=some .free:=fun y hy e=>by
 have:=qaM.mp S.free y hy
 rw [e] at this
 simpa using this
theorem Pd {K:Frag} {m:List Addr} {H:Hp} {ρ:Ae} {σ:L2.St} (er:ER K m H ρ σ):∀{cs:List Nat} {ds:List D},AH (cs.map fun j=>(ρ[j]?).join)=some ds→∃vs,DVs K m H ds vs∧vs.length=cs.length∧∀(i:Nat) (v:V),vs[i]?=some v→∃j,cs[i]?=some j∧σ[j]?=some (some v)
 |[],ds,e=>by
  simp [AH] at e
  subst e
  exact ⟨[],.nil,rfl,fun i v z=>by simp at z⟩
 |j::cs,ds,e=>by
  rw [A4] at e
  cases ed:(ρ[j]?).join with
  |none=>rw [ed] at e;simp [AH] at e
  |some d=>
   rw [ed] at e
   simp only [AH,qaO] at e
   obtain ⟨ds',e1,rfl⟩:=e
   obtain ⟨vs,h1,h2,h3⟩:=Pd er e1
   obtain ⟨v,e2,r⟩:=er.2 j d (join_some.mp ed)
   refine ⟨v::vs,.cons r h1,by simp [h2],fun i v' z=>?_⟩
   cases i with
   |zero=>simp at z;subst z;exact ⟨j,rfl,e2⟩
   |succ i=>simpa using h3 i v' (by simpa using z)
section
variable {X:Cx} {E:XK} {c P:Addr} {Nc:List Str} {cs:List Nat} {params:Arguments} {body:Expr} {scope:Scope}
theorem XG {α:Type} {l:List (Str×α)} {x:Str} {v:α} (h:(x,v)∈l):∃w,l.lookup x=some w:=by
 cases e:l.lookup x with
 |some w=>exact ⟨w,rfl⟩
 |none=>
  have:=List.lookup_eq_none_iff.mp e _ h
  simp at this
theorem XH {j:Nat} {k:Nat} {Fk:List D→HD→Out D} {f:ME} {fs:Addr} {fd:FuncData} {st:Stmt} {lpos p pos p1 p2 p3 p4 p5 p6 p7 p8 p9 p10 p11 p12 p13 p14 p15 p16:Pos} {j1:Nat} (L:LamX g X c P) (fna:∀x,X.fn x=true) (hr:Room (k+2) X.A) (lv:Lv X E) (et:etOk X.K=true)
 (hsw:∃Sw,nsIn X.K mainGlobals "SwitchError"=some (some (.ref Sw)))
 (Fn:Fun X.K "_law_said" "_law_said" st fs fd) (hbd:Binds X.K fd ["_law_call"] []) (hm:X.mg "_law_said"=some (.ref fs)) (hkp:keepIn X.K (.ref fs)=true)
 (Sf:CP ["_law_call","_law_word","_law_e"] ["_law_call"] (defScope st)) (hk0:(defScope st).names.lookup ("_law_call":Str)=some .local) (hk1:(defScope st).names.lookup ("_law_word":Str)=some .local) (hk2:(defScope st).names.lookup ("_law_e":Str)=some .local)
 (hgS:∀L' cd,(envOfC "_law_said" (defScope st) L' fs cd).kindOf "SwitchError"=some .globalImplicit) (hgK:∀L' cd,(envOfC "_law_said" (defScope st) L' fs cd).kindOf "_law_kind"=some .globalImplicit)
 (hst:defBody st=[.Assign [.Name "_law_word" p1] (.Constant (.str "told") j1 p2) p3,.Try [.Expr (.Call (.Name "_law_call" p4) [] [] p5) p6] [.ExceptHandler (some (.Name "SwitchError" p7)) (some "_law_e") [.Assign [.Name "_law_word" p8] (.Call (.Name "_law_kind" p9) [.Name "_law_e" p10] [] p11) p12] p13] [] [] p14,.Return (some (.Name "_law_word" p15)) p16])
 (hkind:CaM X.prog X.w X.K X.mg X.base "_law_kind" k Fk) (hg:Gl X "_law_said") (S:LSc X scope Nc cs) (hdef:defaultsOf params X.env=([],[]))
 (hbind:∀(cl:List (Str×Addr)) (pm cv ctv:Value),bindArgs (kla_fn "<lambda>" (A6 g) params body scope cl pm cv ctv) ⟨[],[]⟩=pure [])
 (hb:∀(a:Addr) (cd:Value) (cl:List (Str×Addr)) (A:Around) (outer:List Env) (s:Shared) (H:Hp) (E':XK),Room k (A.deeper (envX (A6 g) scope s.heap.objs.size a cd cl))→Ev (DD g X.prog X.w X.K X.mg X.base Nc scope a cd cl A outer s H E') E' body f)
 (he:starEach [.Lambda params body scope lpos] X.env=(false,eval (.Lambda params body scope lpos) X.env)::starEach [] X.env:=by rfl) (hpl:(backTo pos (starEach [] X.env)).any (·.1)=false:=by rfl):
 Ev X E (.Call (.Name "_law_said" p) [.Lambda params body scope lpos] [] pos) (D3 j g cs Fk f):=by
 rintro pins s σ H Q I ⟨m,ρ,h,hr1,er,pp⟩
 unfold D3 at pp
 split at pp
 ·rename_i g' ds et0 eds
  split at pp
  rotate_left
  ·exact pp.elim
  rename_i hgg
  have hgg:=hgg.symm
  subst hgg
  obtain ⟨aP,haP,tab⟩:=hr1.at et0
  obtain ⟨⟨cc,htp⟩,tabr⟩:=id tab
  rw [L.tp] at htp
  cases htp
  obtain ⟨vs,dvs,vlen,vat⟩:=Pd er eds
  obtain ⟨cl,hclos,hcl,hcl2⟩:=Oc (scope:=scope) (env:=X.env) fun y hy hf=>I.ok.has y.1 (S.fr y hy hf)
  refine wpAny_Call_Name_kw (FC I hg hm ?_ (by decide))
  refine PySem.W.callWith_K (h₀:=X.base) I.ok.mod.kin hkp ?_ he hpl
  rw [he]
  show wpAny _ _ (spliced ((false,eval (.Lambda params body scope lpos) X.env)::[])) _ _ s
  refine Calls.spliced_cons (Xr L I tab hdef hclos fun a c' ctv pm h' tk H' I' kp tab' same keep hsz no ob code=>?_)
  refine wpAny_pure ⟨I'.kIn,wpAny_call ?_⟩
  generalize hs1:({s with heap:=h',toks:=tk}:Shared)=s1 at I'
  have hh1:s1.heap=h':=by rw [←hs1]
  have hrN:HR X.K m h H':=hr1.tab kp same tab' tab et0 haP
  have frLt:∀b∈frs X.stack,b<s.heap.objs.size:=fun b hb=>by
   obtain ⟨_,o,ho,_⟩:=I.stack.mem hb
   exact Ax ho
  have cof:∀x c,cl.lookup x=some c→X.env.cells.lookup x=some c:=fun x c e=>(hcl x c (mem_of_lookup e)).1
  have hasC:∀x,scope.names.lookup x=some .free→∃c,cl.lookup x=some c:=fun x e=>by
   obtain ⟨c,hc⟩:=hcl2 _ (mem_of_lookup e) rfl
   exact XG hc
  have C1:G5 s1.heap H' X.stack Nc scope cl vs:=by
   refine ⟨by rw [vlen,S.len],fun x y c e1 e2=>I.ok.inj x y c (cof x c e1) (cof y c e2),hasC,fun x c e=>?_,fun i x v e1 e2=>?_⟩
   ·refine ⟨I'.cell x c (cof x c e),I'.freeC x c (cof x c e),fun z=>?_⟩
    rcases qa4.mp (I.stkSub c z) with z |z
    ·exact I.cne x c (cof x c e) z
    ·obtain ⟨_,o,ho,_⟩:=I.ok.funs.mem z
     exact absurd (AX (Ax ho) (I.ok.cab x c (fna x) (cof x c e))) (B1 _)
   ·obtain ⟨j,ej,sj⟩:=vat i v e2
    obtain ⟨hN,hf⟩:=S.at_ e1 ej
    have hk:=S.fr _ (mem_of_lookup hf) rfl
    obtain ⟨m0,hn0,hl0⟩:=I'.loc
    obtain ⟨u,r,lk⟩:=hl0 j x v hN sj (by rcases hk with z |z;exact .inr (.inl z);exact .inr (.inr z))
    refine ⟨hf,?_⟩
    rcases lk with ⟨z,_⟩ |⟨_,c,e3,e4⟩
    ·rcases hk with y |y<;>(rw [z] at y;cases y)
    ·obtain ⟨c2,e5⟩:=hasC x hf
     have:=cof x c2 e5
     rw [e3] at this
     cases this
     exact ⟨c,u,e5,e4,r⟩
  obtain ⟨oc,od,kV,doc,pm2,an,cdv,ct,osl,rfl,lk,hcd⟩:=Fn.ex
  have e0:=I'.env0
  have KX:X.K.In s1.heap:=I'.kIn
  have lim:s1.heap.NoLimit:=I'.nolimit
  have hkind2:∀y∈(["_law_call"]:List Str).zip [Value.ref a],(defScope st).names.lookup y.1=some .local∨((defScope st).names.lookup y.1=some .cell∧((cellsFrom (s1.heap.objs.size+1) (defScope st).names []).lookup y.1).isSome=true):=fun y hy=>by
   have:y=(("_law_call":Str),Value.ref a):=by simpa using hy
   subst this
   exact .inl hk0
  have bt:=hbd s1 [.ref a] I'.kIn rfl
  rw [DP] at bt
  refine codeAny_mono (R:=CR (AL X.prog X.w X.K) X.stack X.prog X.w H' s1 Q E) ?_ fun r s' hq=>?_
  ·refine codeAny_call_function hr.depth (KX _ _ lk) rfl Sf.co Sf.gen rfl (PySem.W.codeRec_of KX hcd) (bt _ _ _ _ ?_)
   refine wpAny_newFunctionEnv_cells Sf.kind hkind2 fun env he2 s2 x=>?_
   subst he2
   refine ⟨lim.keeps x.toInCall.keep,codeAny_func ?_⟩
   have I2:Inv (Bv (AL X.prog X.w X.K) X.prog X.w X.K X.mg X.base ["_law_call","_law_word","_law_e"] "_law_said" (defScope st) fs cdv X.A X.stack s1 H' E) [] (L2.start ["_law_call","_law_word","_law_e"] [.ref a]) H' s2:=
    NB Sf hr.hd e0 rfl (.cons rfl .nil) x
   obtain ⟨ps,hps,hca⟩:=code
   have tri:TriplesOk ps.toList:=by
    obtain ⟨_,ps',z1,z2,_⟩:=tab'
    rw [hps] at z1;cases z1;exact z2
   have SX:SaidX g (Bv (AL X.prog X.w X.K) X.prog X.w X.K X.mg X.base ["_law_call","_law_word","_law_e"] "_law_said" (defScope st) fs cdv X.A X.stack s1 H' E) P a c' lpos Nc params body scope cl pm ctv vs:=
    ⟨rfl,hk0,hk1,hk2,⟨c,L.tp⟩,⟨ps,hps,tri,hca⟩,by show s1.heap.get? a=_;rw [hh1];exact ob,no,fun z=>absurd (AX (frLt a z) hsz) (B1 _),C1⟩
   have hrS:Room (k+1) (Bv (AL X.prog X.w X.K) X.prog X.w X.K X.mg X.base ["_law_call","_law_word","_law_e"] "_law_said" (defScope st) fs cdv X.A X.stack s1 H' E).A:=hr.deeper _
   have bx:=IF (K0 (X:=Bv (AL X.prog X.w X.K) X.prog X.w X.K X.mg X.base ["_law_call","_law_word","_law_e"] "_law_said" (defScope st) fs cdv X.A X.stack s1 H' E) (E:=E) (i:=1) (pos:=p3) (pos':=p1) Sf.nd rfl (Or.inl hk1) (NR (x:="told") (j:=j1) (pos:=p2)))
    (IF (XF (j:=j) (p4:=p4) (p5:=p5) (p6:=p6) (p7:=p7) (p8:=p8) (p9:=p9) (p10:=p10) (p11:=p11) (p12:=p12) (p13:=p13) (p14:=p14) Jd SX hrS et hsw (hgS _ _) (hgK _ _) hkind S.lam (hbind cl pm (.ref c') ctv) (fun s H E'=>hb a (.ref c') cl _ _ s H E'))
     (IE (N5 (pos:=p16) (KU (Kr (i:=1) (x:="_law_word") (pos:=p15) rfl (.inl hk1))))))
   rw [←hst] at bx
   have post:FI X.K E (Ag (Ao 1 (mC (.str "told"))) (Ag (Jk j g a vs Fk f) (Aq (Aa 1)))) {nx:=fun _ H''=>Q .non H'',rt:=Q} (L2.start ["_law_call","_law_word","_law_e"] [.ref a]) H':=by
    refine ⟨m,[some (.clo a vs ds),none,none],h,hrN,?_,?_⟩
    ·refine ⟨rfl,fun i d e=>?_⟩
     match i,e with
     |0,e=>cases e;exact ⟨.ref a,rfl,by unfold DV;exact ⟨rfl,DVs.keep (AA _) kp dvs⟩⟩
     |1,e=>cases e
     |2,e=>cases e
     |i+3,e=>cases e
    ·have p2:=Post.ahead (AA m) kp pp
     unfold Ag Ao mC
     simp only [Out.bind_ok]
     unfold Jk
     simp only [List.set_cons_succ,List.set_cons_zero,List.getElem?_cons_zero,et0,and_self,if_true]
     unfold Lz at p2
     cases ho:f (ds.map some) h with
     |stuck=>rw [ho] at p2;exact p2.elim
     |ok d h1=>
      rw [ho] at p2
      exact fun m' H'' p1 k1 hr' v rv=>p2 v m' H'' p1 k1 hr' rv
     |err Cv fs h1=>
      rw [ho] at p2
      cases Cv with
      |str n t=>
       simp only at p2 ⊢
       split at p2
       ·rename_i hn
        simp only [hn,if_true]
        cases hi:D2 fs with
        |none=>rw [hi] at p2;exact p2.elim
        |some is=>
         rw [hi] at p2
         simp only at p2 ⊢
         cases hk:Fk [.exc n is] h1 with
         |stuck=>rw [hk] at p2;exact p2.elim
         |err _ _ _=>rw [hk] at p2;exact p2.elim
         |ok d h2=>
          rw [hk] at p2
          exact fun m' H'' p1 k1 hr' v rv=>p2 v m' H'' p1 k1 hr' rv
       ·exact p2.elim
      |_=>exact p2.elim
   refine wpAny_mono (bx [] s2 _ H' _ I2 post) (fun fl s' hs=>?_) fun e s' hs=>hs
   cases fl with
   |ret u=>
    obtain ⟨v,σ',H'',J,rv,q⟩:=hs
    exact ⟨v,H'',J.os,J.bare,J.base,J.hok,rv,q⟩
   |next=>
    obtain ⟨σ',H'',J,q⟩:=hs
    exact ⟨V.non,H'',J.os,J.bare,J.base,J.hok,rfl,q⟩
   |brk=>
    obtain ⟨_,_,_,q⟩:=hs
    exact False.elim q
   |cont=>
    obtain ⟨_,_,_,q⟩:=hs
    exact False.elim q
  ·cases r with
   |error e=>exact Lo lv pins σ H' s1 e s' I' hq
   |ok fl=>
    cases fl with
    |ret u=>exact I'.after hq
    |next=>exact False.elim hq
    |brk=>exact False.elim hq
    |cont=>exact False.elim hq
 ·exact pp.elim
end
end LS
namespace LS
open PySem PySem.Spec PyProof.Rows L2 PySem.W
def FZ (mg:Str→Option Value) (base:Heap):Prop:=∃bm o,mg "__builtins__"=some (.ref bm)∧bm≠builtinsNs∧base.get? bm=some o∧o.cls=.type "module"∧o.dict=some builtinsNs∧o.data=.plain
open AutoSeq1 (wpAny_loadPart')
theorem XI:fillsNumberSlot (.type "tuple") "mul"=pure false:=by
 first |exact noFill_tuple_mul' |(unfold fillsNumberSlot;kernel_rfl)
theorem XJ:seqRepeat? (.type "tuple")=pure (some (.builtin "tuple.__mul__")):=by
 unfold seqRepeat?
 rw [PySem.seqSlot_of (T:="tuple") (name:="__mul__") (id:="tuple.__mul__") F.slot_tuple_mul.lookup (by decide +kernel),PySem.seqSlot_of (T:="tuple") (name:="__rmul__") (id:="tuple.__rmul__") (by rw [typeLookup_type,builtinLookup_eq_fast];kernel_rfl) (by decide +kernel)]
 rfl
theorem XM (a:Int) (t:Tok) (l:Addr) (items:Array Value) (n:Nat) (dd:Option Addr) (sl:Array (Option Value)):
 Meets (Builtin.«int.__rmul__» ⟨[.int a t,.ref l],[]⟩) (fun _ R s=>s.heap.get? l=some {cls:=.type "tuple",dict:=dd,data:=.seq items n,slots:=sl}∧R (.ok (.ret Value.notImplemented)) s):=
 .of_wp fun prog w A R s h=>by
  obtain ⟨hp,g,d,tk,os⟩:=s;obtain ⟨hl,h⟩:=h
  wp_walk;exact ⟨_,rfl,h⟩
theorem XN (l:Addr) (items:Array Value) (n:Nat) (dd:Option Addr) (sl:Array (Option Value)) (x:Int) (u:Tok) (h1:1<x) (h2:x<2^63) (hne:items.isEmpty=false) (hz:items.size*x.toNat≤sizeLine):
 Meets (Builtin.«tuple.__mul__» ⟨[.ref l,.int x u],[]⟩) (fun _ R s=>s.heap.get? l=some {cls:=.type "tuple",dict:=dd,data:=.seq items n,slots:=sl}∧R (.ok (.ret (Value.ref s.heap.objs.size))) {s with heap:=s.heap.push {cls:=Value.type "tuple",data:=Data.seq (List.foldl (fun x1 x2=>x1++x2) #[] (List.replicate x.toNat items))}}):=
 .of_wp fun prog w A R s h=>by
  obtain ⟨hp,g,d,tk,os⟩:=s;obtain ⟨hl,h⟩:=h
  have c1:(decide (x < -2^63)||decide (x≥2^63))=false:=by simp;omega
  have c2:(items.isEmpty||x==1)=false:=by
   rw [hne,Bool.false_or]
   exact beq_eq_false_iff_ne.mpr (by omega)
  have c3:(decide (x≤0)||items.isEmpty)=false:=by
   rw [hne,GG]
   exact decide_eq_false (by omega)
  have hx:(x.toNat:Int)=x:=Int.toNat_of_nonneg (by omega)
  have hz':(items.size:Int)*x≤sizeLine:=by rw [←hx];exact_mod_cast hz
  have c4:¬((items.size:Int)*x>(2^63 - 1) / 8):=by
   have:(sizeLine:Int)≤(2^63 - 1) / 8:=by decide
   omega
  have c5:Builtin.Tuple.tupleTooMany ((items.size:Int)*x)=false:=by
   unfold Builtin.Tuple.tupleTooMany
   exact decide_eq_false (by omega)
  have c6:(List.foldl (fun x1 x2=>x1++x2) #[] (List.replicate x.toNat items)).size≤sizeLine:=by
   have f0:=Ii items.toList x.toNat []
   rw [HI] at f0
   have:List.foldl (fun x1 x2=>x1++x2) #[] (List.replicate x.toNat items)=(List.replicate x.toNat items.toList).flatten.toArray:=by simpa using f0
   rw [this,Bu,Ij,Nat.mul_comm]
   simpa using hz
  wp_walk using wpAny_loadPart' hl
  rw [c1]
  simp only [Bc,if_false]
  refine wpAny_bind ?_
  unfold Builtin.Tuple.tupleItemsOf
  wp_walk using wpAny_loadPart' hl
  rw [c2]
  simp only [Bc,if_false]
  rw [c3]
  simp only [Bc,if_false]
  rw [if_neg c4,c5]
  simp only [Bc,if_false]
  refine wpAny_bind (wpAny_newObj_type (wpAny_pure ⟨_,rfl,h⟩) c6)
theorem XO (l:Addr) (items:Array Value) (n:Nat) (dd:Option Addr) (sl:Array (Option Value)) (u:Tok):
 Meets (Builtin.«tuple.__mul__» ⟨[.ref l,.int 1 u],[]⟩) (fun _ R s=>s.heap.get? l=some {cls:=.type "tuple",dict:=dd,data:=.seq items n,slots:=sl}∧R (.ok (.ret (Value.ref l))) s):=
 .of_wp fun prog w A R s h=>by
  obtain ⟨hp,g,d,tk,os⟩:=s;obtain ⟨hl,h⟩:=h
  have c1:(decide ((1:Int) < -2^63)||decide ((1:Int)≥2^63))=false:=by decide
  have c2:(items.isEmpty||(1:Int)==1)=true:=by simp
  wp_walk using wpAny_loadPart' hl
  exact ⟨_,rfl,h⟩
theorem XQ (l:Addr) (items:Array Value) (n:Nat) (dd:Option Addr) (sl:Array (Option Value)) (x:Int) (u:Tok) (h1:-(2^63)≤x) (h2:x≤0) (hne:items.isEmpty=false):
 Meets (Builtin.«tuple.__mul__» ⟨[.ref l,.int x u],[]⟩) (fun _ R s=>s.heap.get? l=some {cls:=.type "tuple",dict:=dd,data:=.seq items n,slots:=sl}∧R (.ok (.ret (Value.ref s.heap.objs.size))) {s with heap:=s.heap.push {cls:=Value.type "tuple",data:=Data.seq #[]}}):=
 .of_wp fun prog w A R s h=>by
  obtain ⟨hp,g,d,tk,os⟩:=s;obtain ⟨hl,h⟩:=h
  have c1:(decide (x < -2^63)||decide (x≥2^63))=false:=by simp;omega
  have c2:(items.isEmpty||x==1)=false:=by
   rw [hne,Bool.false_or]
   exact beq_eq_false_iff_ne.mpr (by omega)
  have c3:(decide (x≤0)||items.isEmpty)=true:=by
   rw [hne,GG]
   exact decide_eq_true h2
  wp_walk using wpAny_loadPart' hl
  rw [c1]
  simp only [Bc,if_false]
  refine wpAny_bind ?_
  unfold Builtin.Tuple.tupleItemsOf
  wp_walk using wpAny_loadPart' hl
  rw [c2]
  simp only [Bc,if_false]
  rw [c3]
  simp only [if_true]
  refine wpAny_bind (wpAny_newObj_type (wpAny_pure ⟨_,rfl,h⟩) (by show (#[]:Array Value).size≤sizeLine;simp))
section
variable {X:Cx} {E:XK}
def XR (K:Frag):R2:=fun x y H Q=>∃l k xs,x=.ref l∧y=.int k∧H l=some (.tup xs)∧xs≠[]∧-(2^63)≤k∧k<2^63∧xs.length*k.toNat≤sizeLine∧(k=1→Q (.ref l) H)∧
 ∀p,H p=none→Q (.ref p) (Ah H p (.tup (List.replicate k.toNat xs).flatten))
theorem Inv.tnew {pins:List (Addr×Obj)} {σ:L2.St} {H:Hp} {s:Shared} {ys:List V} {its:List Value} {t':Nat} (I:Inv X pins σ H s) (hv:Vals ys its) (hz:ys.length≤sizeLine):
 Inv X pins σ (Ah H s.heap.objs.size (.tup ys)) {s with heap:=s.heap.push {cls:=.type "tuple",data:=.seq its.toArray},toks:=t'}:=
 I.laid (fun _ _ q=>AB _ q) (Am _) ⟨hz,its,hv,⟨_,AW _ rfl,rfl,0,rfl⟩,NoDict.new⟩
theorem op_repT:OpR X (binaryOp .Mult) (XR X.K):=by
 intro pins s σ H x y v u Q I rx ry h
 obtain ⟨l,k,xs,rfl,rfl,hH,hne,h1,h2,hz,q1,q⟩:=h
 cases rx
 obtain ⟨t,rfl⟩:=ry
 obtain ⟨z,its,r,⟨o,ho,hc,n,hd⟩,_⟩:=(show ObjOk X.prog X.w H s.heap l (.tup xs) from I.hok l _ hH)
 obtain ⟨oc,dd,dat,sl⟩:=o
 simp only at hc hd
 subst hc hd
 have hl:=r.length
 have hine:its.toArray.isEmpty=false:=by
  cases its with
  |nil=>exfalso;cases xs with
   |nil=>exact hne rfl
   |cons _ _=>simp at hl
  |cons a b=>simp
 have mul:∀{Q':Value→Shared→Prop},wpAny (model X.prog X.w) X.A (call (.builtin "tuple.__mul__") [.ref l,.int k t]) Q' X.xe s→wpAny (model X.prog X.w) X.A (binaryOp .Mult (.ref l) (.int k t)) Q' X.xe s:=fun {Q'} hq=>
  wpAny_binaryOp_repeat_ref (T:="tuple") (U:="int") (by decide) ⟨_,ho,rfl⟩ (fun s'=>typeIs_int s' k t) XI F.fills_int_mul F.slot_int_rmul XJ F.slot_int_index.lookup
   (call_meets F.slot_int_rmul (typeIs_int s k t) F.entry_int_rmul (F.args_int_rmul_2 _ _) (XM k t l its.toArray n dd sl) ⟨ho,rfl,⟨_,ho,rfl⟩,hq⟩)
 refine mul ?_
 rcases Int.lt_trichotomy k 1 with hk |hk |hk
 ·refine call_meets F.slot_tuple_mul ⟨_,ho,rfl⟩ F.entry_tuple_mul (F.args_tuple_mul_2 _ _) (XQ l its.toArray n dd sl k t h1 (by omega) hine) ⟨ho,?_⟩
  have e:(List.replicate k.toNat xs).flatten=[]:=by
   have:k.toNat=0:=by omega
   rw [this];rfl
  have:=q _ I.fresh
  rw [e] at this
  exact ⟨.ref _,_,LS.Inv.tnew (its:=[]) (t':=s.toks) I .nil (B2 _),rfl,this⟩
 ·subst hk
  refine call_meets F.slot_tuple_mul ⟨_,ho,rfl⟩ F.entry_tuple_mul (F.args_tuple_mul_2 _ _) (XO l its.toArray n dd sl t) ⟨ho,?_⟩
  exact ⟨.ref l,H,I,rfl,q1 rfl⟩
 ·refine call_meets F.slot_tuple_mul ⟨_,ho,rfl⟩ F.entry_tuple_mul (F.args_tuple_mul_2 _ _) (XN l its.toArray n dd sl k t hk h2 hine (by rw [Bu,←hl];exact hz)) ⟨ho,?_⟩
  have f0:=Ii its k.toNat []
  rw [HI] at f0
  have f1:List.foldl (fun x1 x2=>x1++x2) #[] (List.replicate k.toNat its.toArray)=(List.replicate k.toNat its).flatten.toArray:=f0
  rw [f1]
  exact ⟨.ref _,_,LS.Inv.tnew (t':=s.toks) I (r.rep k.toNat) (by rw [Ij,Nat.mul_comm];exact hz),rfl,q _ I.fresh⟩
noncomputable def Cp:D→D→HD→Out D:=fun x y h=>match x,y with
 |.tup xs,.int k=>@ite _ (xs≠[]∧-(2^63)≤k∧k<2^63∧xs.length*k.toNat≤sizeLine) (Classical.propDecidable _) (.ok (.tup (List.replicate k.toNat xs).flatten) h) .stuck
 |_,_=>CH x y h
theorem XS:Bw X (binaryOp .Mult) Cp:=by
 obtain ⟨r0,hr0,i0⟩:=Ww (X:=X)
 refine ⟨_,op_repT.or hr0,fun m H h E x y v u Q hr rx ry q=>?_⟩
 unfold Cp at q
 split at q
 ·rename_i xs k
  split at q
  ·rename_i hc
   obtain ⟨hne,h1,h2,hz⟩:=hc
   simp only [DV] at rx ry
   obtain ⟨a,vs,rfl,ha,dv⟩:=rx
   subst ry
   refine .inl ⟨a,k,vs,rfl,rfl,ha,?_,h1,h2,by rw [←dv.len];exact hz,fun e=>?_,?_⟩
   ·intro e;have:=dv.len;rw [e] at this;exact hne (qbF.mp this)
   ·subst e
    refine AN hr q ?_
    simp only [DV]
    exact ⟨a,vs,rfl,ha,by simpa using dv⟩
   ·exact FK hr (DVs.rep dv k.toNat) q
  ·exact q.elim
 ·exact .inr (i0 m H h E x y v u Q hr rx ry q)
end
end LS
namespace LS
open PySem PySem.Spec PyProof.Rows L2 PySem.W
section
variable {X:Cx} {E:XK}
abbrev MJ:=Str→Ae→HD→Out Str
def XT:MJ:=fun acc _ h=>if acc.length≤sizeLine then .ok acc h else .stuck
def XU (y:Str) (r:MJ):MJ:=fun acc ρ h=>if (acc++y).length≤sizeLine then r (acc++y) ρ h else .stuck
def Pe (f:ME) (r:MJ):MJ:=fun acc ρ h=>(f ρ h).bind fun d h1=>match d with
 |.int i=>if i.natAbs.log2<1920∧(acc++(toString i:Str)).length≤sizeLine then r (acc++(toString i:Str)) ρ h1 else .stuck
 |_=>.stuck
def LA (fj:MJ):ME:=fun ρ h=>(fj Str.empty ρ h).bind fun x h1=>.ok (.str x) h1
def DE:D→HD→Out D:=fun x h=>match AR h 8 x with
 |some p=>if p.showable=true∧p.hasDict=false∧p.depth≤40∧p.shown.length≤sizeLine then .ok (.str p.shown) h else .stuck
 |none=>.stuck
theorem XW (hu:X.A.units+64<cLine) (hg:X.A.guards=some []):B9 X (.builtin "repr") (Ai DE):=by
 refine O3 (fun ds h=>?_) fun pins s σ H m h ds vs us Q I hr rd r q=>Ew rd q fun x v ev rx q=>?_
 ·unfold Ai DE
  repeat' split
  all_goals trivial
 ·subst ev
  obtain ⟨u,rfl,ru⟩:=Cy r
  unfold DE at q
  split at q
  ·rename_i p e
   split at q
   ·rename_i hc
    obtain ⟨h1,h2,h3,h4⟩:=hc
    obtain ⟨as,hd⟩:=KY I.hok hr 8 x v u p rx ru e
    have Ay:∀(h':Heap) (t tk:Tok),(∀b o,s.heap.get? b=some o→h'.get? b=some o)→EP X pins σ Q (.str p.shown t) {s with heap:=h',toks:=tk}:=fun h' t tk hk=>⟨.str p.shown,H,I.kept hk,⟨t,rfl⟩,AN hr q (by simp [DV])⟩
    cases hd with
    |list a1 a2 a3 a4=>exact repr_of_reads' (.list a1 a2 a3 a4) h1 (fun z=>by rw [h2] at z;cases z) hg (by omega) (fun _ _ e=>e) Ay h4
    |tuple a1 a2 a3 a4=>exact repr_of_reads' (.tuple a1 a2 a3 a4) h1 (fun z=>by rw [h2] at z;cases z) hg (by omega) (fun _ _ e=>e) Ay h4
    |dict a1 a2 a3 a4 a5=>cases h2
    |int i t=>
     have h1':i.natAbs.log2<1920:=by simpa [PyData.showable] using h1
     exact PySem.P.repr_of_int h1' (Ay s.heap _ _ fun _ _ e=>e)
    |none=>exact PySem.P.repr_of_none (Ay s.heap _ _ fun _ _ e=>e)
    |bool b=>exact PySem.P.repr_of_bool (Ay s.heap _ _ fun _ _ e=>e)
    |str x t=>exact PySem.P.repr_of_str (Ay s.heap _ _ fun _ _ e=>e) (by simpa [PyData.shown] using h4)
   ·exact q.elim
  ·exact q.elim
def BQ:D→D→HD→Out D:=fun x y h=>match x,y with
 |.str a,.str b=>.ok (.bl (a==b)) h
 |_,_=>GU x y h
def BA:D→D→HD→Out D:=fun x y h=>match x,y with
 |.str a,.str b=>.ok (.bl (!(a==b))) h
 |_,_=>CU x y h
theorem Pf (hu:X.A.units+64<cLine):Bw X (compareOp .Eq) BQ:=by
 obtain ⟨r0,hr0,i0⟩:=VB (X:=X) hu
 refine ⟨_,op_eq.or hr0,fun m H h E x y v u Q hr rx ry q=>?_⟩
 unfold BQ at q
 split at q
 ·simp only [DV] at rx ry
  subst rx ry
  exact .inl ⟨rfl,by rw [H0];exact AN hr q (by simp [DV])⟩
 ·exact .inr (i0 m H h E x y v u Q hr rx ry q)
theorem XX (hu:X.A.units+64<cLine):Bw X (compareOp .NotEq) BA:=by
 obtain ⟨r0,hr0,i0⟩:=VC (X:=X) hu
 refine ⟨_,op_ne.or hr0,fun m H h E x y v u Q hr rx ry q=>?_⟩
 unfold BA at q
 split at q
 ·simp only [DV] at rx ry
  subst rx ry
  exact .inl ⟨rfl,by rw [H0];exact AN hr q (by simp [DV])⟩
 ·exact .inr (i0 m H h E x y v u Q hr rx ry q)
def Jl:List Nat→List D→Ae→Option Ae
 |[],[],ρ=>some ρ
 |i::is,d::ds,ρ=>Jl is ds (ρ.set i (some d))
 |_,_,_=>none
def F0 (is:List Nat):MG:=fun d ρ=>match d with
 |.tup ds=>Jl is ds ρ
 |_=>none
def LC:List Nat→DS
 |[]=>Ei
 |i::is=>B7 (BO i) (LC is)
theorem Pg:∀{is:List Nat} {ds:List D} {ρ ρ':Ae},Jl is ds ρ=some ρ'→ds.length=is.length
 |[],[],_,_,_=>rfl
 |[],_::_,_,_,e=>by cases e
 |_::_,[],_,_,e=>by cases e
 |_::is,_::ds,_,_,e=>by simpa using Pg (is:=is) (ds:=ds) e
theorem Ph {K:Frag} {m:List Addr} {H:Hp}:∀{is:List Nat} {ds:List D} {vs:List V} {ρ ρ':Ae} {σ:L2.St} {Q:L2.St→Hp→Prop},DVs K m H ds vs→ER K m H ρ σ→Jl is ds ρ=some ρ'→(∀σ',ER K m H ρ' σ'→Q σ' H)→LC is vs σ H Q
 |[],[],vs,ρ,ρ',σ,Q,r,er,e,q=>by
  simp only [DVs] at r
  subst r
  cases e
  exact ⟨rfl,q σ er⟩
 |[],_::_,_,_,_,_,_,_,_,e,_=>by cases e
 |_::_,[],_,_,_,_,_,_,_,e,_=>by cases e
 |i::is,d::ds,vs,ρ,ρ',σ,Q,r,er,e,q=>by
  simp only [DVs] at r
  obtain ⟨v,w,rfl,rv,rw'⟩:=r
  exact ⟨v,w,rfl,Ph rw' (er.set rv) e q⟩
theorem XY {es:List Expr} {is:List Nat} {kt:Nat} {pos:Pos} (h:PG X (.Tuple es kt pos) (Ej X.K is.length (LC is))):Ey X (.Tuple es kt pos) (F0 is):=⟨_,h,fun m H d v ρ σ ρ' Q r er e q=>by
 unfold F0 at e
 split at e
 ·rename_i ds
  simp only [DV] at r
  obtain ⟨p,vs,rfl,hp,dv⟩:=r
  exact ⟨p,vs,rfl,SqT.of hp,by rw [←dv.len];exact Pg e,Ph dv er e q⟩
 ·cases e⟩
end
variable {g:Str}
theorem LD {K:Frag} (h:etOk K=true) {n:Str} (hn:n∈excNames):∃C,nsIn K mainGlobals n=some (some (.ref C)):=by
 unfold etOk at h
 split at h
 ·rename_i S hS
  have h1:=qaM.mp h n hn
  cases e:DA K n with
  |none=>rw [e] at h1;cases h1
  |some C=>exact ⟨C,O1 e⟩
 ·cases h
section
variable {X:Cx} {E:XK}
theorem XZ {x:Str} {pos:Pos} (et:etOk X.K=true) (hn:x∈excNames) (hg:Gl X x:=by rfl) (hd:(x==("__debug__":Str))=false:=by decide):Ev X E (.Name x pos) (mC (.glo x)):=by
 obtain ⟨a,h⟩:=LD et hn
 exact O2 hg h hd
theorem X0 {x:Str} {e:Expr} {es:List Expr} {fa:MA} {np cpos pos:Pos} (et:etOk X.K=true) (hn:x∈excNames) (hne:x≠"TooMany") (hg:Gl X x) (hc:X.calm=true) (th:Lr X E) (ha:Cj X E (e::es) fa)
 (hdb:(x==("__debug__":Str))=false:=by decide) (he:starEach (e::es) X.env=(false,eval e X.env)::starEach es X.env:=by rfl) (hpl:(backTo cpos (starEach (e::es) X.env)).any (·.1)=false:=by rfl):
 Ex X E (.Raise (some (.Call (.Name x np) (e::es) [] cpos)) none pos) (E3 x fa):=by
 obtain ⟨C,h⟩:=LD et hn
 exact WZ ((Ji et hn h).at_ hne) h hg hc th ha hdb he hpl
end
theorem CaM.mono {P:Program} {w:World} {K:Frag} {mg:Str→Option Value} {base:Heap} {x:Str} {j k:Nat} {F:List D→HD→Out D} (C:CaM P w K mg base x j F) (h:j≤k):CaM P w K mg base x k F:=by
 obtain ⟨f,fd,ps,G,r⟩:=C.ex
 exact ⟨f,fd,ps,⟨fun A outer s H args us vs Q hr=>G.run A outer s H args us vs Q (hr.mono h)⟩,r⟩
structure SaidD (K:Frag) (mg:Str→Option Value) (st:Stmt) (fs:Addr) (fd:FuncData):Prop where
 fn:Fun K "_law_said" "_law_said" st fs fd
 bd:Binds K fd ["_law_call"] []
 mg:mg "_law_said"=some (.ref fs)
structure LG (st:Stmt):Prop where
 sc:CP ["_law_call","_law_word","_law_e"] ["_law_call"] (defScope st)
 k0:(defScope st).names.lookup ("_law_call":Str)=some .local
 k1:(defScope st).names.lookup ("_law_word":Str)=some .local
 k2:(defScope st).names.lookup ("_law_e":Str)=some .local
 gS:(defScope st).names.lookup ("SwitchError":Str)=some .globalImplicit
 gK:(defScope st).names.lookup ("_law_kind":Str)=some .globalImplicit
 tx:∃p1 j1 p2 p3 p4 p5 p6 p7 p8 p9 p10 p11 p12 p13 p14 p15 p16,defBody st=[.Assign [.Name "_law_word" p1] (.Constant (.str "told") j1 p2) p3,.Try [.Expr (.Call (.Name "_law_call" p4) [] [] p5) p6] [.ExceptHandler (some (.Name "SwitchError" p7)) (some "_law_e") [.Assign [.Name "_law_word" p8] (.Call (.Name "_law_kind" p9) [.Name "_law_e" p10] [] p11) p12] p13] [] [] p14,.Return (some (.Name "_law_word" p15)) p16]
theorem X1 {j:Nat} {X:Cx} {E:XK} {c P:Addr} {Nc:List Str} {cs:List Nat} {params:Arguments} {body:Expr} {scope:Scope} {k kk:Nat} {Fk:List D→HD→Out D} {f:ME} {fs:Addr} {fd:FuncData} {st:Stmt} {lpos p pos:Pos}
 (L:LamX g X c P) (fna:∀x,X.fn x=true) (hr:Room kk X.A) (lv:Lv X E) (et:etOk X.K=true) (Sd:SaidD X.K X.mg st fs fd) (St:LG st) (hkind:CaM X.prog X.w X.K X.mg X.base "_law_kind" k Fk) (S:LSc X scope Nc cs)
 (hb:∀(a:Addr) (cd:Value) (cl:List (Str×Addr)) (A:Around) (outer:List Env) (s:Shared) (H:Hp) (E':XK),Room k (A.deeper (envX (A6 g) scope s.heap.objs.size a cd cl))→Ev (DD g X.prog X.w X.K X.mg X.base Nc scope a cd cl A outer s H E') E' body f)
 (hg:Gl X "_law_said") (hkk:k+2≤kk:=by decide) (hdef:defaultsOf params X.env=([],[]):=by rfl)
 (hbind:∀(cl:List (Str×Addr)) (pm cv ctv:Value),bindArgs (kla_fn "<lambda>" (A6 g) params body scope cl pm cv ctv) ⟨[],[]⟩=pure []:=by exact fun _ _ _ _=>rfl)
 (he:starEach [.Lambda params body scope lpos] X.env=(false,eval (.Lambda params body scope lpos) X.env)::starEach [] X.env:=by rfl) (hpl:(backTo pos (starEach [] X.env)).any (·.1)=false:=by rfl):
 Ev X E (.Call (.Name "_law_said" p) [.Lambda params body scope lpos] [] pos) (D3 j g cs Fk f):=by
 obtain ⟨p1,j1,p2,p3,p4,p5,p6,p7,p8,p9,p10,p11,p12,p13,p14,p15,p16,hst⟩:=St.tx
 exact XH L fna (hr.mono hkk) lv et (LD et (by decide +kernel)) Sd.fn Sd.bd Sd.mg Sd.fn.kp St.sc St.k0 St.k1 St.k2 (fun _ _=>St.gS) (fun _ _=>St.gK) hst hkind hg S hdef hbind hb he hpl
theorem Pi {P:Program} {w:World} {K:Frag} {mg:Str→Option Value} {base:Heap} {x qual:Str} {st:Stmt} {f:Addr} {kV doc pm cdv ct oc:Value} {an od:Option Addr} {osl:Array (Option Value)} {N ps:List Str} {k:Nat} {F:List D→HD→Out D} {g:MS}
 (lk:K.lookup f=some ⟨oc,od,.func (PySem.W.fnOf x qual (defArgs st) (defBody st) (defScope st) .none kV doc pm an cdv ct),osl⟩) (hcd:PySem.W.codeIn K cdv qual=true) (S:CP N ps (defScope st)) (ar:Ar ps.length F)
 (hg:∀ds h,ds.length=ps.length→F ds h=AF N.length g ds h)
 (hbody:∀(A:Around) (outer:List Env) (s:Shared) (H:Hp) (E:XK),Room k (A.deeper (envOfC qual (defScope st) s.heap.objs.size f cdv))→B4 (Bv (AL P w K) P w K mg base N qual (defScope st) f cdv A outer s H E) E (defBody st) g):
 FnOk P w K mg base (AL P w K) (k+1) f (PySem.W.fnOf x qual (defArgs st) (defBody st) (defScope st) .none kV doc pm an cdv ct) ps (CZ K F):=by
 refine NC lk hcd S (fun vs H Q E h=>Jf ar h) fun A outer s H vs Q E hr h=>?_
 refine ⟨_,hbody A outer s H E hr,?_⟩
 have hl:=Jf ar h
 obtain ⟨m,ds,hd,hr1,r,p⟩:=h
 have hld:ds.length=ps.length:=by rw [r.len];exact hl
 refine ⟨m,ds.map some++List.replicate (N.length - ds.length) none,hd,hr1,ER.start r,?_⟩
 rw [hg ds hd hld] at p
 unfold AF at p
 cases o:g (ds.map some++List.replicate (N.length - ds.length) none) hd with
 |stuck=>rw [o] at p;exact p
 |err C fs h1=>rw [o] at p;exact p
 |ok a h1=>
  rw [o] at p
  obtain ⟨fl,ρ1⟩:=a
  intro m1 H1 p1 k1 hr1
  cases fl with
  |nx=>exact fun σ er=>p .non m1 H1 p1 k1 hr1 (by simp [rD,DV])
  |bk=>exact False.elim p
  |ct=>exact False.elim p
  |rt d=>exact fun v rv=>p v m1 H1 p1 k1 hr1 rv
def Zdu (K:Frag) (T:Addr):Bool:=match tabP K "law" with
 |some (c,T')=>T'==T&&codeHdIn K c T
 |none=>false
end LS
namespace LS
open PySem PySem.Spec PyProof.Rows L2
def We {α:Type} (o:Out α) (Q:α→HD→Prop) (R:Str→List (Str×D)→HD→Prop):Prop:=match o with
 |.ok a h=>Q a h
 |.err (.str n _) fs h=>R n fs h
 |_=>False
section
variable {α β:Type} {o:Out α} {Q Q':α→HD→Prop} {R R':Str→List (Str×D)→HD→Prop}
@[simp] theorem Zdv (a:α) (h:HD):We (.ok a h) Q R=Q a h:=rfl
@[simp] theorem Zdw (n:Str) (t:Tok) (fs:List (Str×D)) (h:HD):We (.err (.str n t) fs h:Out α) Q R=R n fs h:=rfl
@[simp] theorem Zdx:We .stuck Q R=False:=rfl
theorem BH {k:α→HD→Out β} {Q:β→HD→Prop}:We (o.bind k) Q R=We o (fun a h=>We (k a h) Q R) R:=by
 cases o with
 |ok a h=>rfl
 |err C fs h=>cases C<;>rfl
 |stuck=>rfl
theorem Wp.we (h:Wp o Q):We o Q R:=by
 cases o with
 |ok a h'=>exact h
 |_=>exact h.elim
theorem We.mono (h:We o Q R) (f:∀a h,Q a h→Q' a h) (g:∀n fs h,R n fs h→R' n fs h):We o Q' R':=by
 cases o with
 |ok a h'=>exact f _ _ h
 |err C fs h'=>cases C<;>first |exact g _ _ _ h |exact h.elim
 |stuck=>exact h
theorem Pu.we {h:HD} {a:α} (p:Pu o h a) (k:∀h',Sm h h'→Q a h'):We o Q R:=Wp.we (p.wp k)
end
def Er {α:Type} (o:Out α) (h:HD) (n:Str):Prop:=We o (fun _ _=>False) fun n' fs h'=>n'=n∧fs=[]∧Sm h h'
theorem Er.we {α:Type} {o:Out α} {h:HD} {n:Str} {Q:α→HD→Prop} {R:Str→List (Str×D)→HD→Prop} (e:Er o h n) (k:∀h',Sm h h'→R n [] h'):We o Q R:=We.mono e (fun _ _ z=>z.elim) fun n' fs h' z1_=>by obtain ⟨rfl,rfl,s⟩:=z1_;exact k h' s
theorem G6 {N:Nat} {g:MS} {ds:List D} {h:HD} {Q:D→HD→Prop} {R:Str→List (Str×D)→HD→Prop}:We (AF N g ds h) Q R=We (g (ds.map some++List.replicate (N - ds.length) none) h) (FR Q) R:=by
 unfold AF
 cases o:g (ds.map some++List.replicate (N - ds.length) none) h with
 |ok a h1=>
  obtain ⟨fl,ρ⟩:=a
  cases fl<;>rfl
 |err C fs h1=>cases C<;>rfl
 |stuck=>rfl
section
variable {ρ:Ae} {h:HD} {Q:Fl×Ae→HD→Prop} {QD:D→HD→Prop} {QB:Bool→HD→Prop} {R:Str→List (Str×D)→HD→Prop} {g g1 g2:MS} {f:ME} {t:MT} {fa:MA} {F:List D→HD→Out D}
def LH (g2:MS) (Q:Fl×Ae→HD→Prop) (R:Str→List (Str×D)→HD→Prop):Fl×Ae→HD→Prop
 |(.nx,ρ),h=>We (g2 ρ h) Q R
 |y,h=>Q y h
@[simp] theorem X2:LH g2 Q R (.nx,ρ) h=We (g2 ρ h) Q R:=rfl
@[simp] theorem Zdy {d:D}:LH g2 Q R (.rt d,ρ) h=Q (.rt d,ρ) h:=rfl
@[simp] theorem E7:We (Ag g1 g2 ρ h) Q R=We (g1 ρ h) (LH g2 Q R) R:=by
  unfold Ag
  rw [BH]
  congr 1
  funext x h1
  obtain ⟨fl,ρ1⟩:=x
  cases fl<;>rfl
@[simp] theorem Zdz:We (A0 ρ h) Q R=Q (.nx,ρ) h:=rfl
@[simp] theorem Jm:We (Cm f ρ h) Q R=We (f ρ h) (fun _ h1=>Q (.nx,ρ) h1) R:=by unfold Cm;rw [BH];rfl
@[simp] theorem ZdA:We (Aq f ρ h) Q R=We (f ρ h) (fun d h1=>Q (.rt d,ρ) h1) R:=by unfold Aq;rw [BH];rfl
@[simp] theorem Pj {i:Nat}:We (Ao i f ρ h) Q R=We (f ρ h) (fun d h1=>Q (.nx,ρ.set i (some d)) h1) R:=by unfold Ao;rw [BH];rfl
@[simp] theorem ZdB:We (AQ t g1 g2 ρ h) Q R=We (t ρ h) (fun b h1=>We (if b=true then g1 ρ h1 else g2 ρ h1) Q R) R:=by unfold AQ;rw [BH]
@[simp] theorem Jn:We (Ad F fa ρ h) QD R=We (fa ρ h) (fun ds h1=>We (F ds h1) QD R) R:=by unfold Ad;rw [BH]
@[simp] theorem ZdC {n:Str}:We (E3 n fa ρ h) Q R=We (fa ρ h) (fun xs h1=>We (if xs.length≤sizeLine then (.err (CI n) [] h1:Out (Fl×Ae)) else .stuck) Q R) R:=by unfold E3;rw [BH]
@[simp] theorem ZdD:We (Bx t ρ h) QB R=We (t ρ h) (fun b h1=>QB (!b) h1) R:=by unfold Bx;rw [BH];rfl
@[simp] theorem ZdE {u:MT}:We (Io t u ρ h) QB R=We (t ρ h) (fun b h1=>We (if b=true then u ρ h1 else .ok false h1) QB R) R:=by unfold Io;rw [BH]
@[simp] theorem ZdF {u:MT}:We (CA t u ρ h) QB R=We (t ρ h) (fun b h1=>We (if b=true then .ok true h1 else u ρ h1) QB R) R:=by unfold CA;rw [BH]
@[simp] theorem ZdG:We (BI f ρ h) QB R=We (f ρ h) (fun x h1=>We (CS x h1) QB R) R:=by unfold BI;rw [BH]
@[simp] theorem ZdH:We (AO f ρ h) QB R=We (f ρ h) (fun x h1=>We (GS x h1) QB R) R:=by unfold AO;rw [BH]
@[simp] theorem Jo {QA:List D→HD→Prop}:We (Ac ρ h) QA R=QA [] h:=rfl
@[simp] theorem Jp {QA:List D→HD→Prop}:We (Ab f fa ρ h) QA R=We (f ρ h) (fun x h1=>We (fa ρ h1) (fun xs h2=>QA (x::xs) h2) R) R:=by
  unfold Ab;simp only [BH];rfl
@[simp] theorem Jq {d:D} {r:Ae}:We (Aa 0 (some d::r) h) QD R=QD d h:=rfl
@[simp] theorem ZdI {i:Nat} {x:Option D} {r:Ae}:We (Aa (i+1) (x::r) h) QD R=We (Aa i r h) QD R:=rfl
@[simp] theorem ZdJ {d:D}:We (mC d ρ h) QD R=QD d h:=rfl
@[simp] theorem ZdK {op:D→D→HD→Out D} {f':ME}:We (Af op f f' ρ h) QD R=We (f ρ h) (fun x h1=>We (f' ρ h1) (fun y h2=>We (op x y h2) QD R) R) R:=by unfold Af;simp only [BH]
@[simp] theorem ZdL {fj:MJ}:We (LA fj ρ h) QD R=We (fj Str.empty ρ h) (fun x h1=>QD (.str x) h1) R:=by unfold LA;rw [BH];rfl
end
def Et {α:Type} (o:Out α) (h:HD) (n:Str) (fs:List (Str×D)):Prop:=We o (fun _ _=>False) fun n' fs' h'=>n'=n∧fs'=fs∧Sm h h'
theorem Et.we {α:Type} {o:Out α} {h:HD} {n:Str} {fs:List (Str×D)} {Q:α→HD→Prop} {R:Str→List (Str×D)→HD→Prop} (e:Et o h n fs) (k:∀h',Sm h h'→R n fs h'):We o Q R:=We.mono e (fun _ _ z=>z.elim) fun n' fs h' z1_=>by obtain ⟨rfl,rfl,s⟩:=z1_;exact k h' s
theorem X3 {j:Nat} {g:Str} {cs:List Nat} {Fk:List D→HD→Out D} {f:ME} {ρ:Ae} {h:HD} {ds:List D} {Q:D→HD→Prop} (ht:h[j]?=some (.tabn g)) (hd:AH (cs.map fun j=>(ρ[j]?).join)=some ds)
 (q:We (f (ds.map some) h) (fun _ h1=>Q (.str "told") h1) fun n fs h1=>n∈excNames∧∃is,D2 fs=some is∧Wp (Fk [.exc n is] h1) Q):Wp (D3 j g cs Fk f ρ h) Q:=by
 unfold D3
 rw [ht,hd]
 simp only [if_true]
 unfold Lz
 cases o:f (ds.map some) h with
 |ok a h1=>rw [o] at q;exact q
 |stuck=>rw [o] at q;exact q.elim
 |err C fs h1=>
  rw [o] at q
  cases C with
  |str n t=>
   obtain ⟨hn,is,hi,hk⟩:=(show n∈excNames∧∃is,D2 fs=some is∧Wp (Fk [.exc n is] h1) Q from q)
   simp only [hn,if_true,hi]
   cases e:Fk [.exc n is] h1 with
   |ok d h2=>rw [e] at hk;exact hk
   |_=>rw [e] at hk;exact hk.elim
  |_=>exact q.elim
def Rp (n L:Nat) (d:D):Prop:=∃p:PyData,(∀(h:HD) (m:Nat),AR h (n+m) d=some p)∧p.showable=true∧p.hasDict=false∧p.depth≤n∧p.shown.length≤L
theorem Pk {n L:Nat}:∀{ds:List D},(∀d∈ds,Rp n L d)→∃ps:List PyData,(∀(h:HD) (m:Nat),AH (ds.map (AR h (n+m)))=some ps)∧PyData.showableAll ps=true∧PyData.hasDictAll ps=false∧PyData.depthAll ps≤n∧ps.length=ds.length∧∀t∈PyData.shownAll ps,t.length≤L
 |[],_=>⟨[],fun _ _=>rfl,rfl,rfl,B2 _,rfl,fun t ht=>by cases ht⟩
 |d::ds,hd=>by
  obtain ⟨p,a1,a2,a3,a4,a5⟩:=hd d AU
  obtain ⟨ps,b1,b2,b3,b4,b5,b6⟩:=Pk (fun x hx=>hd x (AV _ hx))
  refine ⟨p::ps,fun h m=>?_,by simp [PyData.showableAll,a2,b2],by simp [PyData.hasDictAll,a3,b3],by simp only [PyData.depthAll];omega,by simp [b5],fun t ht=>?_⟩
  ·rw [A4,a1 h m]
   simp only [AH,b1 h m]
   rfl
  ·simp only [PyData.shownAll] at ht
   rcases qa4.mp ht with e |e
   ·rw [e];exact a5
   ·exact b6 t e
theorem Pl {L:Nat}:∀{ts:List Str},(∀t∈ts,t.length≤L)→piled ts≤ts.length*(L+2)
 |[],_=>by simp [piled]
 |t::ts,h=>by
  have h1:=h t AU
  have h2:=Pl (fun x hx=>h x (AV _ hx)) (ts:=ts) (L:=L)
  simp only [piled] at *
  simp [FB]
  omega
theorem Pm:∀{ps:List PyData},(PyData.shownAll ps).length=ps.length
 |[]=>rfl
 |p::ps=>by simp [PyData.shownAll,Pm (ps:=ps)]
theorem Jr {n L k:Nat} {ds:List D} (h:∀d∈ds,Rp n L d) (hk:ds.length≤k):Rp (n+1) (k*(L+2)+3) (.tup ds):=by
 obtain ⟨ps,b1,b2,b3,b4,b5,b6⟩:=Pk h
 refine ⟨.tuple ps,fun h m=>?_,by simpa [PyData.showable] using b2,by simpa [PyData.hasDict] using b3,by simp only [PyData.depth];omega,?_⟩
 ·rw [show n+1+m=(n+m)+1 by omega]
  simp only [AR,b1 h m]
  rfl
 ·simp only [PyData.shown,tupleText]
  have hl:(PyData.shownAll ps).length=ds.length:=by rw [Pm,b5]
  have hj:(Str.join ", " (PyData.shownAll ps)).length≤k*(L+2):=by
   by_cases he:PyData.shownAll ps=[]
   ·rw [he];exact B2 _
   ·have h1:=join_length_add _ he
    have h2:=Pl b6
    have h3:(PyData.shownAll ps).length*(L+2)≤k*(L+2):=Nat.mul_le_mul_right _ (by rw [hl];exact hk)
    omega
  rw [strLen_append,strLen_append]
  have e1:((("(":String):Str)).length=1:=rfl
  have e2:(((if (PyData.shownAll ps).length==1 then ",)" else ")":String):Str)).length≤2:=by split<;>decide
  omega
theorem Pn {n L:Nat} {d:D} (h:Rp n L d) (hn:n≤8) (hl:L≤sizeLine):∃x:Str,∀hd,DE d hd=.ok (.str x) hd:=by
 obtain ⟨p,a1,a2,a3,a4,a5⟩:=h
 refine ⟨p.shown,fun hd=>?_⟩
 have e:=a1 hd (8 - n)
 rw [show n+(8 - n)=8 by omega] at e
 unfold DE
 rw [e]
 simp only
 rw [if_pos ⟨a2,a3,by omega,BB a5 hl⟩]
theorem Po {i:Int} (h1:0≤i) (h2:i<10):Rp 0 2 (.int i):=by
 refine ⟨.int i,fun h m=>by cases m<;>rfl,?_,rfl,by simp [PyData.depth],?_⟩
 ·obtain ⟨k,rfl⟩:∃k:Nat,i=(k:Int):=⟨i.toNat,by omega⟩
  have hk:k<10:=by omega
  match k,hk with
  |0,_=>decide
  |1,_=>decide
  |2,_=>decide
  |3,_=>decide
  |4,_=>decide
  |5,_=>decide
  |6,_=>decide
  |7,_=>decide
  |8,_=>decide
  |9,_=>decide
 ·obtain ⟨k,rfl⟩:∃k:Nat,i=(k:Int):=⟨i.toNat,by omega⟩
  have hk:k<10:=by omega
  match k,hk with
  |0,_=>decide
  |1,_=>decide
  |2,_=>decide
  |3,_=>decide
  |4,_=>decide
  |5,_=>decide
  |6,_=>decide
  |7,_=>decide
  |8,_=>decide
  |9,_=>decide
section
variable {h:HD} {i j:Int} {ds:List D} {a b:D} {l:Nat} {x y:Str}
@[simp] theorem ZdM:BA (.str x) (.str y) h=.ok (.bl (!(x==y))) h:=rfl
@[simp] theorem ZdN:BQ (.str x) (.str y) h=.ok (.bl (x==y)) h:=rfl
@[simp] theorem ZdO:BA (.int i) (.int j) h=.ok (.bl (!(i==j))) h:=rfl
@[simp] theorem ZdP:BQ (.int i) (.int j) h=.ok (.bl (i==j)) h:=rfl
@[simp] theorem ZdQ {c d:Bool}:BA (.bl c) (.bl d) h=.ok (.bl (!(c==d))) h:=rfl
@[simp] theorem ZdR {c d:Bool}:BQ (.bl c) (.bl d) h=.ok (.bl (c==d)) h:=rfl
@[simp] theorem ZdS {es:List D}:BA (.tup ds) (.tup es) h=CU (.tup ds) (.tup es) h:=rfl
@[simp] theorem ZdT {es:List D}:BQ (.tup ds) (.tup es) h=GU (.tup ds) (.tup es) h:=rfl
@[simp] theorem ZdU:Cp (.int i) (.int j) h=CH (.int i) (.int j) h:=rfl
@[simp] theorem X4:Cp (.loc l) b h=CH (.loc l) b h:=rfl
@[simp] theorem ZdV:Aw (.int i) b h=Bk (.int i) b h:=rfl
@[simp] theorem ZdW {c:Bool}:Aw (.bl c) b h=Bk (.bl c) b h:=rfl
@[simp] theorem ZdX:Aw .non b h=Bk .non b h:=rfl
@[simp] theorem ZdY:Aw (.str x) b h=Bk (.str x) b h:=rfl
@[simp] theorem ZdZ:Aw (.tup ds) b h=Bk (.tup ds) b h:=rfl
@[simp] theorem Pp:Aw (.loc l) b h=Bk (.loc l) b h:=rfl
@[simp] theorem Zd0 {c:Bool}:Bk (.bl c) (.ty "int") h=.ok (.bl true) h:=rfl
@[simp] theorem Zd1 {c:Bool}:Bk (.bl c) (.ty "bool") h=.ok (.bl true) h:=rfl
@[simp] theorem Zd2 {c:Bool}:Bk (.bl c) (.ty "tuple") h=.ok (.bl false) h:=rfl
@[simp] theorem Zd3:Bk .non (.ty "int") h=.ok (.bl false) h:=rfl
@[simp] theorem Zd4:Bk .non (.ty "tuple") h=.ok (.bl false) h:=rfl
@[simp] theorem Zd5:Bk (.str x) (.ty "int") h=.ok (.bl false) h:=rfl
@[simp] theorem Zd6:Bk (.str x) (.ty "tuple") h=.ok (.bl false) h:=rfl
theorem X5 (e:h[l]?=some (.lst ds)):Bk (.loc l) (.ty "int") h=.ok (.bl false) h:=by
 simp only [Bk,CW,e];rfl
theorem X6 (e:h[l]?=some (.lst ds)):Bk (.loc l) (.ty "tuple") h=.ok (.bl false) h:=by
 simp only [Bk,CW,e];rfl
@[simp] theorem Zd7:Aw .edic (.ty "int") h=.ok (.bl false) h:=rfl
@[simp] theorem Zd8:Aw .edic (.ty "tuple") h=.ok (.bl false) h:=rfl
theorem DF {n n':Str} {fs:List (Str×Int)} (h1:n∈excNames) (h2:n'∈excNames):Aw (.exc n fs) (.glo n') h=.ok (.bl (Br n n')) h:=if_pos ⟨h1,h2⟩
theorem X7 {n:Str} {fs:List (Str×Int)} (h1:n∈excNames):Aw (.exc n fs) (.ty "ValueError") h=.ok (.bl true) h:=if_pos ⟨h1,rfl⟩
@[simp] theorem Zd9 {ρ:Ae} {c d:D} {i j k l:Nat}:F0 [i,j,k,l] (.tup [a,b,c,d]) ρ=some ((((ρ.set i (some a)).set j (some b)).set k (some c)).set l (some d)):=rfl
theorem X8 (hz:x.length+y.length≤1000):Aj (.str x) (.str y) h=.ok (.str (x++y)) h:=by
 simp only [Aj]
 rw [if_pos (by unfold sizeLine;omega)]
theorem Pq {xs ys:List D} {k:Nat} (e1:h[l]?=some (.lst xs)) (e2:h[k]?=some (.lst ys)):Aj (.loc l) (.loc k) h=Bg (xs++ys) h:=by simp only [Aj,e1,e2]
theorem X9 {vs:List V} {w:V} (e:h[l]?=some (.lst ds)) (e1:AH (ds.map Ck)=some vs) (e2:Ck a=some w):E5 (.loc l) a h=.ok (.int (FW w vs)) h:=by
 simp only [E5,BG,e,Out.bind_ok,FX,A7,e1,e2]
theorem Yb {vs:List V} {w:V} {j:Nat} (e:h[l]?=some (.lst ds)) (e1:AH (ds.map Ck)=some vs) (e2:Ck a=some w) (e3:Jj w vs=some j):E6 (.loc l) a h=.ok (.int j) h:=by
 simp only [E6,e,e1,e2,e3]
@[simp] theorem Pr {chk:D→HD→Out D} {op:D→D→HD→Out D} {f g:ME} {ρ:Ae} {Q:D→HD→Prop}:Wp (Ba chk op f g ρ h) Q=Wp (f ρ h) fun x h1=>Wp (chk x h1) fun x h2=>Wp (g ρ h2) fun y h3=>Wp (op x y h3) Q:=by unfold Ba;simp only [Al]
@[simp] theorem sz6:(6≤sizeLine)=True:=eq_true (by unfold sizeLine;omega)
@[simp] theorem sz7:(7≤sizeLine)=True:=eq_true (by unfold sizeLine;omega)
@[simp] theorem sz8:(8≤sizeLine)=True:=eq_true (by unfold sizeLine;omega)
@[simp] theorem sz9:(9≤sizeLine)=True:=eq_true (by unfold sizeLine;omega)
@[simp] theorem Zea:(10≤sizeLine)=True:=eq_true (by unfold sizeLine;omega)
end
section
variable {ρ:Ae} {h:HD} {Q:Str→HD→Prop} {R:Str→List (Str×D)→HD→Prop} {acc y:Str} {r:MJ} {f:ME} {n:Nat} {i:Int}
end
end LS
namespace LS
open PySem PySem.Spec PyProof.Rows L2 PySem.W
section
variable {X:Cx} {E:XK}
def Yc:D→HD→Out D:=fun x h=>match A7 x h with
 |some ds=>Bg ds h
 |none=>.stuck
theorem Yd {pos:Pos}:Ev X E (.Dict [] [] pos) (mC .edic):=fun pins s σ H Q I z1_=>by
 obtain ⟨m,ρ,h,hr,er,p⟩:=z1_
 have hf:H s.heap.objs.size=none:=I.hok.fresh (Am _)
 refine wpAny_Dict_empty ⟨.ref s.heap.objs.size,Ah H s.heap.objs.size (.ext (KP s.heap.objs.size)),I.laid (t':=s.toks) (fun _ _ q=>AB _ q) (Am _) ?_,rfl,?_⟩
 ·have ne:s.heap.objs.size≠sysModules:=by
   obtain ⟨og,_,_,eg,_⟩:=I.ok.mod.glob
   obtain ⟨ml,⟨ol,_,_,el,_⟩,_⟩:=I.loc
   have h1:(3:Nat)<X.base.objs.size:=Ax eg
   have h2:(X.env.locals:Nat)<s.heap.objs.size:=Ax el
   have h3:X.base.objs.size≤X.s₀.heap.objs.size:=I.ok.bsz
   have h4:X.s₀.heap.objs.size≤(X.env.locals:Nat):=I.ok.above
   have h5:(1:Nat)<s.heap.objs.size:=AX (AX (show 1<4 by decide) h1) (BB h3 (BB h4 (DR h2)))
   exact fun z=>Eh h5 z
  exact ⟨⟨ne,_,_,AW _ rfl,⟨rfl,rfl,rfl⟩,rfl⟩,⟨_,AW _ rfl⟩,fun h1 h2 z2_ k=>by obtain ⟨ne,o,ep,z1,z2⟩:=z2_;exact (⟨ne,o,ep,k o z1,z2⟩)⟩
 ·exact p (.ref s.heap.objs.size) m _ (AA _) (.new hf) (hr.new hf) (by simp only [rD,DV];exact ⟨_,rfl,B6⟩)
def E8 (T:List (Str×(List D→HD→Out D))) (fv:ME) (fa:MA):ME:=fun ρ h=>(fv ρ h).bind fun d h1=>match d with
 |.glo n=>(match T.lookup n with
  |some F=>(fa ρ h1).bind F
  |none=>.stuck)
 |_=>.stuck
def Js (P:Program) (w:World) (K:Frag) (mg:Str→Option Value) (base:Heap) (k:Nat) (T:List (Str×(List D→HD→Out D))):Prop:=∀n F,T.lookup n=some F→CaE P w K mg base n k F
theorem CaE.mono {P:Program} {w:World} {K:Frag} {mg:Str→Option Value} {base:Heap} {x:Str} {j k:Nat} {F:List D→HD→Out D} (C:CaE P w K mg base x j F) (h:j≤k):CaE P w K mg base x k F:=by
 obtain ⟨f,fd,ps,G,r⟩:=C.ex
 exact ⟨f,fd,ps,G.mono h,r⟩
theorem Ye {P:Program} {w:World} {K:Frag} {mg:Str→Option Value} {base:Heap} {k:Nat}:Js P w K mg base k []:=fun n F e=>by cases e
theorem Pt {P:Program} {w:World} {K:Frag} {mg:Str→Option Value} {base:Heap} {k j:Nat} {T:List (Str×(List D→HD→Out D))} {x:Str} {F:List D→HD→Out D} (c:CaE P w K mg base x j F) (h:Js P w K mg base k T) (hj:j≤k:=by decide):Js P w K mg base k ((x,F)::T):=fun n G e=>by
 rw [Ds] at e
 split at e
 ·rename_i z
  cases e
  have:n=x:=by simpa using z
  subst this
  exact c.mono hj
 ·exact h n G e
theorem Yg {k k':Nat} {T:List (Str×(List D→HD→Out D))} {fv:ME} {fa:MA} {x:Str} {p pos:Pos} {e:Expr} {es:List Expr} (C:Js X.prog X.w X.K X.mg X.base k T) (hr:Room k' X.A) (hx:Em (AL X.prog X.w X.K) X E) (hv:Ev X E (.Name x p) fv) (ha:Cj X E (e::es) fa) (hk:k≤k':=by decide)
 (he:starEach (e::es) X.env=(false,eval e X.env)::starEach es X.env:=by rfl) (hpl:(backTo pos (starEach es X.env)).any (·.1)=false:=by rfl):
 Ev X E (.Call (.Name x p) (e::es) [] pos) (E8 T fv fa):=by
 rintro pins s σ H Q I ⟨m,ρ,hd,hr1,er,pp⟩
 have post:tD X.K E fv σ H (fun v H1=>∃n F a,v=.ref a∧nsIn X.K mainGlobals n=some (some (.ref a))∧T.lookup n=some F∧∃m1 h1,HR X.K m1 h1 H1∧ER X.K m1 H1 ρ σ∧Post X.K (rD X.K) m1 H1 E Q ((fa ρ h1).bind F)):=by
  refine ⟨m,ρ,hd,hr1,er,Post.bind pp fun d h1 v m1 H1 eo p1 k1 hr1 r1 q1=>?_⟩
  clear eo
  split at q1
  ·rename_i n
   split at q1
   ·rename_i F eF
    simp only [rD,DV] at r1
    obtain ⟨a,rfl,ha⟩:=r1
    exact ⟨n,F,a,rfl,ha,eF,m1,h1,hr1,er.keep p1 k1,q1⟩
   ·exact q1.elim
  ·exact q1.elim
 refine wpAny_Call_Name_kw (An (hv pins s σ H _ I post) fun u s1 z3_=>?_)
 obtain ⟨v,H1,I1,rv,n,F,a,ev,hn,eF,m1,h1,hr1,er1,q1⟩:=z3_
 subst ev
 cases (show u=Value.ref a from rv)
 obtain ⟨f,fd,ps,G,hb,hm,hkp⟩:=(C n F eF).ex
 have:a=f:=by
  have:=mg_of I1.mod.kin I1.mod.glob hn
  rw [hm] at this
  cases this;rfl
 subst this
 refine PySem.W.callWith_K (h₀:=X.base) I1.ok.mod.kin hkp (An (ha pos pins s1 σ H1 (fun vs H2=>CZ X.K F vs H2 Q E) I1 ⟨m1,ρ,h1,hr1,er1,Post.bind q1 fun xs h2 vs m2 H2 _ p2 k2 hr2 r2 q2=>⟨m2,xs,h2,hr2,r2,q2⟩⟩) ?_) he hpl
 rintro us s2 ⟨vs,H2,I2,r,q⟩
 refine ⟨I2.kIn,?_⟩
 exact Ny G (hr.mono hk) hb (dvs:=[]) .nil hx I2 r (by rw [DP];exact q)
theorem Yh {x:Str} {a:Addr} {pos:Pos} (hn:nsIn X.K mainGlobals x=some (some (.ref a))) (hg:Gl X x:=by rfl) (hd:(x==("__debug__":Str))=false:=by decide):Ev X E (.Name x pos) (mC (.glo x)):=O2 hg hn hd
end
def Zeb (K:Frag) (c:Addr):Bool:=match tabP K "law" with
 |some (c',T)=>c'==c&&codeHdIn K c T
 |none=>false
section
variable {prog:Program} {w:World} {A:Around} {E:Str→Value→Shared→Prop}
end
section
variable {X:Cx} {E:XK}
def Zec (K:PySem.W.Frag):V→Option Int→Option Int→Hp→VK→Prop:=fun x lo hi H Q=>∃a xs,x=.ref a∧SqT K H a xs∧HT.sIx xs.length 0 lo=0∧HT.sIx xs.length xs.length hi=xs.length∧Q (.ref a) H
def Pv (x:D) (lo hi:Option Int) (h:HD):Out D:=match x with
 |.tup xs=>.ok (.tup (Jh xs lo hi)) h
 |_=>.stuck
def Jt (f:ME) (lo hi:MO):ME:=fun ρ h=>(f ρ h).bind fun x h1=>(lo ρ h1).bind fun l h2=>(hi ρ h2).bind fun u h3=>Pv x l u h3
end
section
variable {f:ME} {lo hi:MO} {ρ:Ae} {h:HD} {Q:D→HD→Prop}
@[simp] theorem Zed:Wp (Jt f lo hi ρ h) Q=Wp (f ρ h) fun x h1=>Wp (lo ρ h1) fun l h2=>Wp (hi ρ h2) fun u h3=>Wp (Pv x l u h3) Q:=by unfold Jt;simp only [Al]
end
section
variable {K:Frag} {mg:Str→Option Value} {h:Heap}
theorem SaidD.of {st:Stmt} {f:Addr} {fd:FuncData} (d:Dn K mg "_law_said" ["_law_call"] st f fd):SaidD K mg st f fd:=⟨d.fn,d.bd,d.mg⟩
end
open AutoSeq1 (wpAny_loadPart')
section
variable {prog:Program} {w:World} {A:Around} {E:Value→Shared→Prop} {s:Shared}
end
def LI (r:Addr) (n:Nat) (h:Heap):Prop:=∃t u v,IsRange h r 0 (n:Int) 1 t u v
section
variable {X:Cx} {E:XK}
inductive Yi (vs:List V) (H:Hp) (Q:VK):Prop where
 |mk (n:Nat) (e:vs=[.int (n:Int)]) (hn:n≤1000) (q:∀p,H p=none→Q (.ref p) (Ah H p (.ext (LI p n)))):Yi vs H Q
inductive Yj (vs:List V) (H:Hp) (Q:VK):Prop where
 |mk (r:Addr) (n:Nat) (e:vs=[.ref r]) (hr:H r=some (.ext (LI r n))) (hn:n≤1000) (q:∀p,H p=none→Q (.ref p) (Ah H p (.tup ((List.range n).map fun i=>V.int ((i:Nat):Int))))):Yj vs H Q
noncomputable def Yk:D→HD→Out D:=fun d h=>match d with
 |.int i=>@ite _ (0≤i∧i≤1000) (Classical.propDecidable _) (.ok (.tup ((List.range i.toNat).map fun k=>D.int ((k:Nat):Int))) h) .stuck
 |_=>.stuck
noncomputable def Zee (f:ME):ME:=fun ρ h=>(f ρ h).bind Yk
end
end LS
namespace LS
open PySem PySem.Spec PyProof.Rows L2 PySem.W
section
variable {X:Cx} {E:XK}
def Yl:D→HD→Out D:=fun x h=>match x with
 |.tup _=>.ok x h
 |_=>.stuck
def Zef:D→D→HD→Out D:=fun x y h=>(Yl x h).bind fun _ _=>FX x y h
mutual
def LJ:PyData→Bool
 |.list _=>false
 |.tuple xs=>LL xs
 |_=>true
def LL:List PyData→Bool
 |[]=>true
 |x::xs=>LJ x&&LL xs
end
def LM (h:HD):Nat→D→Option PyData
 |_,.non=>some .none
 |_,.bl b=>some (.bool b)
 |_,.int i=>some (.int i)
 |_,.str x=>some (.str x)
 |_,.edic=>some (.dict [])
 |n+1,.tup ds=>(AH (ds.map (LM h n))).map .tuple
 |n+1,.loc l=>match h[l]? with
  |some (.lst ds)=>(AH (ds.map (LM h n))).map .list
  |_=>none
 |_,_=>none
inductive Ym (h:Heap) (u:Value) (p:PyData):Prop where
 |mk (as:List Addr) (f1:Reads h u p as) (f2:LJ p=true→sysModules∉as):Ym h u p
inductive Yn (h:Heap) (us:List Value) (ps:List PyData):Prop where
 |mk (as:List Addr) (f1:ReadsAll h us ps as) (f2:LL ps=true→sysModules∉as):Yn h us ps
variable {pins:List (Addr×Obj)} {σ:L2.St} {H:Hp} {s:Shared} {m:List Addr} {h:HD}
def Zeg:D→HD→Out D:=fun x h=>match LM h 8 x with
 |some p=>if p.showable=true∧(p.hasDict=false∨LJ p=true)∧p.depth≤40∧p.shown.length≤sizeLine then .ok (.str p.shown) h else .stuck
 |none=>.stuck
end
end LS
namespace HT
open PySem PyProof.Rows
def lexLe:List Int→List Int→Bool
 |[],[]=>true
 |[],_::_=>true
 |_::_,[]=>false
 |x::xs,y::ys=>if x=y then lexLe xs ys else decide (x≤y)
section
open PySem.SeqAt
open PySem.AutoSeq1 (wpAny_loadPart')
open PySem.MeetsSeq PySem.MeetsSeq2 PySem.MeetsSeq3
end
section
variable {prog:Program} {w:World} {A:Around} {E:Value→Shared→Prop} {s:Shared}
end
end HT
namespace L2
open PySem PySem.Spec PyProof.Rows
section
variable {X:Cx}
def Zeh (K:PySem.W.Frag):R2:=fun x y H Q=>∃a b ns ms,x=.ref a∧y=.ref b∧SqT K H a (ns.map V.int)∧SqT K H b (ms.map V.int)∧Q (.bl (HT.lexLe ns ms)) H
end
end L2
namespace LS
open PySem PySem.Spec PyProof.Rows L2
section
variable {X:Cx} {E:XK}
def Pw:D→Option (List Int)
 |.tup ds=>AH (ds.map K7)
 |_=>none
def Zei (f:List Int→List Int→Bool):D→D→HD→Out D:=fun x y h=>match Pw x,Pw y with
 |some ns,some ms=>.ok (.bl (f ns ms)) h
 |_,_=>.stuck
end
section
variable {prog:Program} {w:World} {A:Around} {E:Value→Shared→Prop} {s:Shared}
end
section
variable {X:Cx} {E:XK} {e:Expr} {f:ME}
def Yo:D→HD→Out D:=fun x h=>match x with
 |.tup ds=>.ok (.tup ds.reverse) h
 |_=>.stuck
def Zej (f:ME):ME:=fun ρ h=>(f ρ h).bind Yo
end
end LS
namespace LS
open PySem
section
variable {prog:Program} {w:World} {A:Around} {E:Value→Shared→Prop} {h:Heap} {g:Array GenState} {d:Drawn} {t:Nat} {os:OsState}
variable {nm q:Str} {C N:Addr} {bs bm bmB:List Value} {hdct:Bool} {sn:List Str} {sub:List Value} {ab:Bool} {col:Option Bool} {dd:Option Addr} {k0 k1 k2 k3 k5:Option Value} {B newId initId:String}
end
end LS
namespace LS
open PySem PySem.Spec PyProof.Rows L2
def Zek (i j k:Nat):MG:=fun d ρ=>match d with
 |.tup [x,.tup [y,z]]=>some (((ρ.set i (some x)).set j (some y)).set k (some z))
 |_=>none
abbrev Zel (K:PySem.W.Frag) (i j k:Nat):TG:=Ej K 2 (B7 (BO i) (B7 (Ej K 2 (B7 (BO j) (B7 (BO k) Ei))) Ei))
def emS (elt:Expr) (gens:List Comprehension) (scope:Scope) (pos:Pos) (d:Nat) (acc:Value) (env:Env):Sem Unit:=match gens[d+1]? with
 |some g=>eval g.iter env >>=fun x=>standAt g.iter.pos >>=fun _=>foldedSetIterable g.iter env x >>=fun y=>holding [y] (pyIter y) >>=fun it=>
  runOwn (.compStart (.ListComp elt gens scope pos) (d+1) it acc env) env >>=fun _=>pure ()
 |none=>eval elt env >>=fun x=>call (.builtin "list.append") [acc,x] >>=fun _=>pure ()
section
variable {prog:Program} {w:World} {A:Around} {R:Result→Shared→Prop} {s:Shared} {elt tg iter:Expr} {gens:List Comprehension} {ifs:List Expr} {scope:Scope} {pos:Pos} {d:Nat} {it acc:Value} {env:Env}
end
abbrev LN (its:List Value) (k:Nat):Obj:={cls:=.type "list",data:=.seq its.toArray k}
structure Zem (X:Cx) (D:Addr):Prop where
 lo:D≠X.env.locals
 ce:∀x c,X.env.cells.lookup x=some c→c≠D
 pn:∀p∈X.pn,p.1≠D
 ex:D∈X.ex
 fs:D∉X.fs
section
variable {X:Cx} {D:Addr} {its its':List Value} {k k':Nat} {rest:List (Addr×Obj)} {σ:L2.St} {H:Hp} {s:Shared} {h':Heap}
def EM (X:Cx) (D:Addr) (em:Sem Unit) (te:L2.St→Hp→List V→(List V→Hp→Prop)→Prop):Prop:=
 ∀(rest:List (Addr×Obj)) (its:List Value) (k:Nat) (acc:List V) (σ:L2.St) (H:Hp) (s:Shared) (Q:List V→Hp→Prop),Inv X ((D,LN its k)::rest) σ H s→(∀p∈rest,p.1≠D)→Vals acc its→te σ H acc Q→
  wpAny (model X.prog X.w) X.A em (fun _ s'=>∃its' k' acc' H',Inv X ((D,LN its' k')::rest) σ H' s'∧Vals acc' its'∧Q acc' H') (fun _ _=>False) s
def Zen (te:TE):L2.St→Hp→List V→(List V→Hp→Prop)→Prop:=fun σ H acc Q=>acc.length<sizeLine∧te σ H fun y H'=>Q (acc++[y]) H'
def Zeo (wi:TI) (g:TG) (tc:TT) (te:L2.St→Hp→List V→(List V→Hp→Prop)→Prop):L2.St→Hp→List V→(List V→Hp→Prop)→Prop:=fun σ H acc Q=>wi σ H fun J H1=>∃W:Nat→Nat→List V→Hp→Prop,(∃n,W 0 n acc H1)∧∀i n acc H,W i n acc H→
 (J.stop i H∧Q acc H)∨
 (J.go i H∧∀x H',J.yld i H x H'→g x σ H' fun σ2 H2=>Sub σ σ2∧tc σ2 H2 fun b H3=>if b=true then te σ2 H3 acc fun acc' H4=>∃n',n' < n∧W (i+1) n' acc' H4 else ∃n',n' < n∧W (i+1) n' acc H3)
inductive Yp (X:Cx) (D:Addr) (rest:List (Addr×Obj)) (σ:L2.St) (W:Nat→Nat→List V→Hp→Prop) (tn:Nat→Heap→Prop) (fp:List Addr) (n:Nat) (s':Shared):Prop where
 |mk (i:Nat) (acc:List V) (H':Hp) (its:List Value) (k:Nat) (w:W i n acc H') (ii:Inv X ((D,LN its k)::rest) σ H' s') (st:tn i s'.heap) (fr:∀b∈fp,H' b=none) (rv:Vals acc its):Yp X D rest σ W tn fp n s'
end
def Zep (cs:List (Option Nat)) (wi:TI) (g:TG) (tc:TT) (te:L2.St→Hp→List V→(List V→Hp→Prop)→Prop):TE:=fun σ H Q=>wi σ H fun J H1=>∃W:Nat→Nat→List V→Hp→Prop,(∃n,W 0 n [] H1)∧∀i n acc H,W i n acc H→
 (J.stop i H∧acc.length≤sizeLine∧∀p,H p=none→Q (.ref p) (Ah H p (.lst acc)))∨
 (J.go i H∧∀x H',J.yld i H x H'→g x (Bp cs σ) H' fun σ2 H2=>Sub (Bp cs σ) σ2∧tc σ2 H2 fun b H3=>if b=true then te σ2 H3 acc fun acc' H4=>∃n',n' < n∧W (i+1) n' acc' H4 else ∃n',n' < n∧W (i+1) n' acc H3)
section
variable {X:Cx} {elt tg iter:Expr} {ifs:List Expr} {gs:List Comprehension} {scope:Scope} {pos:Pos} {Nc:List Str} {cs:List (Option Nat)} {wi:TI} {g:TG} {tc:TT} {te:L2.St→Hp→List V→(List V→Hp→Prop)→Prop}
end
abbrev Dc:=Ae→HD→List D→Out (List D)
abbrev Px:=L2.St→Hp→List V→(List V→Hp→Prop)→Prop
def Frs (js:List Nat) (σ:L2.St):Prop:=∀j∈js,σ[j]?=some none
def Zeq (K:PySem.W.Frag) (is js:List Nat) (gg:TG) (sg:MG):Prop:=
 ∀m H d v ρ σ ρ' Q,DV K m H d v→ER K m H ρ σ→Frs (is++js) σ→sg d ρ=some ρ'→(∀σ',Sub σ σ'→Frs js σ'→ER K m H ρ' σ'→Q σ' H)→gg v σ H Q
theorem Frs.set {js:List Nat} {σ:L2.St} {i:Nat} {v:Option V} (h:Frs js σ) (n:i∉js):Frs js (σ.set i v):=fun j hj=>by
 have hn:i≠j:=by
  rintro rfl
  exact n hj
 rw [Bj hn]
 exact h j hj
noncomputable def Zer (f:ME):Dc:=fun ρ h acc=>if acc.length<sizeLine then (noErr (f ρ h)).bind fun y h2=>.ok (acc++[y]) h2 else .stuck
open Classical in
noncomputable def G7 (src:AK) (items:List D) (sg:MG) (t:MT) (e:Dc) (ρ:Ae):List D→HD→List D→Out (List D)
 |[],h,acc=>if Bz src items h then .ok acc h else .stuck
 |d::ds,h,acc=>if Bz src items h then match sg d ρ with
   |none=>.stuck
   |some ρ1=>(noErr (t ρ1 h)).bind fun b h1=>if b=true then (noErr (e ρ1 h1 acc)).bind fun acc2 h2=>G7 src items sg t e ρ ds h2 acc2 else G7 src items sg t e ρ ds h1 acc
  else .stuck
noncomputable def Zes (it:MI) (sg:MG) (t:MT) (e:Dc):Dc:=fun ρ h acc=>(noErr (it ρ h)).bind fun x h1=>G7 x.2 x.1 sg t e ρ x.1 h1 acc
noncomputable def Ju (cs:List (Option Nat)) (it:MI) (sg:MG) (t:MT) (e:Dc):ME:=fun ρ h=>(it ρ h).bind fun x h1=>(G7 x.2 x.1 sg t e (BW cs ρ) x.1 h1 []).bind Bg
def tEm (K:PySem.W.Frag) (js:List Nat) (e:Dc):Px:=fun σ H acc Q=>∃m ρ h dacc,HR K m h H∧ER K m H ρ σ∧DVs K m H dacc acc∧Frs js σ∧Post K (FH K) m H E0 Q (e ρ h dacc)
theorem EM.imp {X:Cx} {D:Addr} {em:Sem Unit} {te te':Px} (h:EM X D em te) (f:∀σ H acc Q,te' σ H acc Q→te σ H acc Q):EM X D em te':=
 fun rest its k acc σ H s Q I hr rv z=>h rest its k acc σ H s Q I hr rv (f _ _ _ _ z)
inductive Yq {β:Type} (K:PySem.W.Frag) (E:XK) (α:Type) (R:List Addr→Hp→α→β→Prop) (Q:β→Hp→Prop) (kk:List D→HD→Out α) (src:AK) (items:List D) (sg:MG) (t:MT) (e:Dc) (ρ:Ae) (m1:List Addr) (H1:Hp) (i n:Nat) (acc:List V) (H2:Hp):Prop where
 |mk (en:n=items.length - i) (l:i≤items.length) (m2:List Addr) (h2:HD) (dacc:List D) (p:m1 <+:m2) (k:Kp H1 H2) (hr:HR K m2 h2 H2) (da:DVs K m2 H2 dacc acc) (q:Post K R m2 H2 E Q ((G7 src items sg t e ρ (items.drop i) h2 dacc).bind kk)):Yq K E α R Q kk src items sg t e ρ m1 H1 i n acc H2
section
variable {X:Cx} {E:XK} {D:Addr} {elt tg iter:Expr} {ifs:List Expr} {gs gens:List Comprehension} {scope:Scope} {pos:Pos} {Nc:List Str} {cs:List (Option Nat)} {it:MI} {gg:TG} {sg:MG} {t:MT} {f:ME} {e:Dc} {d:Nat} {is js:List Nat}
end
section
variable {α β:Type} {cs:List (Option Nat)} {it:MI} {sg:MG} {t:MT} {f:ME} {e:Dc} {ρ:Ae} {h:HD} {src:AK} {xs:List α} {φ:α→D} {acc:List D}
noncomputable def Yr (cs:List (Option Nat)) (it:MI) (sg:MG) (t:MT) (e:Dc):ME:=Ad (Ai Be) (Ab (Ju cs it sg t e) Ac)
noncomputable def Ys (cs:List (Option Nat)) (it:MI) (sg:MG) (t:MT) (e:Dc):ME:=Ad (Ai CY) (Ab (Ju cs it sg t e) Ac)
@[simp] theorem Zet:Ad (Ai Be) (Ab (Ju cs it sg t e) Ac) ρ h=Yr cs it sg t e ρ h:=rfl
@[simp] theorem Zeu:Ad (Ai CY) (Ab (Ju cs it sg t e) Ac) ρ h=Ys cs it sg t e ρ h:=rfl
end
end LS
namespace LS
open PySem
inductive TlN (h:Heap) (ns:List Str) (bB:List Value):List Value→Prop
 |base:TlN h ns bB bB
 |own {a:Addr} {c0:Value} {dd:Option Addr} {cd:ClassData} {sl:Array (Option Value)} {m:Str→Option Value} {tl:List Value} (ha:h.get? a=some {cls:=c0,dict:=dd,data:=.cls cd,slots:=sl}) (hm:h.Ns cd.ns m) (no:∀n∈ns,m n=none) (r:TlN h ns bB tl):TlN h ns bB (.ref a::tl)
theorem TlN.keeps {h h':Heap} {ns:List Str} {bB tl:List Value} (T:TlN h ns bB tl) (k:∀b o,h.get? b=some o→h'.get? b=some o):TlN h' ns bB tl:=by
 induction T with
 |base=>exact .base
 |own ha hm no _ ih=>exact .own (k _ _ ha) (hm.keeps k) no ih
theorem TlN.has {h:Heap} {ns:List Str} {bB tl:List Value} {v:Value} (T:TlN h ns bB tl) (hv:bB.contains v=true):tl.contains v=true:=by
 induction T with
 |base=>exact hv
 |own ha hm no _ ih=>rw [List.contains_cons,ih,Bool.or_true]
section
variable {M:Model} {A:Around} {E:Value→Shared→Prop} {h:Heap} {g:Array GenState} {d:Drawn} {t:Nat} {os:OsState}
theorem TlN.look {ns:List Str} {bB tl:List Value} {n:Str} {y:Option Value} {Q:Option Value→Shared→Prop} (T:TlN h ns bB tl) (hn:n∈ns) (e:lookupAlong bB n=pure y) (q:Q y ⟨h,g,d,t,os⟩):wpAny M A (lookupAlong tl n) Q E ⟨h,g,d,t,os⟩:=by
 induction T with
 |base=>rw [e];exact wpAny_pure q
 |own ha hm no _ ih=>
  rw [lookupAlong_cons];refine wpAny_bind (wpAny_classOwn_cls ha hm ?_);rw [no n hn]
  exact ih
variable {nm q:Str} {C N x:Addr} {bs bm bB:List Value} {hd:Bool} {sn:List Str} {sub:List Value} {ab:Bool} {col:Option Bool} {dd:Option Addr} {k0 k1 k2 k3 k5:Option Value} {B newId sa owner:String} {ns:List Str} {mN mA:Str→Option Value} {name:Str} {v:Value}
end
section
variable {prog:Program} {w:World} {A:Around} {E:Value→Shared→Prop} {h:Heap} {g:Array GenState} {d:Drawn} {t:Nat} {os:OsState}
variable {nm q:Str} {C N x:Addr} {bs bm bB:List Value} {sn:List Str} {sub:List Value} {ab:Bool} {col:Option Bool} {dd:Option Addr} {k0 k1 k2 k3 k5:Option Value} {B newId sa owner:String} {ns:List Str} {mN mA:Str→Option Value} {name:Str} {v:Value}
structure Zev (h h':Heap) (x C:Addr) (name:Str) (v:Value) (mA:Str→Option Value):Prop where
 inst:h'.Inst x C (fun y=>if y=name then some v else mA y)
 keep:∀b o,b≠x→(∀o0 dx,h.get? x=some o0→o0.dict=some dx→b≠dx)→h.get? b=some o→h'.get? b=some o
 new:∀o0,h.get? x=some o0→o0.dict=none→∃o1,h'.get? x=some o1∧o1.dict=some h.objs.size
 same:∀o0,h.get? x=some o0→∃o1,h'.get? x=some o1∧o1.cls=o0.cls∧o1.data=o0.data∧o1.slots=o0.slots∧∀dx,o0.dict=some dx→o1.dict=some dx
end
section
variable {prog:Program} {w:World} {A:Around} {E:Value→Shared→Prop} {h:Heap} {g:Array GenState} {d:Drawn} {t:Nat} {os:OsState}
variable {nm q:Str} {C N x:Addr} {bs bm bB:List Value} {sn:List Str} {sub:List Value} {ab:Bool} {col:Option Bool} {dd:Option Addr} {k0 k1 k2 k3 k5:Option Value} {B newId:String} {ns:List Str} {mN mA:Str→Option Value} {name:Str} {v:Value}
end
end LS
namespace LS
open PySem PySem.Spec PyProof.Rows L2
def tmNames:List Str:=["__init__","__setattr__","__getattribute__","__getattr__","many","most"]
def Pz (K:PySem.W.Frag) (ns:List Str) (bB:List Value):List Value→Bool
 |[]=>bB==[]
 |v::r=>(v::r)==bB||match v with
  |.ref a=>(match K.lookup a with
   |some o=>(match clsOf o.data with
    |some cd=>PySem.W.nsOkIn K cd.ns&&(ns.all (fun n=>PySem.W.nsIn K cd.ns n==some none)&&Pz K ns bB r)
    |none=>false)
   |none=>false)
  |_=>false
theorem TlN.tail {h:Heap} {ns:List Str} {bB tl:List Value} (T:TlN h ns bB tl) (hi:("__init__":Str)∈ns):OwnTail h bB tl:=by
 induction T with
 |base=>exact .base
 |own ha hm no _ ih=>exact .own ha hm (no _ hi) ih
inductive Yt (h:Heap) (C fI:Addr):Prop where
 |mk (bm:List Value) (N:Addr) (nm q:Str) (bs:List Value) (sn:List Str) (sub:List Value) (ab:Bool) (col:Option Bool) (dd:Option Addr) (k0 k1 k2 k3 k5:Option Value) (mN:Str→Option Value)
  (hC:h.get? C=some (excClassObj nm q C N bs bm true sn sub ab col dd k0 k1 k2 k3 k5 "ValueError.__new__")) (hN:h.Ns N mN) (hi:mN "__init__"=some (.ref fI)) (no:∀n∈tmNames.tail,mN n=none) (T:TlN h tmNames G4 bm):Yt h C fI
def Yu (K:PySem.W.Frag) (C fI:Addr) (o:Obj) (cd:ClassData):Bool:=
 decide (o.cls=.type "type")&&(decide (cd.mro=.ref C::cd.mro.tail)&&(!cd.hasDel&&(Pz K tmNames G4 cd.mro.tail&&(PySem.W.nsOkIn K cd.ns&&(PySem.W.nsIn K cd.ns "__init__"==some (some (.ref fI))&&(tmNames.tail.all (fun n=>PySem.W.nsIn K cd.ns n==some none)&&(decide (o.slots.toList.length=6)&&(decide (o.slots.toList[4]?=some (some (.builtin "ValueError.__new__")))&&cd.hasDict))))))))
def tmX (K:PySem.W.Frag) (C fI:Addr):Bool:=match K.lookup C with
 |some o=>(match clsOf o.data with
  |some cd=>Yu K C fI o cd
  |none=>false)
 |none=>false
def Yv (C t0:Addr) (da:Option Addr):Obj:={cls:=.ref C,dict:=da,data:=.fields #[.ref t0,.none,.none,.none,.bool false,.none]}
def Jv (C e:Addr) (da:Option Addr) (h:Heap):Prop:=∃t0,h.get? e=some (Yv C t0 da)
def Zew (d:Addr) (m:Str→Option Value) (h:Heap):Prop:=h.Ns1 d m
def one (n:Str) (u:Value):Str→Option Value:=fun y=>if y=n then some u else none
section
variable {X:Cx} {pins:List (Addr×Obj)} {σ:L2.St} {H:Hp} {s:Shared} {E:Value→Shared→Prop} {A:Around} {C fI e da:Addr} {n:Str} {u:Value}
def del (H:Hp) (a:Addr):Hp:=fun b=>if b=a then none else H b
theorem PB {H:Hp} {a b:Addr} (h:b≠a):del H a b=H b:=by unfold del;rw [if_neg h]
theorem Kp.del {H:Hp} {a:Addr} {φ:Heap→Prop} (h:H a=some (.mex φ)):Kp H (LS.del H a):=fun b o e i=>by
 rw [PB]
 ·exact e
 ·intro z
  rw [z,h] at e;cases e;cases i
theorem HR.del {K:PySem.W.Frag} {m:List Addr} {h:HD} {H:Hp} {a:Addr} {φ:Heap→Prop} (r:HR K m h H) (e:H a=some (.mex φ)):HR K m h (LS.del H a):=r.same (.del e) fun b hb=>PB fun z=>by
 subst z
 obtain ⟨l,hl,el⟩:=GA hb
 have hl':l<h.length:=by rw [←r.len];exact hl
 have c:=r.cells l h[l] m[l] (Bi hl') (Bi hl)
 rw [el] at c
 cases hc:h[l] with
 |lst ds=>rw [hc] at c;obtain ⟨vs,q,_⟩:=c;rw [e] at q;cases q
 |ins n fs=>
  rw [hc] at c
  obtain ⟨_,_,_,_,q,_⟩:=c
  rw [e] at q;cases q
 |tabn g=>rw [hc] at c;obtain ⟨_,ps,q,_⟩:=c;rw [e] at q;cases q
 |dic fz kvs=>
  rw [hc] at c
  obtain ⟨es,q,_⟩:=c
  cases fz with
  |true=>obtain ⟨o,q⟩:=q;rw [e] at q;cases q
  |false=>exact absurd (e.symm.trans q) (by intro z;cases z)
end
end LS
namespace LS
open PySem PySem.Spec PyProof.Rows L2 PySem.Calls PySem.W
def swX (K:PySem.W.Frag) (S:Addr):Bool:=PySem.W.readsIn K S (.type "type")&&(match PySem.W.findCls K (.ref S) (.type "type") "__init__" with
 |some (.val (.builtin b))=>b=="ValueError.__init__"
 |_=>false)
def Zex (H₀:Hp) (C:Addr) (ta:TA):TE:=fun σ H Q=>∃e,H₀ e≠none∧H e=some (.mex (Jv C e none))∧ta σ (del H e) fun vs H1=>∃x,vs=[.ref e,.str x]∧(H1 e=none→Q .non (Ah H1 e (.mex (Jv C e none))))
section
variable {X:Cx} {C fI S:Addr} {ta:TA} {a1 a2:Expr} {p1 p2 p5:Pos}
end
end LS
namespace LS
open PySem PySem.Spec PyProof.Rows L2 PySem.Calls
section
variable {X:Cx} {C fI S:Addr}
end
noncomputable abbrev LO:ME:=LA (Pe (Aa 1) (XU " are more than " (Pe (Aa 2) XT)))
inductive PC (K:PySem.W.Frag) (C:Addr) (vs:List V) (H:Hp) (Q:VK) (E:XK):Prop
 |mk (e:Addr) (a b:Int) (m:List Addr) (h h2:HD) (x:Str) (ev:vs=[.ref e,.int a,.int b]) (hr:HR K m h H) (hH:H e=some (.mex (Jv C e none))) (hj:LO [none,some (.int a),some (.int b)] h=.ok (.str x) h2)
  (q:∀m1 H1 da,m <+:m1→Kp (del H e) H1→HR K m1 h2 H1→H1 e=none→H1 da=none→da≠e→Q .non (Ah (Ah H1 e (.mex (Jv C e (some da)))) da (.xd [("many",.int a),("most",.int b)]))):PC K C vs H Q E
section
variable {P:Program} {w:World} {K:PySem.W.Frag} {mg:Str→Option Value} {base:Heap} {C f S:Addr} {k:Nat} {qual:Str} {scope:Scope} {p1 p2 p3 p4 p5 p6 q1 q2 q3 q4 r1 r2 r3 r4:Pos} {js:Expr}
abbrev Zey (js:Expr) (p1 p2 p3 p5 p6 q1 q2 q3 q4 r1 r2 r3 r4:Pos):List Stmt:=[.Expr (.Call (.Attribute (.Name "SwitchError" p1) "__init__" p2) [.Name "self" p3,js] [] p5) p6,.Assign [.Attribute (.Name "self" q1) "many" q2] (.Name "many" q3) q4,.Assign [.Attribute (.Name "self" r1) "most" r2] (.Name "most" r3) r4]
end
noncomputable def Zez (fa:MA):MS:=fun ρ h=>(fa ρ h).bind fun xs h1=>match xs with
 |[.int a,.int b]=>(match LO [none,some (.int a),some (.int b)] h1 with
  |.ok (.str _) h2=>.err (CI "TooMany") [("many",.int a),("most",.int b)] h2
  |_=>.stuck)
 |_=>.stuck
section
variable {X:Cx} {E:XK} {C fI:Addr} {fd:FuncData} {k:Nat}
end
def PD (nm:Str):D→HD→Out D
 |.exc n fs,h=>if n="TooMany" then (match fs.lookup nm with
  |some i=>.ok (.int i) h
  |none=>.stuck) else .stuck
 |_,_=>.stuck
noncomputable def PF (f:ME) (nm:Str):ME:=fun ρ h=>(f ρ h).bind fun d h1=>PD nm d h1
section
variable {X:Cx} {E:XK} {C fI:Addr}
end
end LS
namespace Tp
open PySem PySem.W PySem.Spec PySem.Calls PyProof.Rows
section
variable {α β:Type}
noncomputable def fN (n:Nat) (k:Nat→α):α:=@Nat.rec (fun _=>α) (k 0) (fun m _=>k (Nat.succ m)) n
theorem Jw (n:Nat) (k:Nat→α):fN n k=k n:=by cases n<;>rfl
noncomputable def fL (l:List β):(List β→α)→α:=@List.rec β (fun _=>(List β→α)→α) (fun k=>k []) (fun a _ ih k=>ih fun l'=>k (a::l')) l
theorem G8:∀(l:List β) (k:List β→α),fL l k=k l
 |[],_=>rfl
 |a::l,k=>G8 l fun l'=>k (a::l')
noncomputable def fE (l:List DictEntry):(List DictEntry→α)→α:=@List.rec DictEntry (fun _=>(List DictEntry→α)→α) (fun k=>k []) (fun a _ ih k=>ih fun l'=>@DictEntry.rec (fun _=>α) (fun x y z=>k (⟨x,y,z⟩::l')) a) l
theorem PH:∀(l:List DictEntry) (k:List DictEntry→α),fE l k=k l
 |[],_=>rfl
 |⟨_,_,_⟩::l,k=>PH l fun l'=>k (_::l')
noncomputable def fD (d:Data) (k:Data→α):α:=@Data.rec (fun _=>α) (k .plain) (fun v=>k (.prim v)) (fun x n=>@Array.rec Value (fun _=>α) (fun l=>fL l fun l=>fN n fun n=>k (.seq ⟨l⟩ n)) x)
 (fun x n=>@Array.rec DictEntry (fun _=>α) (fun l=>fE l fun l=>fN n fun n=>k (.dict ⟨l⟩ n)) x) (fun x n t=>k (.set x n t)) (fun b n=>k (.bytearray b n)) (fun v=>k (.cell v)) (fun f=>k (.func f)) (fun c=>k (.cls c))
 (fun x=>@Array.rec Value (fun _=>α) (fun l=>fL l fun l=>k (.fields ⟨l⟩)) x) (k .freed) d
theorem Yw (d:Data) (k:Data→α):fD d k=k d:=by
 cases d with
 |seq x n=>cases x;simp only [fD,G8,Jw]
 |dict x n=>cases x;simp only [fD,PH,Jw]
 |fields x=>cases x;simp only [fD,G8]
 |_=>rfl
noncomputable def fO (o:Obj) (k:Obj→α):α:=@Obj.rec (fun _=>α) (fun c d da sl=>fD da fun da=>k ⟨c,d,da,sl⟩) o
theorem PJ (o:Obj) (k:Obj→α):fO o k=k o:=by cases o;simp only [fO,Yw]
noncomputable def fT (t:BT):(BT→α)→α:=@BT.rec (fun _=>(BT→α)→α) (fun k=>k .nil) (fun v _ _ il ir k=>fO v fun v=>il fun l=>ir fun r=>k (.node v l r)) t
theorem LP:∀(t:BT) (k:BT→α),fT t k=k t
 |.nil,_=>rfl
 |.node v l r,k=>by
  show fO v (fun v=>fT l fun l=>fT r fun r=>k (.node v l r))=_
  rw [PJ,LP l,LP r]
noncomputable def fS (s:SharedT) (k:SharedT→α):α:=@SharedT.rec (fun _=>α) (fun t n li g d tk os=>fT t fun t=>fN n fun n=>fN tk fun tk=>@Drawn.rec (fun _=>α) (fun a b c e=>@Array.rec GenState (fun _=>α) (fun g=>fL g fun g=>k ⟨t,n,li,⟨g⟩,⟨a,b,c,e⟩,tk,os⟩) g) d) s
theorem LQ (s:SharedT) (k:SharedT→α):fS s k=k s:=by
 obtain ⟨t,n,li,⟨g⟩,⟨a,b,c,e⟩,tk,os⟩:=s
 simp only [fS,LP,Jw,G8]
noncomputable def fP (p:Pos) (k:Pos→α):α:=@Pos.rec (fun _=>α) (fun a b c d=>fN a fun a=>fN b fun b=>fN c fun c=>fN d fun d=>k ⟨a,b,c,d⟩) p
theorem LR (p:Pos) (k:Pos→α):fP p k=k p:=by cases p;simp only [fP,Jw]
end
section
variable (stp:SharedT→Thread→Option (SharedT×Thread)) (ok:Thread→Bool) (seg:Nat→SharedT→Thread→Option (Flow×SharedT×Code×Pos))
noncomputable def F4 (env:Env) (c:Code) (f:Nat):List (List Stmt)→SharedT→Pos→List Code→Option (SharedT×Pos×List Code)
 |[],s,pos,cs=>some (s,pos,cs)
 |l::ls,s,pos,cs=>match seg f s (piecesOf l env c pos [topFrame ⟨0,0,0,0⟩]) with
  |some (.next,s',c',pos')=>fS s' fun s'=>fP pos' fun pos'=>F4 env c f ls s' pos' (c'::cs)
  |_=>none
def Jx:Nat→SharedT→Thread→Option (SharedT×Thread)
 |0,s,t=>some (s,t)
 |n+1,s,t=>match through t with
  |true=>none
  |false=>match ok t with
   |false=>none
   |true=>match stp s t with
    |some (s',t')=>Jx n s' t'
    |none=>none
def Jy:Nat→SharedT→Thread→Option SharedT
 |0,_,_=>none
 |n+1,s,t=>match through t with
  |true=>some s
  |false=>match ok t with
   |false=>none
   |true=>match stp s t with
    |some (s',t')=>Jy n s' t'
    |none=>none
def cut:Nat→List Stmt→List (List Stmt)
 |0,l=>[l]
 |n+1,l=>match l with
  |[]=>[]
  |x::l=>[x]::cut n l
theorem PK:∀(n:Nat) (l:List Stmt),(cut n l).flatten=l
 |0,l=>by simp [cut]
 |_+1,[]=>rfl
 |n+1,x::l=>by simp [cut,PK n l]
theorem cut_len:∀(n:Nat) (l:List Stmt),(cut n l).length≤n+1
 |0,l=>Am _
 |_+1,[]=>B2 _
 |n+1,x::l=>Nat.succ_le_succ (cut_len n l)
def LU (p:Program):Env:={scope:=p.main.scope,locals:=mainNs,globals:=mainNs,cells:=[],code:=.ref 13,frame:=some 14}
def E9 (p:Program):Code:=.body (behindTheImports p) (LU p)
noncomputable def DG (p:Program) (S0:SharedT):Option (Thread×List Code×SharedT):=match Jx stp ok 12 S0 (topStub p) with
 |some (sa,ta)=>match seg 1 sa (blockOf (behindTheImports p) (LU p) (E9 p) ⟨0,0,0,0⟩ [topFrame ⟨0,0,0,0⟩]) with
  |some (.next,sb,cb,pb)=>fS sb fun sb=>fP pb fun pb=>match F4 seg (LU p) (E9 p) 2000 (cut 400 (behindTheImports p)) sb pb [cb] with
   |some (sf,pf,cs)=>match Jy stp ok 2 sf ⟨doneF .next,E9 p,pf,[topFrame ⟨0,0,0,0⟩]⟩ with
    |some sg=>some (ta,cs,sg)
    |none=>none
   |none=>none
  |_=>none
 |none=>none
end
noncomputable def PL (P:Params) (os:OsState):SharedT:=⟨((boot_heap P).objs.toList.foldl (fun (x:BT×Nat) o=>(x.1.ins x.2 o,x.2+1)) (.nil,0)).1,11,(boot_heap P).life,⟨[]⟩,boot_drawn,boot_toks,os⟩
theorem Yx (P:Params) (os:OsState):(PL P os).abs=⟨boot_heap P,⟨[]⟩,boot_drawn,boot_toks,os⟩:=by kernel_rfl
section
variable {α:Type}
noncomputable def LV (l:List Obj):(List Obj→α)→α:=@List.rec Obj (fun _=>(List Obj→α)→α) (fun k=>k []) (fun a _ ih k=>fO a fun a=>ih fun l'=>k (a::l')) l
theorem PM:∀(l:List Obj) (k:List Obj→α),LV l k=k l
 |[],_=>rfl
 |a::l,k=>by show fO a (fun a=>LV l fun l'=>k (a::l'))=_;rw [PJ,PM]
noncomputable def Ay (s:SharedT) (k:Shared→α):α:=LV (s.tree.list s.n) fun l=>k ⟨⟨⟨l⟩,s.life⟩,s.gens,s.drawn,s.toks,s.os⟩
theorem Yy (s:SharedT) (k:Shared→α):Ay s k=k s.abs:=PM _ _
end
section
variable {tb:String→Option Builtin} {p:Program} {w:World} {m0:Nat} {ann:Option Value}
theorem PN:∀{n:Nat} {s s':SharedT} {t t':Thread},Jx (stepT (denote tb) p w) (stepOk m0 ann) n s t=some (s',t')→topGo tb p w m0 ann n s.abs t=some (s'.abs,t')
 |0,_,_,_,_,h=>by cases h;rfl
 |n+1,s,s',t,t',h=>by
  unfold Jx at h
  unfold topGo
  cases he:through t with
  |true=>rw [he] at h;cases h
  |false=>
   rw [he] at h
   cases hk:stepOk m0 ann t with
   |false=>rw [hk] at h;cases h
   |true=>
    rw [hk] at h
    cases hs:stepT (denote tb) p w s t with
    |none=>rw [hs] at h;cases h
    |some r=>obtain ⟨s₂,t₂⟩:=r;rw [hs] at h;rw [stepT_spec hs];exact PN h
theorem PP:∀{n:Nat} {s s':SharedT} {t:Thread},Jy (stepT (denote tb) p w) (stepOk m0 ann) n s t=some s'→topRun tb p w m0 ann n s.abs t=some s'.abs
 |0,_,_,_,h=>by cases h
 |n+1,s,s',t,h=>by
  unfold Jy at h
  unfold topRun
  cases he:through t with
  |true=>rw [he] at h;cases h;rfl
  |false=>
   rw [he] at h
   cases hk:stepOk m0 ann t with
   |false=>rw [hk] at h;cases h
   |true=>
    rw [hk] at h
    cases hs:stepT (denote tb) p w s t with
    |none=>rw [hs] at h;cases h
    |some r=>obtain ⟨s₂,t₂⟩:=r;rw [hs] at h;rw [stepT_spec hs];exact PP h
theorem LW {seg:Nat→SharedT→Thread→Option (Flow×SharedT×Code×Pos)} {env:Env} {c:Code} {f:Nat}:∀{ls:List (List Stmt)} {s sf:SharedT} {pos pf:Pos} {c0 cs:List Code},F4 seg env c f ls s pos c0=some (sf,pf,cs)→∀x∈c0,x∈cs
 |[],_,_,_,_,_,_,h,x,hx=>by cases h;exact hx
 |l::ls,s,sf,pos,pf,c0,cs,h,x,hx=>by
  unfold F4 at h
  split at h
  ·rw [LQ,LR] at h;exact LW h x (.tail _ hx)
  ·cases h
theorem PQ {env:Env} {c:Code} {f:Nat}:∀{ls:List (List Stmt)} {s sf:SharedT} {pos pf:Pos} {c0 cs:List Code},F4 (segRunT tb p w m0 ann 1) env c f ls s pos c0=some (sf,pf,cs)→(∀x∈cs,x=c)→∀{N:Nat} {r:Shared},
 topRun tb p w m0 ann N sf.abs ⟨doneF .next,c,pf,[topFrame ⟨0,0,0,0⟩]⟩=some r→topRun tb p w m0 ann (ls.length*f+N) s.abs (restOf ls.flatten env c pos [topFrame ⟨0,0,0,0⟩])=some r
 |[],s,sf,pos,pf,c0,cs,h,hc,N,r,k=>by
  cases h
  rw [HJ,Nat.zero_mul,Nat.zero_add]
  exact piece_nil k
 |l::ls,s,sf,pos,pf,c0,cs,h,hc,N,r,k=>by
  unfold F4 at h
  split at h
  ·rename_i s' c' pos' e
   rw [LQ,LR] at h
   have e1:=segRun_of e
   rw [hc c' (LW h c' (.head _))] at e1
   have:=piece_app (rest:=ls.flatten) e1 (PQ h hc k)
   rw [DO,FB,Nat.add_comm (ls.length*f) f,GH]
   exact this
  ·cases h
end
noncomputable def Yz {α:Type} (OS:Program→List Str→List Str→(Shared→Bool)→Bool→Shared→_) (IM:List Stmt→List Str) (p q:Program) (loose:List Str) (Yf:Shared→α) (H₀:Heap) (s:Shared):=
 ((staticsOk (IM p.main.body) H₀ s.heap&&namesBound p s.heap&&gensDone s&&laidKept H₀ s.heap),(OS q loose (IM p.main.body) (fun _=>true) true s:type_of% (openSeen q loose [] (fun _=>true) true s)),Yf s)
theorem left_of {p q:Program} {loose:List Str} {α:Type} {Yf:Shared→α} {Ya:World→α} {n:Nat} (e:opening p=plainProg p.main.scope.names) (fm:∀s,fenceModules? p s=some s)
 (size:∀w:World,((boot_heap w.params).isNs mainGlobals&&(Array.mk ([]:List GenState)).size==0,(boot_heap w.params).objs.size,(boot_heap w.params).nsMap mainGlobals "__annotations__")=(true,11,some (.ref 6)))
 (h:∀(w:World) (os:OsState),(DG (stepT (denote treeTable) p w) (stepOk 11 (some (.ref 6))) (segRunT treeTable p w 11 (some (.ref 6)) 1) p (PL w.params os)).map (fun r=>(r.1,r.2.1,Ay r.2.2 (Yz openSeen importedModules p q loose Yf (boot_heap w.params))))=
  some (⟨denote treeTable (E9 p),E9 p,⟨0,0,0,0⟩,[topFrame ⟨0,0,0,0⟩]⟩,List.replicate n (E9 p),(true,openGood q loose,Ya w))):
 LeftO p q loose (fun _=>true) Yf Ya 1000000:=fun w=>by
 obtain ⟨⟨hp,gs,d,k,os⟩,e0,e'⟩:=qaO.mp (boot_open (N:=1000000) e rfl fm w)
 obtain ⟨rfl,rfl,rfl,rfl⟩:hp=boot_heap w.params∧gs=Array.mk []∧d=boot_drawn∧k=boot_toks:=by simpa using e'
 obtain ⟨z1,z2,z3⟩:_∧_∧_:=by simpa only [Prod.mk.injEq] using size w
 obtain ⟨⟨ta,cs,sg⟩,h1,h2⟩:=qaO.mp (h w os)
 dsimp only at h2
 rw [Yy] at h2
 obtain ⟨h3,h4⟩:=Prod.mk.inj h2
 obtain ⟨h5,h6⟩:=Prod.mk.inj h4
 obtain ⟨l1,h7⟩:=Prod.mk.inj h6
 obtain ⟨l2,l3⟩:=Prod.mk.inj h7
 have hcs:∀x∈cs,x=E9 p:=fun x hx=>by rw [h5] at hx;exact List.eq_of_mem_replicate hx
 have run:topRun treeTable p w 11 (some (.ref 6)) 1000000 ⟨boot_heap w.params,Array.mk [],boot_drawn,boot_toks,os⟩ (topStub p)=some sg.abs:=by
  rw [←Yx]
  unfold DG at h1
  split at h1
  ·rename_i sa ta' ea
   split at h1
   ·rename_i sb cb pb eb
    rw [LQ,LR] at h1
    split at h1
    ·rename_i sf pf cs' ec
     split at h1
     ·rename_i sg' eg
      cases h1
      have hb:=segRun_of eb
      rw [hcs cb (LW ec cb (.head _))] at hb
      have c1:=PQ ec hcs (PP eg)
      rw [PK] at c1
      have c2:=piece_block hb c1
      have c3:=PN ea
      rw [h3] at c3
      have c4:=go_top c3 c2
      have hl:=cut_len 400 (behindTheImports p)
      have:=topRun_mono (1000000 - (12+(1+((cut 400 (behindTheImports p)).length*2000+2)))) _ _ _ _ c4
      rwa [show 12+(1+((cut 400 (behindTheImports p)).length*2000+2))+(1000000 - (12+(1+((cut 400 (behindTheImports p)).length*2000+2))))=1000000 by omega] at this
     ·cases h1
    ·cases h1
   ·cases h1
  ·cases h1
 have t:topFrom treeTable p w 1000000 ⟨boot_heap w.params,Array.mk [],boot_drawn,boot_toks,os⟩=some sg.abs:=by
  unfold topFrom
  dsimp only
  rw [z1,z2,z3,run]
  show (match staticsOk (importedModules p.main.body) (boot_heap w.params) sg.abs.heap&&namesBound p sg.abs.heap&&gensDone sg.abs&&laidKept (boot_heap w.params) sg.abs.heap with |true=>_ |false=>_)=_
  rw [l1]
 unfold openEnds
 rw [e0]
 show (topFrom treeTable p w 1000000 _).map _=_
 rw [t]
 exact congrArg some (Prod.ext l2 l3)
def PR (h:Heap) (a:Addr):Option (Addr×Obj):=match h.get? a with
 |some o=>(match o.cls,a==mainNs||a==cStatics with
  |.none,false=>none
  |_,_=>some (a,o))
 |none=>none
def F5 (h:Heap):Frag:=(List.range h.objs.size).filterMap (PR h)
theorem lookup_mem {a:Addr} {o:Obj}:∀{l:Frag},l.lookup a=some o→(a,o)∈l
 |[],h=>by cases h
 |(b,o')::l,h=>by
  rw [Ds] at h
  split at h
  ·rename_i q
   cases h
   rw [beq_iff_eq.mp q]
   exact .head _
  ·exact .tail _ (lookup_mem h)
theorem YA (h:Heap):(F5 h).In h:=fun a o e=>by
 obtain ⟨b,_,hb⟩:=List.mem_filterMap.mp (lookup_mem e)
 unfold PR at hb
 split at hb
 ·rename_i o' e'
  split at hb
  ·cases hb
  ·cases hb;exact e'
 ·cases hb
def blank (fd:FuncData):FuncData:={fd with kwdefaults:=.none,doc:=.none,pyModule:=.none,annotations:=none,code:=.none,closureTuple:=.none}
def Fb (K:Frag) (n:Str):Option (FuncData×Bool×Bool):=match nsIn K mainGlobals n with
 |some (some (.ref f))=>(match K.lookup f with
  |some ⟨_,_,.func fd,_⟩=>some (blank fd,codeIn K fd.code n,keepIn K (.ref f))
  |_=>none)
 |_=>none
abbrev G9 (n:Str) (st:Stmt):FuncData:=fnOf n n (L2.defArgs st) (L2.defBody st) (L2.defScope st) .none .none .none .none none .none .none
inductive SeenF (K:Frag) (n:Str) (st:Stmt):Prop where
 |mk (f:Addr) (od an:Option Addr) (sl:Array (Option Value)) (oc kV dc pm cd ct:Value) (a:nsIn K mainGlobals n=some (some (.ref f)))
  (l:K.lookup f=some ⟨oc,od,.func (fnOf n n (L2.defArgs st) (L2.defBody st) (L2.defScope st) .none kV dc pm an cd ct),sl⟩) (c:codeIn K cd n=true) (k:keepIn K (.ref f)=true):SeenF K n st
theorem YB {K:Frag} {n:Str} {st:Stmt} (e:Fb K n=some (G9 n st,true,true)):SeenF K n st:=by
 unfold Fb at e
 split at e
 ·rename_i f hf
  split at e
  ·rename_i oc od fd sl hl
   obtain ⟨e1,e2⟩:=Prod.mk.inj (Option.some.inj e)
   obtain ⟨e3,e4⟩:=Prod.mk.inj e2
   obtain ⟨x1,x2,x3,x4,x5,x6,x7,x8,x9,x10,x11,x12,x13,x14,x15⟩:=fd
   replace e1:FuncData.mk x1 x2 x3 x4 x5 x6 x7 x8 .none .none .none none .none .none x15=G9 n st:=e1
   injection e1 with y1 y2 y3 y4 y5 y6 y7 y8 y9 y10 y11 y12 y13 y14 y15
   subst x1 x2 x3 x4 x5 x6 x7 x8 x15
   exact ⟨f,od,x12,sl,oc,x9,x10,x11,x13,x14,hf,hl,e3,e4⟩
  ·cases e
 ·cases e
def Fc (K:Frag) (x:Str):Option Int:=match nsIn K mainGlobals x with
 |some (some (.int v _))=>some v
 |_=>none
theorem YC {K:Frag} {x:Str} {v:Int} (e:Fc K x=some v):∃t,nsIn K mainGlobals x=some (some (.int v t)):=by
 unfold Fc at e
 split at e
 ·rename_i t h;cases e;exact ⟨t,h⟩
 ·cases e
def LY (K:Frag) (h:Heap):Option (Option Obj×Bool×Bool):=match LS.tabP K "law" with
 |some (c,T)=>some (h.get? T,codeHdIn K c T,(K.lookup T).isNone)
 |none=>none
structure Want where
 fs:List (Str×Stmt)
 cs:List (Str×Int)
 bs:List Str
abbrev F6:=List (Option (FuncData×Bool×Bool))×List (Option Int)×List (Option (Option Value))×Bool×Option (Option Obj×Bool×Bool)
noncomputable def ZeA (W:Want) (s:Shared):F6:=fL (F5 s.heap) fun K=>
 (W.fs.map fun x=>Fb K x.1,W.cs.map fun x=>Fc K x.1,W.bs.map (nsIn K mainGlobals),LS.etOk K,LY K s.heap)
def PU (W:Want):F6:=(W.fs.map fun x=>some (G9 x.1 x.2,true,true),W.cs.map fun x=>some x.2,W.bs.map fun _=>some none,true,some (some (tabObj #[]),true,true))
inductive Jz (W:Want) (K:Frag) (c T:Addr):Prop where
 |mk (fs:∀(i:Nat) n st,W.fs[i]?=some (n,st)→SeenF K n st) (cs:∀(i:Nat) n v,W.cs[i]?=some (n,v)→∃t,nsIn K mainGlobals n=some (some (.int v t))) (bs:∀(i:Nat) n,W.bs[i]?=some n→nsIn K mainGlobals n=some none)
  (et:LS.etOk K=true) (tb:LS.tabP K "law"=some (c,T)) (hd:codeHdIn K c T=true) (no:K.lookup T=none):Jz W K c T
def Says (W:Want) (_:World) (h:Heap):Prop:=∃(K:Frag) (c T:Addr),K.In h∧Jz W K c T∧h.get? T=some (tabObj #[])
theorem Says.keeps {W:Want} (w:World) (h h':Heap) (x:Says W w h) (k:∀b o,h.get? b=some o→h'.get? b=some o):Says W w h':=by
 obtain ⟨K,c,T,h1,h2,h3⟩:=x
 exact ⟨K,c,T,h1.keeps k,h2,k _ _ h3⟩
theorem Fd {α β:Type} {f g:α→β} {l:List α} (e:l.map f=l.map g) {i:Nat} {x:α} (h:l[i]?=some x):f x=g x:=by
 have:=congrArg (·[i]?) e
 simp only [B0,h,Fz,Option.some.injEq] at this
 exact this
end Tp
namespace LS
open PySem PySem.W PySem.Spec PySem.Calls PyProof.Rows L2
end LS
namespace Tp
open PySem PySem.W PySem.Spec PySem.Calls PyProof.Rows
def YD (K:Frag):Option (FuncData×List Bool):=match nsIn K mainGlobals "TooMany",nsIn K mainGlobals "SwitchError" with
 |some (some (.ref C)),some (some (.ref S))=>(match K.lookup C with
  |some o=>(match LS.clsOf o.data with
   |some cd=>(match nsIn K cd.ns "__init__" with
    |some (some (.ref f))=>(match K.lookup f with
     |some ⟨oc,_,.func fd,_⟩=>some (blank fd,[codeIn K fd.code "TooMany.__init__",LS.tmX K C f,LS.swX K S,keepIn K (.ref C),oc==.type "function"])
     |_=>none)
    |_=>none)
   |none=>none)
  |none=>none)
 |_,_=>none
abbrev YE (st:Stmt):FuncData:=fnOf "__init__" "TooMany.__init__" (L2.defArgs st) (L2.defBody st) (L2.defScope st) .none .none .none .none none .none .none
inductive PV (K:Frag) (st:Stmt):Prop where
 |mk (C S f:Addr) (od an:Option Addr) (sl:Array (Option Value)) (kV dc pm cd ct:Value) (nC:nsIn K mainGlobals "TooMany"=some (some (.ref C))) (nS:nsIn K mainGlobals "SwitchError"=some (some (.ref S)))
  (l:K.lookup f=some ⟨.type "function",od,.func (fnOf "__init__" "TooMany.__init__" (L2.defArgs st) (L2.defBody st) (L2.defScope st) .none kV dc pm an cd ct),sl⟩) (c:codeIn K cd "TooMany.__init__"=true) (tm:LS.tmX K C f=true) (sw:LS.swX K S=true) (kp:keepIn K (.ref C)=true):PV K st
noncomputable def ZeB (W:Want) (s:Shared):F6×Option (FuncData×List Bool):=fL (F5 s.heap) fun K=>
 ((W.fs.map fun x=>Fb K x.1,W.cs.map fun x=>Fc K x.1,W.bs.map (nsIn K mainGlobals),LS.etOk K,LY K s.heap),YD K)
def ZeC (W:Want) (st:Stmt):F6×Option (FuncData×List Bool):=(PU W,some (YE st,[true,true,true,true,true]))
def SaysT (W:Want) (st:Stmt) (_:World) (h:Heap):Prop:=∃(K:Frag) (c T:Addr),K.In h∧(Jz W K c T∧PV K st)∧h.get? T=some (tabObj #[])
theorem SaysT.keeps {W:Want} {st:Stmt} (w:World) (h h':Heap) (x:SaysT W st w h) (k:∀b o,h.get? b=some o→h'.get? b=some o):SaysT W st w h':=by
 obtain ⟨K,c,T,h1,h2,h3⟩:=x
 exact ⟨K,c,T,h1.keeps k,h2,k _ _ h3⟩
end Tp
namespace LS
open PySem PySem.W PySem.Spec PySem.Calls PyProof.Rows L2
structure TmK (P:Program) (w:World) (K:Frag) (mg:Str→Option Value) (base:Heap) (C f:Addr) (fd:FuncData) (oI:Obj):Prop where
 tm:tmX K C f=true
 F:FnOk P w K mg base (AL P w K) 1 f fd ["self","many","most"] (PC K C)
 hb:Binds K fd ["self","many","most"] []
 lI:K.lookup f=some oI
 cI:oI.cls=.type "function"
 kp:keepIn K (.ref C)=true
 nC:nsIn K mainGlobals "TooMany"=some (some (.ref C))
end LS
namespace LS
open PySem PySem.Spec PyProof.Rows L2
open Classical in
noncomputable def strOfD:D→HD→Out D
 |.int i,h=>if i.natAbs<4611686018427387904 then .ok (.str (toString i)) h else .stuck
 |_,_=>.stuck
section
variable {X:Cx}
theorem YF:B3 X (.type "str") (fun xs H Q=>∃i:Int,xs=[.int i]∧i.natAbs<4611686018427387904∧Q (.str (toString i)) H):=by
 intro pins s σ H xs us Q I r h
 obtain ⟨i,rfl,hi,q⟩:=h
 obtain ⟨u,rfl,t,rfl⟩:=Cy r
 exact str_of_int_fit (N:=4611686018427387904) (by split<;>omega) (Int.le_refl _) fun _=>⟨.str (toString i),H,I.tok _,⟨_,rfl⟩,q⟩
theorem YG:B9 X (.type "str") (Ai strOfD):=by
 refine ⟨_,YF,fun m H h E ds vs Q hr r q=>Ew r q fun d v ev rv q=>?_⟩
 unfold strOfD at q
 split at q
 ·split at q
  ·rename_i i hi
   simp only [DV] at rv;subst rv
   exact ⟨_,ev,hi,AN hr q (by simp [DV])⟩
  ·exact q.elim
 ·exact q.elim
def ZeD (i j k:Nat) (ta:TA):TS:=fun Dn σ H=>ta σ H fun vs H1=>∃u v w,vs=[u,v,w]∧Dn.nx (((σ.set i (some u)).set j (some v)).set k (some w)) H1
def LZ (i j k:Nat) (ρ:Ae):List D→HD→Out (Fl×Ae)
 |[u,v,w],h=>.ok (.nx,((ρ.set i (some u)).set j (some v)).set k (some w)) h
 |_,_=>.stuck
noncomputable def PX (i j k:Nat) (fa:MA):MS:=fun ρ h=>(fa ρ h).bind fun ds h1=>LZ i j k ρ ds h1
end
@[simp] theorem ZeE {i j k:Nat} {fa:MA} {ρ:Ae} {h:HD} {Q:Fl×Ae→HD→Prop}:Wp (PX i j k fa ρ h) Q=Wp (fa ρ h) fun ds h1=>Wp (LZ i j k ρ ds h1) Q:=by unfold PX;rw [Al]
@[simp] theorem ZeF {i j k:Nat} {ρ:Ae} {u v w:D} {h:HD} {Q:Fl×Ae→HD→Prop}:Wp (LZ i j k ρ [u,v,w] h) Q=Q (.nx,((ρ.set i (some u)).set j (some v)).set k (some w)) h:=rfl
section
variable {X:Cx}
abbrev ZeG:=Ep fun i j=>.int (Builtin.bitXor i j)
end
section
variable {X:Cx} {E:XK} {D:Addr} {elt tg iter:Expr} {ifs:List Expr} {gs gens:List Comprehension} {scope:Scope} {pos:Pos} {Nc:List Str} {cs:List (Option Nat)} {it:MI} {gg:TG} {sg:MG} {t:MT} {f:ME} {e:Dc} {d:Nat} {is js:List Nat}
end
def YH:List Expr→Option (List (Int×Int))
 |[]=>some []
 |.Tuple [.Constant (.int a) _ _,.Constant (.int b) _ _] _ _::es=>(YH es).map ((a,b)::·)
 |_=>none
noncomputable def JA:List (Int×Int)→MA
 |[]=>Ac
 |p::ps=>Ab (BJ (Ab (mC (.int p.1)) (Ab (mC (.int p.2)) Ac))) (JA ps)
@[simp] theorem ZeH:JA []=Ac:=rfl
@[simp] theorem ZeI {p:Int×Int} {ps:List (Int×Int)}:JA (p::ps)=Ab (BJ (Ab (mC (.int p.1)) (Ab (mC (.int p.2)) Ac))) (JA ps):=rfl
section
variable {X:Cx} {E:XK}
@[irreducible] def ExI (X:Cx) (E:XK) (st:Stmt) (g:MS):Prop:=Ex X E st g
@[irreducible] def ZeJ (X:Cx) (E:XK) (sts:List Stmt) (g:MS):Prop:=B4 X E sts g
end
end LS
namespace LS
open PySem PySem.Spec PySem.W PyProof.Rows L2
end LS
namespace LS
open PySem PySem.Spec PyProof.Rows L2 PySem.W
end LS
namespace Tp
open PySem PySem.W PySem.Spec PySem.Calls PyProof.Rows
abbrev PY:=List (Option (FuncData×Bool×Bool))×List (Option Int)×List (Option (Option Value))×Bool
noncomputable def ZeK (W:Want) (s:Shared):PY:=fL (F5 s.heap) fun K=>
 (W.fs.map fun x=>Fb K x.1,W.cs.map fun x=>Fc K x.1,W.bs.map (nsIn K mainGlobals),true)
def ZeL (W:Want):PY:=(W.fs.map fun x=>some (G9 x.1 x.2,true,true),W.cs.map fun x=>some x.2,W.bs.map fun _=>some none,true)
inductive PZ (W:Want) (K:Frag):Prop where
 |mk (fs:∀(i:Nat) n st,W.fs[i]?=some (n,st)→SeenF K n st) (cs:∀(i:Nat) n v,W.cs[i]?=some (n,v)→∃t,nsIn K mainGlobals n=some (some (.int v t))) (bs:∀(i:Nat) n,W.bs[i]?=some n→nsIn K mainGlobals n=some none)
  (et:True):PZ W K
def Says0 (W:Want) (_:World) (h:Heap):Prop:=∃K:Frag,K.In h∧PZ W K
theorem Says0.keeps {W:Want} (w:World) (h h':Heap) (x:Says0 W w h) (k:∀b o,h.get? b=some o→h'.get? b=some o):Says0 W w h':=by
 obtain ⟨K,h1,h2⟩:=x
 exact ⟨K,h1.keeps k,h2⟩
end Tp
namespace LS
open PySem PySem.W PySem.Spec PySem.Calls PyProof.Rows L2
end LS
namespace LS
open PySem PySem.Spec PyProof.Rows L2
def YI:D→HD→Out D:=fun x h=>match x with
 |.loc l=>(match h[l]? with
  |some (.lst ds)=>Bg ds.reverse h
  |_=>.stuck)
 |_=>.stuck
def ZeM (f:ME):ME:=fun ρ h=>(f ρ h).bind YI
section
variable {X:Cx} {E:XK} {e:Expr} {f:ME}
end
def F7:D→D→HD→Out D:=fun x y h=>match x with
 |.exc _ _=>.stuck
 |.edic=>.stuck
 |_=>Aw x y h
section
variable {h:HD} {y:D} {i:Int} {b:Bool} {x:Str} {ds:List D} {l:Nat}
@[simp] theorem ZeN:F7 (.int i) y h=Aw (.int i) y h:=rfl
@[simp] theorem ZeO:F7 (.bl b) y h=Aw (.bl b) y h:=rfl
@[simp] theorem ZeP:F7 .non y h=Aw .non y h:=rfl
@[simp] theorem ZeQ:F7 (.str x) y h=Aw (.str x) y h:=rfl
@[simp] theorem ZeR:F7 (.tup ds) y h=Aw (.tup ds) y h:=rfl
@[simp] theorem ZeS:F7 (.loc l) y h=Aw (.loc l) y h:=rfl
end
end LS
namespace LS
open PySem PySem.Spec PyProof.Rows L2 PySem.W PySem.Calls
section
variable {X:Cx} {E:XK}
def Dd:D→D→HD→Out D:=fun x y h=>match x,y with
 |.str z,.int i=>if z.length≤sizeLine then (match BC z.cps.toList i with
  |some c=>.ok (.str ⟨#[c]⟩) h
  |none=>.stuck) else .stuck
 |_,_=>.stuck
theorem YJ {a b:Expr} {pos:Pos} {f g:ME} (ha:Ev X E a f) (hb:Ev X E b g) (hs:KI b):Ev X E (.Subscript a b pos) (Af Dd f g):=
 BD (NH UP ha hb hs) fun σ H Q hq=>GR hq fun m H2 h2 x y v u hr rx ry q=>by
  unfold Dd at q
  split at q
  ·rename_i z i
   split at q
   ·rename_i hz
    split at q
    ·rename_i c ec
     simp only [DV] at rx ry
     subst rx ry
     exact ⟨z,i,c,rfl,rfl,hz,ec,AN hr q (by simp [DV])⟩
    ·exact q.elim
   ·exact q.elim
  ·exact q.elim
def Fe:List D→Option (List Str)
 |[]=>some []
 |.str x::ds=>(Fe ds).map (x::·)
 |_=>none
def F8 (sep:Str):List Str→Str
 |[x]=>x
 |xs=>Builtin.Str.glued sep xs
def A8:D→HD→Out D
 |.str x,h=>.ok (.str x) h
 |_,_=>.stuck
def BS:D→D→HD→Out D:=fun x y h=>match x,y with
 |.str sep,.loc l=>(match h[l]? with
  |some (.lst ds)=>(match Fe ds with
   |some xs=>if xs.toArray.foldl (·+ ·.length+sep.length) 0≤sizeLine∧(F8 sep xs).length≤sizeLine then .ok (.str (F8 sep xs)) h else .stuck
   |none=>.stuck)
  |_=>.stuck)
 |_,_=>.stuck
theorem YK (x y:D) (h:HD):Co (BS x y h):=by
 unfold BS
 repeat' split
 all_goals trivial
theorem F9:Lx X "str" A8 where
 two:=fun x h=>by
  unfold A8
  split
  ·exact .inl rfl
  ·exact .inr rfl
 ty:=fun m H h x v hr r e=>by
  unfold A8 at e
  split at e
  ·simp only [DV] at r
   subst r
   exact fun pins σ s u I ru=>KM I ru rfl
  ·cases e
theorem P0 {K:Frag} {m:List Addr} {H:Hp}:∀{ds:List D} {vs:List V} {us:List Value} {xs:List Str},DVs K m H ds vs→Vals vs us→Fe ds=some xs→∃l:List (Str×Tok),us=strValues l∧l.map (·.1)=xs
 |[],_,_,_,r,t,e=>by
  simp only [DVs] at r
  subst r
  cases t
  cases e
  exact ⟨[],rfl,rfl⟩
 |d::ds,_,_,xs,r,t,e=>by
  simp only [DVs] at r
  obtain ⟨v,w,rfl,rv,rw'⟩:=r
  cases t with
  |cons t1 t2=>
   cases d<;>simp only [Fe] at e<;>try cases e
   rename_i x
   cases q:Fe ds with
   |none=>rw [q] at e;cases e
   |some ys=>
    rw [q] at e
    cases e
    obtain ⟨l,e1,e2⟩:=P0 rw' t2 q
    simp only [DV] at rv
    subst rv
    obtain ⟨tk,rfl⟩:=t1
    exact ⟨(x,tk)::l,by rw [e1];rfl,by simp [e2]⟩
theorem YL:DB X "str.join" BS:=by
 intro pins s σ H m h x y v yv u uy Q I hr rx ry r r2 q
 unfold BS at q
 split at q
 ·rename_i sep l
  split at q
  ·rename_i ds el
   split at q
   ·rename_i xs ex
    split at q
    ·rename_i hz
     simp only [DV] at rx ry
     subst rx
     obtain ⟨a,rfl,ha⟩:=ry
     cases (show uy=Value.ref a from r2)
     obtain ⟨t,rfl⟩:=r
     obtain ⟨vs,hv,dv⟩:=hr.cells l _ a el ha
     obtain ⟨z,its,n,rr,hl,e⟩:=I.lstM hv
     obtain ⟨ps,e1,e2⟩:=P0 dv rr ex
     subst e1
     have hlen:Builtin.Str.tooLong ((ps.map (·.1)).toArray.foldl (·+ ·.length+sep.length) 0)=false:=by
      rw [e2]
      exact decide_eq_false (Nat.not_lt.mpr hz.1)
     have Ay:∀(tk tk':Tok),EP X pins σ Q (.str (F8 sep xs) tk) {s with toks:=tk'}:=fun tk tk'=>⟨.str (F8 sep xs),H,I.tok _,⟨tk,rfl⟩,AN hr q (by simp [DV])⟩
     refine call_meets F.slot_str_join (typeIs_str _ _ _) F.entry_str_join (F.args_str_join_2 _ _) (meets_str_join_list sep t a ps hlen) ⟨⟨_,e,rfl,n,rfl⟩,?_⟩
     subst e2
     match ps,Ay,hz with
     |[],Ay,hz=>exact ⟨hz.2,Ay _ _⟩
     |[p],Ay,hz=>exact Ay _ _
     |p::p'::ps,Ay,hz=>exact ⟨hz.2,Ay _ _⟩
    ·exact q.elim
   ·exact q.elim
  ·exact q.elim
 ·exact q.elim
def L4 (n:Str):List D→HD→Out D:=fun xs h1=>if xs.length≤sizeLine then .ok (.exc n []) h1 else .stuck
def P3 (n:Str) (fa:MA):ME:=fun ρ h=>(fa ρ h).bind (L4 n)
noncomputable def P4:List D→HD→Out D:=fun xs h1=>match xs with
 |[.int a,.int b]=>(match LO [none,some (.int a),some (.int b)] h1 with
  |.ok (.str _) h2=>.ok (.exc "TooMany" [("many",a),("most",b)]) h2
  |_=>.stuck)
 |_=>.stuck
noncomputable def P5 (fa:MA):ME:=fun ρ h=>(fa ρ h).bind P4
end
section
variable {n:Str} {fa:MA} {f:ME} {ρ:Ae} {h:HD} {Q:D→HD→Prop}
@[simp] theorem ZeT:Wp (P3 n fa ρ h) Q=Wp (fa ρ h) fun xs h1=>Wp (L4 n xs h1) Q:=by unfold P3;rw [Al]
@[simp] theorem ZeU {x:D}:L4 n [x] h=.ok (.exc n []) h:=if_pos (by show 1≤sizeLine;decide)
@[simp] theorem ZeV:Wp (P5 fa ρ h) Q=Wp (fa ρ h) fun xs h1=>Wp (P4 xs h1) Q:=by unfold P5;rw [Al]
@[simp] theorem ZeW {x:Str}:A8 (.str x) h=.ok (.str x) h:=rfl
@[simp] theorem ZeX {nm:Str}:Wp (PF f nm ρ h) Q=Wp (f ρ h) fun d h1=>Wp (PD nm d h1) Q:=by unfold PF;rw [Al]
end
def P6:D→D→HD→Out D:=fun x y h=>match x,y with
 |.loc l,.loc k=>(match h[l]?,h[k]? with
  |some (.lst ds),some (.lst es)=>if ds.length+es.length≤sizeLine then .ok .non (h.set l (.lst (ds++es))) else .stuck
  |_,_=>.stuck)
 |_,_=>.stuck
section
variable {X:Cx} {E:XK}
def P7 (f g:ME):ME:=fun ρ h=>((f ρ h).bind BG).bind fun x h1=>(g ρ h1).bind fun y h2=>P6 x y h2
end
section
variable {f g:ME} {ρ:Ae} {h:HD} {Q:D→HD→Prop} {l k:Nat} {ds es:List D}
@[simp] theorem ZeY:Wp (P7 f g ρ h) Q=Wp (f ρ h) fun x h1=>Wp (BG x h1) fun x h1=>Wp (g ρ h1) fun y h2=>Wp (P6 x y h2) Q:=by unfold P7;simp only [Al]
end
def YM:AM→Bool
 |.i _=>true
 |_=>false
def Ga (kvs:List (AM×D)):Bool:=kvs.all fun p=>YM p.1
def Ha (kvs:List (AM×D)) (k:AM):Option D:=(kvs.find? fun p=>decide (p.1=k)).map (·.2)
def Ff (kvs:List (AM×D)) (k:AM) (v:D):List (AM×D):=if kvs.any (fun p=>decide (p.1=k)) then kvs.map (fun p=>if p.1=k then (p.1,v) else p) else kvs++[(k,v)]
def IR (K:Frag) (m:List Addr) (H:Hp) (p:AM×D) (q:Int×Value):Prop:=p.1=.i q.1∧∃v,DV K m H p.2 v∧RelV v q.2
section
variable {P:Program} {w:World} {K:Frag} {m:List Addr} {H:Hp} {h:Heap} {a:Addr}
theorem EntD.len:∀{kvs:List (AM×D)} {es:List (AM×V×V)},EntD K m H kvs es→kvs.length=es.length
 |[],_,e=>by simp only [EntD] at e;subst e;rfl
 |_::_,_,e=>by
  simp only [EntD] at e
  obtain ⟨kv,vv,r',rfl,_,_,t⟩:=e
  simp [EntD.len t]
end
section
variable {X:Cx} {E:XK} {pins:List (Addr×Obj)} {σ:L2.St} {H:Hp} {s:Shared}
def L5 (kvs:List (AM×D)) (h:HD):Out D:=.ok (.loc h.length) (h++[.dic false kvs])
def YN:ME:=fun _ h=>L5 [] h
def YO (i j:Int):ME:=fun _ h=>L5 [(.i i,.int j)] h
def P8:D→HD→Out D:=fun x h=>match x with
 |.loc l=>(match h[l]? with
  |some (.dic _ _)=>.ok x h
  |_=>.stuck)
 |_=>.stuck
def P9:D→D→D→HD→Out D:=fun x y z h=>match x,y with
 |.loc l,.int n=>(match h[l]? with
  |some (.dic _ kvs)=>if Ga kvs then .ok ((Ha kvs (.i n)).getD z) h else .stuck
  |_=>.stuck)
 |_,_=>.stuck
def Qa (f g k:ME):ME:=fun ρ h=>((f ρ h).bind P8).bind fun x h1=>(g ρ h1).bind fun y h2=>(k ρ h2).bind fun z h3=>P9 x y z h3
def Qb (o i v:D) (h:HD) (g:HD→Out (Fl×Ae)):Out (Fl×Ae):=match o,i with
 |.loc l,.int n=>(match h[l]? with
  |some (.dic false kvs)=>if Ga kvs∧kvs.length<sizeLine then g (h.set l (.dic false (Ff kvs (.i n) v))) else .stuck
  |_=>.stuck)
 |_,_=>.stuck
def Qc (fo fi fv:ME):MS:=fun ρ h=>(fv ρ h).bind fun v h1=>(fo ρ h1).bind fun o h2=>(fi ρ h2).bind fun i h3=>Qb o i v h3 fun h4=>.ok (.nx,ρ) h4
def ZeZ (K:Frag):V→V→V→Hp→(Hp→Prop)→Prop:=fun o i v H Q=>∃(m:List Addr) (a:Addr) (n:Int) (kvs:List (AM×D)) (es:List (AM×V×V)) (d:D),o=.ref a∧i=.int n∧H a=some (.dct (Cz a es))∧EntD K m H kvs es∧Ga kvs=true∧kvs.length<sizeLine∧DV K m H d v∧
 ∀es',EntD K m H (Ff kvs (.i n) d) es'→Q (Ah H a (.dct (Cz a es')))
def Ze0 (a:Addr) (ob:Obj) (es:List (AM×V×V)):It:=⟨fun i H=>H a=some (.frz ob (.dct (Cz a es)))∧i<es.length,fun i H x H'=>∃p k kv vv,H p=none∧x=.ref p∧es[i]?=some (k,kv,vv)∧H'=Ah H p (.tup [kv,vv]),fun i H=>H a=some (.frz ob (.dct (Cz a es)))∧i=es.length⟩
def Qd (d:D) (h:HD):Out (List D×AK):=match d with
 |.loc l=>(match h[l]? with
  |some (.dic _ kvs)=>if Ga kvs then .ok (kvs.map fun p=>.tup [kD p.1,p.2],[]) (h.set l (.dic true kvs)) else .stuck
  |_=>.stuck)
 |_=>.stuck
def Qe (f:ME):MI:=fun ρ h=>(f ρ h).bind Qd
end
section
variable {f g k fo fi fv:ME} {ρ:Ae} {h:HD} {Q:D→HD→Prop} {QS:Fl×Ae→HD→Prop} {QI:List D×AK→HD→Prop} {i j:Int} {l:Nat} {fz:Bool} {kvs:List (AM×D)}
@[simp] theorem Ze1:Wp (YN ρ h) Q=Q (.loc h.length) (h++[.dic false []]):=id rfl
@[simp] theorem Ze2:Wp (YO i j ρ h) Q=Q (.loc h.length) (h++[.dic false [(.i i,.int j)]]):=id rfl
@[simp] theorem Ze3:Wp (Qa f g k ρ h) Q=Wp (f ρ h) fun x h1=>Wp (P8 x h1) fun x h2=>Wp (g ρ h2) fun y h3=>Wp (k ρ h3) fun z h4=>Wp (P9 x y z h4) Q:=by unfold Qa;simp only [Al]
@[simp] theorem Ze4:Wp (Qc fo fi fv ρ h) QS=Wp (fv ρ h) fun v h1=>Wp (fo ρ h1) fun o h2=>Wp (fi ρ h2) fun i h3=>Wp (Qb o i v h3 fun h4=>.ok (.nx,ρ) h4) QS:=by unfold Qc;simp only [Al]
@[simp] theorem Ze5:Wp (Qe f ρ h) QI=Wp (f ρ h) fun d h1=>Wp (Qd d h1) QI:=by unfold Qe;rw [Al]
end
namespace Db
open PySem
section
variable {prog:Program} {w:World} {A:Around} {E:Value→Shared→Prop} {s:Shared}
abbrev iK (prog:Program) (w:World):KeyKind prog w Int:=intKind prog w
inductive RowsAre (prog:Program) (w:World) (h:Heap):List (List Int)→List Value→Prop
 |nil:RowsAre prog w h [] []
 |cons {k:List Int} {v:Value} {ks:List (List Int)} {vs:List Value}:(∃b,v=.ref b∧IsTupleKey (iK prog w) h k b)→RowsAre prog w h ks vs→RowsAre prog w h (k::ks) (v::vs)
def IsBoardKey (prog:Program) (w:World) (h:Heap) (ks:List (List Int)) (a:Addr):Prop:=∃o items n,h.get? a=some o∧o.cls=.type "tuple"∧o.data=.seq items n∧RowsAre prog w h ks items.toList
theorem RowsAre.inj {h:Heap} {x y:List (List Int)} {vs:List Value} (hx:RowsAre prog w h x vs) (hy:RowsAre prog w h y vs):x=y:=by
 induction hx generalizing y with
 |nil=>cases hy;rfl
 |cons h1 _ ih=>
  cases hy with
  |cons h2 t2=>
   obtain ⟨b1,rfl,q1⟩:=h1
   obtain ⟨b2,e,q2⟩:=h2
   cases e
   rw [q1.inj q2,ih t2]
theorem IsBoardKey.inj {h:Heap} {a:Addr} {x y:List (List Int)} (hx:IsBoardKey prog w h x a) (hy:IsBoardKey prog w h y a):x=y:=by
 obtain ⟨o,items,n,ho,_,hd,hi⟩:=hx
 obtain ⟨o',items',n',ho',_,hd',hi'⟩:=hy
 obtain rfl:o=o':=Option.some.inj (ho.symm.trans ho')
 rw [hd] at hd'
 injection hd' with h1 _
 subst h1
 exact hi.inj hi'
theorem IsBoardKey.typeIs {ks:List (List Int)} {a:Addr} (x:IsBoardKey prog w s.heap ks a):s.TypeIs (.ref a) "tuple":=let ⟨o,_,_,ho,hc,_⟩:=x;⟨o,ho,hc⟩
theorem RowsAre.keeps {h h':Heap} {d:Addr} {o:Obj} {es ep} (ho:h.get? d=some o) (hd:o.data=.dict es ep) (hs:Heap.SameBut d h h'):∀{ks:List (List Int)} {vs:List Value},RowsAre prog w h ks vs→RowsAre prog w h' ks vs
 |_,_,.nil=>.nil
 |_,_,.cons h1 t=>.cons (let ⟨b,e,q⟩:=h1;⟨b,e,q.keeps ho hd hs⟩) (RowsAre.keeps ho hd hs t)
theorem IsBoardKey.keeps {h h':Heap} {ks:List (List Int)} {a d:Addr} {o:Obj} {es ep} (x:IsBoardKey prog w h ks a) (ho:h.get? d=some o) (hd:o.data=.dict es ep) (hs:Heap.SameBut d h h'):IsBoardKey prog w h' ks a:=by
 obtain ⟨o',items,n,ho',hc,hd',hi⟩:=x
 have hne:a≠d:=by
  rintro rfl
  obtain rfl:o'=o:=Option.some.inj (ho'.symm.trans ho)
  rw [hd] at hd';exact nomatch hd'
 exact ⟨o',items,n,(hs.2 a hne).trans ho',hc,hd',hi.keeps ho hd hs⟩
def Hb (ks:List (List Int)):Nat:=(ks.map fun r=>r.length+1).sum
def L6 (prog:Program) (w:World) (ks:List (List Int)):Int:=reduceHash (Builtin.Tuple.tupleHashOf (ks.map (tupleKeyHash (iK prog w))))
theorem YQ {ks:List (List Int)} {a:Addr} {Q:Int→Shared→Prop} (hu:A.units+1<cLine) (hk:IsBoardKey prog w s.heap ks a) (h:Q (L6 prog w ks) {s with toks:=s.toks+(Hb ks+1)}):
 wpAny (model prog w) A (pyHash (.ref a)) Q E s:=by
 have hT:=hk.typeIs
 obtain ⟨o,items,n,ho,_,hd,hi⟩:=hk
 unfold pyHash
 first |unfold pyHashByItsType |skip
 first |refine wpAny_bind (wpAny_cRoomFor_or (.inr (by omega)) ?_) |skip
 refine wpAny_bind (wpAny_specialOf hT F.slot_tuple_hash.lookup ?_)
 show wpAny _ _ (if (some (Value.builtin "tuple.__hash__")==some Value.none)=true then _ else _) Q E s
 rw [if_neg (by rw [beq_builtin_none];exact Bt)]
 refine wpAny_bind (wpAny_specialOf hT F.slot_tuple_hash.lookup ?_)
 show wpAny _ _ (callSpecialIfBoundUnlessNone? (.ref a) "__hash__" _ >>=_) Q E s
 refine wpAny_bind (wpAny_callSpecialIfBoundUnlessNone?_slot hT F.slot_tuple_hash (wpAny_call_entry F.slot_tuple_hash hT F.entry_tuple_hash ?_ (F.args_tuple_hash_1 _)))
 show wpAny _ _ (Builtin.Tuple.tupleItemsOf (.ref a) >>=_) _ _ s
 refine wpAny_bind (wpAny_tupleItemsOf ho hd ?_)
 refine wpAny_bind ?_
 rw [←Array.forIn_toList]
 refine wpAny_forIn_list _
  (fun rest (b:Array Int) s'=>∃done left,ks=done++left∧RowsAre prog w s.heap left rest∧b.toList=done.map (tupleKeyHash (iK prog w))∧s'={s with toks:=s.toks+Hb done})
  _ ?_ ?_ _ _ ⟨[],ks,rfl,hi,rfl,rfl⟩
 ·rintro x rest b s' ⟨done,left,rfl,hl,hb,rfl⟩
  cases hl with
  |@cons k _ ks' _ h1 hl'=>
   obtain ⟨rb,rfl,hrow⟩:=h1
   refine wpAny_bind (wpAny_pyHash_tuple (by show _<cLine;first |exact hu |omega) hrow ?_)
   first
    |exact wpAny_pure ⟨done++[k],ks',by simp,hl',by simp [hb],by simp [Hb,GH]⟩
    |exact wpAny_bind (wpAny_pure (wpAny_pure ⟨done++[k],ks',by simp,hl',by simp [hb],by simp [Hb,GH]⟩))
 ·rintro b s' ⟨done,left,rfl,hl,hb,rfl⟩
  cases hl
  rw [DP] at h
  show wpAny _ _ (retInt (Builtin.Tuple.tupleHashOf b.toList)) _ _ _
  rw [hb]
  refine wpAny_ret_mkInt ?_
  show wpAny _ _ (if (decide (-(2:Int)^63≤Builtin.Tuple.tupleHashOf (done.map (tupleKeyHash (iK prog w))))&&decide (Builtin.Tuple.tupleHashOf (done.map (tupleKeyHash (iK prog w)))<2^63))=true then _ else _) Q E _
  unfold L6 reduceHash at h
  by_cases hr:(decide (-(2:Int)^63≤Builtin.Tuple.tupleHashOf (done.map (tupleKeyHash (iK prog w))))&&decide (Builtin.Tuple.tupleHashOf (done.map (tupleKeyHash (iK prog w)))<2^63))=true
  ·rw [if_pos hr]
   rw [if_pos hr] at h
   exact wpAny_pure (by simpa [GH] using h)
  ·rw [if_neg hr]
   rw [if_neg hr] at h
   exact wpAny_bind (wpAny_rule (wpAny_pure (by simpa [GH] using h)))
theorem YR {x y:List (List Int)} {a b:Addr} {P:Fin→Shared→Prop} (hu:A.units<cLine) (hx:IsBoardKey prog w s.heap x a) (hy:IsBoardKey prog w s.heap y b) (h:P (.done (.ret (.bool (decide (x=y))))) s):
 wpAny (model prog w) A (Builtin.«tuple.__eq__» ⟨[.ref a,.ref b],[]⟩) P E s:=by
 have hTb:=hy.typeIs
 obtain ⟨oa,xs,na,hoa,_,hda,hia⟩:=hx
 obtain ⟨ob,ys,nb,hob,_,hdb,hib⟩:=hy
 show wpAny _ _ (isInstance (.ref b) (.type "tuple") >>=_) _ _ s
 refine wpAny_bind (wpAny_isInstance hTb isSubtype_tuple_tuple ?_)
 simp only [DQ,Bc,if_false]
 refine wpAny_bind (wpAny_tupleItemsOf hoa hda ?_)
 refine wpAny_bind (wpAny_tupleItemsOf hob hdb ?_)
 refine wpAny_bind ?_
 refine wpAny_forIn_list _
  (fun rest r s'=>r.1=none∧s'=s∧∃x' y' xs' ys',rest=List.zip xs' ys'∧RowsAre prog w s.heap x' xs'∧RowsAre prog w s.heap y' ys'∧decide (x'=y')=decide (x=y)∧(xs'.length==ys'.length)=(xs.size==ys.size))
  _ ?_ ?_ _ _ ⟨rfl,rfl,x,y,xs.toList,ys.toList,rfl,hia,hib,rfl,by simp⟩
 ·rintro ⟨u,v⟩ rest r s' ⟨hr,rfl,x',y',xs',ys',hz,hx',hy',hdec,hlen⟩
  cases hx' with
  |nil=>simp at hz
  |@cons k1 u' x'' xs'' h1 hx''=>
   cases hy' with
   |nil=>simp at hz
   |@cons k2 v' y'' ys'' h2 hy''=>
    simp only [List.zip_cons_cons,List.cons.injEq,Prod.mk.injEq] at hz
    obtain ⟨⟨rfl,rfl⟩,rfl⟩:=hz
    obtain ⟨b1,rfl,r1⟩:=h1
    obtain ⟨b2,rfl,r2⟩:=h2
    refine wpAny_bind (wpAny_eqBool_tuple (x:=k1) (y:=k2) (by show _<cLine;first |exact hu |omega) r1 r2 ?_)
    by_cases hk:k1=k2
    ·subst hk
     rw [decide_eq_true rfl]
     simp only [DQ,Bc,if_false]
     refine wpAny_pure ⟨rfl,rfl,x'',y'',xs'',ys'',rfl,hx'',hy'',?_,by simpa using hlen⟩
     rw [←hdec]
     by_cases hxy:x''=y''
     ·simp [hxy]
     ·simp [hxy]
    ·rw [decide_eq_false hk]
     simp only [Bool.not_false,if_true]
     have hf:decide (x=y)=false:=by rw [←hdec];simp [hk]
     rw [hf] at h
     exact wpAny_bind (wpAny_pure (wpAny_pure (wpAny_pure h)))
 ·rintro ⟨r1,r2⟩ s' ⟨hr,rfl,x',y',xs',ys',hz,hx',hy',hdec,hlen⟩
  simp only at hr
  subst hr
  refine wpAny_pure ?_
  have hfin:(xs.size==ys.size)=decide (x=y):=by
   rw [←hdec,←hlen]
   cases hx' with
   |nil=>
    cases hy' with
    |nil=>simp
    |cons _ _=>simp
   |cons _ _=>
    cases hy' with
    |nil=>simp
    |cons _ _=>simp at hz
  show P (.done (.ret (.bool (xs.size==ys.size)))) s'
  rw [hfin];exact h
theorem YS {x y:List (List Int)} {a b:Addr} {Q:Bool→Shared→Prop} (hu:A.units+1<cLine) (hx:IsBoardKey prog w s.heap x a) (hy:IsBoardKey prog w s.heap y b) (h:Q (decide (x=y)) s):
 wpAny (model prog w) A (eqBool (.ref a) (.ref b)) Q E s:=by
 unfold eqBool
 try with_reducible refine wpAny_holding ?_
 show wpAny _ _ (if (Value.ref a==Value.ref b)=true then _ else _) Q E s
 by_cases hab:(Value.ref a==Value.ref b)=true
 ·rw [if_pos hab]
  have e:a=b:=by have:=eq_of_beq hab;injection this
  subst e
  obtain rfl:=hx.inj hy
  exact wpAny_bind (wpAny_rule (wpAny_pure (by simpa using h)))
 ·rw [if_neg hab]
  exact wpAny_bind (wpAny_richCompare_same_room (op:=.Eq) hx.typeIs hy.typeIs F.slot_tuple_eq
   (wpAny_call_entry F.slot_tuple_eq hx.typeIs F.entry_tuple_eq (YR (by show A.in1.units<cLine;exact hu) hx hy ⟨_,rfl,(fun e=>nomatch e),wpAny_truthy_bool h⟩) (F.args_tuple_eq_2 _ _)) (by omega))
theorem YT {ks:List Int} {a:Addr} {Q:Bool→Shared→Prop} (hk:IsTupleKey (iK prog w) s.heap ks a) (h:Q true s):wpAny (model prog w) A (eqIsQuiet 7 (.ref a)) Q E s:=by
 have hT:=hk.typeIs
 obtain ⟨o,items,n,ho,_,hd,hi⟩:=hk
 unfold eqIsQuiet
 refine wpAny_bind (wpAny_specialOf hT F.slot_tuple_eq.lookup ?_)
 show wpAny _ _ (isInstance (.ref a) (.type "tuple") >>=_) _ _ s
 refine wpAny_bind (wpAny_isInstance hT isSubtype_tuple_tuple ?_)
 simp only [DQ,Bc,if_false]
 refine wpAny_bind (wpAny_seqItems ho hd ?_)
 refine wpAny_bind ?_
 show wpAny _ _ (forIn items _ _) _ _ s
 rw [←Array.forIn_toList]
 refine wpAny_forIn_list _ (fun rest r s'=>r.1=none∧s'=s∧∀v∈rest,carriedByValue v=true) _ ?_ ?_ _ _ ⟨rfl,rfl,hi.byValue⟩
 ·rintro v rest r s' ⟨hr,rfl,hall⟩
  rw [eqIsQuiet_byValue _ (hall v AU)]
  refine wpAny_bind (wpAny_pure ?_)
  simp only [DQ,Bc,if_false]
  exact wpAny_pure ⟨rfl,rfl,fun u hu'=>hall u (AV _ hu')⟩
 ·rintro ⟨r1,r2⟩ s' ⟨hr,rfl,_⟩
  simp only at hr
  subst hr
  exact wpAny_pure h
theorem YU {ks:List (List Int)} {a:Addr} {Q:Bool→Shared→Prop} (hk:IsBoardKey prog w s.heap ks a) (h:Q true s):wpAny (model prog w) A (eqIsQuiet 8 (.ref a)) Q E s:=by
 have hT:=hk.typeIs
 obtain ⟨o,items,n,ho,_,hd,hi⟩:=hk
 unfold eqIsQuiet
 refine wpAny_bind (wpAny_specialOf hT F.slot_tuple_eq.lookup ?_)
 show wpAny _ _ (isInstance (.ref a) (.type "tuple") >>=_) _ _ s
 refine wpAny_bind (wpAny_isInstance hT isSubtype_tuple_tuple ?_)
 simp only [DQ,Bc,if_false]
 refine wpAny_bind (wpAny_seqItems ho hd ?_)
 refine wpAny_bind ?_
 show wpAny _ _ (forIn items _ _) _ _ s
 rw [←Array.forIn_toList]
 refine wpAny_forIn_list _ (fun rest r s'=>r.1=none∧s'=s∧∃ks',RowsAre prog w s.heap ks' rest) _ ?_ ?_ _ _ ⟨rfl,rfl,_,hi⟩
 ·rintro v rest r s' ⟨hr,rfl,hall⟩
  obtain ⟨ks',hall⟩:=hall
  cases hall with
  |cons h1 t1=>
  obtain ⟨rb,rfl,hrow⟩:=h1
  refine wpAny_bind (YT hrow ?_)
  simp only [DQ,Bc,if_false]
  exact wpAny_pure ⟨rfl,rfl,_,t1⟩
 ·rintro ⟨r1,r2⟩ s' ⟨hr,rfl,_⟩
  simp only at hr
  subst hr
  exact wpAny_pure h
end
def Ze6 (prog:Program) (w:World):HeapKind prog w (List (List Int)) where
 is:=IsBoardKey prog w
 hash:=L6 prog w
 draws:=fun ks=>Hb ks+1
 room:=fun A=>A.units+1<cLine
 inj:=fun hx hy=>hx.inj hy
 keeps:=fun x ho hd hs=>x.keeps ho hd hs
 pyHash:=fun hu hk h=>YQ hu hk h
 eqBool:=fun hu hx hy h=>YS hu hx hy h
 quiet:=fun hk h=>YU hk h
section
variable {prog:Program} {w:World} {A:Around} {E:Value→Shared→Prop} {s:Shared}
end
end Db
end LS
namespace LS
open PySem PySem.Spec PyProof.Rows L2 PySem.W PySem.Calls
def YV:AM→Bool
 |.b _=>true
 |_=>false
def Qf (kvs:List (AM×D)):Bool:=kvs.all fun p=>YV p.1
def BR (K:Frag) (m:List Addr) (H:Hp) (p:AM×D) (q:List (List Int)×Addr×Value):Prop:=p.1=.b q.1∧DV K m H (kD p.1) (.ref q.2.1)∧∃v,DV K m H p.2 v∧RelV v q.2.2
section
variable {P:Program} {w:World} {K:Frag} {m:List Addr} {H:Hp} {h:Heap} {a:Addr}
end
def L7:List D→Option (List Int)
 |[]=>some []
 |.int n::ds=>(L7 ds).map (n::·)
 |_=>none
def Qg:List D→Option (List (List Int))
 |[]=>some []
 |.tup ds::r=>(match L7 ds,Qg r with
  |some a,some b=>some (a::b)
  |_,_=>none)
 |_=>none
def YW:D→Option (List (List Int))
 |.tup ds=>Qg ds
 |_=>none
def Qh (o i v:D) (h:HD) (g:HD→Out (Fl×Ae)):Out (Fl×Ae):=match o,YW i with
 |.loc l,some rs=>(match h[l]? with
  |some (.dic false kvs)=>if Qf kvs∧kvs.length<sizeLine then g (h.set l (.dic false (Ff kvs (.b rs) v))) else .stuck
  |_=>.stuck)
 |_,_=>.stuck
def Qi (fo fi fv:ME):MS:=fun ρ h=>(fv ρ h).bind fun v h1=>(fo ρ h1).bind fun o h2=>(fi ρ h2).bind fun i h3=>Qh o i v h3 fun h4=>.ok (.nx,ρ) h4
def Ze7 (K:Frag):V→V→V→Hp→(Hp→Prop)→Prop:=fun o i v H Q=>∃(m:List Addr) (a:Addr) (rs:List (List Int)) (kvs:List (AM×D)) (es:List (AM×V×V)) (d:D),o=.ref a∧DV K m H (kD (.b rs)) i∧H a=some (.dct (Cz a es))∧EntD K m H kvs es∧Qf kvs=true∧kvs.length<sizeLine∧DV K m H d v∧
 ∀es',EntD K m H (Ff kvs (.b rs) d) es'→Q (Ah H a (.dct (Cz a es')))
section
variable {X:Cx} {E:XK} {pins:List (Addr×Obj)} {σ:L2.St} {H:Hp} {s:Shared}
def Ze8:D→HD→Out D:=fun x h=>match x with
 |.loc l=>(match h[l]? with
  |some (.dic _ kvs)=>.ok (.int kvs.length) h
  |_=>.stuck)
 |_=>.stuck
def Ze9 (a:Addr) (ob:Obj) (es:List (AM×V×V)):It:=⟨fun i H=>H a=some (.frz ob (.dct (Cz a es)))∧i<es.length,fun i H x H'=>H'=H∧∃k vv,es[i]?=some (k,x,vv),fun i H=>H a=some (.frz ob (.dct (Cz a es)))∧i=es.length⟩
def Qj (d:D) (h:HD):Out (List D×AK):=match d with
 |.loc l=>(match h[l]? with
  |some (.dic _ kvs)=>.ok (kvs.map fun p=>kD p.1,[]) (h.set l (.dic true kvs))
  |_=>.stuck)
 |_=>.stuck
def Qk (f:ME):MI:=fun ρ h=>(f ρ h).bind Qj
end
section
variable {f fo fi fv:ME} {ρ:Ae} {h:HD} {QS:Fl×Ae→HD→Prop} {QI:List D×AK→HD→Prop}
@[simp] theorem Zfa:Wp (Qi fo fi fv ρ h) QS=Wp (fv ρ h) fun v h1=>Wp (fo ρ h1) fun o h2=>Wp (fi ρ h2) fun i h3=>Wp (Qh o i v h3 fun h4=>.ok (.nx,ρ) h4) QS:=by unfold Qi;simp only [Al]
@[simp] theorem Zfb:Wp (Qk f ρ h) QI=Wp (f ρ h) fun d h1=>Wp (Qj d h1) QI:=by unfold Qk;rw [Al]
end
namespace Dt
open PySem
section
variable {prog:Program} {w:World} {A:Around} {E:Value→Shared→Prop} {s:Shared}
abbrev iK (prog:Program) (w:World):KeyKind prog w Int:=intKind prog w
abbrev tK (prog:Program) (w:World):HeapKind prog w (List Int):=tupleKind (iK prog w)
abbrev JB:=List Int×Addr×Value
def Zfc (P:Program) (w:World) (h:Heap) (u:Value) (e:JB):Prop:=∃p o m,u=.ref p∧h.get? p=some o∧o.cls=.type "tuple"∧o.data=.seq #[.ref e.2.1,e.2.2] m∧IsTupleKey (iK P w) h e.1 e.2.1
def Zfd (xs:List JB) (e:JB):List JB:=storedH xs e.1 e.2.1 e.2.2
end
end Dt
end LS
namespace LS
open PySem PySem.Spec PyProof.Rows L2 PySem.W PySem.Calls
namespace Mn
open PySem
def Zfe (prog:Program) (w:World) (A:Around) (h0:Heap) (P:Nat→Value→Prop) (bt:Nat→Nat→Bool):Prop:=
 ∀i j vi vj (s:Shared) (Q:Value→Shared→Prop) (E:Value→Shared→Prop),(∀b o,h0.get? b=some o→s.heap.get? b=some o)→P i vi→P j vj→Q (.bool (bt i j)) s→wpAny (model prog w) A (richCompare .Lt vi vj) Q E s
section
variable {prog:Program} {w:World} {A:Around} {R:Result→Shared→Prop} {I:Addr} {fp wr:List Addr} {n:Nat} {P:Nat→Value→Prop} {St:Nat→Heap→Prop}
end
section
variable {prog:Program} {w:World} {A:Around} {E:Value→Shared→Prop} {s:Shared}
end
end Mn
end LS
namespace LS
open PySem PySem.Spec PyProof.Rows L2 PySem.W PySem.Calls
def YX:AM→Bool
 |.t _=>true
 |_=>false
def Hc (kvs:List (AM×D)):Bool:=kvs.all fun p=>YX p.1
def TR (K:Frag) (m:List Addr) (H:Hp) (p:AM×D) (q:List Int×Addr×Value):Prop:=p.1=.t q.1∧DV K m H (kD p.1) (.ref q.2.1)∧∃v,DV K m H p.2 v∧RelV v q.2.2
section
variable {P:Program} {w:World} {K:Frag} {m:List Addr} {H:Hp} {h:Heap} {a:Addr}
end
def Gb:D→Option (List Int)
 |.tup ds=>L7 ds
 |_=>none
def YY:D→Option (AM×D)
 |.tup [k,v]=>(Gb k).map fun ns=>(.t ns,v)
 |_=>none
def Zff:D→HD→Out D:=fun x h=>match x with
 |.loc l=>(match h[l]? with
  |some (.lst ds)=>(match AH (ds.map YY) with
   |some ps=>L5 (ps.foldl (fun acc p=>Ff acc p.1 p.2) []) h
   |none=>.stuck)
  |_=>.stuck)
 |_=>.stuck
section
variable {P:Program} {w:World} {K:Frag} {m:List Addr} {H:Hp} {h:Heap} {a:Addr}
end
section
variable {X:Cx} {E:XK}
def Zfg (neg:Bool):D→D→HD→Out D:=fun x y h=>match Gb x,y with
 |some ns,.loc l=>(match h[l]? with
  |some (.dic _ kvs)=>if Hc kvs then .ok (.bl (Bool.xor neg (kvs.any fun p=>decide (p.1=.t ns)))) h else .stuck
  |_=>.stuck)
 |_,_=>.stuck
end
def YZ (nss:List (List Int)) (i j:Nat):Bool:=HT.lexLt (nss.getD i []) (nss.getD j [])
def Zfh:D→HD→Out D:=fun x h=>match x with
 |.loc l=>(match h[l]? with
  |some (.lst ds)=>(match AH (ds.map Gb) with
   |some nss=>if nss=[] then .stuck else .ok (ds.getD (argBest (YZ nss) (nss.length - 1)) .non) h
   |none=>.stuck)
  |_=>.stuck)
 |_=>.stuck
section
variable {X:Cx} {E:XK}
end
def Ql (o i v:D) (h:HD) (g:HD→Out (Fl×Ae)):Out (Fl×Ae):=match o,Gb i with
 |.loc l,some rs=>(match h[l]? with
  |some (.dic false kvs)=>if Hc kvs∧kvs.length<sizeLine then g (h.set l (.dic false (Ff kvs (.t rs) v))) else .stuck
  |_=>.stuck)
 |_,_=>.stuck
def Qm (fo fi fv:ME):MS:=fun ρ h=>(fv ρ h).bind fun v h1=>(fo ρ h1).bind fun o h2=>(fi ρ h2).bind fun i h3=>Ql o i v h3 fun h4=>.ok (.nx,ρ) h4
def Zfi (K:Frag):V→V→V→Hp→(Hp→Prop)→Prop:=fun o i v H Q=>∃(m:List Addr) (a:Addr) (rs:List Int) (kvs:List (AM×D)) (es:List (AM×V×V)) (d:D),o=.ref a∧DV K m H (kD (.t rs)) i∧H a=some (.dct (Cz a es))∧EntD K m H kvs es∧Hc kvs=true∧kvs.length<sizeLine∧DV K m H d v∧
 ∀es',EntD K m H (Ff kvs (.t rs) d) es'→Q (Ah H a (.dct (Cz a es')))
section
variable {X:Cx} {E:XK} {pins:List (Addr×Obj)} {σ:L2.St} {H:Hp} {s:Shared}
end
section
variable {K:Frag} {m:List Addr} {H:Hp}
end
def Y0 (neg:Bool):D→D→HD→Out D:=fun x y h=>match y with
 |.loc l=>(match h[l]? with
  |some (.dic _ kvs)=>(match x with
   |.int n=>if Ga kvs then .ok (.bl (Bool.xor neg (Ha kvs (.i n)).isSome)) h else .stuck
   |_=>(match Gb x with
    |some ns=>if Hc kvs then .ok (.bl (Bool.xor neg (Ha kvs (.t ns)).isSome)) h else .stuck
    |none=>.stuck))
  |_=>.stuck)
 |_=>.stuck
section
variable {X:Cx} {E:XK}
def Zfj (X:Cx) (neg:Bool):R2:=fun v u H Q=>∃m h x y,HR X.K m h H∧DV X.K m H x v∧DV X.K m H y u∧Post X.K (rD X.K) m H E0 Q (Y0 neg x y h)
def Y1:D→D→HD→Out D:=fun x y h=>match x with
 |.loc l=>(match h[l]? with
  |some (.dic _ kvs)=>(match y with
   |.int n=>if Ga kvs then (match Ha kvs (.i n) with
    |some d=>.ok d h
    |none=>.stuck) else .stuck
   |_=>(match Gb y with
    |some ns=>if Hc kvs then (match Ha kvs (.t ns) with
     |some d=>.ok d h
     |none=>.stuck) else .stuck
    |none=>.stuck))
  |_=>.stuck)
 |_=>.stuck
def Zfk (X:Cx):R2:=fun v u H Q=>∃m h x y,HR X.K m h H∧DV X.K m H x v∧DV X.K m H y u∧Post X.K (rD X.K) m H E0 Q (Y1 x y h)
def Qn:D→HD→Out D:=fun x h=>match x with
 |.loc l=>(match h[l]? with
  |some (.lst ds)=>(match ds[ds.length - 1]? with
   |some d=>.ok d (h.set l (.lst ds.dropLast))
   |none=>.stuck)
  |_=>.stuck)
 |_=>.stuck
def Qo (f:ME):ME:=fun ρ h=>((f ρ h).bind BG).bind Qn
theorem DVs.dropLast {K:Frag} {m:List Addr} {H:Hp} {ds:List D} {vs:List V} (r:DVs K m H ds vs):DVs K m H ds.dropLast vs.dropLast:=by
 rw [List.dropLast_eq_take,List.dropLast_eq_take,r.len]
 exact r.take _
end
section
variable {f fo fi fv:ME} {ρ:Ae} {h:HD} {QS:Fl×Ae→HD→Prop} {Q:D→HD→Prop} {l:Nat} {ds:List D}
@[simp] theorem Zfl:Wp (Qm fo fi fv ρ h) QS=Wp (fv ρ h) fun v h1=>Wp (fo ρ h1) fun o h2=>Wp (fi ρ h2) fun i h3=>Wp (Ql o i v h3 fun h4=>.ok (.nx,ρ) h4) QS:=by unfold Qm;simp only [Al]
@[simp] theorem Zfm:Wp (Qo f ρ h) Q=Wp (f ρ h) fun x h1=>Wp (BG x h1) fun x h1=>Wp (Qn x h1) Q:=by unfold Qo;simp only [Al]
end
end LS
namespace LS
open PySem PySem.Spec PyProof.Rows L2
def Zfn (i j k l:Nat):MG:=fun d ρ=>match d with
 |.tup [.tup [x,y,z],t]=>some ((((ρ.set i (some x)).set j (some y)).set k (some z)).set l (some t))
 |_=>none
abbrev Zfo (K:PySem.W.Frag) (i j k l:Nat):TG:=Ej K 2 (B7 (Ej K 3 (B7 (BO i) (B7 (BO j) (B7 (BO k) Ei)))) (B7 (BO l) Ei))
abbrev Qp (h:Heap) (z TI TO:Addr) (f0 f1:Value):Prop:=h.get? z=some {cls:=.type "zip",dict:=none,data:=.fields #[f0,f1,.bool false,.ref TI,.ref TO],slots:=#[]}
inductive ZipN (h:Heap) (z TI TO:Addr):Prop where
 |none (b:Bool) (e:Qp h z TI TO .none (.bool b)):ZipN h z TI TO
 |held (a:Int) (t:Tok) (b:Bool) (e:Qp h z TI TO (.int a t) (.bool b)):ZipN h z TI TO
section
variable {prog:Program} {w:World} {A:Around} {E:Value→Shared→Prop} {s:Shared} {z TI TO p q:Addr} {f g:List Addr} {n1 n2 k:Nat} {P1 P2:Nat→Value→Prop} {S1 S2:Nat→Heap→Prop} {a b:Value}
theorem ZipN.at {h h':Heap} (x:ZipN h z TI TO) (f:∀o,h.get? z=some o→h'.get? z=some o):ZipN h' z TI TO:=by
 cases x with
 |none b e=>exact .none b (f _ e)
 |held a t b e=>exact .held a t b (f _ e)
theorem ZipN.get {h:Heap} (x:ZipN h z TI TO):∃o,h.get? z=some o:=by
 cases x with
 |none b e=>exact ⟨_,e⟩
 |held a t b e=>exact ⟨_,e⟩
end
inductive Y2 (k1 k2:Bool) (z TI TO p q t u:Addr) (i:Nat) (h:Heap):Prop where
 |mk (zz:ZipN h z TI TO) (zi:IsPair h TI (.ref p) (.ref q)) (zo:∃a b,IsPair h TO a b) (x1:ItAt k1 h p t i) (x2:ItAt k2 h q u i):Y2 k1 k2 z TI TO p q t u i h
section
variable {X:Cx} {E:XK}
end
section
variable {X:Cx} {E:XK}
inductive Y3 (vs:List V) (H:Hp) (Q:VK):Prop where
 |mk (r:Addr) (n:Nat) (e:vs=[.ref r]) (hr:H r=some (.ext (LI r n))) (hn:n≤1000) (q:∀p,H p=none→Q (.ref p) (Ah H p (.lst ((List.range n).map fun i=>V.int ((i:Nat):Int))))):Y3 vs H Q
noncomputable def Y4:D→HD→Out D:=fun d h=>match d with
 |.int i=>@ite _ (0≤i∧i≤1000) (Classical.propDecidable _) (Bg ((List.range i.toNat).map fun k=>D.int ((k:Nat):Int)) h) .stuck
 |_=>.stuck
noncomputable def Zfp (f:ME):ME:=fun ρ h=>(f ρ h).bind Y4
end
end LS
namespace LS
open PySem PySem.Spec PyProof.Rows L2 PySem.W PySem.Calls
variable {g:Str}
def Qq:Expr→List Str
 |.Name x _=>[x]
 |_=>[]
def Y5:Expr→List Str
 |.Tuple es _ _=>es.flatMap Qq
 |_=>[]
def Y6:Expr→List Str
 |.Name x _=>[x]
 |.Tuple es _ _=>es.flatMap Qq++es.flatMap Y5
 |_=>[]
def Y7 (cs:List (Option Nat)) (N:List Str):List Str:=cs.filterMap fun o=>o.map fun j=>N.getD j ""
abbrev JC (tg:Expr) (cs:List (Option Nat)) (N:List Str):List Str:=Y6 tg++Y7 cs N
theorem Y8 {X:Cx} {E:XK} {i:Nat} {x:Str} {pos:Pos} (hN:X.N[i]?=some x:=by rfl) (hv:HN X.env.scope x:=by first |exact Or.inl rfl |exact Or.inr (Or.inl rfl) |exact Or.inr (Or.inr rfl)) (hd:(x==("__debug__":Str))=false:=by decide) (hcd:(x==("__classdict__":Str))=false:=by decide):Ev X E (.Name x pos) (Aa i):=KU (Kr hN hv hd hcd)
section
variable {X:Cx} {E:XK} {scope:Scope} {cs:List (Option Nat)} {tg iter elt:Expr} {it:MI} {gg:TG} {sg:MG} {ifs:List Expr} {t:MT} {f:ME} {pos:Pos}
theorem Y9 (hcalm:X.calm=true) (S:CSc X scope (JC tg cs X.N) cs) (hi:FL X E tg iter it) (hg:IH X.K cs gg sg)
 (hb:∀(C D:Addr) (cells:List (Str×Addr)) (fp:List Addr) (s₀:Shared) (H₀:Hp) (pins:List (Addr×Obj)),PG (BP X (JC tg cs X.N) scope C D cells fp s₀ H₀ pins) tg gg∧II (BP X (JC tg cs X.N) scope C D cells fp s₀ H₀ pins) E0 ifs t∧Ev (BP X (JC tg cs X.N) scope C D cells fp s₀ H₀ pins) E0 elt f)
 (hsf:∀x,foldedSetIterable iter X.env x=pure x:=by intro _;rfl):Ev X E (.ListComp elt [⟨tg,iter,ifs,0⟩] scope pos) (Az cs it sg t f):=Wk hcalm S.ok hi hg hb hsf
theorem Za {j:Nat} {X:Cx} {E:XK} {c P:Addr} {cs:List Nat} {params:Arguments} {body:Expr} {scope:Scope} {k kk:Nat} {Fk:List D→HD→Out D} {f:ME} {fs:Addr} {fd:FuncData} {st:Stmt} {lpos p pos:Pos}
 (L:LamX g X c P) (fna:∀x,X.fn x=true) (hr:Room kk X.A) (lv:Lv X E) (et:etOk X.K=true) (Sd:SaidD X.K X.mg st fs fd) (St:LG st) (hkind:CaM X.prog X.w X.K X.mg X.base "_law_kind" k Fk) (S:LSc X scope (cs.map fun j=>X.N.getD j "") cs)
 (hb:∀(a:Addr) (cd:Value) (cl:List (Str×Addr)) (A:Around) (outer:List Env) (s:Shared) (H:Hp) (E':XK),Room k (A.deeper (envX (A6 g) scope s.heap.objs.size a cd cl))→Ev (DD g X.prog X.w X.K X.mg X.base (cs.map fun j=>X.N.getD j "") scope a cd cl A outer s H E') E' body f)
 (hg:Gl X "_law_said") (hkk:k+2≤kk:=by decide) (hdef:defaultsOf params X.env=([],[]):=by rfl)
 (hbind:∀(cl:List (Str×Addr)) (pm cv ctv:Value),bindArgs (kla_fn "<lambda>" (A6 g) params body scope cl pm cv ctv) ⟨[],[]⟩=pure []:=by exact fun _ _ _ _=>rfl)
 (he:starEach [.Lambda params body scope lpos] X.env=(false,eval (.Lambda params body scope lpos) X.env)::starEach [] X.env:=by rfl) (hpl:(backTo pos (starEach [] X.env)).any (·.1)=false:=by rfl):
 Ev X E (.Call (.Name "_law_said" p) [.Lambda params body scope lpos] [] pos) (D3 j g cs Fk f):=X1 L fna hr lv et Sd St hkind S hb hg hkk hdef hbind he hpl
end
noncomputable def Bm (n m:Nat) (g:MS):List D→HD→Out D:=fun ds h=>if ds.length=n then AF m g ds h else .stuck
section
variable {P:Program} {w:World} {K:PySem.W.Frag} {mg:Str→Option Value} {base h:Heap} {x:Str} {st:Stmt} {N ps:List Str} {k:Nat} {g:MS}
theorem L8 (S:Tp.SeenF K x st) (X:K.In h) (G:h.Ns mainGlobals mg) (bd:∀(kV doc pm:Value) (an:Option Addr) (cdv ct:Value) (us:List Value),us.length=ps.length→bindArgs (PySem.W.fnOf x x (defArgs st) (defBody st) (defScope st) .none kV doc pm an cdv ct) ⟨us,[]⟩=pure (ps.zip us)):∃f fd,Dn K mg x ps st f fd:=by
 obtain ⟨_,_,_,_,_,_,_,_,_,_,a,l,c,k⟩:=S
 exact ⟨_,_,KN l c k,(KN l c k).binds bd,PySem.W.mg_of X G a⟩
theorem BE (S:Tp.SeenF K x st) (X:K.In h) (G:h.Ns mainGlobals mg)
 (b:N.Nodup→∀(f:Addr) (cdv:Value) (A:Around) (outer:List Env) (s:Shared) (H:Hp) (E:XK),Room k (A.deeper (envOfC x (defScope st) s.heap.objs.size f cdv))→B4 (Bv (AL P w K) P w K mg base N x (defScope st) f cdv A outer s H E) E (defBody st) g)
 (bd:∀(kV doc pm:Value) (an:Option Addr) (cdv ct:Value) (us:List Value),us.length=ps.length→bindArgs (PySem.W.fnOf x x (defArgs st) (defBody st) (defScope st) .none kV doc pm an cdv ct) ⟨us,[]⟩=pure (ps.zip us):=by
  intro _ _ _ _ _ _ us hl;rcases us with _ |⟨_,_ |⟨_,_ |⟨_,_ |⟨_,_⟩⟩⟩⟩<;>first |rfl |exact absurd hl (by simp)) (sc:CP N ps (defScope st):=by exact ⟨rfl,rfl,rfl,by decide +kernel,rfl,by decide +kernel,by decide +kernel⟩):CaE P w K mg base x (k+1) (Bm ps.length N.length g):=by
 obtain ⟨f,fd,D⟩:=L8 S X G bd
 exact ⟨f,fd,_,W1 D.fn sc (fun ds h e=>if_neg e) (fun ds h e=>if_pos e) (fun cdv A outer s H E hr=>b sc.nd f cdv A outer s H E hr),D.bd,D.mg,D.fn.kp⟩
theorem Zb (S:Tp.SeenF K x st) (X:K.In h) (G:h.Ns mainGlobals mg)
 (b:N.Nodup→∀(f:Addr) (cdv:Value) (A:Around) (outer:List Env) (s:Shared) (H:Hp),RoomM k (A.deeper (envOfC x (defScope st) s.heap.objs.size f cdv))→B4 (FY P w K mg base N x (defScope st) f cdv A outer s H) E0 (defBody st) g)
 (bd:∀(kV doc pm:Value) (an:Option Addr) (cdv ct:Value) (us:List Value),us.length=ps.length→bindArgs (PySem.W.fnOf x x (defArgs st) (defBody st) (defScope st) .none kV doc pm an cdv ct) ⟨us,[]⟩=pure (ps.zip us):=by
  intro _ _ _ _ _ _ us hl;rcases us with _ |⟨_,_ |⟨_,_ |⟨_,_ |⟨_,_⟩⟩⟩⟩<;>first |rfl |exact absurd hl (by simp)) (sc:CP N ps (defScope st):=by exact ⟨rfl,rfl,rfl,by decide +kernel,rfl,by decide +kernel,by decide +kernel⟩):CaM P w K mg base x (k+1) (Bm ps.length N.length g):=by
 obtain ⟨f,fd,D⟩:=L8 S X G bd
 exact ⟨f,fd,_,Xx D.fn sc (fun ds h e=>if_neg e) (fun ds h e=>if_pos e) (fun cdv A outer s H hr=>b sc.nd f cdv A outer s H hr),D.bd,D.mg,D.fn.kp,fun ds h e=>if_neg e⟩
theorem Zc (S:Tp.SeenF K "_law_said" st) (X:K.In h) (G:h.Ns mainGlobals mg)
 (bd:∀(kV doc pm:Value) (an:Option Addr) (cdv ct:Value) (us:List Value),us.length=(["_law_call"]:List Str).length→bindArgs (PySem.W.fnOf "_law_said" "_law_said" (defArgs st) (defBody st) (defScope st) .none kV doc pm an cdv ct) ⟨us,[]⟩=pure ((["_law_call"]:List Str).zip us):=by
  intro _ _ _ _ _ _ us hl;rcases us with _ |⟨_,_ |⟨_,_⟩⟩<;>first |rfl |exact absurd hl (by simp)):∃f fd,SaidD K mg st f fd:=by
 obtain ⟨f,fd,D⟩:=L8 S X G bd
 exact ⟨f,fd,SaidD.of D⟩
theorem Zd {bs:List Str} (hb:∀(i:Nat) n,bs[i]?=some n→PySem.W.nsIn K mainGlobals n=some none) (X:K.In h) (G:h.Ns mainGlobals mg):∀x∈bs,mg x=none:=fun x hx=>by
 obtain ⟨i,hi,rfl⟩:=GA hx
 exact PySem.W.mg_none_of X G (hb i _ (Bi hi))
end
end LS
namespace LS
open PySem PySem.Builtin PySem.Builtin.Str
abbrev tx (l:List Nat):Str:=⟨l.toArray⟩
theorem Bb (l:List Nat):(tx l).length=l.length:=by show l.toArray.size=_;simp
def A1 (c:Nat):List Nat→Nat→List Nat
 |[],_=>[]
 |a::l,k=>if a=c then k::A1 c l (k+1) else A1 c l (k+1)
theorem Qr (l:List Nat) (c i:Nat) (h:i<l.length):subAt (tx l) (tx [c]) i=decide (l[i]=c):=by
 unfold subAt
 have e:((tx l).cps.extract i (i+(tx [c]).length))=#[l[i]]:=by
  show (l.toArray).extract i (i+1)=_
  apply Array.ext
  ·simp;omega
  ·intro j h1 h2
   simp at h2
   subst h2
   simp
 rw [e]
 by_cases z:l[i]=c
 ·rw [decide_eq_true z];simp [z]
 ·rw [decide_eq_false z];simp [z]
theorem JD (l:List Nat) (c limit:Nat):∀(n k:Nat) (found:Array Nat) (free:Nat),k+n=l.length→free≤k→
 (forIn (List.range' k (n+1)) (found,free) (StrLaws.occBody (tx l) (tx [c]) l.length limit)).run.fst.toList=found.toList++(A1 c (l.drop k) k).take (limit - found.size)
 |0,k,found,free,e,hf=>by
  have:l.drop k=[]:=List.drop_eq_nil_of_le (by omega)
  rw [this]
  unfold StrLaws.occBody
  simp [A1,List.range'_succ]
  rw [if_neg (by rintro ⟨⟨_,h⟩,_⟩;have:(tx [c]).length=1:=rfl;omega)]
  rfl
 |n+1,k,found,free,e,hf=>by
  have hk:k<l.length:=by omega
  rw [List.range'_succ,List.forIn_cons,Hz hk,A1]
  unfold StrLaws.occBody
  rw [Qr l c k hk]
  have one:(tx [c]).length=1:=rfl
  by_cases z:l[k]=c
  ·rw [if_pos z]
   by_cases hs:found.size<limit
   ·rw [if_pos (by simp [z,hs,hf,one];omega)]
    have ih:=JD l c limit n (k+1) (found.push k) (k+(tx [c]).length) (by omega) (GI (by rw [one]))
    refine Eq.trans ih ?_
    simp
    rw [show limit - found.size=(limit - (found.size+1))+1 by omega,List.take_succ_cons]
   ·rw [if_neg (by simp;intro h1;omega)]
    have ih:=JD l c limit n (k+1) found free (by omega) (by omega)
    refine Eq.trans ih ?_
    rw [show limit - found.size=0 by omega,List.take_zero,List.take_zero]
  ·rw [if_neg z,if_neg (by simp [z])]
   exact JD l c limit n (k+1) found free (by omega) (by omega)
theorem Gc (l:List Nat) (c limit:Nat):occurrences (tx l) (tx [c]) 0 (tx l).length limit=(A1 c l 0).take limit:=by
 have hl:(tx l).length=l.length:=Bb l
 rw [StrLaws.occ_eq,hl]
 have:=JD l c limit l.length 0 #[] 0 (by omega) (Am _)
 simpa using this
def Bh (c:Nat) (l:List Nat):Int:=match A1 c l 0 with
 |i::_=>(i:Int)
 |[]=>-1
theorem Ze (l:List Nat) (c:Nat):Txt.find (tx l) (tx [c])=Bh c l:=by
 unfold Txt.find Bh
 rw [Gc]
 cases A1 c l 0<;>rfl
def Ak (c:Nat):List Nat→List (List Nat)
 |[]=>[[]]
 |a::l=>if a=c then []::Ak c l else match Ak c l with
  |[]=>[[a]]
  |p::ps=>(a::p)::ps
theorem DH (c:Nat):∀l,Ak c l≠[]
 |[]=>by simp [Ak]
 |a::l=>by
  unfold Ak
  split
  ·simp
  ·split<;>simp
theorem Gd (c:Nat):∀l,(∀a∈l,a≠c)→Ak c l=[l]
 |[],_=>rfl
 |a::l,h=>by
  unfold Ak
  rw [if_neg (h a AU),Gd c l fun b hb=>h b (AV _ hb)]
theorem Qs (c:Nat):∀l k,A1 c l k=[]↔∀a∈l,a≠c
 |[],k=>by simp [A1]
 |a::l,k=>by
  unfold A1
  split
  ·rename_i h
   subst h
   simp
  ·rename_i h
   rw [Qs c l]
   simp [h]
theorem idxs_len (c:Nat):∀l k,(A1 c l k).length≤l.length
 |[],k=>B2 _
 |a::l,k=>by
  unfold A1
  split
  ·simp;exact idxs_len c l _
  ·simp;exact Nat.le_succ_of_le (idxs_len c l _)
theorem L9 (c:Nat):∀l k,∀i∈A1 c l k,k≤i
 |[],k,i,h=>by cases h
 |a::l,k,i,h=>by
  unfold A1 at h
  split at h
  ·rcases qa4.mp h with rfl |h
   ·exact Am _
   ·exact HB (L9 c l _ i h)
  ·exact HB (L9 c l _ i h)
theorem Ma (L:List Nat) (c:Nat):∀(n k s:Nat),k+n=L.length→s≤k→(∀i,s≤i→i<k→∀h:i<L.length,L[i]≠c)→
 (((s::(A1 c (L.drop k) k).map (·+ 1)).zip ((A1 c (L.drop k) k)++[L.length])).map fun p=>(tx L).cps.toList.extract p.1 p.2)=(match Ak c (L.drop k) with
   |[]=>[L.extract s k]
   |p::ps=>(L.extract s k++p)::ps)
 |0,k,s,e,hs,hn=>by
  have:L.drop k=[]:=List.drop_eq_nil_of_le (by omega)
  rw [this]
  have hk:L.length=k:=by omega
  simp [A1,Ak,hk]
 |n+1,k,s,e,hs,hn=>by
  have hk:k<L.length:=by omega
  rw [Hz hk,A1,Ak]
  by_cases z:L[k]=c
  ·rw [if_pos z,if_pos z]
   have ih:=Ma L c n (k+1) (k+1) (by omega) (Am _) (fun i h1 h2=>by omega)
   rw [A4,Du,List.zip_cons_cons,A4,ih]
   have e0:L.extract (k+1) (k+1)=[]:=by simp
   rw [e0]
   cases hq:Ak c (L.drop (k+1)) with
   |nil=>exact absurd hq (DH _ _)
   |cons p ps=>simp
  ·rw [if_neg z,if_neg z]
   have ih:=Ma L c n (k+1) s (by omega) (by omega) (fun i h1 h2 h3=>by
    by_cases q:i=k
    ·subst q;exact z
    ·exact hn i h1 (by omega) h3)
   rw [ih]
   have e1:L.extract s (k+1)=L.extract s k++[L[k]]:=by
    rw [List.extract_eq_drop_take,List.extract_eq_drop_take]
    have hl:k - s<(L.drop s).length:=by rw [HG];omega
    rw [show k+1 - s=(k - s)+1 by omega,List.take_succ_eq_append_getElem hl]
    congr 2
    rw [List.getElem_drop]
    congr 1
    omega
   rw [e1]
   cases hq:Ak c (L.drop (k+1)) with
   |nil=>exact absurd hq (DH _ _)
   |cons p ps=>simp
theorem Zf (l:List Nat) (c n:Nat) (hn:l.length≤n):partsBetween (tx l) (occurrences (tx l) (tx [c]) 0 (tx l).length n) (tx [c]).length=(Ak c l).map tx:=by
 rw [Gc,Kn (BB (idxs_len c l 0) hn)]
 unfold partsBetween
 have:=Ma l c l.length 0 0 (by omega) (Am _) (fun i h1 h2=>by omega)
 have e:Ak c l=(match Ak c (l.drop 0) with
  |[]=>[l.extract 0 0]
  |p::ps=>(l.extract 0 0++p)::ps):=by
  rw [List.drop_zero]
  cases hq:Ak c l with
  |nil=>exact absurd hq (DH _ _)
  |cons p ps=>simp
 rw [e,←this]
 rw [CN,List.drop_zero]
 show List.map _ _=List.map _ _
 apply EJ
 intro p _
 show (⟨(tx l).cps.extract p.1 p.2⟩:Str)=⟨((tx l).cps.toList.extract p.1 p.2).toArray⟩
 congr 1
 simp
def BF (c:Nat):List Nat→Option (List Nat×List Nat)
 |[]=>none
 |a::l=>if a=c then some ([],l) else (BF c l).map fun p=>(a::p.1,p.2)
theorem cutL_none (c:Nat):∀l,BF c l=none↔∀a∈l,a≠c
 |[]=>by simp [BF]
 |a::l=>by
  unfold BF
  split
  ·rename_i h
   subst h
   simp
  ·rename_i h
   simp [h,cutL_none c l]
theorem Qt (c:Nat):∀l k,BF c l=(match A1 c l k with
 |[]=>none
 |i::_=>some (l.take (i - k),l.drop (i - k+1)))
 |[],k=>rfl
 |a::l,k=>by
  unfold BF A1
  split
  ·simp
  ·rw [Qt c l (k+1)]
   cases e:A1 c l (k+1) with
   |nil=>rfl
   |cons i r=>
    have hi:k+1≤i:=L9 c l (k+1) i (by rw [e];exact AU)
    simp
    rw [show i - k=(i - (k+1))+1 by omega]
    simp
end LS
namespace LS
open PySem PySem.Spec PyProof.Rows L2 PySem.W PySem.Calls
section
variable {X:Cx} {E:XK}
theorem Zg {x z:Str} {t:Tok} {pos:Pos} (hg:Gl X x) (hm:X.mg x=some (.str z t)) (hd:(x==("__debug__":Str))=false:=by decide):Ev X E (.Name x pos) (mC (.str z)):=
 EO (Nd (v:=.str z) hg hm ⟨t,rfl⟩ hd) fun _ _=>by simp [DV]
def Fg (f:Str→Str→Option D):D→D→HD→Out D:=fun x y h=>match x,y with
 |.str a,.str b=>(match f a b with
  |some d=>.ok d h
  |none=>.stuck)
 |_,_=>.stuck
theorem Mb (f:Str→Str→Option D) (x y:D) (h:HD):Co (Fg f x y h):=by
 unfold Fg
 repeat' split
 all_goals trivial
theorem Mc {id:String} {f:Str→Str→Option D} (h:∀(pins:List (Addr×Obj)) (s:Shared) (σ:L2.St) (H:Hp) (a b:Str) (t u:Tok) (d:D) (Q:VK),Inv X pins σ H s→f a b=some d→(∀v:V,(∀m H,DV X.K m H d v)→Q v H)→wpAny (model X.prog X.w) X.A (call (.builtin id) [.str a t,.str b u]) (EP X pins σ Q) X.xe s):DB X id (Fg f):=by
 intro pins s σ H m hd x y v yv u uy Q I hr rx ry r r2 q
 unfold Fg at q
 split at q
 ·rename_i a b
  split at q
  ·rename_i d ed
   simp only [DV] at rx ry
   subst rx ry
   obtain ⟨t,rfl⟩:=r
   obtain ⟨t2,rfl⟩:=r2
   exact h pins s σ H a b t t2 d Q I ed fun v hv=>AN hr q (hv m H)
  ·exact q.elim
 ·exact q.elim
def JE:D→D→HD→Out D:=Fg fun a b=>some (.int (Txt.find a b))
theorem Zh:DB X "str.find" JE:=Mc fun pins s σ H a b t u d Q I e q=>by
 cases e
 exact SC.find ⟨.int (Txt.find a b),H,I.tok _,⟨_,rfl⟩,q _ fun _ _=>by simp [DV]⟩
def Hd:D→D→HD→Out D:=Fg fun a b=>some (.bl (Txt.startswith a b))
theorem Zi:DB X "str.startswith" Hd:=Mc fun pins s σ H a b t u d Q I e q=>by
 cases e
 exact SC.startswith ⟨.bl (Txt.startswith a b),H,I,rfl,q _ fun _ _=>by simp [DV]⟩
def Ge:D→D→HD→Out D:=Fg fun a b=>some (.int (Txt.count a b))
theorem Zj:DB X "str.count" Ge:=Mc fun pins s σ H a b t u d Q I e q=>by
 cases e
 exact SC.count ⟨.int (Txt.count a b),H,I.tok _,⟨_,rfl⟩,q _ fun _ _=>by simp [DV]⟩
def De:D→D→HD→Out D:=fun x y h=>match x,y with
 |.str a,.str ⟨⟨[c]⟩⟩=>if a.length≤sizeLine then Bg ((Ak c a.cps.toList).map fun l=>.str (tx l)) h else .stuck
 |_,_=>.stuck
theorem Zk {ds:List D} {h:HD}:Co (Bg ds h):=by
 unfold Bg
 split<;>trivial
theorem Zl (x y:D) (h:HD):Co (De x y h):=by
 unfold De
 repeat' split
 all_goals first |trivial |exact Zk
theorem Qu:∀(l:List Str) (tk:Nat),Vals (l.map V.str) (strsFrom tk l)
 |[],_=>.nil
 |x::l,tk=>.cons ⟨tk,rfl⟩ (Qu l (tk+1))
theorem Qv {K:Frag} {m:List Addr} {H:Hp}:∀(l:List (List Nat)),DVs K m H (l.map fun l=>.str (tx l)) ((l.map tx).map V.str)
 |[]=>.nil
 |x::l=>.cons (by simp [DV]) (Qv l)
theorem Zm {l:List Nat} {c:Nat} (h:c∈l):Builtin.Str.strKind (tx [c])≤Builtin.Str.strKind (tx l):=by
 unfold Builtin.Str.strKind
 simp only [List.all_toArray,List.all_cons,List.all_nil,Bool.and_true,qaM,decide_eq_true_eq]
 by_cases h1:∀x∈l,x<256
 ·rw [if_pos h1,if_pos (h1 c h)]
  exact Am _
 ·rw [if_neg h1]
  by_cases h2:∀x∈l,x<65536
  ·rw [if_pos h2]
   split
   ·decide
   ·rw [if_pos (h2 c h)]
    exact Am _
  ·rw [if_neg h2]
   repeat' split
   all_goals decide
theorem Zn:DB X "str.split" De:=by
 intro pins s σ H m hd x y v yv u uy Q I hr rx ry r r2 q
 unfold De at q
 split at q
 ·rename_i a c
  split at q
  ·rename_i ha
   simp only [DV] at rx ry
   subst rx ry
   obtain ⟨t,rfl⟩:=r
   obtain ⟨t2,rfl⟩:=r2
   obtain ⟨⟨l⟩⟩:=a
   obtain ⟨hz,Ay⟩:=ES hr (Qv (K:=X.K) (m:=m) (H:=H) (Ak c l)) q
   have hf:H s.heap.objs.size=none:=I.hok.fresh (Am _)
   have one:(Ak c l)=[l]→EP X pins σ Q (.ref s.heap.objs.size) {s with heap:=s.heap.push {cls:=.type "list",data:=.seq [Value.str (tx l) t].toArray}}:=fun e=>by
    rw [e] at Ay
    exact ⟨.ref s.heap.objs.size,Ah H s.heap.objs.size (.lst [.str (tx l)]),I.laid (t':=s.toks) (fun b u e=>AB _ e) (Am _) ⟨by show 1≤sizeLine;decide,[.str (tx l) t],0,.cons ⟨t,rfl⟩ .nil,AW _ rfl⟩,rfl,Ay _ hf⟩
   by_cases h1:(decide ((tx l).length<(tx [c]).length)||decide (Builtin.Str.strKind (tx l)<Builtin.Str.strKind (tx [c])))=true
   ·refine call_meets F.slot_str_split (typeIs_str _ _ _) F.entry_str_split (F.args_str_split_2 _ _) (meets_str_split_cannot_occur (tx l) (tx [c]) t t2 h1) (one (Gd c l fun b hb z=>?_))
    subst z
    rw [FA,decide_eq_true_eq,decide_eq_true_eq,Bb,Bb] at h1
    rcases h1 with h1 |h1
    ·cases l with
     |nil=>cases hb
     |cons=>simp at h1
    ·exact absurd h1 (Nat.not_lt.mpr (Zm hb))
   ·have h1:(decide ((tx l).length<(tx [c]).length)||decide (Builtin.Str.strKind (tx l)<Builtin.Str.strKind (tx [c])))=false:=by simpa using h1
    have ho:=Gc l c ((tx l).length+1)
    rw [Bb,Kn (Nat.le_succ_of_le (idxs_len c l 0)),←Bb l] at ho
    by_cases h2:A1 c l 0=[]
    ·refine call_meets F.slot_str_split (typeIs_str _ _ _) F.entry_str_split (F.args_str_split_2 _ _) (meets_str_split_not_found (tx l) (tx [c]) t t2 h1 rfl (by rw [ho,h2];rfl)) (one (Gd c l ((Qs c l 0).mp h2)))
    ·have hp:Builtin.Str.partsBetween (tx l) (Builtin.Str.occurrences (tx l) (tx [c]) 0 (tx l).length ((tx l).length+1)) (tx [c]).length=(Ak c l).map tx:=Zf l c _ (by rw [Bb];exact Nat.le_succ _)
     refine call_meets F.slot_str_split (typeIs_str _ _ _) F.entry_str_split (F.args_str_split_2 _ _) (meets_str_split_sep (tx l) (tx [c]) t t2 h1 rfl (by rw [ho];cases e:A1 c l 0 with
      |nil=>exact absurd e h2
      |cons=>rfl) ha (by rw [hp];simpa using hz)) ?_
     rw [hp]
     exact ⟨.ref s.heap.objs.size,Ah H s.heap.objs.size (.lst (((Ak c l).map tx).map V.str)),I.laid (fun b u e=>AB _ e) (Am _) ⟨hz,_,0,Qu _ _,AW _ rfl⟩,rfl,Ay _ hf⟩
  ·exact q.elim
 ·exact q.elim
def Au (c:Nat) (l:List Nat):List Nat×List Nat×List Nat:=match BF c l with
 |some (a,b)=>(a,[c],b)
 |none=>(l,[],[])
def D7:D→D→HD→Out D:=fun x y h=>match x,y with
 |.str a,.str ⟨⟨[c]⟩⟩=>if a.length≤sizeLine then .ok (.tup [.str (tx (Au c a.cps.toList).1),.str (tx (Au c a.cps.toList).2.1),.str (tx (Au c a.cps.toList).2.2)]) h else .stuck
 |_,_=>.stuck
theorem Zo (x y:D) (h:HD):Co (D7 x y h):=by
 unfold D7
 repeat' split
 all_goals trivial
theorem Zp:DB X "str.partition" D7:=by
 intro pins s σ H m hd x y v yv u uy Q I hr rx ry r r2 q
 unfold D7 at q
 split at q
 ·rename_i a c
  split at q
  ·rename_i ha
   simp only [DV] at rx ry
   subst rx ry
   obtain ⟨t,rfl⟩:=r
   obtain ⟨t2,rfl⟩:=r2
   obtain ⟨⟨l⟩⟩:=a
   have hf:H s.heap.objs.size=none:=I.hok.fresh (Am _)
   have Ay:=FK (vs:=[.str (tx (Au c l).1),.str (tx (Au c l).2.1),.str (tx (Au c l).2.2)]) hr (.cons (by simp [DV]) (.cons (by simp [DV]) (.cons (by simp [DV]) .nil))) q
   refine call_meets F.slot_str_partition (typeIs_str _ _ _) F.entry_str_partition (F.args_str_partition_2 _ _) (meets_str_partition (tx l) (tx [c]) t t2 rfl ha) ?_
   have hc:=Qt c l 0
   rw [Gc]
   cases e:A1 c l 0 with
   |nil=>
    rw [e] at hc
    have ep:Au c l=(l,[],[]):=by unfold Au;rw [hc]
    rw [ep] at Ay
    exact ⟨.ref s.heap.objs.size,Ah H s.heap.objs.size (.tup [.str (tx l),.str (tx []),.str (tx [])]),I.laid (fun b u e=>AB _ e) (Am _) ⟨by show 3≤sizeLine;decide,_,.cons ⟨_,rfl⟩ (.cons ⟨_,rfl⟩ (.cons ⟨_,rfl⟩ .nil)),IsTup.new _ _,NoDict.new⟩,rfl,Ay _ hf⟩
   |cons i r=>
    rw [e] at hc
    have ep:Au c l=(l.take i,[c],l.drop (i+1)):=by unfold Au;rw [hc];rfl
    rw [ep] at Ay
    have e1:Builtin.Str.strSub (tx l) 0 i=tx (l.take i):=by
     show (⟨(tx l).cps.extract 0 i⟩:Str)=_
     congr 1
     simp
    have e2:Builtin.Str.strSub (tx l) (i+(tx [c]).length) (tx l).length=tx (l.drop (i+1)):=by
     show (⟨(tx l).cps.extract (i+1) (tx l).length⟩:Str)=_
     congr 1
     rw [Bb]
     apply Array.ext'
     simp
     rw [Kn (by rw [HG];exact Am _)]
    show EP X pins σ Q _ {s with toks:=s.toks+1+1,heap:=s.heap.push {cls:=.type "tuple",data:=.seq [.str (Builtin.Str.strSub (tx l) 0 i) s.toks,.str (tx [c]) t2,.str (Builtin.Str.strSub (tx l) (i+(tx [c]).length) (tx l).length) (s.toks+1)].toArray}}
    rw [e1,e2]
    exact ⟨.ref s.heap.objs.size,Ah H s.heap.objs.size (.tup [.str (tx (l.take i)),.str (tx [c]),.str (tx (l.drop (i+1)))]),I.laid (fun b u e=>AB _ e) (Am _) ⟨by show 3≤sizeLine;decide,_,.cons ⟨_,rfl⟩ (.cons ⟨_,rfl⟩ (.cons ⟨_,rfl⟩ .nil)),IsTup.new _ _,NoDict.new⟩,rfl,Ay _ hf⟩
  ·exact q.elim
 ·exact q.elim
end
theorem Zq (x y:D) (h:HD):Co (JE x y h):=Mb _ x y h
theorem Zr (x y:D) (h:HD):Co (Hd x y h):=Mb _ x y h
theorem Zs (x y:D) (h:HD):Co (Ge x y h):=Mb _ x y h
theorem Zt (l:List Nat) (lo hi:Option Int):(Builtin.Str.strSliceIndices lo hi 1 l.length).filterMap (l.toArray[·]?)=(l.drop (HT.sIx l.length 0 lo)).take (HT.sIx l.length l.length hi - HT.sIx l.length 0 lo)∧(Builtin.Str.strSliceIndices lo hi 1 l.length).length=HT.sIx l.length l.length hi - HT.sIx l.length 0 lo:=by
 have a0:∀o,HT.sIx l.length 0 o≤l.length:=fun o=>HT.sIx_le _ _ (B2 _) o
 have b0:∀o,HT.sIx l.length l.length o≤l.length:=fun o=>HT.sIx_le _ _ (Am _) o
 have key:∀(a b:Nat),a≤l.length→b≤l.length→(sliceRange (a:Int) (b:Int) 1)=(List.range (b - a)).map fun k=>a+k:=fun a b ha hb=>by
  unfold sliceRange
  by_cases hlt:(a:Int)<b
  ·simp only [show ((1:Int)>0)=True from by simp,if_true,hlt]
   have e3:(((b:Int) - a+1 - 1) / 1).toNat=b - a:=by first |omega |(simp;done) |(simp;omega)
   rw [e3]
   exact EJ fun k _=>by omega
  ·have:b - a=0:=by omega
   simp [hlt,this]
 have cl:∀(v:Int) (d:Nat),max (0:Int) (min (if v<0 then v+(l.length:Int) else v) l.length)=((HT.sIx l.length d (some v):Nat):Int):=fun v d=>by
  rw [←HT.clip_eq v l.length d]
  split<;>omega
 have main:Builtin.Str.strSliceIndices lo hi 1 l.length=sliceRange ((HT.sIx l.length 0 lo:Nat):Int) ((HT.sIx l.length l.length hi:Nat):Int) 1:=by
  unfold Builtin.Str.strSliceIndices
  simp only [show ((1:Int)>0)=True from by simp,if_true]
  congr 1
  ·cases lo with
   |none=>rfl
   |some v=>exact cl v 0
  ·cases hi with
   |none=>rfl
   |some v=>exact cl v l.length
 rw [main,key _ _ (a0 lo) (b0 hi)]
 refine ⟨?_,by simp⟩
 have:=StrLaws.picks l (HT.sIx l.length l.length hi - HT.sIx l.length 0 lo) (HT.sIx l.length 0 lo)
 by_cases hh:HT.sIx l.length 0 lo≤HT.sIx l.length l.length hi
 ·have:=this (by have:=b0 hi;omega)
  simpa using this
 ·rw [show HT.sIx l.length l.length hi - HT.sIx l.length 0 lo=0 by omega]
  simp
def BX (l:List Nat) (lo hi:Option Int):List Nat:=(l.drop (HT.sIx l.length 0 lo)).take (HT.sIx l.length l.length hi - HT.sIx l.length 0 lo)
section
variable {X:Cx} {E:XK}
def Zu:V→Option Int→Option Int→Hp→VK→Prop:=fun x lo hi H Q=>∃l:List Nat,x=.str (tx l)∧l.length≤sizeLine∧Q (.str (tx (BX l lo hi))) H
theorem Qw {v:Value} {o:Option Int} (p:IsPart v o):∃q:Option (Int×Tok),v=partValue q∧q.map (·.1)=o:=by
 cases p with
 |none=>exact ⟨none,rfl,rfl⟩
 |int i t=>exact ⟨some (i,t),rfl,rfl⟩
theorem Zv:SlR X Zu:=by
 intro pins s σ H x v vl vu lo hi sl Q I rx hs pl pu h
 obtain ⟨l,rfl,hl,q⟩:=h
 obtain ⟨t,rfl⟩:=rx
 obtain ⟨ql,rfl,el⟩:=Qw pl
 obtain ⟨qu,rfl,eu⟩:=Qw pu
 subst el eu
 refine ⟨"str",_,F.slot_str_getitem.lookup,typeIs_str _ _ _,?_⟩
 refine wpAny_getItem_str_slice (l:=ql) (u:=qu) (st:=none) hs rfl ?_
 obtain ⟨c1,c2⟩:=Zt l (ql.map (·.1)) (qu.map (·.1))
 have hp:slicePicked (tx l) ql qu none=Builtin.Str.strSliceIndices (ql.map (·.1)) (qu.map (·.1)) 1 l.length:=by unfold slicePicked;rw [Bb];rfl
 unfold sliceMade
 rw [hp]
 split
 ·rename_i hw
  rw [Bf,beq_iff_eq,beq_iff_eq,c2,Bb] at hw
  have e:BX l (ql.map (·.1)) (qu.map (·.1))=l:=by
   unfold BX
   have h1:=HT.sIx_le l.length l.length (Am _) (qu.map (·.1))
   have h0:=HT.sIx_le l.length 0 (B2 _) (ql.map (·.1))
   have h2:=hw.2
   rw [h2,show HT.sIx l.length 0 (ql.map (·.1))=0 by omega]
   simp
  rw [e] at q
  exact ⟨.str (tx l),H,I,⟨t,rfl⟩,q⟩
 ·rw [c1]
  refine ⟨?_,.str (tx (BX l (ql.map (·.1)) (qu.map (·.1)))),H,I.tok _,⟨_,rfl⟩,q⟩
  rw [Bb]
  refine BB ?_ hl
  rw [GE,HG]
  omega
def JF (x:D) (lo hi:Option Int) (h:HD):Out D:=match x with
 |.str a=>if a.length≤sizeLine then .ok (.str (tx (BX a.cps.toList lo hi))) h else .stuck
 |_=>.stuck
def AG (f:ME) (lo hi:MO):ME:=fun ρ h=>(f ρ h).bind fun x h1=>(lo ρ h1).bind fun l h2=>(hi ρ h2).bind fun u h3=>JF x l u h3
theorem Zw {e:Expr} {lo hi:Option Expr} {f:ME} {fl fh:MO} {p2 pos:Pos} (he:Ev X E e f) (hl:Jg X E lo fl) (hu:Jg X E hi fh):Ev X E (.Subscript e (.Slice lo hi none p2) pos) (AG f fl fh):=
 BD (UK Zv he hl hu) fun σ H Q z3_=>by obtain ⟨m,ρ,h,hr,er,p⟩:=z3_;exact (⟨m,ρ,h,hr,er,Post.bind p fun x h1 v m1 H1 eo1 p1 k1 hr1 r1 q1=>
  ⟨m1,ρ,h1,hr1,er.keep p1 k1,Post.bind q1 fun l h2 l' m2 H2 eo2 p2 k2 hr2 r2 q2=>
   ⟨m2,ρ,h2,hr2,(er.keep p1 k1).keep p2 k2,Post.bind q2 fun u h3 u' m3 H3 eo3 p3 k3 hr3 r3 q3=>by
    clear eo1 eo2 eo3
    subst r2 r3
    have rx:=DV.keep p3 k3 (DV.keep p2 k2 r1)
    unfold JF at q3
    split at q3
    ·rename_i a
     split at q3
     ·rename_i ha
      simp only [DV] at rx
      subst rx
      obtain ⟨⟨ls⟩⟩:=a
      exact ⟨ls,rfl,by rw [Bb] at ha;exact ha,AN hr3 q3 (by simp [DV])⟩
     ·exact q3.elim
    ·exact q3.elim⟩⟩⟩)
def Zfq (f:ME) (r:MJ):MJ:=fun acc ρ h=>(f ρ h).bind fun d h1=>match d with
 |.str z=>if z.length≤sizeLine∧(acc++z).length≤sizeLine then r (acc++z) ρ h1 else .stuck
 |_=>.stuck
def Qx (x:Str):It:=⟨fun i _=>i<x.cps.size,fun i H v H'=>H'=H∧∃c,x.cps[i]?=some c∧v=.str ⟨#[c]⟩,fun i _=>x.cps.size≤i⟩
theorem Zx {P:Program} {w:World} {K:Frag} {tg:Expr} {x:Str} {t:Tok} {it:Addr} {n:String} (hn:n="str_ascii_iterator"∨n="str_iterator") (wk:∀A':Around,A'.handled=none→Walks P w A' it [it] [it] x.cps.size (SignAt x) (fun i h=>h.IsStrIter it n x t i)):GL P w K tg (Qx x) [it] it (fun i h=>h.IsStrIter it n x t i∧i≤x.cps.size) where
 mem:=by simp
 obj:=fun i h st b hb=>by
  have e:b=it:=by simpa using hb
  subst e
  obtain ⟨⟨o,e,c,d⟩,_⟩:=st
  exact ⟨o,e,fun v z=>by rw [d] at z;cases z⟩
 keep:=fun i h h' st k=>by
  obtain ⟨⟨o,e,c,d⟩,st2⟩:=st
  exact ⟨⟨o,k it (by simp) o e,c,d⟩,st2⟩
 item:=by
  intro X hP hw hK hc i pins s σ H E I hf st hg
  subst hP hw hK
  obtain ⟨f0,f1,f2,f3,f4,f5⟩:=hf it (by simp)
  refine (wk X.A (I.ok.hd hc)).item i s _ E hg st.1 fun v h' k' hv hit hk=>?_
  have I1:Inv X pins σ H {s with heap:=h',toks:=k'}:=I.turned (t':=k') (fun b o hb e=>hk b o (by simpa using hb) e) f0 f1 f3 f4 f5
  obtain ⟨c,u,e1,rfl⟩:=hv
  obtain ⟨o,e,c2,d⟩:=id hit
  exact ⟨_,rfl,HW (s:={s with heap:=h',toks:=k'}) e c2 d (by rcases hn with rfl |rfl<;>decide) ⟨.str ⟨#[c]⟩,H,I1,⟨u,rfl⟩,⟨rfl,c,e1,rfl⟩,⟨hit,hg⟩,fun b hb=>(hf b hb).1⟩⟩
 done:=by
  intro X hP hw hK hc i pins s σ H E I hf st hg
  subst hP hw hK
  obtain ⟨f0,f1,f2,f3,f4,f5⟩:=hf it (by simp)
  obtain ⟨st,hi⟩:=st
  have e:i=x.cps.size:=Nat.le_antisymm hi hg
  subst e
  exact (wk X.A (I.ok.hd hc)).done s _ E st fun h' k' eb=>⟨rfl,I.turned (t':=k') (fun b o hb e=>eb b o (by simpa using hb) e) f0 f1 f3 f4 f5⟩
 self:=fun A i s Q E st h=>by
  rcases hn with rfl |rfl
  ·exact wpAny_pyIter_striter_ascii st.1 h
  ·exact wpAny_pyIter_striter_wide st.1 h
theorem Zy {tg l:Expr} {tl:TE} (hl:PE X l tl):PI X tg l (fun σ H R=>tl σ H fun x H1=>∃z,x=.str z∧R (Qx z) H1):=by
 intro pins s σ H R I h
 refine An (hl pins s σ H _ I h) fun v s1 z12_=>?_
 obtain ⟨x,H1,I1,r1,z,rfl,q⟩:=z12_
 obtain ⟨t,rfl⟩:=r1
 have Ay:∀(n:String),(n="str_ascii_iterator"∨n="str_iterator")→(∀A':Around,A'.handled=none→Walks X.prog X.w A' s1.heap.objs.size [s1.heap.objs.size] [s1.heap.objs.size] z.cps.size (SignAt z) (fun i h=>h.IsStrIter s1.heap.objs.size n z t i))→
  HV X pins σ tg R (.ref s1.heap.objs.size) {s1 with heap:=s1.heap.push {cls:=.type n,data:=.fields #[.str z t,.int 0 0]}}:=fun n hn wk=>
  ⟨s1.heap.objs.size,[s1.heap.objs.size],_,_,H1,rfl,I1.kept (t':=s1.toks) fun b o e=>AB _ e,Zx hn wk,⟨⟨_,AW _ rfl,rfl,rfl⟩,B2 _⟩,fun b hb=>by
   have e:b=s1.heap.objs.size:=by simpa using hb
   subst e
   exact I1.fpOk (Am _) (I1.hok.fresh (Am _)),q⟩
 cases ha:z.cps.all (·< 128)
 ·exact wpAny_pyIter_wide ha (Ay _ (.inr rfl) fun A' hA=>Walks.strWide hA _ z t)
 ·exact wpAny_pyIter_ascii ha (Ay _ (.inl rfl) fun A' hA=>Walks.strAscii hA _ z t)
def Fh (z:Str):List D:=z.cps.toList.map fun c=>.str (tx [c])
def Gf (d:D) (h:HD):Out (List D×AK):=match d with
 |.str z=>.ok (Fh z,[]) h
 |_=>.stuck
def Df (f:ME):MI:=fun ρ h=>(f ρ h).bind Gf
theorem Zz {tg a:Expr} {f:ME} (ha:Ev X E a f):FL X E tg a (Df f):=
 K2 (Zy ha) fun σ H R ⟨m,ρ,h,hr,er,p⟩=>⟨m,ρ,h,hr,er,Post.bind p fun x h1 v m1 H1 eo p1 k1 hr1 r1 q1=>by
  clear eo
  unfold Gf at q1
  split at q1
  ·rename_i z
   simp only [rD,DV] at r1
   subst r1
   refine ⟨z,rfl,q1 _ m1 H1 (AA _) (.refl _) hr1 fun i m2 h2 H2 p2 k2 hr2 _=>⟨fun hi=>?_,fun hi=>?_⟩⟩
   ·have hi':i<z.cps.size:=by simpa [Fh] using hi
    refine ⟨hi',fun y H3 z=>?_⟩
    obtain ⟨e3,c,ec,ey⟩:=z
    subst e3 ey
    refine ⟨.refl _,hr2,.str (tx [c]),?_,by simp [DV]⟩
    simp [Fh,ec]
   ·show z.cps.size≤i
    have hi':i=z.cps.size:=by simpa [Fh] using hi
    omega
  ·exact q1.elim⟩
end
section
variable {f:ME} {ρ:Ae} {h:HD} {Q:D→HD→Prop} {lo hi:MO} {QI:List D×AK→HD→Prop}
@[simp] theorem Zfr:Wp (Df f ρ h) QI=Wp (f ρ h) fun d h1=>Wp (Gf d h1) QI:=by unfold Df;rw [Al]
@[simp] theorem Zfs:Wp (AG f lo hi ρ h) Q=Wp (f ρ h) fun x h1=>Wp (lo ρ h1) fun l h2=>Wp (hi ρ h2) fun u h3=>Wp (JF x l u h3) Q:=by unfold AG;simp only [Al]
end
end LS
namespace Tp
open PySem PySem.W PySem.Spec PySem.Calls PyProof.Rows
def Md (K:Frag) (n v:Str):Bool:=match nsIn K mainGlobals n with
 |some (some (.str z _))=>z.cps.toList==v.cps.toList
 |_=>false
theorem ZA {K:Frag} {n v:Str} (e:Md K n v=true):∃t,nsIn K mainGlobals n=some (some (.str v t)):=by
 unfold Md at e
 split at e
 ·rename_i z t h
  have:z=v:=by
   obtain ⟨⟨z⟩⟩:=z
   obtain ⟨⟨v⟩⟩:=v
   simpa using e
  subst this
  exact ⟨t,h⟩
 ·cases e
def JG (K:Frag):List (Str×Str)→Bool
 |[]=>true
 |p::r=>Md K p.1 p.2&&JG K r
theorem strsIn_of {K:Frag}:∀{l:List (Str×Str)},JG K l=true→∀(i:Nat) n v,l[i]?=some (n,v)→∃t,nsIn K mainGlobals n=some (some (.str v t))
 |[],_,i,n,v,h=>by simp at h
 |p::r,e,0,n,v,h=>by
  simp only [DO,Nat.zero_lt_succ,getElem?_pos,List.getElem_cons_zero,Option.some.injEq] at h
  subst h
  exact ZA (qc1.mp e).1
 |p::r,e,i+1,n,v,h=>strsIn_of (qc1.mp e).2 i n v (by simpa using h)
noncomputable def Zft (W:Want) (ex:Frag→Bool) (s:Shared):F6×Bool:=fL (F5 s.heap) fun K=>
 ((W.fs.map fun x=>Fb K x.1,W.cs.map fun x=>Fc K x.1,W.bs.map (nsIn K mainGlobals),LS.etOk K,LY K s.heap),ex K)
def Zfu (W:Want):F6×Bool:=(PU W,true)
def SaysX (W:Want) (ex:Frag→Bool) (_:World) (h:Heap):Prop:=∃(K:Frag) (c T:Addr),K.In h∧(Jz W K c T∧ex K=true)∧h.get? T=some (tabObj #[])
theorem SaysX.keeps {W:Want} {ex:Frag→Bool} (w:World) (h h':Heap) (x:SaysX W ex w h) (k:∀b o,h.get? b=some o→h'.get? b=some o):SaysX W ex w h':=by
 obtain ⟨K,c,T,h1,h2,h3⟩:=x
 exact ⟨K,c,T,h1.keeps k,h2,k _ _ h3⟩
end Tp
namespace LS
open PySem PySem.W PySem.Spec PySem.Calls PyProof.Rows L2
end LS
namespace LS
open PySem PySem.Spec PyProof.Rows L2 PySem.W PySem.Calls
def Dg (sep:List Nat):List (List Nat)→List Nat
 |[]=>[]
 |x::r=>x++r.flatMap fun y=>sep++y
theorem Qy (sep:List Nat):∀(r:List (List Nat)) (x:List Nat),((r.map tx).foldl (fun acc p=>acc++(tx sep).cps++p.cps) (tx x).cps)=(tx (x++r.flatMap fun y=>sep++y)).cps
 |[],x=>by simp
 |y::r,x=>by
  rw [A4,List.foldl_cons]
  have e:(tx x).cps++(tx sep).cps++(tx y).cps=(tx (x++(sep++y))).cps:=by simp
  rw [e,Qy sep r]
  simp
theorem ZC (sep:List Nat) (l:List (List Nat)):F8 (tx sep) (l.map tx)=tx (Dg sep l):=by
 cases l with
 |nil=>rfl
 |cons x r=>
  cases r with
  |nil=>simp [F8,Dg]
  |cons y r=>
   show Builtin.Str.glued (tx sep) ((x::y::r).map tx)=_
   unfold Builtin.Str.glued
   have:=Qy sep (y::r) x
   exact congrArg Str.mk this
theorem Qz {α:Type} (e:α→List Nat):∀xs:List α,Fe (xs.map fun x=>D.str (tx (e x)))=some ((xs.map e).map tx)
 |[]=>rfl
 |x::xs=>by
  simp only [A4,Fe,Qz e xs]
  rfl
theorem ZD (n m:Nat) (l:List (List Nat)) (hl:∀x∈l,x.length≤n):∀a,(l.map tx).foldl (fun (x:Nat) (y:Str)=>x+y.length+m) a≤a+l.length*(n+m):=by
 induction l with
 |nil=>intro a;simp
 |cons x r ih=>
  intro a
  rw [A4,List.foldl_cons]
  have h1:=ih (fun y hy=>hl y (AV _ hy)) (a+(tx x).length+m)
  have h2:=hl x AU
  rw [Bb] at h1 ⊢
  rw [DO,FB]
  omega
theorem QC (sep:List Nat) (n:Nat):∀(l:List (List Nat)),(∀x∈l,x.length≤n)→(Dg sep l).length≤l.length*(n+sep.length)
 |[],_=>by simp [Dg]
 |x::r,h=>by
  have:∀(r:List (List Nat)),(∀x∈r,x.length≤n)→(r.flatMap fun y=>sep++y).length≤r.length*(n+sep.length):=fun r hr=>by
   induction r with
   |nil=>simp
   |cons y r ih=>
    have h1:=ih fun z hz=>hr z (AV _ hz)
    have h2:=hr y AU
    simp only [List.flatMap_cons,Cu,DO,FB]
    omega
  have h1:=this r fun z hz=>h z (AV _ hz)
  have h2:=h x AU
  simp only [Dg,Cu,DO,FB]
  omega
theorem ZE {α:Type} {e:α→List Nat} {xs:List α} {sep:List Nat} {l n:Nat} {h:HD} (el:h[l]?=some (.lst (xs.map fun x=>.str (tx (e x))))) (he:∀x∈xs,(e x).length≤n) (hz:xs.length*(n+sep.length)≤sizeLine):
 BS (.str (tx sep)) (.loc l) h=.ok (.str (tx (Dg sep (xs.map e)))) h:=by
 have he':∀x∈xs.map e,x.length≤n:=fun x hx=>by
  obtain ⟨y,hy,rfl⟩:=qaU.mp hx
  exact he y hy
 simp only [BS,el,Qz,ZC]
 rw [if_pos]
 refine ⟨?_,?_⟩
 ·rw [List.foldl_toArray]
  have:=ZD n (tx sep).length (xs.map e) he' 0
  rw [Bb] at this
  rw [Bo,Nat.zero_add] at this
  rw [Bb]
  exact BB this hz
 ·rw [Bb]
  have:=QC sep n (xs.map e) he'
  rw [Bo] at this
  exact BB this hz
noncomputable def EF (sep:List Nat) (cs:List (Option Nat)) (it:MI) (sg:MG) (f:ME):ME:=Ba A8 BS (mC (.str (tx sep))) (Az cs it sg AZ f)
theorem Me {α:Type} {cs:List (Option Nat)} {it:MI} {sg:MG} {f:ME} {ρ:Ae} {h:HD} {src:AK} {xs:List α} {φ:α→D} {sep:List Nat} (e:α→List Nat) (ρ1:α→Ae) (n:Nat) (hi:Do (it ρ h) h (xs.map φ) src) (hg:∀x∈xs,sg (φ x) (BW cs ρ)=some (ρ1 x)) (hf:∀x∈xs,∀h',Sm h h'→Pu (f (ρ1 x) h') h' (.str (tx (e x))))
 (hx:xs.length≤sizeLine) (he:∀x∈xs,(e x).length≤n) (hz:xs.length*(n+sep.length)≤sizeLine):Pu (EF sep cs it sg f ρ h) h (.str (tx (Dg sep (xs.map e)))):=by
 unfold Pu EF
 rw [Pr]
 show Wp (Az cs it sg AZ f ρ h) _
 refine G1 (fun _=>true) (fun x=>.str (tx (e x))) ρ1 hi hx hg (fun x hx h' s'=>(.ok:Pu (.ok true h') h' true)) (fun x hx _ h' s'=>hf x hx h' s') fun l h' s' e'=>?_
 rw [Le] at e'
 rw [ZE e' he hz]
 exact ⟨rfl,s'⟩
theorem JH {l:List Nat} {ρ:Ae} {h:HD} {i:Nat} (e:ρ[i]?=some (some (.str (tx l)))):Do (Df (Aa i) ρ h) h (l.map fun c=>.str (tx [c])) []:=by
 simp [Do,Sm.refl,Bz,Aa,e,Gf,Fh]
theorem ZF (a b:List Nat):(tx a++tx b:Str)=tx (a++b):=by
 show (⟨a.toArray++b.toArray⟩:Str)=_
 simp
theorem He {a b:List Nat} {h:HD} (hz:a.length+b.length≤sizeLine):Aj (.str (tx a)) (.str (tx b)) h=.ok (.str (tx (a++b))) h:=by
 simp only [Aj,Bb,ZF]
 rw [if_pos hz]
theorem ZG {l:List Nat} {c:Nat} {h:HD}:JE (.str (tx l)) (.str (tx [c])) h=.ok (.int (Bh c l)) h:=by
 show Out.ok (D.int (Txt.find (tx l) (tx [c]))) h=_
 rw [Ze]
theorem QE {l:List Nat} {c:Nat} {h:HD} (hz:l.length≤sizeLine):De (.str (tx l)) (.str (tx [c])) h=Bg ((Ak c l).map fun l=>.str (tx l)) h:=by
 show (if (tx l).length≤sizeLine then Bg ((Ak c l).map fun l=>.str (tx l)) h else .stuck)=_
 rw [Bb,if_pos hz]
theorem QF {l:List Nat} {c:Nat} {h:HD} (hz:l.length≤sizeLine):D7 (.str (tx l)) (.str (tx [c])) h=.ok (.tup [.str (tx (Au c l).1),.str (tx (Au c l).2.1),.str (tx (Au c l).2.2)]) h:=by
 show (if (tx l).length≤sizeLine then Out.ok (D.tup [.str (tx (Au c l).1),.str (tx (Au c l).2.1),.str (tx (Au c l).2.2)]) h else .stuck)=_
 rw [Bb,if_pos hz]
theorem Gg {l:List Nat} {lo hi:Option Int} {h:HD} (hz:l.length≤sizeLine):JF (.str (tx l)) lo hi h=.ok (.str (tx (BX l lo hi))) h:=by
 show (if (tx l).length≤sizeLine then Out.ok (D.str (tx (BX l lo hi))) h else .stuck)=_
 rw [Bb,if_pos hz]
theorem QG {l:List Nat} {c:Nat} {h:HD}:Hd (.str (tx l)) (.str (tx [c])) h=.ok (.bl (decide (l.head?=some c))) h:=by
 show Out.ok (D.bl (Txt.startswith (tx l) (tx [c]))) h=_
 congr 2
 unfold Txt.startswith
 cases l with
 |nil=>rw [Bb,Bb];rfl
 |cons a l=>
  rw [Qr (a::l) c 0 (by simp),Bb,Bb]
  simp
theorem Mf (l:List Nat):BX l (some 1) none=l.drop 1:=by
 unfold BX
 have h1:HT.sIx l.length 0 (some 1)=min 1 l.length:=HT.sIx_nat _ _ 1
 rw [h1]
 show (l.drop (min 1 l.length)).take (l.length - min 1 l.length)=_
 cases l with
 |nil=>rfl
 |cons a l=>
  rw [show min 1 (a::l).length=1 by simp]
  simp
theorem Mg {l:List Nat} {k c:Nat} {h:HD} (hl:l.length≤sizeLine) (e:l[k]?=some c):Dd (.str (tx l)) (.int (k:Nat)) h=.ok (.str (tx [c])) h:=by
 have hk:k<l.length:=(qa1.mp e).1
 have e1:BC l ((k:Nat):Int)=some c:=by
  unfold BC B8
  rw [if_pos (by omega),if_pos (by omega)]
  simpa using e
 show (if (tx l).length≤sizeLine then (match BC l ((k:Nat):Int) with
  |some c=>Out.ok (D.str ⟨#[c]⟩) h
  |none=>.stuck) else .stuck)=_
 rw [Bb,if_pos hl,e1]
def putD (f:Str) (d:D):List (Str×D)→List (Str×D)
 |[]=>[(f,d)]
 |p::r=>if p.1=f then (f,d)::r else p::putD f d r
section
variable {K:Frag} {m:List Addr} {H:Hp}
theorem FDs.len:∀{fs:List (Str×D)} {vs:List (Str×V)},FDs K m H fs vs→fs.length=vs.length
 |[],_,h=>by cases h;rfl
 |_::_,_,h=>by obtain ⟨v,r',rfl,_,t⟩:=h;simp [t.len]
theorem FDs.get:∀{fs:List (Str×D)} {vs:List (Str×V)} {f:Str} {d:D},FDs K m H fs vs→fs.lookup f=some d→∃v,vs.lookup f=some v∧DV K m H d v
 |[],_,_,_,_,e=>by cases e
 |p::_,_,f,d,h,e=>by
  obtain ⟨v,r',rfl,dv,t⟩:=h
  rw [Ds] at e ⊢
  cases q:f==p.1 with
  |true=>rw [q] at e;cases e;exact ⟨v,rfl,dv⟩
  |false=>rw [q] at e;exact t.get e
theorem FDs.none:∀{fs:List (Str×D)} {vs:List (Str×V)} {f:Str},FDs K m H fs vs→fs.lookup f=none→vs.lookup f=none
 |[],_,_,h,_=>by cases h;rfl
 |p::_,_,f,h,e=>by
  obtain ⟨v,r',rfl,dv,t⟩:=h
  rw [Ds] at e ⊢
  cases q:f==p.1 with
  |true=>rw [q] at e;cases e
  |false=>rw [q] at e;exact t.none e
end
def Mh (n f:Str):D→HD→Out D:=fun x h=>match x with
 |.loc l=>(match h[l]? with
  |some (.ins n' fs)=>if n'=n then (match fs.lookup f with
   |some d=>.ok d h
   |none=>.stuck) else .stuck
  |_=>.stuck)
 |_=>.stuck
def JI (n:Str) (g:ME) (f:Str):ME:=fun ρ h=>(g ρ h).bind (Mh n f)
def ClN (K:Frag) (n:Str) (fs:List Str):Prop:=∃C,nsIn K mainGlobals n=some (some (.ref C))∧Cls K C∧∀f∈fs,NoAttr K C f
section
variable {X:Cx} {E:XK}
def Mi (n f:Str) (x y:D) (ρ:Ae) (h:HD):Out (Fl×Ae):=match x with
 |.loc l=>(match h[l]? with
  |some (.ins n' fs)=>if n'=n∧fs.length<1000 then .ok (.nx,ρ) (h.set l (.ins n (putD f y fs))) else .stuck
  |_=>.stuck)
 |_=>.stuck
def JJ (n:Str) (fo:ME) (f:Str) (fv:ME):MS:=fun ρ h=>(fv ρ h).bind fun y h1=>(fo ρ h1).bind fun x h2=>Mi n f x y ρ h2
def Mj (n mn:Str):D→HD→Out D:=fun x h=>match x with
 |.loc l=>(match h[l]? with
  |some (.ins n' fs)=>if n'=n∧fs.lookup mn=none then .ok x h else .stuck
  |_=>.stuck)
 |_=>.stuck
def JK (n mn:Str) (F:List D→HD→Out D) (fo:ME) (fa:MA):ME:=fun ρ h=>((fo ρ h).bind (Mj n mn)).bind fun x h1=>(fa ρ h1).bind fun xs h2=>F (x::xs) h2
structure CmE (P:Program) (w:World) (K:Frag) (mg:Str→Option Value) (base:Heap) (n mn:Str) (k:Nat) (F:List D→HD→Out D):Prop where
 ex:∃(C f:Addr) (fd:FuncData) (ps:List Str),nsIn K mainGlobals n=some (some (.ref C))∧Cls K C∧Uv K C mn f∧FnOk P w K mg base (AL P w K) k f fd ps (CZ K F)∧Binds K fd ps []
def JL (n:Str) (F:List D→HD→Out D) (fa:MA):ME:=fun ρ h=>(fa ρ h).bind fun xs h1=>(F (.loc h1.length::xs) (h1++[.ins n []])).bind fun v h2=>match v with
 |.non=>.ok (.loc h1.length) h2
 |_=>.stuck
structure CkE (P:Program) (w:World) (K:Frag) (mg:Str→Option Value) (base:Heap) (n:Str) (k:Nat) (F:List D→HD→Out D):Prop where
 ex:∃(C f:Addr) (fd:FuncData) (ps:List Str),nsIn K mainGlobals n=some (some (.ref C))∧Mk K C f∧FnOk P w K mg base (AL P w K) k f fd ps (CZ K F)∧Binds K fd ps []
end
end LS
namespace LS
open PySem PySem.Spec PyProof.Rows L2 PySem.W
structure TbOk (K:Frag) (h:Heap) (t:Str×Addr×Addr):Prop where
 tp:tabP K t.1=some (t.2.1,t.2.2)
 hd:codeHdIn K t.2.1 t.2.2=true
 at_:h.get? t.2.2=some (tabObj #[])
 no:K.lookup t.2.2=none
theorem ZH {P:Program} {w:World} {K:Frag} {mg mb:Str→Option Value} {k:Nat} {fa a:Addr} {fd:FuncData} {x:Str} {F:List D→HD→Out D} {s₁:Shared} {vs:List Value} {ns:List Int} {ts:List (Str×Addr×Addr)}
 (KX:K.In s₁.heap) (hns:s₁.heap.Ns mainGlobals mg) (hb:s₁.heap.Ns builtinsNs mb) (hbb:∀x:Str,x≠"__name__"→mb x=bootBuiltins x) (hlim:s₁.heap.NoLimit) (hg:s₁.gens=#[]) (hbm:FZ mg s₁.heap)
 (ha:s₁.heap.get? a=some {cls:=.type "list",data:=.seq vs.toArray}) (hi:IntsAre vs ns) (hl:ns.length≤sizeLine) (hr:Room k callerA)
 (ht:∀t∈ts,TbOk K s₁.heap t) (nd:(ts.map (·.2.2)).Nodup)
 (FF:∀base:Heap,K.In base→base.Ns mainGlobals mg→FZ mg base→FnOk P w K mg base (AL P w K) k fa fd [x] (CZ K F)) (hbind:∀(s:Shared) (u:Value),BindsTo s fd ⟨[u],[]⟩ [(x,u)])
 (hF:∃h',F [.scr ns] (ts.map fun t=>.tabn t.1)=.ok (.bl true) h'):
 codeAny (model P w) callerA (.call (.ref fa) ⟨[.ref a],[]⟩) (fun r s'=>r=.ok (.ret (.bool true))∧OldK s₁.heap s'.heap∧s'.os=s₁.os∧AllBare s'.gens) s₁:=by
 have rv:=L2.vals_ints hi
 have lenV:=hi.length
 obtain ⟨Ts,hTs⟩:∃Ts,Ts=ts.map (·.2.2):=⟨_,rfl⟩
 rw [←hTs] at nd
 have inT:∀b,b∈Ts→∃t∈ts,b=t.2.2∧TbOk K s₁.heap t:=fun b hb=>by
  rw [hTs] at hb
  obtain ⟨t,h1,rfl⟩:=qaU.mp hb
  exact ⟨t,h1,rfl,ht t h1⟩
 have atT:∀b,b∈Ts→s₁.heap.get? b=some (tabObj #[])∧K.lookup b=none:=fun b hb=>by
  obtain ⟨t,_,rfl,q⟩:=inT b hb
  exact ⟨q.at_,q.no⟩
 have aT:a∉Ts:=fun z=>by
  have:=(atT a z).1
  rw [this] at ha;cases ha
 have core:∀H:Hp,(∀b,b∈Ts∨H b=none∨∃o xs,H b=some (.frz o (.lst xs)))→(∀b∈Ts,H b=some (.tbl #[]))→FzL K H a (ns.map V.int)→HOk P w H s₁.heap→(∀b,H b≠none→b=a∨b∈Ts)→(H a≠none→K.lookup a=none)→
  codeAny (model P w) callerA (.call (.ref fa) ⟨[.ref a],[]⟩) (fun r s'=>r=.ok (.ret (.bool true))∧OldK s₁.heap s'.heap∧s'.os=s₁.os∧AllBare s'.gens) s₁:=by
  intro H hO hHT hS hok hA hK
  have base_of:∀{b:Addr} {o:Obj},s₁.heap.get? b=some o→H b=none→(Dv s₁.heap H).get? b=some o:=fun e n=>S4 e n
  have noA:∀{b:Addr} {o:Obj},s₁.heap.get? b=some o→(∀its n,o.data≠.seq its n)→(∀ws,o.data≠.fields ws)→H b=none:=fun {b o} e d1 d2=>by
   cases q:H b with
   |none=>rfl
   |some u=>
    rcases hA b (by rw [q];simp) with e' |e'
    ·subst e'
     rw [ha] at e;cases e
     exact absurd rfl (d1 _ _)
    ·rw [(atT b e').1] at e;cases e
     exact absurd rfl (d2 _)
  have nsK:∀{b:Addr} {m:Str→Option Value},s₁.heap.Ns b m→(Dv s₁.heap H).Ns b m:=fun {b m} ⟨o,es,ep,e,d,r⟩=>⟨o,es,ep,base_of e (noA e (fun _ _ z=>by rw [d] at z;cases z) (fun _ z=>by rw [d] at z;cases z)),d,r⟩
  have hKb:K.In (Dv s₁.heap H):=fun b o e=>base_of (KX b o e) (by
   cases q:H b with
   |none=>rfl
   |some u=>
    rcases hA b (by rw [q];simp) with e' |e'
    ·subst e'
     rw [hK (by rw [q];simp)] at e;cases e
    ·rw [(atT b e').2] at e;cases e)
  have hM:Mod K mg (Dv s₁.heap H):=⟨hKb,nsK hns,⟨mb,nsK hb,hbb⟩,let ⟨mc,h1,h2⟩:=hlim;⟨mc,nsK h1,h2⟩⟩
  have e0:El P w K mg (Dv s₁.heap H) callerA [] s₁ H:=⟨rfl,hM,fun b o e=>S5 e,GI (S3 _ _),trivial,fun b hb=>absurd (show b∈([]:List Addr) from hb) (by simp),hok,.of_eq hg⟩
  have hBM:FZ mg (Dv s₁.heap H):=by
   obtain ⟨bm,o,h1,h2,h3,h4,h5,h6⟩:=hbm
   exact ⟨bm,o,h1,h2,base_of h3 (noA h3 (fun _ _ z=>by rw [h6] at z;cases z) (fun _ z=>by rw [h6] at z;cases z)),h4,h5,h6⟩
  have hsp:CZ K F [.ref a] H (fun v _=>v=.bl true) fun _ _ _=>False:=by
   obtain ⟨h',e⟩:=hF
   refine ⟨Ts,[.scr ns],ts.map fun t=>.tabn t.1,⟨by rw [hTs,Bo,Bo],nd,fun l cc b e1 e2=>?_⟩,.cons (by simp only [DV];exact ⟨a,rfl,hS⟩) .nil,?_⟩
   ·rw [B0] at e1
    rw [hTs,B0] at e2
    cases q:ts[l]? with
    |none=>rw [q] at e1;cases e1
    |some t=>
     rw [q] at e1 e2
     cases e1
     cases e2
     have hm:t∈ts:=Ee q
     exact ⟨⟨t.2.1,(ht t hm).tp⟩,#[],hHT _ (by rw [hTs];exact qaU.mpr ⟨t,hm,rfl⟩),trivial,fun pos cv z=>by simp [codeAmong] at z⟩
   ·rw [e]
    intro v m' H' _ _ _ r
    simpa [rD,DV] using r
  refine codeAny_mono ((FF _ hKb (nsK hns) hBM).run callerA [] s₁ H ⟨[.ref a],[]⟩ [.ref a] [.ref a] _ _ hr e0 (hbind s₁ (.ref a)) (.cons rfl .nil) hsp) fun r s' h=>?_
  cases r with
  |error e=>
   obtain ⟨_,_,_,_,_,_,_,_,_,_,_,_,q⟩:=h
   exact q.elim
  |ok fl=>
   cases fl with
   |next=>exact False.elim h
   |brk=>exact False.elim h
   |cont=>exact False.elim h
   |ret u=>
    obtain ⟨v,H',os,bare,un,hok',r',q⟩:=h
    have q':v=.bl true:=q
    subst q'
    obtain rfl:u=Value.bool true:=r'
    have keepO:∀b o,b∉Ts→s₁.heap.get? b=some o→s'.heap.get? b=some o:=fun b o hbT e=>by
     cases q:H b with
     |none=>exact un.keep b o e q (by intro z;exact absurd (show b∈([]:List Addr) from z) (by simp)) (by simp)
     |some u=>
      rcases hO b with z |z |⟨ob,xs,z⟩
      ·exact absurd z hbT
      ·rw [q] at z;cases z
      ·have z2:=un.frzs b ob _ z
       obtain ⟨e1,_⟩:=hok b _ z
       obtain ⟨e2,_⟩:=hok' b _ z2
       rw [e] at e1;cases e1
       exact e2
    have T2:∀b,b∈Ts→∃more,s'.heap.get? b=some (tabObj (#[]++more)):=fun b hb=>by
     obtain ⟨more,hT'⟩:=un.tbls b _ (hHT b hb)
     exact ⟨more,hok' b _ hT'⟩
    refine ⟨rfl,⟨fun b o e=>?_,fun b o e=>?_⟩,os,bare⟩
    ·by_cases hbT:b∈Ts
     ·obtain ⟨more,hT2⟩:=T2 b hbT
      obtain ⟨t,_,rfl,q⟩:=inT b hbT
      rw [q.at_] at e
      cases e
      exact .inr (.inl ⟨((codeHd_of_K KX q.hd).tab q.at_).isCodeTable,rfl,#[],more,rfl,hT2⟩)
     ·exact .inl (keepO b o hbT e)
    ·by_cases hbT:b∈Ts
     ·obtain ⟨more,hT2⟩:=T2 b hbT
      exact ⟨_,hT2⟩
     ·exact ⟨o,keepO b o hbT e⟩
 cases hk:K.lookup a with
 |some o=>
  have e:=KX a o hk
  rw [ha] at e
  cases e
  refine core (fun b=>if b∈Ts then some (.tbl #[]) else none) (fun b=>?_) (fun b hb=>if_pos hb) (.inr (.inr ⟨_,vs.toArray,_,hk,rfl,rfl,rfl,by rw [Bu,lenV];exact hl,by simpa using rv⟩)) (fun b u z=>?_) (fun b z=>?_) fun z=>absurd (if_neg aT) z
  ·by_cases hb:b∈Ts
   ·exact .inl hb
   ·exact .inr (.inl (if_neg hb))
  ·by_cases hb:b∈Ts
   ·have z':=(if_pos hb).symm.trans z
    cases z'
    exact (atT b hb).1
   ·have z':=(if_neg hb).symm.trans z
    cases z'
  ·by_cases hb:b∈Ts
   ·exact .inr hb
   ·exact absurd (if_neg hb) z
 |none=>
  refine core (fun b=>if b∈Ts then some (.tbl #[]) else if b=a then some (.frz {cls:=.type "list",data:=.seq vs.toArray} (.lst (ns.map V.int))) else none) (fun b=>?_) (fun b hb=>if_pos hb) (.inl ⟨{cls:=.type "list",data:=.seq vs.toArray},(if_neg aT).trans (if_pos rfl)⟩) (fun b u z=>?_) (fun b z=>?_) fun _=>hk
  ·by_cases hb:b∈Ts
   ·exact .inl hb
   ·by_cases hba:b=a
    ·exact .inr (.inr ⟨_,_,(if_neg hb).trans (if_pos hba)⟩)
    ·exact .inr (.inl ((if_neg hb).trans (if_neg hba)))
  ·by_cases hb:b∈Ts
   ·have z':=(if_pos hb).symm.trans z
    cases z'
    exact (atT b hb).1
   ·have z1:=(if_neg hb).symm.trans z
    by_cases hba:b=a
    ·have z':=(if_pos hba).symm.trans z1
     cases z'
     subst hba
     exact ⟨ha,by rw [Bo];exact hl,vs,_,rv,ha⟩
    ·have z':=(if_neg hba).symm.trans z1
     cases z'
  ·by_cases hb:b∈Ts
   ·exact .inr hb
   ·by_cases hba:b=a
    ·exact .inl hba
    ·exact absurd ((if_neg hb).trans (if_neg hba)) z
end LS
namespace Tp
open PySem PySem.W PySem.Spec PySem.Calls PyProof.Rows
abbrev Ml (n m:Str) (st:Stmt):FuncData:=fnOf m (n++(".":Str)++m) (L2.defArgs st) (L2.defBody st) (L2.defScope st) .none .none .none .none none .none .none
def Mm (K:Frag) (n m:Str):Option (FuncData×Bool×Bool×Bool):=match nsIn K mainGlobals n with
 |some (some (.ref C))=>(match findIn K (.ref C) m with
  |some (some (.ref f))=>(match K.lookup f with
   |some ⟨_,_,.func fd,_⟩=>some (blank fd,codeIn K fd.code (n++(".":Str)++m),isFn K (.ref f),keepIn K (.ref f))
   |_=>none)
  |_=>none)
 |_=>none
inductive Mo (K:Frag) (n m:Str) (st:Stmt):Prop where
 |mk (C f:Addr) (od an:Option Addr) (sl:Array (Option Value)) (oc kV dc pm cd ct:Value) (a:nsIn K mainGlobals n=some (some (.ref C))) (b:findIn K (.ref C) m=some (some (.ref f)))
  (l:K.lookup f=some ⟨oc,od,.func (fnOf m (n++(".":Str)++m) (L2.defArgs st) (L2.defBody st) (L2.defScope st) .none kV dc pm an cd ct),sl⟩) (c:codeIn K cd (n++(".":Str)++m)=true) (fn:isFn K (.ref f)=true) (k:keepIn K (.ref f)=true):Mo K n m st
theorem ZI {K:Frag} {n m:Str} {st:Stmt} (e:Mm K n m=some (Ml n m st,true,true,true)):Mo K n m st:=by
 unfold Mm at e
 split at e
 ·rename_i C hC
  split at e
  ·rename_i f hf
   split at e
   ·rename_i oc od fd sl hl
    obtain ⟨e1,e2⟩:=Prod.mk.inj (Option.some.inj e)
    obtain ⟨e3,e4⟩:=Prod.mk.inj e2
    obtain ⟨e4,e5⟩:=Prod.mk.inj e4
    obtain ⟨x1,x2,x3,x4,x5,x6,x7,x8,x9,x10,x11,x12,x13,x14,x15⟩:=fd
    replace e1:FuncData.mk x1 x2 x3 x4 x5 x6 x7 x8 .none .none .none none .none .none x15=Ml n m st:=e1
    injection e1 with y1 y2 y3 y4 y5 y6 y7 y8 y9 y10 y11 y12 y13 y14 y15
    subst x1 x2 x3 x4 x5 x6 x7 x8 x15
    exact ⟨C,f,od,x12,sl,oc,x9,x10,x11,x13,x14,hC,hf,hl,e3,e4,e5⟩
   ·cases e
  ·cases e
 ·cases e
def QH (K:Frag) (C:Addr) (f:Str):Bool:=match findIn K (.ref C) f with
 |some none=>true
 |_=>false
def Mp (K:Frag) (n:Str) (fs:List Str):Bool:=match nsIn K mainGlobals n with
 |some (some (.ref C))=>plainGet K C Str.empty&&hasDictIn K C&&plainOver K C&&(match findIn K (.ref C) "__setattr__" with
  |some (some (.builtin id))=>id=="object.__setattr__"
  |_=>false)&&makesIn K C&&keepIn K (.ref C)&&fs.all (QH K C)
 |_=>false
inductive Mq (K:Frag) (n:Str) (fs:List Str):Prop where
 |mk (C:Addr) (a:nsIn K mainGlobals n=some (some (.ref C))) (c:L2.Cls K C) (m:makesIn K C=true) (k:keepIn K (.ref C)=true) (f:∀f∈fs,L2.NoAttr K C f):Mq K n fs
theorem ZJ {K:Frag} {n:Str} {fs:List Str} (e:Mp K n fs=true):Mq K n fs:=by
 unfold Mp at e
 split at e
 ·rename_i C hC
  simp only [Bf] at e
  obtain ⟨⟨⟨⟨⟨⟨e1,e2⟩,e3⟩,e4⟩,e5⟩,e6⟩,e7⟩:=e
  refine ⟨C,hC,⟨e1,e2,e3,?_⟩,e5,e6,fun f hf=>?_⟩
  ·split at e4
   ·rename_i id h
    rw [h,beq_iff_eq.mp e4]
   ·cases e4
  ·have:=qaM.mp e7 f hf
   unfold QH at this
   split at this
   ·assumption
   ·cases this
 ·cases e
def Mr (K:Frag) (h:Heap) (g:Str):Option (Option Obj×Bool×Bool):=match LS.tabP K g with
 |some (c,T)=>some (h.get? T,codeHdIn K c T,(K.lookup T).isNone)
 |none=>none
def tbAt (K:Frag) (g:Str):Addr×Addr:=(LS.tabP K g).getD (0,0)
def tbsOf (K:Frag) (gs:List Str):List (Str×Addr×Addr):=gs.map fun g=>(g,tbAt K g)
def Ms:List Addr→Bool
 |[]=>true
 |a::l=>!(l.contains a)&&Ms l
theorem QJ:∀{l:List Addr},Ms l=true→l.Nodup
 |[],_=>List.nodup_nil
 |a::l,h=>by
  obtain ⟨h1,h2⟩:=qc1.mp h
  refine qbC.mpr ⟨fun z=>?_,QJ h2⟩
  have:l.contains a=true:=List.contains_iff_mem.mpr z
  rw [this] at h1;cases h1
structure WantZ where
 w:Want
 ms:List (Str×Str×Stmt)
 cl:List (Str×List Str)
 gs:List Str
 ss:List (Str×Str)
abbrev QK:=(List (Option (FuncData×Bool×Bool))×List (Option Int)×List (Option (Option Value))×Bool)×List (Option (FuncData×Bool×Bool×Bool))×List Bool×List (Option (Option Obj×Bool×Bool))×Bool×Bool
noncomputable def obsZ (W:WantZ) (s:Shared):QK:=fL (F5 s.heap) fun K=>
 ((W.w.fs.map fun x=>Fb K x.1,W.w.cs.map fun x=>Fc K x.1,W.w.bs.map (nsIn K mainGlobals),LS.etOk K),W.ms.map fun x=>Mm K x.1 x.2.1,W.cl.map fun x=>Mp K x.1 x.2,W.gs.map fun g=>Mr K s.heap g,Ms (W.gs.map fun g=>(tbAt K g).2),JG K W.ss)
def valZ (W:WantZ):QK:=((W.w.fs.map fun x=>some (G9 x.1 x.2,true,true),W.w.cs.map fun x=>some x.2,W.w.bs.map fun _=>some none,true),W.ms.map fun x=>some (Ml x.1 x.2.1 x.2.2,true,true,true),W.cl.map fun _=>true,W.gs.map fun _=>some (some (tabObj #[]),true,true),true,true)
structure HasZ (W:WantZ) (K:Frag):Prop where
 fs:∀(i:Nat) n st,W.w.fs[i]?=some (n,st)→SeenF K n st
 cs:∀(i:Nat) n v,W.w.cs[i]?=some (n,v)→∃t,nsIn K mainGlobals n=some (some (.int v t))
 bs:∀(i:Nat) n,W.w.bs[i]?=some n→nsIn K mainGlobals n=some none
 et:LS.etOk K=true
 ms:∀(i:Nat) n m st,W.ms[i]?=some (n,m,st)→Mo K n m st
 cl:∀(i:Nat) n fs,W.cl[i]?=some (n,fs)→Mq K n fs
 tb:∀(i:Nat) g,W.gs[i]?=some g→LS.tabP K g=some (tbAt K g)∧codeHdIn K (tbAt K g).1 (tbAt K g).2=true
 ss:JG K W.ss=true
def SaysZ (W:WantZ) (_:World) (h:Heap):Prop:=∃K:Frag,K.In h∧HasZ W K∧(∀t∈tbsOf K W.gs,LS.TbOk K h t)∧((tbsOf K W.gs).map (·.2.2)).Nodup
theorem SaysZ.keeps {W:WantZ} (w:World) (h h':Heap) (x:SaysZ W w h) (k:∀b o,h.get? b=some o→h'.get? b=some o):SaysZ W w h':=by
 obtain ⟨K,h1,h2,h3,h4⟩:=x
 exact ⟨K,h1.keeps k,h2,fun t ht=>let q:=h3 t ht;⟨q.tp,q.hd,k _ _ q.at_,q.no⟩,h4⟩
theorem QL {K:Frag} {h:Heap} {g:Str} (e:Mr K h g=some (some (tabObj #[]),true,true)):LS.TbOk K h (g,tbAt K g):=by
 unfold Mr at e
 split at e
 ·rename_i c T hT
  obtain ⟨a1,a2⟩:=Prod.mk.inj (Option.some.inj e)
  obtain ⟨a2,a3⟩:=Prod.mk.inj a2
  have:tbAt K g=(c,T):=by unfold tbAt;rw [hT];rfl
  refine ⟨?_,?_,?_,?_⟩
  ·rw [this];exact hT
  ·rw [this];exact a2
  ·rw [this];exact a1
  ·rw [this];exact Option.isNone_iff_eq_none.mp a3
 ·cases e
theorem saysZ_of {W:WantZ} (w:World) (s:Shared) (e:obsZ W s=valZ W):SaysZ W w s.heap:=by
 unfold obsZ valZ at e
 rw [G8] at e
 obtain ⟨e0,e⟩:=Prod.mk.inj e
 obtain ⟨e1,e0⟩:=Prod.mk.inj e0
 obtain ⟨e2,e0⟩:=Prod.mk.inj e0
 obtain ⟨e3,e4⟩:=Prod.mk.inj e0
 obtain ⟨e5,e⟩:=Prod.mk.inj e
 obtain ⟨e6,e⟩:=Prod.mk.inj e
 obtain ⟨e7,e⟩:=Prod.mk.inj e
 obtain ⟨e8,e9⟩:=Prod.mk.inj e
 refine ⟨_,YA _,⟨fun i n st h=>YB (Fd e1 h),fun i n v h=>YC (Fd e2 h),fun i n h=>Fd e3 h,e4,fun i n m st h=>ZI (Fd (x:=(n,m,st)) e5 h),fun i n fs h=>ZJ (Fd (x:=(n,fs)) e6 h),fun i g h=>?_,e9⟩,fun t ht=>?_,?_⟩
 ·have q:=QL (Fd e7 h)
  exact ⟨q.tp,q.hd⟩
 ·obtain ⟨g,hg,rfl⟩:=qaU.mp ht
  obtain ⟨i,hi,rfl⟩:=GA hg
  exact QL (Fd e7 (Bi hi))
 ·have:=QJ e8
  unfold tbsOf
  rw [CN]
  exact this
end Tp
namespace LS
open PySem PySem.W PySem.Spec PySem.Calls PyProof.Rows L2
theorem walk_hdZ {l:OpenLaw} {n k:Nat} {q:Program} {loose:List Str} {XP:(Str→Option Value)→Heap→Prop} {W:Tp.WantZ} {d:DefRec} {x:Str} {F:List D→HD→Out D}
 (hn:l.most=some n) (hn2:n≤sizeLine) (hdf:d.params.defaults=[]) (hr:Room k callerA)
 (Fn:∀(w:World) (K:Frag) (mg:Str→Option Value) (fa:Addr) (h:Heap),Tp.HasZ W K→K.In h→h.Ns mainGlobals mg→mg d.name=some (.ref fa)→
  ∃fd:FuncData,(∀(s:Shared) (u:Value),BindsTo s fd ⟨[u],[]⟩ [(x,u)])∧
   ∀base:Heap,K.In base→base.Ns mainGlobals mg→FZ mg base→FnOk l.prog w K mg base (AL l.prog w K) k fa fd [x] (CZ K F))
 (hF:∀ns:List Int,ns.length≤n→(∀i∈ns,Builtin.Int.intBits i≤2^20)→∃h',F [.scr ns] (W.gs.map fun g=>.tabn g)=.ok (.bl true) h'):
 WalkO q loose XP (Tp.SaysZ W) l.row.toRowW d [] (fun f vs=>PySem.call f vs):=by
 refine Att.attach_bits hn hdf fun w s₀ s₁ mg mb fa o pm cd doc a vs ns hbits G Y ho hd hcd' hmg hobj hints hlen hg=>?_
 obtain ⟨K,KX,HS,h3,h4⟩:=Y
 obtain ⟨fd,hb,hF'⟩:=Fn w K mg fa _ HS KX G.T.g hmg
 obtain ⟨bm,ob,b1,b2,b3,b4,b5,b6⟩:=G.T.bmain
 have hF2:=hF ns hlen hbits
 have e:(W.gs.map fun g=>Cell.tabn g)=((Tp.tbsOf K W.gs).map fun t=>Cell.tabn t.1):=by unfold Tp.tbsOf;rw [CN];rfl
 rw [e] at hF2
 exact ZH KX G.T.g G.T.b G.T.builtins G.T.nolimit hg ⟨bm,ob,b1,b2,b3,b4,b5,b6⟩ hobj hints (BB hlen hn2) hr h3 h4 hF' hb hF2
end LS
namespace LS
open PySem PySem.Spec PyProof.Rows L2 PySem.W PySem.Calls
def Zfv:Stmt→Nat→Stmt
 |.ClassDef _ _ _ body _ _ _ _ _ _ _,j=>body.getD j (.Pass ⟨0,0,0,0⟩)
 |_,_=>.Pass ⟨0,0,0,0⟩
section
variable {P:Program} {w:World} {K:Frag} {mg:Str→Option Value} {base h:Heap} {n m:Str} {st:Stmt} {N ps:List Str} {k:Nat} {g:MS}
theorem tab_cdG {x:Str} {c T f:Addr} {oc kV dc pm cd ct:Value} {od an:Option Addr} {sl:Array (Option Value)} {st:Stmt} (h:tabP K x=some (c,T)) (a:nsIn K mainGlobals x=some (some (.ref f)))
 (l:K.lookup f=some ⟨oc,od,.func (fnOf x x (L2.defArgs st) (L2.defBody st) (L2.defScope st) .none kV dc pm an cd ct),sl⟩):cd=.ref c:=by
 unfold LS.tabP at h
 rw [a] at h
 dsimp only at h
 rw [l] at h
 dsimp only at h
 split at h
 ·split at h
  ·split at h
   ·cases h;rfl
   ·cases h
  ·cases h
 ·cases h
theorem ZK {x:Str} {c T:Addr} (S:Tp.SeenF K x st) (X:K.In h) (G:h.Ns mainGlobals mg) (tb:tabP K x=some (c,T))
 (b:N.Nodup→∀(f:Addr) (A:Around) (outer:List Env) (s:Shared) (H:Hp) (E:XK),Room k (A.deeper (envOfC x (defScope st) s.heap.objs.size f (.ref c)))→B4 (Bv (AL P w K) P w K mg base N x (defScope st) f (.ref c) A outer s H E) E (defBody st) g)
 (bd:∀(kV doc pm:Value) (an:Option Addr) (cdv ct:Value) (us:List Value),us.length=ps.length→bindArgs (PySem.W.fnOf x x (defArgs st) (defBody st) (defScope st) .none kV doc pm an cdv ct) ⟨us,[]⟩=pure (ps.zip us):=by
  intro _ _ _ _ _ _ us hl;rcases us with _ |⟨_,_ |⟨_,_ |⟨_,_ |⟨_,_⟩⟩⟩⟩<;>first |rfl |exact absurd hl (by simp)) (sc:CP N ps (defScope st):=by exact ⟨rfl,rfl,rfl,by decide +kernel,rfl,by decide +kernel,by decide +kernel⟩):CaE P w K mg base x (k+1) (Bm ps.length N.length g):=by
 obtain ⟨f,od,an,sl,oc,kV,dc,pm,cd,ct,a,l,cc,kp⟩:=S
 cases tab_cdG tb a l
 have F:=KN l cc kp
 exact ⟨f,_,ps,Pi l cc sc (fun ds h e=>if_neg e) (fun ds h e=>if_pos e) (fun A outer s H E hr=>b sc.nd f A outer s H E hr),F.binds bd,PySem.W.mg_of X G a,kp⟩
end
section
variable {prog:Program} {w:World} {A:Around} {E:Value→Shared→Prop} {s:Shared}
end
section
variable {X:Cx} {E:XK}
def Zfw (K:Frag) (n:Nat) (t:DS):TG:=fun v σ H Q=>∃a xs,v=.ref a∧SqL K H a xs∧xs.length=n∧t xs σ H Q
def QM (i j:Nat) (d:D) (ρ:Ae) (h:HD):Out (Fl×Ae):=match d with
 |.loc l=>(match h[l]? with
  |some (.lst [x,y])=>.ok (.nx,(ρ.set i (some x)).set j (some y)) h
  |_=>.stuck)
 |_=>.stuck
def QN (i j:Nat) (f:ME):MS:=fun ρ h=>(f ρ h).bind fun d h1=>QM i j d ρ h1
def Zfx:D→D→HD→Out D:=fun x y h=>match x,y with
 |.tup _,.tup [.int _,.int _]=>.ok (.bl true) h
 |_,_=>EW true x y h
end
section
variable {n mn f:Str} {g fo fv:ME} {fa:MA} {F:List D→HD→Out D} {ρ:Ae} {h:HD} {Q:D→HD→Prop} {QS:Fl×Ae→HD→Prop} {R:Str→List (Str×D)→HD→Prop} {i j:Nat}
@[simp] theorem Zfy:Wp (JI n g f ρ h) Q=Wp (g ρ h) fun x h1=>Wp (Mh n f x h1) Q:=by unfold JI;rw [Al]
@[simp] theorem Zfz:We (JI n g f ρ h) Q R=We (g ρ h) (fun x h1=>We (Mh n f x h1) Q R) R:=by unfold JI;rw [BH]
@[simp] theorem ZfA:Wp (JJ n fo f fv ρ h) QS=Wp (fv ρ h) fun y h1=>Wp (fo ρ h1) fun x h2=>Wp (Mi n f x y ρ h2) QS:=by unfold JJ;simp only [Al]
@[simp] theorem ZfB:We (JJ n fo f fv ρ h) QS R=We (fv ρ h) (fun y h1=>We (fo ρ h1) (fun x h2=>We (Mi n f x y ρ h2) QS R) R) R:=by unfold JJ;simp only [BH]
@[simp] theorem ZfC:Wp (JK n mn F fo fa ρ h) Q=Wp (fo ρ h) fun x h1=>Wp (Mj n mn x h1) fun x h2=>Wp (fa ρ h2) fun xs h3=>Wp (F (x::xs) h3) Q:=by unfold JK;simp only [Al]
@[simp] theorem ZfD:We (JK n mn F fo fa ρ h) Q R=We (fo ρ h) (fun x h1=>We (Mj n mn x h1) (fun x h2=>We (fa ρ h2) (fun xs h3=>We (F (x::xs) h3) Q R) R) R) R:=by unfold JK;simp only [BH]
def Mt (l:Nat) (v:D) (h:HD):Out D:=match v with
 |.non=>.ok (.loc l) h
 |_=>.stuck
@[simp] theorem ZfE {l:Nat}:Mt l .non h=.ok (.loc l) h:=rfl
@[simp] theorem ZfF:Wp (JL n F fa ρ h) Q=Wp (fa ρ h) fun xs h1=>Wp (F (.loc h1.length::xs) (h1++[.ins n []])) fun v h2=>Wp (Mt h1.length v h2) Q:=by unfold JL;simp only [Al];rfl
@[simp] theorem ZfG:We (JL n F fa ρ h) Q R=We (fa ρ h) (fun xs h1=>We (F (.loc h1.length::xs) (h1++[.ins n []])) (fun v h2=>We (Mt h1.length v h2) Q R) R) R:=by unfold JL;simp only [BH];rfl
@[simp] theorem ZfH:Wp (QN i j g ρ h) QS=Wp (g ρ h) fun d h1=>Wp (QM i j d ρ h1) QS:=by unfold QN;rw [Al]
end
end LS
namespace SetW
open PySem PySem.Spec PyProof.Rows
def Hf (led:Bool) (n:Nat) (t:SetTable):Prop:=t.led=led∧(n=0∨t.plain=false)
def ledW (w:World):Bool:=!w.params.followText "set-order"
def CJ (w:World):Obj:={cls:=.type "set",dict:=none,data:=.set #[] 0 (.fresh 0 0 (ledW w))}
theorem ZL (t:SetTable) (es:Array (Int×Value)) (h:Int) (x:Value):(layNew t es h x).2.1.led=t.led∧(t.plain=false→(layNew t es h x).2.1.plain=false):=by
 unfold layNew
 split
 ·dsimp only
  unfold SetTable.orStandIn
  split
  ·exact ⟨rfl,id⟩
  ·exact ⟨rfl,fun _=>rfl⟩
 ·exact ⟨rfl,fun _=>rfl⟩
theorem ZM {t t':SetTable} {hs:Array Int} {wanted:Nat} {o:Array Nat} (h:t.relaid hs wanted=some (t',o)):t'.led=t.led∧t'.plain=t.plain:=by
 unfold SetTable.relaid SetTable.laid at h
 cases hl:SetTable.layClean (SetTable.sizeAbove wanted - 1) hs with
 |none=>rw [hl] at h;exact absurd h (by simp)
 |some ow=>
  rw [hl] at h
  simp only [Option.bind_eq_bind,HF,Option.pure_def,Option.some.injEq,Prod.mk.injEq] at h
  rw [←h.1];exact ⟨rfl,rfl⟩
theorem ZN {led:Bool} {n:Nat} (t:SetTable) (es:Array (Int×Value)) (wanted:Nat) (h:Hf led n t):Hf led n (relayAll t es wanted).2.1:=by
 unfold relayAll
 split
 ·rename_i t' o e
  have:=ZM e
  dsimp only
  split
  ·exact ⟨this.1.trans h.1,h.2.imp id fun z=>this.2.trans z⟩
  ·exact ⟨h.1,.inr rfl⟩
 ·exact ⟨h.1,.inr rfl⟩
def D8 (σ:List Str) (k:Str):List Str:=if σ.any (fun y=>decide (y=k)) then σ else σ++[k]
def firstM (val:Nat→Str) (i:Nat):List Str:=((List.range i).map val).foldl D8 []
theorem Hg (val:Nat→Str) (i:Nat):firstM val (i+1)=D8 (firstM val i) (val i):=by
 unfold firstM;rw [List.range_succ,HK,List.foldl_append];rfl
theorem QP (val:Nat→Str):∀i,(firstM val i).length≤i
 |0=>Am _
 |i+1=>by
  rw [Hg];unfold D8
  have ih:=QP val i
  split
  ·omega
  ·rw [Cu,List.length_singleton];omega
theorem QR (σ:List Str) (v k:Str):decide (k∈D8 σ v)=(decide (k∈σ)||decide (k=v)):=by
 unfold D8
 by_cases h:σ.any (fun y=>decide (y=v))=true
 ·rw [if_pos h]
  have hv:v∈σ:=by simpa using h
  by_cases e:k=v
  ·subst e;simp [hv]
  ·simp [e]
 ·rw [if_neg h]
  by_cases e:k=v<;>simp [e]
theorem ZO (σ:List Str) (v:Str):(D8 σ v).length=if decide (v∈σ) then σ.length else σ.length+1:=by
 unfold D8
 by_cases h:v∈σ
 ·rw [if_pos (by simpa using h),if_pos (by simpa using h)]
 ·rw [if_neg (by simpa using h),if_neg (by simpa using h)];simp
theorem firstM_nodup (val:Nat→Str):∀i,(firstM val i).Nodup
 |0=>List.nodup_nil
 |i+1=>by
  rw [Hg];unfold D8
  by_cases h:(firstM val i).any (fun y=>decide (y=val i))=true
  ·rw [if_pos h];exact firstM_nodup val i
  ·rw [if_neg h,GC]
   refine ⟨firstM_nodup val i,by simp,?_⟩
   intro a ha b hb
   simp only [qaI] at hb
   subst hb
   rintro rfl
   exact h (by simpa using ha)
theorem firstM_mem (val:Nat→Str) (k:Str):∀i,k∈firstM val i↔∃j,j<i∧val j=k
 |0=>by simp [firstM]
 |i+1=>by
  have h:=QR (firstM val i) (val i) k
  rw [Hg]
  have ih:=firstM_mem val k i
  constructor
  ·intro z
   rw [decide_eq_true z] at h
   have h:=h.symm
   simp only [FA,decide_eq_true_eq] at h
   rcases h with z |z
   ·obtain ⟨j,hj,e⟩:=ih.mp z;exact ⟨j,by omega,e⟩
   ·exact ⟨i,by omega,z.symm⟩
  ·rintro ⟨j,hj,e⟩
   have:decide (k∈D8 (firstM val i) (val i))=true:=by
    rw [h]
    simp only [FA,decide_eq_true_eq]
    by_cases hji:j=i
    ·subst hji;exact .inr e.symm
    ·exact .inl (ih.mpr ⟨j,by omega,e⟩)
   simpa using this
theorem QT:∀{vs:List Value} {ns:List Str},StrsAre vs ns→∀(i:Nat) (v:Value),vs[i]?=some v→∃t,v=.str (ns.getD i ⟨#[]⟩) t
 |_,_,.nil,i,v,h=>by simp at h
 |_,_,.cons n t hr,0,v,h=>by simp at h;exact ⟨t,by rw [←h];rfl⟩
 |_,_,.cons n t hr,i+1,v,h=>by
  simp only [List.getElem?_cons_succ] at h
  obtain ⟨t',e⟩:=QT hr i v h
  exact ⟨t',by rw [e];rfl⟩
section
variable {prog:Program} {w:World} {K:Type} [DecidableEq K] (knd:KeyKind prog w K)
def _root_.PySem.Heap.SetW (h:Heap) (a:Addr) (led:Bool) (S:K→Bool) (n:Nat):Prop:=
 ∃o es ep t,h.get? a=some o∧o.ExactSet∧o.data=.set es ep t∧ElemsOf knd es.toList∧(∀k,S k=true↔∃e∈es.toList,knd.is k e.2=true)
  ∧es.size<scanBound∧t.fits es.size=true∧es.size=n∧Hf led n t
variable {knd}
variable {A:Around} {E:Value→Shared→Prop} {s:Shared}
theorem SetW_congr {h:Heap} {a:Addr} {led:Bool} {S S':K→Bool} {n n':Nat} (hS:h.SetW knd a led S n) (e:∀k,S k=S' k) (en:n=n'):h.SetW knd a led S' n':=by
 have:S=S':=funext e
 subst this;subst en;exact hS
theorem ZP {h:Heap} {a:Addr} (g:h.get? a=some (CJ w)):h.SetW knd a (ledW w) (fun _=>false) 0:=
 ⟨_,#[],0,_,g,⟨rfl,rfl,rfl⟩,rfl,fun e he=>by simp at he,fun k=>by simp,by decide,by rfl,rfl,rfl,.inl rfl⟩
theorem QU {h:Heap} {a:Addr} {o:Obj} {es:Array (Int×Value)} {ep:Nat} {t:SetTable} (ho:h.get? a=some o) (hex:o.ExactSet) (hd:o.data=.set es ep t)
 {es':Array (Int×Value)} {t':SetTable} {S':K→Bool} (hel:ElemsOf knd es'.toList) (hmem:∀k,S' k=true↔∃e∈es'.toList,knd.is k e.2=true) (hb:es'.size<scanBound) (hf:t'.fits es'.size=true) {led:Bool} (hT:Hf led es'.size t'):
 (h.update a (Obj.putSet es' t')).get? a=some {o with data:=.set es' (ep+1) t'}∧(h.update a (Obj.putSet es' t')).SetW knd a led S' es'.size:=by
 have hg:(h.update a (Obj.putSet es' t')).get? a=some {o with data:=.set es' (ep+1) t'}:=by
  have:=Di (Obj.putSet es' t') ho (by rw [putSet_of es' t' hd];rfl)
  rw [putSet_of es' t' hd] at this;exact this
 exact ⟨hg,_,es',ep+1,t',hg,hex,rfl,hel,hmem,hb,hf,rfl,hT⟩
theorem QV {g:Bool→Sem Unit} (hg:∀(b:Bool) (s₁:Shared) (Q':Unit→Shared→Prop),Q' () s₁→wpAny (model prog w) A (g b) Q' E s₁)
 {a:Addr} {o:Obj} {es:Array (Int×Value)} {ep:Nat} {t:SetTable} (ho:s.heap.get? a=some o) (hex:o.ExactSet) (hd:o.data=.set es ep t)
 {es1:Array (Int×Value)} {t2:SetTable} {S':K→Bool} (hel1:ElemsOf knd es1.toList) (hmem1:∀k',S' k'=true↔∃e∈es1.toList,knd.is k' e.2=true)
 (hb1:es1.size<scanBound) (hf2:t2.fits es1.size=true) {led:Bool} (hT2:Hf led es1.size t2) {wasDummy:Bool} {R:Option Bool→Shared→Prop}
 (h:∀h',Heap.SameBut a s.heap h'→h'.SetW knd a led S' es1.size→R (some true) {s with heap:=h'}):
 wpAny (model prog w) A (do
  storeSet a es1 t2
  if (!wasDummy&&t2.tooFull)=true then do
      g (relayAll t2 es1 (SetTable.grown es1.size)).2.2
      storeSet a (relayAll t2 es1 (SetTable.grown es1.size)).1 (relayAll t2 es1 (SetTable.grown es1.size)).2.1
      pure (some true)
   else pure (some true)) R E s:=by
 refine wpAny_bind (wpAny_storeSet_of ho hd ?_ (fits_of_scanBound hb1))
 obtain ⟨ho1,hS1⟩:=QU (knd:=knd) ho hex hd hel1 hmem1 hb1 hf2 hT2
 have hsb1:=Heap.SameBut.update s.heap a (Obj.putSet es1 t2)
 split
 ·
  have hp:=relayAll_perm t2 es1 (SetTable.grown es1.size)
  have hfr:=relayAll_fits t2 es1 (SetTable.grown es1.size)
  have hTr:=ZN t2 es1 (SetTable.grown es1.size) hT2
  generalize hRl:relayAll t2 es1 (SetTable.grown es1.size)=Rl at hp hfr hTr ⊢
  obtain ⟨es2,t3,gave2⟩:=Rl
  dsimp only at hp hfr hTr ⊢
  have hel2:ElemsOf knd es2.toList:=hel1.perm hp
  have hmem2:∀k',S' k'=true↔∃e∈es2.toList,knd.is k' e.2=true:=fun k'=>(hmem1 k').trans ⟨fun ⟨e,he,q⟩=>⟨e,hp.mem_iff.mpr he,q⟩,fun ⟨e,he,q⟩=>⟨e,hp.mem_iff.mp he,q⟩⟩
  have hsz:es2.size=es1.size:=by rw [←Array.length_toList,hp.length_eq,Array.length_toList]
  have hb2:es2.size<scanBound:=by rw [hsz];exact hb1
  refine wpAny_bind (hg _ _ _ ?_)
  refine wpAny_bind (wpAny_storeSet_of ho1 rfl ?_ (fits_of_scanBound hb2))
  obtain ⟨_,hS2⟩:=QU (knd:=knd) ho1 hex rfl hel2 hmem2 hb2 hfr (hsz.symm ▸ hTr)
  rw [hsz] at hS2
  exact wpAny_pure (h _ (hsb1.trans (Heap.SameBut.update _ a _)) hS2)
 ·exact wpAny_pure (h _ hsb1 hS1)
theorem ZQ {a:Addr} {S:K→Bool} {n:Nat} {k:K} {x:Value} {Q:Bool→Shared→Prop} (hkey:knd.is k x=true) (hsc:x.scannable=true) (hpk:plainKind x=false) {led:Bool} (hS:s.heap.SetW knd a led S n)
 (hroom:n+1<scanBound)
 (h:∀h',Heap.SameBut a s.heap h'→h'.SetW knd a led (fun k'=>S k'||decide (k'=k)) (if S k then n else n+1)→Q (!S k) {s with heap:=h'}):
 wpAny (model prog w) A (setAddHashed a x (knd.hash k)) Q E s:=by
 obtain ⟨o,es,ep,t,ho,hex,hd,hel,hmem,hb,hf,hn,hT⟩:=hS
 have hb1:es.size+1<scanBound:=by rw [hn];exact hroom
 unfold setAddHashed setAddHashedIn
 refine wpAny_holding (wpAny_bind (wpAny_setState_of ho hd hf ?_))
 dsimp only
 rw [byScan_of hsc hb hel]
 simp only [↓reduceIte]
 unfold setAddByScan
 refine wpAny_bind ?_
 refine wpAny_bind (wpAny_rule ?_)
 refine wpAny_bind (wpAny_setScan_of hkey ho hd hf hel ?_)
 cases hr:List.findIdx? (fun e=>knd.is k e.2) es.toList with
 |some j=>
  dsimp only
  obtain ⟨hj,hpj,_⟩:=List.findIdx?_eq_some_iff_getElem.mp hr
  have hSk:S k=true:=(hmem k).mpr ⟨es.toList[j],Fy hj,hpj⟩
  refine wpAny_pure (wpAny_pure ?_)
  have e:s={s with heap:=s.heap}:=by cases s;rfl
  have:=h s.heap (Heap.SameBut.refl a s.heap) ⟨o,es,ep,t,ho,hex,hd,hel,fun k'=>by
   rw [FA,decide_eq_true_eq,←hmem k']
   exact ⟨fun hk=>hk.elim id (fun e=>e ▸ hSk),.inl⟩,hb,hf,by rw [hSk];exact hn,by rw [hSk];exact hT⟩
  rw [hSk] at this;rw [e];exact this
 |none=>
  dsimp only
  have hSk:S k=false:=by
   cases hk:S k with
   |false=>rfl
   |true=>obtain ⟨e,he,hp⟩:=(hmem k).mp hk;have:=List.findIdx?_eq_none_iff.mp hr e he;rw [hp] at this;exact Bool.noConfusion this
  have hgw:∀(b:Bool) {s₁:Shared} {Q':Unit→Shared→Prop},Q' () s₁→wpAny (model prog w) A (match b with |true=>rule "set.scan.the-table-gave-way" |false=>pure ()) Q' E s₁:=
   fun b s₁ Q' hq=>by cases b<;>first |exact wpAny_pure hq |exact wpAny_rule hq
  have hperm:=layNew_perm t es (knd.hash k) x
  have hfits:=layNew_fits t es (knd.hash k) x
  have hTl:=ZL t es (knd.hash k) x
  generalize hL:layNew t es (knd.hash k) x=L at hperm hfits hTl ⊢
  obtain ⟨es1,t1,wasDummy,gave⟩:=L
  dsimp only at hperm hfits hTl ⊢
  rw [Array.toList_push] at hperm
  have hel1:ElemsOf knd es1.toList:=(hel.push hkey hsc).perm hperm
  have hmem1:∀k',(S k'||decide (k'=k))=true↔∃e∈es1.toList,knd.is k' e.2=true:=mem_push_iff hkey hmem hperm
  have hb1':es1.size<scanBound:=by rw [←Array.length_toList,hperm.length_eq,Cu,Array.length_toList];simpa using hb1
  refine wpAny_bind (hgw _ ?_)
  have hsz1:es1.size=n+1:=by rw [←Array.length_toList,hperm.length_eq,Cu,Array.length_toList,hn];rfl
  have hend:∀h',Heap.SameBut a s.heap h'→h'.SetW knd a led (fun k'=>S k'||decide (k'=k)) es1.size→Q true {s with heap:=h'}:=by
   intro h' hsb hS';have:=h h' hsb;rw [hSk] at this;rw [hsz1] at hS';exact this hS'
  split
  ·rename_i hpl;refine wpAny_bind ?_
   rw [hashByValue_scannable 8 hsc]
   refine wpAny_pure ?_
   rw [hpk]
   refine QV (led:=led) ?_ ho hex hd hel1 hmem1 hb1' ?_ (by exact ⟨hTl.1.trans hT.1,.inr rfl⟩) ?_
   ·intro b s₁ Q' hq;cases b<;>first |exact wpAny_pure hq |exact wpAny_rule hq
   ·exact SetTable.fits_plain_off hfits
   ·intro h' hsb hS';dsimp only;exact wpAny_pure (hend h' hsb hS')
  ·rename_i hpl;refine wpAny_bind (wpAny_pure ?_)
   simp only [↓reduceIte]
   refine QV (led:=led) ?_ ho hex hd hel1 hmem1 hb1' hfits ⟨hTl.1.trans hT.1,.inr (by simpa using hpl)⟩ ?_
   ·intro b s₁ Q' hq;cases b<;>first |exact wpAny_pure hq |exact wpAny_rule hq
   ·intro h' hsb hS';dsimp only;exact wpAny_pure (hend h' hsb hS')
end
section
variable {prog:Program} {w:World} {A:Around} {R:Result→Shared→Prop} {I:Addr} {fp wr:List Addr} {G:Array GenState→Array GenState→Prop} {n:Nat} {P:Nat→Value→Prop} {St:Nat→Shared→Prop}
theorem ZR (W:WalksS prog w A.in1 I fp wr G n P St) (S:Addr) (hSf:S∉fp)
 (led:Bool) (val:Nat→Str) (hval:∀i v,P i v→∃t,v=.str (val i) t) (hb:n+1<scanBound):
 ∀(k i:Nat) (s:Shared),n - i=k→i≤n→St i s→
  s.heap.SetW (strKind prog w) S led (fun k'=>decide (k'∈firstM val i)) (firstM val i).length→
  (∀s',Moved (S::wr) G s s'→s'.heap.SetW (strKind prog w) S led (fun k'=>decide (k'∈firstM val n)) (firstM val n).length→R (.ok (.ret .none)) s')→
  codeAny (model prog w) A (.builtin "set.update.loop" ⟨[.ref S,.ref I],[]⟩) R s:=by
 have hSw:S∉wr:=fun h=>hSf (W.sub _ h)
 have hsub:∀b∈wr,b∈S::wr:=fun b hb=>AV _ hb
 intro k
 induction k with
 |zero=>
  intro i s hk hi hst hS hR
  have hin:i=n:=by omega
  subst hin
  refine codeAny_builtin F.entry_set_update_loop ?_
  rw [Around.under_plainId F.plain_set_update_loop _]
  show wpAny _ A.in1 (pyNext (.ref I) >>=_) _ _ s
  refine wpAny_bind (W.done s _ _ hst fun s' hm=>?_)
  show wpAny _ A.in1 (ret Value.none) _ _ s'
  exact wpAny_pure (hR s' (hm.mono hsub) (by
   obtain ⟨o,es,ep,t,ho,rest⟩:=hS
   exact ⟨o,es,ep,t,hm.heap S _ hSw ho,rest⟩))
 |succ k ih=>
  intro i s hk hi hst hS hR
  have hlt:i<n:=by omega
  refine codeAny_builtin F.entry_set_update_loop ?_
  rw [Around.under_plainId F.plain_set_update_loop _]
  show wpAny _ A.in1 (pyNext (.ref I) >>=_) _ _ s
  refine wpAny_bind (W.item i s _ _ hlt hst fun v s' hP hst' hm=>?_)
  obtain ⟨t,rfl⟩:=hval i v hP
  have hS':s'.heap.SetW (strKind prog w) S led (fun k'=>decide (k'∈firstM val i)) (firstM val i).length:=by
   obtain ⟨o,es,ep,tb,ho,rest⟩:=hS
   exact ⟨o,es,ep,tb,hm.heap S _ hSw ho,rest⟩
  show wpAny _ A.in1 (holding [Value.str (val i) t] (setAdd S (.str (val i) t)) >>=_) _ _ s'
  refine wpAny_bind (wpAny_holding ?_)
  unfold setAdd
  refine wpAny_holding ?_
  refine wpAny_bind ((strKind prog w).pyHash (k:=val i) (strKind_is _ _ _ _) ?_)
  have hroom:(firstM val i).length+1<scanBound:=by have:=QP val i;omega
  refine ZQ (knd:=strKind prog w) (s:={s' with toks:=s'.toks+1}) (strKind_is _ _ _ _) rfl rfl hS' hroom fun h' hsb hS2=>?_
  have hSi:h'.SetW (strKind prog w) S led (fun k'=>decide (k'∈firstM val (i+1))) (firstM val (i+1)).length:=
   SetW_congr hS2 (fun k'=>by rw [Hg,QR]) (by rw [Hg,ZO])
  refine wpAny_pure ⟨plainId_quiet F.plain_set_update_loop _,ih (i+1) _ (by omega) hlt (W.frame _ s' _ _ hst' (Nat.le_succ _) fun b hb o e=>?_) hSi fun s'' hm'' hS''=>?_⟩
  ·rw [hsb.2 b (fun h:b=S=>hSf (by rw [←h];exact hb))];exact e
  ·refine hR s'' (Moved.trans W.gtrans ((hm.mono hsub).then_heap (Nat.le_succ _) fun b o hb e=>?_) hm'') hS''
   rw [hsb.2 b (fun h:b=S=>hb (by rw [h];exact AU))];exact e
end
section
variable {prog:Program} {w:World} {A:Around} {E:Value→Shared→Prop} {s:Shared}
theorem ZS (a:Value) {Q₁:Value→Shared→Prop}
 (h:Q₁ (.ref s.heap.objs.size) {s with heap:=s.heap.push (CJ w)}):
 codeAny (model prog w) A (.call (.builtin "set.__new__") ⟨[.type "set",a],[]⟩) (wants Q₁ E) s:=by
 refine codeAny_of_tree ?_
 show wpAny _ A.in1 (do checkBuiltinCall "set.__new__" ⟨[.type "set",a],[]⟩;again (.builtin "set.__new__" ⟨[.type "set",a],[]⟩)) _ _ s
 refine wpAny_bind (wpAny_of_eq (F.newCall_set_1 a) (wpAny_pure ⟨plainId_quiet F.plain_set_new _,codeAny_builtin F.entry_set_new ?_⟩))
 rw [Around.under_plainId F.plain_set_new _]
 unfold Builtin.«set.__new__» Builtin.Frozenset.newClass
 have hsub:=sub_set_self
 obtain ⟨hp,g,d,tk,os⟩:=s
 dsimp only
 wp_walk
 refine wpAny_askSetting (wpAny_pure ?_)
 dsimp only
 simp only [newObj]
 refine wpAny_bind (wpAny_alloc (wpAny_pure ?_))
 exact wpAny_pure h
set_option maxHeartbeats 3200000 in
theorem set_listW {l:Addr} {items:Array Value} {ns:List Str} {Q:Value→Shared→Prop}
 (hh:A.handled=none) (hl:s.heap.IsList l items) (hi:PyProof.Rows.StrsAre items.toList ns) (hb:items.size+1<scanBound)
 (h:∀(h':Heap) (tk:Nat),h'.SetW (strKind prog w) s.heap.objs.size (ledW w) (fun k'=>decide (k'∈firstM (fun i=>ns.getD i ⟨#[]⟩) items.size)) (firstM (fun i=>ns.getD i ⟨#[]⟩) items.size).length→
  (∀b o,b<s.heap.objs.size→s.heap.get? b=some o→h'.get? b=some o)→Q (.ref s.heap.objs.size) {s with heap:=h',toks:=tk}):
 wpAny (model prog w) A (call (.type "set") [.ref l]) Q E s:=by
 obtain ⟨c,tl,hmro⟩:=F.called_set.mro
 have hmade:=F.called_set.made
 have hsub:=F.called_set.sub
 refine wpAny_call (codeAny_of_tree ?_)
 show wpAny _ _ (callAny (.type "set") _) _ _ _
 refine wpAny_pure ⟨Code.quiet_builtin _ (by decide +kernel),codeAny_builtin F.entry_type_call ?_⟩
 rw [Around.under_plain (weight_type_call_type "set" [.ref l] []) rfl]
 have h1:=F.called_set.notType
 have h2:=F.called_set.canCreate
 have hct:=F.typeCall_set_1 (.ref l)
 repeat (any_goals (first |assumption |wp_step))
 refine codeAny_mono (ZS (.ref l) (E:=E) (Q₁:=fun obj s₁=>obj=.ref s.heap.objs.size∧s₁={s with heap:=s.heap.push (CJ w)}) ⟨rfl,rfl⟩) fun r s₁ hr=>?_
 cases r with
 |error e=>exact hr
 |ok fl=>
  cases fl with
  |ret obj=>
   obtain ⟨rfl,rfl⟩:=hr
   have hS:(s.heap.push (CJ w)).get? s.heap.objs.size=some (CJ w):=AW _ rfl
   have hT:Shared.TypeIs {s with heap:=s.heap.push (CJ w)} (.ref s.heap.objs.size) "set":=⟨_,hS,rfl⟩
   have hli:=F.called_set.init.lookup
   have hbi:=F.called_set.init.bind (.ref s.heap.objs.size)
   repeat (any_goals (first |assumption |wp_step))
   refine codeAny_mono (codeAny_call_builtin (R:=wants (fun r s₂=>r=.none∧∃h' tk,s₂={s with heap:=h',toks:=tk}∧
    h'.SetW (strKind prog w) s.heap.objs.size (ledW w) (fun k'=>decide (k'∈firstM (fun i=>ns.getD i ⟨#[]⟩) items.size)) (firstM (fun i=>ns.getD i ⟨#[]⟩) items.size).length∧
    (∀b o,b<s.heap.objs.size→s.heap.get? b=some o→h'.get? b=some o)) E) F.called_set.init.plain F.entry_set_init (check_set_init_1 hT ?_)) fun r₂ s₂ hr₂=>?_
   ·obtain ⟨ol,hol,hcl,nl,hdl⟩:=hl
    obtain ⟨ocls,odict,odata,oslots⟩:=ol
    simp only at hcl hdl
    subst hcl;subst hdl
    have hol':(s.heap.push (CJ w)).get? l=some {cls:=.type "list",dict:=odict,data:=.seq items nl,slots:=oslots}:=AB _ hol
    have hsls:=F.sub_list_set
    have hslf:=F.sub_list_frozenset
    have hne:(Value.type "list"==Value.type "dict")=false:=by decide
    have hl1:(s.heap.push (CJ w)).IsList l items:=⟨_,hol',rfl,nl,rfl⟩
    unfold Builtin.«set.__init__» noKeywords Builtin.Frozenset.updateFrom
    generalize hPI:pyIter=PI
    wp_walk
    subst hPI
    refine wpAny_pyIter_list hl1 ?_
    refine wpAny_bind (wpAny_runValue ?_)
    have hlS:l<s.heap.objs.size:=Ax hol
    have hh3:A.in1.in1.in1.handled=none:=by simp [hh]
    have hneI:l≠(s.heap.push (CJ w)).objs.size:=by
     rw [BN];exact Bd (HC hlS)
    have hSf:s.heap.objs.size∉[(s.heap.push (CJ w)).objs.size,l]:=by
     rw [BN];simp only [qa4,qaI,EL,or_false,not_or]
     exact ⟨Bd (GD _),Eh hlS⟩
    have hval:∀(i:Nat) (v:Value),items[i]?=some v→∃t,v=.str ((fun i=>ns.getD i ⟨#[]⟩) i) t:=fun i v hv=>
     QT hi i v (by rw [Array.getElem?_toList];exact hv)
    refine ZR ((Walks.list hh3 _ l hneI items).toS) s.heap.objs.size
     hSf (ledW w) (fun i=>ns.getD i ⟨#[]⟩) hval hb (items.size - 0) 0 _ (by omega) (B2 _)
     ⟨⟨_,AW _ rfl,rfl,rfl⟩,(hl1.push _)⟩ ?hS0 ?hR
    case hS0=>
     have hget:((s.heap.push (CJ w)).push {cls:=.type "list_iterator",data:=.fields #[.ref l,.int 0 0]}).get? s.heap.objs.size
      =some (CJ w):=AB _ hS
     exact SetW_congr (ZP hget) (fun _=>rfl) rfl
    case hR=>
     intro s' hm hS'
     obtain ⟨h',g',d',tk',os'⟩:=s'
     have eg:g'=s.gens:=hm.gens
     have ed:d'=s.drawn:=hm.drawn
     have eo:os'=s.os:=hm.os
     subst eg;subst ed;subst eo
     show wpAny _ _ _ _ _ _
     refine wpAny_pure ?_
     show wpAny _ _ (ret Value.none) _ _ _
     refine wpAny_pure ⟨rfl,h',tk',rfl,hS',fun b o hb e=>?_⟩
     have hb1:b≠s.heap.objs.size:=Bd hb
     have hb2:b≠(s.heap.push (CJ w)).objs.size:=by
      rw [BN];exact Bd (HC hb)
     exact hm.heap b o (by simp only [qa4,qaI,EL,or_false,not_or];exact ⟨hb1,hb2⟩) (AB _ (AB _ e))
   ·cases r₂ with
    |error e=>exact hr₂
    |ok fl₂=>
     cases fl₂ with
     |ret r=>
      obtain ⟨rfl,h',tk,rfl,hS',hk'⟩:=hr₂
      repeat (any_goals (first |assumption |wp_step))
      exact h _ _ hS' hk'
     |_=>exact hr₂.elim
  |_=>exact hr.elim
end
end SetW
namespace SetW
open PySem PyProof.Rows PySem.Spec
theorem slot_next:Slot "set_iterator" "__next__" "set_iterator.__next__":=
 .of (owner:="set_iterator") (n:="__next__") (by rw [typeLookup_type,builtinLookup_eq_fast];kernel_rfl) (by decide +kernel) (by decide +kernel) (by decide +kernel)
  (by first |exact .inl (by decide +kernel) |exact .inr (by decide +kernel)) (by rw [isSubtype_type];kernel_rfl)
theorem Gh:entryFor table "set_iterator.__next__"=some Builtin.«set_iterator.__next__»:=entryFor_of_tree (by kernel_rfl)
theorem QW:Manifest.owners.lookup (String.ofList ['r','o','t','a','r','e','t','i','_','t','e','s'].reverse)=some Manifest.sig_set_iterator:=by kernel_rfl
theorem Gi (a:Value):argsOk "set_iterator.__next__" ⟨[a],[]⟩:=by
 unfold argsOk;rw [signature?_of (id:="set_iterator.__next__") (n:=['_','_','t','x','e','n','_','_']) (o:=['r','o','t','a','r','e','t','i','_','t','e','s']) (by kernel_rfl) QW];kernel_rfl
theorem ZT:entryFor table "set.__iter__"=some Builtin.«frozenset.__iter__»:=
 entryFor_alias (id':="frozenset.__iter__") (by kernel_rfl) rfl (by decide +kernel) (by kernel_rfl)
theorem QX:Slot "set_iterator" "__iter__" "set_iterator.__iter__":=
 .of (owner:="set_iterator") (n:="__iter__") (by rw [typeLookup_type,builtinLookup_eq_fast];kernel_rfl) (by decide +kernel) (by decide +kernel) (by decide +kernel)
  (by first |exact .inl (by decide +kernel) |exact .inr (by decide +kernel)) (by rw [isSubtype_type];kernel_rfl)
theorem ZU:entryFor table "set_iterator.__iter__"=some Builtin.«dict_keyiterator.__iter__»:=
 entryFor_alias (id':="dict_keyiterator.__iter__") (by kernel_rfl) rfl (by decide +kernel) (by kernel_rfl)
theorem ZV (a:Value):argsOk "set_iterator.__iter__" ⟨[a],[]⟩:=by
 unfold argsOk;rw [signature?_of (id:="set_iterator.__iter__") (n:=['_','_','r','e','t','i','_','_']) (o:=['r','o','t','a','r','e','t','i','_','t','e','s']) (by kernel_rfl) QW];kernel_rfl
def BY (w:World):Bool:=w.params.followText "set-order"
theorem Mu {α:Type}:∀(l:List α) (i:Nat) (h:i<l.length),(l[i]::l.eraseIdx i).Perm l
 |[],i,h=>by simp at h
 |a::l,0,h=>by simp
 |a::l,i+1,h=>by
  simp only [List.getElem_cons_succ,List.eraseIdx_cons_succ]
  exact (List.Perm.swap _ _ _).trans ((Mu l i (by simpa using h)).cons a)
theorem QY {α:Type} (next:Nat→Nat):∀(f k:Nat) (left:List α) (out:Array α),f=left.length→(pickOrder.go next f k left out).toList.Perm (out.toList++left)
 |0,k,left,out,h=>by
  have:left=[]:=qbF.mp h.symm
  subst this
  simp [pickOrder.go]
 |f+1,k,left,out,h=>by
  have hpos:0<left.length:=by omega
  have hlt:next k % left.length<left.length:=Nat.mod_lt _ hpos
  unfold pickOrder.go
  rw [Bi hlt]
  try dsimp only
  refine (QY next f (k+1) _ _ (by rw [List.length_eraseIdx_of_lt hlt];omega)).trans ?_
  rw [Array.toList_push,List.append_assoc]
  exact List.Perm.append_left _ (Mu left _ hlt)
section
variable {prog:Program} {w:World} {A:Around} {E:Value→Shared→Prop} {s:Shared}
theorem ZW {M:Model} {src:Source} {n:Nat} {Q:Nat→Shared→Prop} (hn:n≠0) (h:Q (M.w.draws src (s.drawn.get src) % n) {s with drawn:=s.drawn.bump src}):wpAny M A (choose src n) Q E s:=
 fun Γ p _=>by unfold choose;rw [Sem.wp_choose];exact ⟨hn,h⟩
theorem QZ {α:Type} {M:Model}:∀(n:Nat) (xs:List α) {s:Shared} {Q:List α→Shared→Prop},n=xs.length→(∀out d,out.Perm xs→Q out {s with drawn:=d})→wpAny M A (drawOrder n xs) Q E s
 |0,xs,s,Q,hn,h=>by
  have:xs=[]:=qbF.mp hn.symm
  subst this
  unfold drawOrder
  exact wpAny_pure (h [] s.drawn (.refl _))
 |n+1,[],s,Q,hn,h=>by simp at hn
 |n+1,x::xs,s,Q,hn,h=>by
  unfold drawOrder
  refine wpAny_bind (ZW (by simp) ?_)
  have hlt:M.w.draws Source.order (s.drawn.get Source.order) % (x::xs).length<(x::xs).length:=Nat.mod_lt _ (by simp)
  generalize M.w.draws Source.order (s.drawn.get Source.order) % (x::xs).length=i at hlt ⊢
  rw [Bi hlt]
  try dsimp only
  refine wpAny_bind (QZ n _ (by rw [List.length_eraseIdx_of_lt hlt];simp at hn ⊢;omega) fun out d p=>?_)
  refine wpAny_pure (h _ d ((p.cons _).trans (Mu _ _ hlt)))
end
inductive SetE (w:World) (h:Heap) (a:Addr) (es:Array (Int×Value)) (ep:Nat) (t:SetTable):Prop
 |mk (o:Obj) (g:h.get? a=some o) (c:o.cls=.type "set") (d:o.data=.set es ep t) (f:t.fits es.size=true) (led:t.led=ledW w) (pl:es.size=0∨t.plain=false)
theorem SetE.at {w:World} {h h':Heap} {a:Addr} {es:Array (Int×Value)} {ep:Nat} {t:SetTable} (x:SetE w h a es ep t) (e:∀o,h.get? a=some o→h'.get? a=some o):SetE w h' a es ep t:=by
 obtain ⟨o,g,c,d,f,l,p⟩:=x
 exact ⟨o,e _ g,c,d,f,l,p⟩
theorem SetE.ty {w:World} {s:Shared} {a:Addr} {es:Array (Int×Value)} {ep:Nat} {t:SetTable} (x:SetE w s.heap a es ep t):s.TypeIs (.ref a) "set":=by
 obtain ⟨o,g,c,d,f,l,p⟩:=x
 exact ⟨o,g,c⟩
def Q0 (a:Addr) (v:Value) (i n ep:Nat):Obj:={cls:=.type "set_iterator",data:=.fields #[v,.int i 0,.ref a,.int n 0,.int ep 0]}
def IsIt (h:Heap) (I a:Addr) (v:Value) (i n ep:Nat):Prop:=∃o,h.get? I=some o∧o.cls=.type "set_iterator"∧o.data=.fields #[v,.int i 0,.ref a,.int n 0,.int ep 0]
def Fi (t:SetTable):Nat→Nat
 |0=>0
 |_+1=>t.place.getD 0 0+1
inductive ItS (w:World) (h:Heap) (I a T:Addr) (es:Array (Int×Value)) (ep:Nat) (t:SetTable) (pl:List Nat) (i:Nat):Prop
 |text (hb:BY w=true) (y:IsIt h I a (.int ((0:Nat):Int) 0) i es.size ep)
 |small (hb:BY w=false) (hs:es.size≤1) (y:IsIt h I a (.int ((Fi t i:Nat):Int) 0) i es.size ep)
 |drawn (hb:BY w=false) (hs:1<es.size) (y:IsIt h I a (.ref T) i es.size ep) (o:Obj) (n:Nat) (g:h.get? T=some o) (d:o.data=.seq (pl.map fun (k:Nat)=>rawInt (k:Int)).toArray n) (p:pl.Perm (List.range es.size))
theorem IsIt.at {h h':Heap} {I a:Addr} {v:Value} {i n ep:Nat} (x:IsIt h I a v i n ep) (e:∀o,h.get? I=some o→h'.get? I=some o):IsIt h' I a v i n ep:=let ⟨o,ho,r⟩:=x;⟨o,e _ ho,r⟩
theorem ItS.at {w:World} {h h':Heap} {I a T:Addr} {es:Array (Int×Value)} {ep:Nat} {t:SetTable} {pl:List Nat} {i:Nat} (x:ItS w h I a T es ep t pl i) (e:∀o,h.get? I=some o→h'.get? I=some o) (e2:∀o,h.get? T=some o→h'.get? T=some o):ItS w h' I a T es ep t pl i:=by
 cases x with
 |text hb y=>exact .text hb (y.at e)
 |small hb hs y=>exact .small hb hs (y.at e)
 |drawn hb hs y o n g d p=>exact .drawn hb hs (y.at e) o n (e2 _ g) d p
theorem ItS.ty {w:World} {s:Shared} {I a T:Addr} {es:Array (Int×Value)} {ep:Nat} {t:SetTable} {pl:List Nat} {i:Nat} (x:ItS w s.heap I a T es ep t pl i):s.TypeIs (.ref I) "set_iterator":=by
 cases x with
 |text hb y=>obtain ⟨o,ho,hc,_⟩:=y;exact ⟨o,ho,hc⟩
 |small hb hs y=>obtain ⟨o,ho,hc,_⟩:=y;exact ⟨o,ho,hc⟩
 |drawn hb hs y _ _ _ _ _=>obtain ⟨o,ho,hc,_⟩:=y;exact ⟨o,ho,hc⟩
def BU (w:World) (a:Addr) (ep:Nat) (es:Array (Int×Value)) (pl:List Nat):List (Int×Value):=
 if BY w=true then (pickOrder (w.params.setOrder a ep) es).toList else if es.size≤1 then es.toList else pl.filterMap (es[·]?)
theorem ZX {w:World} {a:Addr} {ep:Nat} {es:Array (Int×Value)} {pl:List Nat} (h:BY w=false→1<es.size→pl.Perm (List.range es.size)):(BU w a ep es pl).Perm es.toList:=by
 unfold BU
 split
 ·unfold pickOrder
  have:=QY (w.params.setOrder a ep) es.size 0 es.toList #[] (by simp)
  simpa using this
 ·rename_i hb
  split
  ·exact .refl _
  ·rename_i hs
   have:=(h (by simpa using hb) (by omega)).filterMap (es[·]?)
   rwa [filterMap_getElem?_range] at this
theorem Q1 {α:Type} (es:Array α):∀(pl:List Nat),(∀k∈pl,k<es.size)→∀(i:Nat),(pl.filterMap (es[·]?))[i]?=(pl[i]?).bind (es[·]?)
 |[],_,i=>by simp
 |k::pl,h,i=>by
  have hk:k<es.size:=h k (.head _)
  have e:es[k]?=some es[k]:=Array.getElem?_eq_getElem hk
  rw [List.filterMap_cons_some e]
  cases i with
  |zero=>simp [e]
  |succ i=>simpa using Q1 es pl (fun x hx=>h x (.tail _ hx)) i
section
variable {prog:Program} {w:World} {A:Around} {E:Value→Shared→Prop} {s:Shared}
theorem ZY (hb:BY w=false):ledW w=true:=by unfold ledW;show (!BY w)=true;rw [hb];rfl
theorem ZZ {a:Addr} {es:Array (Int×Value)} {ep:Nat} {t:SetTable} {Q:Value→Shared→Prop} (x:SetE w s.heap a es ep t) (hz:es.size≤1000)
 (h:∀h' d I T pl,(∀b o,s.heap.get? b=some o→h'.get? b=some o)→s.heap.objs.size≤I→I≠T→I<h'.objs.size→(T=a∨s.heap.objs.size≤T)→ItS w h' I a T es ep t pl 0→(BY w=false→1<es.size→pl.Perm (List.range es.size))→Q (.ref I) {s with heap:=h',drawn:=d}):wpAny (model prog w) A (pyIter (.ref a)) Q E s:=by
 have hT:=x.ty
 obtain ⟨o,g,c,d,f,led,pl⟩:=id x
 have halt:a<s.heap.objs.size:=Ax g
 refine wpAny_pyIter_slot hT F.slot_set_iter (wpAny_call_entry F.slot_set_iter hT ZT ?_ (F.args_set_iter_1 _))
 unfold Builtin.«frozenset.__iter__» Builtin.Frozenset.slot0 slotArgs
 simp only [List.isEmpty_nil,DQ,Bc,↓reduceIte,bind_assoc,HJ,bne_self_eq_false]
 unfold Builtin.Frozenset.addrOf Builtin.Frozenset.sizeOf
 refine wpAny_bind (wpAny_pure ?_)
 try dsimp only
 refine wpAny_bind (wpAny_pure ?_)
 refine wpAny_bind (wpAny_bind (wpAny_setEntries_of g d f (wpAny_pure ?_)))
 unfold setDrawn setsByText
 refine wpAny_bind (wpAny_bind (wpAny_setState_of g d f ?_))
 try dsimp only
 refine wpAny_bind (wpAny_bind (wpAny_askSetting (wpAny_pure ?_)))
 refine wpAny_pure ?_
 show wpAny _ _ (if (!(BY w)&&(!t.plain&&decide (es.size>1)))=true then _ else _) _ _ _
 by_cases hb:BY w=true
 ·rw [hb]
  rw [if_neg (by simp)]
  refine wpAny_bind (wpAny_pure ?_)
  refine wpAny_bind (wpAny_setEpoch_of g d f ?_)
  refine wpAny_bind (wpAny_newObj_type (wpAny_pure ⟨_,rfl,"set_iterator",_,⟨_,AW _ rfl,rfl⟩,slot_next.lookup,?_⟩))
  exact h _ s.drawn s.heap.objs.size a [] (fun b o e=>AB _ e) (Am _) (Eh halt) (by rw [BN];exact GD _) (.inl rfl) (.text hb ⟨_,AW _ rfl,rfl,rfl⟩) (fun z=>by rw [hb] at z;cases z)
 ·have hb:BY w=false:=by simpa using hb
  by_cases hs:es.size≤1
  ·rw [if_neg (by simp;intro _ _;omega)]
   refine wpAny_bind (wpAny_pure ?_)
   refine wpAny_bind (wpAny_setEpoch_of g d f ?_)
   refine wpAny_bind (wpAny_newObj_type (wpAny_pure ⟨_,rfl,"set_iterator",_,⟨_,AW _ rfl,rfl⟩,slot_next.lookup,?_⟩))
   exact h _ s.drawn s.heap.objs.size a [] (fun b o e=>AB _ e) (Am _) (Eh halt) (by rw [BN];exact GD _) (.inl rfl) (.small hb hs ⟨_,AW _ rfl,rfl,rfl⟩) (fun _ z=>by omega)
  ·have hs:1<es.size:=by omega
   have hpl:t.plain=false:=pl.resolve_left (by omega)
   rw [hb,hpl,if_pos (by simpa using hs)]
   refine wpAny_bind (QZ es.size (List.range es.size) (by simp) fun out d' p=>?_)
   have hlen:out.length=es.size:=by rw [p.length_eq];simp
   refine wpAny_bind (wpAny_newTuple ?_ (by rw [Bo,hlen,sizeLine_eq];omega))
   have g1:(s.heap.push {cls:=.type "tuple",data:=.seq (out.map fun (i:Nat)=>rawInt (i:Int)).toArray}).get? a=some o:=AB _ g
   refine wpAny_bind (wpAny_setEpoch_of (s:={s with heap:=s.heap.push {cls:=.type "tuple",data:=.seq (out.map fun (i:Nat)=>rawInt (i:Int)).toArray},drawn:=d'}) g1 d f ?_)
   refine wpAny_bind (wpAny_newObj_type (wpAny_pure ⟨_,rfl,"set_iterator",_,⟨_,AW _ rfl,rfl⟩,slot_next.lookup,?_⟩))
   generalize hH:s.heap.push {cls:=.type "tuple",data:=.seq (out.map fun (i:Nat)=>rawInt (i:Int)).toArray}=H1
   have hsz:H1.objs.size=s.heap.objs.size+1:=by rw [←hH];exact BN ..
   have gT:H1.get? s.heap.objs.size=some {cls:=.type "tuple",data:=.seq (out.map fun (i:Nat)=>rawInt (i:Int)).toArray}:=by rw [←hH];exact AW _ rfl
   have k1:∀b o,s.heap.get? b=some o→H1.get? b=some o:=fun b o e=>by rw [←hH];exact AB _ e
   refine h (H1.push (Q0 a (.ref s.heap.objs.size) 0 es.size ep)) d' H1.objs.size s.heap.objs.size out (fun b o e=>AB _ (k1 _ _ e)) (by rw [hsz];exact Nat.le_succ _) (by rw [hsz];omega) (by rw [BN];omega) (.inr (Am _)) ?_ (fun _ _=>p)
   exact .drawn hb hs ⟨Q0 a (.ref s.heap.objs.size) 0 es.size ep,AW _ rfl,rfl,rfl⟩ _ _ (AB _ gT) rfl p
theorem Z0 (xs:Array Nat) (h:xs.size≤1):SetTable.below xs 0=0:=by
 unfold SetTable.below
 match hx:xs.size with
 |0=>rfl
 |1=>simp [SetTable.below.go]
 |n+2=>omega
theorem Z1 (xs:Array Nat) (h:xs.size≤1):SetTable.below xs (xs.getD 0 0+1)=xs.size:=by
 unfold SetTable.below
 match hx:xs.size with
 |0=>rfl
 |1=>
  have e:xs.getD 0 (xs.getD 0 0+1)=xs.getD 0 0:=by simp [Array.getD,hx]
  have e2:xs[0]?.getD (xs[0]?.getD 0+1)=xs[0]?.getD 0:=by simpa using e
  simp [SetTable.below.go]
  rw [e2];omega
 |n+2=>omega
theorem Q2 {a:Addr} {es:Array (Int×Value)} {ep:Nat} {t:SetTable} {pl:List Nat} {i:Nat} {Q:Option (Value×Nat)→Shared→Prop} (x:SetE w s.heap a es ep t) (hb:BY w=true)
 (h:Q (((BU w a ep es pl)[i]?).map fun e=>(e.2,0)) s):wpAny (model prog w) A (setNext a 0 i ep) Q E s:=by
 obtain ⟨o,g,c,d,f,led,_⟩:=x
 unfold setNext setsByText
 refine wpAny_bind (wpAny_setState_of g d f ?_)
 try dsimp only
 refine wpAny_bind (wpAny_bind (wpAny_askSetting (wpAny_pure ?_)))
 show wpAny _ _ (if BY w=true then _ else _) _ _ _
 rw [if_pos hb]
 simp only [bne_self_eq_false,Bc,↓reduceIte]
 refine wpAny_bind ?_
 unfold setWalk setsByText
 refine wpAny_bind (wpAny_setState_of g d f ?_)
 try dsimp only
 refine wpAny_bind (wpAny_bind (wpAny_askSetting (wpAny_pure ?_)))
 show wpAny _ _ (if BY w=true then _ else _) _ _ _
 rw [if_pos hb]
 refine wpAny_bind (wpAny_askSetting ?_)
 refine wpAny_pure ?_
 refine wpAny_pure ?_
 unfold BU at h
 rw [if_pos hb] at h
 rw [←Array.getElem?_toList]
 exact h
theorem Q3 {a:Addr} {es:Array (Int×Value)} {ep:Nat} {t:SetTable} {pl:List Nat} {i:Nat} {Q:Option (Value×Nat)→Shared→Prop} (x:SetE w s.heap a es ep t) (hb:BY w=false) (hs:es.size≤1) (hi:i≤es.size)
 (h:Q (((BU w a ep es pl)[i]?).map fun e=>(e.2,Fi t (i+1))) s):wpAny (model prog w) A (setNext a (Fi t i) i ep) Q E s:=by
 obtain ⟨o,g,c,d,f,led,_⟩:=x
 have hz:t.place.size=es.size:=by
  simp only [SetTable.fits,Bf,beq_iff_eq,decide_eq_true_eq] at f
  exact f.1
 unfold setNext setsByText
 refine wpAny_bind (wpAny_setState_of g d f ?_)
 try dsimp only
 refine wpAny_bind (wpAny_bind (wpAny_askSetting (wpAny_pure ?_)))
 show wpAny _ _ (if BY w=true then _ else _) _ _ _
 rw [if_neg (by rw [hb];simp)]
 show wpAny _ _ (if (!t.plain&&decide (es.size>1))=true then _ else _) _ _ _
 rw [if_neg (by simp;intro _;omega)]
 refine wpAny_bind (m:=_) (wpAny_of_eq (a:=PUnit.unit) ?_ ?_)
 ·show (if (!t.led&&!es.isEmpty)=true then _ else _)=_
  rw [led,ZY hb];rfl
 refine wpAny_pure ?_
 unfold BU at h
 rw [if_neg (by rw [hb];simp),if_pos hs,Array.getElem?_toList] at h
 have hbel:SetTable.below t.place (Fi t i)=i:=by
  match i,hi with
  |0,_=>exact Z0 _ (by omega)
  |i+1,hi=>
   have e:i=0:=by omega
   subst e
   show SetTable.below t.place (t.place.getD 0 0+1)=1
   rw [Z1 _ (by omega)];omega
 rw [hbel]
 by_cases hlt:i<es.size
 ·have h1:es[i]?=some es[i]:=Array.getElem?_eq_getElem hlt
  have h2:t.place[i]?=some t.place[i]:=Array.getElem?_eq_getElem (by omega)
  rw [h1] at h ⊢
  rw [h2]
  have e3:Fi t (i+1)=t.place[i]+1:=by
   have e:i=0:=by omega
   subst e
   show t.place.getD 0 0+1=_
   simp [Array.getD,hz,hlt]
  simp only [Fz,e3] at h
  exact h
 ·have h1:es[i]?=none:=Array.getElem?_eq_none (by omega)
  rw [h1] at h ⊢
  exact h
end
section
variable {prog:Program} {w:World} {A:Around} {E:Value→Shared→Prop} {s:Shared}
theorem Z2 {a:Addr} {es:Array (Int×Value)} {ep:Nat} {pl:List Nat} (hb:BY w=false) (hs:1<es.size) (p:pl.Perm (List.range es.size)) (i:Nat):(BU w a ep es pl)[i]?=(pl[i]?).bind (es[·]?):=by
 unfold BU
 rw [if_neg (by rw [hb];simp),if_neg (by omega)]
 exact Q1 es pl (fun k hk=>by have:=p.mem_iff.mp hk;simpa using this) i
theorem Z3 {I a T:Addr} {es:Array (Int×Value)} {ep i:Nat} {t:SetTable} {pl:List Nat} {e:Int×Value} {Q:Option Value→Shared→Prop} (x:SetE w s.heap a es ep t)
 (y:ItS w s.heap I a T es ep t pl i) (hTI:T≠I) (hi:i<es.size) (he:(BU w a ep es pl)[i]?=some e)
 (h:∀h',ItS w h' I a T es ep t pl (i+1)→Heap.SameBut I s.heap h'→Q (some e.2) {s with heap:=h'}):
 wpAny (model prog w) A (pyNext (.ref I)) Q E s:=by
 have ty:=y.ty
 have hx:=x
 obtain ⟨o',g',c',d',f',_,_⟩:=id x
 cases y with
 |text hb y=>
  obtain ⟨o,ho,hc,hd⟩:=id y
  unfold pyNext
  refine wpAny_bind (wpAny_attempt (wpAny_callSpecial?_slot (name:=Str.ofString "__next__") ty slot_next (wpAny_call_entry slot_next ty Gh ?_ (Gi _))))
  unfold Builtin.«set_iterator.__next__»
  refine wpAny_bind (m:=slotArgs "__next__" 0 _) (wpAny_pure ?_)
  refine wpAny_bind (wpAny_fieldsOf ho hd ?_)
  try dsimp only
  refine wpAny_bind (wpAny_setEntries_of g' d' f' ?_)
  simp only [bne_self_eq_false,Bc,↓reduceIte,Eg]
  refine wpAny_bind (Q2 (pl:=pl) hx hb ?_)
  rw [he]
  show wpAny _ _ _ _ _ _
  refine wpAny_bind (wpAny_setField ho hd (by simp) ?_)
  have g1:=Di (Obj.mapFields (·.setIfInBounds 0 (rawInt ((0:Nat):Int)))) ho (Obj.isFreed_of_fields (Obj.data_mapFields hd _))
  have d1:=Obj.data_mapFields hd (·.setIfInBounds 0 (rawInt ((0:Nat):Int)))
  refine wpAny_bind (wpAny_setField g1 d1 (by simp) ?_)
  have g2:=Di (Obj.mapFields (·.setIfInBounds 1 (rawInt ((i:Int)+1)))) g1 (Obj.isFreed_of_fields (Obj.data_mapFields d1 _))
  refine wpAny_pure ⟨_,rfl,wpAny_pure (h _ (.text hb ⟨_,g2,?_,?_⟩) ((Heap.SameBut.update ..).trans (Heap.SameBut.update ..)))⟩
  ·exact (Obj.cls_mapFields ..).trans ((Obj.cls_mapFields ..).trans hc)
  ·rw [Obj.data_mapFields d1];simp [rawInt]
 |small hb hs y=>
  obtain ⟨o,ho,hc,hd⟩:=id y
  unfold pyNext
  refine wpAny_bind (wpAny_attempt (wpAny_callSpecial?_slot (name:=Str.ofString "__next__") ty slot_next (wpAny_call_entry slot_next ty Gh ?_ (Gi _))))
  unfold Builtin.«set_iterator.__next__»
  refine wpAny_bind (m:=slotArgs "__next__" 0 _) (wpAny_pure ?_)
  refine wpAny_bind (wpAny_fieldsOf ho hd ?_)
  try dsimp only
  refine wpAny_bind (wpAny_setEntries_of g' d' f' ?_)
  simp only [bne_self_eq_false,Bc,↓reduceIte,Eg]
  refine wpAny_bind (Q3 (pl:=pl) hx hb hs (DR hi) ?_)
  rw [he]
  show wpAny _ _ _ _ _ _
  refine wpAny_bind (wpAny_setField ho hd (by simp) ?_)
  have g1:=Di (Obj.mapFields (·.setIfInBounds 0 (rawInt ((Fi t (i+1):Nat):Int)))) ho (Obj.isFreed_of_fields (Obj.data_mapFields hd _))
  have d1:=Obj.data_mapFields hd (·.setIfInBounds 0 (rawInt ((Fi t (i+1):Nat):Int)))
  refine wpAny_bind (wpAny_setField g1 d1 (by simp) ?_)
  have g2:=Di (Obj.mapFields (·.setIfInBounds 1 (rawInt ((i:Int)+1)))) g1 (Obj.isFreed_of_fields (Obj.data_mapFields d1 _))
  refine wpAny_pure ⟨_,rfl,wpAny_pure (h _ (.small hb hs ⟨_,g2,?_,?_⟩) ((Heap.SameBut.update ..).trans (Heap.SameBut.update ..)))⟩
  ·exact (Obj.cls_mapFields ..).trans ((Obj.cls_mapFields ..).trans hc)
  ·rw [Obj.data_mapFields d1];simp [rawInt]
 |drawn hb hs y oT nT gT dT p=>
  obtain ⟨o,ho,hc,hd⟩:=id y
  rw [Z2 hb hs p] at he
  obtain ⟨k,hk,he⟩:=Option.bind_eq_some_iff.mp he
  have hp:(pl.map fun (k:Nat)=>rawInt (k:Int)).toArray[i]?=some (rawInt (k:Int)):=by simp [hk]
  unfold pyNext
  refine wpAny_bind (wpAny_attempt (wpAny_callSpecial?_slot (name:=Str.ofString "__next__") ty slot_next (wpAny_call_entry slot_next ty Gh ?_ (Gi _))))
  unfold Builtin.«set_iterator.__next__»
  refine wpAny_bind (m:=slotArgs "__next__" 0 _) (wpAny_pure ?_)
  refine wpAny_bind (wpAny_fieldsOf ho hd ?_)
  try dsimp only
  refine wpAny_bind (wpAny_setEntries_of g' d' f' ?_)
  simp only [bne_self_eq_false,Bc,↓reduceIte,Eg]
  refine wpAny_bind (wpAny_seqItems gT dT ?_)
  try dsimp only
  rw [hp]
  show wpAny _ _ (setNextDrawn a (k:Int).toNat ep >>=_) _ _ _
  unfold setNextDrawn
  refine wpAny_bind (wpAny_bind (wpAny_setState_of g' d' f' ?_))
  try dsimp only
  simp only [bne_self_eq_false,Bc,↓reduceIte,Eg]
  rw [he]
  refine wpAny_pure ?_
  refine wpAny_bind (wpAny_setField ho hd (by simp) ?_)
  have g1:=Di (Obj.mapFields (·.setIfInBounds 1 (rawInt ((i:Int)+1)))) ho (Obj.isFreed_of_fields (Obj.data_mapFields hd _))
  refine wpAny_pure ⟨_,rfl,wpAny_pure (h _ (.drawn hb hs ⟨_,g1,?_,?_⟩ oT nT ((Fv _ _ (Ne.symm hTI)).trans gT) dT p) (Heap.SameBut.update ..))⟩
  ·exact (Obj.cls_mapFields ..).trans hc
  ·rw [Obj.data_mapFields hd];simp [rawInt]
theorem Z4 {I a T:Addr} {es:Array (Int×Value)} {ep:Nat} {t:SetTable} {pl:List Nat} {Q:Option Value→Shared→Prop} (hh:A.handled=none) (x:SetE w s.heap a es ep t)
 (y:ItS w s.heap I a T es ep t pl es.size) (hper:(BU w a ep es pl).Perm es.toList)
 (h:∀h',Heap.ExtBut I s.heap h'→Q none {s with heap:=h'}):
 wpAny (model prog w) A (pyNext (.ref I)) Q E s:=by
 have ty:=y.ty
 have hx:=x
 have hnone:(BU w a ep es pl)[es.size]?=none:=by
  rw [List.getElem?_eq_none_iff,hper.length_eq];simp
 obtain ⟨o',g',c',d',f',_,_⟩:=id x
 cases y with
 |text hb y=>
  obtain ⟨o,ho,hc,hd⟩:=id y
  unfold pyNext
  refine wpAny_bind (wpAny_attempt (wpAny_callSpecial?_slot (name:=Str.ofString "__next__") ty slot_next (wpAny_call_entry slot_next ty Gh ?_ (Gi _))))
  unfold Builtin.«set_iterator.__next__»
  refine wpAny_bind (m:=slotArgs "__next__" 0 _) (wpAny_pure ?_)
  refine wpAny_bind (wpAny_fieldsOf ho hd ?_)
  try dsimp only
  refine wpAny_bind (wpAny_setEntries_of g' d' f' ?_)
  simp only [bne_self_eq_false,Bc,↓reduceIte,Eg]
  refine wpAny_bind (Q2 (pl:=pl) hx hb ?_)
  rw [hnone]
  show wpAny _ _ _ _ _ _
  refine wpAny_bind (wpAny_setField ho hd (by simp) ?_)
  show wpAny _ _ (newExc (.type "StopIteration") [] >>=_) _ _ _
  refine wpAny_bind ?_
  simp only [newExc,newTuple]
  refine wpAny_bind (wpAny_newObj_type ?_ (by size_fits))
  refine wpAny_bind (m:=firstArgMember _ _) (wpAny_of_eq (a:=Value.none) (by first |rfl |(simp only [firstArgMember];rfl)) ?_)
  refine wpAny_newObj_type ?_ (by size_fits)
  simp only [raiseNew]
  refine wpAny_bind (wpAny_handled ?_)
  rw [show A.in1.handled=none from hh]
  refine wpAny_bind (wpAny_pure (wpAny_throw ?_))
  refine wpAny_bind (wpAny_isInstance (T:="StopIteration") (b:=true) ⟨_,AW _ rfl,rfl⟩ isSubtype_stop ?_)
  exact wpAny_pure (h _ (((Heap.SameBut.update ..).extBut.push _).push _))
 |small hb hs y=>
  obtain ⟨o,ho,hc,hd⟩:=id y
  unfold pyNext
  refine wpAny_bind (wpAny_attempt (wpAny_callSpecial?_slot (name:=Str.ofString "__next__") ty slot_next (wpAny_call_entry slot_next ty Gh ?_ (Gi _))))
  unfold Builtin.«set_iterator.__next__»
  refine wpAny_bind (m:=slotArgs "__next__" 0 _) (wpAny_pure ?_)
  refine wpAny_bind (wpAny_fieldsOf ho hd ?_)
  try dsimp only
  refine wpAny_bind (wpAny_setEntries_of g' d' f' ?_)
  simp only [bne_self_eq_false,Bc,↓reduceIte,Eg]
  refine wpAny_bind (Q3 (pl:=pl) hx hb hs (Am _) ?_)
  rw [hnone]
  show wpAny _ _ _ _ _ _
  refine wpAny_bind (wpAny_setField ho hd (by simp) ?_)
  show wpAny _ _ (newExc (.type "StopIteration") [] >>=_) _ _ _
  refine wpAny_bind ?_
  simp only [newExc,newTuple]
  refine wpAny_bind (wpAny_newObj_type ?_ (by size_fits))
  refine wpAny_bind (m:=firstArgMember _ _) (wpAny_of_eq (a:=Value.none) (by first |rfl |(simp only [firstArgMember];rfl)) ?_)
  refine wpAny_newObj_type ?_ (by size_fits)
  simp only [raiseNew]
  refine wpAny_bind (wpAny_handled ?_)
  rw [show A.in1.handled=none from hh]
  refine wpAny_bind (wpAny_pure (wpAny_throw ?_))
  refine wpAny_bind (wpAny_isInstance (T:="StopIteration") (b:=true) ⟨_,AW _ rfl,rfl⟩ isSubtype_stop ?_)
  exact wpAny_pure (h _ (((Heap.SameBut.update ..).extBut.push _).push _))
 |drawn hb hs y oT nT gT dT p=>
  obtain ⟨o,ho,hc,hd⟩:=id y
  have hp:(pl.map fun (k:Nat)=>rawInt (k:Int)).toArray[es.size]?=none:=by
   have:=p.length_eq
   simp at this
   simp [this]
  unfold pyNext
  refine wpAny_bind (wpAny_attempt (wpAny_callSpecial?_slot (name:=Str.ofString "__next__") ty slot_next (wpAny_call_entry slot_next ty Gh ?_ (Gi _))))
  unfold Builtin.«set_iterator.__next__»
  refine wpAny_bind (m:=slotArgs "__next__" 0 _) (wpAny_pure ?_)
  refine wpAny_bind (wpAny_fieldsOf ho hd ?_)
  try dsimp only
  refine wpAny_bind (wpAny_setEntries_of g' d' f' ?_)
  simp only [bne_self_eq_false,Bc,↓reduceIte,Eg]
  refine wpAny_bind (wpAny_seqItems gT dT ?_)
  try dsimp only
  rw [hp]
  show wpAny _ _ _ _ _ _
  refine wpAny_bind (wpAny_setField ho hd (by simp) ?_)
  have g1:=Di (Obj.mapFields (·.setIfInBounds 0 (rawInt (0:Int)))) ho (Obj.isFreed_of_fields (Obj.data_mapFields hd _))
  have d1:=Obj.data_mapFields hd (·.setIfInBounds 0 (rawInt (0:Int)))
  refine wpAny_bind (wpAny_setField g1 d1 (by simp) ?_)
  show wpAny _ _ (newExc (.type "StopIteration") [] >>=_) _ _ _
  refine wpAny_bind ?_
  simp only [newExc,newTuple]
  refine wpAny_bind (wpAny_newObj_type ?_ (by size_fits))
  refine wpAny_bind (m:=firstArgMember _ _) (wpAny_of_eq (a:=Value.none) (by first |rfl |(simp only [firstArgMember];rfl)) ?_)
  refine wpAny_newObj_type ?_ (by size_fits)
  simp only [raiseNew]
  refine wpAny_bind (wpAny_handled ?_)
  rw [show A.in1.handled=none from hh]
  refine wpAny_bind (wpAny_pure (wpAny_throw ?_))
  refine wpAny_bind (wpAny_isInstance (T:="StopIteration") (b:=true) ⟨_,AW _ rfl,rfl⟩ isSubtype_stop ?_)
  exact wpAny_pure (h _ ((((Heap.SameBut.update ..).trans (Heap.SameBut.update ..)).extBut.push _).push _))
theorem Z5 {I:Addr} {Q:Value→Shared→Prop} (ty:s.TypeIs (.ref I) "set_iterator") (h:Q (.ref I) s):wpAny (model prog w) A (pyIter (.ref I)) Q E s:=by
 refine wpAny_pyIter_slot ty QX (wpAny_call_entry QX ty ZU ?_ (ZV _))
 show wpAny _ _ (ret (.ref I)) _ _ s
 exact wpAny_pure ⟨_,rfl,"set_iterator",_,ty,slot_next.lookup,h⟩
theorem Z6 (hh:A.handled=none) (I a T:Addr) (hne:a≠I) (hTI:T≠I) (es:Array (Int×Value)) (ep:Nat) (t:SetTable) (pl:List Nat) (hper:(BU w a ep es pl).Perm es.toList):
 Walks prog w A I [I,a,T] [I] es.size (fun i v=>∃e,(BU w a ep es pl)[i]?=some e∧v=e.2) (fun i h=>ItS w h I a T es ep t pl i∧SetE w h a es ep t) where
 sub:=fun b hb=>by simp at hb;simp [hb]
 frame:=fun _ _ _ st hk=>⟨st.1.at (fun o e=>hk I (by simp) o e) (fun o e=>hk T (by simp) o e),st.2.at fun o e=>hk a (by simp) o e⟩
 item:=fun i s Q E hi st hQ=>by
  have hz:(BU w a ep es pl).length=es.size:=by rw [hper.length_eq];simp
  obtain ⟨e,he⟩:∃e,(BU w a ep es pl)[i]?=some e:=⟨(BU w a ep es pl)[i]'(by omega),by simp [hz,hi]⟩
  refine Z3 st.2 st.1 hTI hi he fun h' hit' hs'=>?_
  exact hQ e.2 h' s.toks ⟨e,he,rfl⟩ ⟨hit',st.2.at fun o e=>hs'.extBut a o hne e⟩ fun b o hb e=>hs'.extBut b o (fun h=>hb (by simp [h])) e
 done:=fun s Q E st hQ=>Z4 hh st.2 st.1 hper fun h' he'=>hQ h' s.toks fun b o hb e=>he' b o (fun h=>hb (by simp [h])) e
 self:=fun _ _ _ _ st hQ=>Z5 st.1.ty hQ
end
section
variable {prog:Program} {w:World} {A:Around} {E:Value→Shared→Prop} {s:Shared}
theorem Z7 {a:Addr} {es:Array (Int×Value)} {ep:Nat} {t:SetTable} {Q:List Value→Shared→Prop} (hh:A.handled=none) (x:SetE w s.heap a es ep t) (hz:es.size≤1000)
 (h:∀h' d tk out,(∀b o,s.heap.get? b=some o→h'.get? b=some o)→out.Perm (es.toList.map (·.2))→s.heap.objs.size≤h'.objs.size→Q out {s with heap:=h',drawn:=d,toks:=tk}):
 wpAny (model prog w) A (collect (.ref a)) Q E s:=by
 have halt:a<s.heap.objs.size:=by obtain ⟨o,g,_⟩:=x;exact Ax g
 unfold collect
 refine wpAny_bind (wpAny_runValue (codeAny_builtin F.entry_proto_collect ?_))
 rw [Around.under_plainId F.plain_proto_collect _]
 show wpAny _ A.in1 (newList [] >>=fun l=>again (.builtin "list.__iadd__" ⟨[l,.ref a],[]⟩)) _ _ s
 refine wpAny_bind (wpAny_newObj_type ?_)
 refine wpAny_pure ⟨plainId_quiet F.plain_list_iadd _,codeAny_builtin F.entry_list_iadd ?_⟩
 rw [Around.under_plainId F.plain_list_iadd _]
 show wpAny _ A.in1 (Builtin.List.listExtendWith (.ref s.heap.objs.size) (.ref a) (.ref s.heap.objs.size)) _ _ _
 generalize hH1:s.heap.push {cls:=.type "list",data:=.seq ([]:List Value).toArray}=H1
 have k1:∀b o,s.heap.get? b=some o→H1.get? b=some o:=fun b o e=>by rw [←hH1];exact AB _ e
 have z1:H1.objs.size=s.heap.objs.size+1:=by rw [←hH1,BN]
 have gL:H1.get? s.heap.objs.size=some {cls:=.type "list",data:=.seq ([]:List Value).toArray}:=by rw [←hH1];exact AW _ rfl
 have x1:SetE w H1 a es ep t:=x.at fun o e=>k1 _ _ e
 unfold Builtin.List.listExtendWith
 have hT1:Shared.TypeIs {s with heap:=H1} (.ref a) "set":=x1.ty (s:={s with heap:=H1})
 refine wpAny_bind (wpAny_typeOf hT1 ?_)
 have h1:Builtin.List.listSameRef (.ref s.heap.objs.size) (.ref a)=false:=by
  simp only [Builtin.List.listSameRef,beq_eq_false_iff_ne,ne_eq];exact Eh halt
 have h2:(Value.type "set"==Value.type "list")=false:=by decide
 have h3:(Value.type "set"==Value.type "tuple")=false:=by decide
 simp only [h1,h2,h3,GG,Bc,if_false]
 refine wpAny_bind (ZZ (s:={s with heap:=H1}) x1 hz fun H2 dw I T pl k2 hI hIT hIl hTw it0 hpl=>?_)
 have k2:∀b o,H1.get? b=some o→H2.get? b=some o:=k2
 have hI:s.heap.objs.size+1≤I:=by rw [←z1];exact hI
 have hTS:T≠s.heap.objs.size:=by
  rcases hTw with e |e
  ·rw [e];exact Bd halt
  ·have e:H1.objs.size≤T:=e
   omega
 have x2:SetE w H2 a es ep t:=x1.at fun o e=>k2 _ _ e
 have hT2:Shared.TypeIs {s with heap:=H2,drawn:=dw} (.ref a) "set":=x2.ty (s:={s with heap:=H2,drawn:=dw})
 refine wpAny_bind (wpAny_holding ?_)
 unfold Builtin.List.listLengthHint
 refine wpAny_bind (wpAny_specialOf hT2 F.slot_set_len.lookup ?_)
 try dsimp only
 have hsp:splitId "set.__len__"=some ("set","__len__"):=by kernel_rfl
 rw [hsp]
 try dsimp only
 refine wpAny_bind (wpAny_isInstance hT2 sub_set_self ?_)
 simp only [DQ,Bc,↓reduceIte]
 rw [if_pos (by decide +kernel)]
 refine wpAny_bind (wpAny_typeOf hT2 ?_)
 try dsimp only
 refine wpAny_pure ?_
 rw [if_pos (by decide +kernel)]
 refine wpAny_bind (wpAny_rule ?_)
 have gL2:=k2 _ _ gL
 refine wpAny_bind ?_
 show wpAny _ A.in1 (updateSeq s.heap.objs.size (·.push .none) >>=fun _=>updateSeq s.heap.objs.size (·.pop)) _ _ _
 refine wpAny_bind (wpAny_updateSeq gL2 rfl ?_)
 have hS₂:=Di (Obj.mapSeq (·.push Value.none)) gL2 rfl
 refine wpAny_updateSeq hS₂ rfl ?_
 have hS₃:=Di (Obj.mapSeq (·.pop)) hS₂ rfl
 have oth:∀b o,b≠s.heap.objs.size→H2.get? b=some o→
  ((H2.update s.heap.objs.size (Obj.mapSeq (·.push Value.none))).update s.heap.objs.size (Obj.mapSeq (·.pop))).get? b=some o:=
  fun b o hb e=>(Fv _ _ (Ne.symm hb)).trans ((Fv _ _ (Ne.symm hb)).trans e)
 have zI:s.heap.objs.size<I:=by omega
 have hSf:s.heap.objs.size∉[I,a,T]:=by
  simp only [qa4,EL,or_false,not_or]
  exact ⟨Bd zI,Eh halt,Ne.symm hTS⟩
 have hper:=ZX (w:=w) (a:=a) (ep:=ep) (es:=es) (pl:=pl) hpl
 have W:=(Z6 (prog:=prog) (w:=w) (A:=A.in1) hh I a T (Bd (Nat.lt_trans halt zI)) (Ne.symm hIT) es ep t pl hper).toS
 have hn:es.size≤sizeLine:=by rw [sizeLine_eq];omega
 have st:ItS w ((H2.update s.heap.objs.size (Obj.mapSeq (·.push Value.none))).update s.heap.objs.size (Obj.mapSeq (·.pop))) I a T es ep t pl 0∧
  SetE w ((H2.update s.heap.objs.size (Obj.mapSeq (·.push Value.none))).update s.heap.objs.size (Obj.mapSeq (·.pop))) a es ep t:=
  ⟨it0.at (fun o e=>oth _ _ (Eh zI) e) (fun o e=>oth _ _ hTS e),x2.at fun o e=>oth _ _ (Bd halt) e⟩
 refine wpAny_pure ⟨plainId_quiet F.plain_extend_loop _,codeAny_extend_loopS W hn _ hSf _ es.size 0 _ _ _ rfl (B2 _) st hS₃ (ItemsOf.nil _) fun s' acc' c' hm hS' hacc=>?_⟩
 obtain ⟨h',g',d',tk',os'⟩:=s'
 have eg:g'=s.gens:=hm.gens
 have ed:d'=dw:=hm.drawn
 have eo:os'=s.os:=hm.os
 subst eg;subst ed;subst eo
 show wpAny _ A (load s.heap.objs.size >>=_) _ _ _
 refine wpAny_bind (wpAny_load hS' ?_)
 have keep:∀b o,s.heap.get? b=some o→h'.get? b=some o:=fun b o e=>by
  have hb:=Ax e
  refine hm.heap b o ?_ (oth b o (Bd hb) (k2 _ _ (k1 _ _ e)))
  simp only [qa4,EL,or_false,not_or]
  exact ⟨Bd hb,Bd (Nat.lt_trans hb zI)⟩
 have hzo:(BU w a ep es pl).length=es.size:=by rw [hper.length_eq];simp
 have hout:acc'.toList=(BU w a ep es pl).map (·.2):=by
  apply List.ext_getElem?
  intro i
  rw [Array.getElem?_toList,B0]
  by_cases hi:i<es.size
  ·have hai:acc'[i]?=some (acc'[i]'(by rw [hacc.1];exact hi)):=Array.getElem?_eq_getElem _
   obtain ⟨e,he,ev⟩:=hacc.2 i _ hai
   rw [hai,he,ev];rfl
  ·rw [Array.getElem?_eq_none (by rw [hacc.1];omega),List.getElem?_eq_none (by omega)];rfl
 exact wpAny_pure (h h' d' tk' acc'.toList keep (by rw [hout];exact hper.map _) (DR (Ax hS')))
theorem sorted_at {a:Addr} {es:Array (Int×Value)} {ep:Nat} {t:SetTable} {Q:Value→Shared→Prop} (hh:A.handled=none) (x:SetE w s.heap a es ep t) (hz:es.size<64) {ss:List Str} (hs:StrsAre (es.toList.map (·.2)) ss)
 (h:∀h' d tk L vs' ss' e,(∀b o,s.heap.get? b=some o→h'.get? b=some o)→s.heap.objs.size≤L→h'.get? L=some (seqObj "list" vs'.toArray e)→StrsAre vs' ss'→ss'.Perm ss→sortedS ss'=true→Q (.ref L) {s with heap:=h',drawn:=d,toks:=tk}):
 wpAny (model prog w) A (call (.builtin "sorted") [.ref a]) Q E s:=by
 refine Calls.call_function_entry kind_sorted plain_sorted entry_sorted (args_sorted1 _) ?_
 unfold Builtin.«sorted»
 refine wpAny_bind (m:=checkCount "sorted" 1 1 _) (wpAny_pure ?_)
 refine wpAny_bind (Z7 (A:=A.in1) hh x (by omega) fun h1 d tk out k1 po z1=>?_)
 have hO:StrsAre out (out.map strOf):=strsAre_map out fun v hv=>hs.all v (po.mem_iff.mp hv)
 have hOp:(out.map strOf).Perm ss:=by rw [←hs.strs];exact po.map _
 have h64:out.length<64:=by
  rw [po.length_eq,Bo,Array.length_toList];exact hz
 refine wpAny_bind (wpAny_newList ?_)
 have hoL:(h1.push (seqObj "list" out.toArray 0)).get? h1.objs.size=some (seqObj "list" out.toArray 0):=AW _ rfl
 show wpAny _ _ _ _ _ {s with heap:=h1.push (seqObj "list" out.toArray 0),drawn:=d,toks:=tk}
 refine wpAny_bind (wpAny_holding (wpAny_call_entry slot_list_sort ⟨_,hoL,rfl⟩ entry_list_sort (list_sort_treeK (κ:=PyProof.Rows.strKind) strKind_oneLt hoL hO.keysOf (fun v₁ v₂ rest e=>keyKind_strs (by rw [←e];exact hO)) h64 fun st' a1 a2=>⟨_,rfl,?_⟩) (args_list_sort _)))
 obtain ⟨ss',b1,b2,b3⟩:=sorted_out_str hO a1 a2
 obtain ⟨e,ge⟩:=sortedHeap_at (out:=(arrOf st').map (·.2)) hoL
 refine wpAny_pure ⟨_,rfl,h _ d tk h1.objs.size ((arrOf st').map (·.2)).toList ss' e (fun b o eb=>?_) z1 (by rw [Array.toArray_toList];exact ge) b1 (b2.trans hOp) b3⟩
 have e1:=k1 _ _ eb
 have hlt:=Ax e1
 rw [sortedHeap_old (Bd hlt) (by rw [BN];exact HC hlt)]
 exact AB _ e1
end
end SetW
namespace LS
open PySem PySem.Spec PyProof.Rows L2 PySem.W
theorem Mv {α:Type} [DecidableEq α]:∀{l l':List α},l.Nodup→(∀x∈l,x∈l')→l'.length≤l.length→l.Perm l'
 |[],l',_,_,h=>by
  have:l'=[]:=qbF.mp (by simpa using h)
  subst this;exact .refl _
 |x::l,l',nd,hs,hl=>by
  rw [qbC] at nd
  have hx:=hs x (.head _)
  refine (List.Perm.cons x (Mv (l':=l'.erase x) nd.2 (fun y hy=>?_) ?_)).trans (List.perm_cons_erase hx).symm
  ·have hne:y≠x:=fun e=>nd.1 (e ▸ hy)
   exact (List.mem_erase_of_ne hne).mpr (hs y (.tail _ hy))
  ·rw [List.length_erase_of_mem hx]
   simp only [DO] at hl
   omega
def sg (c:Nat):Str:=⟨#[c]⟩
theorem Z8 {a b:Nat} (h:sg a=sg b):a=b:=by
 unfold sg at h
 simpa using h
def Fj (w:World) (a:Addr) (ss:List Str) (h:Heap):Prop:=∃es ep t,SetW.SetE w h a es ep t∧es.size<64∧∃ss',StrsAre (es.toList.map (·.2)) ss'∧ss'.Perm ss
theorem Q4:∀(l:List Str) {us:List Value},Vals (l.map V.str) us→StrsAre us l
 |[],_,h=>by cases h;exact .nil
 |k::l,_,h=>by
  cases h with
  |cons r t=>
   obtain ⟨tk,e⟩:=r
   subst e
   exact .cons _ _ (Q4 l t)
theorem Q5:∀{l:List Str} {us:List Value},StrsAre us l→Vals (l.map V.str) us
 |_,_,.nil=>.nil
 |_,_,.cons x t r=>.cons ⟨t,rfl⟩ (Q5 r)
theorem Z9 {prog:Program} {w:World} {h:Heap} {a:Addr} {σ:List Str} (nd:σ.Nodup) (h64:σ.length<64) (x:h.SetW (PySem.strKind prog w) a (SetW.ledW w) (fun k=>decide (k∈σ)) σ.length):Fj w a σ h:=by
 obtain ⟨o,es,ep,t,g,c,d,el,mem,_,f,n,T⟩:=x
 refine ⟨es,ep,t,⟨o,g,c.1,d,f,T.1,by rw [n];exact T.2⟩,by omega,(es.toList.map (·.2)).map strOf,strsAre_map _ fun v hv=>?_,?_⟩
 ·obtain ⟨e,he,rfl⟩:=qaU.mp hv
  obtain ⟨⟨k,hk,_⟩,_⟩:=el e he
  obtain ⟨t,ht⟩:=Value.isStrOf_shape (show Value.isStrOf k e.2=true from hk)
  exact ⟨k,t,ht⟩
 ·refine (Mv nd (fun k hk=>?_) ?_).symm
  ·obtain ⟨e,he,hke⟩:=(mem k).mp (by simpa using hk)
   obtain ⟨t,ht⟩:=Value.isStrOf_shape (show Value.isStrOf k e.2=true from hke)
   rw [CN]
   refine qaU.mpr ⟨e,he,?_⟩
   show strOf e.2=k
   rw [ht];rfl
  ·simp [n]
theorem Inv.drew {X:Cx} {pins:List (Addr×Obj)} {σ:L2.St} {H:Hp} {s:Shared} (d:Drawn) (I:Inv X pins σ H s):Inv X pins σ H {s with drawn:=d}:=
 ⟨I.ok,I.os,I.bare,I.base,I.loc,I.cell,I.free,I.freeC,I.pin,I.hok,I.len⟩
section
variable {X:Cx} {E:XK}
inductive Q6 (vs:List V) (H:Hp) (Q:VK):Prop where
 |mk (x:Str) (e:vs=[.str x]) (hz:x.cps.size≤100000) (q:∀p,H p=none→Q (.ref p) (Ah H p (.lst (x.cps.toList.map fun c=>V.str (sg c))))):Q6 vs H Q
inductive Q7 (w:World) (K:Frag) (vs:List V) (H:Hp) (Q:VK):Prop where
 |mk (r:Addr) (l:List Str) (e:vs=[.ref r]) (hr:SqL K H r (l.map V.str)) (hl:l.length≤1000) (σ:List Str) (nd:σ.Nodup) (h64:σ.length<64) (hm:∀k,k∈σ↔k∈l)
  (q:∀p,H p=none→Q (.ref p) (Ah H p (.ext (Fj w p σ)))):Q7 w K vs H Q
inductive Q8 (w:World) (vs:List V) (H:Hp) (Q:VK):Prop where
 |mk (r:Addr) (σ:List Str) (e:vs=[.ref r]) (hr:H r=some (.ext (Fj w r σ)))
  (q:∀p ss,ss.Perm σ→sortedS ss=true→H p=none→Q (.ref p) (Ah H p (.lst (ss.map V.str)))):Q8 w vs H Q
theorem Zaa (hc:X.calm=true):B3 X (.type "list") Q6:=by
 intro pins s σ H vs us Q I r h
 obtain ⟨x,rfl,hz,q⟩:=h
 obtain ⟨u,rfl,rx⟩:=Cy r
 obtain ⟨t,rfl⟩:=rx
 refine call_list_str (I.ok.hd hc) x t (fun h' tk acc c' kp g hacc=>?_) (by rw [sizeLine_eq];omega)
 have hf:H s.heap.objs.size=none:=I.hok.fresh (Am _)
 refine ⟨.ref s.heap.objs.size,Ah H s.heap.objs.size (.lst (x.cps.toList.map fun c=>V.str (sg c))),I.laid (t':=tk) kp (Am _) ?_,rfl,q _ hf⟩
 refine (show ObjOk X.prog X.w _ h' _ (.lst (x.cps.toList.map fun c=>V.str (sg c))) from ⟨by rw [Bo,Array.length_toList,sizeLine_eq];omega,acc.toList,c',?_,by simpa using g⟩)
 have key:∀(l:List Nat) (us:List Value),us.length=l.length→(∀(i:Nat) v,us[i]?=some v→∃c u,l[i]?=some c∧v=Value.str ⟨#[c]⟩ u)→Vals (l.map fun c=>V.str (sg c)) us:=by
  intro l
  induction l with
  |nil=>intro us hl _;have:us=[]:=qbF.mp hl;subst this;exact .nil
  |cons c l ih=>
   intro us hl hu
   cases us with
   |nil=>simp at hl
   |cons v us=>
    obtain ⟨c',u,e1,e2⟩:=hu 0 v rfl
    simp at e1
    subst e1
    exact .cons ⟨u,e2⟩ (ih us (by simpa using hl) fun i v e=>by simpa using hu (i+1) v (by simpa using e))
 refine key _ _ (by simpa using hacc.1) fun i v e=>?_
 obtain ⟨c,u,e1,e2⟩:=hacc.2 i v (by simpa using e)
 exact ⟨c,u,by simpa using e1,e2⟩
theorem Zab (hc:X.calm=true):B3 X (.type "set") (Q7 X.w X.K):=by
 intro pins s σ H vs us Q I r h
 obtain ⟨p,l,rfl,hq,hl,σs,nd,h64,hm,q⟩:=h
 obtain ⟨u,rfl,rx⟩:=Cy r
 cases rx
 obtain ⟨its,r',pl,hz⟩:=I.list hq
 obtain ⟨o,n,ho,hcl,hd,hs⟩:=pl
 have hi:=Q4 l r'
 have hlen:its.length=l.length:=by have:=r'.length;simpa using this.symm
 refine SetW.set_listW (items:=its.toArray) (ns:=l) (I.ok.hd hc) ⟨o,ho,hcl,n,hs⟩ (by simpa using hi) (by unfold scanBound;simp [hlen];omega) fun h' tk hS hk=>?_
 have kp:∀b o,s.heap.get? b=some o→h'.get? b=some o:=fun b o e=>hk b o (Ax e) e
 have hf:H s.heap.objs.size=none:=I.hok.fresh (Am _)
 have hmem:∀k,k∈SetW.firstM (fun i=>l.getD i ⟨#[]⟩) its.toArray.size↔k∈σs:=fun k=>by
  rw [SetW.firstM_mem,hm]
  constructor
  ·rintro ⟨j,hj,rfl⟩
   have hj:j<l.length:=by simpa [hlen] using hj
   simp [List.getD,hj]
  ·intro z
   obtain ⟨j,hj,e⟩:=List.mem_iff_getElem.mp z
   exact ⟨j,by simpa [hlen] using hj,by simp [List.getD,hj,e]⟩
 have hper:(SetW.firstM (fun i=>l.getD i ⟨#[]⟩) its.toArray.size).Perm σs:=by
  have n1:=SetW.firstM_nodup (fun i=>l.getD i ⟨#[]⟩) its.toArray.size
  have a1:(SetW.firstM (fun i=>l.getD i ⟨#[]⟩) its.toArray.size).length≤σs.length:=List.Nodup.length_le_of_subset n1 fun k hk=>(hmem k).mp hk
  have a2:σs.length≤(SetW.firstM (fun i=>l.getD i ⟨#[]⟩) its.toArray.size).length:=List.Nodup.length_le_of_subset nd fun k hk=>(hmem k).mpr hk
  exact Mv n1 (fun k hk=>(hmem k).mp hk) a2
 have hSx:Fj X.w s.heap.objs.size σs h':=by
  refine Z9 (prog:=X.prog) nd h64 (SetW.SetW_congr hS (fun k=>?_) hper.length_eq)
  exact decide_eq_decide.mpr (hmem k)
 refine ⟨.ref s.heap.objs.size,Ah H s.heap.objs.size (.ext (Fj X.w s.heap.objs.size σs)),I.laid (t':=tk) kp (Am _) ?_,rfl,q _ hf⟩
 refine ⟨hSx,?_,fun h1 h2 z k=>?_⟩
 ·obtain ⟨_,_,_,⟨o,g,_⟩,_⟩:=hSx
  exact ⟨_,g⟩
 ·obtain ⟨es,ep,t,z1,z2⟩:=z
  exact ⟨es,ep,t,z1.at k,z2⟩
theorem Zac (hc:X.calm=true):B3 X (.builtin "sorted") (Q8 X.w):=by
 intro pins s σ H vs us Q I r h
 obtain ⟨a,σs,rfl,hr,q⟩:=h
 obtain ⟨u,rfl,rx⟩:=Cy r
 cases rx
 obtain ⟨⟨es,ep,t,hS,h64,ss',hs,hp⟩,_⟩:=(show ObjOk X.prog X.w H s.heap a (.ext (Fj X.w a σs)) from I.hok a _ hr)
 refine SetW.sorted_at (I.ok.hd hc) hS h64 hs fun h' d tk L vs2 ss2 e kp hL g hi hp2 hso=>?_
 have hf:H L=none:=I.hok.fresh hL
 have hlen:ss2.length<64:=by
  have:=hp2.length_eq
  have h3:=congrArg List.length hs.strs
  simp at h3
  omega
 refine ⟨.ref L,Ah H L (.lst (ss2.map V.str)),(Inv.drew d I).laid (t':=tk) kp hL ?_,rfl,q _ ss2 (hp2.trans hp) hso hf⟩
 exact (show ObjOk X.prog X.w _ h' _ (.lst (ss2.map V.str)) from ⟨by rw [Bo,sizeLine_eq];omega,vs2,e,Q5 hi,g⟩)
end
def rg (l:List Nat):List Nat:=(List.range 56).filter (fun c=>decide (c∈l))
theorem JM (l:List Nat):(rg l).Pairwise (·< ·):=List.Pairwise.filter _ List.pairwise_lt_range
theorem Q9 (l:List Nat):(rg l).length<64:=by
 have:=Fw (fun c=>decide (c∈l)) (List.range 56)
 rw [HE] at this
 unfold rg;omega
theorem JN {l:List Nat} (h:∀c∈l,c<56) (c:Nat):c∈rg l↔c∈l:=by
 unfold rg
 simp only [qaY,qbN,decide_eq_true_eq]
 exact ⟨fun z=>z.2,fun z=>⟨h c z,z⟩⟩
theorem Zad (a b:Nat):ltCps (sg a).cps.toList (sg b).cps.toList=decide (a<b):=by
 rw [ltCps_eq]
 refine decide_eq_decide.mpr (List.cons_lt_cons_iff.trans ?_)
 simp
theorem Ra:∀(a:Nat) (ns:List Nat),risingS (sg a) (ns.map sg)=true→(a::ns).Pairwise (·≤·)
 |a,[],_=>by simp
 |a,b::ns,h=>by
  simp only [A4,risingS,Zad,Bf,Bool.not_eq_true',decide_eq_false_iff_not] at h
  have ih:=Ra b ns h.2
  refine qbV.mpr ⟨fun x hx=>?_,ih⟩
  rcases qa4.mp hx with rfl |hx
  ·omega
  ·have:=(qbV.mp ih).1 x hx;omega
theorem Rb:∀{a b:List Nat},a.Perm b→a.Pairwise (·≤·)→b.Pairwise (·< ·)→a=b
 |[],b,p,_,_=>(List.nil_perm.mp p).symm
 |x::a,[],p,_,_=>absurd p.length_eq (by simp)
 |x::a,y::b,p,ha,hb=>by
  rw [qbV] at ha hb
  have e:x=y:=by
   have hx:x∈y::b:=p.mem_iff.mp (.head _)
   have hy:y∈x::a:=p.mem_iff.mpr (.head _)
   rcases qa4.mp hx with e |hx
   ·exact e
   ·rcases qa4.mp hy with e |hy
    ·exact e.symm
    ·have:=ha.1 y hy;have:=hb.1 x hx;omega
  subst e
  rw [Rb (List.perm_cons x |>.mp p) ha.2 hb.2]
theorem Zae {ss:List Str} {ns:List Nat} (hr:ns.Pairwise (·< ·)) (hp:ss.Perm (ns.map sg)) (hs:sortedS ss=true):ss=ns.map sg:=by
 have e:ss=(ss.map fun x=>x.cps.getD 0 0).map sg:=by
  rw [CN]
  refine (List.map_id _).symm.trans (EJ fun x hx=>?_)
  obtain ⟨c,_,rfl⟩:=qaU.mp (hp.mem_iff.mp hx)
  rfl
 have p2:(ss.map fun x=>x.cps.getD 0 0).Perm ns:=by
  have:=hp.map fun x=>x.cps.getD 0 0
  rw [CN] at this
  have e2:ns.map ((fun x:Str=>x.cps.getD 0 0)∘sg)=ns:=(EJ fun c _=>rfl).trans (List.map_id _)
  rwa [e2] at this
 have s2:(ss.map fun x=>x.cps.getD 0 0).Pairwise (·≤·):=by
  rw [e] at hs
  generalize (ss.map fun x=>x.cps.getD 0 0)=ms at hs
  cases ms with
  |nil=>exact .nil
  |cons a ms=>exact Ra a ms hs
 rw [e,Rb p2 s2 hr]
def Mw:D→Option Nat
 |.str ⟨⟨[c]⟩⟩=>some c
 |_=>none
def Fm:List D→Option (List Nat)
 |[]=>some []
 |d::ds=>(Mw d).bind fun c=>(Fm ds).map (c::·)
theorem Zaf {d:D} {c:Nat} (h:Mw d=some c):d=.str (sg c):=by
 unfold Mw at h
 split at h
 ·simp at h;subst h;rfl
 ·cases h
theorem Rc:∀{ds:List D} {cs:List Nat},Fm ds=some cs→ds=cs.map fun c=>D.str (sg c)
 |[],cs,h=>by simp [Fm] at h;subst h;rfl
 |d::ds,cs,h=>by
  simp only [Fm] at h
  obtain ⟨c,hc,h⟩:=Option.bind_eq_some_iff.mp h
  obtain ⟨cs',hcs,rfl⟩:=qaO.mp h
  rw [Zaf hc,Rc hcs];rfl
theorem Re:∀(cs:List Nat),Fm (cs.map fun c=>D.str (sg c))=some cs
 |[]=>rfl
 |c::cs=>by
  simp only [A4,Fm,Re cs]
  rfl
def Hh:D→HD→Out D:=fun d h=>match d with
 |.loc l=>(match h[l]? with
  |some (.lst ds)=>(match Fm ds with
   |some cs=>if (∀c∈cs,c<56)∧cs.length≤1000 then Bg ((rg cs).map fun c=>D.str (sg c)) h else .stuck
   |none=>.stuck)
  |_=>.stuck)
 |_=>.stuck
def Hi (f:ME):ME:=fun ρ h=>(f ρ h).bind Hh
def Hj:D→HD→Out D:=fun d h=>match d with
 |.str x=>if x.cps.size≤100000 then Bg (x.cps.toList.map fun c=>D.str (sg c)) h else .stuck
 |_=>.stuck
def Fo (f:ME):ME:=fun ρ h=>(f ρ h).bind Hj
theorem Rf {K:Frag} {m:List Addr} {H:Hp}:∀(l:List Nat) {ws:List V},DVs K m H (l.map fun c=>D.str (sg c)) ws→ws=(l.map sg).map V.str
 |[],_,h=>by simpa [DVs] using h
 |k::l,_,h=>by
  simp only [A4,DVs] at h
  obtain ⟨w,ws,rfl,r,t⟩:=h
  simp only [DV] at r
  rw [Rf l t,r];rfl
theorem Mx {K:Frag} {m:List Addr} {H:Hp}:∀(l:List Nat),DVs K m H (l.map fun c=>D.str (sg c)) ((l.map sg).map V.str)
 |[]=>by simp [DVs]
 |k::l=>by
  simp only [A4,DVs]
  exact ⟨_,_,rfl,by simp only [DV],Mx l⟩
section
variable {X:Cx} {E:XK} {e:Expr} {f:ME} {p q pos pos':Pos}
theorem Zag (hc:X.calm=true) (hg:Gl X "list") (hm:X.mg "list"=none) (hv:bootBuiltins "list"=some (.type "list")) (he:Ev X E e f)
 (h1:starEach [e] X.env=(false,eval e X.env)::starEach [] X.env:=by rfl) (h2:(backTo pos (starEach [] X.env)).any (·.1)=false:=by rfl):
 Ev X E (.Call (.Name "list" p) [e] [] pos) (Fo f):=by
 refine BD (KC (Zaa hc) hg hm hv (Ic he Ib h1) (by decide) (by decide) h1 h2) fun σ H Q z=>?_
 obtain ⟨m,ρ,h,hr,er,pp⟩:=z
 refine ⟨m,ρ,h,hr,er,Post.bind pp fun d h1 v m1 H1 eo p1 k1 hr1 r1 q1=>?_⟩
 unfold Hj at q1
 split at q1
 ·rename_i x
  split at q1
  ·rename_i hz
   simp only [rD,DV] at r1
   subst r1
   have:=(ES (X:=X) (E:=E) hr1 (Mx x.cps.toList) q1).2
   exact ⟨x,rfl,hz,fun b hb=>by have:=this b hb;rwa [CN] at this⟩
  ·exact q1.elim
 ·exact q1.elim
theorem Zah (hc:X.calm=true) (hg1:Gl X "sorted") (hm1:X.mg "sorted"=none) (hg2:Gl X "set") (hm2:X.mg "set"=none) (hv1:bootBuiltins "sorted"=some (.builtin "sorted")) (hv2:bootBuiltins "set"=some (.type "set")) (he:Ev X E e f)
 (h1:starEach [e] X.env=(false,eval e X.env)::starEach [] X.env:=by rfl) (h2:(backTo pos' (starEach [] X.env)).any (·.1)=false:=by rfl)
 (h3:starEach [.Call (.Name "set" q) [e] [] pos'] X.env=(false,eval (.Call (.Name "set" q) [e] [] pos') X.env)::starEach [] X.env:=by rfl) (h4:(backTo pos (starEach [] X.env)).any (·.1)=false:=by rfl):
 Ev X E (.Call (.Name "sorted" p) [.Call (.Name "set" q) [e] [] pos'] [] pos) (Hi f):=by
 refine BD (NF (Zac hc) hg1 hm1 hv1 (Ic (KC (Zab hc) hg2 hm2 hv2 (Ic he Ib h1) (by decide) (by decide) h1 h2) Ib h3) (by decide) (by decide) h3 h4) fun σ H Q z=>?_
 obtain ⟨m,ρ,h,hr,er,pp⟩:=z
 refine ⟨m,ρ,h,hr,er,Post.bind pp fun d h1 v m1 H1 eo p1 k1 hr1 r1 q1=>?_⟩
 unfold Hh at q1
 split at q1
 ·simp only [rD,DV] at r1
  obtain ⟨t,rfl,ht⟩:=r1
  split at q1
  ·rename_i ds e1
   split at q1
   ·rename_i cs e2
    split at q1
    ·rename_i hz
     obtain ⟨vs,h1',d1⟩:=hr1.cells _ _ t e1 ht
     rw [Rc e2] at d1
     have ew:=Rf cs d1
     subst ew
     refine ⟨t,cs.map sg,rfl,SqL.of h1',by simpa using hz.2,(rg cs).map sg,?_,by rw [Bo];exact Q9 cs,fun k=>?_,fun b hb=>⟨b,(rg cs).map sg,rfl,B6,fun p2 ss hp hs hn=>?_⟩⟩
     ·rw [List.nodup_iff_pairwise_ne,List.pairwise_map]
      exact (JM cs).imp fun {x y} hxy e=>by have:=Z8 e;omega
     ·simp only [qaU]
      exact ⟨fun ⟨c,hc',e⟩=>⟨c,(JN hz.1 c).mp hc',e⟩,fun ⟨c,hc',e⟩=>⟨c,(JN hz.1 c).mpr hc',e⟩⟩
     ·rw [Zae (JM cs) hp hs]
      exact (ES (X:=X) (E:=E) (H:=Ah H1 b (.ext (Fj X.w b ((rg cs).map sg)))) (hr1.new hb) (Mx (rg cs)) (Post.ahead (AA _) (.new hb) (by simpa using q1))).2 p2 hn
    ·exact q1.elim
   ·exact q1.elim
  ·exact q1.elim
 ·exact q1.elim
theorem Zai {ρ:Ae} {h:HD} {Q:D→HD→Prop}:Wp (Fo f ρ h) Q=Wp (f ρ h) fun d h1=>Wp (Hj d h1) Q:=by unfold Fo;rw [Al]
theorem Zaj {ρ:Ae} {h:HD} {Q:D→HD→Prop}:Wp (Hi f ρ h) Q=Wp (f ρ h) fun d h1=>Wp (Hh d h1) Q:=by unfold Hi;rw [Al]
end
section
variable {X:Cx} {E:XK} {e:Expr} {f:ME}
def Gj:D→D→HD→Out D:=fun x y h=>match x,y with
 |.str i,.str j=>.ok (.bl (!(!(Builtin.Str.occurrences j i 0 j.length 1).isEmpty))) h
 |_,_=>.stuck
theorem Zak:Bw X (compareOp .NotIn) Gj:=by
 refine ⟨_,UV,fun m H h E x y v u Q hr rx ry q=>?_⟩
 unfold Gj at q
 split at q
 ·simp only [DV] at rx ry
  subst rx ry
  exact ⟨_,_,rfl,rfl,AN hr q (by simp [DV])⟩
 ·exact q.elim
theorem Zal:B3 X (.type "int") (fun xs H Q=>∃x n,xs=[.str x]∧x.length≤640∧PySem.intText? x=some n∧Q (.int n) H):=by
 intro pins s σ H xs us Q I r h
 obtain ⟨x,n,rfl,hl,hn,q⟩:=h
 obtain ⟨u,rfl,r1⟩:=Cy r
 obtain ⟨t,rfl⟩:=r1
 exact KIN.call_text hn hl ⟨.int n,H,I.tok _,⟨_,rfl⟩,q⟩
def Gk:D→HD→Out D:=fun d h=>match d with
 |.str x=>if x.length≤640 then (match PySem.intText? x with
  |some n=>.ok (.int n) h
  |none=>.stuck) else .stuck
 |_=>.stuck
theorem Zam:B9 X (.type "int") (Ai Gk):=by
 refine ⟨_,Zal,fun m H h E ds vs Q hr r q=>Ew r q fun d v ev rv q=>?_⟩
 unfold Gk at q
 split at q
 ·simp only [DV] at rv;subst rv
  split at q
  ·rename_i hl
   split at q
   ·rename_i n hn
    exact ⟨_,n,ev,hl,hn,AN hr q (by simp [DV])⟩
   ·exact q.elim
  ·exact q.elim
 ·exact q.elim
theorem Zan (x:Str) (tk:Tok):(slicePicked x none none (some (-1,tk))).filterMap (x.cps[·]?)=x.cps.toList.reverse:=by
 unfold slicePicked Builtin.Str.strSliceIndices
 show (sliceRange ((x.length:Int) - 1) (-1) (-1)).filterMap (x.cps[·]?)=_
 have e:x.length=x.cps.size:=rfl
 rw [e,PySem.W.krv_sliceRange,PySem.W.krv_range,List.filterMap_reverse,PySem.W.krv_all]
def JO:D→HD→Out D:=fun d h=>match d with
 |.str x=>if x.length≤sizeLine then .ok (.str ⟨x.cps.toList.reverse.toArray⟩) h else .stuck
 |_=>.stuck
def Gm (f:ME):ME:=fun ρ h=>(f ρ h).bind JO
theorem Zao {j:Nat} {p1 p2 p3 pos:Pos} (he:Ev X E e f):Ev X E (.Subscript e (.Slice none none (some (.UnaryOp .USub (.Constant (.int 1) j p1) p2)) p3) pos) (Gm f):=by
 rintro pins s σ H Q I ⟨m,ρ,h,hr,er,p⟩
 have p':tD X.K E f σ H fun v H1=>∃x,v=.str x∧x.length≤sizeLine∧Q (.str ⟨x.cps.toList.reverse.toArray⟩) H1:=⟨m,ρ,h,hr,er,Post.bind p fun x h1 v m1 H1 eo p1 k1 hr1 r1 q1=>by
  clear eo
  unfold JO at q1
  split at q1
  ·simp only [rD,DV] at r1
   subst r1
   split at q1
   ·rename_i hz
    exact ⟨_,rfl,hz,AN hr1 q1 (by simp [DV])⟩
   ·exact q1.elim
  ·exact q1.elim⟩
 refine Subscript_ (An (he pins s σ H _ I p') fun v s1 z1_=>?_)
 obtain ⟨x,H1,I1,r1,y,ex,hz,q1⟩:=z1_
 subst ex
 obtain ⟨t,rfl⟩:=r1
 refine wpAny_Slice ?_
 rw [evalPart_none,evalPart_some]
 refine wpAny_pure (wpAny_pure ?_)
 have st:PE X (.UnaryOp .USub (.Constant (.int 1) j p1) p2) (Nk (rU fun i=>.int (-i)) (tC (.int 1))):=Nl Np Nb
 refine An (st pins s1 σ H1 (fun v H3=>v=.int (-1)∧H3=H1) I1 ⟨1,rfl,rfl,rfl⟩) fun sv s3 z2_=>?_
 obtain ⟨x,H3,I3,r3,ex,eH⟩:=z2_
 subst ex eH
 obtain ⟨tk,rfl⟩:=r3
 have I4:Inv X pins σ H3 {s3 with heap:=s3.heap.push {cls:=.type "slice",data:=.fields #[.none,.none,.int (-1) tk]}}:=I3.kept (t':=s3.toks) fun b ob q=>AB _ q
 have hsl:(s3.heap.push {cls:=.type "slice",data:=.fields #[.none,.none,.int (-1) tk]}).IsSlice s3.heap.objs.size none none (some (-1,tk)):=⟨_,AW _ rfl,rfl,rfl⟩
 show wpAny (model X.prog X.w) X.A (subscriptTail e (.Slice none none (some (.UnaryOp .USub (.Constant (.int 1) j p1) p2)) p3) (.str y t) (.ref s3.heap.objs.size)) (EP X pins σ Q) X.xe {s3 with heap:=s3.heap.push {cls:=.type "slice",data:=.fields #[.none,.none,.int (-1) tk]}}
 refine tail_any (ops:=[.str y t,.ref s3.heap.objs.size]) (T:="str") (typeIs_str _ y t) F.slot_str_getitem.lookup (wpAny_getItem_str_slice (s:={s3 with heap:=s3.heap.push {cls:=.type "slice",data:=.fields #[.none,.none,.int (-1) tk]}}) (l:=none) (u:=none) (st:=some (-1,tk)) hsl rfl ?_) (by with_unfolding_all rfl)
 unfold sliceMade
 rw [if_neg (by simp)]
 rw [Zan]
 refine ⟨?_,.str ⟨y.cps.toList.reverse.toArray⟩,H3,I4.tok _,⟨_,rfl⟩,q1⟩
 show y.cps.toList.reverse.toArray.size≤sizeLine
 have hz':y.cps.size≤sizeLine:=hz
 simpa using hz'
end
end LS
namespace LS
open PySem PySem.Spec PyProof.Rows L2
section
variable {X:Cx}
def EG:D→HD→Out D:=fun d h=>match d with
 |.str z=>if z.length≤sizeLine then .ok (.int z.length) h else .stuck
 |_=>.stuck
theorem Zap:B9 X (.builtin "len") (Ai EG):=by
 refine ⟨_,UX,fun m H h E ds vs Q hr r q=>Ew r q fun d v ev rv q=>?_⟩
 unfold EG at q
 split at q
 ·simp only [DV] at rv;subst rv
  split at q
  ·rename_i hl
   exact ⟨_,ev,hl,AN hr q (by simp [DV])⟩
  ·exact q.elim
 ·exact q.elim
end
end LS
set_option maxHeartbeats 0
namespace LK
open PySem PySem.Spec PyProof.Rows L2 LS
def Bs (i:Nat):Stmt:=PySem.Challenge.pw_lineswitch_k92_texts_refused.main.body.getD i (.Pass ⟨0,0,0,0⟩)
abbrev JP:Stmt:=Bs 35
abbrev Rg:Stmt:=Bs 14
noncomputable abbrev Rh:MS:=Aq (DU (Ad (AY Aw) (Ab (Aa 0) (Ab (mC (.ty "int")) (Ac)))) (Iq (Ad (AY Aw) (Ab (Aa 0) (Ab (mC (.ty "bool")) (Ac))))))
noncomputable def D9:List D→HD→Out D:=Bm 1 1 Rh
abbrev Ri:Stmt:=Bs 17
noncomputable abbrev Rj:MS:=Aq (DU (Ad (AY Aw) (Ab (Aa 0) (Ab (mC (.ty "tuple")) (Ac)))) (CT CB CB (mC (.int 1)) (Ad (Ai By) (Ab (Aa 0) (Ac))) (mC (.int 8))))
noncomputable def Gn:List D→HD→Out D:=Bm 1 1 Rj
abbrev Rk:Stmt:=Bs 24
noncomputable abbrev My:MS:=Aq (Ad (Ai Be) (Ab (Az [none,some 1] (Df (Aa 0)) (Ap 0) (AZ) (Ba A8 JE (Aa 1) (Aa 0))) (Ac)))
noncomputable def DI:List D→HD→Out D:=Bm 2 2 My
abbrev Rm:Stmt:=Bs 25
noncomputable abbrev JQ:MS:=AQ (Bx (BI (Ad (AY Aw) (Ab (Aa 0) (Ab (mC (.ty "str")) (Ac)))))) (E3 "NoText" (Ab (mC (.str "this is no text")) (Ac))) (A0)
noncomputable def Fp:List D→HD→Out D:=Bm 1 1 JQ
abbrev Rn:Stmt:=Bs 29
noncomputable abbrev Mz:MS:=Ag (AQ (AO (Af GT (Aa 1) (Ad (Ai By) (Ab (Aa 0) (Ac))))) (Aq (Af AS (Aa 0) (Aa 1))) (A0)) (Aq (Af Aj (Af Cp (mC (.int 6151)) (Aa 1)) (mC (.int 29))))
noncomputable def JR:List D→HD→Out D:=Bm 2 2 Mz
abbrev Ro:Stmt:=Bs 30
noncomputable abbrev Rq:MS:=Ag (Ao 2 (Af Aj (Af Cp (Af Aj (Aa 0) (mC (.int 1))) (mC (.int 40692))) (Af Cp (mC (.int 104729)) (Aa 1)))) (Ag (Ao 2 (Af Aj (Af EV (Af Cp (Aa 2) (Aa 2)) (mC (.int 2147483399))) (Aa 1))) (Aq (Af EV (Af Cp (Aa 2) (Af Aj (Aa 2) (mC (.int 31)))) (mC (.int 2147483563)))))
noncomputable def JS:List D→HD→Out D:=Bm 2 3 Rq
abbrev Rr:Stmt:=Bs 32
noncomputable abbrev Rt:MS:=Ag (EX (IG 2 3) (Ad (AY GV) (Ab (Af AS (Aa 0) (mC (.int 0))) (Ab (Aa 1) (Ac))))) (Ag (IK (Aa 0) (mC (.int 0)) (Aa 2)) (Aq (Aa 3)))
noncomputable def Bn:List D→HD→Out D:=Bm 2 4 Rt
abbrev Ru:Stmt:=Bs 34
noncomputable abbrev Rv:MS:=Ag (Ao 1 (AD (Ab (Ad (AY Aw) (Ab (Aa 0) (Ab (mC (.glo "NoBoard")) (Ac)))) (Ab (Ad (AY Aw) (Ab (Aa 0) (Ab (mC (.glo "NoLine")) (Ac)))) (Ab (Ad (AY Aw) (Ab (Aa 0) (Ab (mC (.glo "NoSwitching")) (Ac)))) (Ab (Ad (AY Aw) (Ab (Aa 0) (Ab (mC (.glo "NoNumber")) (Ac)))) (Ac))))))) (Ag (Ao 1 (Af Aj (Aa 1) (AD (Ab (Ad (AY Aw) (Ab (Aa 0) (Ab (mC (.glo "Unlike")) (Ac)))) (Ab (Ad (AY Aw) (Ab (Aa 0) (Ab (mC (.glo "NoNet")) (Ac)))) (Ab (Ad (AY Aw) (Ab (Aa 0) (Ab (mC (.glo "NoPlace")) (Ac)))) (Ab (Ad (AY Aw) (Ab (Aa 0) (Ab (mC (.glo "NoText")) (Ac)))) (Ac)))))))) (Ag (Ao 1 (Af Aj (Aa 1) (AD (Ab (Ad (AY Aw) (Ab (Aa 0) (Ab (mC (.glo "NoRow")) (Ac)))) (Ab (Ad (AY Aw) (Ab (Aa 0) (Ab (mC (.glo "TooMany")) (Ac)))) (Ac)))))) (Ag (AQ (CA (Bx (BI (Ad (AY Aw) (Ab (Aa 0) (Ab (mC (.ty "ValueError")) (Ac)))))) (AO (Af BA (Ba BG E5 (Aa 1) (mC (.bl true))) (mC (.int 1))))) (Aq (mC (.str "! other"))) (A0)) (Ag (AQ (BI (Af AS (Aa 1) (mC (.int 9)))) N6 A0) (Ag (Ao 2 (AD (Ab (mC (.str "board")) (Ab (mC (.str "line")) (Ab (mC (.str "switching")) (Ab (mC (.str "number")) (Ab (mC (.str "unlike")) (Ab (mC (.str "net")) (Ab (mC (.str "place")) (Ab (mC (.str "text")) (Ab (mC (.str "row")) (Ac)))))))))))) (Aq (Af Aj (mC (.str "! ")) (Af AS (Aa 2) (Ba BG E6 (Aa 1) (mC (.bl true)))))))))))
noncomputable def EH:List D→HD→Out D:=Bm 1 3 Rv
abbrev Rw:Stmt:=Bs 39
noncomputable abbrev Rx:MS:=Ag (Ao 1 (AD (Ab (AD (Ac)) (Ac)))) (Ag (Bq (Df (Aa 0)) (Ap 2) (AQ (AO (Af BQ (Aa 2) (mC (.str "/")))) (Cm (Dm (Aa 1) (AD (Ac)))) (AQ (AO (Af (EW false) (Aa 2) (BJ (Ab (mC (.str ".")) (Ab (mC (.str "#")) (Ac)))))) (Cm (Dm (Af AS (Aa 1) (GZ (mC (.int 1)))) (Ad (Ai intOfD) (Ab (Af BQ (Aa 2) (mC (.str "#"))) (Ac))))) (Aq (mC .non))))) (Ag (AQ (CA (Bx (AO (CT CB CB (mC (.int 1)) (Ad (Ai By) (Ab (Aa 1) (Ac))) (mC (.int 8))))) (Bx (AO (CT CB CB (mC (.int 1)) (Ad (Ai By) (Ab (Af AS (Aa 1) (mC (.int 0))) (Ac))) (mC (.int 8)))))) (Aq (mC .non)) (A0)) (Ag (AQ (AO (Af BA (Az [none,some 1] (AI (Aa 1)) (Ap 0) (AO (Af BA (Ad (Ai By) (Ab (Aa 0) (Ac))) (Ad (Ai By) (Ab (Af AS (Aa 1) (mC (.int 0))) (Ac))))) (Aa 0)) (AD (Ac)))) (Aq (mC .non)) (A0)) (Aq (Ad (Ai Be) (Ab (Az [none] (AI (Aa 1)) (Ap 0) (AZ) (Ad (Ai Be) (Ab (Aa 0) (Ac)))) (Ac)))))))
noncomputable def JT:List D→HD→Out D:=Bm 1 3 Rx
abbrev Ry:Stmt:=Bs 40
noncomputable abbrev Rz:MS:=Ag (AQ (CA (AO (Af BA (AG (Aa 0) (AE) (AC (mC (.int 1)))) (mC (.str "r")))) (AO (Af BA (Ba A8 Ge (Aa 0) (mC (.str "c"))) (mC (.int 1))))) (Aq (mC .non)) (A0)) (Ag (Ao 1 (AD (Ac))) (Ag (Bq (AI (Ba A8 De (AG (Aa 0) (AC (mC (.int 1))) (AE)) (mC (.str "c")))) (Ap 2) (Ag (AQ (AO (Af BA (Az [none] (Df (Aa 2)) (Ap 0) (AO (Af Gj (Aa 0) (mC (.str "01234567")))) (Aa 0)) (AD (Ac)))) (Aq (mC .non)) (A0)) (Ag (AQ (AO (Af BA (Fo (Aa 2)) (Hi (Fo (Aa 2))))) (Aq (mC .non)) (A0)) (Cm (Dm (Aa 1) (Ad (Ai Be) (Ab (Az [none] (Df (Aa 2)) (Ap 0) (AZ) (Ad (Ai Gk) (Ab (Aa 0) (Ac)))) (Ac)))))))) (Aq (Ad (Ai Be) (Ab (Aa 1) (Ac))))))
noncomputable def JU:List D→HD→Out D:=Bm 1 3 Rz
abbrev RA:Stmt:=Bs 15
noncomputable abbrev MB:MS:=Aq (DU (Ad D9 (Ab (Aa 0) (Ac))) (CT CB CB (Aa 1) (Aa 0) (Aa 2)))
noncomputable def Hk:List D→HD→Out D:=Bm 3 3 MB
abbrev RB:Stmt:=Bs 20
noncomputable abbrev RC:MS:=Ag (AQ (Bx (BI (Ad (AY Aw) (Ab (Aa 0) (Ab (mC (.ty "tuple")) (Ac)))))) (Aq (mC (.bl false))) (A0)) (Ag (Ao 2 (GZ (mC (.int 1)))) (Ag (Bq (AI (Aa 0)) (Ap 3) (Ag (AQ (CA (Bx (BI (Ad D9 (Ab (Aa 3) (Ac))))) (Bx (AO (CT GT GT (Aa 2) (Aa 3) (Aa 1))))) (Aq (mC (.bl false))) (A0)) (Ao 2 (Aa 3)))) (Aq (mC (.bl true)))))
noncomputable def Hl:List D→HD→Out D:=Bm 2 4 RC
abbrev RD:Stmt:=Bs 31
noncomputable abbrev RE:MS:=Ag (Ao 2 (Ad JR (Ab (Aa 0) (Ab (Aa 1) (Ac))))) (Ag (AQ (AO (Af BQ (Af EV (Aa 2) (mC (.int 2))) (mC (.int 0)))) (Aq (AD (Ab (Af ID (Aa 2) (mC (.int 2))) (Ac)))) (A0)) (Ag (Ao 3 (mC (.int 0))) (Ag (Bq (CV (Ab (mC (.int 24)) (Ac))) (Ap 4) (Ao 3 (Af Aj (Af Cp (Aa 3) (mC (.int 2147483647))) (Ad JS (Ab (Aa 2) (Ab (Aa 4) (Ac))))))) (Aq (AD (Ab (Aa 3) (Ac)))))))
noncomputable def JV:List D→HD→Out D:=Bm 2 5 RE
abbrev RF:Stmt:=Bs 33
noncomputable abbrev RG:MS:=Ag (CC 1 2 (Ab (Ad Bn (Ab (Aa 0) (Ab (mC (.int 2147483647)) (Ac)))) (Ab (mC (.int 0)) (Ac)))) (Ag (Bq (CV (Ab (mC (.int 24)) (Ac))) (Ap 3) (Ag (Ao 1 (Af EV (Af Aj (Af Aj (Af Cp (Aa 1) (mC (.int 48271))) (mC (.int 11))) (Aa 3)) (mC (.int 2147483647)))) (Ao 2 (Af Aj (Af Cp (Aa 2) (mC (.int 2147483647))) (Aa 1))))) (Aq (AD (Ab (Aa 2) (Ac)))))
noncomputable def Gp:List D→HD→Out D:=Bm 1 4 RG
abbrev RH:Stmt:=Bs 37
noncomputable abbrev RI:MS:=Aq (Ad (Ai Be) (Ab (Az [none,some 0] (CV (Ab (Aa 1) (Ac))) (Ap 0) (AO (Af BQ (Ad Bn (Ab (Aa 1) (Ab (mC (.int 2)) (Ac)))) (mC (.int 1)))) (Aa 0)) (Ac)))
noncomputable def DJ:List D→HD→Out D:=Bm 2 2 RI
abbrev RJ:Stmt:=Bs 38
noncomputable abbrev RK:MS:=Ag (CC 2 3 (Ab (Ad Bn (Ab (Aa 0) (Ab (Af Aj (Ad (Ai EG) (Ab (Aa 1) (Ac))) (mC (.int 1))) (Ac)))) (Ab (Ad Bn (Ab (Aa 0) (Ab (Af Aj (Ad (Ai EG) (Ab (Aa 1) (Ac))) (mC (.int 1))) (Ac)))) (Ac)))) (Ag (Ao 4 (mC (.str " !\"#$&'()*+,-./0123456789:;<=>?@ABCDEFGHIJKLMNOPQRSTUVWXYZ[\\]^_`"))) (Ag (Ao 4 (Af Aj (Aa 4) (mC (.str "abcdefghijklmnopqrstuvwxyz{|}~\n\t")))) (Ag (Ao 5 (Af AS (AD (Ab (mC (.str ".")) (Ab (mC (.str "#")) (Ab (mC (.str "/")) (Ab (mC (.str "r")) (Ab (mC (.str "c")) (Ab (mC (.str "0")) (Ab (mC (.str "7")) (Ab (mC (.str "8")) (Ab (mC (.str " ")) (Ab (Af Dd (Aa 4) (Ad Bn (Ab (Aa 0) (Ab (mC (.int 96)) (Ac))))) (Ac)))))))))))) (Ad Bn (Ab (Aa 0) (Ab (mC (.int 10)) (Ac)))))) (Ag (CC 6 7 (Ab (Ad (AY DX) (Ab (Aa 2) (Ab (Aa 3) (Ac)))) (Ab (Ad (AY DW) (Ab (Aa 2) (Ab (Aa 3) (Ac)))) (Ac)))) (Ag (Ao 8 (AD (Ab (Af Aj (Af Aj (AG (Aa 1) (AE) (AC (Aa 2))) (Aa 5)) (AG (Aa 1) (AC (Aa 2)) (AE))) (Ab (Af Aj (AG (Aa 1) (AE) (AC (Aa 2))) (AG (Aa 1) (AC (Af Aj (Aa 2) (mC (.int 1)))) (AE))) (Ab (Af Aj (Af Aj (AG (Aa 1) (AE) (AC (Aa 2))) (Aa 5)) (AG (Aa 1) (AC (Af Aj (Aa 2) (mC (.int 1)))) (AE))) (Ab (Af Aj (Aa 1) (Aa 5)) (Ac))))))) (Ag (Ao 8 (Af Aj (Aa 8) (AD (Ab (Af Aj (Aa 5) (Aa 1)) (Ab (Af Aj (AG (Aa 1) (AE) (AC (Aa 6))) (AG (Aa 1) (AC (Aa 7)) (AE))) (Ab (Af Aj (AG (Aa 1) (AE) (AC (Aa 7))) (AG (Aa 1) (AC (Aa 6)) (AE))) (Ab (Gm (Aa 1)) (Ab (Af Aj (Aa 1) (Aa 1)) (Ab (Aa 5) (Ab (mC (.str "")) (Ac))))))))))) (Aq (Af AS (Aa 8) (Ad Bn (Ab (Aa 0) (Ab (mC (.int 11)) (Ac))))))))))))
noncomputable def Gq:List D→HD→Out D:=Bm 2 9 RK
abbrev RL:Stmt:=Bs 16
noncomputable abbrev RM:MS:=Aq (Ad Hk (Ab (Aa 0) (Ab (mC (.int 0)) (Ab (mC (.int 1)) (Ac)))))
noncomputable def JW:List D→HD→Out D:=Bm 1 1 RM
abbrev MC:Stmt:=Bs 27
noncomputable abbrev Ea:MS:=Ag (Cm (Ad Fp (Ab (Aa 0) (Ac)))) (Ag (EX (F0 [1,2,3]) (Ba A8 D7 (Aa 0) (mC (.str "c")))) (Ag (Ao 4 (BJ (Ab (Ad DI (Ab (AG (Aa 1) (AC (mC (.int 1))) (AE)) (Ab (mC (.str "0123456789")) (Ac)))) (Ab (Ad DI (Ab (Aa 3) (Ab (mC (.str "0123456789")) (Ac)))) (Ac))))) (Ag (Ao 5 (DU (Ba A8 Hd (Aa 1) (mC (.str "r"))) (Af BQ (Aa 2) (mC (.str "c"))))) (Ag (AQ (CA (Bx (BI (Aa 5))) (Bx (BI (Ad (Ai CY) (Ab (Az [none] (AI (Aa 4)) (Ap 0) (AZ) (Ad Hl (Ab (Aa 0) (Ab (mC (.int 8)) (Ac))))) (Ac)))))) (E3 "NoText" (Ab (mC (.str "this writes no switching")) (Ac))) (A0)) (Aq (Aa 4))))))
noncomputable def CK:List D→HD→Out D:=Bm 1 6 Ea
abbrev RN:Stmt:=Bs 36
noncomputable abbrev RO:MS:=Ag (Ao 3 (Ad Bn (Ab (Aa 0) (Ab (mC (.int 5)) (Ac))))) (Ag (Ao 4 (Ad Gp (Ab (Aa 0) (Ac)))) (Ag (Ao 5 (Af AS (AD (Ab (mC (.int 3)) (Ab (mC (.int 1)) (Ab (mC (.int 5)) (Ab (mC (.int 3)) (Ab (mC (.int 2)) (Ac))))))) (Aa 3))) (Ag (Ao 6 (AD (Ac))) (Ag (Bq (CV (Ab (Aa 1) (Ac))) (Ap 7) (Cm (Dm (Aa 6) (Ad (Ai Be) (Ab (Az [none,some 4,some 5] (CV (Ab (Aa 2) (Ac))) (Ap 0) (AZ) (Ad (Ai intOfD) (Ab (Af GT (Ad Bn (Ab (Aa 1) (Ab (mC (.int 6)) (Ac)))) (Aa 2)) (Ac)))) (Ac)))))) (Ag (AQ (AO (Af BQ (Aa 3) (mC (.int 3)))) (Ao 6 (Af Cp (AD (Ab (Af AS (Aa 6) (mC (.int 0))) (Ac))) (Aa 1))) (A0)) (Aq (Ad (Ai Be) (Ab (Aa 6) (Ac)))))))))
noncomputable def JX:List D→HD→Out D:=Bm 3 8 RO
abbrev RP:Stmt:=Bs 18
noncomputable abbrev RQ:MS:=Aq (DU (Ad Gn (Ab (Aa 0) (Ac))) (Ad (Ai CY) (Ab (Az [none] (AI (Aa 0)) (Ap 0) (AZ) (Ad JW (Ab (Aa 0) (Ac)))) (Ac))))
noncomputable def JY:List D→HD→Out D:=Bm 1 1 RQ
abbrev RR:Stmt:=Bs 19
noncomputable abbrev RS:MS:=Ag (AQ (CA (Bx (BI (Ad Gn (Ab (Aa 0) (Ac))))) (Bx (BI (Ad (Ai CY) (Ab (Az [none] (AI (Aa 0)) (Ap 0) (AZ) (Ad JY (Ab (Aa 0) (Ac)))) (Ac)))))) (Aq (mC (.bl false))) (A0)) (Aq (Ad (Ai CY) (Ab (Az [none,some 0] (AI (Aa 0)) (Ap 0) (AZ) (Af BQ (Ad (Ai By) (Ab (Aa 0) (Ac))) (Ad (Ai By) (Ab (Af AS (Aa 1) (mC (.int 0))) (Ac))))) (Ac))))
noncomputable def JZ:List D→HD→Out D:=Bm 1 1 RS
abbrev MD:Stmt:=Bs 26
noncomputable abbrev DK:MS:=Ag (Cm (Ad Fp (Ab (Aa 0) (Ac)))) (Ag (Ao 1 (Ad (Ai Be) (Ab (Az [none] (AI (Ba A8 De (Aa 0) (mC (.str "/")))) (Ap 0) (AZ) (Ad DI (Ab (Aa 0) (Ab (mC (.str ".#")) (Ac))))) (Ac)))) (Ag (AQ (Bx (BI (Ad JZ (Ab (Aa 1) (Ac))))) (E3 "NoText" (Ab (mC (.str "this writes no board")) (Ac))) (A0)) (Aq (Aa 1))))
noncomputable def CL:List D→HD→Out D:=Bm 1 2 DK
abbrev MF:Stmt:=Bs 41
noncomputable abbrev MH:MS:=Ag (AQ (AO (Af Es (Aa 2) (mC .non))) (Aq (Af BQ (D3 1 "_law_right" [0,1] EH (E8 [("board_read",CL),("switching_read",CK)] (Aa 0) (Ab (Aa 1) (Ac)))) (mC (.str "! text")))) (A0)) (Aq (Af BQ (Ad (Ai DE) (Ab (E8 [("board_read",CL),("switching_read",CK)] (Aa 0) (Ab (Aa 1) (Ac))) (Ac))) (Ad (Ai DE) (Ab (Aa 2) (Ac)))))
noncomputable def Eb:List D→HD→Out D:=Bm 3 3 MH
abbrev s_law:Stmt:=Bs 42
noncomputable abbrev MK:MS:=Ag (Bq (CV (Ab (Ad (AY DW) (Ab (mC (.int 1)) (Ab (Ad (AY DX) (Ab (Ad (Ai By) (Ab (Aa 0) (Ac))) (Ab (mC (.int 5)) (Ac)))) (Ac)))) (Ac))) (Ap 1) (Ag (Ao 2 (Ad JV (Ab (Aa 0) (Ab (Aa 1) (Ac))))) (Ag (CC 3 4 (Ab (Af Aj (mC (.int 1)) (Ad Bn (Ab (Aa 2) (Ab (mC (.int 8)) (Ac))))) (Ab (Af Aj (mC (.int 1)) (Ad Bn (Ab (Aa 2) (Ab (mC (.int 8)) (Ac))))) (Ac)))) (Ag (Ao 5 (Ad JX (Ab (Aa 2) (Ab (Aa 3) (Ab (Aa 4) (Ac)))))) (Ag (Ao 6 (Ba A8 BS (mC (.str "/")) (Az [none] (AI (Aa 5)) (Ap 0) (AZ) (Ba A8 BS (mC (.str "")) (Az [none] (AI (Aa 0)) (Ap 0) (AZ) (Af Dd (mC (.str ".#")) (Aa 0))))))) (Ag (Ao 7 (Af Aj (Af Aj (mC (.str "r")) (Ba A8 BS (mC (.str "")) (Az [none] (AI (Ad DJ (Ab (Aa 2) (Ab (mC (.int 8)) (Ac))))) (Ap 0) (AZ) (Ad (Ai strOfD) (Ab (Aa 0) (Ac)))))) (mC (.str "c")))) (Ag (Ao 7 (Af Aj (Aa 7) (Ba A8 BS (mC (.str "")) (Az [none] (AI (Ad DJ (Ab (Aa 2) (Ab (mC (.int 8)) (Ac))))) (Ap 0) (AZ) (Ad (Ai strOfD) (Ab (Aa 0) (Ac))))))) (Ag (Ao 8 (Ad Gp (Ab (Aa 2) (Ac)))) (Ag (Bq (CV (Ab (mC (.int 10)) (Ac))) (Ap 9) (Ag (CC 10 11 (Ab (Ad Gq (Ab (Aa 8) (Ab (Aa 6) (Ac)))) (Ab (Ad Gq (Ab (Aa 8) (Ab (Aa 7) (Ac)))) (Ac)))) (Bq (AI (AD (Ab (Aa 10) (Ab (Aa 11) (Ac))))) (Ap 12) (Ag (AQ (Bx (BI (Ad Eb (Ab (mC (.glo "board_read")) (Ab (Aa 12) (Ab (Ad JT (Ab (Aa 12) (Ac))) (Ac))))))) (Aq (mC (.bl false))) (A0)) (AQ (Bx (BI (Ad Eb (Ab (mC (.glo "switching_read")) (Ab (Aa 12) (Ab (Ad JU (Ab (Aa 12) (Ac))) (Ac))))))) (Aq (mC (.bl false))) (A0)))))) (Bq (AI (AD (Ab (mC .non) (Ab (mC (.int 7)) (Ab (mC (.bl true)) (Ab (BJ (Ab (Aa 6) (Ac))) (Ab (AD (Ab (Aa 7) (Ac))) (Ab (mC .edic) (Ab (BJ (Ab (mC (.str "r")) (Ab (mC (.str "c")) (Ac)))) (Ab (Aa 5) (Ac))))))))))) (Ap 13) (Bq (AI (AD (Ab (mC (.glo "board_read")) (Ab (mC (.glo "switching_read")) (Ac))))) (Ap 14) (AQ (AO (Af BA (Pc [14,13] EH (E8 [("board_read",CL),("switching_read",CK)] (Aa 0) (Ab (Aa 1) (Ac)))) (mC (.str "! text")))) (Aq (mC (.bl false))) (A0))))))))))))) (Aq (mC (.bl true)))
noncomputable def F_law:List D→HD→Out D:=Bm 1 15 MK
theorem _root_.LS.Sm.len {h h':HD} (s:Sm h h'):h.length≤h'.length:=by
 cases e:h.length with
 |zero=>exact B2 _
 |succ n=>
  have hn:n<h.length:=by omega
  have:=s n h[n] (Bi hn)
  have:=(qa1.mp this).1
  omega
theorem sz {n:Nat} (hn:n≤8):(List.range n).length≤sizeLine:=by
 rw [HE];unfold sizeLine;omega
open PySem.Builtin.Int in
theorem Zaq {ns:List Int} {k:Nat} (hb:∀i∈ns,Builtin.Int.intBits i≤2^20) (hk:k≤1000):∃c:Int,Builtin.Int.intBits c≤2^20∧∀h,Pu (JR [.scr ns,.int (k:Nat)] h) h (.int c):=by
 by_cases hl:k<ns.length
 ·refine ⟨ns[k],hb _ (Fy hl),fun h=>?_⟩
  change Wp (AF 2 Mz [.scr ns,.int (k:Nat)] h) _
  refine Eq.mpr (Bl) ?_
  have:(k:Int)<ns.length:=by omega
  simp [this]
  refine BK (WE (Bi hl)) ?_
  simp [Sm.refl]
 ·refine ⟨6151*(k:Int)+29,?_,fun h=>?_⟩
  ·rw [intBits_le_iff]
   have h1:(6151*(k:Int)+29).natAbs<2^30:=by omega
   exact AX h1 (Nat.pow_le_pow_right (by decide) (by omega))
  ·change Wp (AF 2 Mz [.scr ns,.int (k:Nat)] h) _
   refine Eq.mpr (Bl) ?_
   have:¬(k:Int)<ns.length:=by omega
   simp [this]
   rw [Li (by decide) (by decide)]
   simp [Sm.refl]
def RT (c:Int) (k:Nat):Int:=(((c+1)*40692+104729*(k:Int))*((c+1)*40692+104729*(k:Int))) % 2147483399+(k:Int)
theorem RU {h:HD}:FM [.int 24] h=.ok ((List.range 24).map fun k=>D.int ((k:Nat):Int),[]) h:=FT (n:=24) (by decide)
theorem Zar {c:Int} {k:Nat} (hc:Builtin.Int.intBits c≤2^20) (hk:k≤1000):∃r:Int,∀h,Pu (JS [.int c,.int (k:Nat)] h) h (.int r):=by
 refine ⟨RT c k*(RT c k+31) % 2147483563,fun h=>?_⟩
 change Wp (AF 3 Rq [.int c,.int (k:Nat)] h) _
 refine Eq.mpr (Bl) ?_
 have bX:Builtin.Int.intBits ((c+1)*40692+104729*(k:Int))≤16777216:=by
  have hk':Builtin.Int.intBits ((k:Nat):Int)≤10:=PySem.intBits_le_iff.mpr (by omega)
  have:=PySem.intBits_add_le (PySem.intBits_mul_le (PySem.intBits_add_le hc (show Builtin.Int.intBits 1≤1 by decide)) (show Builtin.Int.intBits 40692≤16 by decide)) (PySem.intBits_mul_le (show Builtin.Int.intBits 104729≤17 by decide) hk')
  exact BB this (by decide)
 have h1:=Int.emod_nonneg (((c+1)*40692+104729*(k:Int))*((c+1)*40692+104729*(k:Int))) (show (2147483399:Int)≠0 by decide)
 have h2:=Int.emod_lt_of_pos (((c+1)*40692+104729*(k:Int))*((c+1)*40692+104729*(k:Int))) (show (0:Int)<2147483399 by decide)
 simp
 rw [IZ (by decide) (by decide)]
 simp
 rw [Li (by decide) (by decide)]
 simp
 rw [WI bX bX]
 simp
 rw [I0 (by decide)]
 simp
 rw [Li (by omega) (by omega)]
 simp
 rw [I0 (by decide)]
 simp
 exact ⟨rfl,.refl _⟩
def BoxAt (h:HD) (b:Nat):Prop:=∃n:Int,h[b]?=some (.lst [.int n])
inductive RV (ns:List Int) (k:Nat) (c:Int) (h:HD) (xs:List Nat) (ρ:Ae) (h':HD):Prop where
 |mk (N:Int) (x:Option D) (f0:ρ=[some (.scr ns),some (.int (k:Nat)),some (.int c),some (.int N),x]) (f1:Sm h h') (f2:∀j∈xs,j<24):RV ns k c h xs ρ h'
theorem Zas {ns:List Int} {k:Nat} {h:HD} {Q:D→HD→Prop} (hb:∀i∈ns,Builtin.Int.intBits i≤2^20) (hk:k≤1000) (q:∀l h',BoxAt h' l→h.length≤l→Sm h h'→Q (.loc l) h'):Wp (JV [.scr ns,.int (k:Nat)] h) Q:=by
 change Wp (AF 5 (RE) [.scr ns,.int (k:Nat)] h) _
 refine Eq.mpr (Bl) ?_
 obtain ⟨c,bc,pc⟩:=Zaq (k:=k) hb hk
 simp
 refine (pc h).wp fun h1 s1=>?_
 rw [I0 (by decide)]
 simp
 by_cases hz:c % 2=0
 ·simp [hz]
  rw [WJ (by decide) (by decide)]
  simp
  exact A3 (by simp) fun l h' s e el _=>q l h' ⟨_,e⟩ (by have:=s1.len;omega) (s1.trans s)
 ·simp [hz]
  refine Ez (src:=[]) (xs:=List.range 24) (fun i=>.int ((i:Nat):Int)) (RV ns k c h) ?_ (fun ys ρ h' _=>DY) ?_ ?_
  ·simp [RU]
   exact ⟨_,_,rfl,s1,fun j hj=>qbN.mp hj⟩
  ·rintro x xs ρ h' ⟨N,y,rfl,sh,hx⟩
   refine ⟨_,rfl,?_⟩
   obtain ⟨m,pm⟩:=Zar (k:=x) bc (by have:=hx x AU;omega)
   simp
   rw [IZ (by decide) (by decide)]
   simp
   refine (pm h').wp fun h2 s2=>?_
   simp [Cn]
   exact ⟨_,_,rfl,sh.trans s2,fun j hj=>hx j (AV _ hj)⟩
  ·rintro ρ h' ⟨N,y,rfl,sh,_⟩
   simp
   exact A3 (by simp) fun l h' s e el _=>q l h' ⟨_,e⟩ (by have:=sh.len;omega) (sh.trans s)
def Smx (b:Nat) (h h':HD):Prop:=∀(l:Nat) (c:Cell),l≠b→h[l]?=some c→h'[l]?=some c
theorem Smx.refl (b:Nat) (h:HD):Smx b h h:=fun _ _ _ e=>e
theorem Smx.trans {b:Nat} {h h1 h2:HD} (a:Smx b h h1) (c:Smx b h1 h2):Smx b h h2:=fun l x n e=>c l x n (a l x n e)
theorem EI {b:Nat} {h h':HD} (s:Sm h h'):Smx b h h':=fun l c _ e=>s l c e
theorem DL {b:Nat} {m:Int} {h:HD} {Q:D→HD→Prop} (hx:BoxAt h b) (h1:0<m) (h2:m<18446744073709551616) (q:∀d h',0≤d→d<m→BoxAt h' b→Smx b h h'→Q (.int d) h'):Wp (Bn [.loc b,.int m] h) Q:=by
 change Wp (AF 4 Rt [.loc b,.int m] h) _
 refine Eq.mpr (Bl) ?_
 obtain ⟨N,e⟩:=hx
 simp
 rw [show (0:Int)=((0:Nat):Int) from rfl]
 refine BK (FV e (k:=0) rfl) ?_
 simp
 refine BK (WK h1 h2) ?_
 simp
 rw [show (0:Int)=((0:Nat):Int) from rfl]
 refine BK (WG e (by simp)) ?_
 simp
 have hl:b<h.length:=(qa1.mp e).1
 refine q _ _ (Int.emod_nonneg _ (by omega)) (Int.emod_lt_of_pos _ h1) ⟨_,by rw [BV hl]⟩ fun l c ne el=>?_
 rw [Bj (Ne.symm ne)]
 exact el
theorem BoxAt.sm {b:Nat} {h h':HD} (x:BoxAt h b) (s:Sm h h'):BoxAt h' b:=let ⟨n,e⟩:=x;⟨n,s _ _ e⟩
theorem BoxAt.smx {a b:Nat} {h h':HD} (x:BoxAt h b) (s:Smx a h h') (ne:b≠a):BoxAt h' b:=let ⟨n,e⟩:=x;⟨n,s _ _ ne e⟩
theorem BoxAt.new {b:Nat} {h:HD} {c:Cell} (x:BoxAt h b):BoxAt (h++[c]) b:=x.sm (.app _ _)
def Plain (h:HD):D→Prop
 |.int _=>True
 |.bl _=>True
 |.non=>True
 |.str _=>True
 |.tup _=>True
 |.edic=>True
 |.loc l=>∃ds,h[l]?=some (.lst ds)
 |_=>False
theorem Plain.sm {h h':HD} {d:D} (p:Plain h d) (s:Sm h h'):Plain h' d:=by
 cases d with
 |loc l=>obtain ⟨ds,e⟩:=p;exact ⟨ds,s _ _ e⟩
 |_=>exact p
def Cq:D→List D
 |.tup ds=>ds
 |_=>[]
def Plain2 (h:HD) (d:D):Prop:=Plain h d∧∀x∈Cq d,Plain h x
def Plain3 (h:HD) (d:D):Prop:=Plain h d∧∀x∈Cq d,Plain2 h x
theorem Plain2.sm {h h':HD} {d:D} (p:Plain2 h d) (s:Sm h h'):Plain2 h' d:=⟨p.1.sm s,fun x hx=>(p.2 x hx).sm s⟩
theorem Plain3.sm {h h':HD} {d:D} (p:Plain3 h d) (s:Sm h h'):Plain3 h' d:=⟨p.1.sm s,fun x hx=>(p.2 x hx).sm s⟩
def Fq:D→Bool
 |.int i=>decide (0≤i)&&decide (i≤1)
 |_=>false
def BL:D→Bool
 |.tup ds=>decide (1≤ds.length)&&decide (ds.length≤8)
 |_=>false
def B5 (d:D):Bool:=BL d&&(Cq d).all Fq
def Ec (d:D):Nat:=(Cq d).length
def Cb (d:D):Bool:=BL d&&(Cq d).all B5&&(Cq d).all fun x=>Ec x==Ec ((Cq d).getD 0 .non)
theorem p_is_between_int {i a b:Int} {h:HD}:Pu (Hk [.int i,.int a,.int b] h) h (.bl (decide (a≤i)&&decide (i≤b))):=by
 change Wp (AF 3 (MB) [.int i,.int a,.int b] h) _
 refine Eq.mpr (Bl) ?_
 have e:D9 [.int i] h=.ok (.bl true) h:=rfl
 simp [e]
 by_cases h1:a≤i<;>simp [h1,Al,Sm.refl]
theorem Zat {d:D} {a b:Int} {h:HD} (e:D9 [d] h=.ok (.bl false) h):Pu (Hk [d,.int a,.int b] h) h (.bl false):=by
 change Wp (AF 3 (MB) [d,.int a,.int b] h) _
 refine Eq.mpr (Bl) ?_
 simp [e,Sm.refl]
def Hm:D→Bool
 |.int _=>true
 |_=>false
theorem RW {d:D} {h:HD} (p:Plain h d):D9 [d] h=.ok (.bl (Hm d)) h:=by
 cases d with
 |loc l=>
  obtain ⟨ds,e⟩:=p
  have i1:Aw (.loc l) (.ty "int") h=.ok (.bl false) h:=X5 e
  have w:Wp (AF 1 Rh [.loc l] h) fun d h'=>d=.bl false∧h'=h:=by
   refine Eq.mpr Bl ?_
   simp [-Pp,i1]
  obtain ⟨a,h',e',rfl,rfl⟩:=Wp.ex w
  exact e'
 |tup ds=>rfl
 |int i=>rfl
 |bl b=>rfl
 |non=>rfl
 |str x=>rfl
 |edic=>rfl
 |_=>exact p.elim
theorem RX {d:D} (h:Hm d=true):∃i,d=.int i:=by cases d<;>first |exact ⟨_,rfl⟩ |cases h
theorem Zau {d:D} {h:HD} (p:Plain h d):Pu (JW [d] h) h (.bl (Fq d)):=by
 change Wp (AF 1 (RM) [d] h) _
 refine Eq.mpr Bl ?_
 simp
 cases hw:Hm d with
 |true=>
  obtain ⟨i,rfl⟩:=RX hw
  exact p_is_between_int.wp fun h' s=>⟨rfl,s⟩
 |false=>
  have e:=RW p
  rw [hw] at e
  have e2:Fq d=false:=by cases d<;>first |rfl |cases hw
  exact (Zat e).wp fun h' s=>⟨by rw [e2],s⟩
def J0:D→Bool
 |.tup _=>true
 |_=>false
theorem RY {d:D} {h:HD} (p:Plain h d):Aw d (.ty "tuple") h=.ok (.bl (J0 d)) h:=by
 cases d with
 |loc l=>obtain ⟨ds,e⟩:=p;exact X6 e
 |tup ds=>rfl
 |int i=>rfl
 |bl b=>rfl
 |non=>rfl
 |str x=>rfl
 |edic=>rfl
 |_=>exact p.elim
theorem RZ {d:D} (h:J0 d=true):∃ds,d=.tup ds:=by cases d<;>first |exact ⟨_,rfl⟩ |cases h
theorem R0 {d:D} {h:HD} (p:Plain h d):Pu (Gn [d] h) h (.bl (BL d)):=by
 change Wp (AF 1 Rj [d] h) _
 refine Eq.mpr Bl ?_
 cases hT:J0 d with
 |true=>
  obtain ⟨ds,rfl⟩:=RZ hT
  have a1:(1:Int)≤ds.length↔1≤ds.length:=by omega
  have a2:(ds.length:Int)≤8↔ds.length≤8:=by omega
  by_cases h1:1≤ds.length
  ·by_cases h2:ds.length≤8
   ·simp [a1.mpr h1,a2.mpr h2,Al,Sm.refl,BL,h1,h2]
   ·have b2:¬(ds.length:Int)≤8:=by omega
    simp [a1.mpr h1,b2,Al,Sm.refl,BL,h1,h2]
  ·have b1:¬(1:Int)≤ds.length:=by omega
   simp [b1,Al,Sm.refl,BL,h1]
 |false=>
  have:BL d=false:=by cases d<;>first |rfl |cases hT
  simp [RY p,hT,this,Sm.refl]
theorem ML {d:D} (h:BL d=true):∃ds,d=.tup ds∧1≤ds.length∧ds.length≤8:=by
 cases d with
 |tup ds=>exact ⟨ds,rfl,by simpa [BL] using h⟩
 |_=>cases h
theorem Zav {d:D} {h:HD} (p:Plain2 h d):Pu (JY [d] h) h (.bl (B5 d)):=by
 change Wp (AF 1 (RQ) [d] h) _
 refine Eq.mpr (Bl) ?_
 simp
 refine (R0 p.1).wp fun h1 s1=>?_
 cases hl:BL d with
 |false=>simp [B5,hl,s1]
 |true=>
  obtain ⟨ds,rfl,l1,l2⟩:=ML hl
  simp
  refine Pu.wp (IX (src:=[]) (xs:=ds) (φ:=fun x=>x) Fq (fun x=>[some x]) (by rw [List.map_id'];exact IY) (fun x _=>rfl) (fun x hx h' s'=>?_) (by unfold sizeLine;omega)) fun h2 s2=>?_
  ·simp [Pu]
   exact Zau ((p.2 x hx).sm (s1.trans s'))
  ·simp [B5,hl,Cq,s1.trans s2]
theorem R1 {d:D} {h:HD} (hl:BL d=true):By d h=.ok (.int (Ec d:Nat)) h:=by
 obtain ⟨ds,rfl,_,_⟩:=ML hl
 simp [Ec,Cq]
theorem R3 {d:D} (h:B5 d=true):BL d=true:=by unfold B5 at h;exact (qc1.mp h).1
theorem R4 {d:D} {h:HD} (p:Plain3 h d):Pu (JZ [d] h) h (.bl (Cb d)):=by
 change Wp (AF 1 (RS) [d] h) _
 refine Eq.mpr (Bl) ?_
 simp
 refine (R0 p.1).wp fun h1 s1=>?_
 cases hl:BL d with
 |false=>simp [Cb,hl,s1]
 |true=>
  obtain ⟨ds,rfl,l1,l2⟩:=ML hl
  simp
  refine Pu.wp (IX (src:=[]) (xs:=ds) (φ:=fun x=>x) B5 (fun x=>[some x]) (by rw [List.map_id'];exact IY) (fun x _=>rfl) (fun x hx h' s'=>?_) (by unfold sizeLine;omega)) fun h2 s2=>?_
  ·simp [Pu]
   exact Zav ((p.2 x hx).sm (s1.trans s'))
  ·cases ha:ds.all B5 with
   |false=>simp [Cb,hl,Cq,ha,s1.trans s2]
   |true=>
    simp
    have hr:∀x∈ds,B5 x=true:=fun x hx=>qaM.mp ha x hx
    obtain ⟨d0,rest,rfl⟩:∃d0 rest,ds=d0::rest:=by
     cases ds with
     |nil=>simp at l1
     |cons a r=>exact ⟨a,r,rfl⟩
    refine Pu.wp (IX (src:=[]) (xs:=d0::rest) (φ:=fun x=>x) (fun x=>Ec x==Ec d0) (fun x=>[some x,some (.tup (d0::rest))]) (by rw [List.map_id'];exact IY) (fun x _=>rfl) (fun x hx h' s'=>?_) (by unfold sizeLine;omega)) fun h3 s3=>?_
    ·simp [Pu]
     rw [R1 (R3 (hr x hx))]
     simp
     rw [show (0:Int)=((0:Nat):Int) from rfl]
     refine BK (ix_tup (k:=0) rfl) ?_
     simp
     rw [R1 (R3 (hr d0 AU))]
     simp [Sm.refl]
     rw [qb3]
     simp
     omega
    ·have:(d0::rest).all B5=true:=ha
     simp only [Cb,hl,Cq,this,Bool.true_and]
     refine ⟨?_,(s1.trans s2).trans s3⟩
     simp
def lit (x:Bool):D:=.int (if x then 1 else 0)
def Cd (w:Nat) (f:Nat→Bool):D:=.tup ((List.range w).map fun j=>lit (f j))
def bD (h w:Nat) (f:Nat→Nat→Bool):D:=.tup ((List.range h).map fun i=>Cd w (f i))
section
variable {H W:Nat} {h:HD} {f:Nat→Nat→Bool} {r:Nat→Bool}
end
section
variable {h:HD}
variable {H W:Nat} {f:Nat→Nat→Bool} {r:Nat→Bool}
def NoRowD (h:HD) (H W:Nat) (x:D):Prop:=Plain2 h x∧(B5 x=false∨(1<H∧Ec x≠W))
def putD (H W:Nat) (f:Nat→Nat→Bool) (A:Nat) (x:D):D:=.tup (((List.range H).map fun i=>Cd W (f i)).take A++[x]++((List.range H).map fun i=>Cd W (f i)).drop (A+1))
def NoB (h:HD) (d:D):Prop:=Plain3 h d∧Cb d=false
theorem NoB.sm {h':HD} {d:D} (n:NoB h d) (s:Sm h h'):NoB h' d:=⟨n.1.sm s,n.2⟩
end
theorem Plain.smx {b:Nat} {h h':HD} {d:D} (p:Plain h d) (s:Smx b h h') (x:BoxAt h' b):Plain h' d:=by
 cases d with
 |loc l=>
  obtain ⟨ds,e⟩:=p
  by_cases hl:l=b
  ·obtain ⟨n,e'⟩:=x
   exact ⟨_,hl ▸ e'⟩
  ·exact ⟨ds,s _ _ hl e⟩
 |_=>exact p
theorem Plain2.smx {b:Nat} {h h':HD} {d:D} (p:Plain2 h d) (s:Smx b h h') (x:BoxAt h' b):Plain2 h' d:=⟨p.1.smx s x,fun y hy=>(p.2 y hy).smx s x⟩
theorem Plain3.smx {b:Nat} {h h':HD} {d:D} (p:Plain3 h d) (s:Smx b h h') (x:BoxAt h' b):Plain3 h' d:=⟨p.1.smx s x,fun y hy=>(p.2 y hy).smx s x⟩
theorem NoB.smx {b:Nat} {h h':HD} {d:D} (n:NoB h d) (s:Smx b h h') (x:BoxAt h' b):NoB h' d:=⟨n.1.smx s x,n.2⟩
def TabAt (h:HD):Prop:=h[0]?=some .tab
theorem TabAt.sm {h h':HD} (t:TabAt h) (s:Sm h h'):TabAt h':=s _ _ t
theorem TabAt.smx {b:Nat} {h h':HD} (t:TabAt h) (s:Smx b h h') (hb:0<b):TabAt h':=s _ _ (by omega) t
theorem TabAt.pos {h:HD} (t:TabAt h):0<h.length:=(qa1.mp t).1
theorem R5 {b:Nat} {m:Int} {h:HD} {Q:D→HD→Prop} (hx:BoxAt h b) (hb:0<b) (ht:TabAt h) (h1:0<m) (h2:m≤1000) (q:∀(d:Nat) h',(d:Int)<m→BoxAt h' b→TabAt h'→Smx b h h'→Q (.int (d:Nat)) h'):Wp (Bn [.loc b,.int m] h) Q:=
 DL hx (by omega) (by omega) fun d h' d0 d1 x s=>by
  obtain ⟨k,rfl⟩:∃k:Nat,d=(k:Int):=⟨d.toNat,by omega⟩
  exact q k h' (by omega) x (ht.smx s hb) s
theorem BoxAt.lt {b:Nat} {h:HD} (x:BoxAt h b):b<h.length:=let ⟨_,e⟩:=x;(qa1.mp e).1
@[simp] theorem ZfI {ρ:Ae} {a b:D} {i j:Nat}:F0 [i,j] (.tup [a,b]) ρ=some ((ρ.set i (some a)).set j (some b)):=id rfl
theorem all_nil {P:D→Prop}:∀d∈([]:List D),P d:=fun d hd=>by cases hd
theorem all_cons {P:D→Prop} {a:D} {l:List D} (h:P a) (t:∀d∈l,P d):∀d∈a::l,P d:=fun d hd=>by
 rcases qa4.mp hd with rfl |hd
 ·exact h
 ·exact t d hd
theorem Zaw {P:D→Prop} {l r:List D} (h:∀d∈l,P d) (t:∀d∈r,P d):∀d∈l++r,P d:=fun d hd=>by
 rcases qaW.mp hd with hd |hd
 ·exact h d hd
 ·exact t d hd
theorem MM (P:D→Prop) {l o:Nat} {ds:List D} {h:HD} (e:h[l]?=some (.lst ds)) (ho:o<ds.length) (hp:∀d∈ds,P d):∃y,AS (.loc l) (.int (o:Nat)) h=.ok y h∧P y:=
 ⟨ds[o],FV e (Bi ho),hp _ (Fy ho)⟩
def ZfJ (h:HD) (H W l:Nat):Prop:=∃ds:List D,h[l]?=some (.lst ds)∧ds.length≤10∧∀d∈ds,NoRowD h H W d
theorem NoRowD.sm {h h':HD} {H W:Nat} {d:D} (n:NoRowD h H W d) (s:Sm h h'):NoRowD h' H W d:=⟨n.1.sm s,n.2⟩
noncomputable abbrev ZfK:MS:=Ag (Ao 7 (Az [none,some 1,some 2] (AI (Aa 7)) (Ap 0) (AZ) (Af Aj (Af Aj (Jt (Aa 1) (AE) (AC (Aa 2))) (BJ (Ab (Aa 0) (Ac)))) (Jt (Aa 1) (AC (Af Aj (Aa 2) (mC (.int 1)))) (AE))))) (Ag (Ao 7 (Af Aj (Aa 7) (AD (Ab (Ad (Ai Yc) (Ab (Aa 1) (Ac))) (Ab (BJ (Ab (Aa 1) (Ac))) (Ab (Af Cp (BJ (Ab (Af AS (Aa 1) (mC (.int 0))) (Ac))) (mC (.int 9))) (Ab (Af Aj (Aa 1) (BJ (Ab (BJ (Ac)) (Ac)))) (Ab (Af AS (Aa 1) (mC (.int 0))) (Ab (mC .non) (Ab (BJ (Ac)) (Ab (mC (.int 0)) (Ab (mC (.str "")) (Ab (mC .edic) (Ac)))))))))))))) (Aq (Af AS (Aa 7) (Ad Bn (Ab (Aa 0) (Ab (Ad (Ai By) (Ab (Aa 7) (Ac))) (Ac)))))))
theorem NoB.tup {h:HD} {ds:List D} (hp:∀x∈ds,Plain2 h x) (hb:Cb (.tup ds)=false):NoB h (.tup ds):=⟨⟨trivial,hp⟩,hb⟩
theorem MN {i:Int} {h:HD}:D9 [.int i] h=.ok (.bl true) h:=rfl
def Ce (n:Nat):Int→List D→Bool
 |_,[]=>true
 |last,.int i::ds=>decide (last<i∧i<(n:Int))&&Ce n i ds
 |_,_::_=>false
def BM (n:Nat) (d:D):Bool:=match d with
 |.tup ds=>Ce n (-1) ds
 |_=>false
theorem Zax {n:Nat} {last:Int} {x:D} {xs:List D} (h:Hm x=false):Ce n last (x::xs)=false:=by
 cases x<;>first |rfl |(cases h)
inductive R6 (ds:List D) (n:Nat) (h:HD) (xs:List D) (ρ:Ae) (h':HD):Prop where
 |mk (last:Int) (x:Option D) (f0:ρ=[some (.tup ds),some (.int (n:Nat)),some (.int last),x]) (f1:h'=h) (f2:Ce n last xs=Ce n (-1) ds) (f3:∀y∈xs,Plain h y):R6 ds n h xs ρ h'
theorem Zay {d:D} {n:Nat} {h:HD} (p:Plain2 h d):Pu (Hl [d,.int (n:Nat)] h) h (.bl (BM n d)):=by
 change Wp (AF 4 (RC) [d,.int (n:Nat)] h) _
 refine Eq.mpr Bl ?_
 cases hT:J0 d with
 |true=>
  obtain ⟨ds,rfl⟩:=RZ hT
  simp
  refine Ez (src:=[]) (xs:=ds) (fun x=>x) (R6 ds n h) ?_ (fun ys ρ h' _=>DY) ?_ ?_
  ·simp
   exact ⟨-1,_,rfl,rfl,rfl,p.2⟩
  ·rintro x xs ρ h' ⟨last,y,rfl,rfl,e,pl⟩
   refine ⟨_,rfl,?_⟩
   have px:=pl x AU
   cases hx:Hm x with
   |false=>
    simp [RW px,hx,Cn,Sm.refl]
    rw [Zax hx] at e
    simp [BM,←e]
   |true=>
    obtain ⟨i,rfl⟩:=RX hx
    by_cases h1:last<i
    ·by_cases h2:i<(n:Int)
     ·simp [MN,h1,h2,Al,Cn]
      exact ⟨i,_,rfl,rfl,by rw [←e];simp [Ce,h1,h2],fun y hy=>pl y (AV _ hy)⟩
     ·simp [MN,h1,h2,Al,Cn,Sm.refl]
      simp [BM,←e,Ce,h1,h2]
    ·simp [MN,h1,Al,Cn,Sm.refl]
     simp [BM,←e,Ce,h1]
  ·rintro ρ h' ⟨last,y,rfl,rfl,e,_⟩
   simp [Sm.refl,BM,←e,Ce]
 |false=>
  have e:BM n d=false:=by cases d<;>first |rfl |cases hT
  simp [RY p.1,hT,e,Sm.refl]
def swB (H W:Nat) (d:D):Bool:=match d with
 |.tup [a,b]=>BM H a&&BM W b
 |_=>false
section
variable {H W:Nat} {h:HD} {f:Nat→Nat→Bool}
end
def J1 (n:Nat) (p:Nat→Bool):D:=.tup (((List.range n).filter p).map fun i=>.int ((i:Nat):Int))
def swD (h w:Nat) (p q:Nat→Bool):D:=.tup [J1 h p,J1 w q]
section
variable {H W n:Nat} {h:HD} {f:Nat→Nat→Bool} {r p q p' q':Nat→Bool}
end
theorem Smx.over {a b:Nat} {h h1 h2:HD} (s:Smx b h h1) (s2:Smx a h1 h2) (hl:h.length≤a):Smx b h h2:=fun l c n e=>s2 l c (by have:=(qa1.mp e).1;omega) (s l c n e)
theorem Smx.put {a b:Nat} {c:Cell} {h h1:HD} (s:Smx b h h1) (hl:h.length≤a):Smx b h (h1.set a c):=fun l x n e=>by
 rw [Bj (by have:=(qa1.mp e).1;omega)]
 exact s l x n e
theorem Smx.new {b:Nat} {c:Cell} {h h1:HD} (s:Smx b h h1):Smx b h (h1++[c]):=s.trans (EI (.app _ _))
theorem Smx.len {b:Nat} {h h':HD} (s:Smx b h h') (hb:b<h'.length):h.length≤h'.length:=by
 cases e:h.length with
 |zero=>exact B2 _
 |succ n=>
  have hn:n<h.length:=by omega
  by_cases hz:n=b
  ·omega
  ·have:=s n h[n] hz (Bi hn)
   have:=(qa1.mp this).1
   omega
inductive R7 (b:Nat) (h1:HD) (xs:List Nat) (ρ:Ae) (h':HD):Prop where
 |mk (N M:Int) (x:Option D) (f0:ρ=[some (.loc b),some (.int N),some (.int M),x]) (f1:h'=h1):R7 b h1 xs ρ h'
theorem R8 {b:Nat} {h:HD} {Q:D→HD→Prop} (hx:BoxAt h b) (q:∀l h',BoxAt h' b→BoxAt h' l→l≠b→h.length≤l→Smx b h h'→Q (.loc l) h'):Wp (Gp [.loc b] h) Q:=by
 change Wp (AF 4 (RG) [.loc b] h) _
 refine Eq.mpr (Bl) ?_
 simp
 refine DL hx (by decide) (by decide) fun d h1 d0 d1 x1 s1=>?_
 refine Ez (src:=[]) (xs:=List.range 24) (fun i=>.int ((i:Nat):Int)) (R7 b h1) ?_ (fun ys ρ h' _=>DY) ?_ ?_
 ·simp [RU]
  exact ⟨_,_,_,rfl,rfl⟩
 ·rintro x xs ρ h' ⟨N,M,y,rfl,rfl⟩
  refine ⟨_,rfl,?_⟩
  simp
  rw [IZ (by decide) (by decide)]
  simp
  rw [I0 (by decide)]
  simp
  rw [IZ (by decide) (by decide)]
  simp [Cn]
  exact ⟨_,_,_,rfl,rfl⟩
 ·rintro ρ h' ⟨N,M,y,rfl,rfl⟩
  simp
  refine A3 (by simp) fun l h2 s e el _=>?_
  exact q l h2 (x1.sm s) ⟨_,e⟩ (by have:=x1.lt;omega) (by have:=s1.len x1.lt;omega) (s1.trans (EI s))
theorem Zaz {b n:Nat} {h:HD} {Q:D→HD→Prop} (hx:BoxAt h b) (hn:n≤8) (q:∀p h',BoxAt h' b→Smx b h h'→Q (J1 n p) h'):Wp (DJ [.loc b,.int (n:Nat)] h) Q:=by
 change Wp (AF 2 (RI) [.loc b,.int (n:Nat)] h) _
 refine Eq.mpr (Bl) ?_
 simp
 refine OD (src:=[]) (xs:=List.range n) (fun i=>.int ((i:Nat):Int)) (fun h'=>BoxAt h' b∧Smx b h h') (fun _ _=>True) (fun i d=>d=.int ((i:Nat):Int)) (fun i=>[some (.int ((i:Nat):Int)),some (.loc b)]) ?_ (fun _ _=>DY) (fun h c x=>⟨x.1.new,x.2.new⟩) List.nodup_range (sz hn) (fun x _=>rfl) ?_ ?_
 ·simp [FT (show n≤1000 by omega),hx,Smx.refl]
 ·intro x hx h i
  simp
  refine DL i.1 (by decide) (by decide) fun d h1 d0 d1 x1 s1=>?_
  simp [x1,i.2.trans s1]
 ·intro h' g e x1 hr _
  have:((List.range n).filter g).map e=((List.range n).filter g).map fun i=>D.int ((i:Nat):Int):=EJ fun x hx=>hr x (qaY.mp hx).1 (qaY.mp hx).2
  rw [this]
  exact q g h' x1.1 x1.2
theorem ZaA {W:Nat} {rows:List (Nat→Bool)} {H:Nat} (e:rows.length=H):D.tup (rows.map (Cd W))=bD H W fun i=>rows.getD i fun _=>false:=by
 unfold bD
 congr 1
 apply List.ext_getElem
 ·simp [e]
 ·intro i h1 h2
  simp at h1 h2
  simp [Hx,Bi h1]
inductive R9 (b H W:Nat) (way dense:Int) (l2 l3:Nat) (h:HD) (xs:List Nat) (ρ:Ae) (h':HD):Prop where
 |mk (x:Option D) (rows:List (Nat→Bool)) (f0:ρ=[some (.loc b),some (.int (H:Nat)),some (.int (W:Nat)),some (.int way),some (.loc l2),some (.int dense),some (.loc l3),x]) (f1:BoxAt h' b) (f2:BoxAt h' l2) (f3:h'[l3]?=some (.lst (rows.map (Cd W)))) (f4:rows.length+xs.length=H) (f5:Smx b h h'):R9 b H W way dense l2 l3 h xs ρ h'
inductive Sa (b W l2 l3:Nat) (rows:List (Nat→Bool)) (h h':HD):Prop where
 |mk (f1:BoxAt h' b) (f2:BoxAt h' l2) (f3:h'[l3]?=some (.lst (rows.map (Cd W)))) (f4:Smx b h h'):Sa b W l2 l3 rows h h'
theorem ZaB {b H W:Nat} {h:HD} {Q:D→HD→Prop} (hx:BoxAt h b) (hh:1≤H∧H≤8) (hw:1≤W∧W≤8) (q:∀f h',BoxAt h' b→Smx b h h'→Q (bD H W f) h'):Wp (JX [.loc b,.int (H:Nat),.int (W:Nat)] h) Q:=by
 change Wp (AF 8 (RO) [.loc b,.int (H:Nat),.int (W:Nat)] h) _
 refine Eq.mpr (Bl) ?_
 simp [-As]
 refine DL hx (by decide) (by decide) fun way h1 d0 d1 x1 z1=>?_
 simp [-As,As (g:=Ag (Ao 4 _) _)]
 refine R8 x1 fun l2 h2 x2 y2 n2 k2 z2=>?_
 have kl2:h.length≤l2:=by have:=z1.len x1.lt;omega
 refine Eq.mpr (As) ?_
 simp [-As]
 refine A3 (by simp) fun l h3 s3 e3 el3 _=>?_
 obtain ⟨dense,ed⟩:∃dense:Int,AS (.loc l) (.int way) h3=.ok (.int dense) h3:=by
  obtain ⟨w,rfl⟩:∃w:Nat,way=(w:Int):=⟨way.toNat,by omega⟩
  obtain ⟨y,ey,z,rfl⟩:=MM (fun y=>∃i,y=.int i) (o:=w) e3 (by simp;omega) <| all_cons ⟨_,rfl⟩ <| all_cons ⟨_,rfl⟩ <| all_cons ⟨_,rfl⟩ <| all_cons ⟨_,rfl⟩ <| all_cons ⟨_,rfl⟩ all_nil
  exact ⟨z,ey⟩
 refine BK (ed) ?_
 rw [Ca]
 refine Eq.mpr (As) ?_
 simp [-As]
 refine A3 (by simp) fun l3 h4 s4 e4 el4 _=>?_
 have x4:BoxAt h4 b:=(x2.sm s3).sm s4
 have y4:BoxAt h4 l2:=(y2.sm s3).sm s4
 have z4:Smx b h h4:=((z1.trans z2).trans (EI s3)).trans (EI s4)
 have kl3:h.length≤l3:=by have:=(z1.trans z2).len x2.lt;have:=s3.len;omega
 have n3:l3≠b:=by
  obtain ⟨n,e⟩:=x2.sm s3
  have:=(qa1.mp e).1
  omega
 have n4:l3≠l2:=by
  obtain ⟨n,e⟩:=y2.sm s3
  have:=(qa1.mp e).1
  omega
 refine Eq.mpr (As) ?_
 simp [-As]
 refine Ez (src:=[]) (xs:=List.range H) (fun i=>.int ((i:Nat):Int)) (R9 b H W way dense l2 l3 h) ?_ (fun ys ρ h' _=>DY) ?_ ?_
 ·simp [FT (show H≤1000 by omega)]
  exact ⟨_,[],rfl,x4,y4,e4,by simp,z4⟩
 ·rintro x xs ρ h' ⟨y,rows,rfl,x5,y5,e5,hl,z5⟩
  refine ⟨_,rfl,?_⟩
  simp [FU e5]
  refine OD (src:=[]) (xs:=List.range W) (fun i=>.int ((i:Nat):Int)) (Sa b W l2 l3 rows h) (fun _ b=>b=true) (fun i d=>∃r:Bool,d=lit r) (fun i=>[some (.int ((i:Nat):Int)),some (.loc l2),some (.int dense)]) ?_ (fun _ _=>DY) (fun h c x=>by obtain ⟨a1,a2,a3,a4⟩:=x;exact ⟨a1.new,a2.new,Sm.app _ _ _ _ a3,a4.new⟩) List.nodup_range (sz hw.2) (fun x _=>rfl) ?_ ?_
  ·simp [FT (show W≤1000 by omega)]
   exact ⟨x5,y5,e5,z5⟩
  ·intro x hx h i
   simp
   obtain ⟨a1,a2,a3,a4⟩:=i
   refine DL a2 (by decide) (by decide) fun d h1 d0 d1 x1 s1=>?_
   simp only [Ca,Ow,G0,WC,D1,FS,WB,WD]
   exact ⟨⟨a1.smx s1 (Ne.symm n2),x1,s1 _ _ n4 a3,a4.over s1 kl2⟩,by cases decide (d<dense)<;>simp [lit]⟩
  ·intro h6 g e x6 hr tr
   obtain ⟨x61,x62,x63,x64⟩:=x6
   have hr':∃r:Nat→Bool,∀x∈List.range W,e x=lit (r x):=by
    refine ⟨fun x=>if h:x∈List.range W then (hr x h (tr x h)).choose else false,fun x hx=>?_⟩
    simp only [dif_pos hx]
    exact (hr x hx (tr x hx)).choose_spec
   obtain ⟨r,er⟩:=hr'
   have ef:(List.range W).filter g=List.range W:=List.filter_eq_self.mpr tr
   have em:D.tup (((List.range W).filter g).map e)=Cd W r:=by
    rw [ef];unfold Cd;congr 1;exact EJ er
   rw [em]
   simp [IV x63 (show (rows.map (Cd W)).length<sizeLine by simp;unfold sizeLine;omega),Cn]
   have hl3:l3<h6.length:=(qa1.mp x63).1
   refine ⟨_,rows++[r],rfl,?_,?_,?_,?_,x64.put kl3⟩
   ·obtain ⟨n,e⟩:=x61
    exact ⟨n,by rw [Bj n3];exact e⟩
   ·obtain ⟨n,e⟩:=x62
    exact ⟨n,by rw [Bj n4];exact e⟩
   ·rw [BV hl3]
    simp
   ·simp at hl ⊢
    omega
 ·rintro ρ h' ⟨y,rows,rfl,x5,y5,e5,hl,z5⟩
  simp at hl
  simp
  by_cases h3:way=3
  ·simp [h3]
   obtain ⟨r0,rest,rfl⟩:∃r0 rest,rows=r0::rest:=by
    cases rows with
    |nil=>simp at hl;omega
    |cons a r=>exact ⟨a,r,rfl⟩
   rw [show (0:Int)=((0:Nat):Int) from rfl]
   refine BK (FV e5 (k:=0) (a:=Cd W r0) rfl) ?_
   simp
   refine A3 (by simp) fun l5 h5 s5 e6 _ _=>?_
   refine BK (X4) ?_
   refine BK (W7 e6 (by omega)) ?_
   refine A3 (by simp;unfold sizeLine;omega) fun l6 h6 s6 e7 _ _=>?_
   simp [Lf e7]
   have:D.tup (List.replicate H (Cd W r0))=bD H W fun _=>r0:=by
    unfold bD
    congr 1
    apply List.ext_getElem
    ·simp
    ·intro i h1 h2;simp
   rw [this]
   exact q _ _ ((x5.sm s5).sm s6) ((z5.trans (EI s5)).trans (EI s6))
  ·simp [h3,Lf e5]
   rw [ZaA hl]
   exact q _ _ x5 z5
def NoS (h:HD) (H W:Nat) (d:D):Prop:=Plain3 h d∧swB H W d=false
theorem NoS.sm {h h':HD} {H W:Nat} {d:D} (x:NoS h H W d) (s:Sm h h'):NoS h' H W d:=⟨x.1.sm s,x.2⟩
theorem NoS.smx {b:Nat} {h h':HD} {H W:Nat} {d:D} (x:NoS h H W d) (s:Smx b h h') (xb:BoxAt h' b):NoS h' H W d:=⟨x.1.smx s xb,x.2⟩
def MP (c:Str):List V:=[.bl (Br c "NoBoard"),.bl (Br c "NoLine"),.bl (Br c "NoSwitching"),.bl (Br c "NoNumber"),.bl (Br c "Unlike"),.bl (Br c "NoNet"),.bl (Br c "NoPlace"),.bl (Br c "NoText"),.bl (Br c "NoRow"),.bl (Br c "TooMany")]
def ZaC:List D:=[.str "board",.str "line",.str "switching",.str "number",.str "unlike",.str "net",.str "place",.str "text",.str "row"]
theorem ZaD {c w t:Str} {j:Nat} {h:HD} (hc:c∈excNames) (hn:FW (.bl true) (MP c)=1) (h9:Br c "TooMany"=false) (hj:Jj (.bl true) (MP c)=some j) (hw:ZaC[j]?=some (.str w)) (hz:((("! ":String):Str)).length+w.length≤1000) (ht:((("! ":String):Str))++w=t):Pu (EH [.exc c []] h) h (.str t):=by
 have i0:∀h,Aw (.exc c []) (.glo "NoBoard") h=.ok (.bl (Br c "NoBoard")) h:=fun h=>DF hc (by decide +kernel)
 have i1:∀h,Aw (.exc c []) (.glo "NoLine") h=.ok (.bl (Br c "NoLine")) h:=fun h=>DF hc (by decide +kernel)
 have i2:∀h,Aw (.exc c []) (.glo "NoSwitching") h=.ok (.bl (Br c "NoSwitching")) h:=fun h=>DF hc (by decide +kernel)
 have i3:∀h,Aw (.exc c []) (.glo "NoNumber") h=.ok (.bl (Br c "NoNumber")) h:=fun h=>DF hc (by decide +kernel)
 have i4:∀h,Aw (.exc c []) (.glo "Unlike") h=.ok (.bl (Br c "Unlike")) h:=fun h=>DF hc (by decide +kernel)
 have i5:∀h,Aw (.exc c []) (.glo "NoNet") h=.ok (.bl (Br c "NoNet")) h:=fun h=>DF hc (by decide +kernel)
 have i6:∀h,Aw (.exc c []) (.glo "NoPlace") h=.ok (.bl (Br c "NoPlace")) h:=fun h=>DF hc (by decide +kernel)
 have i7:∀h,Aw (.exc c []) (.glo "NoText") h=.ok (.bl (Br c "NoText")) h:=fun h=>DF hc (by decide +kernel)
 have i8:∀h,Aw (.exc c []) (.glo "NoRow") h=.ok (.bl (Br c "NoRow")) h:=fun h=>DF hc (by decide +kernel)
 have i9:∀h,Aw (.exc c []) (.glo "TooMany") h=.ok (.bl (Br c "TooMany")) h:=fun h=>DF hc (by decide +kernel)
 have iv:∀h,Aw (.exc c []) (.ty "ValueError") h=.ok (.bl true) h:=fun h=>X7 hc
 change Wp (AF 3 Rv [.exc c []] h) _
 refine Eq.mpr Bl ?_
 simp [-As,i0,i1,i2,i3]
 refine A3 (by simp) fun l1 h1 s1 e1 _ _=>?_
 refine Eq.mpr As ?_
 simp [-As,i4,i5,i6,i7]
 refine A3 (by simp) fun l2 h2 s2 e2 _ _=>?_
 refine BK (Pq (s2 _ _ e1) e2) ?_
 refine A3 (by simp) fun l3 h3 s3 e3 _ _=>?_
 refine Eq.mpr As ?_
 simp [-As,i8,i9]
 refine A3 (by simp) fun l4 h4 s4 e4 _ _=>?_
 refine BK (Pq (s4 _ _ e3) e4) ?_
 refine A3 (by simp) fun l5 h5 s5 e5 _ _=>?_
 refine Eq.mpr As ?_
 simp [-As,iv,FU e5]
 refine BK ((X9 (vs:=MP c) e5 rfl rfl).trans (by rw [hn])) ?_
 simp [-As]
 refine Eq.mpr As ?_
 simp [-As]
 rw [show (9:Int)=((9:Nat):Int) from rfl]
 refine BK (FV e5 (k:=9) rfl) ?_
 simp [-As,h9]
 refine Eq.mpr As ?_
 simp [-As]
 refine A3 (by simp) fun l6 h6 s6 e6 _ _=>?_
 refine Eq.mpr As ?_
 simp [FU (s6 _ _ e5)]
 refine BK (Yb (s6 _ _ e5) rfl rfl hj) ?_
 simp only [Ca]
 refine BK (FV e6 hw) ?_
 simp only [Ca]
 refine BK (X8 hz) ?_
 exact ⟨congrArg D.str ht,((((s1.trans s2).trans s3).trans s4).trans s5).trans s6⟩
theorem AJ {n:Nat} (h:n≤1000):n≤sizeLine:=by unfold sizeLine;omega
theorem Sb (c:Nat):∀l,(Ak c l).length≤l.length+1∧∀p∈Ak c l,p.length≤l.length
 |[]=>by simp [Ak]
 |a::l=>by
  obtain ⟨h1,h2⟩:=Sb c l
  unfold Ak
  split
  ·refine ⟨by simpa using h1,fun p hp=>?_⟩
   rcases qa4.mp hp with rfl |hp
   ·simp
   ·have:=h2 p hp;simp;omega
  ·generalize Ak c l=m at h1 h2
   match m with
   |[]=>simp
   |q::ps=>
    refine ⟨by simpa using Nat.le_succ_of_le h1,fun p hp=>?_⟩
    rcases qa4.mp hp with rfl |hp
    ·have:=h2 q (.head _);simp;omega
    ·have:=h2 p (.tail _ hp);simp;omega
def Cf (s l:List Nat):D:=.tup (l.map fun c=>.int (Bh c s))
def Cg (L:List Nat):D:=.tup ((Ak 47 L).map (Cf [46,35]))
section
variable {h:HD}
theorem MQ {s l:List Nat}:Plain2 h (Cf s l):=⟨trivial,fun x hx=>by
 obtain ⟨c,_,rfl⟩:=qaU.mp hx
 trivial⟩
theorem Se {L:List Nat}:Plain3 h (Cg L):=⟨trivial,fun x hx=>by
 obtain ⟨c,_,rfl⟩:=qaU.mp hx
 exact MQ⟩
theorem Hn {l s:List Nat} (hl:l.length≤1000):Pu (DI [.str (tx l),.str (tx s)] h) h (Cf s l):=by
 change Wp (AF 2 My [.str (tx l),.str (tx s)] h) _
 refine Eq.mpr Bl ?_
 simp only [My,Lc,WH]
 refine Pu.wp (IW (src:=[]) (xs:=l) (φ:=fun c=>.str (tx [c])) (fun c=>.int (Bh c s)) (fun c=>[some (.str (tx [c])),some (.str (tx s))]) (JH (i:=0) rfl) (fun x _=>rfl) (fun x _ h' _=>?_) (AJ hl)) fun h2 s2=>⟨rfl,s2⟩
 simp [Pu]
 rw [ZG]
 exact ⟨rfl,.refl _⟩
theorem p_need_text {x:Str}:Pu (Fp [.str x] h) h .non:=by
 change Wp (AF 1 JQ [.str x] h) _
 refine Eq.mpr Bl ?_
 have e:Aw (.str x) (.ty "str") h=.ok (.bl true) h:=rfl
 simp [e,Sm.refl]
theorem Sg {L:List Nat} (hl:L.length≤900) {c:Option D}:Pu (G2 [none] (AI (Ba A8 De (Aa 0) (mC (.str "/")))) (Ap 0) AZ (Ad DI (Ab (Aa 0) (Ab (mC (.str ".#")) Ac))) [some (.str (tx L)),c] h) h (Cg L):=by
 have hsz:L.length≤sizeLine:=AJ (by omega)
 obtain ⟨n1,n2⟩:=Sb 47 L
 have e0:De (.str (tx L)) (.str "/") h=Bg ((Ak 47 L).map fun l=>.str (tx l)) h:=by
  rw [show ("/":Str)=tx [47] from rfl,QE hsz]
 have hz:((Ak 47 L).map fun l=>D.str (tx l)).length≤sizeLine:=by rw [Bo];exact AJ (by omega)
 refine Pu.eq (IW (src:=[(h.length,(Ak 47 L).map fun l=>.str (tx l))]) (xs:=Ak 47 L) (φ:=fun l=>.str (tx l)) (fun l=>Cf [46,35] l) (fun l=>[some (.str (tx l))]) ?_ (fun x _=>rfl) (fun x hx h' _=>?_) (AJ (by omega))) rfl
 ·unfold Do
  simp only [Oy,Pr,G0,A8,Ca]
  show Wp (De (.str (tx L)) (.str "/") h) _
  rw [e0,Bg,if_pos hz]
  show Wp (CD (.loc h.length) _) _
  simp [CD,A7,EY]
  refine ⟨.app _ _,fun h2 s2=>?_⟩
  refine GW (s2 _ _ ?_)
  simp
 ·simp [Pu]
  rw [show (".#":Str)=tx [46,35] from rfl]
  refine Pu.wp (Hn (by have:=n2 x hx;omega)) fun h3 s3=>⟨rfl,s3⟩
theorem ZaE {L:List Nat} (hl:L.length≤900) (hb:Cb (Cg L)=true):Pu (CL [.str (tx L)] h) h (Cg L):=by
 change Wp (AF 2 DK [.str (tx L)] h) _
 refine Eq.mpr Bl ?_
 change Wp (DK [some (.str (tx L)),none] h) _
 simp only [DK,A9,Ov,D0,Dz,G0,D1]
 refine p_need_text.wp fun h1 s1=>?_
 refine Eq.mpr As ?_
 rw [A9,DZ]
 refine (Sg hl).wp fun h2 s2=>?_
 refine Eq.mpr As ?_
 simp
 refine (R4 Se).wp fun h3 s3=>?_
 simp [hb,(s1.trans s2).trans s3]
theorem ZaF {L:List Nat} (hl:L.length≤900) (hb:Cb (Cg L)=false):Er (CL [.str (tx L)] h) h "NoText":=by
 change We (AF 2 DK [.str (tx L)] h) _ _
 refine Eq.mpr G6 ?_
 change We (DK [some (.str (tx L)),none] h) _ _
 simp only [DK,E7,Jm,Jn,Jp,Jq,Jo]
 refine p_need_text.we fun h1 s1=>?_
 simp
 refine (Sg hl).we fun h2 s2=>?_
 refine (R4 Se).we fun h3 s3=>?_
 simp [hb,(s1.trans s2).trans s3,CI]
end
@[simp] theorem ZaG {ρ:Ae} {a b c:D} {i j k:Nat}:F0 [i,j,k] (.tup [a,b,c]) ρ=some (((ρ.set i (some a)).set j (some b)).set k (some c)):=id rfl
@[simp] theorem ZaH {sg:MG} {f:ME} {ρ:Ae} {h:HD} {Q:Fl×Ae→HD→Prop} {R:Str→List (Str×D)→HD→Prop}:We (EX sg f ρ h) Q R=We (f ρ h) (fun d h1=>We (IP (sg d ρ) h1) Q R) R:=by unfold EX;rw [BH];rfl
def BZ:List Nat:=[48,49,50,51,52,53,54,55,56,57]
theorem Sh (c:Nat):∀(l a b:List Nat),BF c l=some (a,b)→a.length≤l.length∧b.length≤l.length
 |[],a,b,h=>by cases h
 |x::l,a,b,h=>by
  unfold BF at h
  split at h
  ·simp at h;obtain ⟨rfl,rfl⟩:=h;simp
  ·obtain ⟨p,hp,e⟩:=qaO.mp h
   simp at e
   obtain ⟨rfl,rfl⟩:=e
   have:=Sh c l p.1 p.2 hp
   simp;omega
theorem Si (c:Nat) (l:List Nat):(Au c l).1.length≤l.length∧(Au c l).2.2.length≤l.length:=by
 unfold Au
 split
 ·rename_i a b e
  exact Sh c l a b e
 ·simp
def Cr (L:List Nat):D:=Cf BZ (Au 99 L).1.tail
def Cs (L:List Nat):D:=Cf BZ (Au 99 L).2.2
def Dp (L:List Nat):Bool:=decide ((Au 99 L).1.head?=some 114)&&(tx (Au 99 L).2.1==tx [99])
def Ct (L:List Nat):Bool:=Dp L&&(BM 8 (Cr L)&&BM 8 (Cs L))
section
variable {h:HD}
theorem Sj {L:List Nat}:Pu (Lg [none] (AI (Aa 4)) (Ap 0) AZ (Ad Hl (Ab (Aa 0) (Ab (mC (.int 8)) Ac))) [some (.str (tx L)),some (.str (tx (Au 99 L).1)),some (.str (tx (Au 99 L).2.1)),some (.str (tx (Au 99 L).2.2)),some (.tup [Cr L,Cs L]),some (.bl (Dp L))] h) h (.bl (BM 8 (Cr L)&&BM 8 (Cs L))):=by
 refine Pu.eq (IX (src:=[]) (xs:=[Cr L,Cs L]) (φ:=fun x=>x) (fun x=>BM 8 x) (fun x=>[some x]) (Lh rfl) (fun x _=>rfl) (fun x hx h' s'=>?_) (AJ (by simp))) (by simp)
 simp [Pu]
 have px:Plain2 h' x:=by
  rcases qa4.mp hx with rfl |hx
  ·exact MQ
  ·cases qaI.mp hx
   exact MQ
 exact (Zay (n:=8) px).wp fun h5 s5=>⟨rfl,s5⟩
theorem ZaI {L:List Nat} (hl:L.length≤900) (hb:Ct L=true):Pu (CK [.str (tx L)] h) h (.tup [Cr L,Cs L]):=by
 change Wp (AF 6 Ea [.str (tx L)] h) _
 refine Eq.mpr Bl ?_
 obtain ⟨l1,l2⟩:=Si 99 L
 change Wp (Ea [some (.str (tx L)),none,none,none,none,none] h) _
 simp only [Ea,A9,Ov,D0,Dz,G0,D1]
 refine p_need_text.wp fun h1 s1=>?_
 refine Eq.mpr As ?_
 rw [A9]
 have e1:D7 (.str (tx L)) (.str "c") h1=.ok (.tup [.str (tx (Au 99 L).1),.str (tx (Au 99 L).2.1),.str (tx (Au 99 L).2.2)]) h1:=by
  rw [show ("c":Str)=tx [99] from rfl,QF (AJ (by omega))]
 simp [e1]
 rw [Gg (AJ (by omega)),Mf]
 simp
 rw [show ("0123456789":Str)=tx BZ from rfl]
 refine (Hn (by rw [List.length_tail];omega)).wp fun h2 s2=>?_
 refine (Hn (by omega)).wp fun h3 s3=>?_
 rw [show ("r":Str)=tx [114] from rfl,show ("c":Str)=tx [99] from rfl,QG]
 simp only [Ct,Dp,Bf,decide_eq_true_eq] at hb
 obtain ⟨⟨b1,b2⟩,b3,b4⟩:=hb
 have hH:Dp L=true:=by simp [Dp,b1,b2]
 have pl:=Sj (h:=h3) (L:=L)
 rw [hH] at pl
 rw [b1]
 simp [b2]
 refine pl.wp fun h4 s4=>?_
 simp [b3,b4]
 exact ⟨⟨rfl,rfl⟩,((s1.trans s2).trans s3).trans s4⟩
theorem ZaJ {L:List Nat} (hl:L.length≤900) {c4 c5:Option D}:Pu (BJ (Ab (Ad DI (Ab (AG (Aa 1) (AC (mC (.int 1))) AE) (Ab (mC (.str "0123456789")) Ac))) (Ab (Ad DI (Ab (Aa 3) (Ab (mC (.str "0123456789")) Ac))) Ac)) [some (.str (tx L)),some (.str (tx (Au 99 L).1)),some (.str (tx (Au 99 L).2.1)),some (.str (tx (Au 99 L).2.2)),c4,c5] h) h (.tup [Cr L,Cs L]):=by
 obtain ⟨l1,l2⟩:=Si 99 L
 unfold Pu
 simp
 rw [Gg (AJ (by omega)),Mf]
 simp
 rw [show ("0123456789":Str)=tx BZ from rfl]
 refine (Hn (by rw [List.length_tail];omega)).wp fun h2 s2=>?_
 refine (Hn (by omega)).wp fun h3 s3=>?_
 exact ⟨⟨rfl,rfl⟩,s2.trans s3⟩
theorem p_readH {L:List Nat} {c0 c3 c4 c5:Option D}:Pu (DU (Ba A8 Hd (Aa 1) (mC (.str "r"))) (Af BQ (Aa 2) (mC (.str "c"))) [c0,some (.str (tx (Au 99 L).1)),some (.str (tx (Au 99 L).2.1)),c3,c4,c5] h) h (.bl (Dp L)):=by
 unfold Pu
 simp
 rw [show ("r":Str)=tx [114] from rfl,show ("c":Str)=tx [99] from rfl,QG]
 by_cases b1:(Au 99 L).1.head?=some 114
 ·simp [Dp,b1,Sm.refl]
 ·simp [Dp,b1,Sm.refl]
theorem ZaK {L:List Nat} (hl:L.length≤900) (hb:Ct L=false):Er (CK [.str (tx L)] h) h "NoText":=by
 change We (AF 6 Ea [.str (tx L)] h) _ _
 refine Eq.mpr G6 ?_
 change We (Ea [some (.str (tx L)),none,none,none,none,none] h) _ _
 simp only [Ea,E7,Jm,Jn,Jp,Jq,Jo]
 refine p_need_text.we fun h1 s1=>?_
 have pe:Pu (Ba A8 D7 (Aa 0) (mC (.str "c")) [some (.str (tx L)),none,none,none,none,none] h1) h1 (.tup [.str (tx (Au 99 L).1),.str (tx (Au 99 L).2.1),.str (tx (Au 99 L).2.2)]):=by
  have e1:D7 (.str (tx L)) (.str "c") h1=.ok (.tup [.str (tx (Au 99 L).1),.str (tx (Au 99 L).2.1),.str (tx (Au 99 L).2.2)]) h1:=by
   rw [show ("c":Str)=tx [99] from rfl,QF (AJ (by omega))]
  simp [Pu,e1,Sm.refl]
 simp only [X2,E7,ZaH]
 refine pe.we fun h2 s2=>?_
 simp only [ZaG]
 refine Eq.mpr (show We (IP (some _) h2) _ _=_ from rfl) ?_
 show We (Ag _ _ [some (.str (tx L)),some (.str (tx (Au 99 L).1)),some (.str (tx (Au 99 L).2.1)),some (.str (tx (Au 99 L).2.2)),none,none] h2) _ _
 rw [E7,Pj]
 refine (ZaJ hl).we fun h3 s3=>?_
 show We (Ag _ _ [some (.str (tx L)),some (.str (tx (Au 99 L).1)),some (.str (tx (Au 99 L).2.1)),some (.str (tx (Au 99 L).2.2)),some (.tup [Cr L,Cs L]),none] h3) _ _
 rw [E7,Pj]
 refine p_readH.we fun h4 s4=>?_
 show We (Ag _ _ [some (.str (tx L)),some (.str (tx (Au 99 L).1)),some (.str (tx (Au 99 L).2.1)),some (.str (tx (Au 99 L).2.2)),some (.tup [Cr L,Cs L]),some (.bl (Dp L))] h4) _ _
 have ss:=((s1.trans s2).trans s3).trans s4
 cases hH:Dp L with
 |false=>
  simp [CI]
  exact ss
 |true=>
  have pl:=Sj (h:=h4) (L:=L)
  have b3:(BM 8 (Cr L)&&BM 8 (Cs L))=false:=by rw [Ct,hH] at hb;simpa using hb
  rw [hH,b3] at pl
  simp
  refine pl.we fun h5 s5=>?_
  simp [CI]
  exact ss.trans s5
end
theorem ZaL (c:Nat):Fq (.int (Bh c [46,35]))=decide (c=46∨c=35):=by
 by_cases h1:c=46
 ·subst h1;rfl
 ·by_cases h2:c=35
  ·subst h2;rfl
  ·have e:Bh c [46,35]=-1:=by
    unfold Bh
    have:A1 c [46,35] 0=[]:=by simp [A1,Ne.symm h1,Ne.symm h2]
    rw [this]
   rw [e]
   simp [Fq,h1,h2]
theorem Sk {c:Nat} (h:c=46∨c=35):Bh c [46,35]=if c=35 then 1 else 0:=by
 rcases h with rfl |rfl<;>rfl
theorem Sl (c:Nat):∀(l:List Nat) (x:Nat),(∃p∈Ak c l,x∈p)↔x∈l∧x≠c
 |[],x=>by simp [Ak]
 |a::l,x=>by
  have ih:=Sl c l x
  unfold Ak
  split
  ·rename_i e
   subst e
   simp only [qa4,exists_eq_or_imp,EL,false_or]
   rw [ih]
   exact ⟨fun z=>⟨.inr z.1,z.2⟩,fun z=>⟨z.1.resolve_left z.2,z.2⟩⟩
  ·rename_i hne
   have hn:=DH c l
   generalize Ak c l=m at ih hn
   match m with
   |[]=>exact absurd rfl hn
   |q::ps=>
    simp only [qa4,exists_eq_or_imp] at ih ⊢
    constructor
    ·rintro ((rfl |z) |z)
     ·exact ⟨.inl rfl,hne⟩
     ·have:=ih.mp (.inl z);exact ⟨.inr this.1,this.2⟩
     ·have:=ih.mp (.inr z);exact ⟨.inr this.1,this.2⟩
    ·rintro ⟨rfl |z,z2⟩
     ·exact .inl (.inl rfl)
     ·rcases ih.mpr ⟨z,z2⟩ with y |y
      ·exact .inl (.inr y)
      ·exact .inr y
theorem ZaM (r:List Nat):B5 (Cf [46,35] r)=(decide (1≤r.length∧r.length≤8)&&r.all fun c=>decide (c=46∨c=35)):=by
 unfold B5 Cf
 simp only [BL,Cq,Bo,List.all_map]
 congr 1
 ·simp
 ·congr 1
  funext c
  exact ZaL c
def Dh (L:List Nat):Bool:=decide ((∀c∈L,c=46∨c=35∨c=47)∧(Ak 47 L).length≤8∧(1≤((Ak 47 L).getD 0 []).length∧((Ak 47 L).getD 0 []).length≤8)∧∀r∈Ak 47 L,r.length=((Ak 47 L).getD 0 []).length)
theorem Sn (L:List Nat):Cb (Cg L)=Dh L:=by
 have hne:=DH 47 L
 have hm:=Sl 47 L
 have hs:(∀c∈L,c=46∨c=35∨c=47)↔∀r∈Ak 47 L,∀c∈r,c=46∨c=35:=by
  constructor
  ·intro z r hr c hc
   have:=(hm c).mp ⟨r,hr,hc⟩
   rcases z c this.1 with e |e |e
   ·exact .inl e
   ·exact .inr e
   ·exact absurd e this.2
  ·intro z c hc
   by_cases e:c=47
   ·exact .inr (.inr e)
   ·obtain ⟨r,hr,hcr⟩:=(hm c).mpr ⟨hc,e⟩
    rcases z r hr c hcr with e |e
    ·exact .inl e
    ·exact .inr (.inl e)
 unfold Dh
 rw [qb3,decide_eq_true_eq,hs]
 unfold Cg Cb
 simp only [BL,Cq,Bo,List.all_map,Bf,decide_eq_true_eq,qaM,Function.comp,ZaM,beq_iff_eq]
 generalize Ak 47 L=m at hne
 match m,hne with
 |q::ps,_=>
  have l0:∀r,Ec (Cf [46,35] r)=r.length:=fun r=>by simp [Ec,Cf,Cq]
  simp only [A4,List.getD_cons_zero,l0]
  constructor
  ·rintro ⟨⟨⟨a1,a2⟩,a3⟩,a4⟩
   exact ⟨fun r hr c hc=>(a3 r hr).2 c hc,by simpa using a2,(a3 q (.head _)).1,a4⟩
  ·rintro ⟨b1,b2,b3,b4⟩
   refine ⟨⟨⟨by simp,by simpa using b2⟩,fun r hr=>⟨?_,b1 r hr⟩⟩,b4⟩
   rw [b4 r hr];exact b3
theorem ZaN {h:HD} {l:Nat} {ds:List D} {x:D} (E:h[l]?=some (.lst (ds++[x]))):AS (.loc l) (.int (-1)) h=.ok x h:=by
 have e1:BC (ds++[x]) (-1)=some x:=by
  have h1:B8 (ds++[x]).length (-1)=some ds.length:=by
   unfold B8
   rw [if_neg (by decide)]
   simp
   omega
  unfold BC
  rw [h1]
  simp
 simp only [AS,A7,E,e1]
def Fs (l:List Nat):Cell:=.lst (l.map fun c=>.int (Bh c [46,35]))
inductive Rws (h h':HD) (R:Nat) (rs:List (Nat×List Nat)):Prop where
 |mk (sm:Sm h h') (hR:h.length≤R) (eR:h'[R]?=some (.lst (rs.map fun p=>.loc p.1))) (er:∀p∈rs,h'[p.1]?=some (Fs p.2)) (nR:∀p∈rs,p.1≠R∧h.length≤p.1) (nd:(rs.map (·.1)).Nodup):Rws h h' R rs
theorem Rws.newRow {h h':HD} {R:Nat} {rs:List (Nat×List Nat)} (x:Rws h h' R rs):Rws h ((h'++[Cell.lst []]).set R (Cell.lst ((rs++[(h'.length,[])]).map fun (p:Nat×List Nat)=>D.loc p.1))) R (rs++[(h'.length,[])]):=by
 obtain ⟨sm,hR,eR,er,nR,nd⟩:=x
 have hRl:R<h'.length:=(qa1.mp eR).1
 have lt:∀p∈rs,p.1<h'.length:=fun p hp=>(qa1.mp (er p hp)).1
 refine ⟨fun l c e=>?_,hR,?_,fun p hp=>?_,fun p hp=>?_,?_⟩
 ·have hl:l<h.length:=(qa1.mp e).1
  have e2:=sm l c e
  have hl2:l<h'.length:=(qa1.mp e2).1
  rw [Bj (by omega),Dr hl2]
  exact e2
 ·rw [BV (by simp;omega)]
 ·rcases qaW.mp hp with hp |hp
  ·have:=lt p hp
   rw [Bj (Ne.symm (nR p hp).1),Dr this]
   exact er p hp
  ·cases qaI.mp hp
   show ((h'++[Cell.lst []]).set R _)[h'.length]?=_
   rw [Bj (by omega)]
   simp [Fs]
 ·rcases qaW.mp hp with hp |hp
  ·exact nR p hp
  ·cases qaI.mp hp
   refine ⟨by omega,?_⟩
   show h.length≤h'.length
   omega
 ·rw [HK,GC]
  refine ⟨nd,by simp,fun a ha b hb=>?_⟩
  obtain ⟨p,hp,rfl⟩:=qaU.mp ha
  simp at hb
  subst hb
  exact Bd (lt p hp)
theorem Rws.newSign {h h':HD} {R k:Nat} {rs:List (Nat×List Nat)} {l:List Nat} {c:Nat} (x:Rws h h' R (rs++[(k,l)])):Rws h (h'.set k (Fs (l++[c]))) R (rs++[(k,l++[c])]):=by
 obtain ⟨sm,hR,eR,er,nR,nd⟩:=x
 have hk:=nR (k,l) (by simp)
 have hkl:k<h'.length:=(qa1.mp (er (k,l) (by simp))).1
 rw [HK,GC] at nd
 refine ⟨fun i d e=>?_,hR,?_,fun p hp=>?_,fun p hp=>?_,?_⟩
 ·have hl:i<h.length:=(qa1.mp e).1
  have hk2:h.length≤k:=hk.2
  rw [Bj (by omega)]
  exact sm i d e
 ·rw [Bj hk.1,eR]
  simp
 ·rcases qaW.mp hp with hp |hp
  ·have hne:p.1≠k:=nd.2.2 p.1 (qaU.mpr ⟨p,hp,rfl⟩) k (by simp)
   rw [Bj (Ne.symm hne)]
   exact er p (Gz _ hp)
  ·cases qaI.mp hp
   exact BV hkl
 ·rcases qaW.mp hp with hp |hp
  ·exact nR p (Gz _ hp)
  ·cases qaI.mp hp
   exact hk
 ·rw [HK,GC]
  exact nd
inductive Gr (L:List Nat) (h:HD) (cs:List Nat) (ρ:Ae) (h':HD):Prop where
 |mk (R k:Nat) (rs:List (Nat×List Nat)) (l:List Nat) (x:Option D) (c3:List (Option D)) (f0:ρ=some (.str (tx L))::some (.loc R)::x::c3) (f1:Rws h h' R (rs++[(k,l)]))
  (f2:Ak 47 L=rs.map (·.2)++(l++(Ak 47 cs).headD [])::(Ak 47 cs).tail) (f3:(∀c∈L,c=46∨c=35∨c=47)↔∀c∈cs,c=46∨c=35∨c=47) (f4:rs.length+l.length+cs.length≤901):Gr L h cs ρ h'
noncomputable def MR:MS:=AQ (AO (Af BQ (Aa 2) (mC (.str "/")))) (Cm (Dm (Aa 1) (AD (Ac)))) (AQ (AO (Af (EW false) (Aa 2) (BJ (Ab (mC (.str ".")) (Ab (mC (.str "#")) (Ac)))))) (Cm (Dm (Af AS (Aa 1) (GZ (mC (.int 1)))) (Ad (Ai intOfD) (Ab (Af BQ (Aa 2) (mC (.str "#"))) (Ac))))) (Aq (mC .non)))
theorem Gs (a b:Nat):(tx [a]==tx [b])=decide (a=b):=by
 by_cases h:a=b
 ·subst h;simp
 ·rw [decide_eq_false h,beq_eq_false_iff_ne]
  intro e
  exact h (by simpa [tx] using e)
theorem ZaO (c:Nat) (h:HD):EW false (.str (tx [c])) (.tup [.str ".",.str "#"]) h=.ok (.bl (decide (c=46∨c=35))) h:=by
 show Out.ok (D.bl ((tx [46]==tx [c])||((tx [35]==tx [c])||false))) h=_
 congr 2
 rw [Gs,Gs,GG,qb3]
 simp only [FA,decide_eq_true_eq]
 omega
theorem ZaP {L:List Nat} {h h0:HD} {ρ0:Ae} {Q:Fl×Ae→HD→Prop} (hl:L.length≤900) (i0:Gr L h L ρ0 h0)
 (qn:∀ρ h',Sm h h'→Dh L=false→Q (.rt .non,ρ) h') (qe:∀ρ h',Gr L h [] ρ h'→Q (.nx,ρ) h'):
 Wp (Bq (Df (Aa 0)) (Ap 2) MR ρ0 h0) Q:=by
 refine Ez (src:=[]) (xs:=L) (fun c=>.str (tx [c])) (Gr L h) ?_ (fun ys ρ h' _=>DY) ?_ qe
 ·have hi:=id i0
  obtain ⟨R,k,rs,l,x,c3,rfl,_,_,_,_⟩:=i0
  have:=JH (l:=L) (ρ:=some (.str (tx L))::some (.loc R)::x::c3) (h:=h0) (i:=0) rfl
  simp [Aa,Gf,Fh]
  exact hi
 ·rintro c cs ρ h' ⟨R,k,rs,l,x,c3,rfl,X,f2,f3,f4⟩
  refine ⟨_,rfl,?_⟩
  have hX:=id X
  obtain ⟨sm,hR,eR,er,nR,nd⟩:=X
  unfold MR
  by_cases h1:c=47
  ·subst h1
   simp
   rw [if_pos (show tx [47]=Str.ofString "/" from rfl)]
   simp [FU eR]
   refine A3 (by simp) fun n h2 s2 e2 en eh=>?_
   subst eh en
   have hRl:R<h'.length:=(qa1.mp eR).1
   have eR2:(h'++[Cell.lst []])[R]?=some (.lst ((rs++[(k,l)]).map fun p=>.loc p.1)):=s2 _ _ eR
   rw [IV eR2 (by rw [Bo];simp;simp at f4;exact AX (by omega) (AJ (Am 1000)))]
   simp only [Ca,Cn]
   have hn:=hX.newRow
   refine ⟨R,h'.length,rs++[(k,l)],[],_,c3,rfl,?_,?_,?_,?_⟩
   ·simpa using hn
   ·have e:Ak 47 (47::cs)=[]::Ak 47 cs:=by rw [Ak,if_pos rfl]
    rw [f2,e]
    have hne:=DH 47 cs
    generalize Ak 47 cs=m at hne
    match m,hne with
    |q::ps,_=>simp
   ·rw [f3]
    exact ⟨fun z c hc=>z c (.tail _ hc),fun z c hc=>by
     rcases qa4.mp hc with rfl |hc
     ·exact .inr (.inr rfl)
     ·exact z c hc⟩
   ·simp at f4 ⊢;omega
  ·have e1:¬tx [c]=Str.ofString "/":=fun e=>h1 (by have:=(Gs c 47);rw [show tx [c]=tx [47] from e] at this;simpa using this.symm)
   have e:Ak 47 (c::cs)=(match Ak 47 cs with
    |[]=>[[c]]
    |p::ps=>(c::p)::ps):=by rw [Ak,if_neg h1]<;>rfl
   simp
   rw [if_neg e1]
   simp [ZaO]
   by_cases h2:c=46∨c=35
   ·have eR':h'[R]?=some (.lst (rs.map (fun p=>D.loc p.1)++[.loc k])):=by rw [eR];simp
    have ek:=er (k,l) (by simp)
    have hsz:(l.map fun c=>D.int (Bh c [46,35])).length<sizeLine:=by
     rw [Bo];simp at f4;exact AX (by omega) (AJ (Am 1000))
    have ek':h'[k]?=some (.lst (l.map fun c=>D.int (Bh c [46,35]))):=ek
    have ei:LS.intOfD (.bl (tx [c]==Str.ofString "#")) h'=.ok (.int (Bh c [46,35])) h':=by
     rw [show Str.ofString "#"=tx [35] from rfl,Gs,Sk h2]
     by_cases e:c=35<;>simp [LS.intOfD,e]
    simp [h2]
    have ev:(if tx [c]=Str.ofString "#" then (1:Int) else 0)=Bh c [46,35]:=by
     rw [Sk h2]
     by_cases e3:c=35
     ·subst e3;rfl
     ·have:=Gs c 35
      rw [decide_eq_false e3,beq_eq_false_iff_ne] at this
      rw [if_neg (show ¬tx [c]=Str.ofString "#" from this),if_neg e3]
    rw [ev,ZaN eR',Ca,FU ek',Ca,IV ek' hsz,Ca]
    simp only [Cn]
    have hn:=hX.newSign (c:=c)
    refine ⟨R,k,rs,l++[c],_,c3,rfl,?_,?_,?_,?_⟩
    ·simpa [Fs] using hn
    ·rw [f2,e]
     have hne:=DH 47 cs
     generalize Ak 47 cs=m at hne
     match m,hne with
     |q::ps,_=>simp
    ·rw [f3]
     exact ⟨fun z c hc=>z c (.tail _ hc),fun z d hd=>by
      rcases qa4.mp hd with rfl |hd
      ·rcases h2 with e |e
       ·exact .inl e
       ·exact .inr (.inl e)
      ·exact z d hd⟩
    ·simp at f4 ⊢;omega
   ·simp [h2]
    refine qn _ _ sm ?_
    unfold Dh
    rw [decide_eq_false_iff_not,f3]
    rintro ⟨z,_⟩
    have:=z c (.head _)
    omega
theorem ZaQ {L:List Nat} {h h':HD} {ρ:Ae} (i:Gr L h [] ρ h'):∃R rs x c3,ρ=some (.str (tx L))::some (.loc R)::x::c3∧Rws h h' R rs∧Ak 47 L=rs.map (·.2)∧(∀c∈L,c=46∨c=35∨c=47)∧rs.length≤902∧rs≠[]:=by
 obtain ⟨R,k,rs,l,x,c3,e,X,f2,f3,f4⟩:=i
 refine ⟨R,rs++[(k,l)],x,c3,e,X,?_,f3.mpr (fun c hc=>by cases hc),by simp at f4 ⊢;omega,by simp⟩
 rw [f2]
 simp [Ak]
noncomputable def MU:MS:=Ag (AQ (CA (Bx (AO (CT CB CB (mC (.int 1)) (Ad (Ai By) (Ab (Aa 1) (Ac))) (mC (.int 8))))) (Bx (AO (CT CB CB (mC (.int 1)) (Ad (Ai By) (Ab (Af AS (Aa 1) (mC (.int 0))) (Ac))) (mC (.int 8)))))) (Aq (mC .non)) (A0)) (Ag (AQ (AO (Af BA (Az [none,some 1] (AI (Aa 1)) (Ap 0) (AO (Af BA (Ad (Ai By) (Ab (Aa 0) (Ac))) (Ad (Ai By) (Ab (Af AS (Aa 1) (mC (.int 0))) (Ac))))) (Aa 0)) (AD (Ac)))) (Aq (mC .non)) (A0)) (Aq (Ad (Ai Be) (Ab (Az [none] (AI (Aa 1)) (Ap 0) (AZ) (Ad (Ai Be) (Ab (Aa 0) (Ac)))) (Ac)))))
theorem ZaR {L l:List Nat} {k:Nat} {rs:List (Nat×List Nat)} (good:∀c∈L,c=46∨c=35∨c=47) (e:Ak 47 L=((k,l)::rs).map (·.2)):
 Dh L=true↔rs.length+1≤8∧(1≤l.length∧l.length≤8)∧∀p∈rs,p.2.length=l.length:=by
 unfold Dh
 rw [decide_eq_true_eq,e]
 simp only [A4,DO,Bo,List.getD_cons_zero,qa4,qaU]
 constructor
 ·rintro ⟨_,b1,b2,b3⟩
  exact ⟨b1,b2,fun p hp=>b3 p.2 (.inr ⟨p,hp,rfl⟩)⟩
 ·rintro ⟨b1,b2,b3⟩
  refine ⟨good,b1,b2,?_⟩
  rintro r (rfl |⟨p,hp,rfl⟩)
  ·rfl
  ·exact b3 p hp
theorem ZaS {L:List Nat} {rs:List (Nat×List Nat)} (e:Ak 47 L=rs.map (·.2)):Cg L=.tup (rs.map fun p=>.tup (p.2.map fun c=>.int (Bh c [46,35]))):=by
 unfold Cg Cf
 rw [e,CN]
 rfl
theorem ZaT {L:List Nat} {h h':HD} {R:Nat} {x:Option D} {c3:List (Option D)} {rs:List (Nat×List Nat)} (hl:rs.length≤902) (X:Rws h h' R rs) (e:Ak 47 L=rs.map (·.2)) {h2:HD} (s:Sm h' h2):
 Pu (Ad (Ai Be) (Ab (Az [none] (AI (Aa 1)) (Ap 0) (AZ) (Ad (Ai Be) (Ab (Aa 0) (Ac)))) (Ac)) (some (.str (tx L))::some (.loc R)::x::c3) h2) h2 (Cg L):=by
 obtain ⟨sm,hR,eR,er,nR,nd⟩:=X
 rw [ZaS e]
 refine Pu.eq (IW (src:=[(R,rs.map fun p=>.loc p.1)]) (xs:=rs) (φ:=fun p=>.loc p.1) (fun p=>.tup (p.2.map fun c=>.int (Bh c [46,35]))) (fun p=>[some (.loc p.1)]) ?_ (fun x _=>rfl) (fun p hp h' s'=>?_) (AJ (by omega))) rfl
 ·unfold Do
  have eR2:=s _ _ eR
  simp [Aa,CD,A7,EY,eR2,Sm.refl]
  exact fun h3 s3=>GW (s3 _ _ eR2)
 ·simp [Pu]
  rw [Lf (s' _ _ (s _ _ (er p hp)))]
  exact ⟨rfl,.refl _⟩
def Ft (l:List Nat):PyData:=.list (l.map fun c=>.int (Bh c [46,35]))
theorem J2 {α:Type} (g:α→Option PyData) (f:α→PyData):∀(xs:List α),(∀x∈xs,g x=some (f x))→AH (xs.map g)=some (xs.map f)
 |[],_=>rfl
 |x::xs,h=>by
  have ih:=J2 g f xs fun y hy=>h y (.tail _ hy)
  simp only [A4,h x (.head _)]
  simp [AH,ih]
theorem MV {α:Type} (f:α→PyData) (h:∀x,(f x).canLay0=true):∀xs:List α,PyData.canLayAll0 (xs.map f)=true
 |[]=>rfl
 |x::xs=>by simp [PyData.canLayAll0,h x,MV f h xs]
theorem J3 {α:Type} (f:α→PyData) (n:Nat) (h:∀x,(f x).depth≤n):∀xs:List α,PyData.depthAll (xs.map f)≤n
 |[]=>by simp [PyData.depthAll]
 |x::xs=>by
  simp only [A4,PyData.depthAll]
  have:=h x
  have:=J3 f n h xs
  omega
theorem ZaU (l:List Nat):(Ft l).canLay0=true:=MV _ (fun c=>rfl) l
theorem ZaV (l:List Nat):(Ft l).depth≤1:=by
 have:=J3 (fun c:Nat=>PyData.int (Bh c [46,35])) 0 (fun c=>Am _) l
 show PyData.depthAll _+1≤1
 omega
theorem So {α:Type} (g:α→List Nat) (rs:List α):SeqAt.shaped (.list (rs.map fun p=>Ft (g p)))=true:=by
 unfold SeqAt.shaped
 rw [Bf,decide_eq_true_eq]
 refine ⟨MV _ (fun p=>ZaU _) rs,?_⟩
 have:=J3 (fun p=>Ft (g p)) 1 (fun p=>ZaV _) rs
 show PyData.depthAll _+1≤64
 omega
theorem ZaW {h:HD} {i n:Nat} {l:List Nat} (e:h[i]?=some (Fs l)):AR h (n+1) (.loc i)=some (Ft l):=by
 have e':h[i]?=some (.lst (l.map fun c=>D.int (Bh c [46,35]))):=e
 simp only [AR,e']
 rw [CN,J2 _ (fun c=>.int (Bh c [46,35])) l (fun c _=>by cases n<;>rfl)]
 rfl
theorem ZaX {h:HD} {n m:Nat} {rs:List (Nat×List Nat)} (en:h[n]?=some (.lst (rs.map fun p=>.loc p.1))) (er:∀p∈rs,h[p.1]?=some (Fs p.2)) (em:h[m]?=some (.lst [])):BA (.loc n) (.loc m) h=.ok (.bl (!rs.isEmpty)) h:=by
 have e1:AR h 8 (.loc n)=some (.list (rs.map fun p=>Ft p.2)):=by
  simp only [AR,en]
  rw [CN,J2 (AR h 7∘fun p=>D.loc p.1) (fun p=>Ft p.2) rs (fun p hp=>ZaW (n:=6) (er p hp))]
  rfl
 have e2:AR h 8 (.loc m)=some (.list []):=by
  simp only [AR,em]
  rfl
 show CU (.loc n) (.loc m) h=_
 simp only [CU,Eu,e1,e2]
 rw [if_pos ⟨So (fun p=>p.2) rs,So (fun p:Nat=>[]) []⟩]
 cases rs<;>rfl
theorem ZaY {L:List Nat} {h h':HD} {ρ:Ae} {Q:Fl×Ae→HD→Prop} (i:Gr L h [] ρ h') (q:∀d ρ h2,d=(if Dh L=true then Cg L else .non)→Sm h h2→Q (.rt d,ρ) h2):Wp (MU ρ h') Q:=by
 obtain ⟨R,rs,x,c3,rfl,X,e,good,hl,hne⟩:=ZaQ i
 match rs,hne with
 |(k,l)::rs,_=>
  have hX:=id X
  obtain ⟨sm,hR,eR,er,nR,nd⟩:=X
  have ek:=er (k,l) (.head _)
  have ek':h'[k]?=some (.lst (l.map fun c=>D.int (Bh c [46,35]))):=ek
  have ix0:∀h2,Sm h' h2→AS (.loc R) (.int 0) h2=.ok (.loc k) h2:=fun h2 s2=>FV (k:=0) (s2 _ _ eR) (by simp)
  have hok:=ZaR good e
  unfold MU
  simp [E4 eR,ix0 h' (.refl _),E4 ek']
  by_cases a1:rs.length+1≤8
  ·have z1:(1:Int)≤(rs.length:Int)+1:=by omega
   have z2:(rs.length:Int)+1≤8:=by omega
   by_cases a2:1≤l.length
   ·have z3:(1:Int)≤(l.length:Int):=by omega
    by_cases a3:l.length≤8
    ·have z4:(l.length:Int)≤8:=by omega
     simp [z1,z2,z3,z4,Al,ix0 h' (.refl _),E4 ek']
     refine G1 (xs:=(k,l)::rs) (φ:=fun p=>.loc p.1) (src:=[(R,((k,l)::rs).map fun p=>.loc p.1)]) (fun p=>!decide (p.2.length=l.length)) (fun p=>.loc p.1) (fun p=>[some (.loc p.1),some (.loc R)]) ?_ (AJ (by omega)) (fun p _=>rfl) (fun p hp h2 s2=>?_) (fun p hp _ h2 s2=>?_) fun n h2 s2 e2=>?_
     ·simp only [Oy]
      simp [Aa,CD,A7,EY,eR,Sm.refl]
      exact fun h3 s3=>GW (s3 _ _ (by simpa using eR))
     ·have ep:h2[p.1]?=some (.lst (p.2.map fun c=>D.int (Bh c [46,35]))):=s2 _ _ (er p hp)
      simp [Pu,E4 ep,ix0 h2 s2,E4 (s2 _ _ ek')]
      refine ⟨?_,.refl _⟩
      rw [qb3,beq_iff_eq,decide_eq_true_eq]
      omega
     ·simp [Pu,Sm.refl]
     ·refine A3 (by simp) fun m h3 s3 e3 _ _=>?_
      have key:=ZaX (rs:=((k,l)::rs).filter fun p=>!decide (p.2.length=l.length)) (s3 _ _ e2) (fun p hp=>s3 _ _ (s2 _ _ (er p (qaY.mp hp).1))) e3
      rw [key]
      cases hf:(((k,l)::rs).filter fun p=>!decide (p.2.length=l.length)) with
      |nil=>
       have hall:∀p∈rs,p.2.length=l.length:=fun p hp=>by
        have:=qc9.mp hf p (.tail _ hp)
        simpa using this
       have ok:Dh L=true:=hok.mpr ⟨a1,⟨a2,a3⟩,hall⟩
       simp
       refine (ZaT (L:=L) hl hX e (s2.trans s3)).wp fun h4 s4=>?_
       exact q _ _ _ (by rw [if_pos ok]) (((sm.trans s2).trans s3).trans s4)
      |cons p ps=>
       have hp:p∈((k,l)::rs).filter fun p=>!decide (p.2.length=l.length):=by rw [hf];exact .head _
       have hp2:=qaY.mp hp
       have bad:¬Dh L=true:=fun z=>by
        have h3:=(hok.mp z).2.2
        rcases qa4.mp hp2.1 with rfl |hpr
        ·simp at hp2
        ·have:=h3 p hpr
         simp [this] at hp2
       simp
       exact q _ _ _ (by rw [if_neg bad]) ((sm.trans s2).trans s3)
    ·have z4:¬(l.length:Int)≤8:=by omega
     simp [z1,z2,z3,z4,Al,ix0 h' (.refl _),E4 ek']
     exact q _ _ _ (by rw [if_neg (fun z=>a3 (hok.mp z).2.1.2)]) sm
   ·have z3:¬(1:Int)≤(l.length:Int):=by omega
    simp [z1,z2,z3,Al,ix0 h' (.refl _),E4 ek']
    exact q _ _ _ (by rw [if_neg (fun z=>a2 (hok.mp z).2.1.1)]) sm
  ·have z1:(1:Int)≤(rs.length:Int)+1:=by omega
   have z2:¬(rs.length:Int)+1≤8:=by omega
   simp [z1,z2,Al]
   exact q _ _ _ (by rw [if_neg (fun z=>a1 (hok.mp z).1)]) sm
theorem ZaZ {L:List Nat} {h:HD} (hl:L.length≤900):Pu (JT [.str (tx L)] h) h (if Dh L=true then Cg L else .non):=by
 change Wp (AF 3 Rx [.str (tx L)] h) _
 refine Eq.mpr Bl ?_
 change Wp (Ag (Ao 1 (AD (Ab (AD (Ac)) (Ac)))) (Ag (Bq (Df (Aa 0)) (Ap 2) MR) MU) [some (.str (tx L)),none,none] h) _
 rw [A9,DZ]
 simp
 refine A3 (by simp) fun a h1 s1 e1 ea eh1=>?_
 refine A3 (by simp) fun b h2 s2 e2 eb eh2=>?_
 subst ea eb
 refine ZaP (h:=h) hl ?_ (fun ρ h' s no=>?_) (fun ρ h' i=>?_)
 ·refine ⟨h1.length,h.length,[],[],none,[],rfl,?_,?_,Iff.rfl,by simp;omega⟩
  ·have l1:h1.length=h.length+1:=by rw [eh1];simp
   refine ⟨s1.trans s2,by omega,by simpa using e2,fun p hp=>?_,fun p hp=>?_,by simp⟩
   ·cases qaI.mp hp
    simpa [Fs] using s2 _ _ e1
   ·cases qaI.mp hp
    exact ⟨by show h.length≠h1.length;omega,Am _⟩
  ·have hne:=DH 47 L
   generalize Ak 47 L=m at hne
   match m,hne with
   |q::ps,_=>simp
 ·simp [no,s]
 ·refine Eq.mpr As ?_
  refine ZaY i fun d ρ h3 e s=>?_
  simp [e,s]
theorem Za0 (c:Nat):Bh c BZ=if 48≤c∧c<58 then (c:Int) - 48 else -1:=by
 by_cases h:48≤c∧c<58
 ·rw [if_pos h]
  obtain ⟨h1,h2⟩:=h
  have:c=48∨c=49∨c=50∨c=51∨c=52∨c=53∨c=54∨c=55∨c=56∨c=57:=by omega
  rcases this with rfl |rfl |rfl |rfl |rfl |rfl |rfl |rfl |rfl |rfl<;>rfl
 ·rw [if_neg h]
  unfold Bh
  have:A1 c BZ 0=[]:=by
   have e:∀d∈BZ,d≠c:=fun d hd e=>by
    subst e
    simp [BZ] at hd
    omega
   simp only [BZ,qa4,EL,or_false,forall_eq_or_imp,forall_eq] at e
   simp [BZ,A1,e]
  rw [this]
theorem Sq:∀(a:List Nat) (last:Int),-1≤last→(Ce 8 last (a.map fun c=>.int (Bh c BZ))=true↔(∀c∈a,48≤c∧c<56)∧(∀c∈a,last<(c:Int) - 48)∧a.Pairwise (·< ·))
 |[],last,_=>by simp [Ce]
 |c::a,last,hl=>by
  simp only [A4,Ce,Bf,decide_eq_true_eq,qa4,forall_eq_or_imp,qbV]
  rw [Za0]
  by_cases h:48≤c∧c<58
  ·rw [if_pos h]
   have ih:=Sq a ((c:Int) - 48) (by omega)
   constructor
   ·rintro ⟨⟨b1,b2⟩,b3⟩
    obtain ⟨i1,i2,i3⟩:=ih.mp b3
    refine ⟨⟨⟨h.1,by omega⟩,i1⟩,⟨b1,fun d hd=>by have:=i2 d hd;omega⟩,fun d hd=>by have:=i2 d hd;omega,i3⟩
   ·rintro ⟨⟨c1,c2⟩,⟨c3,c4⟩,c5,c6⟩
    refine ⟨⟨c3,by omega⟩,ih.mpr ⟨c2,fun d hd=>by have:=c5 d hd;have:=c2 d hd;omega,c6⟩⟩
  ·rw [if_neg h]
   constructor
   ·rintro ⟨⟨b1,b2⟩,b3⟩
    omega
   ·rintro ⟨⟨c1,c2⟩,⟨c3,c4⟩,c5,c6⟩
    omega
theorem Za1 (a:List Nat):BM 8 (Cf BZ a)=true↔(∀c∈a,48≤c∧c<56)∧a.Pairwise (·< ·):=by
 show Ce 8 (-1) _=true↔_
 rw [Sq a (-1) (by omega)]
 exact ⟨fun z=>⟨z.1,z.2.2⟩,fun z=>⟨z.1,fun c hc=>by have:=z.1 c hc;omega,z.2⟩⟩
theorem MW (c:Nat):∀(l a b:List Nat),BF c l=some (a,b)→l=a++c::b∧∀x∈a,x≠c
 |[],a,b,h=>by cases h
 |x::l,a,b,h=>by
  unfold BF at h
  split at h
  ·rename_i e
   subst e
   simp at h;obtain ⟨rfl,rfl⟩:=h;simp
  ·rename_i hne
   obtain ⟨p,hp,e⟩:=qaO.mp h
   simp at e
   obtain ⟨rfl,rfl⟩:=e
   obtain ⟨i1,i2⟩:=MW c l p.1 p.2 hp
   refine ⟨by rw [Du,←i1],fun y hy=>?_⟩
   rcases qa4.mp hy with rfl |hy
   ·exact hne
   ·exact i2 y hy
theorem cutL_none (c:Nat):∀(l:List Nat),BF c l=none→∀x∈l,x≠c
 |[],_=>by simp
 |x::l,h=>by
  unfold BF at h
  split at h
  ·cases h
  ·rename_i hne
   have hn:BF c l=none:=by simpa using h
   intro y hy
   rcases qa4.mp hy with rfl |hy
   ·exact hne
   ·exact cutL_none c l hn y hy
theorem MX (c:Nat):∀(a b:List Nat),(∀x∈a,x≠c)→Ak c (a++c::b)=a::Ak c b
 |[],b,_=>by simp [Ak]
 |x::a,b,h=>by
  have ih:=MX c a b fun y hy=>h y (.tail _ hy)
  rw [Du,Ak,if_neg (h x (.head _)),ih]
def Ho (L:List Nat):Prop:=L.head?=some 114∧L.count 99=1∧∀w∈Ak 99 L.tail,(∀c∈w,48≤c∧c<56)∧w.Pairwise (·< ·)
theorem J4 (L:List Nat):Ct L=true↔Ho L:=by
 unfold Ho Ct Dp Cr Cs
 simp only [Bf,decide_eq_true_eq,Za1]
 match L with
 |[]=>simp [Au,BF]
 |x::M=>
  by_cases hx:x=99
  ·subst hx
   simp [Au,BF]
  ·cases hc:BF 99 M with
   |none=>
    have h0:∀y∈M,y≠99:=cutL_none 99 M hc
    have h1:M.count 99=0:=qc3.mpr fun z=>h0 99 z rfl
    have e:Au 99 (x::M)=(x::M,[],[]):=by simp [Au,BF,hx,hc]
    rw [e]
    constructor
    ·rintro ⟨⟨_,b⟩,_⟩
     exact absurd (show (tx []==tx [99])=true from b) (by decide)
    ·rintro ⟨_,b,_⟩
     rw [HA (by omega),h1] at b
     omega
   |some p=>
    obtain ⟨a,b⟩:=p
    obtain ⟨hM,ha⟩:=MW 99 M a b hc
    have e:Au 99 (x::M)=(x::a,[99],b):=by simp [Au,BF,hx,hc]
    have hcnt:(x::M).count 99=1+b.count 99:=by
     have h0:a.count 99=0:=qc3.mpr fun z=>ha 99 z rfl
     rw [HA (by omega),hM,List.count_append,List.count_cons_self,h0];omega
    rw [e]
    simp only [List.head?_cons,List.tail_cons,beq_self_eq_true,and_true]
    rw [hcnt,hM,MX 99 a b ha]
    constructor
    ·rintro ⟨h1,h2,h3⟩
     have hb:∀y∈b,y≠99:=fun y hy=>by have:=h3.1 y hy;omega
     refine ⟨h1,by rw [qc3.mpr fun z=>hb 99 z rfl],?_⟩
     rw [Gd 99 b hb]
     intro w hw
     rcases qa4.mp hw with rfl |hw
     ·exact h2
     ·cases qaI.mp hw
      exact h3
    ·rintro ⟨h1,h2,h3⟩
     have hb:∀y∈b,y≠99:=fun y hy e=>by
      subst e
      have:=List.count_pos_iff.mpr hy
      omega
     rw [Gd 99 b hb] at h3
     exact ⟨h1,h3 a (.head _),h3 b (.tail _ (.head _))⟩
theorem Za2 {L:List Nat} (h:Ho L):(Ak 99 L.tail).map (Cf BZ)=[Cr L,Cs L]:=by
 obtain ⟨h1,h2,h3⟩:=h
 unfold Cr Cs
 match L with
 |[]=>cases h1
 |x::M=>
  have hx:x=114:=by simpa using h1
  subst hx
  rw [HA (by omega)] at h2
  cases hc:BF 99 M with
  |none=>
   have h0:∀y∈M,y≠99:=cutL_none 99 M hc
   rw [qc3.mpr fun z=>h0 99 z rfl] at h2
   omega
  |some p=>
   obtain ⟨a,b⟩:=p
   obtain ⟨hM,ha⟩:=MW 99 M a b hc
   have e:Au 99 (114::M)=(114::a,[99],b):=by simp [Au,BF,hc]
   have hb:∀y∈b,y≠99:=fun y hy e=>by
    subst e
    rw [hM,List.count_append,List.count_cons_self] at h2
    have:=List.count_pos_iff.mpr hy
    omega
   rw [e,List.tail_cons,hM,MX 99 a b ha,Gd 99 b hb]
   rfl
theorem Za3:∀c∈[48,49,50,51,52,53,54,55],PySem.intText? (tx [c])=some (Bh c BZ):=by decide +kernel
theorem Za4 {c:Nat} (h:48≤c∧c<56) (hd:HD):Gk (.str (tx [c])) hd=.ok (.int (Bh c BZ)) hd:=by
 have e:=Za3 c (by simp;omega)
 unfold Gk
 simp only
 rw [if_pos (by rw [Bb];simp),e]
theorem idxs_len (c:Nat):∀(l:List Nat) (k:Nat),(A1 c l k).length=l.count c
 |[],k=>rfl
 |a::l,k=>by
  have ih:=idxs_len c l (k+1)
  by_cases h:a=c
  ·subst h;simp [A1,ih]
  ·simp [A1,h,ih,HA h]
theorem Za5 (l:List Nat) (c:Nat) (h:HD):Ge (.str (tx l)) (.str (tx [c])) h=.ok (.int (l.count c:Nat)) h:=by
 show Out.ok (D.int (Txt.count (tx l) (tx [c]))) h=_
 unfold Txt.count
 rw [Gc,GE,idxs_len,Bb]
 have:=List.count_le_length (a:=c) (l:=l)
 rw [Nat.min_eq_right (by omega)]
theorem Za6 (l:List Nat) (c:Nat) (h:HD):Gj (.str (tx [c])) (.str (tx l)) h=.ok (.bl (!decide (c∈l))) h:=by
 show Out.ok (D.bl (!(!(Builtin.Str.occurrences (tx l) (tx [c]) 0 (tx l).length 1).isEmpty))) h=_
 rw [Gc]
 congr 3
 rw [qb3]
 have e:=idxs_len c l 0
 simp only [decide_eq_true_eq,Bool.not_eq_true',List.isEmpty_eq_false_iff]
 rw [←List.count_pos_iff,←e]
 cases A1 c l 0<;>simp
theorem Sr:∀(a b:List Nat),PyData.eqvAll (a.map fun c=>.str (sg c)) (b.map fun c=>.str (sg c))=decide (a=b)
 |[],[]=>rfl
 |[],_::_=>rfl
 |_::_,[]=>rfl
 |x::a,y::b=>by
  have ih:=Sr a b
  simp only [A4,PyData.eqvAll,ih]
  have e:PyData.eqv (.str (sg x)) (.str (sg y))=decide (x=y):=by
   show (tx [x]==tx [y])=_
   exact Gs x y
  rw [e]
  by_cases h1:x=y<;>by_cases h2:a=b<;>simp [h1,h2]
theorem Ss:∀(a:List Nat),(∀c∈a,c<128)→PyData.canLayAll0 (a.map fun c=>.str (sg c))=true
 |[],_=>rfl
 |c::a,h=>by
  have hc:c<128:=h c (.head _)
  have e:(PyData.str (sg c)).canLay0=true:=by
   have h2:c<0x110000:=by omega
   simp [PyData.canLay0,PyData.strOk,sg,h2]
  simp [PyData.canLayAll0,e,Ss a fun d hd=>h d (.tail _ hd)]
theorem Su {a:List Nat} (h:∀c∈a,c<128):SeqAt.shaped (.list (a.map fun c=>.str (sg c)))=true:=by
 unfold SeqAt.shaped
 rw [Bf,decide_eq_true_eq]
 refine ⟨Ss a h,?_⟩
 have:=J3 (fun c=>PyData.str (sg c)) 0 (fun c=>Am _) a
 show PyData.depthAll _+1≤64
 omega
theorem Sv {h:HD} {i:Nat} {l:List Nat} (e:h[i]?=some (.lst (l.map fun c=>D.str (sg c)))):AR h 8 (.loc i)=some (.list (l.map fun c=>.str (sg c))):=by
 simp only [AR,e]
 rw [CN,J2 (AR h 7∘fun c=>D.str (sg c)) (fun c=>.str (sg c)) l (fun c _=>rfl)]
 rfl
theorem Sx {h:HD} {n m:Nat} {a b:List Nat} (ha:∀c∈a,c<128) (hb:∀c∈b,c<128) (en:h[n]?=some (.lst (a.map fun c=>D.str (sg c)))) (em:h[m]?=some (.lst (b.map fun c=>D.str (sg c)))):BA (.loc n) (.loc m) h=.ok (.bl (!decide (a=b))) h:=by
 have e1:=Sv en
 have e2:=Sv em
 show CU (.loc n) (.loc m) h=_
 simp only [CU,Eu,e1,e2]
 rw [if_pos ⟨Su ha,Su hb⟩]
 congr 3
 show PyData.eqvAll _ _=_
 exact Sr a b
theorem Sy:∀(a b:List Nat),a.Pairwise (·< ·)→b.Pairwise (·< ·)→(∀c,c∈a↔c∈b)→a=b
 |[],[],_,_,_=>rfl
 |[],y::b,_,_,h=>nomatch (h y).mpr (.head _)
 |x::a,[],_,_,h=>nomatch (h x).mp (.head _)
 |x::a,y::b,pa,pb,h=>by
  rw [qbV] at pa pb
  have hxy:x=y:=by
   rcases qa4.mp ((h x).mp (.head _)) with e |e
   ·exact e
   ·rcases qa4.mp ((h y).mpr (.head _)) with e' |e'
    ·exact e'.symm
    ·have:=pb.1 x e
     have:=pa.1 y e'
     omega
  subst hxy
  rw [Sy a b pa.2 pb.2 fun c=>⟨fun hc=>?_,fun hc=>?_⟩]
  ·rcases qa4.mp ((h c).mp (.tail _ hc)) with rfl |e
   ·exact absurd (pa.1 c hc) (B1 _)
   ·exact e
  ·rcases qa4.mp ((h c).mpr (.tail _ hc)) with rfl |e
   ·exact absurd (pb.1 c hc) (B1 _)
   ·exact e
theorem Sz {w:List Nat} (h:∀c∈w,c<56):w=rg w↔w.Pairwise (·< ·):=by
 constructor
 ·intro e
  rw [e]
  exact JM w
 ·intro p
  exact Sy _ _ p (JM w) fun c=>(JN h c).symm
theorem Za7 {w:List Nat} {h:HD} (hw:w.length≤900):Hj (.str (tx w)) h=Bg (w.map fun c=>D.str (sg c)) h:=by
 simp only [Hj]
 rw [if_pos (by simp;omega)]
theorem Za8 {w:List Nat} {h:HD} {n:Nat} (e:h[n]?=some (.lst (w.map fun c=>D.str (sg c)))) (hb:∀c∈w,c<56) (hw:w.length≤900):Hh (.loc n) h=Bg ((rg w).map fun c=>D.str (sg c)) h:=by
 simp only [Hh,e,Re]
 rw [if_pos ⟨hb,by omega⟩]
noncomputable def MY:MS:=Ag (AQ (AO (Af BA (Az [none] (Df (Aa 2)) (Ap 0) (AO (Af Gj (Aa 0) (mC (.str "01234567")))) (Aa 0)) (AD (Ac)))) (Aq (mC .non)) (A0)) (Ag (AQ (AO (Af BA (Fo (Aa 2)) (Hi (Fo (Aa 2))))) (Aq (mC .non)) (A0)) (Cm (Dm (Aa 1) (Ad (Ai Be) (Ab (Az [none] (Df (Aa 2)) (Ap 0) (AZ) (Ad (Ai Gk) (Ab (Aa 0) (Ac)))) (Ac))))))
def wOk (w:List Nat):Prop:=(∀c∈w,48≤c∧c<56)∧w.Pairwise (·< ·)
inductive J5 (L:List Nat) (h:HD) (R l:Nat) (ws:List (List Nat)) (ρ:Ae) (h':HD):Prop where
 |mk (dn:List (List Nat)) (x:Option D) (c3:List (Option D)) (f0:ρ=some (.str (tx L))::some (.loc R)::x::c3) (f1:Sm h h') (f2:h'[R]?=some (.lst (dn.map (Cf BZ))))
  (f3:h'[l]?=some (.lst ((Ak 99 L.tail).map fun w=>.str (tx w)))) (f4:Ak 99 L.tail=dn++ws) (f5:∀w∈dn,wOk w):J5 L h R l ws ρ h'
theorem Za9 {h h':HD} {R:Nat} {c:Cell} (s:Sm h h') (hR:h.length≤R):Sm h (h'.set R c):=fun i d e=>by
 have hl:i<h.length:=(qa1.mp e).1
 rw [Bj (by omega)]
 exact s i d e
theorem SA (c:Nat):∀(l:List Nat),∀w∈Ak c l,w.length≤l.length∧∀x∈w,x∈l
 |[],w,hw=>by
  simp [Ak] at hw
  subst hw
  simp
 |a::l,w,hw=>by
  have ih:=SA c l
  by_cases h:a=c
  ·rw [Ak,if_pos h] at hw
   rcases qa4.mp hw with rfl |hw
   ·simp
   ·have:=ih w hw
    exact ⟨by simp;omega,fun x hx=>.tail _ (this.2 x hx)⟩
  ·rw [Ak,if_neg h] at hw
   have hne:=DH c l
   generalize Ak c l=m at hne hw ih
   match m,hne with
   |q::ps,_=>
    rcases qa4.mp hw with rfl |hw
    ·have:=ih q (.head _)
     refine ⟨by simp;omega,fun x hx=>?_⟩
     rcases qa4.mp hx with rfl |hx
     ·exact .head _
     ·exact .tail _ (this.2 x hx)
    ·have:=ih w (.tail _ hw)
     exact ⟨by simp;omega,fun x hx=>.tail _ (this.2 x hx)⟩
theorem MZ (c:Nat):∀(l:List Nat),(Ak c l).length≤l.length+1
 |[]=>by simp [Ak]
 |a::l=>by
  have ih:=MZ c l
  by_cases h:a=c
  ·rw [Ak,if_pos h];simp;omega
  ·rw [Ak,if_neg h]
   have hne:=DH c l
   generalize Ak c l=m at hne ih
   match m,hne with
   |q::ps,_=>simp at ih ⊢;omega
theorem Zba {L:List Nat} {h h0:HD} {ρ0:Ae} {R l:Nat} {Q:Fl×Ae→HD→Prop} (hl:L.length≤900) (hs:∀c∈L,c<128) (hR:h.length≤R) (hRl:R≠l) (e0:L.head?=some 114∧L.count 99=1) (it:MI)
 (hit:Wp (it ρ0 h0) fun x h'=>x=((Ak 99 L.tail).map fun w=>.str (tx w),[(l,(Ak 99 L.tail).map fun w=>.str (tx w))])∧J5 L h R l (Ak 99 L.tail) ρ0 h')
 (qn:∀ρ h',Sm h h'→¬Ho L→Q (.rt .non,ρ) h') (qe:∀ρ h',J5 L h R l [] ρ h'→Q (.nx,ρ) h'):
 Wp (Bq it (Ap 2) MY ρ0 h0) Q:=by
 refine Ez (src:=[(l,(Ak 99 L.tail).map fun w=>.str (tx w))]) (xs:=Ak 99 L.tail) (fun w=>.str (tx w)) (J5 L h R l) hit (fun ys ρ h' i=>?_) ?_ qe
 ·obtain ⟨dn,x,c3,rfl,f1,f2,f3,f4,f5⟩:=i
  exact GW f3
 ·rintro w ws ρ h' ⟨dn,x,c3,rfl,f1,f2,f3,f4,f5⟩
  refine ⟨_,rfl,?_⟩
  have hw:w∈Ak 99 L.tail:=by rw [f4];simp
  obtain ⟨wl,wm⟩:=SA 99 L.tail w hw
  have wl':w.length≤900:=by have:=L.length_tail;omega
  have wb:∀c∈w,c<128:=fun c hc=>hs c (List.mem_of_mem_tail (wm c hc))
  have many:dn.length≤901:=by
   have:=MZ 99 L.tail
   rw [f4] at this
   simp at this
   omega
  unfold MY
  simp [Al]
  refine G1 (src:=[]) (xs:=w) (φ:=fun c=>.str (tx [c])) (fun c=>!decide (c∈[48,49,50,51,52,53,54,55])) (fun c=>.str (sg c)) (fun c=>[some (.str (tx [c]))]) ?_ (AJ (by omega)) (fun c _=>rfl) (fun c hc h2 s2=>?_) (fun c hc _ h2 s2=>?_) fun n h2 s2 e2=>?_
  ·have:=JH (l:=w) (ρ:=some (.str (tx L))::some (.loc R)::some (.str (tx w))::c3) (h:=h') (i:=2) rfl
   simp [Aa,Gf,Fh,Sm.refl,Bz]
  ·have e:=Za6 [48,49,50,51,52,53,54,55] c h2
   have e':Gj (.str (tx [c])) (.str (Str.ofString "01234567")) h2=.ok (.bl (!decide (c∈[48,49,50,51,52,53,54,55]))) h2:=e
   simp [Pu,e',Sm.refl]
  ·simp [Pu,Sm.refl,sg]
  ·refine A3 (by simp) fun m h3 s3 e3 _ _=>?_
   have hf:∀c∈w.filter (fun c=>!decide (c∈[48,49,50,51,52,53,54,55])),c<128:=fun c hc=>wb c (qaY.mp hc).1
   rw [Sx hf (by simp) (s3 _ _ e2) (b:=[]) e3]
   by_cases g1:∀c∈w,48≤c∧c<56
   ·have fe:w.filter (fun c=>!decide (c∈[48,49,50,51,52,53,54,55]))=[]:=by
     rw [qc9]
     intro c hc
     have:=g1 c hc
     simp
     omega
    rw [fe]
    simp [Zai,Zaj,Za7 wl']
    refine A3 (by simp;exact AJ (by omega)) fun n4 h4 s4 e4 _ _=>?_
    refine A3 (by simp;exact AJ (by omega)) fun n5 h5 s5 e5 _ _=>?_
    rw [Za8 e5 (fun c hc=>(g1 c hc).2) wl']
    refine A3 (by have:=Q9 w;simp;exact AJ (by omega)) fun n6 h6 s6 e6 _ _=>?_
    rw [Sx wb (fun c hc=>by have:=(JN (fun d hd=>(g1 d hd).2) c).mp hc;exact wb c this) (s6 _ _ (s5 _ _ e4)) e6]
    have sm6:Sm h' h6:=((((s2.trans s3).trans s4).trans s5).trans s6)
    by_cases g2:w.Pairwise (·< ·)
    ·have er:w=rg w:=(Sz fun d hd=>(g1 d hd).2).mpr g2
     rw [decide_eq_true er]
     simp [FU (sm6 _ _ f2)]
     refine Pu.wp (IW (src:=[]) (xs:=w) (φ:=fun c=>.str (tx [c])) (fun c=>.int (Bh c BZ)) (fun c=>[some (.str (tx [c]))]) (JH (i:=2) rfl) (fun x _=>rfl) (fun c hc h2 _=>?_) (AJ (by omega))) fun h7 s7=>?_
     ·simp [Pu,Za4 (g1 c hc),Sm.refl]
     ·have eR:=s7 _ _ (sm6 _ _ f2)
      rw [IV eR (by rw [Bo];exact AX (by omega) (AJ (Am 1000)))]
      simp only [Ca,Cn]
      refine ⟨dn++[w],_,c3,rfl,Za9 ((f1.trans sm6).trans s7) hR,?_,?_,by rw [f4];simp,fun v hv=>?_⟩
      ·rw [BV ((qa1.mp eR).1)]
       simp [Cf]
      ·rw [Bj hRl]
       exact s7 _ _ (sm6 _ _ f3)
      ·rcases qaW.mp hv with hv |hv
       ·exact f5 v hv
       ·cases qaI.mp hv
        exact ⟨g1,g2⟩
    ·have er:¬w=rg w:=fun z=>g2 ((Sz fun d hd=>(g1 d hd).2).mp z)
     rw [decide_eq_false er]
     simp
     exact qn _ _ (f1.trans sm6) fun z=>g2 (z.2.2 w hw).2
   ·have fe:w.filter (fun c=>!decide (c∈[48,49,50,51,52,53,54,55]))≠[]:=by
     intro z
     rw [qc9] at z
     refine g1 fun c hc=>?_
     have:=z c hc
     simp at this
     omega
    rw [decide_eq_false fe]
    simp
    exact qn _ _ (f1.trans (s2.trans s3)) fun z=>g1 (z.2.2 w hw).1
theorem Zbb (l:List Nat):BX l none (some 1)=l.take 1:=by
 unfold BX
 have h1:HT.sIx l.length l.length (some 1)=min 1 l.length:=HT.sIx_nat _ _ 1
 rw [h1]
 show (l.drop 0).take (min 1 l.length - 0)=_
 cases l with
 |nil=>rfl
 |cons a l=>
  rw [show min 1 (a::l).length=1 by simp]
  simp
theorem Zbc {L:List Nat} {h:HD} (hl:L.length≤900) (hs:∀c∈L,c<128):Pu (JU [.str (tx L)] h) h (if Ct L=true then .tup [Cr L,Cs L] else .non):=by
 change Wp (AF 3 Rz [.str (tx L)] h) _
 refine Eq.mpr Bl ?_
 change Wp (Ag (AQ (CA (AO (Af BA (AG (Aa 0) (AE) (AC (mC (.int 1)))) (mC (.str "r")))) (AO (Af BA (Ba A8 Ge (Aa 0) (mC (.str "c"))) (mC (.int 1))))) (Aq (mC .non)) (A0)) (Ag (Ao 1 (AD (Ac))) (Ag (Bq (AI (Ba A8 De (AG (Aa 0) (AC (mC (.int 1))) (AE)) (mC (.str "c")))) (Ap 2) MY) (Aq (Ad (Ai Be) (Ab (Aa 1) (Ac)))))) [some (.str (tx L)),none,none] h) _
 rw [A9]
 simp [Gg (AJ (show L.length≤1000 by omega)),Zbb]
 have er:(tx (L.take 1)=Str.ofString "r")↔L.head?=some 114:=by
  show tx (L.take 1)=tx [114]↔_
  cases L with
  |nil=>simp [tx]
  |cons a l=>simp [tx]
 have ec:∀h2,Ge (.str (tx L)) (.str (Str.ofString "c")) h2=.ok (.int (L.count 99:Nat)) h2:=fun h2=>Za5 L 99 h2
 by_cases h1:L.head?=some 114
 ·rw [if_pos (er.mpr h1)]
  simp [A8,ec]
  by_cases h2:L.count 99=1
  ·have e2:((L.count 99:Nat):Int)=1:=by omega
   simp [e2]
   refine A3 (by simp) fun R h3 s3 e3 eR _=>?_
   subst eR
   have tl:(BX L (some 1) none)=L.tail:=by rw [Mf];cases L<;>rfl
   refine Zba (h:=h) (R:=h.length) (l:=h3.length) hl hs (Am _) (by have:=(qa1.mp e3).1;omega) ⟨h1,h2⟩ _ ?_ (fun ρ h' s no=>?_) fun ρ h' i=>?_
   ·simp [A8,Gg (AJ (show L.length≤1000 by omega)),tl]
    have sp:De (.str (tx L.tail)) (.str (Str.ofString "c")) h3=_:=QE (c:=99) (l:=L.tail) (AJ (show L.tail.length≤1000 by simp;omega))
    rw [sp]
    refine A3 (by have:=MZ 99 L.tail;simp at this;simp;exact AJ (by omega)) fun n h4 s4 e4 en _=>?_
    subst en
    simp [CD,A7,EY,e4]
    exact ⟨[],none,[],rfl,s3.trans s4,s4 _ _ e3,e4,rfl,by simp⟩
   ·have:¬Ct L=true:=fun z=>no ((J4 L).mp z)
    simp [this,s]
   ·obtain ⟨dn,x,c3,rfl,f1,f2,f3,f4,f5⟩:=i
    have lo:Ho L:=⟨h1,h2,fun w hw=>f5 w (by rw [f4] at hw;simpa using hw)⟩
    have ww:=Za2 lo
    rw [f4,DP] at ww
    rw [ww] at f2
    refine Eq.mpr As ?_
    simp
    have ok:Ct L=true:=(J4 L).mpr lo
    simp [Be,A7,f2,ok,f1]
  ·have e2:¬((L.count 99:Nat):Int)=1:=by omega
   have:¬Ct L=true:=fun z=>h2 ((J4 L).mp z).2.1
   simp [e2,this,Sm.refl]
 ·rw [if_neg (fun z=>h1 (er.mp z))]
  have:¬Ct L=true:=fun z=>h1 ((J4 L).mp z).1
  simp [this,Sm.refl]
def TxN (n:Nat) (d:D):Prop:=∃L:List Nat,d=.str (tx L)∧L.length≤n∧∀c∈L,c<128
def Low (L:List Nat):Prop:=∀c∈L,c<128
theorem Low.cut {L:List Nat} {lo hi:Option Int} (h:Low L):Low (BX L lo hi):=fun c hc=>h c (List.mem_of_mem_drop (List.mem_of_mem_take hc))
theorem cut_len {L:List Nat} {lo hi:Option Int}:(BX L lo hi).length≤L.length:=by
 unfold BX
 rw [GE,HG]
 omega
theorem Low.app {a b:List Nat} (h1:Low a) (h2:Low b):Low (a++b):=fun c hc=>by
 rcases qaW.mp hc with hc |hc
 ·exact h1 c hc
 ·exact h2 c hc
theorem TxN.mk' {n:Nat} {L:List Nat} (h:Low L) (hl:L.length≤n):TxN n (.str (tx L)):=⟨L,rfl,hl,h⟩
def Hq:List Nat:=(Str.ofString " !\"#$&'()*+,-./0123456789:;<=>?@ABCDEFGHIJKLMNOPQRSTUVWXYZ[\\]^_`").cps.toList
def Hr:List Nat:=(Str.ofString "abcdefghijklmnopqrstuvwxyz{|}~\n\t").cps.toList
theorem s96:(Hq++Hr).length=96:=by decide +kernel
theorem Zbd:Low (Hq++Hr):=by unfold Low;decide +kernel
theorem Zbe {L:List Nat} {h:HD} (hl:L.length≤1000):JO (.str (tx L)) h=.ok (.str (tx L.reverse)) h:=by
 simp only [JO]
 rw [if_pos (by rw [Bb];exact AJ hl)]
noncomputable def J6:MS:=Ag (CC 6 7 (Ab (Ad (AY DX) (Ab (Aa 2) (Ab (Aa 3) (Ac)))) (Ab (Ad (AY DW) (Ab (Aa 2) (Ab (Aa 3) (Ac)))) (Ac)))) (Ag (Ao 8 (AD (Ab (Af Aj (Af Aj (AG (Aa 1) (AE) (AC (Aa 2))) (Aa 5)) (AG (Aa 1) (AC (Aa 2)) (AE))) (Ab (Af Aj (AG (Aa 1) (AE) (AC (Aa 2))) (AG (Aa 1) (AC (Af Aj (Aa 2) (mC (.int 1)))) (AE))) (Ab (Af Aj (Af Aj (AG (Aa 1) (AE) (AC (Aa 2))) (Aa 5)) (AG (Aa 1) (AC (Af Aj (Aa 2) (mC (.int 1)))) (AE))) (Ab (Af Aj (Aa 1) (Aa 5)) (Ac))))))) (Ag (Ao 8 (Af Aj (Aa 8) (AD (Ab (Af Aj (Aa 5) (Aa 1)) (Ab (Af Aj (AG (Aa 1) (AE) (AC (Aa 6))) (AG (Aa 1) (AC (Aa 7)) (AE))) (Ab (Af Aj (AG (Aa 1) (AE) (AC (Aa 7))) (AG (Aa 1) (AC (Aa 6)) (AE))) (Ab (Gm (Aa 1)) (Ab (Af Aj (Aa 1) (Aa 1)) (Ab (Aa 5) (Ab (mC (.str "")) (Ac))))))))))) (Aq (Af AS (Aa 8) (Ad Bn (Ab (Aa 0) (Ab (mC (.int 11)) (Ac))))))))
noncomputable def SB (s0 s1:Str):MS:=Ag (CC 2 3 (Ab (Ad Bn (Ab (Aa 0) (Ab (Af Aj (Ad (Ai EG) (Ab (Aa 1) (Ac))) (mC (.int 1))) (Ac)))) (Ab (Ad Bn (Ab (Aa 0) (Ab (Af Aj (Ad (Ai EG) (Ab (Aa 1) (Ac))) (mC (.int 1))) (Ac)))) (Ac)))) (Ag (Ao 4 (mC (.str s0))) (Ag (Ao 4 (Af Aj (Aa 4) (mC (.str s1)))) (Ag (Ao 5 (Af AS (AD (Ab (mC (.str ".")) (Ab (mC (.str "#")) (Ab (mC (.str "/")) (Ab (mC (.str "r")) (Ab (mC (.str "c")) (Ab (mC (.str "0")) (Ab (mC (.str "7")) (Ab (mC (.str "8")) (Ab (mC (.str " ")) (Ab (Af Dd (Aa 4) (Ad Bn (Ab (Aa 0) (Ab (mC (.int 96)) (Ac))))) (Ac)))))))))))) (Ad Bn (Ab (Aa 0) (Ab (mC (.int 10)) (Ac)))))) J6)))
def J7 (ρ:Ae) (f:ME):Prop:=∀h,∃i:Int,f ρ h=.ok (.int i) h
def TxE (n:Nat) (ρ:Ae) (f:ME):Prop:=∀h,∃d,f ρ h=.ok d h∧TxN n d
def Gu (n:Nat) (k:Nat) (ρ:Ae) (fa:MA):Prop:=∀h,∃ds,fa ρ h=.ok ds h∧ds.length=k∧∀d∈ds,TxN n d
section
variable {ρ:Ae} {f g:ME} {fa:MA} {n m k i:Nat}
theorem Gv {z:Int} (e:ρ[i]?=some (some (.int z))):J7 ρ (Aa i):=fun h=>⟨z,by simp only [Aa,e]⟩
theorem Zbf {z:Int} (e:ρ[i]?=some (some (.int z))):J7 ρ (Af Aj (Aa i) (mC (.int 1))):=fun h=>⟨z+1,by simp only [Af,Aa,e,mC,Out.bind_ok];rfl⟩
theorem J8 {L:List Nat} (e:ρ[i]?=some (some (.str (tx L)))) (hl:L.length≤n) (hL:Low L):TxE n ρ (Aa i):=fun h=>⟨_,by simp only [Aa,e],.mk' hL hl⟩
theorem DM (a:TxE n ρ f) (b:TxE m ρ g) (hz:n+m≤k) (hk:k≤1000):TxE k ρ (Af Aj f g):=fun h=>by
 obtain ⟨_,e1,L1,rfl,l1,w1⟩:=a h
 obtain ⟨_,e2,L2,rfl,l2,w2⟩:=b h
 refine ⟨.str (tx (L1++L2)),?_,.mk' (Low.app w1 w2) (by simp;omega)⟩
 simp only [Af,e1,e2,Out.bind_ok]
 exact He (AJ (by omega))
theorem M0 {L:List Nat} (e:ρ[i]?=some (some (.str (tx L)))) (hl:L.length≤n) (hn:n≤1000) (hL:Low L) (a:J7 ρ f):TxE n ρ (AG (Aa i) AE (AC f)):=fun h=>by
 obtain ⟨z,e1⟩:=a h
 refine ⟨.str (tx (BX L none (some z))),?_,.mk' hL.cut (BB cut_len hl)⟩
 simp only [AG,Aa,e,AE,AC,e1,Out.bind_ok]
 exact Gg (AJ (by omega))
theorem J9 {L:List Nat} (e:ρ[i]?=some (some (.str (tx L)))) (hl:L.length≤n) (hn:n≤1000) (hL:Low L) (a:J7 ρ f):TxE n ρ (AG (Aa i) (AC f) AE):=fun h=>by
 obtain ⟨z,e1⟩:=a h
 refine ⟨.str (tx (BX L (some z) none)),?_,.mk' hL.cut (BB cut_len hl)⟩
 simp only [AG,Aa,e,AE,AC,e1,Out.bind_ok]
 exact Gg (AJ (by omega))
theorem Zbg {L:List Nat} (e:ρ[i]?=some (some (.str (tx L)))) (hl:L.length≤n) (hn:n≤1000) (hL:Low L):TxE n ρ (Gm (Aa i)):=fun h=>by
 refine ⟨.str (tx L.reverse),?_,.mk' (fun c hc=>hL c (List.mem_reverse.mp hc)) (by simpa using hl)⟩
 simp only [Gm,Aa,e,Out.bind_ok]
 exact Zbe (by omega)
theorem Zbh {x:Str} {L:List Nat} (e:x=tx L) (hl:L.length≤n) (hL:Low L):TxE n ρ (mC (.str x)):=fun h=>⟨_,rfl,e ▸ .mk' hL hl⟩
theorem TxE.up (a:TxE n ρ f) (h:n≤m):TxE m ρ f:=fun hd=>by
 obtain ⟨_,e1,L1,rfl,l1,w1⟩:=a hd
 exact ⟨_,e1,.mk' w1 (by omega)⟩
theorem SD:Gu n 0 ρ Ac:=fun h=>⟨[],rfl,rfl,fun d hd=>nomatch hd⟩
theorem Dq (a:TxE n ρ f) (b:Gu n k ρ fa):Gu n (k+1) ρ (Ab f fa):=fun h=>by
 obtain ⟨d,e1,t1⟩:=a h
 obtain ⟨ds,e2,l2,t2⟩:=b h
 refine ⟨d::ds,by simp only [Ab,e1,e2,Out.bind_ok],by simp [l2],fun x hx=>?_⟩
 rcases qa4.mp hx with rfl |hx
 ·exact t1
 ·exact t2 x hx
theorem SE {h:HD} {Q:D→HD→Prop} (a:Gu n k ρ fa) (hk:k≤1000) (q:∀ds h',ds.length=k→(∀d∈ds,TxN n d)→h'[h.length]?=some (.lst ds)→Sm h h'→Q (.loc h.length) h'):Wp (AD fa ρ h) Q:=by
 obtain ⟨ds,e,l,t⟩:=a h
 unfold AD
 rw [e,Out.bind_ok]
 refine A3 (AJ (by omega)) fun l' h' s' e' el _=>?_
 subst el
 exact q ds h' l t e' s'
end
theorem Zbi {a b:Nat}:∃k:Int,∀h,DX (.int (a:Nat)) (.int (b:Nat)) h=.ok (.int k) h:=⟨_,fun _=>rfl⟩
theorem Zbj {a b:Nat}:∃k:Int,∀h,DW (.int (a:Nat)) (.int (b:Nat)) h=.ok (.int k) h:=⟨_,fun _=>rfl⟩
noncomputable def SF:MA:=Ab (Af Aj (Af Aj (AG (Aa 1) (AE) (AC (Aa 2))) (Aa 5)) (AG (Aa 1) (AC (Aa 2)) (AE))) (Ab (Af Aj (AG (Aa 1) (AE) (AC (Aa 2))) (AG (Aa 1) (AC (Af Aj (Aa 2) (mC (.int 1)))) (AE))) (Ab (Af Aj (Af Aj (AG (Aa 1) (AE) (AC (Aa 2))) (Aa 5)) (AG (Aa 1) (AC (Af Aj (Aa 2) (mC (.int 1)))) (AE))) (Ab (Af Aj (Aa 1) (Aa 5)) (Ac))))
noncomputable def SG:MA:=Ab (Af Aj (Aa 5) (Aa 1)) (Ab (Af Aj (AG (Aa 1) (AE) (AC (Aa 6))) (AG (Aa 1) (AC (Aa 7)) (AE))) (Ab (Af Aj (AG (Aa 1) (AE) (AC (Aa 7))) (AG (Aa 1) (AC (Aa 6)) (AE))) (Ab (Gm (Aa 1)) (Ab (Af Aj (Aa 1) (Aa 1)) (Ab (Aa 5) (Ab (mC (.str "")) (Ac)))))))
theorem Zbk:J6=Ag (CC 6 7 (Ab (Ad (AY DX) (Ab (Aa 2) (Ab (Aa 3) (Ac)))) (Ab (Ad (AY DW) (Ab (Aa 2) (Ab (Aa 3) (Ac)))) (Ac)))) (Ag (Ao 8 (AD SF)) (Ag (Ao 8 (Af Aj (Aa 8) (AD SG))) (Aq (Af AS (Aa 8) (Ad Bn (Ab (Aa 0) (Ab (mC (.int 11)) (Ac)))))))):=rfl
section
variable {ρ:Ae} {L:List Nat} {a c:Nat} {k1 k2:Int}
theorem Zbl (h1:ρ[1]?=some (some (.str (tx L)))) (h2:ρ[2]?=some (some (.int (a:Nat)))) (h5:ρ[5]?=some (some (.str (tx [c])))) (hl:L.length≤100) (hL:Low L) (hc:Low [c]):Gu 201 4 ρ SF:=by
 have v1:TxE 100 ρ (Aa 1):=J8 h1 hl hL
 have v5:TxE 1 ρ (Aa 5):=J8 h5 (by simp) hc
 have lo:=M0 h1 hl (by omega) hL (Gv h2)
 have hi:=J9 h1 hl (by omega) hL (Gv h2)
 have hi1:=J9 h1 hl (by omega) hL (Zbf h2)
 exact Dq (DM (DM lo v5 (Am _) (by omega)) hi (by omega) (by omega)) (Dq (DM lo hi1 (by omega) (by omega)) (Dq (DM (DM lo v5 (Am _) (by omega)) hi1 (by omega) (by omega)) (Dq (DM v1 v5 (by omega) (by omega)) SD)))
theorem Zbm (h1:ρ[1]?=some (some (.str (tx L)))) (h6:ρ[6]?=some (some (.int k1))) (h7:ρ[7]?=some (some (.int k2))) (h5:ρ[5]?=some (some (.str (tx [c])))) (hl:L.length≤100) (hL:Low L) (hc:Low [c]):Gu 201 7 ρ SG:=by
 have v1:TxE 100 ρ (Aa 1):=J8 h1 hl hL
 have v5:TxE 1 ρ (Aa 5):=J8 h5 (by simp) hc
 have lo6:=M0 h1 hl (by omega) hL (Gv h6)
 have hi6:=J9 h1 hl (by omega) hL (Gv h6)
 have lo7:=M0 h1 hl (by omega) hL (Gv h7)
 have hi7:=J9 h1 hl (by omega) hL (Gv h7)
 exact Dq (DM v5 v1 (by omega) (by omega)) (Dq (DM lo6 hi7 (by omega) (by omega)) (Dq (DM lo7 hi6 (by omega) (by omega)) (Dq ((Zbg h1 hl (by omega) hL).up (by omega)) (Dq (DM v1 v1 (by omega) (by omega)) (Dq (v5.up (by omega)) (Dq (Zbh (L:=[]) rfl (by simp) (fun c hc=>nomatch hc)) SD))))))
end
theorem Zbn {b at_ to c:Nat} {s:D} {L:List Nat} {h h0:HD} {Q:D→HD→Prop} (hx:BoxAt h b) (s0:Smx b h0 h) (hl:L.length≤100) (hL:Low L) (hc:c<128) (q:∀d h',TxN 201 d→BoxAt h' b→Smx b h0 h'→Q d h'):
 Wp (J6 [some (.loc b),some (.str (tx L)),some (.int (at_:Nat)),some (.int (to:Nat)),some s,some (.str (tx [c])),none,none,none] h) (FR Q):=by
 rw [Zbk]
 obtain ⟨k1,e1⟩:=Zbi (a:=at_) (b:=to)
 obtain ⟨k2,e2⟩:=Zbj (a:=at_) (b:=to)
 have hcL:Low [c]:=fun x hx=>by cases qaI.mp hx;exact hc
 rw [A9]
 simp [e1,e2,-As,-A9]
 refine Eq.mpr As ?_
 refine Eq.mpr A9 (Eq.mpr DZ ?_)
 refine SE (Zbl rfl rfl rfl hl hL hcL) (by omega) fun ds4 h1 l4 t4 g4 s4=>?_
 refine Eq.mpr As ?_
 refine Eq.mpr A9 (Eq.mpr DZ (Eq.mpr FS ?_))
 refine Eq.mpr (Ld (d:=.loc h.length) rfl) ?_
 refine SE (Zbm rfl rfl rfl rfl hl hL hcL) (by omega) fun ds7 h2 l7 t7 g7 s7=>?_
 have g4':=s7 _ _ g4
 simp only [Aj,g4',g7]
 refine A3 (by rw [Cu,l4,l7];exact AJ (by omega)) fun n h3 s3 e3 en _=>?_
 refine Eq.mpr As (Eq.mpr Lc (Eq.mpr FS (Eq.mpr (Ld (d:=.loc n) rfl) (Eq.mpr D0 (Eq.mpr Dz (Eq.mpr (Ld (d:=.loc b) rfl) (Eq.mpr Dz (Eq.mpr Ox (Eq.mpr D1 ?_)))))))))
 have sm:Sm h h3:=(s4.trans s7).trans s3
 refine DL (hx.sm sm) (by omega) (by omega) fun d h4 d0 d1 x4 s4'=>?_
 have nb:n≠b:=by
  have:=hx.lt
  have:=(s4.trans s7).len
  omega
 have e4:=s4' _ _ nb e3
 obtain ⟨o,rfl⟩:=Gy d0
 obtain ⟨y,ey,py⟩:=MM (TxN 201) (o:=o) e4 (by rw [Cu,l4,l7];omega) (Zaw t4 t7)
 have ey':AS (.loc n) (.int (Int.ofNat o)) h4=.ok y h4:=ey
 refine Eq.mpr (congrArg (fun w=>Wp w _) ey') ?_
 exact q y h4 py x4 ((s0.trans (EI sm)).trans s4')
theorem SH {b:Nat} {L:List Nat} {h:HD} {Q:D→HD→Prop} (hx:BoxAt h b) (hl:L.length≤100) (hL:Low L) (q:∀d h',TxN 201 d→BoxAt h' b→Smx b h h'→Q d h'):Wp (Gq [.loc b,.str (tx L)] h) Q:=by
 change Wp (AF 9 RK [.loc b,.str (tx L)] h) _
 refine Eq.mpr Bl ?_
 change Wp (SB (tx Hq) (tx Hr) [some (.loc b),some (.str (tx L)),none,none,none,none,none,none,none] h) (FR Q)
 have hs:(tx Hq:Str).length+(tx Hr:Str).length≤1000:=by decide +kernel
 have L96:=s96
 have W96:=Zbd
 generalize Hq=u0 at *
 generalize Hr=u1 at *
 unfold SB
 have tail:=@Zbn
 generalize J6=tail2 at *
 have hadd:∀h2,Aj (.str (tx u0)) (.str (tx u1)) h2=.ok (.str (tx (u0++u1))) h2:=fun h2=>He (by rw [Bb,Bb] at hs;exact AJ hs)
 have hlen:∀h2,EG (.str (tx L)) h2=.ok (.int (L.length:Nat)) h2:=fun h2=>by
  simp only [EG,Bb]
  rw [if_pos (AJ (by omega))]
 rw [A9]
 simp [hlen,-As,-A9]
 refine DL hx (by omega) (by omega) fun a h1 a0 _ x1 s1=>?_
 refine DL x1 (by omega) (by omega) fun t h2 t0 _ x2 s2=>?_
 refine Eq.mpr As ?_
 rw [A9]
 simp [-As,-A9]
 refine Eq.mpr As ?_
 rw [A9]
 simp [hadd,-As,-A9]
 refine Eq.mpr As ?_
 rw [A9]
 simp [-As,-A9]
 refine DL x2 (by omega) (by omega) fun d h3 d0 d1 x3 s3=>?_
 obtain ⟨d,rfl⟩:=Gy d0
 obtain ⟨a,rfl⟩:=Gy a0
 obtain ⟨t,rfl⟩:=Gy t0
 have dl:d<(u0++u1).length:=by rw [L96];omega
 have e3:Dd (.str (tx (u0++u1))) (.int (Int.ofNat d)) h3=.ok (.str (tx [(u0++u1)[d]])) h3:=Mg (AJ (by rw [L96];omega)) (Bi dl)
 have w3:(u0++u1)[d]<128:=W96 _ (Fy dl)
 generalize (u0++u1)[d]=c at e3 w3
 refine Eq.mpr (congrArg (fun w=>Wp w _) e3) ?_
 simp [-As,-A9]
 refine A3 (AJ (by simp)) fun n h4 s4 e4 en _=>?_
 have nb:n≠b:=by
  have:=x3.lt
  omega
 refine DL (x3.sm s4) (by omega) (by omega) fun o h5 o0 o1 x5 s5=>?_
 obtain ⟨o,rfl⟩:=Gy o0
 have e5:=s5 _ _ nb e4
 obtain ⟨y,ey,c',hc',rfl⟩:=MM (fun d=>∃c:Nat,c<128∧d=.str (tx [c])) (o:=o) e5 (by simp;omega) (all_cons ⟨46,by omega,rfl⟩ (all_cons ⟨35,by omega,rfl⟩ (all_cons ⟨47,by omega,rfl⟩ (all_cons ⟨114,by omega,rfl⟩ (all_cons ⟨99,by omega,rfl⟩ (all_cons ⟨48,by omega,rfl⟩ (all_cons ⟨55,by omega,rfl⟩ (all_cons ⟨56,by omega,rfl⟩ (all_cons ⟨32,by omega,rfl⟩ (all_cons ⟨c,w3,rfl⟩ all_nil))))))))))
 have ey':AS (.loc n) (.int (Int.ofNat o)) h5=.ok (.str (tx [c'])) h5:=ey
 refine Eq.mpr (congrArg (fun w=>Wp w _) ey') ?_
 refine Eq.mpr As ?_
 exact tail x5 ((((s1.trans s2).trans s3).trans (EI s4)).trans s5) hl hL hc' q
noncomputable abbrev RdT:List (Str×(List D→HD→Out D)):=[("board_read",CL),("switching_read",CK)]
theorem M1 {T:List (Str×(List D→HD→Out D))} {n:Str} {F:List D→HD→Out D} {x:D} {r:Ae} {h:HD} (hT:T.lookup n=some F):E8 T (Aa 0) (Ab (Aa 1) Ac) (some (.glo n)::some x::r) h=F [x] h:=by
 unfold E8
 show (match T.lookup n with
  |some F=>(Ab (Aa 1) Ac (some (.glo n)::some x::r) h).bind F
  |none=>.stuck)=_
 rw [hT]
 rfl
theorem p_kind_text {h:HD}:Pu (EH [.exc "NoText" []] h) h (.str "! text"):=ZaD (w:="text") (j:=7) (by decide +kernel) (by decide +kernel) (by decide +kernel) (by decide +kernel) rfl (by decide +kernel) (by decide +kernel)
theorem SI {j:Nat} {g:Str} {cs:List Nat} {f:ME} {ρ:Ae} {h:HD} {ds:List D} {Q:D→HD→Prop} (ht:h[j]?=some (.tabn g)) (hd:AH (cs.map fun j=>(ρ[j]?).join)=some ds) (he:Er (f (ds.map some) h) h "NoText") (q:∀h',Sm h h'→Q (.str "! text") h'):Wp (D3 j g cs EH f ρ h) Q:=
 X3 ht hd (he.we fun h1 s1=>⟨by decide +kernel,[],rfl,p_kind_text.wp fun h2 s2=>q h2 (s1.trans s2)⟩)
section
variable {n:Str} {F:List D→HD→Out D} {x v:D} {h:HD}
theorem SJ (ht:h[1]?=some (.tabn "_law_right")) (hT:RdT.lookup n=some F) (he:Er (F [x] h) h "NoText"):Pu (Eb [.glo n,x,.non] h) h (.bl true):=by
 change Wp (AF 3 MH [.glo n,x,.non] h) _
 refine Eq.mpr Bl ?_
 show Wp (Ag (AQ (AO (Af Es (Aa 2) (mC .non))) _ A0) _ [some (.glo n),some x,some .non] h) _
 have ei:Es .non .non h=.ok (.bl true) h:=rfl
 simp [-As,ei]
 refine SI ht (ds:=[.glo n,x]) rfl ?_ fun h1 s1=>?_
 ·rw [show ([D.glo n,x]:List D).map some=some (.glo n)::some x::[] from rfl,M1 hT]
  exact he
 ·simp [s1]
theorem SK (hT:RdT.lookup n=some F) (hv:Es v .non h=.ok (.bl false) h) (hp:Pu (F [x] h) h v) (hr:∃t:Str,∀hd,DE v hd=.ok (.str t) hd):Pu (Eb [.glo n,x,v] h) h (.bl true):=by
 change Wp (AF 3 MH [.glo n,x,v] h) _
 refine Eq.mpr Bl ?_
 show Wp (Ag (AQ (AO (Af Es (Aa 2) (mC .non))) _ A0) _ [some (.glo n),some x,some v] h) _
 obtain ⟨t,ht⟩:=hr
 simp [-As,hv]
 refine Eq.mpr As ?_
 simp only [Lc,FS,D0,Dz]
 rw [M1 hT]
 refine hp.wp fun h1 s1=>?_
 simp [Ai,ht,s1]
end
theorem SL {n:Nat}:∀{ds:List D} {last:Int},-1≤last→Ce n last ds=true→(∀d∈ds,∃i:Int,d=.int i∧0≤i∧i<(n:Int))∧(last<(n:Int)→(ds.length:Int)+last+1≤(n:Int))
 |[],last,_,_=>⟨fun d hd=>(by cases hd),fun z=>by simp only [HJ];omega⟩
 |d::ds,last,hl,h=>by
  cases d with
  |int i=>
   rw [Ce,Bf,decide_eq_true_iff] at h
   obtain ⟨⟨a,b⟩,c⟩:=h
   have ih:=SL (n:=n) (ds:=ds) (last:=i) (by omega) c
   refine ⟨fun d hd=>?_,fun _=>?_⟩
   ·rcases qa4.mp hd with e |e
    ·exact ⟨i,e,by omega,b⟩
    ·exact ih.1 d e
   ·have:=ih.2 b
    simp only [DO]
    omega
  |_=>cases h
theorem SM {d:D} (h:BM 8 d=true):Rp 1 35 d:=by
 cases d with
 |tup ds=>
  have z:=SL (n:=8) (ds:=ds) (last:=-1) (by omega) h
  refine Jr (n:=0) (L:=2) (k:=8) (fun x hx=>?_) ?_
  ·obtain ⟨i,rfl,a,b⟩:=z.1 x hx
   exact Po a (by omega)
  ·have:=z.2 (by omega)
   omega
 |_=>cases h
theorem Zbo {d:D} (h:B5 d=true):Rp 1 35 d:=by
 cases d with
 |tup ds=>
  rw [B5,Bf,qaM,BL,Bf,decide_eq_true_iff,decide_eq_true_iff] at h
  refine Jr (n:=0) (L:=2) (k:=8) (fun x hx=>?_) h.1.2
  have:=h.2 x hx
  cases x with
  |int i=>
   rw [Fq,Bf,decide_eq_true_iff,decide_eq_true_iff] at this
   exact Po this.1 (by omega)
  |_=>cases this
 |_=>simp [B5,BL] at h
theorem Zbp {d:D} (h:Cb d=true):∃x:Str,∀hd,DE d hd=.ok (.str x) hd:=by
 cases d with
 |tup ds=>
  rw [Cb,Bf,Bf,qaM,BL,Bf,decide_eq_true_iff,decide_eq_true_iff] at h
  exact Pn (Jr (n:=1) (L:=35) (k:=8) (fun x hx=>Zbo (h.1.2 x hx)) h.1.1.2) (by omega) (AJ (by omega))
 |_=>simp [Cb,BL] at h
theorem Zbq {a b:D} (h:BM 8 a=true) (h':BM 8 b=true):∃x:Str,∀hd,DE (.tup [a,b]) hd=.ok (.str x) hd:=
 Pn (Jr (n:=1) (L:=35) (k:=2) (fun x hx=>by
  simp only [qa4,EL,or_false] at hx
  rcases hx with rfl |rfl
  ·exact SM h
  ·exact SM h') (by simp)) (by omega) (AJ (by omega))
theorem Zbr {L:List Nat} {h:HD} (ht:h[1]?=some (.tabn "_law_right")) (hl:L.length≤900):Pu (Eb [.glo "board_read",.str (tx L),if Dh L=true then Cg L else .non] h) h (.bl true):=by
 by_cases ho:Dh L=true
 ·rw [if_pos ho]
  have hb:Cb (Cg L)=true:=by rw [Sn];exact ho
  exact SK (F:=CL) rfl rfl (ZaE hl hb) (Zbp hb)
 ·rw [if_neg ho]
  have hb:Cb (Cg L)=false:=by rw [Sn];simpa using ho
  exact SJ ht (F:=CL) rfl (ZaF hl hb)
theorem Zbs {L:List Nat} {h:HD} (ht:h[1]?=some (.tabn "_law_right")) (hl:L.length≤900):Pu (Eb [.glo "switching_read",.str (tx L),if Ct L=true then .tup [Cr L,Cs L] else .non] h) h (.bl true):=by
 by_cases ho:Ct L=true
 ·rw [if_pos ho]
  have:=ho
  rw [Ct,Bf,Bf] at this
  exact SK (F:=CK) rfl rfl (ZaI hl ho) (Zbq this.2.1 this.2.2)
 ·rw [if_neg ho]
  exact SJ ht (F:=CK) rfl (ZaK hl (by simpa using ho))
def ZfL:D→Bool
 |.str _=>false
 |.loc _=>true
 |.tup _=>true
 |.int _=>true
 |.bl _=>true
 |.non=>true
 |.edic=>true
 |_=>false
def Hs (b:Bool):Nat:=if b then 35 else 46
def Ed (W:Nat) (r:Nat→Bool):List Nat:=(List.range W).map fun j=>Hs (r j)
def Fu (H W:Nat) (f:Nat→Nat→Bool):List Nat:=Dg [47] ((List.range H).map fun i=>Ed W (f i))
def DN (n:Nat) (p:Nat→Bool):List Nat:=((List.range n).filter p).map fun i=>48+i
section
variable {H W:Nat} {h:HD} {f:Nat→Nat→Bool} {r p q:Nat→Bool} {n:Nat}
theorem SO:(Ed W r).length=W:=by simp [Ed]
theorem Zbt (hh:H≤8) (hw:W≤8):(Fu H W f).length≤100:=by
 have:=QC [47] 8 ((List.range H).map fun i=>Ed W (f i)) fun x hx=>by
  obtain ⟨i,_,rfl⟩:=qaU.mp hx
  rw [SO];exact hw
 rw [Bo,HE] at this
 unfold Fu
 have h2:H*(8 + [47].length)≤8*9:=Nat.mul_le_mul hh (by decide)
 omega
theorem SQ (hn:n≤8):(DN n p).length≤8:=by
 unfold DN
 rw [Bo]
 exact BB (Fw _ _) (by simpa using hn)
theorem Zbu {b:Bool}:Dd (.str ".#") (lit b) h=.ok (.str (tx [Hs b])) h:=by
 cases b
 ·exact Mg (l:=[46,35]) (k:=0) (by decide) rfl
 ·exact Mg (l:=[46,35]) (k:=1) (by decide) rfl
theorem SS (l:List Nat) {α:Type} (g:α→Nat) (xs:List α) (e:l=xs.map g):Dg [] (xs.map fun x=>[g x])=l:=by
 subst e
 have key:∀xs:List α,(xs.map fun x=>[g x]).flatMap (fun y=>([]:List Nat)++y)=xs.map g:=fun xs=>by
  induction xs with
  |nil=>rfl
  |cons b xs ih=>rw [A4,List.flatMap_cons,ih];rfl
 cases xs with
 |nil=>rfl
 |cons a xs=>
  rw [A4,Dg,key]
  rfl
theorem p_row_text:Pu (EF [] [none] (AI (Aa 0)) (Ap 0) (Af Dd (mC (.str ".#")) (Aa 0)) [some (Cd W r)] h) h (.str (tx (Ed W r)))∨8<W:=by
 by_cases hw:W≤8
 ·left
  have:=Me (sep:=[]) (xs:=List.range W) (φ:=fun j=>lit (r j)) (ρ:=[some (Cd W r)]) (h:=h) (cs:=[none]) (it:=AI (Aa 0)) (sg:=Ap 0) (f:=Af Dd (mC (.str ".#")) (Aa 0)) (src:=[]) (fun j=>[Hs (r j)]) (fun j=>[some (lit (r j))]) 1 IY (fun x _=>rfl) (fun x _ h' _=>by
   simp [Pu]
   rw [Zbu]
   exact ⟨rfl,.refl _⟩) (sz hw) (fun x _=>by simp) (AJ (by simp;omega))
  rw [SS (Ed W r) (fun j=>Hs (r j)) _ rfl] at this
  exact this
 ·right;omega
theorem Zbv {x:Nat} (hx:x<8):LS.strOfD (.int (x:Nat)) h=.ok (.str (tx [48+x])) h:=by
 show (if ((x:Nat):Int).natAbs<4611686018427387904 then Out.ok (D.str (Str.ofString (toString ((x:Nat):Int)))) h else .stuck)=_
 rw [if_pos (by omega)]
 congr 2
 match x,hx with
 |0,_=>rfl
 |1,_=>rfl
 |2,_=>rfl
 |3,_=>rfl
 |4,_=>rfl
 |5,_=>rfl
 |6,_=>rfl
 |7,_=>rfl
theorem Zbw {ρ:Ae} (hh:1≤H∧H≤8) (hw:1≤W∧W≤8) {i:Nat} (ei:ρ[i]?=some (some (bD H W f))):Pu (Ba A8 BS (mC (.str "/")) (Az [none] (AI (Aa i)) (Ap 0) AZ (Ba A8 BS (mC (.str "")) (Az [none] (AI (Aa 0)) (Ap 0) (AZ) (Af Dd (mC (.str ".#")) (Aa 0))))) ρ h) h (.str (tx (Fu H W f))):=by
 refine Me (sep:=[47]) (xs:=List.range H) (φ:=fun i=>Cd W (f i)) (src:=[]) (fun i=>Ed W (f i)) (fun i=>[some (Cd W (f i))]) 8 (Lh (by simp [AI,Aa,ei,CD,A7,bD,EY])) (fun x _=>rfl) (fun x _ h' _=>?_) (sz hh.2) (fun x _=>by rw [SO];exact hw.2) (AJ (by simp;omega))
 exact p_row_text.resolve_right (by omega)
end
theorem Zbx {cs:List (Option Nat)} {it:MI} {sg:MG} {f:ME} {ρ:Ae} {h h1:HD} {sep:List Nat} {x:List D×AK} (e:it ρ h=.ok x h1):EF sep cs it sg f ρ h=EF sep cs (fun _ h=>.ok x h) sg f ρ h1:=by
 unfold EF Ba Az
 have hc:∀h:HD,(mC (.str (tx sep)) ρ h).bind A8=.ok (.str (tx sep)) h:=fun h=>rfl
 rw [hc,hc]
 show ((it ρ h).bind _).bind _=_
 rw [e]
 rfl
section
variable {n b:Nat} {h:HD} {p:Nat→Bool} {ρ:Ae} {Q:D→HD→Prop}
theorem Zby (hn:n≤8):Pu (EF [] [none] (fun _ h=>.ok (((List.range n).filter p).map fun i:Nat=>D.int (i:Int),[]) h) (Ap 0) (Ad (Ai LS.strOfD) (Ab (Aa 0) Ac)) ρ h) h (.str (tx (DN n p))):=by
 have:=Me (sep:=[]) (xs:=(List.range n).filter p) (φ:=fun i=>.int ((i:Nat):Int)) (ρ:=ρ) (h:=h) (cs:=[none]) (it:=fun _ h=>.ok (((List.range n).filter p).map fun i:Nat=>D.int (i:Int),[]) h) (sg:=Ap 0) (f:=Ad (Ai LS.strOfD) (Ab (Aa 0) Ac)) (src:=[]) (fun i=>[48+i]) (fun i=>[some (.int ((i:Nat):Int))]) 1 (Lh rfl) (fun x _=>rfl) (fun x hx h' _=>by
  have hx:x<8:=by have:=qbN.mp (qaY.mp hx).1;omega
  simp [Pu]
  rw [Zbv hx]
  exact ⟨rfl,.refl _⟩) (AJ (BB (Fw _ _) (by simp;omega))) (fun x _=>by simp) (AJ (by
   have:=Fw p (List.range n)
   rw [HE] at this
   simp;omega))
 rw [SS (DN n p) (fun j=>48+j) _ rfl] at this
 exact this
theorem SU (e2:ρ[2]?=some (some (.loc b))) (hx:BoxAt h b) (q:∀p h',BoxAt h' b→Smx b h h'→Q (.str (tx (DN 8 p))) h'):Wp (Ba A8 BS (mC (.str "")) (Az [none] (AI (Ad DJ (Ab (Aa 2) (Ab (mC (.int 8)) (Ac))))) (Ap 0) (AZ) (Ad (Ai strOfD) (Ab (Aa 0) (Ac)))) ρ h) Q:=by
 have w:Wp (DJ [.loc b,.int (8:Nat)] h) fun d h'=>∃p,d=J1 8 p∧BoxAt h' b∧Smx b h h':=Zaz hx (by decide) fun p h' a c=>⟨p,rfl,a,c⟩
 obtain ⟨d,h1,e,p,rfl,x1,s1⟩:=Wp.ex w
 have ei:AI (Ad DJ (Ab (Aa 2) (Ab (mC (.int 8)) (Ac)))) ρ h=.ok (((List.range 8).filter p).map fun i:Nat=>D.int (i:Int),[]) h1:=by
  have ea:Ab (Aa 2) (Ab (mC (.int 8)) (Ac)) ρ h=.ok [.loc b,.int 8] h:=by
   simp [Ab,Aa,e2,mC,Ac,Out.bind]
  unfold AI Ad
  rw [ea]
  show (DJ [.loc b,.int (8:Nat)] h).bind CD=_
  rw [e]
  rfl
 show Wp (EF [] [none] _ (Ap 0) _ ρ h) Q
 rw [Zbx ei]
 refine (Zby (by decide)).wp fun h2 s2=>q p h2 (x1.sm s2) ?_
 exact fun l c n z=>s2 _ _ (s1 l c n z)
end
section
variable {d:D} {h:HD}
theorem SV (hi:Aw d (.ty "str") h=.ok (.bl false) h):Er (Fp [d] h) h "NoText":=by
 change We (AF 1 JQ [d] h) _ _
 refine Eq.mpr G6 ?_
 change We (JQ [some d] h) _ _
 simp [hi,CI,Sm.refl]
theorem Zbz (hi:Aw d (.ty "str") h=.ok (.bl false) h):Er (CL [d] h) h "NoText":=by
 change We (AF 2 DK [d] h) _ _
 refine Eq.mpr G6 ?_
 change We (DK [some d,none] h) _ _
 simp only [DK,E7,Jm,Jn,Jp,Jq,Jo]
 exact (SV hi).we fun h1 s1=>⟨rfl,rfl,s1⟩
theorem ZbA (hi:Aw d (.ty "str") h=.ok (.bl false) h):Er (CK [d] h) h "NoText":=by
 change We (AF _ Ea [d] h) _ _
 refine Eq.mpr G6 ?_
 simp only [Ea,E7,Jm,Jn,Jp,Jo]
 refine (show We (Aa 0 (some d::_) h) _ _ from ?_)
 simp only [Jq]
 exact (SV hi).we fun h1 s1=>⟨rfl,rfl,s1⟩
end
@[irreducible] noncomputable def Ka:MS:=Ao 2 (Ad JV (Ab (Aa 0) (Ab (Aa 1) (Ac))))
@[irreducible] noncomputable def Kb:MS:=CC 3 4 (Ab (Af Aj (mC (.int 1)) (Ad Bn (Ab (Aa 2) (Ab (mC (.int 8)) (Ac))))) (Ab (Af Aj (mC (.int 1)) (Ad Bn (Ab (Aa 2) (Ab (mC (.int 8)) (Ac))))) (Ac)))
@[irreducible] noncomputable def Kc:MS:=Ao 5 (Ad JX (Ab (Aa 2) (Ab (Aa 3) (Ab (Aa 4) (Ac)))))
@[irreducible] noncomputable def Kd:MS:=Ao 6 (Ba A8 BS (mC (.str "/")) (Az [none] (AI (Aa 5)) (Ap 0) (AZ) (Ba A8 BS (mC (.str "")) (Az [none] (AI (Aa 0)) (Ap 0) (AZ) (Af Dd (mC (.str ".#")) (Aa 0))))))
@[irreducible] noncomputable def Ht:MS:=Ao 7 (Af Aj (Af Aj (mC (.str "r")) (Ba A8 BS (mC (.str "")) (Az [none] (AI (Ad DJ (Ab (Aa 2) (Ab (mC (.int 8)) (Ac))))) (Ap 0) (AZ) (Ad (Ai strOfD) (Ab (Aa 0) (Ac)))))) (mC (.str "c")))
@[irreducible] noncomputable def Hu:MS:=Ao 7 (Af Aj (Aa 7) (Ba A8 BS (mC (.str "")) (Az [none] (AI (Ad DJ (Ab (Aa 2) (Ab (mC (.int 8)) (Ac))))) (Ap 0) (AZ) (Ad (Ai strOfD) (Ab (Aa 0) (Ac))))))
@[irreducible] noncomputable def Ke:MS:=Ao 8 (Ad Gp (Ab (Aa 2) (Ac)))
@[irreducible] noncomputable def Kf:MS:=CC 10 11 (Ab (Ad Gq (Ab (Aa 8) (Ab (Aa 6) (Ac)))) (Ab (Ad Gq (Ab (Aa 8) (Ab (Aa 7) (Ac)))) (Ac)))
@[irreducible] noncomputable def Kg:MS:=AQ (Bx (BI (Ad Eb (Ab (mC (.glo "board_read")) (Ab (Aa 12) (Ab (Ad JT (Ab (Aa 12) (Ac))) (Ac))))))) (Aq (mC (.bl false))) (A0)
@[irreducible] noncomputable def Kh:MS:=AQ (Bx (BI (Ad Eb (Ab (mC (.glo "switching_read")) (Ab (Aa 12) (Ab (Ad JU (Ab (Aa 12) (Ac))) (Ac))))))) (Aq (mC (.bl false))) (A0)
@[irreducible] noncomputable def Ki:MS:=Bq (AI (AD (Ab (Aa 10) (Ab (Aa 11) (Ac))))) (Ap 12) (Ag Kg Kh)
@[irreducible] noncomputable def Gw:MS:=Bq (CV (Ab (mC (.int 10)) (Ac))) (Ap 9) (Ag Kf Ki)
@[irreducible] noncomputable def Kj:MS:=AQ (AO (Af BA (Pc [14,13] EH (E8 [("board_read",CL),("switching_read",CK)] (Aa 0) (Ab (Aa 1) (Ac)))) (mC (.str "! text")))) (Aq (mC (.bl false))) (A0)
@[irreducible] noncomputable def Kk:MS:=Bq (AI (AD (Ab (mC (.glo "board_read")) (Ab (mC (.glo "switching_read")) (Ac))))) (Ap 14) Kj
@[irreducible] noncomputable def Hv:MS:=Bq (AI (AD (Ab (mC .non) (Ab (mC (.int 7)) (Ab (mC (.bl true)) (Ab (BJ (Ab (Aa 6) (Ac))) (Ab (AD (Ab (Aa 7) (Ac))) (Ab (mC .edic) (Ab (BJ (Ab (mC (.str "r")) (Ab (mC (.str "c")) (Ac)))) (Ab (Aa 5) (Ac))))))))))) (Ap 13) Kk
theorem M3 {it:MI} {sg:MG} {body:MS} {Q:Fl×Ae→HD→Prop} {ρ:Ae} {h:HD} (I:List D→Ae→HD→Prop) (hi:Wp (it ρ h) fun x h'=>∃l ds,x=(ds,[(l,ds)])∧h'[l]?=some (.lst ds)∧I ds ρ h')
 (step:∀d ds ρ h,I (d::ds) ρ h→∃ρ1,sg d ρ=some ρ1∧Wp (body ρ1 h) (fun y h'=>Sm h h'∧Cn (I ds) Q y h')) (done:∀ρ h,I [] ρ h→Q (.nx,ρ) h):Wp (Bq it sg body ρ h) Q:=by
 unfold Bq
 rw [Al]
 refine Wp.mono hi fun x h1 z=>?_
 obtain ⟨l,ds,rfl,el,i⟩:=z
 have:=IT (src:=[(l,ds)]) (items:=ds) (sg:=sg) (body:=body) (Q:=Q) (fun d:D=>d) (fun xs ρ h=>h[l]?=some (.lst ds)∧I xs ρ h) (fun xs ρ h z=>GW z.1) (fun d xs ρ h z=>by
  obtain ⟨ρ1,e,w⟩:=step d xs ρ h z.2
  refine ⟨ρ1,e,Wp.mono w fun y h' zz=>?_⟩
  obtain ⟨s,kk⟩:=zz
  obtain ⟨fl,ρ2⟩:=y
  cases fl with
  |nx=>exact ⟨s _ _ z.1,kk⟩
  |ct=>exact ⟨s _ _ z.1,kk⟩
  |bk=>exact kk
  |rt d=>exact kk) (fun ρ h z=>done ρ h z.2) ds ρ h1 ⟨el,i⟩
 rwa [List.map_id''] at this
 exact fun _=>rfl
inductive Tb (h:HD):Prop where
 |mk (t0:TabAt h) (t1:h[1]?=some (.tabn "_law_right")):Tb h
theorem Tb.sm {h h':HD} (t:Tb h) (s:Sm h h'):Tb h':=⟨t.1.sm s,s _ _ t.2⟩
theorem Tb.smx {b:Nat} {h h':HD} (t:Tb h) (s:Smx b h h') (hb:2≤b):Tb h':=⟨s _ _ (by omega) t.1,s _ _ (by omega) t.2⟩
theorem Tb.len {h:HD} (t:Tb h):2≤h.length:=by
 have:=(qa1.mp t.2).1
 omega
def A2 (ns:List Int) (k b c H W:Nat) (f:Nat→Nat→Bool) (A B:List Nat) (c9 c10 c11 c12 c13 c14:Option D):Ae:=[some (.scr ns),some (.int (k:Nat)),some (.loc b),some (.int (H:Nat)),some (.int (W:Nat)),some (bD H W f),some (.str (tx A)),some (.str (tx B)),some (.loc c),c9,c10,c11,c12,c13,c14]
section
variable {ns:List Int} {k b c H W:Nat} {f:Nat→Nat→Bool} {A B:List Nat} {c9 c10 c11 c12 c13 c14:Option D} {h:HD} {Q:Fl×Ae→HD→Prop}
theorem ZbB {L:List Nat} (t:Tb h) (hl:L.length≤201) (q:∀h',Sm h h'→Q (.nx,A2 ns k b c H W f A B c9 c10 c11 (some (.str (tx L))) c13 c14) h'):Wp (Kg (A2 ns k b c H W f A B c9 c10 c11 (some (.str (tx L))) c13 c14) h) Q:=by
 unfold Kg
 simp [A2]
 refine (ZaZ (by omega)).wp fun h1 s1=>?_
 refine (Zbr (t.sm s1).2 (by omega)).wp fun h2 s2=>?_
 simp [CS]
 exact q h2 (s1.trans s2)
theorem ZbC {L:List Nat} (t:Tb h) (hl:L.length≤201) (hs:∀c∈L,c<128) (q:∀h',Sm h h'→Q (.nx,A2 ns k b c H W f A B c9 c10 c11 (some (.str (tx L))) c13 c14) h'):Wp (Kh (A2 ns k b c H W f A B c9 c10 c11 (some (.str (tx L))) c13 c14) h) Q:=by
 unfold Kh
 simp [A2]
 refine (Zbc (by omega) hs).wp fun h1 s1=>?_
 refine (Zbs (t.sm s1).2 (by omega)).wp fun h2 s2=>?_
 simp [CS]
 exact q h2 (s1.trans s2)
inductive I1 (ns:List Int) (k b c H W:Nat) (f:Nat→Nat→Bool) (A B:List Nat) (c9 c10 c11 c13 c14:Option D) (h:HD) (xs:List D) (ρ:Ae) (h':HD):Prop where
 |mk (c12:Option D) (f0:ρ=A2 ns k b c H W f A B c9 c10 c11 c12 c13 c14) (f1:Sm h h') (f2:∀d∈xs,TxN 201 d):I1 ns k b c H W f A B c9 c10 c11 c13 c14 h xs ρ h'
theorem ZbD {d e:D} (t:Tb h) (hd:TxN 201 d) (he:TxN 201 e) (q:∀c12 h',Sm h h'→Q (.nx,A2 ns k b c H W f A B c9 (some d) (some e) c12 c13 c14) h'):Wp (Ki (A2 ns k b c H W f A B c9 (some d) (some e) c12 c13 c14) h) Q:=by
 unfold Ki
 refine M3 (I1 ns k b c H W f A B c9 (some d) (some e) c13 c14 h) ?_ ?_ ?_
 ·simp [A2]
  refine A3 (by simp) fun l h3 s3 e3 _ _=>?_
  refine BK (Ls e3) ?_
  exact ⟨l,_,rfl,e3,_,rfl,s3,all_cons hd <| all_cons he all_nil⟩
 ·rintro x xs ρ h' ⟨c12,rfl,s,hx⟩
  obtain ⟨L,rfl,hl,hs⟩:=hx x AU
  refine ⟨A2 ns k b c H W f A B c9 (some d) (some e) (some (.str (tx L))) c13 c14,rfl,?_⟩
  refine Eq.mpr A9 ?_
  refine ZbB (t.sm s) hl fun h1 s1=>?_
  refine Eq.mpr As ?_
  refine ZbC ((t.sm s).sm s1) hl hs fun h2 s2=>?_
  exact ⟨s1.trans s2,_,rfl,s.trans (s1.trans s2),fun y hy=>hx y (AV _ hy)⟩
 ·rintro ρ h' ⟨c12,rfl,s,hx⟩
  exact q _ h' s
inductive I7 (ns:List Int) (k b c H W:Nat) (f:Nat→Nat→Bool) (A B:List Nat) (c13 c14:Option D) (xs:List Nat) (ρ:Ae) (h':HD):Prop where
 |mk (c9 c10 c11 c12:Option D) (f0:ρ=A2 ns k b c H W f A B c9 c10 c11 c12 c13 c14) (f1:Tb h') (f2:BoxAt h' c):I7 ns k b c H W f A B c13 c14 xs ρ h'
theorem ZbE (hc:2≤c) (t:Tb h) (hx:BoxAt h c) (la:A.length≤100) (lA:Low A) (lb:B.length≤100) (lB:Low B) (q:∀d e h',TxN 201 d→TxN 201 e→Tb h'→BoxAt h' c→Q (.nx,A2 ns k b c H W f A B c9 (some d) (some e) c12 c13 c14) h'):Wp (Kf (A2 ns k b c H W f A B c9 c10 c11 c12 c13 c14) h) Q:=by
 unfold Kf
 simp [A2]
 refine SH hx la lA fun d h1 td x1 s1=>?_
 refine SH x1 lb lB fun e h2 te x2 s2=>?_
 try simp
 exact q d e h2 td te ((t.smx s1 hc).smx s2 hc) x2
theorem ZbF (hc:2≤c) (t:Tb h) (hx:BoxAt h c) (la:A.length≤100) (lA:Low A) (lb:B.length≤100) (lB:Low B) (q:∀c9 c10 c11 c12 h',Tb h'→Q (.nx,A2 ns k b c H W f A B c9 c10 c11 c12 c13 c14) h'):Wp (Gw (A2 ns k b c H W f A B c9 c10 c11 c12 c13 c14) h) Q:=by
 unfold Gw
 refine Ez (src:=[]) (xs:=List.range 10) (fun i=>.int ((i:Nat):Int)) (I7 ns k b c H W f A B c13 c14) ?_ (fun ys ρ h' _=>DY) ?_ ?_
 ·simp
  rw [show (10:Int)=((10:Nat):Int) from rfl,FT (by decide)]
  exact ⟨rfl,_,_,_,_,rfl,t,hx⟩
 ·rintro x xs ρ h' ⟨d9,d10,d11,d12,rfl,t,hx⟩
  refine ⟨A2 ns k b c H W f A B (some (.int ((x:Nat):Int))) d10 d11 d12 c13 c14,rfl,?_⟩
  refine Eq.mpr A9 ?_
  refine ZbE hc t hx la lA lb lB fun d e h1 td te t1 x1=>?_
  refine Eq.mpr As ?_
  refine ZbD t1 td te fun c12 h2 s2=>?_
  exact ⟨_,_,_,_,rfl,t1.sm s2,x1.sm s2⟩
 ·rintro ρ h' ⟨d9,d10,d11,d12,rfl,t,hx⟩
  exact q _ _ _ _ h' t
def NT (h:HD) (d:D):Prop:=∀h',Sm h h'→Aw d (.ty "str") h'=.ok (.bl false) h'
theorem NT.sm {h h':HD} {d:D} (n:NT h d) (s:Sm h h'):NT h' d:=fun h2 s2=>n h2 (s.trans s2)
theorem SW {n:Str} {F:List D→HD→Out D} {d:D} (hT:RdT.lookup n=some F) (t:Tb h) (he:Er (F [d] h) h "NoText") (q:∀h',Sm h h'→Q (.nx,A2 ns k b c H W f A B c9 c10 c11 c12 (some d) (some (.glo n))) h'):Wp (Kj (A2 ns k b c H W f A B c9 c10 c11 c12 (some d) (some (.glo n))) h) Q:=by
 unfold Kj
 simp [A2]
 refine SI (j:=0) (g:="law") t.1 (ds:=[.glo n,d]) rfl ?_ fun h1 s1=>?_
 ·rw [show ([D.glo n,d]:List D).map some=some (.glo n)::some d::[] from rfl,M1 hT]
  exact he
 ·simp
  exact q h1 s1
inductive IQ (ns:List Int) (k b c H W:Nat) (f:Nat→Nat→Bool) (A B:List Nat) (c9 c10 c11 c12 c13:Option D) (h:HD) (xs:List D) (ρ:Ae) (h':HD):Prop where
 |mk (c14:Option D) (f0:ρ=A2 ns k b c H W f A B c9 c10 c11 c12 c13 c14) (f1:Sm h h') (f2:∀d∈xs,d=.glo "board_read"∨d=.glo "switching_read"):IQ ns k b c H W f A B c9 c10 c11 c12 c13 h xs ρ h'
theorem ZbG {d:D} (t:Tb h) (hd:NT h d) (q:∀c14 h',Sm h h'→Q (.nx,A2 ns k b c H W f A B c9 c10 c11 c12 (some d) c14) h'):Wp (Kk (A2 ns k b c H W f A B c9 c10 c11 c12 (some d) c14) h) Q:=by
 unfold Kk
 refine M3 (IQ ns k b c H W f A B c9 c10 c11 c12 (some d) h) ?_ ?_ ?_
 ·simp [A2]
  refine A3 (by simp) fun l h3 s3 e3 _ _=>?_
  refine BK (Ls e3) ?_
  exact ⟨l,_,rfl,e3,_,rfl,s3,all_cons (.inl rfl) <| all_cons (.inr rfl) all_nil⟩
 ·rintro x xs ρ h' ⟨c14,rfl,s,hx⟩
  have nd:=(hd.sm s) h' (.refl _)
  rcases hx x AU with rfl |rfl
  ·refine ⟨A2 ns k b c H W f A B c9 c10 c11 c12 (some d) (some (.glo "board_read")),rfl,?_⟩
   refine SW (F:=CL) rfl (t.sm s) (Zbz nd) fun h1 s1=>?_
   exact ⟨s1,_,rfl,s.trans s1,fun y hy=>hx y (AV _ hy)⟩
  ·refine ⟨A2 ns k b c H W f A B c9 c10 c11 c12 (some d) (some (.glo "switching_read")),rfl,?_⟩
   refine SW (F:=CK) rfl (t.sm s) (ZbA nd) fun h1 s1=>?_
   exact ⟨s1,_,rfl,s.trans s1,fun y hy=>hx y (AV _ hy)⟩
 ·rintro ρ h' ⟨c14,rfl,s,hx⟩
  exact q _ h' s
inductive I8 (ns:List Int) (k b c H W:Nat) (f:Nat→Nat→Bool) (A B:List Nat) (c9 c10 c11 c12:Option D) (h:HD) (xs:List D) (ρ:Ae) (h':HD):Prop where
 |mk (c13 c14:Option D) (f0:ρ=A2 ns k b c H W f A B c9 c10 c11 c12 c13 c14) (f1:Sm h h') (f2:∀d∈xs,NT h' d):I8 ns k b c H W f A B c9 c10 c11 c12 h xs ρ h'
theorem ZbH (t:Tb h) (q:∀c13 c14 h',Sm h h'→Q (.nx,A2 ns k b c H W f A B c9 c10 c11 c12 c13 c14) h'):Wp (Hv (A2 ns k b c H W f A B c9 c10 c11 c12 c13 c14) h) Q:=by
 unfold Hv
 refine M3 (I8 ns k b c H W f A B c9 c10 c11 c12 h) ?_ ?_ ?_
 ·simp [A2]
  refine A3 (by simp) fun l1 h1 s1 e1 _ _=>?_
  try simp
  refine A3 (by simp) fun l h3 s3 e3 _ _=>?_
  refine BK (Ls e3) ?_
  refine ⟨l,_,rfl,e3,_,_,rfl,s1.trans s3,?_⟩
  refine all_cons (fun _ _=>rfl) <| all_cons (fun _ _=>rfl) <| all_cons (fun _ _=>rfl) <| all_cons (fun _ _=>rfl) <| all_cons (fun h2 s2=>?_) <| all_cons (fun _ _=>rfl) <| all_cons (fun _ _=>rfl) <| all_cons (fun _ _=>rfl) all_nil
  have e2:=s2 _ _ (s3 _ _ e1)
  rw [Pp]
  simp [Bk,CW,e2]
  rfl
 ·rintro x xs ρ h' ⟨c13,c14,rfl,s,hx⟩
  refine ⟨A2 ns k b c H W f A B c9 c10 c11 c12 (some x) c14,rfl,?_⟩
  refine ZbG (t.sm s) (hx x AU) fun c14 h1 s1=>?_
  exact ⟨s1,_,_,rfl,s.trans s1,fun y hy=>(hx y (AV _ hy)).sm s1⟩
 ·rintro ρ h' ⟨c13,c14,rfl,s,hx⟩
  exact q _ _ h' s
end
theorem Hw {A B:List Nat} (a:Low A) (b:Low B):Low (A++B):=fun c hc=>(qaW.mp hc).elim (a c) (b c)
theorem SY {n:Nat} {p:Nat→Bool} (hn:n≤8):Low (DN n p):=fun c hc=>by
 unfold DN at hc
 obtain ⟨i,hi,rfl⟩:=qaU.mp hc
 have:=qbN.mp (qaY.mp hi).1
 omega
theorem ZbI {W:Nat} {r:Nat→Bool}:Low (Ed W r):=fun c hc=>by
 unfold Ed at hc
 obtain ⟨i,hi,rfl⟩:=qaU.mp hc
 unfold Hs
 split<;>decide
theorem ZbJ {s:List Nat} (hs:Low s):∀{xs:List (List Nat)},(∀x∈xs,Low x)→Low (Dg s xs)
 |[],_=>fun c hc=>by cases hc
 |x::xs,hx=>by
  rw [Dg]
  refine Hw (hx x AU) fun c hc=>?_
  obtain ⟨y,hy,hc⟩:=List.mem_flatMap.mp hc
  exact Hw hs (hx y (AV _ hy)) c hc
theorem ZbK {H W:Nat} {f:Nat→Nat→Bool}:Low (Fu H W f):=ZbJ (fun c hc=>by cases qaI.mp hc;decide) fun x hx=>by
 obtain ⟨i,_,rfl⟩:=qaU.mp hx
 exact ZbI
noncomputable abbrev ZbL:MS:=Ag Ka (Ag Kb (Ag Kc (Ag Kd (Ag Ht (Ag Hu (Ag Ke (Ag Gw Hv)))))))
section
variable {ns:List Int} {k b H W:Nat} {f:Nat→Nat→Bool} {h:HD} {Q:Fl×Ae→HD→Prop}
def Kl (ns:List Int) (k b H W:Nat) (f:Nat→Nat→Bool) (A:List Nat) (c7 c8 c9 c10 c11 c12 c13 c14:Option D):Ae:=[some (.scr ns),some (.int (k:Nat)),some (.loc b),some (.int (H:Nat)),some (.int (W:Nat)),some (bD H W f),some (.str (tx A)),c7,c8,c9,c10,c11,c12,c13,c14]
theorem ZbM {A:List Nat} {c7 c8 c9 c10 c11 c12 c13 c14:Option D} {rest:MS} (hx:BoxAt h b) (q:∀B h',B.length≤100→Low B→BoxAt h' b→Smx b h h'→Wp (rest (Kl ns k b H W f A (some (.str (tx B))) c8 c9 c10 c11 c12 c13 c14) h') Q):Wp (Ag Ht (Ag Hu rest) (Kl ns k b H W f A c7 c8 c9 c10 c11 c12 c13 c14) h) Q:=by
 refine Eq.mpr A9 ?_
 unfold Ht
 simp only [DZ,FS,Ox]
 refine SU (b:=b) rfl hx fun p h1 x1 s1=>?_
 have l1:=SQ (n:=8) (p:=p) (by decide)
 rw [show ("r":Str)=tx [114] from rfl,show ("c":Str)=tx [99] from rfl,He (AJ (by simp;omega))]
 refine Eq.mpr (Ca _ _) ?_
 rw [He (AJ (by simp;omega))]
 refine Eq.mpr (Ca _ _) ?_
 refine Eq.mpr As ?_
 refine Eq.mpr A9 ?_
 unfold Hu
 simp only [DZ,FS]
 refine (show Wp (Aa 7 (Kl ns k b H W f A (some (.str (tx (([114]++DN 8 p)++[99])))) c8 c9 c10 c11 c12 c13 c14) h1) _ from ?_)
 refine Eq.mpr (show _=_ from Ca _ _) ?_
 refine SU (b:=b) rfl x1 fun p2 h2 x2 s2=>?_
 have l2:=SQ (n:=8) (p:=p2) (by decide)
 rw [He (AJ (by simp;omega))]
 refine Eq.mpr (Ca _ _) ?_
 refine Eq.mpr As ?_
 refine q (([114]++DN 8 p++[99])++DN 8 p2) h2 (by simp;omega) ?_ x2 (fun l c n z=>s2 l c n (s1 l c n z))
 exact Hw (Hw (Hw (fun c hc=>by cases qaI.mp hc;decide) (SY (by decide))) (fun c hc=>by cases qaI.mp hc;decide)) (SY (by decide))
end
theorem ZbN {ns:List Int} {k:Nat} {h:HD} {a2 a3 a4 a5 a6 a7 a8 a9 a10 a11 a12 a13 a14:Option D} {Q:Fl×Ae→HD→Prop} (hb:∀i∈ns,Builtin.Int.intBits i≤2^20) (hk:k≤1000) (ht:Tb h)
 (q:∀(b2 b3 b4 b5 b6 b7 b8 b9 b10 b11 b12 b13 b14:Option D) h',Tb h'→Q (.nx,[some (.scr ns),some (.int (k:Nat)),b2,b3,b4,b5,b6,b7,b8,b9,b10,b11,b12,b13,b14]) h'):
 Wp (ZbL [some (.scr ns),some (.int (k:Nat)),a2,a3,a4,a5,a6,a7,a8,a9,a10,a11,a12,a13,a14] h) Q:=by
 refine Eq.mpr A9 ?_
 simp only [Ka,DZ,D0,Dz,Ow,G0,D1]
 refine Zas hb hk fun b h1 x1 lb s1=>?_
 have hb2:2≤b:=by have:=ht.len;omega
 have hb0:0<b:=by omega
 have t1:=ht.sm s1
 refine Eq.mpr As ?_
 refine Eq.mpr A9 ?_
 unfold Kb
 try simp [-As]
 refine R5 x1 hb0 t1.1 (by decide) (by decide) fun d1 h2 l1 x2 _ s2=>?_
 have t2:=t1.smx s2 hb2
 try simp [-As]
 refine R5 x2 hb0 t2.1 (by decide) (by decide) fun d2 h3 l2 x3 _ s3=>?_
 have t3:=t2.smx s3 hb2
 try simp [-As]
 obtain ⟨H,eH,hh⟩:∃H:Nat,(1:Int)+(d1:Int)=(H:Int)∧1≤H∧H≤8:=⟨1+d1,by omega,by omega,by omega⟩
 obtain ⟨W,eW,hw⟩:∃W:Nat,(1:Int)+(d2:Int)=(W:Int)∧1≤W∧W≤8:=⟨1+d2,by omega,by omega,by omega⟩
 rw [eH,eW]
 refine Eq.mpr As ?_
 refine Eq.mpr A9 ?_
 unfold Kc
 try simp [-As]
 refine ZaB x3 hh hw fun f h4 x4 s4=>?_
 have t4:=t3.smx s4 hb2
 refine Eq.mpr As ?_
 refine Eq.mpr A9 ?_
 unfold Kd
 rw [DZ]
 refine (Zbw (i:=5) hh hw rfl).wp fun h5 s5=>?_
 refine Eq.mpr As ?_
 refine ZbM (b:=b) (f:=f) (A:=Fu H W f) (x4.sm s5) fun B h6 lB LB x6 s6=>?_
 have t6:=(t4.sm s5).smx s6 hb2
 refine Eq.mpr A9 ?_
 unfold Ke
 simp only [DZ,D0,Dz,D1]
 refine (show Wp (Aa 2 (Kl ns k b H W f (Fu H W f) (some (.str (tx B))) _ _ _ _ _ _ _) h6) _ from ?_)
 refine Eq.mpr (show _=_ from Ca _ _) ?_
 refine R8 x6 fun c h7 x7 y7 ne lc s7=>?_
 have t7:=t6.smx s7 hb2
 have hc2:2≤c:=by have:=t6.len;omega
 refine Eq.mpr As ?_
 refine Eq.mpr A9 ?_
 refine (show Wp (Gw (A2 ns k b c H W f (Fu H W f) B _ _ _ _ _ _) h7) _ from ?_)
 refine ZbF hc2 t7 y7 (Zbt hh.2 hw.2) ZbK lB LB fun c9 c10 c11 c12 h8 t8=>?_
 refine Eq.mpr As ?_
 refine ZbH t8 fun c13 c14 h9 s9=>?_
 exact q _ _ _ _ _ _ _ _ _ _ _ _ _ h9 (t8.sm s9)
def IL (ns:List Int) (xs:List Nat) (ρ:Ae) (h':HD):Prop:=∃d1 d2 d3 d4 d5 d6 d7 d8 d9 d10 d11 d12 d13 d14,ρ=[some (.scr ns),d1,d2,d3,d4,d5,d6,d7,d8,d9,d10,d11,d12,d13,d14]∧Tb h'∧∀k∈xs,k≤1000
theorem ZbO:MK=Ag (Bq (CV (Ab (Ad (AY DW) (Ab (mC (.int 1)) (Ab (Ad (AY DX) (Ab (Ad (Ai By) (Ab (Aa 0) (Ac))) (Ab (mC (.int 5)) (Ac)))) (Ac)))) (Ac))) (Ap 1) (Ag Ka (Ag Kb (Ag Kc (Ag Kd (Ag Ht (Ag Hu (Ag Ke (Ag Gw (Hv)))))))))) (Aq (mC (.bl true))):=by
 unfold Ka Kb Kc Kd Ht Hu Ke Gw Hv Kf Ki Kg Kh Kk Kj
 rfl
theorem law_true (ns:List Int) (hl:ns.length≤63) (hb:∀i∈ns,Builtin.Int.intBits i≤2^20):∃h',F_law [.scr ns] [.tab,.tabn "_law_right"]=.ok (.bl true) h':=by
 have main:Wp (F_law [.scr ns] [.tab,.tabn "_law_right"]) fun d _=>d=.bl true:=by
  change Wp (AF 15 (MK) [.scr ns] [.tab,.tabn "_law_right"]) _
  rw [ZbO,Bl,A9]
  obtain ⟨n,en,hn⟩:∃n:Nat,(if (if (5:Int)<(ns.length:Int) then (5:Int) else (ns.length:Int))>1 then (if (5:Int)<(ns.length:Int) then (5:Int) else (ns.length:Int)) else 1)=(n:Int)∧n≤99:=by
   have h0:0≤(if (if (5:Int)<(ns.length:Int) then (5:Int) else (ns.length:Int))>1 then (if (5:Int)<(ns.length:Int) then (5:Int) else (ns.length:Int)) else 1)∧(if (if (5:Int)<(ns.length:Int) then (5:Int) else (ns.length:Int))>1 then (if (5:Int)<(ns.length:Int) then (5:Int) else (ns.length:Int)) else 1)≤99:=by
    constructor<;>(split<;>split<;>omega)
   generalize (if (if (5:Int)<(ns.length:Int) then (5:Int) else (ns.length:Int))>1 then (if (5:Int)<(ns.length:Int) then (5:Int) else (ns.length:Int)) else 1)=E at h0
   exact ⟨E.toNat,by omega,by omega⟩
  refine Ez (src:=[]) (xs:=List.range n) (fun i=>.int ((i:Nat):Int)) (IL ns) ?_ (fun ys ρ h' _=>DY) ?_ ?_
  ·simp
   rw [en,FT (by omega)]
   exact ⟨rfl,_,_,_,_,_,_,_,_,_,_,_,_,_,_,rfl,⟨rfl,rfl⟩,fun k hk=>by have:=qbN.mp hk;omega⟩
  ·rintro x xs ρ h' ⟨d1,d2,d3,d4,d5,d6,d7,d8,d9,d10,d11,d12,d13,d14,rfl,t,hx⟩
   refine ⟨_,rfl,?_⟩
   refine ZbN hb (hx x AU) t fun _ _ _ _ _ _ _ _ _ _ _ _ _ h2 t2=>?_
   simp [Cn]
   exact ⟨_,_,_,_,_,_,_,_,_,_,_,_,_,_,rfl,t2,fun k hk=>hx k (AV _ hk)⟩
  ·rintro ρ h' ⟨d1,d2,d3,d4,d5,d6,d7,d8,d9,d10,d11,d12,d13,d14,rfl,t,hx⟩
   simp
 obtain ⟨a,h',e,rfl⟩:=Wp.ex main
 exact ⟨h',e⟩
end LK
set_option maxHeartbeats 0
namespace LK
open PySem PySem.Spec PyProof.Rows L2 LS
theorem ZbP:LG JP:=⟨⟨rfl,rfl,rfl,by decide +kernel,rfl,by decide +kernel,by decide +kernel⟩,rfl,rfl,rfl,rfl,rfl,⟨_,_,_,_,_,_,_,_,_,_,_,_,_,_,_,_,_,rfl⟩⟩
section
set_option hygiene false
local macro_rules |`(tactic|infer_instance)=>`(tactic|first |((with_reducible show PE _ (.Name _ _) _);first |exact Y8 |exact Vg rfl (by show mg _=_;with_reducible assumption) |exact Zg rfl (by show mg _=_;with_reducible assumption) |exact Wn rfl (B _ (by decide +kernel)) (by decide +kernel) |exact XZ et (by decide +kernel) |exact Yh (by assumption)) |((with_reducible show PE _ (.Constant _ _ _) _);first |exact Vd |exact Ve |exact Vf |exact NR) |((with_reducible show PE _ (.Tuple _ _ _) _);((with_reducible refine Vr ?_);ac_rfl)) |((with_reducible show PE _ (.List _ _) _);((with_reducible refine Vs ?_);ac_rfl)) |((with_reducible show PE _ (.BinOp _ .Add _ _) _);(refine Im Vw ?_ ?_<;>ac_rfl)) |((with_reducible show PE _ (.BinOp _ .Mod _ _) _);(refine Im Vx ?_ ?_<;>ac_rfl)) |((with_reducible show PE _ (.BinOp _ .Mult _ _) _);(refine Im XS ?_ ?_<;>ac_rfl)) |((with_reducible show PE _ (.BinOp _ .FloorDiv _ _) _);(refine Im VM ?_ ?_<;>ac_rfl)) |((with_reducible show PE _ (.Subscript _ (.Slice _ _ _ _) _) _);first |(refine Zw ?_ ?_ ?_<;>ac_rfl) |(refine Zao ?_;ac_rfl)) |((with_reducible show PE _ (.Subscript _ _ _) _);first |(refine VG ?_ ?_ fun _ _=>rfl<;>ac_rfl) |(refine YJ ?_ ?_ fun _ _=>rfl<;>ac_rfl)) |((with_reducible show PE _ (.Call (.Attribute _ "append" _) _ _ _) _);(refine Ws ?_ ?_<;>ac_rfl)) |((with_reducible show PE _ (.Call (.Attribute _ "count" _) _ _ _) _);first |(refine EB PySem.F.plainAttrs_list PySem.F.slot_list_count PySem.F.type_list_count Ly Xo Xm ?_ ?_<;>ac_rfl) |(refine EB PySem.F.plainAttrs_str PySem.F.slot_str_count PySem.F.type_str_count F9 Zs Zj ?_ ?_<;>ac_rfl)) |((with_reducible show PE _ (.Call (.Attribute _ "index" _) _ _ _) _);(refine EB PySem.F.plainAttrs_list PySem.F.slot_list_index PySem.F.type_list_index Ly Xn Xp ?_ ?_<;>ac_rfl)) |((with_reducible show PE _ (.Call (.Attribute _ "find" _) _ _ _) _);(refine EB PySem.F.plainAttrs_str PySem.F.slot_str_find PySem.F.type_str_find F9 Zq Zh ?_ ?_<;>ac_rfl)) |((with_reducible show PE _ (.Call (.Attribute _ "join" _) _ _ _) _);(refine EB PySem.F.plainAttrs_str PySem.F.slot_str_join PySem.F.type_str_join F9 YK YL ?_ ?_<;>ac_rfl)) |((with_reducible show PE _ (.Call (.Attribute _ "partition" _) _ _ _) _);(refine EB PySem.F.plainAttrs_str PySem.F.slot_str_partition PySem.F.type_str_partition F9 Zo Zp ?_ ?_<;>ac_rfl)) |((with_reducible show PE _ (.Call (.Attribute _ "split" _) _ _ _) _);(refine EB PySem.F.plainAttrs_str PySem.F.slot_str_split PySem.F.type_str_split F9 Zl Zn ?_ ?_<;>ac_rfl)) |((with_reducible show PE _ (.Call (.Attribute _ "startswith" _) _ _ _) _);(refine EB PySem.F.plainAttrs_str PySem.F.slot_str_startswith PySem.F.type_str_startswith F9 Zr Zi ?_ ?_<;>ac_rfl)) |((with_reducible show PE _ (.Call (.Name _ _) [.Lambda _ _ _ _] _ _) _);(refine Za LX (fun _=>rfl) hr Jd et Sd ZbP (CaM.mono (k:=6) C7 (by decide)) ⟨⟨rfl,rfl,rfl,by kernel_rfl⟩,by decide +kernel,by kernel_rfl,rfl,by kernel_rfl⟩ (fun a cd cl A outer s H E' hr=>?_) rfl;ac_rfl)) |((with_reducible show PE _ (.Call (.Name _ _) _ _ _) _);first |(refine Yg (k:=6) (Pt (by show CaE l.prog w K mg base _ _ _;with_reducible assumption) (Pt (by show CaE l.prog w K mg base _ _ _;with_reducible assumption) (Ye))) hr (by first |exact OI |exact OL |exact O8) ?_ ?_<;>ac_rfl) |(refine W0 (by show CaE l.prog w K mg base _ _ _;with_reducible assumption) hr (by first |exact OI |exact OL |exact O8) ?_;ac_rfl) |(refine Vu (by first |exact Wr rfl |exact Xi et |exact VN rfl |exact VO rfl |exact XW hr.units hr.gd |exact VJ |exact VH |exact Zap) rfl (B _ (by decide +kernel)) (by decide +kernel) ?_;ac_rfl) |(refine Vv (by first |exact VP |exact Zam |exact YG |exact VQ) rfl (B _ (by decide +kernel)) (by decide +kernel) ?_;ac_rfl) |(refine Zah rfl rfl (B _ (by decide +kernel)) rfl (B _ (by decide +kernel)) (by decide +kernel) (by decide +kernel) ?_;ac_rfl) |(refine Zag rfl rfl (B _ (by decide +kernel)) (by decide +kernel) ?_;ac_rfl)) |((with_reducible show PE _ (.ListComp _ _ _ _) _);(refine Y9 rfl ⟨rfl,by decide +kernel,by kernel_rfl,by decide +kernel,rfl,by kernel_rfl⟩ ?_ (Wg rfl) fun C D cells fp s₀ H₀ pins=>⟨?_,?_,?_⟩<;>ac_rfl)) |((with_reducible show PE _ (.Compare _ [.Eq] _ _) _);(refine NS (Pf hr.units) ?_ ?_ (FE _)<;>ac_rfl)) |((with_reducible show PE _ (.Compare _ [.Lt] _ _) _);(refine NS Iw ?_ ?_ (FE _)<;>ac_rfl)) |((with_reducible show PE _ (.Compare _ [_,_] _ _) _);(refine Vq Iz Iz ?_ ?_ ?_<;>ac_rfl)) |((with_reducible show PE _ (.BoolOp _ _ _) _);first |(refine Vo ?_ ?_<;>ac_rfl) |(refine Vn ?_;ac_rfl)) |((with_reducible show PE _ (.UnaryOp _ _ _) _);first |(refine Vp ?_;ac_rfl) |(refine Wu ?_;ac_rfl)) |((with_reducible show PE _ (.Dict _ _ _) _);exact Yd))
local macro_rules |`(tactic|nofun)=>`(tactic|first |((with_reducible show PT _ (.Compare _ [.Eq] _ _) _);(refine FJ (Pf hr.units) ?_ ?_ (FE _)<;>ac_rfl)) |((with_reducible show PT _ (.Compare _ [.NotEq] _ _) _);(refine FJ (XX hr.units) ?_ ?_ (FE _)<;>ac_rfl)) |((with_reducible show PT _ (.Compare _ [.In] _ _) _);(refine FJ VE ?_ ?_ (by with_unfolding_all rfl)<;>ac_rfl)) |((with_reducible show PT _ (.Compare _ [.Is] _ _) _);(refine FJ VA ?_ ?_ (FE _)<;>ac_rfl)) |((with_reducible show PT _ (.Compare _ [.Lt] _ _) _);(refine FJ Iw ?_ ?_ (FE _)<;>ac_rfl)) |((with_reducible show PT _ (.Compare _ [.NotIn] _ _) _);(refine FJ Zak ?_ ?_ (by with_unfolding_all rfl)<;>ac_rfl)) |((with_reducible show PT _ (.Compare _ [_,_] _ _) _);first |(refine N0 Iz Iz ?_ ?_ ?_<;>ac_rfl) |(refine N0 Iw Iw ?_ ?_ ?_<;>ac_rfl)) |((with_reducible show PT _ (.UnaryOp .Not _ _) _);(refine Vm ?_;ac_rfl)) |((with_reducible show PT _ (.BoolOp _ _ _) _);(refine Vl (NW ?_ ?_)<;>ac_rfl)) |((with_reducible show PT _ _ _);(refine Vi ?_;ac_rfl)))
local macro_rules |`(tactic|contradiction)=>`(tactic|first |((with_reducible show PI _ _ (.Call (.Name _ _) _ _ _) _);(refine V3 rfl (B _ (by decide +kernel)) ?_;ac_rfl)) |((with_reducible show PI _ _ _ _);first |(refine Zz ?_;ac_rfl) |(refine V1 ?_;ac_rfl)))
local macro_rules |`(tactic|bv_omega)=>`(tactic|first |((with_reducible show PS _ (.Return _ _) _);(refine N5 ?_;ac_rfl)) |((with_reducible show PS _ (.If _ _ _ _) _);(refine VT ?_ ?_ ?_<;>ac_rfl)) |((with_reducible show PS _ (.Assign [.Name _ _] _ _) _);((with_reducible refine K0 ?_ ?_ ?_ ?_ ?_ ?_)<;>ac_rfl)) |((with_reducible show PS _ (.Expr _ _) _);(refine VS ?_;ac_rfl)) |((with_reducible show PS _ (.For _ _ _ _ _) _);(refine V4 W2 rfl ?_ ?_ ?_<;>ac_rfl)) |((with_reducible show PS _ (.Assign [.Tuple _ _ _] _ _) _);first |(refine VV rfl nd rfl rfl (by decide) rfl rfl ?_ (by first |rfl |with_unfolding_all rfl);ac_rfl) |(refine VY ?_ ?_<;>ac_rfl)) |((with_reducible show PS _ (.Assign [.Subscript _ _ _] _ _) _);(refine Wt ?_ ?_ ?_<;>ac_rfl)) |((with_reducible show PS _ (.Raise _ _ _) _);(refine X0 et (by decide +kernel) (by decide +kernel) rfl rfl WY ?_;ac_rfl)))
local macro_rules |`(tactic|split)=>`(tactic|first |((with_reducible show PW _ _ _);first |(refine NW ?_ ?_<;>ac_rfl) |(refine Vk ?_;ac_rfl)) |((with_reducible show Ey _ (.Name _ _) _);exact VW (EN (by first |exact nd |exact of_decide_eq_true (by kernel_rfl)) rfl (by first|exact .inl rfl|exact .inr rfl))) |((with_reducible show Ey _ (.Tuple [_,_] _ _) _);exact VX (Wv rfl (EN (by first |exact nd |exact of_decide_eq_true (by kernel_rfl)) rfl (by first|exact .inl rfl|exact .inr rfl)) (EN (by first |exact nd |exact of_decide_eq_true (by kernel_rfl)) rfl (by first|exact .inl rfl|exact .inr rfl)))) |((with_reducible show Ey _ (.Tuple [_,_,_] _ _) _);exact XY (Nh rfl (GK (EN (by first |exact nd |exact of_decide_eq_true (by kernel_rfl)) rfl (by first|exact .inl rfl|exact .inr rfl)) (GK (EN (by first |exact nd |exact of_decide_eq_true (by kernel_rfl)) rfl (by first|exact .inl rfl|exact .inr rfl)) (GK (EN (by first |exact nd |exact of_decide_eq_true (by kernel_rfl)) rfl (by first|exact .inl rfl|exact .inr rfl)) Ng))))) |((with_reducible show PG _ (.Name _ _) _);exact EN (by first |exact nd |exact of_decide_eq_true (by kernel_rfl)) rfl (by first|exact .inl rfl|exact .inr rfl)) |rfl |exact nd |exact Or.inl rfl |exact Or.inr rfl |exact Wh |(refine Wi ?_;ac_rfl) |exact W3 |(refine W4 ?_;ac_rfl))
local macro_rules |`(tactic|ac_rfl)=>`(tactic|first |((with_reducible show PE _ _ _);infer_instance) |((with_reducible show PA _ _ _);first |with_reducible exact Ir |((with_reducible refine Iu ?_ ?_ ?_)<;>ac_rfl)) |((with_reducible show PS _ _ _);bv_omega) |((with_reducible show Cw _ _ _);first |with_reducible exact VU |with_reducible exact VR |((with_reducible refine IE ?_);ac_rfl) |((with_reducible refine IF ?_ ?_)<;>ac_rfl) |(refine IE ?_;ac_rfl) |(refine IF ?_ ?_<;>ac_rfl)) |((with_reducible show PT _ _ _);nofun) |((with_reducible show PI _ _ _ _);contradiction) |split)
def want:Tp.Want:=⟨[(("is_whole":Str),Rg),(("is_line_tuple":Str),Ri),(("signs_read":Str),Rk),(("need_text":Str),Rm),(("_law_cell":Str),Rn),(("_law_mix":Str),Ro),(("_law_take":Str),Rr),(("_law_kind":Str),Ru),(("_law_board_in":Str),Rw),(("_law_lots_in":Str),Ry),(("is_between":Str),RA),(("is_lot":Str),RB),(("_law_box":Str),RD),(("_law_wide_box":Str),RF),(("_law_lot":Str),RH),(("_law_bent":Str),RJ),(("is_light":Str),RL),(("switching_read":Str),MC),(("_law_board":Str),RN),(("is_row":Str),RP),(("is_board":Str),RR),(("board_read":Str),MD),(("_law_right":Str),MF),(("law":Str),s_law),(("_law_said":Str),JP)],[(("MOST_LINES":Str),(8:Int))],["ValueError","all","bool","divmod","int","isinstance","len","list","max","min","range","repr","set","sorted","str","tuple"]⟩
def M4:Tp.WantZ:=⟨want,[],[],["law","_law_right"],[(("FIGURES":Str),("0123456789":Str)),(("LIGHT_SIGNS":Str),(".#":Str))]⟩
section
variable {l:PySem.W.OpenLaw} {w:World} {K:PySem.W.Frag} {h base:Heap} {mg:Str→Option Value} {t_MOST_LINES t_FIGURES t_LIGHT_SIGNS:Tok} (fs:∀(i:Nat) n st,want.fs[i]?=some (n,st)→Tp.SeenF K n st) (X:K.In h) (G:h.Ns mainGlobals mg) (B:∀x∈want.bs,mg x=none) (et:etOk K=true) (M_MOST_LINES:mg "MOST_LINES"=some (.int 8 t_MOST_LINES)) (M_FIGURES:mg "FIGURES"=some (.str "0123456789" t_FIGURES)) (M_LIGHT_SIGNS:mg "LIGHT_SIGNS"=some (.str ".#" t_LIGHT_SIGNS))
include fs X G B et M_MOST_LINES M_FIGURES M_LIGHT_SIGNS
theorem cc0:CaE l.prog w K mg base "is_whole" 1 D9:=BE (fs 0 _ Rg rfl) X G (N:=["thing"]) (ps:=["thing"]) fun nd _ _ _ _ _ _ _ hr=>by ac_rfl
theorem cc1:CaE l.prog w K mg base "is_line_tuple" 1 Gn:=BE (fs 1 _ Ri rfl) X G (N:=["thing"]) (ps:=["thing"]) fun nd _ _ _ _ _ _ _ hr=>by ac_rfl
theorem cc2:CaE l.prog w K mg base "signs_read" 1 DI:=BE (fs 2 _ Rk rfl) X G (N:=["text","signs"]) (ps:=["text","signs"]) fun nd _ _ _ _ _ _ _ hr=>by ac_rfl
theorem cc3:CaE l.prog w K mg base "need_text" 1 Fp:=BE (fs 3 _ Rm rfl) X G (N:=["thing"]) (ps:=["thing"]) fun nd _ _ _ _ _ _ _ hr=>by ac_rfl
theorem cc4:CaE l.prog w K mg base "_law_cell" 1 JR:=BE (fs 4 _ Rn rfl) X G (N:=["_law_script","_law_k"]) (ps:=["_law_script","_law_k"]) fun nd _ _ _ _ _ _ _ hr=>by ac_rfl
theorem cc5:CaE l.prog w K mg base "_law_mix" 1 JS:=BE (fs 5 _ Ro rfl) X G (N:=["_law_cell_here","_law_k","_law_number"]) (ps:=["_law_cell_here","_law_k"]) fun nd _ _ _ _ _ _ _ hr=>by ac_rfl
theorem cc6:CaE l.prog w K mg base "_law_take" 1 Bn:=BE (fs 6 _ Rr rfl) X G (N:=["_law_box_here","_law_many","_law_left","_law_digit"]) (ps:=["_law_box_here","_law_many"]) fun nd _ _ _ _ _ _ _ hr=>by ac_rfl
theorem cc7:CaM l.prog w K mg base "_law_kind" 1 EH:=Zb (fs 7 _ Ru rfl) X G (N:=["_law_e","_law_kinds","_law_words"]) (ps:=["_law_e"]) fun nd _ _ _ _ _ _ hr=>by ac_rfl
theorem cc8:CaE l.prog w K mg base "_law_board_in" 1 JT:=BE (fs 8 _ Rw rfl) X G (N:=["_law_text","_law_rows","_law_sign"]) (ps:=["_law_text"]) fun nd _ _ _ _ _ _ _ hr=>by ac_rfl
theorem cc9:CaE l.prog w K mg base "_law_lots_in" 1 JU:=BE (fs 9 _ Ry rfl) X G (N:=["_law_text","_law_found","_law_word"]) (ps:=["_law_text"]) fun nd _ _ _ _ _ _ _ hr=>by ac_rfl
theorem ZbQ (C0:CaE l.prog w K mg base "is_whole" 1 D9):CaE l.prog w K mg base "is_between" 2 Hk:=BE (fs 10 _ RA rfl) X G (N:=["thing","least","most"]) (ps:=["thing","least","most"]) fun nd _ _ _ _ _ _ _ hr=>by ac_rfl
theorem ZbR (C0:CaE l.prog w K mg base "is_whole" 1 D9):CaE l.prog w K mg base "is_lot" 2 Hl:=BE (fs 11 _ RB rfl) X G (N:=["thing","size","last","number"]) (ps:=["thing","size"]) fun nd _ _ _ _ _ _ _ hr=>by ac_rfl
theorem ZbS (C4:CaE l.prog w K mg base "_law_cell" 1 JR) (C5:CaE l.prog w K mg base "_law_mix" 1 JS):CaE l.prog w K mg base "_law_box" 2 JV:=BE (fs 12 _ RD rfl) X G (N:=["_law_script","_law_k","_law_here","_law_number","_law_j"]) (ps:=["_law_script","_law_k"]) fun nd _ _ _ _ _ _ _ hr=>by ac_rfl
theorem ZbT (C6:CaE l.prog w K mg base "_law_take" 1 Bn):CaE l.prog w K mg base "_law_wide_box" 2 Gp:=BE (fs 13 _ RF rfl) X G (N:=["_law_box_here","_law_number","_law_many","_law_j"]) (ps:=["_law_box_here"]) fun nd _ _ _ _ _ _ _ hr=>by ac_rfl
theorem ZbU (C6:CaE l.prog w K mg base "_law_take" 1 Bn):CaE l.prog w K mg base "_law_lot" 2 DJ:=BE (fs 14 _ RH rfl) X G (N:=["_law_box_here","_law_size"]) (ps:=["_law_box_here","_law_size"]) fun nd _ _ _ _ _ _ _ hr=>by ac_rfl
theorem ZbV (C6:CaE l.prog w K mg base "_law_take" 1 Bn):CaE l.prog w K mg base "_law_bent" 2 Gq:=BE (fs 15 _ RJ rfl) X G (N:=["_law_box_here","_law_text","_law_at","_law_to","_law_signs","_law_sign","_law_low","_law_high","_law_some"]) (ps:=["_law_box_here","_law_text"]) fun nd _ _ _ _ _ _ _ hr=>by ac_rfl
theorem ZbW (C10:CaE l.prog w K mg base "is_between" 2 Hk):CaE l.prog w K mg base "is_light" 3 JW:=BE (fs 16 _ RL rfl) X G (N:=["thing"]) (ps:=["thing"]) fun nd _ _ _ _ _ _ _ hr=>by ac_rfl
theorem ZbX (C3:CaE l.prog w K mg base "need_text" 1 Fp) (C2:CaE l.prog w K mg base "signs_read" 1 DI) (C11:CaE l.prog w K mg base "is_lot" 2 Hl):CaE l.prog w K mg base "switching_read" 3 CK:=BE (fs 17 _ MC rfl) X G (N:=["text","ahead","between","behind","lots","has_signs"]) (ps:=["text"]) fun nd _ _ _ _ _ _ _ hr=>by ac_rfl
theorem ZbY (C6:CaE l.prog w K mg base "_law_take" 1 Bn) (C13:CaE l.prog w K mg base "_law_wide_box" 2 Gp):CaE l.prog w K mg base "_law_board" 3 JX:=BE (fs 18 _ RN rfl) X G (N:=["_law_box_here","_law_high","_law_wide","_law_way","_law_digits","_law_dense","_law_rows","_law_number"]) (ps:=["_law_box_here","_law_high","_law_wide"]) fun nd _ _ _ _ _ _ _ hr=>by ac_rfl
theorem ZbZ (C1:CaE l.prog w K mg base "is_line_tuple" 1 Gn) (C16:CaE l.prog w K mg base "is_light" 3 JW):CaE l.prog w K mg base "is_row" 4 JY:=BE (fs 19 _ RP rfl) X G (N:=["thing"]) (ps:=["thing"]) fun nd _ _ _ _ _ _ _ hr=>by ac_rfl
theorem Zb0 (C1:CaE l.prog w K mg base "is_line_tuple" 1 Gn) (C19:CaE l.prog w K mg base "is_row" 4 JY):CaE l.prog w K mg base "is_board" 5 JZ:=BE (fs 20 _ RR rfl) X G (N:=["thing"]) (ps:=["thing"]) fun nd _ _ _ _ _ _ _ hr=>by ac_rfl
theorem Zb1 (C3:CaE l.prog w K mg base "need_text" 1 Fp) (C2:CaE l.prog w K mg base "signs_read" 1 DI) (C20:CaE l.prog w K mg base "is_board" 5 JZ):CaE l.prog w K mg base "board_read" 6 CL:=BE (fs 21 _ MD rfl) X G (N:=["text","board"]) (ps:=["text"]) fun nd _ _ _ _ _ _ _ hr=>by ac_rfl
theorem Zb2 {c T fsd:Addr} {fdd:FuncData} (hbm:FZ mg base) (tb:tabP K "_law_right"=some (c,T)) (hd:PySem.W.codeHdIn K c T=true) (Sd:SaidD K mg JP fsd fdd) (C21:CaE l.prog w K mg base "board_read" 6 CL) (C17:CaE l.prog w K mg base "switching_read" 3 CK) (C7:CaM l.prog w K mg base "_law_kind" 1 EH):CaE l.prog w K mg base "_law_right" 9 Eb:=ZK (fs 22 _ MF rfl) X G (N:=["_law_call","_law_text","_law_due"]) (ps:=["_law_call","_law_text","_law_due"]) tb fun nd f A outer s H E hr=>by
 have LX:LamX "_law_right" (Bv (AL l.prog w K) l.prog w K mg base ["_law_call","_law_text","_law_due"] "_law_right" (defScope MF) f (.ref c) A outer s H E) c T:=⟨rfl,tb,hd,rfl,hbm⟩
 ac_rfl
end
theorem all_mk {l:PySem.W.OpenLaw} {w:World} {K:PySem.W.Frag} {h:Heap} {mg:Str→Option Value} {fa:Addr} (HS:Tp.HasZ M4 K) (X:K.In h) (G:h.Ns mainGlobals mg) (hfa:mg "law"=some (.ref fa)):
 ∃fd:FuncData,(∀(s:Shared) (v:Value),BindsTo s fd ⟨[v],[]⟩ [("_law_script",v)])∧∀base:Heap,K.In base→base.Ns mainGlobals mg→FZ mg base→FnOk l.prog w K mg base (AL l.prog w K) 10 fa fd ["_law_script"] (CZ K F_law):=by
 obtain ⟨fs,cs,bs,et,ms,cl,tbz,wx⟩:=HS
 obtain ⟨tb,hd⟩:=tbz 0 _ rfl
 obtain ⟨f_law,_,an_law,_,_,kV_law,dc_law,pm_law,cd_law,ct_law,a_law,l_law,c_law,k_law⟩:=fs 23 "law" s_law rfl
 cases LS.tab_cdG tb a_law l_law
 cases hfa.symm.trans (PySem.W.mg_of X G a_law)
 have B:=Zd bs X G
 obtain ⟨fsd,fdd,Sd⟩:=Zc (fs 24 _ JP rfl) X G
 obtain ⟨t_MOST_LINES,v_MOST_LINES⟩:=cs 0 "MOST_LINES" 8 rfl
 have M_MOST_LINES:=PySem.W.mg_of X G v_MOST_LINES
 obtain ⟨t_FIGURES,v_FIGURES⟩:=Tp.strsIn_of wx 0 "FIGURES" "0123456789" rfl
 have M_FIGURES:=PySem.W.mg_of X G v_FIGURES
 obtain ⟨t_LIGHT_SIGNS,v_LIGHT_SIGNS⟩:=Tp.strsIn_of wx 1 "LIGHT_SIGNS" ".#" rfl
 have M_LIGHT_SIGNS:=PySem.W.mg_of X G v_LIGHT_SIGNS
 obtain ⟨_,_,_,_,_,_,_,_,_,_,a_board_read,_,_,_⟩:=fs 21 "board_read" MD rfl
 obtain ⟨_,_,_,_,_,_,_,_,_,_,a_switching_read,_,_,_⟩:=fs 17 "switching_read" MC rfl
 refine ⟨PySem.W.fnOf "law" "law" (defArgs s_law) (defBody s_law) (defScope s_law) .none kV_law dc_law pm_law an_law (.ref (Tp.tbAt K "law").1) ct_law,fun s v=>.of_eq rfl,fun base _ _ hbm=>?_⟩
 have C0:=cc0 (l:=l) (w:=w) (base:=base) fs X G B et M_MOST_LINES M_FIGURES M_LIGHT_SIGNS
 have C1:=cc1 (l:=l) (w:=w) (base:=base) fs X G B et M_MOST_LINES M_FIGURES M_LIGHT_SIGNS
 have C2:=cc2 (l:=l) (w:=w) (base:=base) fs X G B et M_MOST_LINES M_FIGURES M_LIGHT_SIGNS
 have C3:=cc3 (l:=l) (w:=w) (base:=base) fs X G B et M_MOST_LINES M_FIGURES M_LIGHT_SIGNS
 have C4:=cc4 (l:=l) (w:=w) (base:=base) fs X G B et M_MOST_LINES M_FIGURES M_LIGHT_SIGNS
 have C5:=cc5 (l:=l) (w:=w) (base:=base) fs X G B et M_MOST_LINES M_FIGURES M_LIGHT_SIGNS
 have C6:=cc6 (l:=l) (w:=w) (base:=base) fs X G B et M_MOST_LINES M_FIGURES M_LIGHT_SIGNS
 have C7:=cc7 (l:=l) (w:=w) (base:=base) fs X G B et M_MOST_LINES M_FIGURES M_LIGHT_SIGNS
 have C8:=cc8 (l:=l) (w:=w) (base:=base) fs X G B et M_MOST_LINES M_FIGURES M_LIGHT_SIGNS
 have C9:=cc9 (l:=l) (w:=w) (base:=base) fs X G B et M_MOST_LINES M_FIGURES M_LIGHT_SIGNS
 have C10:=ZbQ (l:=l) (w:=w) (base:=base) fs X G B et M_MOST_LINES M_FIGURES M_LIGHT_SIGNS C0
 have C11:=ZbR (l:=l) (w:=w) (base:=base) fs X G B et M_MOST_LINES M_FIGURES M_LIGHT_SIGNS C0
 have C12:=ZbS (l:=l) (w:=w) (base:=base) fs X G B et M_MOST_LINES M_FIGURES M_LIGHT_SIGNS C4 C5
 have C13:=ZbT (l:=l) (w:=w) (base:=base) fs X G B et M_MOST_LINES M_FIGURES M_LIGHT_SIGNS C6
 have C14:=ZbU (l:=l) (w:=w) (base:=base) fs X G B et M_MOST_LINES M_FIGURES M_LIGHT_SIGNS C6
 have C15:=ZbV (l:=l) (w:=w) (base:=base) fs X G B et M_MOST_LINES M_FIGURES M_LIGHT_SIGNS C6
 have C16:=ZbW (l:=l) (w:=w) (base:=base) fs X G B et M_MOST_LINES M_FIGURES M_LIGHT_SIGNS C10
 have C17:=ZbX (l:=l) (w:=w) (base:=base) fs X G B et M_MOST_LINES M_FIGURES M_LIGHT_SIGNS C3 C2 C11
 have C18:=ZbY (l:=l) (w:=w) (base:=base) fs X G B et M_MOST_LINES M_FIGURES M_LIGHT_SIGNS C6 C13
 have C19:=ZbZ (l:=l) (w:=w) (base:=base) fs X G B et M_MOST_LINES M_FIGURES M_LIGHT_SIGNS C1 C16
 have C20:=Zb0 (l:=l) (w:=w) (base:=base) fs X G B et M_MOST_LINES M_FIGURES M_LIGHT_SIGNS C1 C19
 have C21:=Zb1 (l:=l) (w:=w) (base:=base) fs X G B et M_MOST_LINES M_FIGURES M_LIGHT_SIGNS C3 C2 C20
 have C22:=Zb2 (l:=l) (w:=w) (base:=base) fs X G B et M_MOST_LINES M_FIGURES M_LIGHT_SIGNS hbm (tbz 1 _ rfl).1 (tbz 1 _ rfl).2 Sd C21 C17 C7
 have sc:CP ["_law_script","_law_k","_law_box_here","_law_high","_law_wide","_law_board_here","_law_text","_law_word","_law_digits","_law_turn","_law_bent_here","_law_other","_law_some","_law_none","_law_call"] ["_law_script"] (defScope s_law):=⟨rfl,rfl,rfl,by decide +kernel,rfl,by decide +kernel,by decide +kernel⟩
 have nd:=sc.nd
 exact Pi l_law c_law sc (fun ds h e=>if_neg e) (fun ds h e=>if_pos e) fun A outer s H E hr=>by
  have LX:LamX "law" (Bv (AL l.prog w K) l.prog w K mg base ["_law_script","_law_k","_law_box_here","_law_high","_law_wide","_law_board_here","_law_text","_law_word","_law_digits","_law_turn","_law_bent_here","_law_other","_law_some","_law_none","_law_call"] "law" (defScope s_law) fa (.ref (Tp.tbAt K "law").1) A outer s H E) (Tp.tbAt K "law").1 (Tp.tbAt K "law").2:=⟨rfl,tb,hd,rfl,hbm⟩
  ac_rfl
end
end LK
namespace LK
open PySem PySem.W
abbrev top_q:Program:=view PySem.Challenge.pw_lineswitch_k92_texts_refused [42]
abbrev top_loose:List Str:=(PySem.Challenge.pw_lineswitch_k92_texts_refused.main.scope.names.map (·.1)).filter fun x=>!(x=="law")
set_option maxHeartbeats 0 in
theorem top_left:LeftO PySem.Challenge.pw_lineswitch_k92_texts_refused top_q top_loose (fun _=>true) (Tp.obsZ M4) (fun _=>Tp.valZ M4) 1000000:=
 Tp.left_of (n:=44) (by kernel_rfl) (fun s=>by kernel_rfl) (fun w=>by kernel_rfl) (fun w os=>by
  rw [PySem.W.Fast.te10156331382660048174,PySem.W.Fast.te11892475500146522536,PySem.W.Fast.te14364793385576792824,PySem.W.Fast.te10110043849684766642,PySem.W.Fast.te6613529449190102663,PySem.W.Fast.te4187177175401517315,PySem.W.Fast.te5923862056798008813]
  kernel_rfl)
end LK
open PySem PySem.W PyProof.Rows
set_option maxRecDepth 100000 in
set_option maxHeartbeats 0 in
theorem PySem.Challenge.cw_lineswitch_k92_texts_refused_holds : PySem.Challenge.rw_lineswitch_k92_texts_refused.Holds := by
 w_on;o_law
 refine PySem.W.holds_open (q:=LK.top_q) (loose:=LK.top_loose) (d:=⟨"law",L2.defArgs LK.s_law,L2.defBody LK.s_law,L2.defScope LK.s_law,_⟩) (kwd:=[]) (Xt:=fun _=>true) (XP:=fun _ _=>True) (N:=1000000) LK.top_left Tp.saysZ_of Tp.SaysZ.keeps (fun _ _=>trivial) (fun _ _ _ _ _=>trivial) (by rfl) (by kernel_rfl) (by kernel_rfl) (fun s _=>recFacts_nil (by rfl)) (by rfl) (by assumption) (by kernel_rfl) ⟨rfl,rfl,rfl,rfl,rfl,by decide +kernel⟩ ?hw ?hc
 case hw=>w_witness2
 case hc=>exact LS.walk_hdZ (n:=63) (k:=10) (x:="_law_script") (F:=LK.F_law) rfl (by decide) rfl ⟨rfl,by decide,by decide,rfl⟩ (fun w K mg fa h HS X G hfa=>LK.all_mk HS X G hfa) LK.law_true
