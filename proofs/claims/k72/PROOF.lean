import PyProof.Rows.All
import Wide.All
import OpenK.AllK
import Wide.FinOn
import Lean
import PyProof.EqAt
import PyProof.EqKinds
import PyProof.TupleCall
import PyProof.ExcBaseAll.ValueError
import PyProof.ZipIter
import KE.KIsAll
import KE.KTryMore
import PyProof.ExcArgsOwn
import PyProof.ExcAttrAll.ValueError
import KE.KLam
import KE.KNestM
import PyProof.NsDelKeeps
import PyProof.Rows.CatchPack
import PyProof.ReprRoads
import PyProof.Rows.FStr
import PyProof.ListRange
import PyProof.CollectIter
import KE.KRevSl
import PyProof.ExcInit
import PyProof.ExcClass2
import PyProof.InstStore
import PyProof.InstStoreFacts
import PyProof.InstLoad
import OpenK.KMore
import PyProof.Rows.StrKeys3
import PyProof.DictItemsLoops
import PyProof.DictTable
import PyProof.MeetsDictList
import PyProof.DictStraight
import PyProof.DictUpdate
import PySem.Challenge.RW_lineswitch_k72_nets_alike
set_option Elab.async false
set_option linter.all false
set_option maxRecDepth 100000
abbrev AM:=@PySem.Heap.get?_push_of_some
abbrev AC:=@List.prefix_refl
abbrev Ba:=@List.getElem?_eq_getElem
abbrev qa3:=@List.getElem?_eq_some_iff
abbrev A1:=@Nat.lt_of_lt_of_le
abbrev qa5:=@List.mem_cons
abbrev Bn:=@List.mem_cons_of_mem
abbrev AG:=@Nat.le_refl
abbrev A7:=@List.size_toArray
abbrev Bf:=@List.mem_cons_self
abbrev qaA:=@List.mem_singleton
abbrev AO:=@PySem.Heap.lt_size
abbrev BI:=@List.mem_append_right
abbrev BD:=@PySem.Heap.get?_push_size
abbrev BE:=@Bool.false_ne_true
abbrev Cf:=@List.getElem?_set_self
abbrev B4:=@List.getElem?_set_ne
abbrev Bj:=@Nat.ne_of_gt
abbrev BJ:=@List.length_map
abbrev Bx:=@List.map_cons
abbrev qaK:=@List.mem_append
abbrev qaL:=@List.mem_map
abbrev CG:=@List.mem_append_left
abbrev By:=@Nat.ne_of_lt
abbrev Cg:=@List.not_mem_nil
abbrev BP:=@Nat.le_trans
abbrev Cp:=@Bool.and_eq_true
abbrev CP:=@List.getElem?_map
abbrev CQ:=@Nat.le_add_right
abbrev qaT:=@List.all_eq_true
abbrev Dv:=@Bool.false_eq_true
abbrev B5:=@Nat.zero_le
abbrev qaW:=@Bool.eq_iff_iff
abbrev Cq:=@List.map_map
abbrev qaY:=@List.mem_range
abbrev FB:=@List.getD_eq_getElem?_getD
abbrev qb0:=@Option.map_eq_some_iff
abbrev F6:=@List.getElem?_append_left
abbrev EJ:=@List.length_append
abbrev DS:=@List.find?_cons
abbrev DB:=@Nat.lt_irrefl
abbrev DT:=@PySem.Heap.size_push
abbrev El:=@List.append_nil
abbrev Em:=@List.map_append
abbrev qb8:=@List.mem_filter
abbrev F7:=@List.mem_of_mem_take
abbrev FC:=@List.pairwise_map
abbrev F8:=@List.filterMap_cons
abbrev F9:=@List.map_congr_left
abbrev GC:=@List.length_filter_le
abbrev FD:=@List.cons_append
abbrev qbF:=@List.any_eq_true
abbrev GD:=@List.mem_of_getElem?
abbrev GE:=@List.mem_of_mem_drop
abbrev Ga:=@List.length_range
abbrev GF:=@List.replicate_succ
abbrev Jj:=@List.getElem?_append_right
abbrev GG:=@List.prefix_append
abbrev Gb:=@Option.map_some
abbrev GH:=@List.length_cons
abbrev GI:=@List.lookup_cons
abbrev GJ:=@List.append_inj'
abbrev qbQ:=@List.nodup_cons
abbrev GK:=@List.length_nil
abbrev GL:=@List.forIn_cons
abbrev H0:=@List.flatten_cons
abbrev Ia:=@List.filter_congr
abbrev Kw:=@List.mem_of_find?_eq_some
abbrev GM:=@List.forIn_nil
abbrev Gc:=@Nat.le_of_lt
abbrev qbY:=@Option.isSome_iff_exists
abbrev Ib:=@List.getElem_mem
abbrev Kx:=@List.headD_eq_head?_getD
abbrev Ic:=@List.nil_append
abbrev Jk:=@Int.toNat_natCast
abbrev Jl:=@List.reverse_cons
abbrev Jm:=@List.append_assoc
abbrev Jn:=@List.nodup_append
abbrev Jo:=@Nat.lt_succ_of_lt
abbrev Jp:=@Nat.le_of_not_lt
abbrev Jq:=@Nat.lt_succ_self
abbrev Ie:=@List.all_cons
abbrev Ig:=@List.any_cons
abbrev Jr:=@List.of_mem_zip
abbrev Js:=@List.foldl_cons
abbrev MN:=@List.drop_eq_getElem_cons
abbrev Ky:=@List.zip_cons_cons
abbrev Ih:=@List.map_nil
abbrev qcG:=@List.pairwise_cons
abbrev qcH:=@List.find?_eq_none
abbrev Jt:=@Bool.false_and
abbrev Ju:=@Bool.false_xor
abbrev MP:=@List.getElem?_replicate
abbrev qcL:=@List.length_eq_zero_iff
abbrev MQ:=@PySem.Heap.get?_update_other
abbrev MR:=@List.take_of_length_le
abbrev Kz:=@List.length_take
abbrev KA:=@List.zipIdx_cons
abbrev MU:=@PySem.Heap.get?_update_self
abbrev KB:=@List.find?_some
abbrev Jv:=@List.any_map
abbrev KC:=@List.zipIdx_nil
abbrev KG:=@List.length_zip
namespace L2
open PySem PySem.Spec PyProof.Rows
abbrev UG:=Sum Int Str
inductive V where
 |non |bl (b:Bool) |int (i:Int) |str (x:Str) |byt (b:Array UInt8) |flt (b:UInt64) |ref (a:Addr) |ty (n:String)
 deriving DecidableEq
def RelV:V→Value→Prop
 |.non,u=>u=Value.none
 |.bl b,u=>u=Value.bool b
 |.int i,u=>∃t,u=Value.int i t
 |.str x,u=>∃t,u=Value.str x t
 |.byt b,u=>∃t,u=Value.bytes b t
 |.flt b,u=>∃t,u=Value.float b t
 |.ref a,u=>u=Value.ref a
 |.ty n,u=>u=Value.type n
abbrev Vals:List V→List Value→Prop:=Paired RelV
theorem Vals.length {xs:List V} {us:List Value} (r:Vals xs us):xs.length=us.length:=Paired.length r
theorem Vals.get:∀{xs:List V} {us:List Value} {i:Nat} {x:V},Vals xs us→xs[i]?=some x→∃u,us[i]?=some u∧RelV x u
 |_,_,_,_,.nil,e=>by simp at e
 |_,_,0,_,.cons r _,e=>by simp at e;subst e;exact ⟨_,rfl,r⟩
 |_,_,i+1,x,.cons _ t,e=>by
  obtain ⟨u,h1,h2⟩:=Vals.get (i:=i) (x:=x) t (by simpa using e)
  exact ⟨u,by simpa using h1,h2⟩
theorem Vals.set {x:V} {u:Value} (r:RelV x u):∀{xs:List V} {us:List Value} (i:Nat),Vals xs us→Vals (xs.set i x) (us.set i u)
 |_,_,_,.nil=>.nil
 |_,_,0,.cons _ t=>.cons r t
 |_,_,i+1,.cons q t=>.cons q (Vals.set r i t)
theorem Vals.append:∀{xs ys:List V} {us ws:List Value},Vals xs us→Vals ys ws→Vals (xs++ys) (us++ws)
 |_,_,_,_,.nil,s=>s
 |_,_,_,_,.cons r t,s=>.cons r (Vals.append t s)
theorem Vals.take:∀{xs:List V} {us:List Value} (n:Nat),Vals xs us→Vals (xs.take n) (us.take n)
 |_,_,0,_=>.nil
 |_,_,_+1,.nil=>.nil
 |_,_,n+1,.cons r t=>.cons r (Vals.take n t)
theorem Vals.drop:∀{xs:List V} {us:List Value} (n:Nat),Vals xs us→Vals (xs.drop n) (us.drop n)
 |_,_,0,r=>r
 |_,_,_+1,.nil=>.nil
 |_,_,n+1,.cons _ t=>Vals.drop n t
def UH:Option V→Option Value→Prop
 |some v,some u=>RelV v u
 |none,none=>True
 |_,_=>False
def kV:UG→V
 |.inl i=>.int i
 |.inr x=>.str x
inductive HO where
 |lst (xs:List V)
 |tup (xs:List V)
 |own (x:Addr)
 |xd (fs:List (Str×V))
 |frz (o:Obj) (u:HO)
 |tbl (ps:Array Value)
 |ext (φ:Heap→Prop)
 |mex (φ:Heap→Prop)
 |dct (φ:Heap→Prop)
abbrev Hp:=Addr→Option HO
def Av (H:Hp) (a:Addr) (o:HO):Hp:=fun b=>if b=a then some o else H b
theorem B9 {H:Hp} {a:Addr} {o:HO}:Av H a o a=some o:=by unfold Av;rw [if_pos rfl]
theorem AF {H:Hp} {a b:Addr} {o:HO} (h:b≠a):Av H a o b=H b:=by unfold Av;rw [if_neg h]
theorem Cr {H:Hp} {a b:Addr} {o:HO} (h:H a=some o) (h':H b=none):a≠b:=by
 intro e;subst e;rw [h] at h';cases h'
section
variable (P:Program) (w:World)
inductive PF (h:Heap) (a:Addr) (xs:List V):Prop where
 |mk (f1:xs.length≤sizeLine) (its:List Value) (n:Nat) (f2:Vals xs its) (f3:h.get? a=some {cls:=.type "list",data:=.seq its.toArray n}):PF h a xs
def NoDict (h:Heap) (a:Addr):Prop:=∀o,h.get? a=some o→o.dict=none
inductive MV (h:Heap) (a:Addr) (xs:List V):Prop where
 |mk (f1:xs.length≤sizeLine) (its:List Value) (f2:Vals xs its) (f3:IsTup h a its.toArray) (f4:NoDict h a):MV h a xs
theorem NoDict.new {h:Heap} {o:Obj} (hd:o.dict=none:=by rfl) (hf:o.isFreed=false:=by rfl):NoDict (h.push o) h.objs.size:=fun u e=>by
 rw [BD _ hf] at e
 cases e
 exact hd
def ObjOk (P:Program) (w:World) (H:Hp) (h:Heap) (a:Addr):HO→Prop
 |.lst xs=>PF h a xs
 |.tup xs=>MV h a xs
 |.own _=>∃o,h.get? a=some o
 |.xd fs=>∃mA,h.Ns1 a mA∧∀f,UH (fs.lookup f) (mA f)
 |.frz o u=>h.get? a=some o∧ObjOk P w H h a u
 |.tbl ps=>h.get? a=some {cls:=.none,data:=.fields ps}
 |.ext φ=>φ h∧(∃o,h.get? a=some o)∧∀h1 h2:Heap,φ h1→(∀o,h1.get? a=some o→h2.get? a=some o)→φ h2
 |.mex φ=>φ h∧(∃o,h.get? a=some o)∧∀h1 h2:Heap,φ h1→(∀o,h1.get? a=some o→h2.get? a=some o)→φ h2
 |.dct φ=>φ h∧(∃o,h.get? a=some o)∧∀h1 h2:Heap,φ h1→(∀o,h1.get? a=some o→h2.get? a=some o)→φ h2
def HOk (H:Hp) (h:Heap):Prop:=∀a o,H a=some o→ObjOk P w H h a o
end
section
variable {P:Program} {w:World} {H H':Hp} {h h':Heap} {a:Addr} {o:HO}
theorem ObjOk.lt (x:ObjOk P w H h a o):a<h.objs.size:=by
 cases o with
 |lst xs=>obtain ⟨_,_,_,_,e⟩:=x;exact AO e
 |tup xs=>obtain ⟨_,_,_,p,_⟩:=x;exact p.lt
 |own y=>obtain ⟨_,e⟩:=x;exact AO e
 |xd fs=>obtain ⟨_,⟨_,_,_,e,_⟩,_⟩:=x;exact AO e
 |frz ob u=>obtain ⟨e,_⟩:=x;exact AO e
 |tbl ps=>exact AO (show h.get? a=some _ from x)
 |ext φ=>obtain ⟨_,⟨_,e⟩,_⟩:=x;exact AO e
 |mex φ=>obtain ⟨_,⟨_,e⟩,_⟩:=x;exact AO e
 |dct φ=>obtain ⟨_,⟨_,e⟩,_⟩:=x;exact AO e
theorem ObjOk.stay (x:ObjOk P w H h a o) (k:∀b u,(b=a∨H b=some (.own a))→h.get? b=some u→h'.get? b=some u)
 (ho:∀b,H b=some (.own a)→H' b=some (.own a)) (ht:∀b xs,H b=some (.tup xs)→H' b=some (.tup xs)):ObjOk P w H' h' a o:=by
 induction o with
 |lst xs=>obtain ⟨z,its,n,r,e⟩:=x;exact ⟨z,its,n,r,k _ _ (.inl rfl) e⟩
 |tup xs=>obtain ⟨z,its,r,⟨ob,e,c⟩,nd⟩:=x;exact ⟨z,its,r,⟨ob,k _ _ (.inl rfl) e,c⟩,fun o e2=>by rw [k _ _ (.inl rfl) e] at e2;cases e2;exact nd _ e⟩
 |own y=>obtain ⟨ob,e⟩:=x;exact ⟨ob,k _ _ (.inl rfl) e⟩
 |xd fs=>obtain ⟨mA,⟨od,es,ep,e,c⟩,r⟩:=x;exact ⟨mA,⟨od,es,ep,k _ _ (.inl rfl) e,c⟩,r⟩
 |frz ob u ih=>obtain ⟨e,q⟩:=x;exact ⟨k _ _ (.inl rfl) e,ih q⟩
 |tbl ps=>
  have e:h.get? a=some {cls:=.none,data:=.fields ps}:=x
  show h'.get? a=some {cls:=.none,data:=.fields ps}
  exact k a _ (.inl rfl) e
 |ext φ=>obtain ⟨p,⟨o,e⟩,st⟩:=x;exact ⟨st _ _ p fun o q=>k _ _ (.inl rfl) q,⟨o,k _ _ (.inl rfl) e⟩,st⟩
 |mex φ=>obtain ⟨p,⟨o,e⟩,st⟩:=x;exact ⟨st _ _ p fun o q=>k _ _ (.inl rfl) q,⟨o,k _ _ (.inl rfl) e⟩,st⟩
 |dct φ=>obtain ⟨p,⟨o,e⟩,st⟩:=x;exact ⟨st _ _ p fun o q=>k _ _ (.inl rfl) q,⟨o,k _ _ (.inl rfl) e⟩,st⟩
theorem HOk.lt (x:HOk P w H h) (e:H a=some o):a<h.objs.size:=(x a o e).lt
theorem HOk.fresh (x:HOk P w H h) (e:h.objs.size≤a):H a=none:=by
 cases q:H a with
 |none=>rfl
 |some u=>exact absurd (A1 (x.lt q) e) (DB _)
theorem HOk.kept (x:HOk P w H h) (k:∀b u,h.get? b=some u→h'.get? b=some u):HOk P w H h':=fun a o e=>
 (x a o e).stay (fun b u _ q=>k b u q) (fun _ q=>q) fun _ _ q=>q
theorem HOk.laid (x:HOk P w H h) (k:∀b u,h.get? b=some u→h'.get? b=some u) (hp:h.objs.size≤a) (new:ObjOk P w (Av H a o) h' a o):HOk P w (Av H a o) h':=fun b u e=>by
 have hn:=x.fresh hp
 by_cases hb:b=a
 ·subst hb;rw [B9] at e;cases e;exact new
 ·rw [AF hb] at e
  exact (x b u e).stay (fun c v _ q=>k c v q) (fun c q=>by rw [AF (Cr q hn)];exact q) fun c xs q=>by rw [AF (Cr q hn)];exact q
end
def Rd (H:Hp) (a:Addr) (u:HO):Prop:=H a=some u∨∃o,H a=some (.frz o u)
theorem Rd.ok {P:Program} {w:World} {H:Hp} {h:Heap} {a:Addr} {u:HO} (r:Rd H a u) (x:HOk P w H h):ObjOk P w H h a u:=by
 rcases r with r |⟨o,r⟩
 ·exact x a u r
 ·obtain ⟨_,q⟩:=x a _ r
  exact q
def KH:Option HO→Prop
 |some (.lst _)=>True
 |some (.ext _)=>True
 |some (.mex _)=>True
 |some (.dct _)=>True
 |_=>False
section
variable {P:Program} {w:World} {H:Hp} {h h':Heap} {x e:Addr} {o':HO}
theorem HOk.write (ok:HOk P w H h) (mu:KH (H x)) (he:e=x∨H e=some (.own x)) (k:∀b u,b≠e→h.get? b=some u→h'.get? b=some u) (heo:∃u,h'.get? e=some u)
 (new:ObjOk P w (Av H x o') h' x o'):HOk P w (Av H x o') h':=fun b u q=>by
 have nown:∀c y,H c=some (.own y)→c≠x:=fun c y r z=>by subst z;rw [r] at mu;exact mu
 have ntup:∀c xs,H c=some (.tup xs)→c≠x:=fun c xs r z=>by subst z;rw [r] at mu;exact mu
 by_cases hb:b=x
 ·subst hb;rw [B9] at q;cases q;exact new
 ·rw [AF hb] at q
  by_cases hbe:b=e
  ·have q':H b=some (.own x):=by
    rcases he with z |z
    ·exact absurd (hbe.trans z) hb
    ·rw [hbe];exact z
   rw [q] at q';cases q'
   obtain ⟨v,hv⟩:=heo
   exact ⟨v,by rw [hbe];exact hv⟩
  ·refine (ok b u q).stay (fun c v hc r=>k c v ?_ r) (fun c r=>by rw [AF (nown c b r)];exact r) fun c xs r=>by rw [AF (ntup c xs r)];exact r
   rcases hc with rfl |hc
   ·exact hbe
   ·rintro rfl
    rcases he with z |z
    ·exact nown c b hc z
    ·rw [hc] at z;cases z;exact hb rfl
end
structure Un (fs ex:List Addr) (H H':Hp) (h h':Heap):Prop where
 keep:∀b o,h.get? b=some o→H b=none→b∉fs→b∉ex→h'.get? b=some o
 slot:∀b o,h.get? b=some o→H b=none→b∈fs→b∉ex→∃sl,h'.get? b=some {o with slots:=sl}
 free:∀b o,h.get? b=some o→H b=none→b∉ex→H' b=none
 there:∀b o,h.get? b=some o→b∉ex→∃o',h'.get? b=some o'
 tups:∀b xs,H b=some (.tup xs)→H' b=some (.tup xs)
 frzs:∀b o u,H b=some (.frz o u)→H' b=some (.frz o u)
 tbls:∀b ps,H b=some (.tbl ps)→∃more,H' b=some (.tbl (ps++more))
section
variable {fs fs' ex ex':List Addr} {H H1 H2:Hp} {h h1 h2 h':Heap} {a x e:Addr} {o:HO}
theorem Un.any (u:Un fs ex H H1 h h1) {b:Addr} {ob:Obj} (q:h.get? b=some ob) (n:H b=none) (hx:b∉ex):∃sl,h1.get? b=some {ob with slots:=sl}:=by
 by_cases hb:b∈fs
 ·exact u.slot b ob q n hb hx
 ·exact ⟨ob.slots,u.keep b ob q n hb hx⟩
theorem Un.kept (k:∀b u,h.get? b=some u→h'.get? b=some u):Un fs ex H H h h':=
 ⟨fun b ob q _ _ _=>k b ob q,fun b ob q _ _ _=>⟨ob.slots,k b ob q⟩,fun _ _ _ n _=>n,fun b ob q _=>⟨ob,k b ob q⟩,fun _ _ q=>q,fun _ _ _ q=>q,fun _ ps q=>⟨#[],by rw [q];simp⟩⟩
theorem Un.refl:Un fs ex H H h h:=Un.kept fun _ _ q=>q
theorem Un.laid (k:∀b u,h.get? b=some u→h'.get? b=some u) (hp:h.objs.size≤a) (hn:H a=none):Un fs ex H (Av H a o) h h' where
 keep:=fun b u q _ _ _=>k b u q
 slot:=fun b u q _ _ _=>⟨u.slots,k b u q⟩
 free:=fun b u q n _=>by rw [AF (By (A1 (AO q) hp))];exact n
 there:=fun b u q _=>⟨u,k b u q⟩
 tups:=fun b xs q=>by rw [AF (Cr q hn)];exact q
 frzs:=fun b u xs q=>by rw [AF (Cr q hn)];exact q
 tbls:=fun b ps q=>⟨#[],by rw [AF (Cr q hn),q];simp⟩
theorem Un.write (mu:KH (H x)) (he:e=x∨H e=some (.own x)) (k:∀b u,b≠e→h.get? b=some u→h'.get? b=some u) (heo:∃u,h'.get? e=some u):Un fs ex H (Av H x o) h h':=by
 have hx:∀b,H b=none→b≠x:=fun b n z=>by subst z;rw [n] at mu;exact mu
 have hb:∀b,H b=none→b≠e:=fun b n z=>by
  subst z
  rcases he with r |r
  ·exact hx b n r
  ·rw [n] at r;cases r
 have hm:∀b u,H b=some u→¬KH (some u)→b≠x:=fun b u q nm z=>by subst z;rw [q] at mu;exact nm mu
 refine ⟨fun b u q n _ _=>k b u (hb b n) q,fun b u q n _ _=>⟨u.slots,k b u (hb b n) q⟩,fun b u q n _=>by rw [AF (hx b n)];exact n,fun b u q _=>?_,
  fun b xs q=>by rw [AF (hm b _ q fun z=>z)];exact q,fun b u xs q=>by rw [AF (hm b _ q fun z=>z)];exact q,fun b ps q=>⟨#[],by rw [AF (hm b _ q fun z=>z),q];simp⟩⟩
 by_cases hbe:b=e
 ·subst hbe;exact heo
 ·exact ⟨u,k b u hbe q⟩
end
def KI (h:Heap) (H:Hp):List Addr:=(List.range h.objs.size).filter fun a=>(H a).isSome
def Fd (h:Heap) (H:Hp):Heap:=PySem.W.hideAll h (KI h H)
theorem UI (h:Heap) (H:Hp):(Fd h H).objs.size=h.objs.size:=PySem.W.hideAll_size _ _
theorem UJ {h:Heap} {H:Hp} {b:Addr} {o:Obj} (e:h.get? b=some o) (n:H b=none):(Fd h H).get? b=some o:=
 PySem.W.hideAll_get _ e fun hm=>by
  have q:(H b).isSome=true:=(qb8.mp hm).2
  rw [n] at q;simp at q
theorem UK {h:Heap} {H:Hp} {b:Addr} {o:Obj} (e:(Fd h H).get? b=some o):h.get? b=some o∧H b=none:=by
 have e':h.get? b=some o:=PySem.W.of_hideAll (KI h H) e
 refine ⟨e',?_⟩
 cases q:H b with
 |none=>rfl
 |some x=>
  have hm:b∈KI h H:=qb8.mpr ⟨qaY.mpr (AO e'),by simp [q]⟩
  have z:(Fd h H).get? b=none:=PySem.W.hideAll_none (KI h H) hm
  rw [z] at e;cases e
def UL (g h:Heap) (L:Addr):List (Addr×Obj):=(List.range h.objs.size).filterMap fun a=>if a=L∨(g.get? a).isSome=true then none else (h.get? a).map fun o=>(a,o)
def rest (g h:Heap) (L d:Addr):List (Addr×Obj):=(UL g h L).filter fun p=>decide (p.1≠d)
structure Mod (K:PySem.W.Frag) (mg:Str→Option Value) (base:Heap):Prop where
 kin:K.In base
 glob:base.Ns mainGlobals mg
 blt:∃mb,base.Ns builtinsNs mb∧∀x:Str,x≠"__name__"→mb x=bootBuiltins x
 nolimit:base.NoLimit
structure Cx where
 prog:Program
 w:World
 K:PySem.W.Frag
 mg:Str→Option Value
 base:Heap
 A:Around
 N:List Str
 s₀:Shared
 H₀:Hp
 env:Env
 outer:List Env
 stack:List Env
 ex:List Addr
 fn:Str→Bool
 calm:Bool
 pn:List (Addr×Obj)
 xe:Value→Shared→Prop
def frs (l:List Env):List Addr:=l.filterMap (·.frame)
abbrev Cx.fs (X:Cx):List Addr:=frs X.outer
def KJ (sc:Scope) (x:Str):Prop:=sc.names.lookup x=some .local∨sc.names.lookup x=some .cell∨sc.names.lookup x=some .free
def Ii (sc:Scope) (x:Str):Prop:=sc.names.lookup x=some .local∨sc.names.lookup x=some .cell
def PH (env:Env) (h:Heap) (m:Str→Option Value) (x:Str) (u:Value):Prop:=
 (env.kindOf x=some .local∧m x=some u)∨((env.kindOf x=some .cell∨env.kindOf x=some .free)∧∃c,env.cells.lookup x=some c∧h.IsCell c (some u))
structure Cx.Ok (X:Cx):Prop where
 mod:Mod X.K X.mg X.base
 kind:X.env.scope.kind=.function
 glob:X.env.globals=mainGlobals
 blt:X.env.builtins=builtinsNs
 above:X.s₀.heap.objs.size≤X.env.locals
 inj:∀x y c,X.env.cells.lookup x=some c→X.env.cells.lookup y=some c→x=y
 has:∀x,(X.env.kindOf x=some .cell∨X.env.kindOf x=some .free)→∃c,X.env.cells.lookup x=some c
 cab:∀x c,X.fn x=true→X.env.cells.lookup x=some c→X.s₀.heap.objs.size≤c
 hd:X.calm=true→X.A.handled=none
 frames:X.A.frames=some X.stack
 stk:X.stack=X.outer∨(X.stack=X.env::X.outer∧X.env.frame=some X.env.locals)
 exf:∀b∈X.ex,b≠X.env.locals∧∀x c,X.env.cells.lookup x=some c→c≠b
 bs:∀b o,X.base.get? b=some o→X.s₀.heap.get? b=some o∧X.H₀ b=none
 bsz:X.base.objs.size≤X.s₀.heap.objs.size
 noex:∀b o,X.base.get? b=some o→b∉X.ex
 exfs:∀b∈X.ex,b∉X.fs
 funs:X.s₀.heap.FunFrames X.base X.outer
 frf:∀b∈X.fs,X.H₀ b=none
structure Inv (X:Cx) (pins:List (Addr×Obj)) (σ:List (Option V)) (H:Hp) (s:Shared):Prop where
 ok:X.Ok
 os:s.os=X.s₀.os
 bare:AllBare s.gens
 base:Un X.fs X.ex X.H₀ H X.s₀.heap s.heap
 loc:∃m,s.heap.Ns X.env.locals m∧∀(i:Nat) (x:Str) (v:V),X.N[i]?=some x→σ[i]?=some (some v)→KJ X.env.scope x→∃u,RelV v u∧PH X.env s.heap m x u
 cell:∀x c,X.env.cells.lookup x=some c→∃v,s.heap.IsCell c v
 free:H X.env.locals=none
 freeC:∀x c,X.env.cells.lookup x=some c→H c=none
 pin:∀p∈X.pn++pins,s.heap.get? p.1=some p.2∧H p.1=none∧p.1≠X.env.locals∧p.1∉X.fs∧∀v,p.2.data≠.cell v
 hok:HOk X.prog X.w H s.heap
 len:σ.length=X.N.length
section
variable {X:Cx} {pins:List (Addr×Obj)} {σ:List (Option V)} {H H':Hp} {s:Shared} {h':Heap}
theorem Cx.Ok.nofr (ok:X.Ok) {b:Addr} {o:Obj} (e:X.base.get? b=some o):b∉X.fs:=fun hb=>by
 have:=(ok.funs.mem hb).1
 rw [e] at this;cases this
theorem Inv.bs (I:Inv X pins σ H s):∀b o,X.base.get? b=some o→s.heap.get? b=some o∧H b=none:=fun b o e=>
 ⟨I.base.keep b o (I.ok.bs b o e).1 (I.ok.bs b o e).2 (I.ok.nofr e) (I.ok.noex b o e),I.base.free b o (I.ok.bs b o e).1 (I.ok.bs b o e).2 (I.ok.noex b o e)⟩
theorem Inv.bk (I:Inv X pins σ H s):∀b o,X.base.get? b=some o→s.heap.get? b=some o:=fun b o e=>(I.bs b o e).1
theorem Inv.mod (I:Inv X pins σ H s):Mod X.K X.mg X.base:=I.ok.mod
theorem Inv.kIn (I:Inv X pins σ H s):X.K.In s.heap:=I.ok.mod.kin.keeps I.bk
theorem Inv.nolimit (I:Inv X pins σ H s):s.heap.NoLimit:=I.ok.mod.nolimit.keeps I.bk
theorem Inv.lt (I:Inv X pins σ H s):X.env.locals<s.heap.objs.size:=let ⟨_,hn,_⟩:=I.loc;hn.lt
theorem Inv.sz (I:Inv X pins σ H s):X.s₀.heap.objs.size≤s.heap.objs.size:=BP I.ok.above (Gc I.lt)
theorem Inv.nofs (I:Inv X pins σ H s) {a:Addr} (h:s.heap.objs.size≤a):a∉X.fs:=fun hb=>by
 obtain ⟨_,o,ho,_⟩:=I.ok.funs.mem hb
 exact absurd (A1 (AO ho) (BP I.sz h)) (DB _)
theorem Inv.cne (I:Inv X pins σ H s):∀x c,X.env.cells.lookup x=some c→c≠X.env.locals:=fun x c e z=>by
 obtain ⟨v,o,ho,hd⟩:=I.cell x c e
 obtain ⟨m,⟨o',es,ep,ho',hd',_⟩,_⟩:=I.loc
 rw [z,ho'] at ho;cases ho;rw [hd'] at hd;cases hd
theorem Inv.funs (I:Inv X pins σ H s):s.heap.FunFrames X.base X.outer:=by
 have all:∀(l:List Env),(∀b∈frs l,b∈X.fs)→X.s₀.heap.FunFrames X.base l→s.heap.FunFrames X.base l:=by
  intro l
  induction l with
  |nil=>intro _ _;trivial
  |cons env r ih=>
   intro hs hl
   obtain ⟨hk,⟨L,o,hf,hn,ho,hd⟩,hr⟩:=hl
   have hL:L∈X.fs:=hs L (by unfold frs;rw [F8,hf];exact Bf)
   obtain ⟨sl,e⟩:=I.base.slot L o ho (I.ok.frf L hL) hL fun z=>I.ok.exfs L z hL
   exact ⟨hk,⟨L,_,hf,hn,e,hd⟩,ih (fun b hb=>hs b (by unfold frs;rw [F8,hf];exact Bn _ hb)) hr⟩
 exact all X.outer (fun _ hb=>hb) I.ok.funs
theorem Inv.stack (I:Inv X pins σ H s):s.heap.FunFrames X.base X.stack:=by
 rcases I.ok.stk with e |⟨e,hf⟩
 ·rw [e];exact I.funs
 ·rw [e]
  obtain ⟨m,hn,_⟩:=I.loc
  refine .cons (by rw [I.ok.kind];decide) hf hn ?_ I.funs
  exact Heap.get?_none_of_le (BP I.ok.bsz I.ok.above)
theorem Inv.stkSub (I:Inv X pins σ H s):∀b∈frs X.stack,b∈X.env.locals::X.fs:=fun b hb=>by
 rcases I.ok.stk with e |⟨e,hf⟩
 ·rw [e] at hb;exact Bn _ hb
 ·rw [e] at hb
  unfold frs at hb
  rw [F8,hf] at hb
  exact hb
theorem Inv.stkFree (I:Inv X pins σ H s):∀b∈frs X.stack,H b=none:=fun b hb=>by
 rcases qa5.mp (I.stkSub b hb) with e |hb
 ·rw [e];exact I.free
 ·obtain ⟨_,o,ho,_⟩:=I.ok.funs.mem hb
  exact I.base.free b o ho (I.ok.frf b hb) fun z=>I.ok.exfs b z hb
theorem Inv.step {g':Array GenState} {t':Nat} {d':Drawn} {ch:List Addr} (I:Inv X pins σ H s)
 (hch:∀b∈ch,(b∈X.ex∨X.s₀.heap.objs.size≤b)∧b≠X.env.locals∧(∀x c,X.env.cells.lookup x=some c→c≠b)∧∀p∈X.pn++pins,p.1≠b)
 (keep:∀b o,b≠X.env.locals→b∉X.fs→b∉ch→s.heap.get? b=some o→H b=none→h'.get? b=some o)
 (slot:∀b o,b≠X.env.locals→b∈X.fs→b∉ch→s.heap.get? b=some o→H b=none→∃sl,h'.get? b=some {o with slots:=sl}) (free:∀b o,b∉ch→s.heap.get? b=some o→H b=none→H' b=none)
 (there:∀b o,b∉ch→s.heap.get? b=some o→∃o',h'.get? b=some o')
 (tups:∀b xs,H b=some (.tup xs)→H' b=some (.tup xs)) (frzs:∀b o u,H b=some (.frz o u)→H' b=some (.frz o u)) (tbls:∀b ps,H b=some (.tbl ps)→∃more,H' b=some (.tbl (ps++more)))
 (ns:∀m,s.heap.Ns X.env.locals m→h'.Ns X.env.locals m) (hok:HOk X.prog X.w H' h') (hg:AllBare g'):
 Inv X pins σ H' {s with heap:=h',gens:=g',drawn:=d',toks:=t'}:=by
 have neL:∀b o,X.s₀.heap.get? b=some o→b≠X.env.locals:=fun b o e=>By (A1 (AO e) I.ok.above)
 have neC:∀b o,X.s₀.heap.get? b=some o→b∉X.ex→b∉ch:=fun b o e hx hb=>by
  rcases (hch b hb).1 with z |z
  ·exact hx z
  ·exact absurd (A1 (AO e) z) (DB _)
 have cellK:∀x c,X.env.cells.lookup x=some c→∀v,s.heap.IsCell c v→h'.IsCell c v:=fun x c e v z1_=>by
  obtain ⟨o,ho,hd⟩:=z1_
  have nch:c∉ch:=fun z=>(hch c z).2.2.1 x c e rfl
  by_cases hc:c∈X.fs
  ·obtain ⟨sl,q⟩:=slot c o (I.cne x c e) hc nch ho (I.freeC x c e)
   exact ⟨_,q,hd⟩
  ·exact ⟨o,keep c o (I.cne x c e) hc nch ho (I.freeC x c e),hd⟩
 refine ⟨I.ok,I.os,hg,⟨fun b o e n hb hx=>?_,fun b o e n hb hx=>?_,fun b o e n hx=>?_,fun b o e hx=>?_,fun b xs e=>tups b xs (I.base.tups b xs e),fun b o xs e=>frzs b o xs (I.base.frzs b o xs e),fun b ps e=>?_⟩,?_,fun x c e=>?_,?_,fun x c e=>?_,fun p hp=>?_,hok,I.len⟩
 ·exact keep b o (neL b o e) hb (neC b o e hx) (I.base.keep b o e n hb hx) (I.base.free b o e n hx)
 ·obtain ⟨sl,e1⟩:=I.base.slot b o e n hb hx
  obtain ⟨sl',e2⟩:=slot b _ (neL b o e) hb (neC b o e hx) e1 (I.base.free b o e n hx)
  exact ⟨sl',e2⟩
 ·obtain ⟨o',e1⟩:=I.base.there b o e hx
  exact free b o' (neC b o e hx) e1 (I.base.free b o e n hx)
 ·obtain ⟨o',e1⟩:=I.base.there b o e hx
  exact there b o' (neC b o e hx) e1
 ·obtain ⟨m1,e1⟩:=I.base.tbls b ps e
  obtain ⟨m2,e2⟩:=tbls b _ e1
  exact ⟨m1++m2,by rw [e2,Array.append_assoc]⟩
 ·obtain ⟨m,hn,hl⟩:=I.loc
  refine ⟨m,ns m hn,fun i x v e1 e2 e3=>?_⟩
  obtain ⟨u,r,l⟩:=hl i x v e1 e2 e3
  refine ⟨u,r,?_⟩
  rcases l with l |⟨k,c,e,z⟩
  ·exact .inl l
  ·exact .inr ⟨k,c,e,cellK x c e _ z⟩
 ·obtain ⟨v,z⟩:=I.cell x c e
  exact ⟨v,cellK x c e v z⟩
 ·obtain ⟨m,⟨o,_,_,ho,_⟩,_⟩:=I.loc
  exact free _ o (fun z=>(hch _ z).2.1 rfl) ho I.free
 ·obtain ⟨v,o,ho,hd⟩:=I.cell x c e
  exact free c o (fun z=>(hch c z).2.2.1 x c e rfl) ho (I.freeC x c e)
 ·obtain ⟨e,n,ne,nf,d⟩:=I.pin p hp
  have nch:p.1∉ch:=fun z=>(hch p.1 z).2.2.2 p hp rfl
  exact ⟨keep p.1 p.2 ne nf nch e n,free p.1 p.2 nch e n,ne,nf,d⟩
theorem Inv.un {t':Nat} (I:Inv X pins σ H s) (u:Un X.fs [] H H' s.heap h') (hok:HOk X.prog X.w H' h'):Inv X pins σ H' {s with heap:=h',toks:=t'}:=by
 obtain ⟨m,⟨o,es,ep,ho,r⟩,_⟩:=id I.loc
 obtain ⟨sl,hL⟩:=u.any ho I.free (by simp)
 exact I.step (g':=s.gens) (d':=s.drawn) (ch:=[]) (fun _ z=>nomatch z) (fun b o _ hb _ e n=>u.keep b o e n hb (by simp)) (fun b o _ hb _ e n=>u.slot b o e n hb (by simp)) (fun b o _ e n=>u.free b o e n (by simp)) (fun b o _ e=>u.there b o e (by simp)) u.tups u.frzs u.tbls (fun m' hm=>by
  obtain ⟨o',es',ep',ho',r'⟩:=hm
  rw [ho] at ho';cases ho'
  exact ⟨_,es',ep',hL,r'⟩) hok I.bare
theorem Inv.call {g':Array GenState} {t':Nat} {d':Drawn} {ch:List Addr} (I:Inv X pins σ H s) (u:Un (frs X.stack) ch H H' s.heap h') (hok:HOk X.prog X.w H' h') (hg:AllBare g')
 (hch:∀b∈ch,(b∈X.ex∨X.s₀.heap.objs.size≤b)∧b≠X.env.locals∧(∀x c,X.env.cells.lookup x=some c→c≠b)∧∀p∈X.pn++pins,p.1≠b):
 Inv X pins σ H' {s with heap:=h',gens:=g',drawn:=d',toks:=t'}:=by
 obtain ⟨m,⟨o,es,ep,ho,r⟩,_⟩:=id I.loc
 obtain ⟨sl,hL⟩:=u.any ho I.free fun z=>(hch _ z).2.1 rfl
 exact I.step (ch:=ch) hch (fun b o hL hb hc e n=>u.keep b o e n (fun z=>(qa5.mp (I.stkSub b z)).elim hL hb) hc) (fun b o _ _ hc e n=>u.any e n hc) (fun b o hc e n=>u.free b o e n hc) (fun b o hc e=>u.there b o e hc) u.tups u.frzs u.tbls (fun m' hm=>by
  obtain ⟨o',es',ep',ho',r'⟩:=hm
  rw [ho] at ho';cases ho'
  exact ⟨_,es',ep',hL,r'⟩) hok hg
theorem Inv.turned {t':Nat} {it:Addr} (I:Inv X pins σ H s) (k:∀b o,b≠it→s.heap.get? b=some o→h'.get? b=some o) (hn:H it=none) (hL:it≠X.env.locals)
 (h1:it∈X.ex∨X.s₀.heap.objs.size≤it) (h2:∀x c,X.env.cells.lookup x=some c→c≠it) (h3:∀p∈X.pn++pins,p.1≠it):Inv X pins σ H {s with heap:=h',toks:=t'}:=by
 have nit:∀b u,H b=some u→b≠it:=fun b u e z=>by rw [z,hn] at e;cases e
 refine I.step (g':=s.gens) (d':=s.drawn) (ch:=[it]) (fun b hb=>?_) (fun b o _ _ hc e _=>k b o (fun z=>hc (by simp [z])) e) (fun b o _ _ hc e _=>⟨o.slots,k b o (fun z=>hc (by simp [z])) e⟩) (fun _ _ _ _ n=>n)
  (fun b o hc e=>⟨o,k b o (fun z=>hc (by simp [z])) e⟩) (fun _ _ e=>e) (fun _ _ _ e=>e) (fun b ps e=>⟨#[],by rw [e];simp⟩) (fun m hm=>?_) (fun b u e=>?_) I.bare
 ·have e:b=it:=by simpa using hb
  subst e
  exact ⟨h1,hL,h2,h3⟩
 ·obtain ⟨o,es,ep,ho,r⟩:=hm
  exact ⟨o,es,ep,k _ o (Ne.symm hL) ho,r⟩
 ·refine (I.hok b u e).stay (fun c v hc q=>k c v ?_ q) (fun _ q=>q) fun _ _ q=>q
  rcases hc with z |z
  ·rw [z];exact nit b u e
  ·exact nit c _ z
theorem Inv.tok (I:Inv X pins σ H s) (t:Nat):Inv X pins σ H {s with toks:=t}:=I.un (h':=s.heap) (t':=t) Un.refl I.hok
theorem Inv.kept {t':Nat} (I:Inv X pins σ H s) (k:∀b u,s.heap.get? b=some u→h'.get? b=some u):Inv X pins σ H {s with heap:=h',toks:=t'}:=I.un (Un.kept k) (I.hok.kept k)
theorem Inv.laid {a:Addr} {o:HO} {t':Nat} (I:Inv X pins σ H s) (k:∀b u,s.heap.get? b=some u→h'.get? b=some u) (hp:s.heap.objs.size≤a) (new:ObjOk X.prog X.w (Av H a o) h' a o):
 Inv X pins σ (Av H a o) {s with heap:=h',toks:=t'}:=I.un (Un.laid k hp (I.hok.fresh hp)) (I.hok.laid k hp new)
theorem Inv.write {x e:Addr} {o:HO} {t':Nat} (I:Inv X pins σ H s) (mu:KH (H x)) (he:e=x∨H e=some (.own x)) (k:∀b u,b≠e→s.heap.get? b=some u→h'.get? b=some u) (heo:∃u,h'.get? e=some u)
 (new:ObjOk X.prog X.w (Av H x o) h' x o):Inv X pins σ (Av H x o) {s with heap:=h',toks:=t'}:=I.un (Un.write mu he k heo) (I.hok.write mu he k heo new)
theorem Inv.weak {σ':List (Option V)} (I:Inv X pins σ H s) (hl:σ'.length=σ.length) (w:∀(i:Nat) v,σ'[i]?=some (some v)→σ[i]?=some (some v)):Inv X pins σ' H s:=
 ⟨I.ok,I.os,I.bare,I.base,let ⟨m,hn,hl'⟩:=I.loc;⟨m,hn,fun i x v e1 e2 e3=>hl' i x v e1 (w i v e2) e3⟩,I.cell,I.free,I.freeC,I.pin,I.hok,hl.trans I.len⟩
theorem Inv.pins_of {pins':List (Addr×Obj)} (I:Inv X pins σ H s) (h:∀p∈pins',s.heap.get? p.1=some p.2∧H p.1=none∧p.1≠X.env.locals∧p.1∉X.fs∧∀v,p.2.data≠.cell v):Inv X pins' σ H s:=
 ⟨I.ok,I.os,I.bare,I.base,I.loc,I.cell,I.free,I.freeC,fun p hp=>(qaK.mp hp).elim (fun z=>I.pin p (CG _ z)) (h p),I.hok,I.len⟩
theorem MW {N:List Str} (hN:N.Nodup) {i j:Nat} {x:Str} (a:N[i]?=some x) (b:N[j]?=some x):i=j:=by
 obtain ⟨h1,e1⟩:=qa3.mp a
 obtain ⟨h2,e2⟩:=qa3.mp b
 exact (List.getElem_inj hN).mp (e1.trans e2.symm)
theorem KL {M:Model} {A:Around} {E:Value→Shared→Prop} {i:Nat} {x:Str} {v:V} {u:Value} {Q:Unit→Shared→Prop} (I:Inv X pins σ H s) (hN:X.N.Nodup) (hi:X.N[i]?=some x) (hx:Ii X.env.scope x) (r:RelV v u)
 (h:∀s',Inv X pins (σ.set i (some v)) H s'→(∃a,Heap.SameBut a s.heap s'.heap∧(a=X.env.locals∨X.env.cells.lookup x=some a))→Q () s') (hf:X.fn x=true∨X.env.scope.names.lookup x=some .local:=by first |exact .inl rfl |exact .inr rfl |assumption):wpAny M A (storeName X.env x u) Q E s:=by
 obtain ⟨m,hn,hl⟩:=id I.loc
 have hcls:(X.env.scope.kind==.class||(X.env.scope.kind==.module&&X.env.locals != X.env.globals))=false:=by rw [I.ok.kind];rfl
 have hiσ:i < σ.length:=by rw [I.len];exact (qa3.mp hi).1
 have cne:=I.cne
 have tracked:∀{a:Addr} {h':Heap},(∃o,s.heap.get? a=some o∧H a=none)→Heap.SameBut a s.heap h'→HOk X.prog X.w H h':=fun {a h'} ha hs b ob e=>by
  obtain ⟨_,_,hfree⟩:=ha
  refine (I.hok b ob e).stay (fun c w' hc q=>(hs.2 c ?_).trans q) (fun _ q=>q) fun _ _ q=>q
  rintro rfl
  rcases hc with rfl |hc
  ·rw [hfree] at e;cases e
  ·rw [hfree] at hc;cases hc
 rcases hx with hk |hk
 ·refine wpAny_storeName_local hk hn (fun h' hn' hs=>?_) hcls
  obtain ⟨oL,_,_,hoL,_⟩:=id hn
  refine h _ ⟨I.ok,I.os,I.bare,⟨fun b o e n hb hx=>?_,fun b o e n hb hx=>?_,I.base.free,fun b o e hx=>?_,I.base.tups,I.base.frzs,I.base.tbls⟩,⟨_,hn',fun j y v' e1 e2 e3=>?_⟩,fun y c e=>?_,I.free,I.freeC,fun p hp=>?_,tracked ⟨oL,hoL,I.free⟩ hs,by simpa using I.len⟩ ⟨_,hs,.inl rfl⟩
  ·exact (hs.2 b (By (A1 (AO e) I.ok.above))).trans (I.base.keep b o e n hb hx)
  ·obtain ⟨sl,e1⟩:=I.base.slot b o e n hb hx
   exact ⟨sl,(hs.2 b (By (A1 (AO e) I.ok.above))).trans e1⟩
  ·obtain ⟨o',e1⟩:=I.base.there b o e hx
   exact ⟨o',(hs.2 b (By (A1 (AO e) I.ok.above))).trans e1⟩
  ·by_cases hj:j=i
   ·subst hj
    rw [hi] at e1;cases e1
    rw [Cf hiσ] at e2
    cases e2
    exact ⟨u,r,.inl ⟨hk,by simp⟩⟩
   ·rw [B4 (Ne.symm hj)] at e2
    obtain ⟨u',r',q⟩:=hl j y v' e1 e2 e3
    refine ⟨u',r',?_⟩
    rcases q with ⟨k,e⟩ |⟨k,c,e,z⟩
    ·refine .inl ⟨k,?_⟩
     have:y≠x:=fun e=>hj (MW hN e1 (e ▸ hi))
     simp [this,e]
    ·exact .inr ⟨k,c,e,z.sameBut hs (cne y c e)⟩
  ·obtain ⟨w',z⟩:=I.cell y c e
   exact ⟨w',z.sameBut hs (cne y c e)⟩
  ·obtain ⟨e,n,ne,nf,d⟩:=I.pin p hp
   exact ⟨(hs.2 p.1 ne).trans e,n,ne,nf,d⟩
 ·have hfn:X.fn x=true:=by
   rcases hf with z |z
   ·exact z
   ·rw [z] at hk;cases hk
  obtain ⟨c,hc⟩:=I.ok.has x (.inl hk)
  obtain ⟨w',z⟩:=I.cell x c hc
  refine wpAny_storeName_cell I.ok.kind hk hc z (fun h' hc' hs=>?_)
  obtain ⟨oc,hoc,hocd⟩:=id z
  refine h {s with heap:=h'} ⟨I.ok,I.os,I.bare,⟨fun b o e n hb hx=>?_,fun b o e n hb hx=>?_,I.base.free,fun b o e hx=>?_,I.base.tups,I.base.frzs,I.base.tbls⟩,⟨m,hn.sameBut hs (Ne.symm (cne x c hc)),fun j y v' e1 e2 e3=>?_⟩,fun y c' e=>?_,I.free,I.freeC,fun p hp=>?_,tracked ⟨oc,hoc,I.freeC x c hc⟩ hs,by simpa using I.len⟩ ⟨c,hs,.inr hc⟩
  ·exact (hs.2 b (By (A1 (AO e) (I.ok.cab x c hfn hc)))).trans (I.base.keep b o e n hb hx)
  ·obtain ⟨sl,e1⟩:=I.base.slot b o e n hb hx
   exact ⟨sl,(hs.2 b (By (A1 (AO e) (I.ok.cab x c hfn hc)))).trans e1⟩
  ·obtain ⟨o',e1⟩:=I.base.there b o e hx
   exact ⟨o',(hs.2 b (By (A1 (AO e) (I.ok.cab x c hfn hc)))).trans e1⟩
  ·by_cases hj:j=i
   ·subst hj
    rw [hi] at e1;cases e1
    rw [Cf hiσ] at e2
    cases e2
    exact ⟨u,r,.inr ⟨.inl hk,c,hc,hc'⟩⟩
   ·rw [B4 (Ne.symm hj)] at e2
    obtain ⟨u',r',q⟩:=hl j y v' e1 e2 e3
    refine ⟨u',r',?_⟩
    rcases q with q |⟨k,c',e,z'⟩
    ·exact .inl q
    ·refine .inr ⟨k,c',e,z'.sameBut hs ?_⟩
     rintro rfl
     exact hj (MW hN e1 (I.ok.inj _ _ _ e hc ▸ hi))
  ·by_cases hcc:c'=c
   ·subst hcc;exact ⟨_,hc'⟩
   ·obtain ⟨w2,z2⟩:=I.cell y c' e
    exact ⟨w2,z2.sameBut hs hcc⟩
  ·obtain ⟨e,n,ne,nf,d⟩:=I.pin p hp
   refine ⟨(hs.2 p.1 ?_).trans e,n,ne,nf,d⟩
   intro q
   rw [q,hoc] at e
   have q':oc=p.2:=Option.some.inj e
   exact d w' (by rw [←q'];exact hocd)
theorem KM {M:Model} {A:Around} {E:Value→Shared→Prop} {i:Nat} {x:Str} {v:V} {u:Value} {Q:Unit→Shared→Prop} (I:Inv X pins σ H s) (hN:X.N.Nodup) (hi:X.N[i]?=some x) (hx:Ii X.env.scope x) (r:RelV v u)
 (h:∀s',Inv X pins (σ.set i (some v)) H s'→Q () s') (hf:X.fn x=true∨X.env.scope.names.lookup x=some .local:=by first |exact .inl rfl |exact .inr rfl |assumption):wpAny M A (storeName X.env x u) Q E s:=
 KL I hN hi hx r (fun s' I' _=>h s' I') hf
theorem Inv.call' {s':Shared} {ch:List Addr} (I:Inv X pins σ H s) (ho:s'.os=s.os) (u:Un (frs X.stack) ch H H' s.heap s'.heap) (hok:HOk X.prog X.w H' s'.heap) (hg:AllBare s'.gens)
 (hch:∀b∈ch,(b∈X.ex∨X.s₀.heap.objs.size≤b)∧b≠X.env.locals∧(∀x c,X.env.cells.lookup x=some c→c≠b)∧∀p∈X.pn++pins,p.1≠b):Inv X pins σ H' s':=by
 obtain ⟨h',g',d',t',o'⟩:=s'
 have e:o'=s.os:=ho
 subst e
 exact I.call (g':=g') (t':=t') (d':=d') u hok hg hch
end
abbrev XK:=Value→Option Addr→Hp→Prop
abbrev St:=List (Option V)
abbrev VK:=V→Hp→Prop
abbrev TE:=St→Hp→VK→Prop
abbrev TT:=St→Hp→(Bool→Hp→Prop)→Prop
abbrev TA:=St→Hp→(List V→Hp→Prop)→Prop
structure En where
 nx:St→Hp→Prop
 rt:VK
 bk:St→Hp→Prop:=fun _ _=>False
 ct:St→Hp→Prop:=fun _ _=>False
abbrev TS:=En→St→Hp→Prop
inductive EP (X:Cx) (pins:List (Addr×Obj)) (σ:St) (Q:VK) (u:Value) (s':Shared):Prop where
 |mk (v:V) (H':Hp) (i:Inv X pins σ H' s') (r:RelV v u) (q:Q v H'):EP X pins σ Q u s'
inductive TP (X:Cx) (pins:List (Addr×Obj)) (σ:St) (Q:Bool→Hp→Prop) (b:Bool) (s':Shared):Prop where
 |mk (H':Hp) (i:Inv X pins σ H' s') (q:Q b H'):TP X pins σ Q b s'
inductive AP (X:Cx) (pins:List (Addr×Obj)) (σ:St) (Q:List V→Hp→Prop) (us:List Value) (s':Shared):Prop where
 |mk (vs:List V) (H':Hp) (i:Inv X pins σ H' s') (r:Vals vs us) (q:Q vs H'):AP X pins σ Q us s'
inductive SN (X:Cx) (pins:List (Addr×Obj)) (q:St→Hp→Prop) (s':Shared):Prop where
 |mk (σ':St) (H':Hp) (i:Inv X pins σ' H' s') (p:q σ' H'):SN X pins q s'
inductive SR (X:Cx) (pins:List (Addr×Obj)) (q:V→Hp→Prop) (u:Value) (s':Shared):Prop where
 |mk (v:V) (σ':St) (H':Hp) (i:Inv X pins σ' H' s') (r:RelV v u) (p:q v H'):SR X pins q u s'
def SP (X:Cx) (pins:List (Addr×Obj)) (D:En) (f:Flow) (s':Shared):Prop:=
 match f with
 |.next=>SN X pins D.nx s'
 |.brk=>SN X pins D.bk s'
 |.cont=>SN X pins D.ct s'
 |.ret u=>SR X pins D.rt u s'
def PE (X:Cx) (e:Expr) (t:TE):Prop:=
 ∀(pins:List (Addr×Obj)) (s:Shared) (σ:St) (H:Hp) (Q:VK),Inv X pins σ H s→t σ H Q→wpAny (model X.prog X.w) X.A (eval e X.env) (EP X pins σ Q) X.xe s
def PT (X:Cx) (e:Expr) (t:TT):Prop:=
 ∀(pins:List (Addr×Obj)) (s:Shared) (σ:St) (H:Hp) (Q:Bool→Hp→Prop),Inv X pins σ H s→t σ H Q→wpAny (model X.prog X.w) X.A (isTrue e X.env (eval e X.env)) (TP X pins σ Q) X.xe s
def PW (X:Cx) (e:Expr) (t:TT):Prop:=
 ∀(Ft:Sem Value) (pins:List (Addr×Obj)) (s:Shared) (σ:St) (H:Hp) (Q:Bool→Hp→Prop),Inv X pins σ H s→t σ H Q→wpAny (model X.prog X.w) X.A (isTrue e X.env Ft) (TP X pins σ Q) X.xe s
theorem PW.pt {X:Cx} {e:Expr} {t:TT} (h:PW X e t):PT X e t:=h _
def PA (X:Cx) (es:List Expr) (t:TA):Prop:=
 ∀(pos:Pos) (pins:List (Addr×Obj)) (s:Shared) (σ:St) (H:Hp) (Q:List V→Hp→Prop),Inv X pins σ H s→t σ H Q→wpAny (model X.prog X.w) X.A (spliced (backTo pos (starEach es X.env))) (AP X pins σ Q) X.xe s
def PS (X:Cx) (st:Stmt) (t:TS):Prop:=
 ∀(pins:List (Addr×Obj)) (s:Shared) (σ:St) (H:Hp) (D:En),Inv X pins σ H s→t D σ H→wpAny (model X.prog X.w) X.A (exec st X.env) (SP X pins D) X.xe s
def DU (X:Cx) (st:List Stmt) (t:TS):Prop:=
 ∀(pins:List (Addr×Obj)) (s:Shared) (σ:St) (H:Hp) (D:En),Inv X pins σ H s→t D σ H→wpAny (model X.prog X.w) X.A (execs st X.env) (SP X pins D) X.xe s
theorem AA {α:Type} {t:Sem α} {Q Q':α→Shared→Prop} {M:Model} {A:Around} {E:Value→Shared→Prop} {s:Shared} (h:wpAny M A t Q E s) (hQ:∀a s,Q a s→Q' a s):wpAny M A t Q' E s:=wpAny_mono h hQ fun _ _ x=>x
section
variable {X:Cx}
def MX (i:Nat):TE:=fun σ H Q=>∃v,σ[i]?=some (some v)∧Q v H
def tC (v:V):TE:=fun _ H Q=>Q v H
theorem MY {i:Nat} {x:Str} {pos:Pos} (hN:X.N[i]?=some x) (hv:KJ X.env.scope x) (hd:(x==("__debug__":Str))=false:=by decide) (hcd:(x==("__classdict__":Str))=false:=by decide):PE X (.Name x pos) (MX i):=by
 intro pins s σ H Q I h
 obtain ⟨v,e,h⟩:=h
 obtain ⟨m,hn,hl⟩:=I.loc
 obtain ⟨u,r,l⟩:=hl i x v hN e hv
 have fin:EP X pins σ Q u s:=⟨v,H,I,r,h⟩
 rcases l with ⟨hk,hm⟩ |⟨hk,c,hc,hcell⟩
 ·exact wpAny_Name (wpAny_loadName_local I.ok.kind hk hn hm fin) hd
 ·rcases hk with hk |hk
  ·exact wpAny_Name (wpAny_loadName_cell I.ok.kind hk hc hcell fin) hd
  ·exact wpAny_Name (wpAny_loadName_free I.ok.kind hk hc hcell fin hcd) hd
theorem PJ {i j pos}:PE X (.Constant (.int i) j pos) (tC (.int i)):=fun _ _ _ H _ I h=>wpAny_Constant_int ⟨.int i,H,I.tok _,⟨_,rfl⟩,h⟩
theorem UM {b j pos}:PE X (.Constant (.bool b) j pos) (tC (.bl b)):=fun _ _ _ H _ I h=>Constant_bool ⟨.bl b,H,I,rfl,h⟩
theorem UN {j pos}:PE X (.Constant .none j pos) (tC .non):=fun _ _ _ H _ I h=>Constant_none ⟨.non,H,I,rfl,h⟩
theorem UO {x j pos}:PE X (.Constant (.str x) j pos) (tC (.str x)):=fun _ _ _ H _ I h=>Calls.Constant_str ⟨.str x,H,I.tok _,⟨_,rfl⟩,h⟩
def Gl (X:Cx) (x:Str):Prop:=X.env.kindOf x=some .globalImplicit
theorem Ij {E:Value→Shared→Prop} {pins:List (Addr×Obj)} {s:Shared} {σ:St} {H:Hp} {x:Str} {u:Value} {pos:Pos} {Q:Value→Shared→Prop} (I:Inv X pins σ H s) (hg:Gl X x) (hm:X.mg x=some u) (h:Q u s)
 (hd:(x==("__debug__":Str))=false:=by decide):wpAny (model X.prog X.w) X.A (eval (.Name x pos) X.env) Q E s:=
 Calls.Name_function_global I.ok.kind hg (Calls.loadGlobal_global (by rw [I.ok.glob];exact I.mod.glob.keeps I.bk) hm h) hd
theorem GN {E:Value→Shared→Prop} {pins:List (Addr×Obj)} {s:Shared} {σ:St} {H:Hp} {x:Str} {u:Value} {pos:Pos} {Q:Value→Shared→Prop} (I:Inv X pins σ H s) (hg:Gl X x) (hm:X.mg x=none) (hv:bootBuiltins x=some u) (h:Q u s)
 (hn:x≠"__name__":=by decide) (hd:(x==("__debug__":Str))=false:=by decide):wpAny (model X.prog X.w) X.A (eval (.Name x pos) X.env) Q E s:=by
 obtain ⟨mb,h1,h2⟩:=I.mod.blt
 exact Calls.Name_function_global I.ok.kind hg (Calls.loadGlobal_builtin (by rw [I.ok.glob];exact I.mod.glob.keeps I.bk) hm (by rw [I.ok.blt];exact h1.keeps I.bk) ((h2 x hn).trans hv) h) hd
theorem UP {x:Str} {v:V} {u:Value} {pos:Pos} (hg:Gl X x) (hm:X.mg x=some u) (r:RelV v u) (hd:(x==("__debug__":Str))=false:=by decide):PE X (.Name x pos) (tC v):=
 fun _ _ _ H _ I h=>Ij I hg hm ⟨v,H,I,r,h⟩ hd
theorem UQ {x:Str} {v:V} {u:Value} {pos:Pos} (hg:Gl X x) (hm:X.mg x=none) (hv:bootBuiltins x=some u) (r:RelV v u) (hn:x≠"__name__":=by decide) (hd:(x==("__debug__":Str))=false:=by decide):PE X (.Name x pos) (tC v):=
 fun _ _ _ H _ I h=>GN I hg hm hv ⟨v,H,I,r,h⟩ hn hd
variable {a b:Expr} {ta tb:TE} {pos:Pos}
variable {tA tB':TT} {rest:List Expr}
def UR (t u:TT):TT:=fun σ H Q=>t σ H fun c H1=>if c=true then u σ H1 Q else Q false H1
def US (t u:TT):TT:=fun σ H Q=>t σ H fun c H1=>if c=true then Q true H1 else u σ H1 Q
def UT (t:TT):TT:=fun σ H Q=>t σ H fun c H1=>Q (!c) H1
theorem UU (ha:PT X a tA):PW X (.BoolOp .And [a] pos) tA:=by
 intro wh pins s σ H Q I h
 refine isTrue_and (AA (ha pins s σ H Q I h) fun c s1 e=>?_)
 cases c with
 |true=>exact isTrue_and_nil e
 |false=>exact e
theorem UV (ha:PT X a tA):PW X (.BoolOp .Or [a] pos) tA:=by
 intro wh pins s σ H Q I h
 refine isTrue_or (AA (ha pins s σ H Q I h) fun c s1 e=>?_)
 cases c with
 |false=>exact isTrue_or_nil e
 |true=>exact e
theorem UW (ha:PT X a tA) (hb:PW X (.BoolOp .And (b::rest) pos) tB'):PW X (.BoolOp .And (a::b::rest) pos) (UR tA tB'):=by
 intro wh pins s σ H Q I h
 refine isTrue_and (AA (ha pins s σ H _ I h) fun c s1 z8_=>?_)
 obtain ⟨H1,I1,q1⟩:=z8_
 cases c with
 |true=>exact hb wh pins s1 σ H1 Q I1 q1
 |false=>exact ⟨H1,I1,q1⟩
theorem UX (ha:PT X a tA) (hb:PW X (.BoolOp .Or (b::rest) pos) tB'):PW X (.BoolOp .Or (a::b::rest) pos) (US tA tB'):=by
 intro wh pins s σ H Q I h
 refine isTrue_or (AA (ha pins s σ H _ I h) fun c s1 z9_=>?_)
 obtain ⟨H1,I1,q1⟩:=z9_
 cases c with
 |true=>exact ⟨H1,I1,q1⟩
 |false=>exact hb wh pins s1 σ H1 Q I1 q1
theorem UY (ha:PT X a tA):PT X (.UnaryOp .Not a pos) (UT tA):=by
 intro pins s σ H Q I h
 exact isTrue_not (AA (ha pins s σ H (fun c H1=>Q (!c) H1) I h) fun c s1 z=>by cases z with |mk H1 I1 q=>exact ⟨H1,I1,q⟩)
def UZ (ta tb:TE):TE:=fun σ H Q=>ta σ H fun x H1=>∃c,x=.bl c∧if c=true then tb σ H1 Q else Q (.bl false) H1
def ZdB (ta tb:TE):TE:=fun σ H Q=>ta σ H fun x H1=>∃c,x=.bl c∧if c=true then Q (.bl true) H1 else tb σ H1 Q
def U0 (ta:TE):TE:=fun σ H Q=>ta σ H fun x H1=>∃c,x=.bl c∧Q (.bl (!c)) H1
theorem U1 {op} {t:TE} (h:PE X a t):PE X (.BoolOp op [a] pos) t:=fun pins s σ H Q I hw=>BoolOp_one (h pins s σ H Q I hw)
theorem U2 (ha:PE X a ta) (hb:PE X (.BoolOp .And (b::rest) pos) tb):PE X (.BoolOp .And (a::b::rest) pos) (UZ ta tb):=by
 intro pins s σ H Q I h
 refine BoolOp_and (AA (ha pins s σ H _ I h) fun v s1 z10_=>?_)
 obtain ⟨x,H1,I1,r1,q1⟩:=z10_
 obtain ⟨c,rfl,q1⟩:=q1
 cases r1
 refine wpAny_truthy_bool ?_
 cases c with
 |true=>exact hb pins s1 σ H1 Q I1 q1
 |false=>exact ⟨.bl false,H1,I1,rfl,q1⟩
theorem U3 (ha:PE X a ta):PE X (.UnaryOp .Not a pos) (U0 ta):=by
 intro pins s σ H Q I h
 refine UnaryOp_ (AA (ha pins s σ H _ I h) fun v s1 z12_=>?_)
 obtain ⟨x,H1,I1,r1,q1⟩:=z12_
 obtain ⟨c,rfl,q1⟩:=q1
 cases r1
 exact not_of (wpAny_truthy_bool ⟨.bl (!c),H1,I1,rfl,q1⟩)
def U4 (t:TT) (ta tb:TE):TE:=fun σ H Q=>t σ H fun c H1=>if c=true then ta σ H1 Q else tb σ H1 Q
theorem U5 {c:Expr} (hc:PT X c tA) (ha:PE X a ta) (hb:PE X b tb):PE X (.IfExp c a b pos) (U4 tA ta tb):=by
 intro pins s σ H Q I h
 refine wpAny_IfExp (AA (hc pins s σ H _ I h) fun d s1 z13_=>?_)
 obtain ⟨H1,I1,q1⟩:=z13_
 cases d with
 |true=>exact ha pins s1 σ H1 Q I1 q1
 |false=>exact hb pins s1 σ H1 Q I1 q1
end
def SqL (K:PySem.W.Frag) (H:Hp) (a:Addr) (xs:List V):Prop:=
 Rd H a (.lst xs)∨
  ∃(o:Obj) (its:Array Value) (n:Nat),K.lookup a=some o∧o.cls=.type "list"∧o.dict=none∧o.data=.seq its n∧its.size≤sizeLine∧Vals xs its.toList
def SqT (K:PySem.W.Frag) (H:Hp) (a:Addr) (xs:List V):Prop:=
 Rd H a (.tup xs)∨
  ∃(o:Obj) (its:Array Value) (n:Nat),K.lookup a=some o∧o.cls=.type "tuple"∧o.data=.seq its n∧its.size≤sizeLine∧Vals xs its.toList
def U6:Value→Option V
 |.none=>some .non
 |.bool b=>some (.bl b)
 |.int i _=>some (.int i)
 |.str x _=>some (.str x)
 |.bytes b _=>some (.byt b)
 |.float b _=>some (.flt b)
 |.ref a=>some (.ref a)
 |.type n=>some (.ty n)
 |_=>none
theorem RelV.abs {x:V} {u:Value} (r:RelV x u):U6 u=some x:=by
 cases x with
 |non=>cases r;rfl
 |bl _=>cases r;rfl
 |int _=>obtain ⟨t,rfl⟩:=r;rfl
 |str _=>obtain ⟨t,rfl⟩:=r;rfl
 |byt _=>obtain ⟨t,rfl⟩:=r;rfl
 |flt _=>obtain ⟨t,rfl⟩:=r;rfl
 |ref _=>cases r;rfl
 |ty _=>cases r;rfl
theorem RelV.inj {x y:V} {u:Value} (r:RelV x u) (q:RelV y u):x=y:=Option.some.inj (r.abs.symm.trans q.abs)
theorem Vals.inj {xs ys:List V} {us:List Value} (h:Vals xs us) (g:Vals ys us):xs=ys:=by
 induction h generalizing ys with
 |nil=>cases g;rfl
 |cons r t ih=>cases g with |cons r' t'=>rw [r.inj r',ih t']
section
variable {X:Cx} {pins:List (Addr×Obj)} {σ:St} {H:Hp} {s:Shared} {a:Addr} {xs ys:List V}
theorem SqL.of {K:PySem.W.Frag} (h:H a=some (.lst xs)):SqL K H a xs:=.inl (.inl h)
theorem SqT.of {K:PySem.W.Frag} (h:H a=some (.tup xs)):SqT K H a xs:=.inl (.inl h)
theorem Inv.list (I:Inv X pins σ H s) (h:SqL X.K H a xs):∃its:List Value,Vals xs its∧PlainL s.heap a its.toArray∧xs.length≤sizeLine:=by
 rcases h with h |⟨o,its,n,hk,hc,hd,hs,hz,r⟩
 ·obtain ⟨z,its,n,r,e⟩:=h.ok I.hok
  exact ⟨its,r,⟨_,n,e,rfl,rfl,rfl⟩,z⟩
 ·refine ⟨its.toList,r,⟨o,n,I.kIn a o hk,hc,hd,by simpa using hs⟩,?_⟩
  have e:=r.length
  simp only [Array.length_toList] at e
  omega
theorem Inv.tuple (I:Inv X pins σ H s) (h:SqT X.K H a xs):∃its:List Value,Vals xs its∧IsTup s.heap a its.toArray∧xs.length≤sizeLine:=by
 rcases h with h |⟨o,its,n,hk,hc,hs,hz,r⟩
 ·obtain ⟨z,its,r,p,_⟩:=h.ok I.hok
  exact ⟨its,r,p,z⟩
 ·refine ⟨its.toList,r,⟨o,I.kIn a o hk,hc,n,by simpa using hs⟩,?_⟩
  have e:=r.length
  simp only [Array.length_toList] at e
  omega
theorem Inv.list_inj (I:Inv X pins σ H s) (h:SqL X.K H a xs) (h':SqL X.K H a ys):xs=ys:=by
 obtain ⟨its,r,⟨o,n,e,_,_,d⟩,_⟩:=I.list h
 obtain ⟨its',r',⟨o',n',e',_,_,d'⟩,_⟩:=I.list h'
 rw [e] at e';cases e'
 rw [d] at d'
 injection d' with d1 _
 have:its=its':=by simpa using congrArg Array.toList d1
 subst this
 exact r.inj r'
theorem Inv.tuple_inj (I:Inv X pins σ H s) (h:SqT X.K H a xs) (h':SqT X.K H a ys):xs=ys:=by
 obtain ⟨its,r,⟨o,e,_,n,d⟩,_⟩:=I.tuple h
 obtain ⟨its',r',⟨o',e',_,n',d'⟩,_⟩:=I.tuple h'
 rw [e] at e';cases e'
 rw [d] at d'
 injection d' with d1 _
 have:its=its':=by simpa using congrArg Array.toList d1
 subst this
 exact r.inj r'
end
section
variable {X:Cx} {pins:List (Addr×Obj)} {σ:St} {H:Hp} {s:Shared} {E:Value→Shared→Prop}
end
section
variable {X:Cx} {st:Stmt} {rest:List Stmt} {t u:TS} {e:Expr} {te:TE} {pos:Pos}
def U7:TS:=fun D σ H=>D.nx σ H
def U8 (t u:TS):TS:=fun D σ H=>t {D with nx:=u D} σ H
theorem U9:DU X [] U7:=fun _ _ σ H _ I h=>wpAny_execs_nil ⟨σ,H,I,h⟩
theorem Va (h1:PS X st t) (h2:DU X rest u):DU X (st::rest) (U8 t u):=by
 intro pins s σ H D I h
 refine wpAny_execs_cons (AA (h1 pins s σ H {D with nx:=u D} I h) fun f s1 q=>?_)
 cases f with
 |next=>
  obtain ⟨σ',H',I',q⟩:=q
  exact h2 pins s1 σ' H' D I' q
 |ret v=>exact q
 |brk=>exact q
 |cont=>exact q
theorem Vb (h1:PS X st t):DU X [st] t:=by
 intro pins s σ H D I h
 refine wpAny_execs_cons (AA (h1 pins s σ H D I h) fun f s1 q=>?_)
 cases f with
 |next=>exact wpAny_execs_nil q
 |ret v=>exact q
 |brk=>exact q
 |cont=>exact q
theorem Inv.quiet {pins:List (Addr×Obj)} {σ:St} {H:Hp} {s:Shared} (I:Inv X pins σ H s):interactive X.env=false:=by simp [interactive,I.ok.kind]
def Vc (te:TE):TS:=fun D σ H=>te σ H fun _ H1=>D.nx σ H1
theorem Vd (he:PE X e te) (hs:swapsWith e none pos.line X.env=pure false:=by rfl):PS X (.Expr e pos) (Vc te):=by
 intro pins s σ H D I h
 exact wpAny_Expr_any (AA (he pins s σ H _ I h) fun v s1 z16_=>by obtain ⟨x,H1,I1,r1,q1⟩:=z16_;exact (⟨σ,H1,I1,q1⟩)) I.quiet hs
def Ve (te:TE):TS:=fun D σ H=>te σ H D.rt
theorem Vf (he:PE X e te):PS X (.Return (some e) pos) (Ve te):=by
 intro pins s σ H D I h
 exact wpAny_Return_some (AA (he pins s σ H _ I h) fun v s1 z17_=>by obtain ⟨x,H1,I1,r1,q1⟩:=z17_;exact (⟨x,σ,H1,I1,r1,q1⟩))
def Vg (c:TT) (t u:TS):TS:=fun D σ H=>c σ H fun b H1=>if b=true then t D σ H1 else u D σ H1
theorem Vh {c:Expr} {a b:List Stmt} {tc:TT} (hc:PT X c tc) (ha:DU X a t) (hb:DU X b u):PS X (.If c a b pos) (Vg tc t u):=by
 intro pins s σ H D I h
 refine wpAny_If (AA (hc pins s σ H _ I h) fun d s1 z18_=>?_)
 obtain ⟨H1,I1,q1⟩:=z18_
 cases d with
 |true=>exact ha pins s1 σ H1 D I1 q1
 |false=>exact hb pins s1 σ H1 D I1 q1
def Vi:TS:=fun _ _ _=>False
theorem Vj {sts:List Stmt}:DU X sts Vi:=fun _ _ _ _ _ _ h=>h.elim
end
abbrev TG:=V→St→Hp→(St→Hp→Prop)→Prop
abbrev Gd:=List V→St→Hp→(St→Hp→Prop)→Prop
def PG (X:Cx) (target:Expr) (t:TG):Prop:=
 ∀(pins:List (Addr×Obj)) (s:Shared) (σ:St) (H:Hp) (v:V) (u:Value) (Q:St→Hp→Prop),Inv X pins σ H s→RelV v u→t v σ H Q→
  wpAny (model X.prog X.w) X.A (assign target X.env u) (fun _ s'=>SN X pins Q s') X.xe s
def KN (X:Cx) (ts:List Expr) (t:Gd):Prop:=
 ∀(pins:List (Addr×Obj)) (s:Shared) (σ:St) (H:Hp) (vs:List V) (us:List Value) (Q:St→Hp→Prop),Inv X pins σ H s→Vals vs us→t vs σ H Q→
  wpAny (model X.prog X.w) X.A (assignInOrder ((assignEach ts X.env).map (·.2)) us) (fun _ s'=>SN X pins Q s') X.xe s
abbrev MZ:=V→V→V→Hp→(Hp→Prop)→Prop
def KO (X:Cx) (t:MZ):Prop:=
 ∀(pins:List (Addr×Obj)) (s:Shared) (σ:St) (H:Hp) (o i v:V) (ov iv u:Value) (Q:Hp→Prop),Inv X pins σ H s→RelV o ov→RelV i iv→RelV v u→t o i v H Q→
  wpAny (model X.prog X.w) X.A (setItem ov iv u) (fun _ s'=>∃H',Inv X pins σ H' s'∧Q H') X.xe s
section
variable {X:Cx} {pos:Pos}
def Cy (i:Nat):TG:=fun v σ H Q=>Q (σ.set i (some v)) H
theorem AI {i:Nat} {x:Str} (hN:X.N.Nodup) (hi:X.N[i]?=some x) (hx:Ii X.env.scope x:=by first |exact .inl rfl |exact .inr rfl) (hf:X.fn x=true∨X.env.scope.names.lookup x=some .local:=by first |exact .inl rfl |exact .inr rfl |assumption):PG X (.Name x pos) (Cy i):=by
 intro pins s σ H v u Q I r h
 exact wpAny_assign_Name (KM I hN hi hx r (fun s' I'=>⟨_,H,I',h⟩) hf)
def FE:Gd:=fun vs σ H Q=>vs=[]∧Q σ H
def CU (t:TG) (u:Gd):Gd:=fun vs σ H Q=>∃v r,vs=v::r∧t v σ H fun σ' H'=>u r σ' H' Q
theorem FG:KN X [] FE:=by
 intro pins s σ H vs us Q I r h
 obtain ⟨e,h⟩:=h
 subst e
 cases r
 exact assignInOrder_nil ⟨σ,H,I,h⟩
theorem B6 {e:Expr} {es:List Expr} {t:TG} {u:Gd} (h1:PG X e t) (h2:KN X es u)
 (hs:(assignEach (e::es) X.env).map (·.2)=assign e X.env::(assignEach es X.env).map (·.2):=by rfl):KN X (e::es) (CU t u):=by
 intro pins s σ H vs us Q I r h
 obtain ⟨v,vr,e1,h⟩:=h
 subst e1
 cases r with
 |cons r rr=>
  rw [hs]
  refine assignInOrder_cons (AA (h1 pins s σ H _ _ _ I r h) fun _ s1 z19_=>?_)
  obtain ⟨σ1,H1,I1,q1⟩:=z19_
  exact h2 pins s1 σ1 H1 _ _ Q I1 rr q1
def Fe (K:PySem.W.Frag) (n:Nat) (t:Gd):TG:=fun v σ H Q=>∃a xs,v=.ref a∧SqT K H a xs∧xs.length=n∧t xs σ H Q
theorem FH {es:List Expr} {k:Nat} {t:Gd} {n:Nat} (hc:X.calm=true) (h:KN X es t)
 (hn:(assignEach es X.env).length=n:=by rfl) (hst:(assignEach es X.env).findIdx? (·.1)=none:=by rfl):PG X (.Tuple es k pos) (Fe X.K n t):=by
 intro pins s σ H v u Q I r hw
 obtain ⟨a,xs,e1,hq,hl,hw⟩:=hw
 subst e1
 cases r
 obtain ⟨its,rv,ht,hz⟩:=I.tuple hq
 refine assign_Tuple_tuple (I.ok.hd hc) ht (by simp [hn,←hl,rv.length]) hst fun h' hx=>?_
 have I1:Inv X pins σ H {s with heap:=h'}:=I.kept (t':=s.toks) fun b o e=>hx b o (By (AO e)) e
 exact h pins _ σ H xs _ Q I1 (by simpa using rv) hw
def Vk (to ti:TE) (t:MZ):TG:=fun v σ H Q=>to σ H fun o H1=>ti σ H1 fun i H2=>t o i v H2 fun H3=>Q σ H3
theorem M0 {o i:Expr} {to ti:TE} {t:MZ} (ho:PE X o to) (hi:PE X i ti) (hs:KO X t)
 (ha:∀v,assign (.Subscript o i pos) X.env v=(do
  let ov ←holding [v] (eval o X.env)
  let iv ←holding [v,ov] (eval i X.env)
  standAt pos
  holding [v,ov,iv] (setItem ov iv v)
  release [v,ov,iv] []):=by intro _;rfl):PG X (.Subscript o i pos) (Vk to ti t):=by
 intro pins s σ H v u Q I r h
 rw [ha]
 refine wpAny_bind (wpAny_holding (AA (ho pins s σ H _ I h) fun ov s1 z20_=>?_))
 obtain ⟨x,H1,I1,r1,q1⟩:=z20_
 refine wpAny_bind (wpAny_holding (AA (hi pins s1 σ H1 _ I1 q1) fun iv s2 z21_=>?_))
 obtain ⟨y,H2,I2,r2,q2⟩:=z21_
 refine wpAny_bind (wpAny_standAt (wpAny_bind (wpAny_holding (AA (hs pins s2 σ H2 x y v ov iv u _ I2 r1 r2 r q2) fun _ s3 z22_=>?_))))
 obtain ⟨H3,I3,q3⟩:=z22_
 exact wpAny_release ⟨σ,H3,I3,q3⟩
def PK (te:TE) (g:TG):TS:=fun D σ H=>te σ H fun x H1=>g x σ H1 D.nx
theorem KP {tg e:Expr} {te:TE} {g:TG} (he:PE X e te) (hg:PG X tg g) (hs:swapsWithSole [tg] e pos.line X.env=pure false:=by rfl) (hw:swappedStores [tg] e X.env=pure none:=by rfl)
 (h1:(assignEach [tg] X.env).map (·.2)=[assign tg X.env]:=by rfl):PS X (.Assign [tg] e pos) (PK te g):=by
 intro pins s σ H D I h
 refine wpAny_Assign_stores (AA (he pins s σ H _ I h) fun v s1 z23_=>?_) hs hw
 obtain ⟨x,H1,I1,r1,q1⟩:=z23_
 rw [h1]
 exact AA (hg pins s1 σ H1 x v _ I1 r1 q1) fun _ s2 q=>q
theorem Vl {i:Nat} {x:Str} {e:Expr} {te:TE} {pos':Pos} (hN:X.N.Nodup) (hi:X.N[i]?=some x) (hx:Ii X.env.scope x) (he:PE X e te) (hs:swapsWith e (some (.Name x pos')) pos.line X.env=pure false:=by rfl) (hf:X.fn x=true∨X.env.scope.names.lookup x=some .local:=by first |exact .inl rfl |exact .inr rfl |assumption):
 PS X (.Assign [.Name x pos'] e pos) (PK te (Cy i)):=by
 intro pins s σ H D I h
 refine wpAny_Assign_Name (AA (he pins s σ H _ I h) fun v s1 z24_=>?_) hs
 obtain ⟨y,H1,I1,r1,q1⟩:=z24_
 exact KM I1 hN hi hx r1 (fun s2 I2=>⟨_,H1,I2,q1⟩) hf
def Vm (i j:Nat) (ta:TA):TS:=fun D σ H=>ta σ H fun vs H1=>∃v w,vs=[v,w]∧D.nx ((σ.set i (some v)).set j (some w)) H1
theorem Vn {i j:Nat} {x y:Str} {a b:Expr} {ta:TA} {px py pt:Pos} {kt k2 pt2} (hc:X.calm=true) (hN:X.N.Nodup) (hi:X.N[i]?=some x) (hj:X.N[j]?=some y) (hij:i≠j)
 (hx:X.env.scope.names.lookup x=some .local) (hy:X.env.scope.names.lookup y=some .local) (ha:PA X [a,b] ta)
 (hw:swappedStores [.Tuple [.Name x px,.Name y py] kt pt] (.Tuple [a,b] k2 pt2) X.env=pure (some [x,y]))
 (hs:swapsWithSole [.Tuple [.Name x px,.Name y py] kt pt] (.Tuple [a,b] k2 pt2) pos.line X.env=pure false:=by rfl):
 PS X (.Assign [.Tuple [.Name x px,.Name y py] kt pt] (.Tuple [a,b] k2 pt2) pos) (Vm i j ta):=by
 intro pins s σ H D I h
 rw [exec_Assign_arm]
 refine wpAny_bind (wpAny_standAt ?_)
 rw [hs]
 refine wpAny_bind (wpAny_pure ?_)
 rw [if_neg (by decide)]
 refine wpAny_bind (Tuple_ (AA (ha _ pins s σ H _ I h) fun us s1 z25_=>?_))
 obtain ⟨vs,H1,I1,r1,q1⟩:=z25_
 obtain ⟨v,w,e1,q1⟩:=q1
 subst e1
 obtain ⟨u1,u2,rfl,rv,rw'⟩:∃u1 u2,us=[u1,u2]∧RelV v u1∧RelV w u2:=by
  cases r1 with
  |cons p q=>
   cases q with
   |cons p' q'=>
    cases q'
    exact ⟨_,_,rfl,p,p'⟩
 refine wpAny_newObj_type ?_ (by show 2≤sizeLine;decide)
 have I2:Inv X pins σ H1 {s1 with heap:=s1.heap.push {cls:=.type "tuple",data:=.seq [u1,u2].toArray}}:=I1.kept (t':=s1.toks) fun b o e=>AM _ e
 rw [hw]
 refine wpAny_bind (wpAny_pure ?_)
 show wpAny (model X.prog X.w) X.A (do rule "assign.swapped-stores";let items ←unpackItems (.ref s1.heap.objs.size) 2 none;assignInOrder [fun v=>bindName X.env y v,fun v=>bindName X.env x v] items.reverse;pure Flow.next) _ _ _
 refine wpAny_bind (wpAny_rule (wpAny_bind (unpackItems_tuple (items:=#[u1,u2]) (I.ok.hd hc) (IsTup.new s1.heap _) fun h' hx'=>?_)))
 have I3:=I2.kept (h':=h') (t':=s1.toks) fun b o e=>hx' b o (By (AO e)) e
 show wpAny _ _ (assignInOrder [fun v=>bindName X.env y v,fun v=>bindName X.env x v] [u2,u1] >>=fun _=>pure Flow.next) _ _ _
 refine wpAny_bind (assignInOrder_cons (wpAny_bindName (KM I3 hN hj (.inl hy) rw' (fun s2 I4=>?_) (.inr hy))))
 refine assignInOrder_cons (wpAny_bindName (KM I4 hN hi (.inl hx) rv (fun s3 I5=>assignInOrder_nil (wpAny_pure ?_)) (.inr hx)))
 rw [List.set_comm _ _ (Ne.symm hij)] at I5
 exact ⟨_,H1,I5,q1⟩
end
section
variable {X:Cx} {pos:Pos}
def Vo (c:TT) (tb:TS):TS:=fun D σ H=>∃W:Nat→St→Hp→Prop,(∃m,W m σ H)∧∀m σ H,W m σ H→
 c σ H fun b H1=>if b=true then ∃N:St→Hp→Prop,(∀σ' H',N σ' H'→∃m',m' < m∧W m' σ' H')∧tb {D with nx:=N,ct:=N,bk:=D.nx} σ H1 else D.nx σ H1
theorem Vp {c:Expr} {body:List Stmt} {tc:TT} {tb:TS} (hp:PassesOwn (model X.prog X.w) X.A X.env X.xe) (hc:PT X c tc) (hb:DU X body tb):PS X (.While c body [] pos) (Vo tc tb):=by
 intro pins s σ H D I h
 obtain ⟨W,⟨m0,w0⟩,turn⟩:=h
 refine wpAny_While (codeAny_whileLoop (fun n s'=>SN X pins (W n) s') ?_ m0 ⟨σ,H,I,w0⟩)
 rintro n s1 ⟨σ1,H1,I1,w1⟩
 refine wpAny_passesOwn hp (AA (hc pins s1 σ1 H1 _ I1 (turn n σ1 H1 w1)) fun b s2 z34_=>?_)
 obtain ⟨H2,I2,q2⟩:=z34_
 cases b with
 |true=>
  obtain ⟨N,hN,q2⟩:=q2
  rw [if_pos rfl]
  refine wpAny_passesOwn hp (AA (hb pins s2 σ1 H2 _ I2 q2) fun f s3 q3=>?_)
  cases f with
  |next=>
   obtain ⟨σ3,H3,I3,n3⟩:=q3
   obtain ⟨m',hm,w3⟩:=hN σ3 H3 n3
   exact ⟨m',hm,σ3,H3,I3,w3⟩
  |cont=>
   obtain ⟨σ3,H3,I3,n3⟩:=q3
   obtain ⟨m',hm,w3⟩:=hN σ3 H3 n3
   exact ⟨m',hm,σ3,H3,I3,w3⟩
  |brk=>exact q3
  |ret v=>exact q3
 |false=>
  rw [if_neg BE]
  exact wpAny_execs_nil ⟨σ1,H2,I2,q2⟩
end
structure It where
 go:Nat→Hp→Prop
 yld:Nat→Hp→V→Hp→Prop
 stop:Nat→Hp→Prop
def EK (X:Cx) (pins:List (Addr×Obj)) (H:Hp) (b:Addr):Prop:=
 H b=none∧b≠X.env.locals∧b∉X.fs∧(b∈X.ex∨X.s₀.heap.objs.size≤b)∧(∀x c,X.env.cells.lookup x=some c→c≠b)∧∀p∈X.pn++pins,p.1≠b
theorem Inv.fpOk {X:Cx} {pins:List (Addr×Obj)} {σ:St} {H H':Hp} {s:Shared} {b:Addr} (I:Inv X pins σ H s) (hb:s.heap.objs.size≤b) (hn:H' b=none):EK X pins H' b:=by
 refine ⟨hn,Bj (A1 I.lt hb),I.nofs hb,.inr (BP I.sz hb),fun x c e z=>?_,fun p hp z=>?_⟩
 ·obtain ⟨v,q⟩:=I.cell x c e
  exact absurd (A1 q.lt (by rw [z];exact hb)) (DB _)
 ·exact absurd (A1 (AO (I.pin p hp).1) (by rw [z];exact hb)) (DB _)
structure Ik (P:Program) (w:World) (K:PySem.W.Frag) (tg:Expr) (J:It) (fp:List Addr) (it:Addr) (tn:Nat→Heap→Prop):Prop where
 mem:it∈fp
 obj:∀i h,tn i h→∀b∈fp,∃o,h.get? b=some o∧∀v,o.data≠.cell v
 keep:∀i h h',tn i h→(∀b∈fp,∀o,h.get? b=some o→h'.get? b=some o)→tn i h'
 item:∀(X:Cx),X.prog=P→X.w=w→X.K=K→X.calm=true→∀(i:Nat) (pins:List (Addr×Obj)) (s:Shared) (σ:St) (H:Hp) (E:Value→Shared→Prop),Inv X pins σ H s→(∀b∈fp,EK X pins H b)→tn i s.heap→J.go i H→
  wpAny (model P w) X.A (pyNext (.ref it)) (fun r s1=>∃u,r=some u∧
   wpAny (model P w) X.A (letOwnedTupleGo tg (.ref it) u) (fun _ s2=>∃x H',Inv X pins σ H' s2∧RelV x u∧J.yld i H x H'∧tn (i+1) s2.heap∧∀b∈fp,H' b=none) E s1) E s
 done:∀(X:Cx),X.prog=P→X.w=w→X.K=K→X.calm=true→∀(i:Nat) (pins:List (Addr×Obj)) (s:Shared) (σ:St) (H:Hp) (E:Value→Shared→Prop),Inv X pins σ H s→(∀b∈fp,EK X pins H b)→tn i s.heap→J.stop i H→
  wpAny (model P w) X.A (pyNext (.ref it)) (fun r s1=>r=none∧Inv X pins σ H s1) E s
 self:∀(A:Around) (i:Nat) (s:Shared) (Q:Value→Shared→Prop) (E:Value→Shared→Prop),tn i s.heap→Q (.ref it) s→wpAny (model P w) A (pyIter (.ref it)) Q E s
abbrev TI:=St→Hp→(It→Hp→Prop)→Prop
inductive M1 (X:Cx) (pins:List (Addr×Obj)) (σ:St) (tg:Expr) (R:It→Hp→Prop) (itv:Value) (s2:Shared):Prop where
 |mk (it:Addr) (fp:List Addr) (tn:Nat→Heap→Prop) (J:It) (H':Hp) (e:itv=.ref it) (i:Inv X pins σ H' s2) (t:Ik X.prog X.w X.K tg J fp it tn) (st:tn 0 s2.heap) (f:∀b∈fp,EK X pins H' b) (r:R J H'):M1 X pins σ tg R itv s2
def PI (X:Cx) (tg iter:Expr) (wi:TI):Prop:=
 ∀(pins:List (Addr×Obj)) (s:Shared) (σ:St) (H:Hp) (R:It→Hp→Prop),Inv X pins σ H s→wi σ H R→
  wpAny (model X.prog X.w) X.A (eval iter X.env) (fun v s1=>wpAny (model X.prog X.w) X.A (pyIter v) (M1 X pins σ tg R) X.xe s1) X.xe s
theorem M3 {M:Model} {A:Around} {E:Value→Shared→Prop} {s:Shared} {tg:Expr} {it:Addr} {u:Value} {o:Obj} {n:String} {vs:Array Value} {Q:Unit→Shared→Prop} (ho:s.heap.get? it=some o) (hc:o.cls=.type n) (hd:o.data=.fields vs)
 (hn:["enumerate","zip","dict_itemiterator","dict_reverseitemiterator","odict_iterator","itertools.zip_longest","itertools.pairwise"].contains n=false) (hQ:Q () s):wpAny M A (letOwnedTupleGo tg (.ref it) u) Q E s:=by
 unfold letOwnedTupleGo
 cases tg<;>first
  |exact wpAny_pure hQ
  |(cases u<;>first
   |exact wpAny_pure hQ
   |(refine wpAny_bind (wpAny_load ho ?_)
     rw [hc,hd]
     show wpAny M A (if (["enumerate","zip","dict_itemiterator","dict_reverseitemiterator","odict_iterator","itertools.zip_longest","itertools.pairwise"].contains n&&vs[0]?==some (rawInt _))=true then _ else _) Q E s
     rw [if_neg (by intro h;rw [hn,Jt] at h;cases h)]
     exact wpAny_pure hQ))
def Jw (K:PySem.W.Frag) (a:Addr):It:=
 ⟨fun i H=>∃xs x,SqL K H a xs∧xs[i]?=some x,fun i H x H'=>H'=H∧∀xs,SqL K H a xs→xs[i]?=some x,fun i H=>∃xs,SqL K H a xs∧xs.length≤i⟩
def Jx (K:PySem.W.Frag) (a:Addr):It:=
 ⟨fun i H=>∃xs x,SqT K H a xs∧xs[i]?=some x,fun i H x H'=>H'=H∧∀xs,SqT K H a xs→xs[i]?=some x,fun i H=>∃xs,SqT K H a xs∧xs.length≤i⟩
def Jy (lo:Int) (n:Nat):It:=⟨fun i _=>i<n,fun i H x H'=>H'=H∧x=.int (lo+i),fun i _=>n≤i⟩
theorem Vq {P:Program} {w:World} {K:PySem.W.Frag} {tg:Expr} (a it:Addr):Ik P w K tg (Jw K a) [it] it (fun i h=>h.IsListIter it a i) where
 mem:=by simp
 obj:=fun i h st b hb=>by
  have e:b=it:=by simpa using hb
  subst e
  obtain ⟨o,e,c,d⟩:=st
  exact ⟨o,e,fun v z=>by rw [d] at z;cases z⟩
 keep:=fun i h h' st k=>st.at fun o e=>k it (by simp) o e
 item:=by
  intro X hP hw hK hc i pins s σ H E I hf st hg
  subst hP hw hK
  obtain ⟨xs,x,hq,hx⟩:=hg
  obtain ⟨its,rv,p,hz⟩:=I.list hq
  obtain ⟨u,hu,ru⟩:=rv.get hx
  obtain ⟨f0,f1,f2,f3,f4,f5⟩:=hf it (by simp)
  refine wpAny_pyNext_list_item st p.isList (x:=u) (by simpa using hu) fun h' st' sb=>?_
  have I1:Inv X pins σ H {s with heap:=h'}:=I.turned (t':=s.toks) (fun b o hb e=>(sb.2 b hb).trans e) f0 f1 f3 f4 f5
  obtain ⟨o,e,c,d⟩:=id st'
  exact ⟨u,rfl,M3 (s:={s with heap:=h'}) e c d (by decide) ⟨x,H,I1,ru,⟨rfl,fun ys hy=>by rw [I.list_inj hy hq];exact hx⟩,st',fun b hb=>(hf b hb).1⟩⟩
 done:=by
  intro X hP hw hK hc i pins s σ H E I hf st hg
  subst hP hw hK
  obtain ⟨xs,hq,hx⟩:=hg
  obtain ⟨its,rv,p,hz⟩:=I.list hq
  obtain ⟨f0,f1,f2,f3,f4,f5⟩:=hf it (by simp)
  have hl:=rv.length
  exact wpAny_pyNext_list_end (I.ok.hd hc) st p.isList (by simp;omega) fun h' eb=>⟨rfl,I.turned (t':=s.toks) (fun b o hb e=>eb b o hb e) f0 f1 f3 f4 f5⟩
 self:=fun _ _ _ _ _ st h=>wpAny_pyIter_listiter st h
theorem Vr {P:Program} {w:World} {K:PySem.W.Frag} {tg:Expr} (a it:Addr):Ik P w K tg (Jx K a) [it] it (fun i h=>h.IsTupleIter it a i) where
 mem:=by simp
 obj:=fun i h st b hb=>by
  have e:b=it:=by simpa using hb
  subst e
  obtain ⟨o,e,c,d⟩:=st
  exact ⟨o,e,fun v z=>by rw [d] at z;cases z⟩
 keep:=fun i h h' st k=>st.at fun o e=>k it (by simp) o e
 item:=by
  intro X hP hw hK hc i pins s σ H E I hf st hg
  subst hP hw hK
  obtain ⟨xs,x,hq,hx⟩:=hg
  obtain ⟨its,rv,p,hz⟩:=I.tuple hq
  obtain ⟨u,hu,ru⟩:=rv.get hx
  obtain ⟨f0,f1,f2,f3,f4,f5⟩:=hf it (by simp)
  refine wpAny_pyNext_tuple_item st (show s.heap.IsTuple a its.toArray from p) (x:=u) (by simpa using hu) fun h' st' sb=>?_
  have I1:Inv X pins σ H {s with heap:=h'}:=I.turned (t':=s.toks) (fun b o hb e=>(sb.2 b hb).trans e) f0 f1 f3 f4 f5
  obtain ⟨o,e,c,d⟩:=id st'
  exact ⟨u,rfl,M3 (s:={s with heap:=h'}) e c d (by decide) ⟨x,H,I1,ru,⟨rfl,fun ys hy=>by rw [I.tuple_inj hy hq];exact hx⟩,st',fun b hb=>(hf b hb).1⟩⟩
 done:=by
  intro X hP hw hK hc i pins s σ H E I hf st hg
  subst hP hw hK
  obtain ⟨xs,hq,hx⟩:=hg
  obtain ⟨its,rv,p,hz⟩:=I.tuple hq
  obtain ⟨f0,f1,f2,f3,f4,f5⟩:=hf it (by simp)
  have hl:=rv.length
  exact wpAny_pyNext_tuple_end (I.ok.hd hc) st (show s.heap.IsTuple a its.toArray from p) (by simp;omega) fun h' eb=>⟨rfl,I.turned (t':=s.toks) (fun b o hb e=>eb b o hb e) f0 f1 f3 f4 f5⟩
 self:=fun _ _ _ _ _ st h=>wpAny_pyIter_tupleiter st h
theorem Vs {P:Program} {w:World} {K:PySem.W.Frag} {tg:Expr} (it:Addr) (lo:Int) (n:Nat):Ik P w K tg (Jy lo n) [it] it (fun i h=>IsRangeIter h it (lo+(i:Nat)*1) ((n:Int) - (i:Nat)) 1) where
 mem:=by simp
 obj:=fun i h st b hb=>by
  have e:b=it:=by simpa using hb
  subst e
  exact ⟨_,st,fun v z=>by
   have z':Data.fields _=Data.cell v:=z
   cases z'⟩
 keep:=fun i h h' st k=>k it (by simp) _ st
 item:=by
  intro X hP hw hK hc i pins s σ H E I hf st hg
  subst hP hw hK
  obtain ⟨f0,f1,f2,f3,f4,f5⟩:=hf it (by simp)
  have W:=Walks.range (prog:=X.prog) (w:=X.w) (I.ok.hd hc) it lo 1 n
  refine W.item i s _ _ hg st fun v h' tk hv st' kk=>?_
  obtain ⟨t,rfl⟩:=hv
  have I1:Inv X pins σ H {s with heap:=h',toks:=tk}:=I.turned (fun b o hb e=>kk b o (by simpa using hb) e) f0 f1 f3 f4 f5
  refine ⟨_,rfl,M3 (s:={s with heap:=h',toks:=tk}) (n:="range_iterator") st' rfl rfl (by decide) ⟨.int (lo+i),H,I1,⟨t,?_⟩,⟨rfl,rfl⟩,st',fun b hb=>(hf b hb).1⟩⟩
  rw [Int.mul_one]
 done:=by
  intro X hP hw hK hc i pins s σ H E I hf st hg
  subst hP hw hK
  obtain ⟨f0,f1,f2,f3,f4,f5⟩:=hf it (by simp)
  exact wpAny_pyNext_range_end (I.ok.hd hc) st (by have:n≤i:=hg;omega) fun h' eb=>⟨rfl,I.turned (t':=s.toks) (fun b o hb e=>eb b o hb e) f0 f1 f3 f4 f5⟩
 self:=fun _ _ _ _ _ st h=>wpAny_pyIter_rangeiter st h
section
variable {X:Cx} {tg:Expr}
theorem PL {pins:List (Addr×Obj)} {σ:St} {H:Hp} {s:Shared} {R:It→Hp→Prop} {E:Value→Shared→Prop} {lo hi:Int} {t u v:Tok} {tk:Nat} (I:Inv X pins σ H s) (h1:-(2^62)≤lo) (h2:lo<2^62) (h3:-(2^62)≤hi) (h4:hi<2^62)
 (q:R (Jy lo (hi - lo).toNat) H):wpAny (model X.prog X.w) X.A (pyIter (.ref s.heap.objs.size)) (M1 X pins σ tg R) E {s with heap:=s.heap.push {cls:=.type "range",data:=.fields #[.int lo t,.int hi u,.int 1 v]},toks:=tk}:=by
 refine wpAny_pyIter_range (IsRange.new ..) (small_one h1 h2 h3 h4) ?_
 have I1:Inv X pins σ H {s with heap:=s.heap.push {cls:=.type "range",data:=.fields #[.int lo t,.int hi u,.int 1 v]},toks:=tk}:=I.kept fun b o e=>AM _ e
 refine ⟨(s.heap.push {cls:=.type "range",data:=.fields #[.int lo t,.int hi u,.int 1 v]}).objs.size,[(s.heap.push {cls:=.type "range",data:=.fields #[.int lo t,.int hi u,.int 1 v]}).objs.size],_,_,H,rfl,
  I1.kept (t':=tk) fun b o e=>AM _ e,Vs _ lo (hi - lo).toNat,?_,fun b hb=>?_,q⟩
 ·have e1:lo+((0:Nat):Int)*1=lo:=by simp
  have e2:(((hi - lo).toNat:Nat):Int) - ((0:Nat):Int)=Builtin.Range.rangeSize lo hi 1:=by rw [rangeSize_one];split<;>omega
  show IsRangeIter _ _ (lo+((0:Nat):Int)*1) ((((hi - lo).toNat:Nat):Int) - ((0:Nat):Int)) 1
  rw [e1,e2]
  exact BD _ rfl
 ·have e:b=(s.heap.push {cls:=.type "range",data:=.fields #[.int lo t,.int hi u,.int 1 v]}).objs.size:=by simpa using hb
  subst e
  exact I1.fpOk (AG _) (I1.hok.fresh (AG _))
def Vt (ta:TA):TI:=fun σ H R=>ta σ H fun vs H1=>∃j:Int,vs=[.int j]∧-(2^62)≤j∧j<2^62∧R (Jy 0 j.toNat) H1
def Vu (ta:TA):TI:=fun σ H R=>ta σ H fun vs H1=>∃i j:Int,vs=[.int i,.int j]∧(-(2^62)≤i∧i<2^62∧-(2^62)≤j∧j<2^62)∧R (Jy i (j - i).toNat) H1
theorem Vv {a:Expr} {ta:TA} {p pos:Pos} (hg:Gl X "range") (hm:X.mg "range"=none) (ha:PA X [a] ta) (hs:starEach [a] X.env=[(false,eval a X.env)]:=by rfl):PI X tg (.Call (.Name "range" p) [a] [] pos) (Vt ta):=by
 intro pins s σ H R I h
 refine Call_ (GN I hg hm boot_range (PyProof.Rows.callWith_type1 (AA (ha pos pins s σ H _ I h) fun us s1 z37_=>?_) hs rfl))
 obtain ⟨vs,H1,I1,r1,q1⟩:=z37_
 obtain ⟨j,e,q1,q2,q⟩:=q1
 subst e
 cases r1 with
 |cons r rr=>
  cases rr
  obtain ⟨t,rfl⟩:=r
  exact call_range_1 (PL I1 (by omega) (by omega) q1 q2 (by simpa using q))
theorem Vw {a b:Expr} {ta:TA} {p pos:Pos} (hg:Gl X "range") (hm:X.mg "range"=none) (ha:PA X [a,b] ta) (hs:starEach [a,b] X.env=[(false,eval a X.env),(false,eval b X.env)]:=by rfl) (hs2:starEach [b] X.env=[(false,eval b X.env)]:=by rfl):
 PI X tg (.Call (.Name "range" p) [a,b] [] pos) (Vu ta):=by
 intro pins s σ H R I h
 refine Call_ (GN I hg hm boot_range (PyProof.Rows.callWith_type1 (AA (ha pos pins s σ H _ I h) fun us s1 ⟨vs,H1,I1,r1,q1⟩=>?_) (by rw [hs,hs2]) (by rw [hs2];rfl)))
 obtain ⟨i,j,e,⟨q1,q2,q3,q4⟩,q⟩:=q1
 subst e
 cases r1 with
 |cons r rr=>
  cases rr with
  |cons r' rr=>
   cases rr
   obtain ⟨t,rfl⟩:=r
   obtain ⟨t',rfl⟩:=r'
   exact call_range_2 (PL I1 q1 q2 q3 q4 q)
def Vx (wi:TI) (g:TG) (tb:TS):TS:=fun D σ H=>wi σ H fun J H1=>∃W:Nat→Nat→St→Hp→Prop,(∃m,W 0 m σ H1)∧∀i m σ H,W i m σ H→
 (J.stop i H∧D.nx σ H)∨(J.go i H∧∃N:St→Hp→Prop,(∀σ' H',N σ' H'→∃m',m' < m∧W (i+1) m' σ' H')∧∀x H',J.yld i H x H'→g x σ H' fun σ2 H2=>tb {D with nx:=N,ct:=N,bk:=D.nx} σ2 H2)
def Jz (fp:List Addr) (h:Heap):List (Addr×Obj):=fp.filterMap fun b=>(h.get? b).map fun o=>(b,o)
theorem KQ {fp:List Addr} {h:Heap} {b:Addr} {o:Obj} (hb:b∈fp) (e:h.get? b=some o):(b,o)∈Jz fp h:=List.mem_filterMap.mpr ⟨b,hb,by rw [e];rfl⟩
theorem Vy {fp:List Addr} {h:Heap} {p:Addr×Obj} (hp:p∈Jz fp h):p.1∈fp∧h.get? p.1=some p.2:=by
 obtain ⟨b,hb,e⟩:=List.mem_filterMap.mp hp
 cases q:h.get? b with
 |none=>rw [q] at e;cases e
 |some o=>
  rw [q] at e
  have e':(b,o)=p:=Option.some.inj e
  subst e'
  exact ⟨hb,q⟩
theorem Inv.pinned {pins:List (Addr×Obj)} {σ:St} {H:Hp} {s:Shared} {fp:List Addr} (I:Inv X pins σ H s) (hf:∀b∈fp,EK X pins H b) (ho:∀b∈fp,∃o,s.heap.get? b=some o∧∀v,o.data≠.cell v):Inv X (pins++Jz fp s.heap) σ H s:=
 I.pins_of fun p hp=>(qaK.mp hp).elim (fun z=>I.pin p (BI _ z)) fun z=>by
  obtain ⟨hb,e⟩:=Vy z
  obtain ⟨f0,f1,f2,_⟩:=hf p.1 hb
  obtain ⟨o,e',d⟩:=ho p.1 hb
  rw [e] at e';cases e'
  exact ⟨e,f0,f1,f2,d⟩
theorem Inv.unpinned {pins pl:List (Addr×Obj)} {σ:St} {H:Hp} {s:Shared} (I:Inv X (pins++pl) σ H s):Inv X pins σ H s:=I.pins_of fun p hp=>I.pin p (BI _ (CG _ hp))
inductive M4 (X:Cx) (pins:List (Addr×Obj)) (tn:Nat→Heap→Prop) (fp:List Addr) (W:Nat→Nat→St→Hp→Prop) (n:Nat) (s':Shared):Prop where
 |mk (i:Nat) (σ':St) (H':Hp) (ii:Inv X pins σ' H' s') (st:tn i s'.heap) (fr:∀b∈fp,H' b=none) (w:W i n σ' H'):M4 X pins tn fp W n s'
theorem Vz {iter:Expr} {body:List Stmt} {wi:TI} {g:TG} {tb:TS} {pos:Pos} (hp:PassesOwn (model X.prog X.w) X.A X.env X.xe) (hc:X.calm=true) (hi:PI X tg iter wi) (hg:PG X tg g) (hb:DU X body tb)
 (hs:∀x,foldedSetIterable iter X.env x=pure x:=by intro _;rfl):PS X (.For tg iter body [] pos) (Vx wi g tb):=by
 intro pins s σ H D I h
 refine wpAny_For (AA (hi pins s σ H _ I h) fun v s1 h1=>AA h1 fun itv s2 h2=>?_) hs
 obtain ⟨it,fp,tn,J,H2,e,I2,T,DA,f2,W,⟨m0,w0⟩,turn⟩:=h2
 subst e
 have stat:∀{H':Hp},(∀b∈fp,H' b=none)→∀b∈fp,EK X pins H' b:=fun hn b hb=>⟨hn b hb,(f2 b hb).2⟩
 refine codeAny_forLoop_any (M4 X pins tn fp W) ?_ m0 ⟨0,σ,H2,I2,DA,fun b hb=>(f2 b hb).1,w0⟩
 rintro n s3 ⟨i,σ3,H3,I3,Ji,fr3,w3⟩
 rcases turn i n σ3 H3 w3 with ⟨stop,qn⟩ |⟨go,N,hN,step⟩
 ·refine wpAny_passesOwn hp (AA (T.done X rfl rfl rfl hc i pins s3 σ3 H3 X.xe I3 (stat fr3) Ji stop) fun r s4 z39_=>?_)
  obtain ⟨hr,I4⟩:=z39_
  subst hr
  exact wpAny_execs_nil ⟨σ3,H3,I4,qn⟩
 ·refine wpAny_passesOwn hp (AA (T.item X rfl rfl rfl hc i pins s3 σ3 H3 X.xe I3 (stat fr3) Ji go) fun r s4 z40_=>?_)
  obtain ⟨u,hr,h4⟩:=z40_
  subst hr
  refine wpAny_passesOwn hp (AA h4 fun _ s5 z41_=>?_)
  obtain ⟨x,H5,I5,r5,y5,GB,fr5⟩:=z41_
  have I5':=I5.pinned (stat fr5) (T.obj _ _ GB)
  refine wpAny_passesOwn hp (AA (hg _ s5 σ3 H5 x u _ I5' r5 (step x H5 y5)) fun _ s6 z42_=>?_)
  obtain ⟨σ6,H6,I6,q6⟩:=z42_
  refine wpAny_passesOwn hp (AA (hb _ s6 σ6 H6 _ I6 q6) fun f s7 q7=>?_)
  have again:∀{σ7:St} {H7:Hp},Inv X (pins++Jz fp s5.heap) σ7 H7 s7→N σ7 H7→∃m,m<n∧M4 X pins tn fp W m s7:=fun {σ7 H7} I7 n7=>by
   obtain ⟨m',hm,w7⟩:=hN σ7 H7 n7
   refine ⟨m',hm,i+1,σ7,H7,I7.unpinned,T.keep _ _ _ GB fun b hb o e=>(I7.pin (b,o) (BI _ (BI _ (KQ hb e)))).1,fun b hb=>?_,w7⟩
   obtain ⟨o,e,d⟩:=T.obj _ _ GB b hb
   exact (I7.pin (b,o) (BI _ (BI _ (KQ hb e)))).2.1
  cases f with
  |next=>obtain ⟨σ7,H7,I7,n7⟩:=q7;exact again I7 n7
  |cont=>obtain ⟨σ7,H7,I7,n7⟩:=q7;exact again I7 n7
  |brk=>obtain ⟨σ7,H7,I7,q7⟩:=q7;exact ⟨σ7,H7,I7.unpinned,q7⟩
  |ret v=>obtain ⟨x7,σ7,H7,I7,r7,q7⟩:=q7;exact ⟨x7,σ7,H7,I7.unpinned,r7,q7⟩
end
abbrev R2:=V→V→Hp→VK→Prop
def OpR (X:Cx) (f:Value→Value→Sem Value) (r:R2):Prop:=
 ∀(pins:List (Addr×Obj)) (s:Shared) (σ:St) (H:Hp) (x y:V) (v u:Value) (Q:VK),Inv X pins σ H s→RelV x v→RelV y u→r x y H Q→
  wpAny (model X.prog X.w) X.A (f v u) (EP X pins σ Q) X.xe s
def M5 (X:Cx) (f:Value→Sem Value) (r:V→Hp→VK→Prop):Prop:=
 ∀(pins:List (Addr×Obj)) (s:Shared) (σ:St) (H:Hp) (x:V) (v:Value) (Q:VK),Inv X pins σ H s→RelV x v→r x H Q→
  wpAny (model X.prog X.w) X.A (f v) (EP X pins σ Q) X.xe s
def DD (X:Cx) (f:Value) (r:List V→Hp→VK→Prop):Prop:=
 ∀(pins:List (Addr×Obj)) (s:Shared) (σ:St) (H:Hp) (xs:List V) (us:List Value) (Q:VK),Inv X pins σ H s→Vals xs us→r xs H Q→
  wpAny (model X.prog X.w) X.A (call f us) (EP X pins σ Q) X.xe s
def VA (X:Cx) (r:V→Hp→(Bool→Hp→Prop)→Prop):Prop:=
 ∀(pins:List (Addr×Obj)) (s:Shared) (σ:St) (H:Hp) (x:V) (v:Value) (Q:Bool→Hp→Prop),Inv X pins σ H s→RelV x v→r x H Q→
  wpAny (model X.prog X.w) X.A (truthy v) (TP X pins σ Q) X.xe s
def KR (r:R2) (ta tb:TE):TE:=fun σ H Q=>ta σ H fun x H1=>tb σ H1 fun y H2=>r x y H2 Q
def PM (r:V→Hp→VK→Prop) (ta:TE):TE:=fun σ H Q=>ta σ H fun x H1=>r x H1 Q
def rI (C:Int→Int→Prop) (g:Int→Int→V):R2:=fun x y H Q=>∃i j,x=.int i∧y=.int j∧C i j∧Q (g i j) H
def Ge (g:Int→Int→V):R2:=fun x y H Q=>∃i j,x=.int i∧y=.int j∧Q (g i j) H
def rU (g:Int→V):V→Hp→VK→Prop:=fun x H Q=>∃i,x=.int i∧Q (g i) H
section
variable {X:Cx} {a b c:Expr} {ta tb tc:TE} {pos:Pos}
theorem M6 (ha:PE X a ta) (hb:PE X b tb) {pins:List (Addr×Obj)} {s:Shared} {σ:St} {H:Hp} {R:V→V→Hp→Prop} (I:Inv X pins σ H s)
 (h:ta σ H fun x H1=>tb σ H1 fun y H2=>R x y H2) {Q:Value→Shared→Prop} {f:Value→Value→Sem Value}
 (hf:∀v u s2 x y H2,Inv X pins σ H2 s2→RelV x v→RelV y u→R x y H2→wpAny (model X.prog X.w) X.A (f v u) Q X.xe s2):
 wpAny (model X.prog X.w) X.A (eval a X.env) (fun v s₁=>wpAny (model X.prog X.w) X.A (eval b X.env) (fun u s₂=>wpAny (model X.prog X.w) X.A (f v u) Q X.xe s₂) X.xe s₁) X.xe s:=by
 refine AA (ha pins s σ H _ I h) fun v s1 z44_=>?_
 obtain ⟨x,H1,I1,r1,q1⟩:=z44_
 refine AA (hb pins s1 σ H1 _ I1 q1) fun u s2 z45_=>?_
 obtain ⟨y,H2,I2,r2,q2⟩:=z45_
 exact hf v u s2 x y H2 I2 r1 r2 q2
theorem VB {op:Operator} {r:R2} (ho:OpR X (binaryOp op) r) (ha:PE X a ta) (hb:PE X b tb):PE X (.BinOp a op b pos) (KR r ta tb):=by
 intro pins s σ H Q I h
 exact wpAny_BinOp (M6 ha hb I h fun v u s2 x y H2 I2 rx ry q=>ho pins s2 σ H2 x y v u Q I2 rx ry q)
theorem PN {op:UnaryOp} {r:V→Hp→VK→Prop} (ho:M5 X (unaryOp op) r) (ha:PE X a ta):PE X (.UnaryOp op a pos) (PM r ta):=by
 intro pins s σ H Q I h
 exact UnaryOp_ (AA (ha pins s σ H _ I h) fun v s1 z46_=>by obtain ⟨x,H1,I1,r1,q1⟩:=z46_;exact (ho pins s1 σ H1 x v Q I1 r1 q1))
theorem KS {f:Value→Value→Sem Value} {C:Int→Int→Prop} {g:Int→Int→Int}
 (rule:∀(i j:Int) (t u:Tok) (s:Shared) (Q:Value→Shared→Prop) (E:Value→Shared→Prop),C i j→Q (.int (g i j) s.toks) {s with toks:=s.toks+1}→wpAny (model X.prog X.w) X.A (f (.int i t) (.int j u)) Q E s):
 OpR X f (rI C fun i j=>.int (g i j)):=by
 intro pins s σ H x y v u Q I rx ry h
 obtain ⟨i,j,rfl,rfl,hc,q⟩:=h
 obtain ⟨t,rfl⟩:=rx
 obtain ⟨t',rfl⟩:=ry
 exact rule i j t t' s _ _ hc ⟨.int (g i j),H,I.tok _,⟨_,rfl⟩,q⟩
theorem PP {f:Value→Value→Sem Value} {g:Int→Int→Int}
 (rule:∀(i j:Int) (t u:Tok) (s:Shared) (Q:Value→Shared→Prop) (E:Value→Shared→Prop),Q (.int (g i j) s.toks) {s with toks:=s.toks+1}→wpAny (model X.prog X.w) X.A (f (.int i t) (.int j u)) Q E s):
 OpR X f (Ge fun i j=>.int (g i j)):=by
 intro pins s σ H x y v u Q I rx ry h
 obtain ⟨i,j,rfl,rfl,q⟩:=h
 obtain ⟨t,rfl⟩:=rx
 obtain ⟨t',rfl⟩:=ry
 exact rule i j t t' s _ _ ⟨.int (g i j),H,I.tok _,⟨_,rfl⟩,q⟩
theorem M7 {f:Value→Value→Sem Value} {g:Int→Int→Bool}
 (rule:∀(i j:Int) (t u:Tok) (s:Shared) (Q:Value→Shared→Prop) (E:Value→Shared→Prop),Q (.bool (g i j)) s→wpAny (model X.prog X.w) X.A (f (.int i t) (.int j u)) Q E s):
 OpR X f (Ge fun i j=>.bl (g i j)):=by
 intro pins s σ H x y v u Q I rx ry h
 obtain ⟨i,j,rfl,rfl,q⟩:=h
 obtain ⟨t,rfl⟩:=rx
 obtain ⟨t',rfl⟩:=ry
 exact rule i j t t' s _ _ ⟨.bl (g i j),H,I,rfl,q⟩
def PQ (i j:Int):Prop:=0<j∧j<1073741824
def KU (i j:Int):Prop:=0≤j∧j≤1000000∧i.natAbs<2^64
def CMul (i j:Int):Prop:=(-(2^64)<i∧i<2^64)∨(-(2^64)<j∧j<2^64)
theorem CMul.ok {i j:Int} (h:CMul i j):IntMulOk i j:=by
 rcases h with ⟨h1,h2⟩ |⟨h1,h2⟩
 ·exact .of_left (intBits_le_64 h1 h2)
 ·exact .of_right (intBits_le_64 h1 h2)
theorem op_add:OpR X (binaryOp .Add) (Ge fun i j=>.int (i+j)):=PP fun _ _ _ _ _ _ _ q=>add_int q
theorem VC:OpR X (binaryOp .Sub) (Ge fun i j=>.int (i - j)):=PP fun _ _ _ _ _ _ _ q=>sub_int q
theorem VD:OpR X (binaryOp .Mod) (rI (fun _ j=>0<j) fun i j=>.int (i % j)):=KS fun i j _ _ _ _ _ hc q=>by
 have h1:(0:Int)<j:=hc
 exact mod_int' (by omega) (by rw [Int.fmod_eq_emod_of_nonneg i (by omega)];exact q)
theorem VE:OpR X (binaryOp .Pow) (rI KU fun i j=>.int (i^j.toNat)):=KS fun _ _ _ _ _ _ _ hc q=>pow_int_small hc.1 hc.2.1 hc.2.2 q
theorem VF {f:Value→Sem Value} {g:Int→Int}
 (rule:∀(i:Int) (t:Tok) (s:Shared) (Q:Value→Shared→Prop) (E:Value→Shared→Prop),Q (.int (g i) s.toks) {s with toks:=s.toks+1}→wpAny (model X.prog X.w) X.A (f (.int i t)) Q E s):
 M5 X f (rU fun i=>.int (g i)):=by
 intro pins s σ H x v Q I rx h
 obtain ⟨i,rfl,q⟩:=h
 obtain ⟨t,rfl⟩:=rx
 exact rule i t s _ _ ⟨.int (g i),H,I.tok _,⟨_,rfl⟩,q⟩
theorem PR:M5 X (unaryOp .USub) (rU fun i=>.int (-i)):=VF fun _ _ _ _ _ q=>neg_int q
end
def PU:V→V→Bool
 |.non,.non=>true |.non,.int _=>true |.int _,.non=>true |.non,.bl _=>true |.bl _,.non=>true |.non,.str _=>true |.str _,.non=>true
 |.int _,.int _=>true |.bl _,.bl _=>true |.str _,.str _=>true |.byt _,.byt _=>true
 |.int _,.str _=>true |.str _,.int _=>true |.bl _,.str _=>true |.str _,.bl _=>true
 |_,_=>false
def VG:R2:=fun x y H Q=>PU x y=true∧Q (.bl (decide (x=y))) H
def VH:R2:=fun x y H Q=>PU x y=true∧Q (.bl (!decide (x=y))) H
theorem PV {i j:Int}:decide (V.int i=V.int j)=(i==j):=by
 rw [qaW]
 simp
theorem PX {i j:Bool}:decide (V.bl i=V.bl j)=(i==j):=by
 rw [qaW]
 simp
theorem KV {i j:Str}:decide (V.str i=V.str j)=(i==j):=by
 rw [qaW]
 simp
theorem PY {i j:Array UInt8}:decide (V.byt i=V.byt j)=(i.toList==j.toList):=by
 rw [qaW]
 cases i
 cases j
 simp
section
variable {X:Cx} {a b c:Expr} {ta tb tc:TE} {pos:Pos}
theorem Bz {pins:List (Addr×Obj)} {σ:St} {H:Hp} {s:Shared} {Q:VK} {k k':Bool} (I:Inv X pins σ H s) (q:Q (.bl k) H) (e:k=k'):EP X pins σ Q (.bool k') s:=by
 subst e
 exact ⟨.bl k,H,I,rfl,q⟩
theorem op_eq:OpR X (compareOp .Eq) VG:=by
 intro pins s σ H x y v u Q I rx ry h
 obtain ⟨hs,q⟩:=h
 cases x with
 |non=>
  cases rx
  cases y with
  |non=>cases ry;exact PySem.EqNone.eq_none_none (Bz I q (by simp))
  |bl j=>cases ry;exact PySem.EqNone.eq_none_bool (Bz I q (by simp))
  |int j=>obtain ⟨t',rfl⟩:=ry;exact PySem.EqNone.eq_none_int (Bz I q (by simp))
  |str j=>obtain ⟨t',rfl⟩:=ry;exact PySem.EqNone.eq_none_str (Bz I q (by simp))
  |_=>exact absurd (show false=true from hs) BE
 |bl i=>
  cases rx
  cases y with
  |non=>cases ry;exact PySem.EqNone.eq_bool_none (Bz I q (by simp))
  |bl j=>cases ry;exact eq_bool (Bz I q PX)
  |str j=>obtain ⟨t',rfl⟩:=ry;exact PySem.EqMixed.eq_bool_str (Bz I q (by simp))
  |_=>exact absurd (show false=true from hs) BE
 |int i=>
  obtain ⟨t,rfl⟩:=rx
  cases y with
  |non=>cases ry;exact PySem.EqNone.eq_int_none (Bz I q (by simp))
  |int j=>obtain ⟨t',rfl⟩:=ry;exact eq_int (Bz I q PV)
  |str j=>obtain ⟨t',rfl⟩:=ry;exact PySem.EqMixed.eq_int_str (Bz I q (by simp))
  |_=>exact absurd (show false=true from hs) BE
 |str i=>
  obtain ⟨t,rfl⟩:=rx
  cases y with
  |non=>cases ry;exact PySem.EqNone.eq_str_none (Bz I q (by simp))
  |bl j=>cases ry;exact PySem.EqMixed.eq_str_bool (Bz I q (by simp))
  |int j=>obtain ⟨t',rfl⟩:=ry;exact PySem.EqMixed.eq_str_int (Bz I q (by simp))
  |str j=>obtain ⟨t',rfl⟩:=ry;exact eq_str (Bz I q KV)
  |_=>exact absurd (show false=true from hs) BE
 |byt i=>
  obtain ⟨t,rfl⟩:=rx
  cases y with
  |byt j=>obtain ⟨t',rfl⟩:=ry;exact PySem.W.eq_bytes (Bz I q PY)
  |_=>exact absurd (show false=true from hs) BE
 |_=>cases y<;>exact absurd (show false=true from hs) BE
theorem op_ne:OpR X (compareOp .NotEq) VH:=by
 intro pins s σ H x y v u Q I rx ry h
 obtain ⟨hs,q⟩:=h
 cases x with
 |non=>
  cases rx
  cases y with
  |non=>cases ry;exact PySem.EqNone.ne_none_none (Bz I q (by simp))
  |bl j=>cases ry;exact PySem.EqNone.ne_none_bool (Bz I q (by simp))
  |int j=>obtain ⟨t',rfl⟩:=ry;exact PySem.EqNone.ne_none_int (Bz I q (by simp))
  |str j=>obtain ⟨t',rfl⟩:=ry;exact PySem.EqNone.ne_none_str (Bz I q (by simp))
  |_=>exact absurd (show false=true from hs) BE
 |bl i=>
  cases rx
  cases y with
  |non=>cases ry;exact PySem.EqNone.ne_bool_none (Bz I q (by simp))
  |bl j=>cases ry;exact ne_bool (Bz I q (congrArg not PX))
  |str j=>obtain ⟨t',rfl⟩:=ry;exact PySem.EqMixed.ne_bool_str (Bz I q (by simp))
  |_=>exact absurd (show false=true from hs) BE
 |int i=>
  obtain ⟨t,rfl⟩:=rx
  cases y with
  |non=>cases ry;exact PySem.EqNone.ne_int_none (Bz I q (by simp))
  |int j=>obtain ⟨t',rfl⟩:=ry;exact ne_int (Bz I q (congrArg not PV))
  |str j=>obtain ⟨t',rfl⟩:=ry;exact PySem.EqMixed.ne_int_str (Bz I q (by simp))
  |_=>exact absurd (show false=true from hs) BE
 |str i=>
  obtain ⟨t,rfl⟩:=rx
  cases y with
  |non=>cases ry;exact PySem.EqNone.ne_str_none (Bz I q (by simp))
  |bl j=>cases ry;exact PySem.EqMixed.ne_str_bool (Bz I q (by simp))
  |int j=>obtain ⟨t',rfl⟩:=ry;exact PySem.EqMixed.ne_str_int (Bz I q (by simp))
  |str j=>obtain ⟨t',rfl⟩:=ry;exact ne_str (Bz I q (congrArg not KV))
  |_=>exact absurd (show false=true from hs) BE
 |byt i=>
  obtain ⟨t,rfl⟩:=rx
  cases y with
  |byt j=>obtain ⟨t',rfl⟩:=ry;exact PySem.W.ne_bytes (Bz I q (congrArg not PY))
  |_=>exact absurd (show false=true from hs) BE
 |_=>cases y<;>exact absurd (show false=true from hs) BE
theorem VI:OpR X (compareOp .Lt) (Ge fun i j=>.bl (decide (i<j))):=M7 fun _ _ _ _ _ _ _ q=>lt_int q
theorem VJ:OpR X (compareOp .LtE) (Ge fun i j=>.bl (decide (i≤j))):=M7 fun _ _ _ _ _ _ _ q=>le_int q
theorem VL:OpR X (compareOp .Gt) (Ge fun i j=>.bl (decide (j<i))):=M7 fun _ _ _ _ _ _ _ q=>gt_int q
theorem VM:OpR X (compareOp .IsNot) (fun x y H Q=>y=.non∧Q (.bl (!decide (x=.non))) H):=by
 intro pins s σ H x y v u Q I rx ry h
 obtain ⟨rfl,q⟩:=h
 cases ry
 refine isnot_none_gen (Bz I q ?_)
 cases x<;>first
  |(cases rx;rfl)
  |(obtain ⟨t,rfl⟩:=rx;rfl)
theorem OpR.or {f:Value→Value→Sem Value} {r r':R2} (h:OpR X f r) (h':OpR X f r'):OpR X f (fun x y H Q=>r x y H Q∨r' x y H Q):=by
 intro pins s σ H x y v u Q I rx ry q
 rcases q with q |q
 ·exact h pins s σ H x y v u Q I rx ry q
 ·exact h' pins s σ H x y v u Q I rx ry q
theorem BK (b:Expr) {op:CmpOp} (h:op≠.In:=by decide) (h2:op≠.NotIn:=by decide):behindInMarks op b=false:=by
 have e1:(op==CmpOp.In)=false:=by cases op<;>first |rfl |exact absurd rfl h
 have e2:(op==CmpOp.NotIn)=false:=by cases op<;>first |rfl |exact absurd rfl h2
 cases b with
 |Set elts k p=>
  show (k==0&&(op==.In||op==.NotIn)&&elts.all (constantsAlone 8))=false
  rw [e1,e2,Bool.or_self,Bool.and_false,Jt]
 |_=>rfl
theorem VN {op:CmpOp} {r:R2} (ho:OpR X (compareOp op) r) (ha:PE X a ta) (hb:PE X b tb) (hm:behindInMarks op b=false):PE X (.Compare a [op] [b] pos) (KR r ta tb):=by
 intro pins s σ H Q I h
 exact wpAny_Compare1 (M6 ha hb I h fun v u s2 x y H2 I2 rx ry q=>ho pins s2 σ H2 x y v u Q I2 rx ry q) hm
def PZ (t:TE):TT:=fun σ H Q=>t σ H fun x H'=>∃k,x=.bl k∧Q k H'
theorem VO {op:CmpOp} {r:R2} (ho:OpR X (compareOp op) r) (ha:PE X a ta) (hb:PE X b tb) (hm:behindInMarks op b=false):PT X (.Compare a [op] [b] pos) (PZ (KR r ta tb)):=by
 intro pins s σ H Q I h
 refine wpAny_isTrue_Compare1 (AA (ha pins s σ H _ I h) fun v s1 ⟨x,H1,I1,r1,q1⟩=>AA (hb pins s1 σ H1 _ I1 q1) ?_) hm
 rintro u s2 ⟨y,H2,I2,r2,q2⟩
 refine AA (ho pins s2 σ H2 x y v u _ I2 r1 r2 q2) fun c s3 z49_=>?_
 obtain ⟨z,H3,I3,r3,k,e,q3⟩:=z49_
 subst e
 cases r3
 exact wpAny_truthy_bool ⟨H3,I3,q3⟩
def M8 (r r':R2) (ta tb tc:TE):TE:=fun σ H Q=>ta σ H fun x H1=>tb σ H1 fun y H2=>r x y H2 fun z H3=>∃k,z=.bl k∧
 (if k=true then tc σ H3 fun w' H4=>r' y w' H4 Q else Q (.bl false) H3)
theorem VP {op op':CmpOp} {r r':R2} (ho:OpR X (compareOp op) r) (ho':OpR X (compareOp op') r') (ha:PE X a ta) (hb:PE X b tb) (hc:PE X c tc)
 (hm:lastMarks [op,op'] [b,c]=false:=by with_unfolding_all rfl):PE X (.Compare a [op,op'] [b,c] pos) (M8 r r' ta tb tc):=by
 intro pins s σ H Q I h
 refine Compare_chain (AA (ha pins s σ H _ I h) fun v s1 ⟨x,H1,I1,r1,q1⟩=>chain_link (AA (hb pins s1 σ H1 _ I1 q1) ?_)) hm
 rintro u s2 ⟨y,H2,I2,r2,q2⟩
 refine AA (ho pins s2 σ H2 x y v u _ I2 r1 r2 q2) fun d s3 z52_=>?_
 obtain ⟨z,H3,I3,r3,k,e,q3⟩:=z52_
 subst e
 cases r3
 refine wpAny_truthy_bool ?_
 cases k with
 |false=>exact ite_ff ⟨.bl false,H3,I3,rfl,q3⟩
 |true=>exact ite_tt (chain_last (AA (hc pins s3 σ H3 _ I3 q3) fun w' s4 z53_=>by obtain ⟨z',H4,I4,r4,q4⟩:=z53_;exact (ho' pins s4 σ H4 y z' u w' Q I4 r2 r4 q4)))
theorem VQ {op op':CmpOp} {r r':R2} (ho:OpR X (compareOp op) r) (ho':OpR X (compareOp op') r') (ha:PE X a ta) (hb:PE X b tb) (hc:PE X c tc)
 (hm:lastMarks [op,op'] [b,c]=false:=by with_unfolding_all rfl):PT X (.Compare a [op,op'] [b,c] pos) (PZ (M8 r r' ta tb tc)):=by
 intro pins s σ H Q I h
 refine isTrue_chain (AA (ha pins s σ H _ I h) fun v s1 ⟨x,H1,I1,r1,q1⟩=>test_link (AA (hb pins s1 σ H1 _ I1 q1) ?_)) hm
 rintro u s2 ⟨y,H2,I2,r2,q2⟩
 refine AA (ho pins s2 σ H2 x y v u _ I2 r1 r2 q2) fun d s3 z56_=>?_
 obtain ⟨z,H3,I3,r3,k,e,q3⟩:=z56_
 subst e
 cases r3
 refine wpAny_truthy_bool ?_
 cases k with
 |false=>
  obtain ⟨k',e',q'⟩:=q3
  cases e'
  exact ite_ff ⟨H3,I3,q'⟩
 |true=>
  refine ite_tt (test_last (AA (hc pins s3 σ H3 _ I3 q3) ?_))
  rintro w' s4 ⟨z',H4,I4,r4,q4⟩
  refine AA (ho' pins s4 σ H4 y z' u w' _ I4 r2 r4 q4) fun d' s5 z58_=>?_
  obtain ⟨z2,H5,I5,r5,k2,e2,q5⟩:=z58_
  subst e2
  cases r5
  exact wpAny_truthy_bool ⟨H5,I5,q5⟩
def M9 (K:PySem.W.Frag) (x:V) (H:Hp) (k:Bool):Prop:=
 match x with
 |.non=>k=false
 |.bl b=>k=b
 |.int i=>k=(i != 0)
 |.str y=>y.length≤sizeLine∧k=((y.length:Int) != 0)
 |.byt y=>y.size≤sizeLine∧k=((y.size:Int) != 0)
 |.ref p=>(∃xs,SqL K H p xs∧k=!xs.isEmpty)∨(∃xs,SqT K H p xs∧k=!xs.isEmpty)
 |_=>False
theorem P0 {xs:List V} {its:List Value} (r:Vals xs its):(!its.toArray.isEmpty)=!xs.isEmpty:=by
 cases r<;>simp
theorem Il:(sizeLine:Nat)<2^63:=by rw [sizeLine_eq];decide
theorem VR:VA X (fun x H Q=>∃k,M9 X.K x H k∧Q k H):=by
 intro pins s σ H x v Q I rx h
 obtain ⟨k,e,q⟩:=h
 have hl:=Il
 have hs:sizeLine=16777216:=sizeLine_eq
 cases x with
 |non=>
  cases rx
  have e':k=false:=e
  subst e'
  exact truthy_none ⟨H,I,q⟩
 |bl b=>
  cases rx
  have e':k=b:=e
  subst e'
  exact wpAny_truthy_bool ⟨H,I,q⟩
 |int i=>
  obtain ⟨t,rfl⟩:=rx
  have e':k=(i != 0):=e
  subst e'
  exact PySem.P.truthy_int ⟨H,I,q⟩
 |str y=>
  obtain ⟨t,rfl⟩:=rx
  obtain ⟨hy,e'⟩:y.length≤sizeLine∧k=((y.length:Int) != 0):=e
  subst e'
  exact PySem.P.truthy_str (by omega) ⟨H,I.tok _,q⟩
 |byt y=>
  obtain ⟨t,rfl⟩:=rx
  obtain ⟨hy,e'⟩:y.size≤sizeLine∧k=((y.size:Int) != 0):=e
  subst e'
  exact PySem.W.truthy_bytes (by omega) ⟨H,I.tok _,q⟩
 |ref p=>
  cases rx
  have e':(∃xs,SqL X.K H p xs∧k=!xs.isEmpty)∨(∃xs,SqT X.K H p xs∧k=!xs.isEmpty):=e
  rcases e' with ⟨xs,hx,e'⟩ |⟨xs,hx,e'⟩
  ·subst e'
   obtain ⟨its,r,pl,hz⟩:=I.list hx
   have hlen:=r.length
   exact wpAny_truthy_list pl.isList (by simp only [A7];omega) ⟨H,I.tok _,by rw [P0 r];exact q⟩
  ·subst e'
   obtain ⟨its,r,pl,hz⟩:=I.tuple hx
   have hlen:=r.length
   exact truthy_tuple pl (by simp only [A7];omega) ⟨H,I.tok _,by rw [P0 r];exact q⟩
 |_=>exact (show False from e).elim
theorem VS (ha:PE X a ta) (he:∀Ft,isTrue a X.env Ft=(do let v ←Ft;standAt a.pos;holding [v] (truthy v))):
 PT X a (fun σ H Q=>ta σ H fun x H'=>∃k,M9 X.K x H' k∧Q k H'):=by
 intro pins s σ H Q I h
 exact isTrue_plain (AA (ha pins s σ H _ I h) fun v s1 z59_=>by obtain ⟨x,H1,I1,r1,q1⟩:=z59_;exact (VR pins s1 σ H1 x v Q I1 r1 q1)) (he _)
theorem VT:OpR X (binaryOp .Add) (fun x y H Q=>∃i j,x=.str i∧y=.str j∧i.length+j.length≤sizeLine∧Q (.str (i++j)) H):=by
 intro pins s σ H x y v u Q I rx ry h
 obtain ⟨i,j,rfl,rfl,hz,q⟩:=h
 obtain ⟨t,rfl⟩:=rx
 obtain ⟨t',rfl⟩:=ry
 exact add_str (fun t' tk=>⟨.str (i++j),H,I.tok _,⟨_,rfl⟩,q⟩) hz
theorem FI {x:V} {us:List Value} (r:Vals [x] us):∃u,us=[u]∧RelV x u:=by
 cases r with
 |cons r1 r2=>cases r2;exact ⟨_,rfl,r1⟩
theorem KW {x y:V} {us:List Value} (r:Vals [x,y] us):∃u w',us=[u,w']∧RelV x u∧RelV y w':=by
 cases r with
 |cons r1 r2=>
  cases r2 with
  |cons r3 r4=>cases r4;exact ⟨_,_,rfl,r1,r3⟩
theorem VU (hc:X.calm=true):DD X (.builtin "max") (fun xs H Q=>∃i j,xs=[.int i,.int j]∧Q (.int (if j>i then j else i)) H):=by
 intro pins s σ H xs us Q I r h
 obtain ⟨i,j,rfl,q⟩:=h
 obtain ⟨u,w',rfl,⟨t,rfl⟩,⟨t',rfl⟩⟩:=KW r
 refine max_two_ints (I.ok.hd hc) fun h' tk k=>⟨_,H,I.kept k,?_,q⟩
 by_cases hj:j>i
 ·rw [if_pos hj,if_pos hj];exact ⟨_,rfl⟩
 ·rw [if_neg hj,if_neg hj];exact ⟨_,rfl⟩
theorem VV (hc:X.calm=true):DD X (.builtin "min") (fun xs H Q=>∃i j,xs=[.int i,.int j]∧Q (.int (if j<i then j else i)) H):=by
 intro pins s σ H xs us Q I r h
 obtain ⟨i,j,rfl,q⟩:=h
 obtain ⟨u,w',rfl,⟨t,rfl⟩,⟨t',rfl⟩⟩:=KW r
 refine min_two_ints (I.ok.hd hc) fun h' tk k=>⟨_,H,I.kept k,?_,q⟩
 by_cases hj:j<i
 ·rw [if_pos hj,if_pos hj];exact ⟨_,rfl⟩
 ·rw [if_neg hj,if_neg hj];exact ⟨_,rfl⟩
theorem VW:DD X (.type "int") (fun xs H Q=>(∃i,xs=[.int i]∧Q (.int i) H)∨∃k,xs=[.bl k]∧Q (.int (if k then 1 else 0)) H):=by
 intro pins s σ H xs us Q I r h
 rcases h with ⟨i,rfl,q⟩ |⟨k,rfl,q⟩
 ·obtain ⟨u,rfl,t,rfl⟩:=FI r
  exact call_int_int ⟨.int i,H,I,⟨_,rfl⟩,q⟩
 ·obtain ⟨u,rfl,r1⟩:=FI r
  cases r1
  exact call_int_bool ⟨.int (if k then 1 else 0),H,I.tok _,⟨_,rfl⟩,q⟩
end
section
variable {prog:Program} {w:World} {A:Around} {E:Value→Shared→Prop} {s:Shared} {K:PySem.W.Frag} {x dx C f:Addr} {mA:Str→Option Value} {name:Str} {v:Value}
end
section
variable {P:Program} {w:World} {H H':Hp} {h h':Heap} {a C dx:Addr} {fs fs':List (Str×V)}
end
section
variable {X:Cx} {pins:List (Addr×Obj)} {σ:St} {H:Hp} {s:Shared} {a C dx:Addr} {fs:List (Str×V)} {f:Str} {v:V} {A:Around} {E:Value→Shared→Prop}
end
section
variable {X:Cx} {o e value:Expr} {f:Str} {pos pos' tpos:Pos} {ta tv:TE}
end
section
variable {X:Cx} {pins:List (Addr×Obj)} {σ:St} {H:Hp} {s:Shared} {A:Around} {E:Value→Shared→Prop} {Q:Value→Shared→Prop} {c:Value} {b:Bool}
inductive Ff (K:PySem.W.Frag) (H:Hp):V→Value→Prop where
 |non:Ff K H .non (.type "NoneType")
 |bl (x:Bool):Ff K H (.bl x) (.type "bool")
 |int (i:Int):Ff K H (.int i) (.type "int")
 |str (x:Str):Ff K H (.str x) (.type "str")
 |flt (x:UInt64):Ff K H (.flt x) (.type "float")
 |lst {a:Addr} {xs:List V} (e:H a=some (.lst xs)):Ff K H (.ref a) (.type "list")
 |frz {a:Addr} {o:Obj} {xs:List V} (e:H a=some (.frz o (.lst xs))):Ff K H (.ref a) (.type "list")
 |tup {a:Addr} {xs:List V} (e:H a=some (.tup xs)):Ff K H (.ref a) (.type "tuple")
theorem VX {x:V} {u t:Value} (I:Inv X pins σ H s) (rx:RelV x u) (ty:Ff X.K H x t) (e:PySem.W.kitOne X.K t c=some b) (h:∀tk,Q (.bool b) {s with toks:=tk}):
 wpAny (model X.prog X.w) A (call (.builtin "isinstance") [u,c]) Q E s:=by
 cases ty with
 |non=>cases (show u=Value.none from rx);exact PySem.W.kia_one PySem.W.kitx_none I.kIn True.intro e (fun z=>nomatch z) h
 |bl y=>cases (show u=Value.bool y from rx);exact PySem.W.kia_one PySem.W.kitx_bool I.kIn True.intro e (fun z=>nomatch z) h
 |int i=>obtain ⟨t,q⟩:=(show ∃t,u=Value.int i t from rx);cases q;exact PySem.W.kia_one PySem.W.kitx_int I.kIn True.intro e (fun z=>nomatch z) h
 |str y=>obtain ⟨t,q⟩:=(show ∃t,u=Value.str y t from rx);cases q;exact PySem.W.kia_one PySem.W.kitx_str I.kIn True.intro e (fun z=>nomatch z) h
 |flt y=>obtain ⟨t,q⟩:=(show ∃t,u=Value.float y t from rx);cases q;exact PySem.W.kia_one PySem.W.kitx_float I.kIn True.intro e (fun z=>nomatch z) h
 |@lst a xs ea=>
  cases (show u=Value.ref a from rx)
  obtain ⟨_,_,n,_,h1⟩:=(show ObjOk X.prog X.w H s.heap a (.lst xs) from I.hok a _ ea)
  exact PySem.W.kia_one PySem.W.kitx_list I.kIn ⟨_,h1,rfl⟩ e (fun z=>nomatch z) h
 |@frz a ob xs ea=>
  cases (show u=Value.ref a from rx)
  obtain ⟨_,_,_,n,_,h1⟩:=(show ObjOk X.prog X.w H s.heap a (.frz ob (.lst xs)) from I.hok a _ ea)
  exact PySem.W.kia_one PySem.W.kitx_list I.kIn ⟨_,h1,rfl⟩ e (fun z=>nomatch z) h
 |@tup a xs ea=>
  cases (show u=Value.ref a from rx)
  obtain ⟨_,_,_,p,_⟩:=(show ObjOk X.prog X.w H s.heap a (.tup xs) from I.hok a _ ea)
  obtain ⟨o,h1,h2,_⟩:=p
  exact PySem.W.kia_one PySem.W.kitx_tuple I.kIn ⟨o,h1,h2⟩ e (fun z=>nomatch z) h
end
structure Room (k:Nat) (A:Around):Prop where
 hd:A.handled=none
 dp:A.depth+3*k+5<recursionLimit
 un:A.units+16*k+200<cLine
 gd:A.guards=some []
theorem Room.mono {j k:Nat} {A:Around} (r:Room k A) (h:j≤k):Room j A:=⟨r.hd,by have:=r.dp;omega,by have:=r.un;omega,r.gd⟩
theorem Room.deeper {k:Nat} {A:Around} (r:Room (k+1) A) (env:Env):Room k (A.deeper env):=
 ⟨r.hd,by have:=r.dp;show A.depth+1+3*k+5<_;omega,by have:=r.un;show A.units+3+16*k+200<_;omega,r.gd⟩
theorem Room.depth {k:Nat} {A:Around} (r:Room k A):A.depth<recursionLimit:=by have:=r.dp;omega
theorem Room.units {k:Nat} {A:Around} (r:Room k A):A.units+64<cLine:=by have:=r.un;omega
def VY:TA:=fun _ H Q=>Q [] H
def VZ (ta:TE) (tr:TA):TA:=fun σ H Q=>ta σ H fun x H1=>tr σ H1 fun xs H2=>Q (x::xs) H2
section
variable {X:Cx} {e:Expr} {es:List Expr} {te:TE} {t:TA} {pos:Pos}
theorem Na:PA X [] VY:=fun _ _ _ _ H Q I h=>Calls.spliced_nil ⟨[],H,I,.nil,h⟩
theorem Nb (ha:PE X e te) (hr:PA X es t) (hs:starEach (e::es) X.env=(false,eval e X.env)::starEach es X.env:=by rfl):PA X (e::es) (VZ te t):=by
 intro pos pins s σ H Q I h
 rw [hs]
 show wpAny _ _ (spliced ((false,eval e X.env)::backTo pos (starEach es X.env))) _ _ s
 refine Calls.spliced_cons (AA (ha pins s σ H _ I h) fun u s1 z68_=>?_)
 obtain ⟨x,H1,I1,r1,q1⟩:=z68_
 exact AA (hr pos pins s1 σ H1 _ I1 q1) fun us s2 z69_=>by obtain ⟨xs,H2,I2,r2,q2⟩:=z69_;exact (⟨x::xs,H2,I2,.cons r1 r2,q2⟩)
def V0 (t:TA):TE:=fun σ H Q=>t σ H fun xs H1=>xs.length≤sizeLine∧∀p,H1 p=none→Q (.ref p) (Av H1 p (.tup xs))
def V1 (t:TA):TE:=fun σ H Q=>t σ H fun xs H1=>xs.length≤sizeLine∧∀p,H1 p=none→Q (.ref p) (Av H1 p (.lst xs))
theorem V2 {x1} (h:PA X es t):PE X (.Tuple es x1 pos) (V0 t):=by
 intro pins s σ H Q I hq
 refine wpAny_Tuple_spliced (AA (h pos pins s σ H _ I hq) fun us s1 ⟨xs,H1,I1,r,z,q⟩=>⟨by rw [←r.length];exact z,?_⟩)
 have hf:H1 s1.heap.objs.size=none:=I1.hok.fresh (AG _)
 refine ⟨.ref s1.heap.objs.size,Av H1 s1.heap.objs.size (.tup xs),I1.laid (t':=s1.toks) (fun b u e=>AM _ e) (AG _) ?_,rfl,q _ hf⟩
 exact ⟨z,us,r,⟨_,BD _ rfl,rfl,_,rfl⟩,NoDict.new⟩
theorem V3 (h:PA X es t):PE X (.List es pos) (V1 t):=by
 intro pins s σ H Q I hq
 refine wpAny_List_spliced (AA (h pos pins s σ H _ I hq) fun us s1 ⟨xs,H1,I1,r,z,q⟩=>⟨by rw [←r.length];exact z,?_⟩)
 have hf:H1 s1.heap.objs.size=none:=I1.hok.fresh (AG _)
 refine ⟨.ref s1.heap.objs.size,Av H1 s1.heap.objs.size (.lst xs),I1.laid (t':=s1.toks) (fun b u e=>AM _ e) (AG _) ?_,rfl,q _ hf⟩
 exact ⟨z,us,0,r,BD _ rfl⟩
end
abbrev Sp:=List V→Hp→VK→XK→Prop
abbrev EL:=List Env→Hp→Shared→XK→Value→Shared→Prop
structure Gf (P:Program) (w:World) (K:PySem.W.Frag) (mg:Str→Option Value) (base:Heap) (A:Around) (outer:List Env) (s:Shared) (H:Hp):Prop where
 frames:A.frames=some outer
 mod:Mod K mg base
 bs:∀b o,base.get? b=some o→s.heap.get? b=some o∧H b=none
 bsz:base.objs.size≤s.heap.objs.size
 funs:s.heap.FunFrames base outer
 frf:∀b∈frs outer,H b=none
 hok:HOk P w H s.heap
 bare:AllBare s.gens
inductive CE (outer:List Env) (P:Program) (w:World) (H:Hp) (s:Shared) (Q:VK) (u:Value) (s':Shared):Prop where
 |mk (v:V) (H':Hp) (os:s'.os=s.os) (bare:AllBare s'.gens) (un:Un (frs outer) [] H H' s.heap s'.heap) (hok:HOk P w H' s'.heap) (r:RelV v u) (q:Q v H'):CE outer P w H s Q u s'
def CR (CX:EL) (outer:List Env) (P:Program) (w:World) (H:Hp) (s:Shared) (Q:VK) (E:XK) (r:Result) (s':Shared):Prop:=
 match r with
 |.ok (.ret u)=>CE outer P w H s Q u s'
 |.ok _=>False
 |.error e=>CX outer H s E e s'
structure FnOk (P:Program) (w:World) (K:PySem.W.Frag) (mg:Str→Option Value) (base:Heap) (CX:EL) (k:Nat) (f:Addr) (fd:FuncData) (ps:List Str) (sp:Sp):Prop where
 len:∀vs H Q E,sp vs H Q E→vs.length=ps.length
 run:∀(A:Around) (outer:List Env) (s:Shared) (H:Hp) (args:Args) (us:List Value) (vs:List V) (Q:VK) (E:XK),Room k A→Gf P w K mg base A outer s H→BindsTo s fd args (ps.zip us)→Vals vs us→sp vs H Q E→
  codeAny (model P w) A (.call (.ref f) args) (CR CX outer P w H s Q E) s
theorem FnOk.mono {P:Program} {w:World} {K:PySem.W.Frag} {mg:Str→Option Value} {base:Heap} {CX:EL} {j k:Nat} {f:Addr} {fd:FuncData} {ps:List Str} {sp:Sp} (F:FnOk P w K mg base CX j f fd ps sp) (h:j≤k):
 FnOk P w K mg base CX k f fd ps sp:=⟨F.len,fun A outer s H args us vs Q E hr=>F.run A outer s H args us vs Q E (hr.mono h)⟩
theorem FnOk.imp {P:Program} {w:World} {K:PySem.W.Frag} {mg:Str→Option Value} {base:Heap} {CX:EL} {k:Nat} {f:Addr} {fd:FuncData} {ps:List Str} {sp sp':Sp} (F:FnOk P w K mg base CX k f fd ps sp)
 (h:∀vs H Q E,sp' vs H Q E→sp vs H Q E):FnOk P w K mg base CX k f fd ps sp':=
 ⟨fun vs H Q E q=>F.len vs H Q E (h _ _ _ _ q),fun A outer s H args us vs Q E hr he hb hv hs=>F.run A outer s H args us vs Q E hr he hb hv (h _ _ _ _ hs)⟩
section
variable {X:Cx} {pins:List (Addr×Obj)} {σ:St} {H:Hp} {s s':Shared}
theorem Inv.env0 (I:Inv X pins σ H s):Gf X.prog X.w X.K X.mg X.base X.A X.stack s H:=
 ⟨I.ok.frames,I.ok.mod,I.bs,BP I.ok.bsz I.sz,I.stack,I.stkFree,I.hok,I.bare⟩
theorem Inv.after {Q:VK} {u:Value} (I:Inv X pins σ H s) (h:CE X.stack X.prog X.w H s Q u s'):EP X pins σ Q u s':=by
 obtain ⟨v,H',os,bare,un,hok,r,q⟩:=h
 obtain ⟨hh,g,d,t,os'⟩:=s'
 obtain rfl:os'=s.os:=os
 exact ⟨v,H',I.call (h':=hh) (g':=g) (d':=d) (t':=t) (ch:=[]) un hok bare (fun b z=>absurd z (by simp)),r,q⟩
end
def V4 (sp:Sp) (dvs:List V) (E:XK) (t:TA):TE:=fun σ H Q=>t σ H fun vs H1=>sp (vs++dvs) H1 Q E
def Binds (K:PySem.W.Frag) (fd:FuncData) (ps:List Str) (ds:List Value):Prop:=
 ∀(s:Shared) (us:List Value),K.In s.heap→(us++ds).length=ps.length→BindsTo s fd ⟨us,[]⟩ (ps.zip (us++ds))
theorem Binds.all {K:PySem.W.Frag} {fd:FuncData} {ps:List Str} (h:∀us:List Value,us.length=ps.length→bindArgs fd ⟨us,[]⟩=pure (ps.zip us)):Binds K fd ps []:=fun s us _ hl=>by
 rw [El] at hl ⊢
 exact .of_eq (h us hl)
def GO (CX:EL) (X:Cx) (E:XK):Prop:=∀(pins:List (Addr×Obj)) (σ:St) (H:Hp) (s:Shared) (e:Value) (s':Shared),Inv X pins σ H s→CX X.stack H s E e s'→X.xe e s'
section
variable {X:Cx} {CX:EL} {k:Nat} {f C:Addr} {fd:FuncData} {ps:List Str} {sp:Sp} {dvs:List V} {ds:List Value} {E:XK} {x m:Str} {p pos apos:Pos} {e o:Expr} {es:List Expr} {ta:TE} {t:TA}
theorem V5 {pins:List (Addr×Obj)} {σ:St} {H:Hp} {s:Shared} {Q:VK} {us:List Value} {vs:List V} (F:FnOk X.prog X.w X.K X.mg X.base CX k f fd ps sp) (hr:Room k X.A) (hb:Binds X.K fd ps ds) (hd:Vals dvs ds) (hx:GO CX X E)
 (I:Inv X pins σ H s) (r:Vals vs us) (h:sp (vs++dvs) H Q E):wpAny (model X.prog X.w) X.A (call (.ref f) us) (EP X pins σ Q) X.xe s:=by
 have r2:Vals (vs++dvs) (us++ds):=r.append hd
 have hl:(us++ds).length=ps.length:=by rw [←r2.length];exact F.len _ _ _ _ h
 refine wpAny_call (codeAny_mono (F.run X.A X.stack s H ⟨us,[]⟩ (us++ds) (vs++dvs) Q E hr I.env0 (hb s us I.kIn hl) r2 h) fun r s' hq=>?_)
 cases r with
 |error e=>exact hx pins σ H s e s' I hq
 |ok fl=>
  cases fl with
  |ret u=>exact I.after hq
  |next=>exact False.elim hq
  |brk=>exact False.elim hq
  |cont=>exact False.elim hq
theorem V6 (F:FnOk X.prog X.w X.K X.mg X.base CX k f fd ps sp) (hr:Room k X.A) (hg:Gl X x) (hm:X.mg x=some (.ref f)) (hk:PySem.W.keepIn X.K (.ref f)=true) (hb:Binds X.K fd ps ds) (hd:Vals dvs ds) (hx:GO CX X E)
 (ha:PA X (e::es) t) (hdb:(x==("__debug__":Str))=false:=by decide) (he:starEach (e::es) X.env=(false,eval e X.env)::starEach es X.env:=by rfl) (hpl:(backTo pos (starEach es X.env)).any (·.1)=false:=by rfl):
 PE X (.Call (.Name x p) (e::es) [] pos) (V4 sp dvs E t):=by
 intro pins s σ H Q I h
 refine wpAny_Call_Name_kw (Ij I hg hm ?_ hdb)
 refine PySem.W.callWith_K (h₀:=X.base) I.ok.mod.kin hk (AA (ha pos pins s σ H _ I h) ?_) he hpl
 rintro us s1 ⟨vs,H1,I1,r,q⟩
 refine ⟨I1.kIn,?_⟩
 exact V5 F hr hb hd hx I1 r q
end
section
variable {X:Cx} {CX:EL} {k:Nat} {f C:Addr} {fd:FuncData} {ps ks:List Str} {sp:Sp} {E:XK} {x m:Str} {p pos apos kpos:Pos} {e o:Expr} {es:List Expr} {kws:List Keyword} {te ta:TE} {t tk:TA} {nm:Option Str}
variable {g:List Value→List Value→List Value} {gV:List V→List V→List V}
end
structure Bo (N P:List Str) (sc:Scope):Prop where
 kind:sc.kind=.function
 co:sc.isCoroutine=false
 gen:sc.isGenerator=false
 nd:N.Nodup
 pre:N.take P.length=P
 par:∀x∈P,sc.names.lookup x=some .local∨sc.names.lookup x=some .cell
 nofree:∀y∈sc.names,y.2≠.free
theorem P3 {kindOf:Str→Option NameKind} {x:Str}:∀{binds:List (Str×Value)} {m:Str→Option Value},(∀v,(x,v)∉binds)→bindL kindOf binds m x=m x
 |[],_,_=>rfl
 |(n,v)::r,m,h=>by
  unfold bindL
  rw [P3 fun w hw=>h w (Bn _ hw)]
  split
  ·have:x≠n:=by rintro rfl;exact h v Bf
   simp [this]
  ·rfl
theorem P4 {kindOf:Str→Option NameKind} {x:Str}:∀{binds:List (Str×Value)} {m:Str→Option Value},(∀v,(x,v)∉binds)→bindC kindOf binds m x=m x
 |[],_,_=>rfl
 |(n,v)::r,m,h=>by
  unfold bindC
  rw [P4 fun w hw=>h w (Bn _ hw)]
  split
  ·rfl
  ·have:x≠n:=by rintro rfl;exact h v Bf
   simp [this]
theorem Nd {kindOf:Str→Option NameKind} {x:Str} {v:Value}:∀{P:List Str} {vs:List Value} {i:Nat} {m:Str→Option Value},P.Nodup→P[i]?=some x→vs[i]?=some v→kindOf x=some .local→
 bindL kindOf (P.zip vs) m x=some v
 |[],_,_,_,_,h,_,_=>by simp at h
 |_::_,[],_,_,_,_,h,_=>by simp at h
 |p::P,w::vs,0,m,nd,h1,h2,hk=>by
  simp at h1 h2;subst h1;subst h2
  show bindL kindOf ((p,w)::P.zip vs) m p=_
  unfold bindL
  rw [P3 fun v hv=>(qbQ.mp nd).1 (Jr hv).1,if_pos hk]
  simp
 |p::P,w::vs,i+1,m,nd,h1,h2,hk=>by
  show bindL kindOf ((p,w)::P.zip vs) m x=_
  unfold bindL
  exact Nd (i:=i) (qbQ.mp nd).2 (by simpa using h1) (by simpa using h2) hk
theorem Nf {kindOf:Str→Option NameKind} {x:Str} {v:Value}:∀{P:List Str} {vs:List Value} {i:Nat} {m:Str→Option Value},P.Nodup→P[i]?=some x→vs[i]?=some v→kindOf x≠some .local→
 bindC kindOf (P.zip vs) m x=some v
 |[],_,_,_,_,h,_,_=>by simp at h
 |_::_,[],_,_,_,_,h,_=>by simp at h
 |p::P,w::vs,0,m,nd,h1,h2,hk=>by
  simp at h1 h2;subst h1;subst h2
  show bindC kindOf ((p,w)::P.zip vs) m p=_
  unfold bindC
  rw [P4 fun v hv=>(qbQ.mp nd).1 (Jr hv).1,if_neg hk]
  simp
 |p::P,w::vs,i+1,m,nd,h1,h2,hk=>by
  show bindC kindOf ((p,w)::P.zip vs) m x=_
  unfold bindC
  exact Nf (i:=i) (qbQ.mp nd).2 (by simpa using h1) (by simpa using h2) hk
def start (N:List Str) (vs:List V):St:=vs.map some++List.replicate (N.length - vs.length) none
def AZ (CX:EL) (P:Program) (w:World) (K:PySem.W.Frag) (mg:Str→Option Value) (base:Heap) (N:List Str) (qual:Str) (scope:Scope) (f:Addr) (cd:Value) (A:Around) (outer:List Env) (s:Shared) (H:Hp) (E:XK):Cx where
 prog:=P
 w:=w
 K:=K
 mg:=mg
 base:=base
 A:=A.deeper (envOfC qual scope s.heap.objs.size f cd)
 N:=N
 s₀:=s
 H₀:=H
 env:=envOfC qual scope s.heap.objs.size f cd
 outer:=outer
 stack:=envOfC qual scope s.heap.objs.size f cd::outer
 ex:=[]
 calm:=true
 fn:=fun _=>true
 pn:=[]
 xe:=fun e s'=>wpAny (model P w) (A.deeper (envOfC qual scope s.heap.objs.size f cd)) (leaving (envOfC qual scope s.heap.objs.size f cd) e) (fun _ s''=>CX outer H s E e s'') (fun e' s''=>CX outer H s E e' s'') s'
theorem KY {sc:Scope} {n:Nat} {x:Str} (h:sc.names.lookup x=some .cell):∃c,(cellsFrom n sc.names []).lookup x=some c:=by
 have q:=PySem.W.cellsFrom_some sc.names n [] (.inl h)
 exact qbY.mp q
theorem P5 {CX:EL} {P:Program} {w:World} {K:PySem.W.Frag} {mg:Str→Option Value} {base:Heap} {N ps:List Str} {qual:Str} {scope:Scope} {f:Addr} {cd:Value} {A:Around} {outer:List Env} {s s1:Shared} {H:Hp} {E:XK} {us:List Value} {vs:List V}
 (S:Bo N ps scope) (hd:A.handled=none) (e0:Gf P w K mg base A outer s H) (hl:vs.length=ps.length) (r:Vals vs us)
 (x:InCallC s s.heap.objs.size (bindL (envOfC qual scope s.heap.objs.size f cd).kindOf (ps.zip us) fun _=>none) (cellsFrom (s.heap.objs.size+1) scope.names []) (bindC (envOfC qual scope s.heap.objs.size f cd).kindOf (ps.zip us) fun _=>none) s1):
 Inv (AZ CX P w K mg base N qual scope f cd A outer s H E) [] (start N vs) H s1:=by
 have hpl:ps.length≤N.length:=by have:=congrArg List.length S.pre;rw [Kz] at this;omega
 obtain ⟨h1,tk,rfl,hk⟩:=x.done
 have noA:∀b:Addr,b∉(AZ CX P w K mg base N qual scope f cd A outer s H E).ex:=fun b z=>absurd (show b∈([]:List Addr) from z) (by simp)
 refine ⟨⟨e0.mod,S.kind,rfl,rfl,AG _,fun y z c h1 h2=>?_,fun y hy=>?_,fun y c _ h=>?_,fun _=>hd,Around.frames_deeper e0.frames,.inr ⟨rfl,rfl⟩,fun b z=>absurd z (noA b),e0.bs,e0.bsz,fun b _ _=>noA b,fun b z=>absurd z (noA b),e0.funs,e0.frf⟩,
  rfl,e0.bare,Un.kept hk,⟨_,x.toInCall.ns,fun i y v h1 h2 h3=>?_⟩,fun y c h=>⟨_,x.cell y c h⟩,e0.hok.fresh (AG _),fun y c h=>?_,fun p hp=>absurd (show p∈([]:List (Addr×Obj)) from hp) (by simp),e0.hok.kept hk,?_⟩
 ·exact name_of_addr x.apart (PySem.mem_of_lookup h1) (PySem.mem_of_lookup h2)
 ·have hy:scope.names.lookup y=some .cell∨scope.names.lookup y=some .free:=hy
  rcases hy with hy |hy
  ·exact KY hy
  ·exact absurd rfl (S.nofree _ (PySem.mem_of_lookup hy))
 ·exact Gc (x.above y c (PySem.mem_of_lookup h))
 ·have hi:i<vs.length:=by
   unfold start at h2
   by_cases hi:i<vs.length
   ·exact hi
   ·rw [Jj (by simpa using hi)] at h2
    rw [MP] at h2
    split at h2<;>cases h2
  have ha:vs[i]?=some v:=by
   unfold start at h2
   rw [F6 (by simpa using hi),CP] at h2
   cases e:vs[i]? with
   |none=>rw [e] at h2;cases h2
   |some a=>rw [e] at h2;cases h2;rfl
  obtain ⟨u,hu,rv⟩:=r.get ha
  have hp:ps[i]?=some y:=by
   rw [←S.pre,List.getElem?_take_of_lt (by omega)];exact h1
  have ndP:ps.Nodup:=by rw [←S.pre];exact S.nd.sublist (List.take_sublist _ _)
  refine ⟨u,rv,?_⟩
  rcases S.par y (GD hp) with k |k
  ·exact .inl ⟨k,Nd ndP hp hu k⟩
  ·obtain ⟨c,e⟩:=KY (n:=s.heap.objs.size+1) k
   refine .inr ⟨.inl k,c,e,?_⟩
   have q:=x.cell y c e
   rw [Nf ndP hp hu (by show scope.names.lookup y≠_;rw [k];decide)] at q
   exact q
 ·exact e0.hok.fresh (Gc (x.above y c (PySem.mem_of_lookup h)))
 ·unfold start
  show _=N.length
  rw [EJ,BJ,List.length_replicate]
  omega
theorem P6 {CX:EL} {P:Program} {w:World} {K:PySem.W.Frag} {mg:Str→Option Value} {base:Heap} {k:Nat} {f:Addr} {name qual:Str} {params:Arguments} {body:List Stmt} {scope:Scope} {dV kV doc pm cdv ct oc:Value} {an od:Option Addr}
 {osl:Array (Option Value)} {N ps:List Str} {sp:Sp} (lk:K.lookup f=some ⟨oc,od,.func (PySem.W.fnOf name qual params body scope dV kV doc pm an cdv ct),osl⟩) (hcd:PySem.W.codeIn K cdv qual=true) (S:Bo N ps scope)
 (len:∀vs H Q E,sp vs H Q E→vs.length=ps.length)
 (hbody:∀(A:Around) (outer:List Env) (s:Shared) (H:Hp) (vs:List V) (Q:VK) (E:XK),Room k (A.deeper (envOfC qual scope s.heap.objs.size f cdv))→sp vs H Q E→
  ∃t,DU (AZ CX P w K mg base N qual scope f cdv A outer s H E) body t∧t {nx:=fun _ H'=>Q .non H',rt:=Q} (start N vs) H):
 FnOk P w K mg base CX (k+1) f (PySem.W.fnOf name qual params body scope dV kV doc pm an cdv ct) ps sp:=by
 refine ⟨len,fun A outer s H args us vs Q E hr e0 hb r hsp=>?_⟩
 have hl:=len _ _ _ _ hsp
 have KX:K.In s.heap:=e0.mod.kin.keeps fun b o e=>(e0.bs b o e).1
 have lim:s.heap.NoLimit:=e0.mod.nolimit.keeps fun b o e=>(e0.bs b o e).1
 have hkind:∀y∈ps.zip us,scope.names.lookup y.1=some .local∨(scope.names.lookup y.1=some .cell∧((cellsFrom (s.heap.objs.size+1) scope.names []).lookup y.1).isSome=true):=fun z81_ hy=>by
  obtain ⟨n,v⟩:=z81_
  rcases S.par n (Jr hy).1 with q |q
  ·exact .inl q
  ·exact .inr ⟨q,PySem.W.cellsFrom_some _ _ _ (.inl q)⟩
 refine codeAny_call_function hr.depth (KX _ _ lk) rfl S.co S.gen rfl (PySem.W.codeRec_of KX hcd) (hb _ _ _ _ ?_)
 refine wpAny_newFunctionEnv_cells S.kind hkind fun env he s1 x=>?_
 subst he
 refine ⟨lim.keeps x.toInCall.keep,codeAny_func ?_⟩
 obtain ⟨t,ht,hq⟩:=hbody A outer s H vs Q E (hr.deeper _) hsp
 have I:Inv (AZ CX P w K mg base N qual scope f cdv A outer s H E) [] (start N vs) H s1:=P5 S hr.hd e0 hl r x
 refine wpAny_mono (ht [] s1 (start N vs) H _ I hq) (fun fl s' hs=>?_) fun e s' hs=>hs
 have fin:∀{σ':St} {H':Hp} {v:V} {u:Value},Inv (AZ CX P w K mg base N qual scope f cdv A outer s H E) [] σ' H' s'→RelV v u→Q v H'→CE outer P w H s Q u s':=
  fun {σ' H' v u} J rv q=>⟨v,H',J.os,J.bare,J.base,J.hok,rv,q⟩
 cases fl with
 |ret u=>
  obtain ⟨v,σ',H',J,rv,q⟩:=hs
  exact fin J rv q
 |next=>
  obtain ⟨σ',H',J,q⟩:=hs
  exact fin (v:=V.non) (u:=Value.none) J rfl q
 |brk=>
  obtain ⟨_,_,_,q⟩:=hs
  exact False.elim q
 |cont=>
  obtain ⟨_,_,_,q⟩:=hs
  exact False.elim q
section
variable {X:Cx} {x:Str} {p pos:Pos} {e:Expr} {es:List Expr} {t:TA} {id T:String} {r:List V→Hp→VK→Prop}
def P7 (r:List V→Hp→VK→Prop) (t:TA):TE:=fun σ H Q=>t σ H fun vs H1=>r vs H1 Q
theorem V7 (hc:DD X (.builtin id) r) (hg:Gl X x) (hm:X.mg x=none) (hv:bootBuiltins x=some (.builtin id)) (ha:PA X (e::es) t) (hn:x≠"__name__":=by decide) (hdb:(x==("__debug__":Str))=false:=by decide)
 (he:starEach (e::es) X.env=(false,eval e X.env)::starEach es X.env:=by rfl) (hpl:(backTo pos (starEach es X.env)).any (·.1)=false:=by rfl):PE X (.Call (.Name x p) (e::es) [] pos) (P7 r t):=by
 intro pins s σ H Q I h
 refine wpAny_Call_Name_kw (GN I hg hm hv ?_ hn hdb)
 exact PyProof.Rows.callWith_builtin1 (AA (ha pos pins s σ H _ I h) fun us s1 z82_=>by obtain ⟨vs,H1,I1,r1,q1⟩:=z82_;exact (hc pins s1 σ H1 vs us Q I1 r1 q1)) he hpl
theorem Ng (hc:DD X (.type T) r) (hg:Gl X x) (hm:X.mg x=none) (hv:bootBuiltins x=some (.type T)) (ha:PA X (e::es) t) (hn:x≠"__name__":=by decide) (hdb:(x==("__debug__":Str))=false:=by decide)
 (he:starEach (e::es) X.env=(false,eval e X.env)::starEach es X.env:=by rfl) (hpl:(backTo pos (starEach es X.env)).any (·.1)=false:=by rfl):PE X (.Call (.Name x p) (e::es) [] pos) (P7 r t):=by
 intro pins s σ H Q I h
 refine wpAny_Call_Name_kw (GN I hg hm hv ?_ hn hdb)
 exact PyProof.Rows.callWith_type1 (AA (ha pos pins s σ H _ I h) fun us s1 z83_=>by obtain ⟨vs,H1,I1,r1,q1⟩:=z83_;exact (hc pins s1 σ H1 vs us Q I1 r1 q1)) he hpl
end
end L2
namespace HT
open PySem PyProof.Rows
def lexLt:List Int→List Int→Bool
 |[],[]=>false
 |[],_::_=>true
 |_::_,[]=>false
 |x::xs,y::ys=>if x=y then lexLt xs ys else decide (x<y)
theorem lexLt_cons (x y:Int) (xs ys:List Int):lexLt (x::xs) (y::ys)=if x=y then lexLt xs ys else decide (x<y):=rfl
theorem V8:lexLt [] []=false:=rfl
theorem V9 (y:Int) (ys:List Int):lexLt [] (y::ys)=true:=rfl
theorem Wa (x:Int) (xs:List Int):lexLt (x::xs) []=false:=rfl
theorem Wb (A:Around) (s:Shared) (a:Int) (t:Tok) (c:Int) (u:Tok):∃e,SeqAt.EqAt A s (.int a t) (.int c u) e∧(e=true↔a=c):=
 ⟨(a==c),SeqAt.EqAt.int_int a t c u,by simp⟩
theorem Wc (A:Around) (s:Shared) (a:Int) (t:Tok) (c:Int) (u:Tok) (prog:Program) (w:World) (E:Value→Shared→Prop) (Q:Value→Shared→Prop) (h:Q (.bool (decide (a<c))) s):
 wpAny (model prog w) A (richCompare .Lt (.int a t) (.int c u)) Q E s:=
 (PyProof.Rows.lt_int h:wpAny (model prog w) A (compareOp .Lt (.int a t) (.int c u)) Q E s)
section
open PySem.SeqAt
open PySem.AutoSeq1 (wpAny_loadPart')
open PySem.MeetsSeq PySem.MeetsSeq2 PySem.MeetsSeq3
theorem Wd (l b:Addr) (items items2:Array Value) (n n2:Nat) (dd dd2:Option Addr) (sl sl2:Array (Option Value)) (ns ms:List Int) (hi:IntsAre items.toList ns) (hj:IntsAre items2.toList ms):
 Meets (Builtin.«tuple.__lt__» ⟨[.ref l,.ref b],[]⟩)
  (fun _ R s=>s.heap.get? l=some {cls:=.type "tuple",dict:=dd,data:=.seq items n,slots:=sl}∧s.heap.get? b=some {cls:=.type "tuple",dict:=dd2,data:=.seq items2 n2,slots:=sl2}∧
   R (.ok (.ret (.bool (lexLt ns ms)))) s):=
 .of_wp fun prog w A R s h=>by
  obtain ⟨hp,g,d,tk,os⟩:=s;obtain ⟨hl,hb,h⟩:=h
  have f2:=AutoSeq1.sub_tuple_tuple
  have z1:items.size=ns.length:=by rw [←hi.length];simp
  have z2:items2.size=ms.length:=by rw [←hj.length];simp
  wp_walk using wpAny_loadPart' hl,wpAny_loadPart' hb,wpAny_forIn_list _ (fun rest b s'=>b.1=none∧s'=⟨hp,g,d,tk,os⟩∧∃(vs ws:List Value) (ns' ms':List Int),rest=vs.zip ws∧
   IntsAre vs ns'∧IntsAre ws ms'∧ns'.length+items2.size=ms'.length+items.size∧R (.ok (.ret (.bool (lexLt ns' ms')))) ⟨hp,g,d,tk,os⟩) _
  case turn=>
   rintro ⟨y,x⟩ rest b s' ⟨hb',rfl,vs,ws,ns',ms',hz,hvi,hwi,hlen,hR⟩
   cases hvi with
   |nil=>rw [List.zip_nil_left] at hz;cases hz
   |cons a t hvi'=>
    cases hwi with
    |nil=>rw [List.zip_nil_right] at hz;cases hz
    |cons c u hwi'=>
     rw [Ky] at hz
     injection hz with hyx hrest
     injection hyx with hy hx
     subst hy hx
     rw [lexLt_cons] at hR
     simp only [GH] at hlen
     obtain ⟨e,he,hiff⟩:=Wb A.in1 ⟨hp,g,d,tk,os⟩ a t c u
     refine wpAny_bind (he prog w _ _ ?_)
     cases e with
     |true=>
      rw [if_pos (hiff.mp rfl)] at hR
      wp_walk
      exact ⟨rfl,rfl,_,_,_,_,hrest,hvi',hwi',by omega,hR⟩
     |false=>
      rw [if_neg (fun q=>absurd (hiff.mpr q) BE)] at hR
      have hri:=Wc A.in1 ⟨hp,g,d,tk,os⟩ a t c u prog w
      wp_walk using hri
      exact ⟨_,rfl,by simpa using hR⟩
  case fin=>
   rintro ⟨b1,b2⟩ s' ⟨hb',rfl,vs,ws,ns',ms',hz,hvi,hwi,hlen,hR⟩
   simp only at hb'
   subst hb'
   have hv:lexLt ns' ms'=decide (items.size<items2.size):=by
    cases hvi with
    |nil=>
     cases hwi with
     |nil=>
      simp only [GK] at hlen
      rw [V8]
      exact (decide_eq_false (by omega)).symm
     |cons c u hw=>
      simp only [GK,GH] at hlen
      rw [V9]
      exact (decide_eq_true (by omega)).symm
    |cons a t hv=>
     cases hwi with
     |nil=>
      simp only [GK,GH] at hlen
      rw [Wa]
      exact (decide_eq_false (by omega)).symm
     |cons c u hw=>
      rw [Ky] at hz
      cases hz
   rw [hv] at hR
   wp_walk
   exact ⟨_,rfl,by simpa [Builtin.Tuple.tupleCompareSizes] using hR⟩
  case h=>
   exact ⟨rfl,rfl,items.toList,items2.toList,ns,ms,rfl,hi,hj,by omega,h⟩
end
section
variable {prog:Program} {w:World} {A:Around} {E:Value→Shared→Prop} {s:Shared}
theorem lt_tupInts {l b:Addr} {items items2:Array Value} {ns ms:List Int} {Q:Value→Shared→Prop} (hl:IsTup s.heap l items) (hb:IsTup s.heap b items2) (hi:IntsAre items.toList ns) (hj:IntsAre items2.toList ms)
 (hu:A.units<cLine) (h:Q (.bool (lexLt ns ms)) s):wpAny (model prog w) A (compareOp .Lt (.ref l) (.ref b)) Q E s:=by
 obtain ⟨⟨cls,dd,data,sl⟩,ho,hc,n,hd⟩:=id hl
 obtain ⟨⟨cls2,dd2,data2,sl2⟩,ho2,hc2,n2,hd2⟩:=id hb
 simp only at hc hd hc2 hd2
 subst hc hd hc2 hd2
 exact richCompare_meets_room (op:=.Lt) ⟨_,ho,rfl⟩ ⟨_,ho2,rfl⟩ PySem.F.slot_tuple_lt PySem.F.entry_tuple_lt (PySem.F.args_tuple_lt_2 _ _) (Wd l b items items2 n n2 dd dd2 sl sl2 ns ms hi hj)
  ⟨ho,ho2,show Value.bool (lexLt ns ms)≠Value.notImplemented∧Q (.bool (lexLt ns ms)) s from ⟨(fun x=>nomatch x),h⟩⟩ hu
theorem cat_tup {t b:Addr} {vs ws:List Value} {Q:Value→Shared→Prop} (ht:IsTup s.heap t vs.toArray) (hb:IsTup s.heap b ws.toArray) (hv:vs≠[])
 (h1:ws=[]→Q (.ref t) s) (h2:ws≠[]→Q (.ref s.heap.objs.size) {s with heap:=s.heap.push {cls:=.type "tuple",data:=.seq (vs++ws).toArray}})
 (hsz:vs.length+ws.length≤sizeLine):wpAny (model prog w) A (binaryOp .Add (.ref t) (.ref b)) Q E s:=by
 obtain ⟨⟨cls,dd,data,sl⟩,ho,hc,n,hd⟩:=id ht
 obtain ⟨⟨cls2,dd2,data2,sl2⟩,ho2,hc2,n2,hd2⟩:=id hb
 simp only at hc hd hc2 hd2
 subst hc hd hc2 hd2
 have e:vs.toArray++ws.toArray=(vs++ws).toArray:=by simp
 by_cases hw:ws=[]
 ·exact concat_meets ⟨_,ho,rfl⟩ ⟨_,ho2,rfl⟩ noFill_tuple_add seq_tuple_add PySem.F.slot_tuple_add PySem.F.entry_tuple_add (PySem.F.args_tuple_add_2 _ _)
   (tuple_addW1 t b vs.toArray ws.toArray n n2 dd dd2 sl sl2 (by simpa using hv) (by simp [hw])) ⟨ho,ho2,h1 hw⟩
 ·refine concat_meets ⟨_,ho,rfl⟩ ⟨_,ho2,rfl⟩ noFill_tuple_add seq_tuple_add PySem.F.slot_tuple_add PySem.F.entry_tuple_add (PySem.F.args_tuple_add_2 _ _)
   (tuple_addW2 t b vs.toArray ws.toArray n n2 dd dd2 sl sl2 (by simpa using hv) (by simpa using hw) (by rw [A7,A7];exact hsz)) ⟨ho,ho2,?_⟩
  rw [e]
  exact h2 hw
def sIx (n d:Nat):Option Int→Nat
 |none=>d
 |some v=>if v<0 then (v+(n:Int)).toNat else min v.toNat n
theorem sIx_none (n d:Nat):sIx n d none=d:=rfl
theorem sIx_nat (n d k:Nat):sIx n d (some (k:Int))=min k n:=by
 show (if (k:Int)<0 then ((k:Int)+(n:Int)).toNat else min (k:Int).toNat n)=min k n
 rw [if_neg (by omega),Jk]
theorem Wf (n d:Nat) (hd:d≤n) (o:Option Int):sIx n d o≤n:=by
 cases o with
 |none=>exact hd
 |some v=>
  show (if v<0 then (v+(n:Int)).toNat else min v.toNat n)≤n
  by_cases hv:v<0
  ·rw [if_pos hv];omega
  ·rw [if_neg hv];exact Nat.min_le_right _ _
theorem P8 (v:Int) (n d:Nat):(if v<0 then max (v+(n:Int)) 0 else min v (n:Int))=((sIx n d (some v):Nat):Int):=by
 show (if v<0 then max (v+(n:Int)) 0 else min v (n:Int))=(((if v<0 then (v+(n:Int)).toNat else min v.toNat n):Nat):Int)
 by_cases hv:v<0
 ·simp only [if_pos hv];omega
 ·simp only [if_neg hv];omega
theorem Wg (lo hi:Option Int) (n:Nat):Builtin.Slice.sliceAdjust lo hi 1 (n:Int)=(((sIx n 0 lo:Nat):Int),((sIx n n hi:Nat):Int)):=by
 have h1:¬((1:Int)<0):=by omega
 unfold Builtin.Slice.sliceAdjust
 simp only [h1,if_false]
 refine Prod.ext ?_ ?_
 ·cases lo with
  |none=>rfl
  |some v=>exact P8 v n 0
 ·cases hi with
  |none=>rfl
  |some v=>exact P8 v n n
theorem Wh (i j:Nat):Builtin.Slice.slicePlaces (i:Int) (j:Int) 1=j - i:=by
 unfold Builtin.Slice.slicePlaces
 have h1:(1:Int)>0:=by omega
 simp only [h1,if_true,Int.ediv_one]
 split<;>omega
theorem P9 {v:Value} {o:Option Int} {Q:Option Int→Shared→Prop} (p:IsPart v o) (h:Q o s):wpAny (model prog w) A (Builtin.Slice.slicePartIndex v) Q E s:=by
 cases p with
 |none=>exact slicePart_none h
 |int i t=>exact slicePart_int h
theorem sliceApplied_gen {sl:Addr} {vl vu:Value} {lo hi:Option Int} {n:Nat} {Q:Int×Int×Nat→Shared→Prop} (hs:s.heap.IsSliceOf sl vl vu .none) (pl:IsPart vl lo) (pu:IsPart vu hi)
 (h:Q (((sIx n 0 lo:Nat):Int),1,sIx n n hi - sIx n 0 lo) s):wpAny (model prog w) A (Builtin.Slice.sliceApplied (.ref sl) (pure (n:Int))) Q E s:=by
 obtain ⟨os,hos,hcs,hds⟩:=id hs
 unfold Builtin.Slice.sliceApplied Builtin.Slice.sliceFields
 refine wpAny_bind (wpAny_bind (wpAny_field hos hds (x:=vl) rfl (wpAny_bind (wpAny_field hos hds (x:=vu) rfl (wpAny_bind (wpAny_field hos hds (x:=.none) rfl (wpAny_pure ?_)))))))
 refine wpAny_bind (slicePart_none ?_)
 show wpAny _ _ (if ((1:Int)==0)=true then _ else _) _ _ s
 rw [if_neg (by decide)]
 refine wpAny_bind (P9 pl (wpAny_bind (P9 pu (wpAny_bind (wpAny_pure ?_)))))
 show wpAny _ _ (match Builtin.Slice.sliceAdjust lo hi 1 (n:Int) with |(lo,hi)=>pure (lo,(1:Int),Builtin.Slice.slicePlaces lo hi 1)) _ _ s
 rw [Wg lo hi n]
 show wpAny _ _ (pure (((sIx n 0 lo:Nat):Int),(1:Int),Builtin.Slice.slicePlaces ((sIx n 0 lo:Nat):Int) ((sIx n n hi:Nat):Int) 1)) _ _ s
 rw [Wh]
 exact wpAny_pure h
theorem Wi (xs:Array Value) (i k:Nat):((List.range k).filterMap fun (m:Nat)=>xs[((i:Int)+(m:Int)*1).toNat]?).toArray=((xs.toList.drop i).take k).toArray:=by
 have e:(fun (m:Nat)=>xs[((i:Int)+(m:Int)*1).toNat]?)=fun m=>xs[i+m]?:=by
  funext m
  have:((i:Int)+(m:Int)*1).toNat=i+m:=by omega
  rw [this]
 rw [e]
 have:=pick_run xs i k
 rw [List.filterMap_map] at this
 have e2:((fun x=>xs[x]?)∘fun x=>i+x)=fun m=>xs[i+m]?:=rfl
 rw [e2] at this
 rw [this]
theorem getItem_tuple_cut {t sl:Addr} {items:Array Value} {vl vu:Value} {lo hi:Option Int} {Q:Value→Shared→Prop} (ht:IsTup s.heap t items) (hs:s.heap.IsSliceOf sl vl vu .none) (pl:IsPart vl lo) (pu:IsPart vu hi)
 (hw:¬(sIx items.size 0 lo=0∧sIx items.size items.size hi=items.size))
 (h:Q (.ref s.heap.objs.size) {s with heap:=s.heap.push {cls:=.type "tuple",data:=.seq ((items.toList.drop (sIx items.size 0 lo)).take (sIx items.size items.size hi - sIx items.size 0 lo)).toArray}})
 (hsz:items.size≤sizeLine):wpAny (model prog w) A (getItem (.ref t) (.ref sl)) Q E s:=by
 have htake:sizeOk (.seq ((items.toList.drop (sIx items.size 0 lo)).take (sIx items.size items.size hi - sIx items.size 0 lo)).toArray):=by
  show ((items.toList.drop (sIx items.size 0 lo)).take (sIx items.size items.size hi - sIx items.size 0 lo)).toArray.size≤sizeLine
  rw [A7,Kz,List.length_drop,Array.length_toList]
  omega
 have hj:sIx items.size items.size hi≤items.size:=Wf _ _ (AG _) hi
 obtain ⟨os,hos,hcs,hds⟩:=id hs
 have hTs:s.TypeIs (.ref sl) "slice":=⟨os,hos,hcs⟩
 unfold getItem
 try with_reducible refine wpAny_holding ?_
 first |refine wpAny_bind (wpAny_pure ?_) |skip
 refine wpAny_bind (wpAny_sequenceKey ht.typeIs (by decide) ?_)
 refine wpAny_bind (wpAny_callSpecial?_slot (name:=Str.ofString "__getitem__") ht.typeIs PyProof.Rows.slot_tuple_getitem
  (wpAny_call_entry PyProof.Rows.slot_tuple_getitem ht.typeIs entry_tuple_getitem ?_ (args_tuple_getitem _ _)))
 show wpAny _ _ (Builtin.Tuple.tupleItemsOf (.ref t) >>=_) _ _ s
 refine wpAny_bind (tupleItemsOf_ ht ?_)
 refine wpAny_bind (wpAny_typeOf hTs ?_)
 rw [if_pos (by decide)]
 refine wpAny_bind (sliceApplied_gen hs pl pu ?_)
 have hno:¬((((sIx items.size 0 lo:Nat):Int)==0&&(1:Int)==1&&(sIx items.size items.size hi - sIx items.size 0 lo)==items.size)=true):=by
  intro q
  rw [Cp,Cp] at q
  have q1:((sIx items.size 0 lo:Nat):Int)=0:=eq_of_beq q.1.1
  have q2:sIx items.size items.size hi - sIx items.size 0 lo=items.size:=eq_of_beq q.2
  exact hw ⟨by omega,by omega⟩
 show wpAny _ _ (if (((sIx items.size 0 lo:Nat):Int)==0&&(1:Int)==1&&(sIx items.size items.size hi - sIx items.size 0 lo)==items.size)=true then _ else _) _ _ s
 rw [if_neg hno,Wi]
 first
  |exact wpAny_bind (m:=Builtin.Tuple.tupleExact _) (wpAny_newObj_type (wpAny_pure ⟨_,rfl,wpAny_pure h⟩) htake)
  |exact wpAny_bind (m:=Builtin.Tuple.tupleExact _) (wpAny_newObj_type (wpAny_bind (wpAny_pure (wpAny_pure ⟨_,rfl,wpAny_pure h⟩))) htake)
  |exact wpAny_bind (wpAny_bind (m:=Builtin.Tuple.tupleExact _) (wpAny_newObj_type (wpAny_pure (wpAny_pure ⟨_,rfl,wpAny_pure h⟩)) htake))
  |exact wpAny_bind (wpAny_bind (m:=Builtin.Tuple.tupleExact _) (wpAny_newObj_type (wpAny_pure ⟨_,rfl,wpAny_pure h⟩) htake))
end
end HT
namespace L2
open PySem PySem.Spec PyProof.Rows
abbrev TO:=St→Hp→(Option Int→Hp→Prop)→Prop
def PO (X:Cx) (e:Option Expr) (t:TO):Prop:=
 ∀(pins:List (Addr×Obj)) (s:Shared) (σ:St) (H:Hp) (Q:Option Int→Hp→Prop),Inv X pins σ H s→t σ H Q→
  wpAny (model X.prog X.w) X.A (evalPart e X.env) (fun u s'=>∃o H',Inv X pins σ H' s'∧IsPart u o∧Q o H') X.xe s
def Wj:TO:=fun _ H Q=>Q none H
def Wk (t:TE):TO:=fun σ H Q=>t σ H fun x H1=>∃i,x=.int i∧Q (some i) H1
theorem Qa {ns:List Int}:∀{us:List Value},Vals (ns.map V.int) us→IntsAre us ns:=by
 induction ns with
 |nil=>intro us r;rw [Ih] at r;cases r;exact .nil
 |cons n ns ih=>
  intro us r
  rw [Bx] at r
  cases r with
  |cons r1 r2=>
   obtain ⟨t,e⟩:=r1
   subst e
   exact .cons n t (ih r2)
section
variable {X:Cx} {e:Expr} {te:TE} {lo hi:Option Expr} {tl th:TO} {pos p2:Pos}
theorem Wl:PO X none Wj:=by
 intro pins s σ H Q I h
 rw [evalPart_none]
 exact wpAny_pure ⟨none,H,I,.none,h⟩
theorem Wm (h:PE X e te):PO X (some e) (Wk te):=by
 intro pins s σ H Q I hw
 rw [evalPart_some]
 refine AA (h pins s σ H _ I hw) fun u s1 z84_=>?_
 obtain ⟨x,H1,I1,r1,q1⟩:=z84_
 obtain ⟨i,rfl,q⟩:=q1
 obtain ⟨t,rfl⟩:=r1
 exact ⟨some i,H1,I1,.int i t,q⟩
def SlR (X:Cx) (r:V→Option Int→Option Int→Hp→VK→Prop):Prop:=
 ∀(pins:List (Addr×Obj)) (s:Shared) (σ:St) (H:Hp) (x:V) (v vl vu:Value) (lo hi:Option Int) (sl:Addr) (Q:VK),Inv X pins σ H s→RelV x v→s.heap.IsSliceOf sl vl vu .none→IsPart vl lo→IsPart vu hi→r x lo hi H Q→
  ∃T id,typeLookup (.type T) "__getitem__"=pure (some (.builtin id))∧s.TypeIs v T∧wpAny (model X.prog X.w) X.A (getItem v (.ref sl)) (EP X pins σ Q) X.xe s
theorem SlR.or {r r':V→Option Int→Option Int→Hp→VK→Prop} (h:SlR X r) (h':SlR X r'):SlR X (fun x lo hi H Q=>r x lo hi H Q∨r' x lo hi H Q):=by
 intro pins s σ H x v vl vu lo hi sl Q I rx hs pl pu q
 rcases q with q |q
 ·exact h pins s σ H x v vl vu lo hi sl Q I rx hs pl pu q
 ·exact h' pins s σ H x v vl vu lo hi sl Q I rx hs pl pu q
def Wn (r:V→Option Int→Option Int→Hp→VK→Prop) (te:TE) (tl th:TO):TE:=fun σ H Q=>te σ H fun x H1=>tl σ H1 fun l H2=>th σ H2 fun u H3=>r x l u H3 Q
theorem Wo {r:V→Option Int→Option Int→Hp→VK→Prop} (hr:SlR X r) (he:PE X e te) (hl:PO X lo tl) (hu:PO X hi th):PE X (.Subscript e (.Slice lo hi none p2) pos) (Wn r te tl th):=by
 intro pins s σ H Q I h
 refine Subscript_ (AA (he pins s σ H _ I h) fun v s1 z85_=>?_)
 obtain ⟨x,H1,I1,r1,q1⟩:=z85_
 refine wpAny_Slice (AA (hl pins s1 σ H1 _ I1 q1) ?_)
 rintro vl s2 ⟨l,H2,I2,pl,q2⟩
 refine AA (hu pins s2 σ H2 _ I2 q2) fun vu s3 z87_=>?_
 obtain ⟨u,H3,I3,pu,q3⟩:=z87_
 rw [evalPart_none]
 refine wpAny_pure ?_
 have I4:Inv X pins σ H3 {s3 with heap:=s3.heap.push {cls:=.type "slice",data:=.fields #[vl,vu,.none]}}:=I3.kept (t':=s3.toks) fun b ob q=>AM _ q
 obtain ⟨T,id,hT,ht,hg⟩:=hr pins {s3 with heap:=s3.heap.push {cls:=.type "slice",data:=.fields #[vl,vu,.none]}} σ H3 x v vl vu l u s3.heap.objs.size Q I4 r1 (Heap.IsSliceOf.new ..) pl pu q3
 show wpAny (model X.prog X.w) X.A (subscriptTail e (.Slice lo hi none p2) v (.ref s3.heap.objs.size)) (EP X pins σ Q) X.xe {s3 with heap:=s3.heap.push {cls:=.type "slice",data:=.fields #[vl,vu,.none]}}
 exact tail_any (ops:=[.ref s3.heap.objs.size,v]) ht hT hg (by with_unfolding_all rfl)
def Im (xs:List V) (lo hi:Option Int):List V:=(xs.drop (HT.sIx xs.length 0 lo)).take (HT.sIx xs.length xs.length hi - HT.sIx xs.length 0 lo)
theorem Wq (xs:List V) (lo hi:Option Int):(Im xs lo hi).length≤xs.length:=by
 unfold Im
 rw [Kz,List.length_drop]
 omega
def Wr (K:PySem.W.Frag):V→Option Int→Option Int→Hp→VK→Prop:=fun x lo hi H Q=>∃a xs,x=.ref a∧SqT K H a xs∧
 ¬(HT.sIx xs.length 0 lo=0∧HT.sIx xs.length xs.length hi=xs.length)∧∀p,H p=none→Q (.ref p) (Av H p (.tup (Im xs lo hi)))
theorem Ws:SlR X (Wr X.K):=by
 intro pins s σ H x v vl vu lo hi sl Q I rx hs pl pu h
 obtain ⟨a,xs,rfl,hx,hw,q⟩:=h
 cases rx
 obtain ⟨its,r,ht,hz⟩:=I.tuple hx
 have hlen:its.toArray.size=xs.length:=by rw [A7];exact r.length.symm
 refine ⟨"tuple",_,PyProof.Rows.slot_tuple_getitem.lookup,ht.typeIs,?_⟩
 refine HT.getItem_tuple_cut ht hs pl pu (by rw [hlen];exact hw) ?_ (by rw [hlen];exact hz)
 rw [hlen]
 refine ⟨.ref s.heap.objs.size,_,I.laid (t':=s.toks) (o:=.tup (Im xs lo hi)) (fun b ob q=>AM _ q) (AG _) ?_,rfl,q _ (I.hok.fresh (AG _))⟩
 exact ⟨BP (Wq xs lo hi) hz,_,(r.drop (HT.sIx xs.length 0 lo)).take (HT.sIx xs.length xs.length hi - HT.sIx xs.length 0 lo),IsTup.new _ _,NoDict.new⟩
def Wt (K:PySem.W.Frag):R2:=fun x y H Q=>∃a b ns ms,x=.ref a∧y=.ref b∧SqT K H a (ns.map V.int)∧SqT K H b (ms.map V.int)∧Q (.bl (HT.lexLt ns ms)) H
theorem Wu (hu:X.A.units<cLine):OpR X (compareOp .Lt) (Wt X.K):=by
 intro pins s σ H x y v u Q I rx ry h
 obtain ⟨a,b,ns,ms,rfl,rfl,ha,hb,q⟩:=h
 cases rx
 cases ry
 obtain ⟨its,r1,p1,_⟩:=I.tuple ha
 obtain ⟨its2,r2,p2,_⟩:=I.tuple hb
 have i1:IntsAre its.toArray.toList ns:=Qa r1
 have i2:IntsAre its2.toArray.toList ms:=Qa r2
 exact HT.lt_tupInts p1 p2 i1 i2 hu ⟨.bl (HT.lexLt ns ms),H,I,rfl,q⟩
def Wv (K:PySem.W.Frag):R2:=fun x y H Q=>∃a b xs ys,x=.ref a∧y=.ref b∧SqT K H a xs∧SqT K H b ys∧xs≠[]∧xs.length+ys.length≤sizeLine∧
 (ys=[]→Q (.ref a) H)∧(ys≠[]→∀p,H p=none→Q (.ref p) (Av H p (.tup (xs++ys))))
theorem Vals.nil_iff {xs:List V} {us:List Value} (r:Vals xs us):us=[]↔xs=[]:=by
 cases r with
 |nil=>simp
 |cons _ _=>simp
theorem op_catT:OpR X (binaryOp .Add) (Wv X.K):=by
 intro pins s σ H x y v u Q I rx ry h
 obtain ⟨a,b,xs,ys,rfl,rfl,ha,hb,hx,hz,q1,q2⟩:=h
 cases rx
 cases ry
 obtain ⟨its,r1,p1,_⟩:=I.tuple ha
 obtain ⟨its2,r2,p2,_⟩:=I.tuple hb
 refine HT.cat_tup p1 p2 (fun z=>hx (r1.nil_iff.mp z)) (fun z=>⟨.ref a,H,I,rfl,q1 (r2.nil_iff.mp z)⟩) (fun z=>?_) (by rw [←r1.length,←r2.length];exact hz)
 refine ⟨.ref s.heap.objs.size,_,I.laid (t':=s.toks) (o:=.tup (xs++ys)) (fun b ob q=>AM _ q) (AG _) ?_,rfl,q2 (fun w=>z (r2.nil_iff.mpr w)) _ (I.hok.fresh (AG _))⟩
 exact ⟨by rw [EJ];exact hz,_,r1.append r2,IsTup.new _ _,NoDict.new⟩
end
def DW (n:Nat) (i:Int):Option Nat:=if 0≤i then (if i<n then some i.toNat else none) else if -(n:Int)≤i then some (i+n).toNat else none
def Di {α:Type} (xs:List α) (i:Int):Option α:=(DW xs.length i).bind fun j=>xs[j]?
theorem Qb {n:Nat} {i:Int} {j:Nat} (h:DW n i=some j):seqIndex? i n=some j∧j<n∧-(n:Int)≤i∧i<n:=by
 unfold DW at h
 by_cases h0:0≤i
 ·rw [if_pos h0] at h
  by_cases h1:i<n
  ·rw [if_pos h1] at h
   have e:i.toNat=j:=Option.some.inj h
   exact ⟨by rw [seqIndex_of h0 h1,e],by omega,by omega,h1⟩
  ·rw [if_neg h1] at h;cases h
 ·rw [if_neg h0] at h
  by_cases h1:-(n:Int)≤i
  ·rw [if_pos h1] at h
   have e:(i+n).toNat=j:=Option.some.inj h
   exact ⟨by rw [seqIndex_neg (by omega) h1,e],by omega,h1,by omega⟩
  ·rw [if_neg h1] at h;cases h
theorem Qc {α:Type} {xs:List α} {i:Int} {v:α} (h:Di xs i=some v):∃j,seqIndex? i xs.length=some j∧xs[j]?=some v∧j<xs.length∧-(xs.length:Int)≤i∧i<xs.length:=by
 unfold Di at h
 cases e:DW xs.length i with
 |none=>rw [e] at h;cases h
 |some j=>
  rw [e] at h
  obtain ⟨h1,h2,h3,h4⟩:=Qb e
  exact ⟨j,h1,h,h2,h3,h4⟩
def Nh (b:Expr):Prop:=∀o i,subscripted b false o i=operate [o,i] (getItem o i)
def IxR (X:Cx) (r:R2):Prop:=
 ∀(value slice:Expr) (pins:List (Addr×Obj)) (s:Shared) (σ:St) (H:Hp) (x y:V) (v u:Value) (Q:VK),Inv X pins σ H s→RelV x v→RelV y u→r x y H Q→
  subscripted slice false v u=operate [v,u] (getItem v u)→wpAny (model X.prog X.w) X.A (subscriptTail value slice v u) (EP X pins σ Q) X.xe s
def KZ (X:Cx) (id:String) (r:V→List V→Hp→VK→Prop):Prop:=
 ∀(pins:List (Addr×Obj)) (s:Shared) (σ:St) (H:Hp) (x:V) (xs:List V) (v:Value) (us:List Value) (Q:VK),Inv X pins σ H s→RelV x v→Vals xs us→r x xs H Q→
  wpAny (model X.prog X.w) X.A (call (.builtin id) (v::us)) (EP X pins σ Q) X.xe s
section
variable {X:Cx} {a b:Expr} {ta tb:TE} {pos:Pos}
theorem IxR.or {r r':R2} (h:IxR X r) (h':IxR X r'):IxR X (fun x y H Q=>r x y H Q∨r' x y H Q):=by
 intro value slice pins s σ H x y v u Q I rx ry q hs
 rcases q with q |q
 ·exact h value slice pins s σ H x y v u Q I rx ry q hs
 ·exact h' value slice pins s σ H x y v u Q I rx ry q hs
theorem Qd {r:R2} (hr:IxR X r) (ha:PE X a ta) (hb:PE X b tb) (hs:Nh b):PE X (.Subscript a b pos) (KR r ta tb):=by
 intro pins s σ H Q I h
 exact Subscript_ (M6 ha hb I h fun v u s2 x y H2 I2 rx ry q=>hr a b pins s2 σ H2 x y v u Q I2 rx ry q (hs _ _))
def Ww (K:PySem.W.Frag):R2:=fun x y H Q=>∃p xs i v,x=.ref p∧y=.int i∧SqL K H p xs∧Di xs i=some v∧Q v H
def Wx (K:PySem.W.Frag):R2:=fun x y H Q=>∃p xs i v,x=.ref p∧y=.int i∧SqT K H p xs∧Di xs i=some v∧Q v H
theorem ix_list:IxR X (Ww X.K):=by
 intro value slice pins s σ H x y v u Q I rx ry h hs
 obtain ⟨p,xs,i,z,rfl,rfl,hq,he,q⟩:=h
 cases rx
 obtain ⟨t,rfl⟩:=ry
 obtain ⟨its,r,pl,hz⟩:=I.list hq
 obtain ⟨j,h1,h2,h3,h4,h5⟩:=Qc he
 obtain ⟨w,ew,rw'⟩:=r.get h2
 have hl:=r.length
 have hn:=Il
 have fin:EP X pins σ Q w s:=⟨z,H,I,rw',q⟩
 by_cases h0:0≤i
 ·have hj:i.toNat=j:=by
   rw [seqIndex_of h0 h5] at h1
   exact Option.some.inj h1
  exact item_listR pl.isList h0 (by omega) (by rw [hj];simpa using ew) fin hs
 ·have hj:(i+(its.toArray.size:Int)).toNat=j:=by
   rw [seqIndex_neg (by omega) h4] at h1
   rw [A7,←hl]
   exact Option.some.inj h1
  exact subscriptTail_builtinR (x:=w) pl.isList.typeIs slot_list_getitem.lookup
   (wpAny_getItem_list_neg (Q:=fun r s'=>r=w∧EP X pins σ Q r s') pl.isList (by omega) (by rw [A7]<;>omega) (by omega) (by rw [hj];simpa using ew) ⟨rfl,fin⟩) hs
theorem ix_tup:IxR X (Wx X.K):=by
 intro value slice pins s σ H x y v u Q I rx ry h hs
 obtain ⟨p,xs,i,z,rfl,rfl,hq,he,q⟩:=h
 cases rx
 obtain ⟨t,rfl⟩:=ry
 obtain ⟨its,r,pl,hz⟩:=I.tuple hq
 obtain ⟨j,h1,h2,h3,h4,h5⟩:=Qc he
 obtain ⟨w,ew,rw'⟩:=r.get h2
 have hl:=r.length
 have hn:=Il
 have fin:EP X pins σ Q w s:=⟨z,H,I,rw',q⟩
 exact subscriptTail_builtinR (x:=w) pl.typeIs slot_tuple_getitem.lookup
  (getItem_tuple (j:=j) (Q:=fun r s'=>r=w∧EP X pins σ Q r s') pl (by omega) (by omega) (by rw [A7,←hl];exact h1) (by simpa using ew) ⟨rfl,fin⟩) hs
theorem Wy (its:List Value) (n j:Nat) (u:Value):Obj.mapSeq (·.setIfInBounds j u) {cls:=.type "list",data:=.seq its.toArray n}={cls:=.type "list",data:=.seq (its.set j u).toArray n}:=by
 simp [Obj.mapSeq]
theorem Inv.lst {pins:List (Addr×Obj)} {σ:St} {H:Hp} {s:Shared} {p:Addr} {xs:List V} (I:Inv X pins σ H s) (h:H p=some (.lst xs)):
 ∃(its:List Value) (n:Nat),Vals xs its∧s.heap.get? p=some {cls:=.type "list",data:=.seq its.toArray n}∧xs.length≤sizeLine:=by
 obtain ⟨z,its,n,r,e⟩:=I.hok p _ h
 exact ⟨its,n,r,e,z⟩
theorem Inv.lstUpd {pins:List (Addr×Obj)} {σ:St} {H:Hp} {s:Shared} {p:Addr} {xs ys:List V} {its its':List Value} {n n':Nat} {f:Obj→Obj} (I:Inv X pins σ H s) (h:H p=some (.lst xs))
 (ho:s.heap.get? p=some {cls:=.type "list",data:=.seq its.toArray n}) (hf:f {cls:=.type "list",data:=.seq its.toArray n}={cls:=.type "list",data:=.seq its'.toArray n'}) (r:Vals ys its') (hz:ys.length≤sizeLine) (t:Nat):
 Inv X pins σ (Av H p (.lst ys)) {s with heap:=s.heap.update p f,toks:=t}:=by
 have e:(s.heap.update p f).get? p=some {cls:=.type "list",data:=.seq its'.toArray n'}:=by
  rw [MU f ho (by rw [hf]<;>rfl),hf]
 refine I.write (x:=p) (e:=p) (by rw [h];trivial) (.inl rfl) (fun b u hb q=>(MQ _ _ (Ne.symm hb)).trans q) ⟨_,e⟩ ?_
 exact ⟨hz,its',n',r,e⟩
def Wz:V→V→V→Hp→(Hp→Prop)→Prop:=fun o i v H Q=>∃p xs k j,o=.ref p∧i=.int k∧H p=some (.lst xs)∧DW xs.length k=some j∧Q (Av H p (.lst (xs.set j v)))
theorem WA:KO X Wz:=by
 intro pins s σ H o i v ov iv u Q I ro ri rv h
 obtain ⟨p,xs,k,j,rfl,rfl,hp,hj,q⟩:=h
 cases ro
 obtain ⟨t,rfl⟩:=ri
 obtain ⟨its,n,r,ho,hz⟩:=I.lst hp
 obtain ⟨h1,h2,h3,h4⟩:=Qb hj
 have hl:=r.length
 have hn:=Il
 have I':Inv X pins σ (Av H p (.lst (xs.set j v))) {s with heap:=s.heap.update p (Obj.mapSeq (·.setIfInBounds j u))}:=
  I.lstUpd hp ho (Wy its n j u) (r.set rv j) (by rw [List.length_set];exact hz) s.toks
 by_cases h0:0≤k
 ·have hk:k.toNat=j:=by
   rw [seqIndex_of h0 h4] at h1
   exact Option.some.inj h1
  exact PySem.W.ki_setAt ho h0 (by omega) (by rw [A7,←hl];exact h4) (by rw [hk];exact ⟨_,I',q⟩)
 ·have hk:(k+(its.toArray.size:Int)).toNat=j:=by
   rw [seqIndex_neg (by omega) h3] at h1
   rw [A7,←hl]
   exact Option.some.inj h1
  exact PySem.W.ki_setBack ho (by omega) (by rw [A7,←hl];exact h3) (by omega) (by rw [hk];exact ⟨_,I',q⟩)
def Eo:V→Bool
 |.non=>true
 |.bl _=>true
 |.int _=>true
 |.str _=>true
 |_=>false
def EN:V→V→Bool
 |.non,.non=>true
 |.bl a,.bl b=>a==b
 |.bl a,.int b=>(if a then 1 else 0)==b
 |.int a,.bl b=>a==(if b then 1 else 0)
 |.int a,.int b=>a==b
 |.str a,.str b=>a==b
 |_,_=>false
theorem WB {A:Around} {s:Shared} {y x:V} {u v:Value} (ry:RelV y u) (rx:RelV x v) (fy:Eo y=true) (fx:Eo x=true):SeqAt.EqAt A s u v (EN y x):=by
 cases y with
 |non=>
  cases ry
  cases x with
  |non=>cases rx;exact SeqAt.EqAt.same _
  |bl b=>cases rx;exact SeqAt.EqAt.none_bool b
  |int b=>obtain ⟨t,rfl⟩:=rx;exact SeqAt.EqAt.none_int b t
  |str b=>obtain ⟨t,rfl⟩:=rx;exact SeqAt.EqAt.none_str b t
  |_=>exact absurd (show false=true from fx) BE
 |bl a=>
  cases ry
  cases x with
  |non=>cases rx;exact SeqAt.EqAt.bool_none a
  |bl b=>cases rx;exact SeqAt.EqAt.bool_bool a b
  |int b=>obtain ⟨t,rfl⟩:=rx;exact SeqAt.EqAt.bool_int a b t
  |str b=>obtain ⟨t,rfl⟩:=rx;exact SeqAt.EqAt.bool_str a b t
  |_=>exact absurd (show false=true from fx) BE
 |int a=>
  obtain ⟨t',rfl⟩:=ry
  cases x with
  |non=>cases rx;exact SeqAt.EqAt.int_none a t'
  |bl b=>cases rx;exact SeqAt.EqAt.int_bool a t' b
  |int b=>obtain ⟨t,rfl⟩:=rx;exact SeqAt.EqAt.int_int a t' b t
  |str b=>obtain ⟨t,rfl⟩:=rx;exact SeqAt.EqAt.int_str a t' b t
  |_=>exact absurd (show false=true from fx) BE
 |str a=>
  obtain ⟨t',rfl⟩:=ry
  cases x with
  |non=>cases rx;exact SeqAt.EqAt.str_none a t'
  |bl b=>cases rx;exact SeqAt.EqAt.str_bool a t' b
  |int b=>obtain ⟨t,rfl⟩:=rx;exact SeqAt.EqAt.str_int a t' b t
  |str b=>obtain ⟨t,rfl⟩:=rx;exact SeqAt.EqAt.str_str a t' b t
  |_=>exact absurd (show false=true from fx) BE
 |_=>exact absurd (show false=true from fy) BE
def Cz (x:V) (u:Value):Bool:=match u with
 |.none=>EN .non x
 |.bool b=>EN (.bl b) x
 |.int i _=>EN (.int i) x
 |.str z _=>EN (.str z) x
 |_=>false
theorem K0 {x y:V} {u:Value} (r:RelV y u) (f:Eo y=true):Cz x u=EN y x:=by
 cases y with
 |non=>cases r;rfl
 |bl b=>cases r;rfl
 |int i=>obtain ⟨t,rfl⟩:=r;rfl
 |str z=>obtain ⟨t,rfl⟩:=r;rfl
 |_=>exact absurd (show false=true from f) BE
theorem JA {x:V}:∀{xs:List V} {us:List Value},Vals xs us→xs.all Eo=true→us.any (Cz x)=xs.any fun y=>EN y x
 |_,_,.nil,_=>rfl
 |y::xs,u::us,.cons r t,f=>by
  rw [Ie,Cp] at f
  rw [Ig,Ig,K0 r f.1,JA t f.2]
theorem GP {A:Around} {s:Shared} {x:V} {v:Value} (rx:RelV x v) (fx:Eo x=true):∀{xs:List V} {us:List Value},Vals xs us→xs.all Eo=true→∀u∈us,SeqAt.EqAt A s u v (Cz x u)
 |_,_,.nil,_=>fun u hu=>by cases hu
 |y::xs,u::us,.cons r t,f=>fun u' hu=>by
  rw [Ie,Cp] at f
  rcases qa5.mp hu with rfl |hu
  ·rw [K0 r f.1];exact WB r rx f.1 fx
  ·exact GP rx fx t f.2 u' hu
def Io (x:V) (xs:List V):Bool:=xs.any fun y=>EN y x
def Ni (K:PySem.W.Frag) (neg:Bool):R2:=fun x y H Q=>∃p xs,y=.ref p∧(SqL K H p xs∨SqT K H p xs)∧Eo x=true∧xs.all Eo=true∧Q (.bl (if neg then !Io x xs else Io x xs)) H
theorem WC:OpR X (compareOp .In) (Ni X.K false):=by
 intro pins s σ H x y v u Q I rx ry h
 obtain ⟨p,xs,rfl,hq,fx,fs,q⟩:=h
 cases ry
 rcases hq with hq |hq
 ·obtain ⟨its,r,pl,hz⟩:=I.list hq
  refine SeqAt.in_listAt (Cz x) pl.isList (fun w hw=>GP rx fx r fs w (by simpa using hw)) ⟨.bl _,H,I,rfl,?_⟩
  rw [show its.toArray.any (Cz x)=its.any (Cz x) by simp,JA r fs]
  exact q
 ·obtain ⟨its,r,pl,hz⟩:=I.tuple hq
  refine SeqAt.in_tupleAt (Cz x) pl (fun w hw=>GP rx fx r fs w (by simpa using hw)) ⟨.bl _,H,I,rfl,?_⟩
  rw [show its.toArray.any (Cz x)=its.any (Cz x) by simp,JA r fs]
  exact q
theorem WD:OpR X (compareOp .NotIn) (Ni X.K true):=by
 intro pins s σ H x y v u Q I rx ry h
 obtain ⟨p,xs,rfl,hq,fx,fs,q⟩:=h
 cases ry
 rcases hq with hq |hq
 ·obtain ⟨its,r,pl,hz⟩:=I.list hq
  refine SeqAt.notIn_listAt (Cz x) pl.isList (fun w hw=>GP rx fx r fs w (by simpa using hw)) ⟨.bl _,H,I,rfl,?_⟩
  rw [show its.toArray.any (Cz x)=its.any (Cz x) by simp,JA r fs]
  exact q
 ·obtain ⟨its,r,pl,hz⟩:=I.tuple hq
  refine SeqAt.notIn_tupleAt (Cz x) pl (fun w hw=>GP rx fx r fs w (by simpa using hw)) ⟨.bl _,H,I,rfl,?_⟩
  rw [show its.toArray.any (Cz x)=its.any (Cz x) by simp,JA r fs]
  exact q
theorem WE:DD X (.builtin "len") (fun xs H Q=>∃p ys,xs=[.ref p]∧(SqL X.K H p ys∨SqT X.K H p ys)∧Q (.int ys.length) H):=by
 intro pins s σ H xs us Q I r h
 obtain ⟨p,ys,rfl,hq,q⟩:=h
 obtain ⟨u,rfl,rx⟩:=FI r
 cases rx
 have hn:=Il
 rcases hq with hq |hq
 ·obtain ⟨its,r',pl,hz⟩:=I.list hq
  have hlen:=r'.length
  exact Calls.call_len_list pl.isList (by simp only [A7]<;>omega) ⟨.int ys.length,H,I.tok _,⟨s.toks+1,by rw [A7,hlen]⟩,q⟩
 ·obtain ⟨its,r',pl,hz⟩:=I.tuple hq
  have hlen:=r'.length
  exact len_tuple pl (by simp only [A7]<;>omega) ⟨.int ys.length,H,I.tok _,⟨s.toks+1,by rw [A7,hlen]⟩,q⟩
theorem WG:DD X (.type "list") (fun xs H Q=>∃p ys,xs=[.ref p]∧(SqL X.K H p ys∨SqT X.K H p ys)∧∀l,H l=none→Q (.ref l) (Av H l (.lst ys))):=by
 intro pins s σ H xs us Q I r h
 obtain ⟨p,ys,rfl,hq,q⟩:=h
 obtain ⟨u,rfl,rx⟩:=FI r
 cases rx
 have fin:∀(its:List Value),Vals ys its→ys.length≤sizeLine→∀(h':Heap) (c':Nat),(∀b o',s.heap.get? b=some o'→h'.get? b=some o')→
  h'.get? s.heap.objs.size=some {cls:=.type "list",dict:=none,data:=.seq its.toArray c',slots:=#[]}→EP X pins σ Q (.ref s.heap.objs.size) {s with heap:=h'}:=fun its r' hz h' c' kp e=>
  ⟨.ref s.heap.objs.size,_,I.laid (t':=s.toks) kp (AG _) (show ObjOk X.prog X.w _ h' _ (.lst ys) from ⟨hz,its,c',r',e⟩),rfl,q _ (I.hok.fresh (AG _))⟩
 rcases hq with hq |hq
 ·obtain ⟨its,r',pl,hz⟩:=I.list hq
  have hlen:=r'.length
  obtain ⟨o,ho,hc,n,hd⟩:=pl.isList
  exact call_list_seq p (.inl rfl) ho hc hd (fun h' c' kp e=>fin its r' hz h' c' kp e) (by simp only [A7]<;>omega)
 ·obtain ⟨its,r',pl,hz⟩:=I.tuple hq
  have hlen:=r'.length
  obtain ⟨o,ho,hc,n,hd⟩:=pl
  exact call_list_seq p (.inr rfl) ho hc hd (fun h' c' kp e=>fin its r' hz h' c' kp e) (by simp only [A7]<;>omega)
theorem WH:DD X (.type "tuple") (fun xs H Q=>∃p ys,xs=[.ref p]∧((SqL X.K H p ys∧∀l,H l=none→Q (.ref l) (Av H l (.tup ys)))∨(SqT X.K H p ys∧Q (.ref p) H))):=by
 intro pins s σ H xs us Q I r h
 obtain ⟨p,ys,rfl,h⟩:=h
 obtain ⟨u,rfl,rx⟩:=FI r
 cases rx
 rcases h with ⟨hq,q⟩ |⟨hq,q⟩
 ·obtain ⟨its,r',pl,hz⟩:=I.list hq
  have hlen:=r'.length
  refine call_tuple_list pl.isList (fun h' kp=>?_) (by simp only [A7]<;>omega)
  have I1:Inv X pins σ H {s with heap:=h'}:=I.kept (t':=s.toks) kp
  have I2:Inv X pins σ (Av H h'.objs.size (.tup ys)) {s with heap:=h'.push {cls:=.type "tuple",data:=.seq its.toArray}}:=
   I1.laid (t':=s.toks) (fun b o e=>AM _ e) (AG _) (show ObjOk X.prog X.w _ _ _ (.tup ys) from ⟨hz,its,r',IsTup.new _ _,NoDict.new⟩)
  exact ⟨.ref h'.objs.size,_,I2,rfl,q _ (I1.hok.fresh (AG _))⟩
 ·obtain ⟨its,r',pl,hz⟩:=I.tuple hq
  exact call_tuple_same pl ⟨.ref p,H,I,rfl,q⟩
def Nj (K:PySem.W.Frag) (T:String) (x:V) (H:Hp):Prop:=match x with
 |.str _=>T="str"
 |.int _=>T="int"
 |.ref p=>(T="list"∧∃xs,SqL K H p xs)∨(T="tuple"∧∃o,K.lookup p=some o∧o.cls=.type "tuple"∧o.dict=none)
 |_=>False
theorem Nk {pins:List (Addr×Obj)} {σ:St} {H:Hp} {s:Shared} {T:String} {x:V} {v:Value} (I:Inv X pins σ H s) (r:RelV x v) (ty:Nj X.K T x H):
 s.TypeIs v T∧∀a,v=.ref a→∃ob,s.heap.get? a=some ob∧ob.dict=none:=by
 cases x with
 |str z=>
  obtain ⟨t,rfl⟩:=r
  cases (show T="str" from ty)
  exact ⟨typeIs_str s z t,fun _ e=>nomatch e⟩
 |int i=>
  obtain ⟨t,rfl⟩:=r
  cases (show T="int" from ty)
  exact ⟨typeIs_int s i t,fun _ e=>nomatch e⟩
 |ref p=>
  cases r
  rcases ty with ⟨rfl,xs,hq⟩ |⟨rfl,o,hk,hc,hd⟩
  ·obtain ⟨its,_,pl,_⟩:=I.list hq
   refine ⟨pl.isList.typeIs,fun a e=>?_⟩
   cases e
   obtain ⟨o,n,e,c,hd,_⟩:=pl
   exact ⟨o,e,hd⟩
  ·refine ⟨⟨o,I.kIn p o hk,hc⟩,fun a e=>?_⟩
   cases e
   exact ⟨o,I.kIn _ o hk,hd⟩
 |_=>exact False.elim ty
def WI (K:PySem.W.Frag) (T:String) (r:V→List V→Hp→VK→Prop) (to:TE):TE:=fun σ H Q=>to σ H fun x H1=>Nj K T x H1∧r x [] H1 Q
def WJ (K:PySem.W.Frag) (T:String) (r:V→List V→Hp→VK→Prop) (to:TE) (t:TA):TE:=fun σ H Q=>to σ H fun x H1=>Nj K T x H1∧t σ H1 fun xs H2=>r x xs H2 Q
variable {o e:Expr} {es:List Expr} {to:TE} {t:TA} {name:Str} {apos cpos:Pos} {T id:String} {r:V→List V→Hp→VK→Prop}
theorem WK (pa:PlainAttrs T) (slot:Slot T name id) (hty:typeOf (.builtin id)=pure (.type "method_descriptor")) (hm:KZ X id r) (ho:PE X o to)
 (hbase:attributeBase o name X.env (eval o X.env)=eval o X.env:=by rfl) (hline:(apos.endLine==cpos.line)=true:=by rfl):PE X (.Call (.Attribute o name apos) [] [] cpos) (WI X.K T r to):=by
 intro pins s σ H Q I h
 refine wpAny_Call_method0_late hbase hline (AA (ho pins s σ H _ I h) fun v s1 z88_=>?_)
 obtain ⟨x,H1,I1,r1,ty,q1⟩:=z88_
 obtain ⟨h1,h2⟩:=Nk I1 r1 ty
 exact ⟨T,id,pa,slot,hty,h1,h2,Calls.callWith_builtin rfl (PySem.evalArgs_none (hm pins s1 σ H1 x [] v [] Q I1 r1 .nil q1))⟩
theorem Qe (pa:PlainAttrs T) (slot:Slot T name id) (hty:typeOf (.builtin id)=pure (.type "method_descriptor")) (hm:KZ X id r) (ho:PE X o to) (ha:PA X (e::es) t)
 (hbase:attributeBase o name X.env (eval o X.env)=eval o X.env:=by rfl)
 (hfew:((backTo cpos (starEach (e::es) X.env)).all (fun x=>!x.1)&&(backToKw cpos (keywordEach [] X.env)).all (fun x=>x.1.isSome)
  &&decide ((e::es).length+([]:List Keyword).length+(if ([]:List Keyword).isEmpty then 0 else 1)<30))=true:=by rfl)
 (hline:(apos.endLine==cpos.line)=true:=by rfl) (hs:starEach (e::es) X.env=(false,eval e X.env)::starEach es X.env:=by rfl) (hplain:(backTo cpos (starEach es X.env)).any (·.1)=false:=by rfl):
 PE X (.Call (.Attribute o name apos) (e::es) [] cpos) (WJ X.K T r to t):=by
 intro pins s σ H Q I h
 refine wpAny_Call_method_late hbase hfew hline rfl (AA (ho pins s σ H _ I h) fun v s1 z89_=>?_)
 obtain ⟨x,H1,I1,r1,ty,q1⟩:=z89_
 obtain ⟨h1,h2⟩:=Nk I1 r1 ty
 refine ⟨T,id,pa,slot,hty,h1,h2,?_⟩
 have hA:=ha cpos pins s1 σ H1 _ I1 q1
 rw [hs] at hA ⊢
 refine Calls.callWith_builtin (by show (false||(backTo cpos (starEach es X.env)).any (·.1))=false;rw [hplain]<;>rfl) (Calls.evalArgs_plain ?_)
 exact AA hA fun us s2 z90_=>by obtain ⟨vs,H2,I2,r2,q2⟩:=z90_;exact (hm pins s2 σ H2 x vs v us Q I2 r1 r2 q2)
end
def Nl (X:Cx) (id:String) (r:V→List V→Hp→VK→Prop):Prop:=
 ∀(pins:List (Addr×Obj)) (s:Shared) (σ:St) (H:Hp) (x:V) (xs:List V) (v:Value) (us:List Value) (Q:VK),Inv X pins σ H s→RelV x v→Vals xs us→r x xs H Q→
  wpAny (model X.prog X.w) X.A (call (.builtin id) (v::us)) (EP X pins σ Q) X.xe s
theorem Vals.one {x:V} {us:List Value} (h:Vals [x] us):∃u,us=[u]∧RelV x u:=by
 cases h with
 |cons r t=>cases t;exact ⟨_,rfl,r⟩
theorem Vals.zero:∀{us:List Value},Vals [] us→us=[]
 |_,.nil=>rfl
theorem Vals.dropLast {xs:List V} {us:List Value} (h:Vals xs us):Vals xs.dropLast us.dropLast:=by
 induction h with
 |nil=>exact .nil
 |cons r t ih=>
  cases t with
  |nil=>exact .nil
  |cons q t'=>exact .cons r ih
theorem Vals.reverse {xs:List V} {us:List Value} (h:Vals xs us):Vals xs.reverse us.reverse:=by
 induction h with
 |nil=>exact .nil
 |cons r t ih=>rw [Jl,Jl];exact Vals.append ih (.cons r .nil)
theorem Vals.rep {xs:List V} {us:List Value} (h:Vals xs us):∀k:Nat,Vals (List.replicate k xs).flatten (List.replicate k us).flatten
 |0=>.nil
 |k+1=>by
  rw [GF,GF,H0,H0]
  exact Vals.append h (Vals.rep h k)
theorem WL {α:Type} (l:List α):l.eraseIdx (l.length - 1)=l.dropLast:=by
 induction l with
 |nil=>rfl
 |cons a r ih=>
  cases r with
  |nil=>rfl
  |cons b r=>
   have e:(a::b::r).length - 1=((b::r).length - 1)+1:=by
    have h1:(a::b::r).length=r.length+2:=rfl
    have h2:(b::r).length=r.length+1:=rfl
    omega
   rw [e,List.eraseIdx_cons_succ,ih]
   all_goals rfl
theorem K1 (its:List Value):∀(k:Nat) (acc:List Value),
 List.foldl (fun x1 x2=>x1++x2) acc.toArray (List.replicate k its.toArray)=(acc++(List.replicate k its).flatten).toArray
 |0,acc=>by simp
 |k+1,acc=>by
  have e:acc.toArray++its.toArray=(acc++its).toArray:=by simp
  have e2:(acc++its)++(List.replicate k its).flatten=acc++(List.replicate (k+1) its).flatten:=by
   rw [GF,H0,Jm]
  rw [←e2,←K1 its k (acc++its),←e,GF,Js]
section
variable {X:Cx} {pins:List (Addr×Obj)} {σ:St} {H:Hp} {s:Shared} {l b:Addr} {xs ys zs:List V}
theorem Inv.lset {its its':List Value} {n:Nat} {f:Array Value→Array Value} {t':Nat} (I:Inv X pins σ H s) (hH:H l=some (.lst xs))
 (e:s.heap.get? l=some {cls:=.type "list",data:=.seq its.toArray n}) (hf:f its.toArray=its'.toArray) (hv:Vals ys its') (hz:ys.length≤sizeLine):
 Inv X pins σ (Av H l (.lst ys)) {s with heap:=s.heap.update l (Obj.mapSeq f),toks:=t'}:=by
 have q:=PySem.IsL.update e f
 rw [hf] at q
 refine I.write (x:=l) (e:=l) (by rw [hH];exact trivial) (.inl rfl) (fun b' u hb hu=>(MQ s.heap (Obj.mapSeq f) (Ne.symm hb)).trans hu) ⟨_,q⟩ ?_
 exact ⟨hz,its',_,hv,q⟩
theorem Inv.lnew {its:List Value} {t':Nat} (I:Inv X pins σ H s) (hv:Vals ys its) (hz:ys.length≤sizeLine):
 Inv X pins σ (Av H s.heap.objs.size (.lst ys)) {s with heap:=s.heap.push {cls:=.type "list",data:=.seq its.toArray},toks:=t'}:=
 I.laid (fun _ _ q=>AM _ q) (AG _) ⟨hz,its,0,hv,BD _ rfl⟩
theorem Inv.fresh (I:Inv X pins σ H s):H s.heap.objs.size=none:=I.hok.fresh (AG _)
theorem Inv.lstM (I:Inv X pins σ H s) (hH:H l=some (.lst xs)):xs.length≤sizeLine∧∃(its:List Value) (n:Nat),Vals xs its∧xs.length=its.length∧s.heap.get? l=some {cls:=.type "list",data:=.seq its.toArray n}:=by
 obtain ⟨z,its,n,r,e⟩:=I.hok l _ hH
 exact ⟨z,its,n,r,r.length,e⟩
theorem Qf {n:Nat} (h:n≤sizeLine):Builtin.List.listTooLong n=false:=by
 unfold Builtin.List.listTooLong
 exact decide_eq_false (by omega)
end
section
variable {X:Cx}
def WM:V→List V→Hp→VK→Prop:=fun x vs H Q=>∃l xs y,x=.ref l∧vs=[y]∧H l=some (.lst xs)∧xs.length<sizeLine∧Q .non (Av H l (.lst (xs++[y])))
theorem WN:Nl X "list.append" WM:=by
 intro pins s σ H x vs v us Q I rx rv h
 obtain ⟨l,xs,y,rfl,rfl,hH,hz,q⟩:=h
 cases rx
 obtain ⟨u,rfl,ru⟩:=rv.one
 obtain ⟨z,its,n,r,hl,e⟩:=I.lstM hH
 refine call_meets F.slot_list_append ⟨_,e,rfl⟩ F.entry_list_append (F.args_list_append_2 _ _) (PySem.list_append l its.toArray n u (by rw [A7];omega)) ⟨e,?_⟩
 refine ⟨.non,_,I.lset (its':=its++[u]) hH e (by simp) (r.append (.cons ru .nil)) ?_,rfl,q⟩
 rw [EJ,List.length_singleton]
 omega
def WO:V→List V→Hp→VK→Prop:=fun x vs H Q=>∃l b xs zs,x=.ref l∧vs=[.ref b]∧H l=some (.lst xs)∧H b=some (.lst zs)∧xs.length+zs.length≤sizeLine∧Q .non (Av H l (.lst (xs++zs)))
theorem WQ:Nl X "list.extend" WO:=by
 intro pins s σ H x vs v us Q I rx rv h
 obtain ⟨l,b,xs,zs,rfl,rfl,hH,hB,hz,q⟩:=h
 cases rx
 obtain ⟨u,rfl,ru⟩:=rv.one
 cases ru
 obtain ⟨z,its,n,r,hl,e⟩:=I.lstM hH
 obtain ⟨z2,its2,n2,r2,hl2,e2⟩:=I.lstM hB
 have hsz:its.toArray.size+its2.toArray.size≤sizeLine:=by rw [A7,A7];omega
 have hlong:¬(!its.toArray.isEmpty&&Builtin.List.listTooLong (its.toArray.size+its2.toArray.size))=true:=by
  rw [Qf hsz,Bool.and_false]
  exact BE
 refine call_meets F.slot_list_extend ⟨_,e,rfl⟩ F.entry_list_extend (F.args_list_extend_2 _ _)
  (AutoSeq1.list_extend_list_list_0 l its.toArray n b its2.toArray n2 hlong (by rw [A7];omega) (by omega)) ⟨e,e2,?_⟩
 refine ⟨.non,_,I.lset (its':=its++its2) hH e (by simp) (r.append r2) ?_,rfl,q⟩
 rw [EJ]
 omega
def WR:V→List V→Hp→VK→Prop:=fun x vs H Q=>∃l xs y,x=.ref l∧vs=[]∧H l=some (.lst xs)∧xs[xs.length - 1]?=some y∧Q y (Av H l (.lst xs.dropLast))
theorem WS:Nl X "list.pop" WR:=by
 intro pins s σ H x vs v us Q I rx rv h
 obtain ⟨l,xs,y,rfl,rfl,hH,hy,q⟩:=h
 cases rx
 have hus:=rv.zero
 subst hus
 obtain ⟨z,its,n,r,hl,e⟩:=I.lstM hH
 obtain ⟨u,hu,ru⟩:=r.get hy
 have hy':its.toArray[its.toArray.size - 1]?=some u:=by
  show its.toArray[its.length - 1]?=some u
  rw [←Array.getElem?_toList,←hl]
  exact hu
 refine call_meets F.slot_list_pop ⟨_,e,rfl⟩ F.entry_list_pop (F.args_list_pop_1 _) (MeetsSeq.list_pop_last l its.toArray n u hy' (by rw [A7];omega)) ⟨e,?_⟩
 refine ⟨y,_,I.lset (its':=its.dropLast) hH e ?_ r.dropLast ?_,ru,q⟩
 ·show its.toArray.eraseIdxIfInBounds (its.toArray.size - 1)=its.dropLast.toArray
  rw [A7,List.eraseIdxIfInBounds_toArray,WL]
 ·rw [List.length_dropLast]
  omega
def WT:R2:=fun x y H Q=>∃l b xs zs,x=.ref l∧y=.ref b∧H l=some (.lst xs)∧H b=some (.lst zs)∧xs.length+zs.length≤sizeLine∧∀p,H p=none→Q (.ref p) (Av H p (.lst (xs++zs)))
theorem op_cat:OpR X (binaryOp .Add) WT:=by
 intro pins s σ H x y v u Q I rx ry h
 obtain ⟨l,b,xs,zs,rfl,rfl,hH,hB,hz,q⟩:=h
 cases rx
 cases ry
 obtain ⟨z,its,n,r,hl,e⟩:=I.lstM hH
 obtain ⟨z2,its2,n2,r2,hl2,e2⟩:=I.lstM hB
 refine PySem.P.add_list e e2 ?_ (by rw [A7,A7];omega)
 have ea:its.toArray++its2.toArray=(its++its2).toArray:=by simp
 rw [ea]
 exact ⟨.ref _,_,I.lnew (t':=s.toks) (r.append r2) (by rw [EJ];omega),rfl,q _ I.fresh⟩
def WU:R2:=fun x y H Q=>∃l k xs,x=.ref l∧y=.int k∧H l=some (.lst xs)∧-(2^63)≤k∧k<2^63∧xs.length*k.toNat≤sizeLine∧
 ∀p,H p=none→Q (.ref p) (Av H p (.lst (List.replicate k.toNat xs).flatten))
theorem K2 {α:Type} (xs:List α) (k:Nat):(List.replicate k xs).flatten.length=k*xs.length:=by
 induction k with
 |zero=>simp
 |succ k ih=>rw [GF,H0,EJ,ih,Nat.succ_mul,Nat.add_comm]
theorem WV:OpR X (binaryOp .Mult) WU:=by
 intro pins s σ H x y v u Q I rx ry h
 obtain ⟨l,k,xs,rfl,rfl,hH,h1,h2,hz,q⟩:=h
 cases rx
 obtain ⟨t,rfl⟩:=ry
 obtain ⟨z,its,n,r,hl,e⟩:=I.lstM hH
 have hlen:its.toArray.size*k.toNat≤sizeLine:=by rw [A7,←hl];exact hz
 have hcap:¬its.toArray.size*k.toNat>(2^63 - 1) / 8:=by
  have:(sizeLine:Nat)≤(2^63 - 1) / 8:=by decide
  omega
 have hfit:¬(!Builtin.List.listFitsIndex k)=true:=by
  rw [fitsIndex_both h1 h2]
  exact BE
 have hlong:¬Builtin.List.listTooLong (its.toArray.size*k.toNat)=true:=by
  rw [Qf hlen]
  exact BE
 have hnew:List.foldl (fun x1 x2=>x1++x2) #[] (List.replicate (if its.toArray.isEmpty=true then 0 else k.toNat) its.toArray)=(List.replicate k.toNat its).flatten.toArray:=by
  have f0:∀m:Nat,List.foldl (fun x1 x2=>x1++x2) #[] (List.replicate m its.toArray)=(List.replicate m its).flatten.toArray:=fun m=>by
   have:=K1 its m []
   rw [Ic] at this
   exact this
  rw [f0]
  cases its with
  |nil=>simp
  |cons a r'=>rw [if_neg (by simp)]
 refine wpAny_binaryOp_repeat_ref (T:="list") (U:="int") (by decide) ⟨_,e,rfl⟩ (fun s'=>typeIs_int s' k t) noFill_list_mul F.fills_int_mul F.slot_int_rmul repeat_list F.slot_int_index.lookup
  (call_meets F.slot_int_rmul (typeIs_int s k t) F.entry_int_rmul (F.args_int_rmul_2 _ _) (int___rmul___int_list k t l its.toArray n)
   ⟨e,rfl,⟨_,e,rfl⟩,call_meets F.slot_list_mul ⟨_,e,rfl⟩ F.entry_list_mul (F.args_list_mul_2 _ _) (AutoListH.list___mul___list_int_3 l its.toArray n k t hfit hcap hlong) ⟨e,?_⟩⟩)
 rw [hnew]
 exact ⟨.ref _,_,I.lnew (t':=s.toks) (r.rep k.toNat) (by rw [K2,Nat.mul_comm];exact hz),rfl,q _ I.fresh⟩
end
section
variable {prog:Program} {w:World} {A:Around} {E:Value→Shared→Prop} {s:Shared}
end
section
variable {X:Cx}
end
end L2
namespace Att
open PySem PySem.W PySem.Calls PyProof.Rows
theorem WW {P:Params} {h:Heap}:∀(ns:List Int) (vs:List Value),WellAll P h vs (ns.map WData.int)→IntsAre vs ns:=by
 intro ns
 induction ns with
 |nil=>
  intro vs w
  rw [Ih] at w
  cases w
  exact .nil
 |cons n ns ih=>
  intro vs w
  rw [Bx] at w
  cases w with
  |cons a b=>
   cases a
   exact .cons _ _ (ih _ b)
theorem WX {l:OpenLaw} {n:Nat} (hn:l.most=some n) {P:Params} {h:Heap} {args:List WData} {vals:List Value}
 (hpre:l.row.toRowW.claim.pre args=true) (hwl:WellAll P h vals args):
 ∃a vs ns,vals=[Value.ref a]∧args=[WData.list (ns.map WData.int)]∧h.get? a=some {cls:=.type "list",data:=.seq vs.toArray}∧IntsAre vs ns∧ns.length≤n:=by
 have hsh:WShape.hasAll [] args [.list .int]=true:=(pre_splitW hpre).1
 have hc:l.pre.holds [] {args:=args}=true:=(pre_splitW hpre).2
 obtain ⟨d,r,rfl,h1,h2⟩:=hasAllW_cons hsh
 obtain rfl:=hasAllW_nil h2
 obtain ⟨xs,rfl,h3⟩:=hasW_list h1
 obtain ⟨ns,rfl⟩:=items_int h3
 have hlen:ns.length≤n:=by
  unfold OpenLaw.pre at hc
  have h4:(WTm.not (.lt (.lit (.int (n:Int))) (.len (.arg 0)))).holds [] {args:=[.list (ns.map .int)]}=true:=by
   have h4:=(holds_andW hc).1
   rw [hn] at h4
   exact h4
  have h5:=condW_of h4 (w_not (w_lt w_lit (w_len_list (w_arg rfl))))
  rw [BJ] at h5
  refine Jp fun q=>?_
  have q':(n:Int)<((ns.length:Nat):Int):=by omega
  first
   |(rw [decide_eq_true q'] at h5;exact absurd h5 (by decide))
   |(simp at h5;omega)
 cases hwl with
 |cons w1 w2=>
  cases w2
  cases w1 with
  |list ho hall=>exact ⟨_,_,ns,rfl,rfl,ho,WW ns _ hall,hlen⟩
theorem WY (l:OpenLaw) (args:List WData):l.row.toRowW.claim.post args (.bool true) args=true:=
 postW_of (r:=l.row.toRowW) (X:=(true==true))
  (show WShape.has [] (.bool true) .bool=true by first |rfl |decide |simp [WShape.has,WShape.arms,WShape.armsAll])
  (show (WTm.eq .res (.lit (.bool true))).value [] {args:=args,res:=some (.bool true),after:=args}=some (.bool (true==true)) from w_eq_bool (w_res rfl) w_lit) rfl
section
variable {prog:Program} {w:World} {A:Around} {E:Value→Shared→Prop} {s:Shared} {K:Frag}
end
end Att
namespace L2
open PySem PySem.Spec PyProof.Rows
theorem vals_ints:∀{vs:List Value} {ns:List Int},IntsAre vs ns→Vals (ns.map V.int) vs
 |_,_,.nil=>.nil
 |_,_,.cons n t h=>.cons ⟨t,rfl⟩ (vals_ints h)
def defArgs (s:Stmt):Arguments:=match s with
 |.FunctionDef _ a _ _ _ _ _ _ _ _=>a
 |_=>{posonlyargs:=[],args:=[],vararg:=none,kwonlyargs:=[],kw_defaults:=[],kwarg:=none,defaults:=[]}
def defBody (s:Stmt):List Stmt:=match s with
 |.FunctionDef _ _ b _ _ _ _ _ _ _=>b
 |_=>[]
def defScope (s:Stmt):Scope:=match s with
 |.FunctionDef _ _ _ _ _ _ sc _ _ _=>sc
 |_=>{kind:=.function,names:=[],isGenerator:=false,isCoroutine:=false}
abbrev Qg:EL:=fun _ _ _ _ _ _=>False
abbrev E0:XK:=fun _ _ _=>False
inductive Qh (K:PySem.W.Frag) (x qual:Str) (st:Stmt) (f:Addr) (fd:FuncData):Prop where
 |mk (oc:Value) (od:Option Addr) (kV doc pm:Value) (an:Option Addr) (cdv ct:Value) (osl:Array (Option Value)) (f1:fd=PySem.W.fnOf x qual (defArgs st) (defBody st) (defScope st) .none kV doc pm an cdv ct) (f2:K.lookup f=some ⟨oc,od,.func fd,osl⟩) (f3:PySem.W.codeIn K cdv qual=true):Qh K x qual st f fd
structure Fun (K:PySem.W.Frag) (x qual:Str) (st:Stmt) (f:Addr) (fd:FuncData):Prop where
 ex:Qh K x qual st f fd
 kp:PySem.W.keepIn K (.ref f)=true
section
variable {P:Program} {w:World} {K:PySem.W.Frag} {mg:Str→Option Value} {base:Heap}
theorem Fun.binds {x qual:Str} {st:Stmt} {f:Addr} {fd:FuncData} {ps:List Str} (F:Fun K x qual st f fd)
 (h:∀(kV doc pm:Value) (an:Option Addr) (cdv ct:Value) (us:List Value),us.length=ps.length→bindArgs (PySem.W.fnOf x qual (defArgs st) (defBody st) (defScope st) .none kV doc pm an cdv ct) ⟨us,[]⟩=pure (ps.zip us)):Binds K fd ps []:=by
 obtain ⟨oc,od,kV,doc,pm,an,cdv,ct,osl,rfl,lk,hcd⟩:=F.ex
 exact .all (h kV doc pm an cdv ct)
theorem Ip {x qual:Str} {st:Stmt} {f:Addr} {oc:Value} {od an:Option Addr} {osl:Array (Option Value)} {kV doc pm cdv ct:Value} (l:K.lookup f=some ⟨oc,od,.func (PySem.W.fnOf x qual (defArgs st) (defBody st) (defScope st) .none kV doc pm an cdv ct),osl⟩)
 (c:PySem.W.codeIn K cdv qual=true) (k:PySem.W.keepIn K (.ref f)=true):Fun K x qual st f (PySem.W.fnOf x qual (defArgs st) (defBody st) (defScope st) .none kV doc pm an cdv ct):=⟨⟨oc,od,kV,doc,pm,an,cdv,ct,osl,rfl,l,c⟩,k⟩
end
section
variable {X:Cx}
theorem pv (i:Nat) {x:Str} {pos:Pos} (hN:X.N[i]?=some x:=by rfl) (hv:KJ X.env.scope x:=by first |exact Or.inl rfl |exact Or.inr (Or.inl rfl) |exact Or.inr (Or.inr rfl)) (hd:(x==("__debug__":Str))=false:=by decide)
 (hcd:(x==("__classdict__":Str))=false:=by decide):PE X (.Name x pos) (MX i):=MY hN hv hd hcd
end
end L2
namespace LS
open PySem PySem.Spec PyProof.Rows L2
inductive D where
 |non |bl (b:Bool) |int (i:Int) |str (x:Str) |tup (ds:List D) |loc (l:Nat) |scr (ns:List Int) |adr (a:Addr) |ty (n:String) |exc (n:Str) (fs:List (Str×Int)) |edic |glo (n:Str) |clo (a:Addr) (vs:List V) (ds:List D)
inductive Kyd where
 |i (n:Int) |t (ns:List Int) |b (rs:List (List Int))
 deriving DecidableEq
def kD:Kyd→D
 |.i n=>.int n
 |.t ns=>.tup (ns.map D.int)
 |.b rs=>.tup (rs.map fun r=>.tup (r.map D.int))
inductive DE where
 |lst (ds:List D) |tab |dic (fz:Bool) (kvs:List (Kyd×D))
abbrev HD:=List DE
abbrev Ai:=List (Option D)
inductive Out (α:Type) where
 |ok (a:α) (h:HD) |err (C:Value) (fs:List (Str×D)) (h:HD) |stuck
def Out.bind {α β:Type} (o:Out α) (k:α→HD→Out β):Out β:=match o with
 |.ok a h=>k a h
 |.err C fs h=>.err C fs h
 |.stuck=>.stuck
@[simp] theorem Out.bind_ok {α β:Type} (a:α) (h:HD) (k:α→HD→Out β):(Out.ok a h).bind k=k a h:=rfl
@[simp] theorem Out.bind_err {α β:Type} (C:Value) (fs:List (Str×D)) (h:HD) (k:α→HD→Out β):(Out.err C fs h:Out α).bind k=.err C fs h:=rfl
@[simp] theorem Out.bind_stuck {α β:Type} (k:α→HD→Out β):(Out.stuck:Out α).bind k=.stuck:=rfl
def Nm:HO→Bool
 |.tup _=>true
 |.frz _ _=>true
 |.ext _=>true
 |.xd _=>true
 |_=>false
def Kp (H H':Hp):Prop:=∀b o,H b=some o→Nm o=true→H' b=some o
theorem Kp.refl (H:Hp):Kp H H:=fun _ _ e _=>e
theorem Kp.trans {H H1 H2:Hp} (a:Kp H H1) (b:Kp H1 H2):Kp H H2:=fun c o e i=>b c o (a c o e i) i
theorem Kp.new {H:Hp} {p:Addr} {o:HO} (h:H p=none):Kp H (Av H p o):=fun b u e _=>by rw [AF (Cr e h)];exact e
theorem Kp.set {H:Hp} {p:Addr} {o u:HO} (h:H p=some o) (i:Nm o=false):Kp H (Av H p u):=fun b w e iw=>by
 rw [AF]
 ·exact e
 ·intro z
  rw [z,h] at e;cases e;rw [i] at iw;cases iw
def FzL (K:PySem.W.Frag) (H:Hp) (a:Addr) (xs:List V):Prop:=(∃o,H a=some (.frz o (.lst xs)))∨SqL K (fun _=>none) a xs
theorem Kp.fzL {K:PySem.W.Frag} {H H':Hp} {a:Addr} {xs:List V} (k:Kp H H') (h:FzL K H a xs):FzL K H' a xs:=by
 rcases h with ⟨o,h⟩ |h
 ·exact .inl ⟨o,k _ _ h rfl⟩
 ·exact .inr h
theorem FzL.sq {K:PySem.W.Frag} {H:Hp} {a:Addr} {xs:List V} (h:FzL K H a xs):SqL K H a xs:=by
 rcases h with ⟨o,h⟩ |(h |⟨o,h⟩) |h
 ·exact .inl (.inr ⟨o,h⟩)
 ·cases h
 ·cases h
 ·exact .inr h
def Gg (C:Addr) (da:Option Addr) (a:Addr) (h:Heap):Prop:=∃o vs,h.get? a=some o∧o.cls=.ref C∧(∀d,da=some d→o.dict=some d)∧o.data=.fields vs
def Nn (a:Addr) (h:Heap):Prop:=a≠sysModules∧∃o ep,h.get? a=some o∧o.ExactDict∧o.data=.dict #[] ep
mutual
def DV (K:PySem.W.Frag) (m:List Addr) (H:Hp):D→V→Prop
 |.non,v=>v=.non
 |.bl b,v=>v=.bl b
 |.int i,v=>v=.int i
 |.str x,v=>v=.str x
 |.tup ds,v=>∃a vs,v=.ref a∧H a=some (.tup vs)∧DVs K m H ds vs
 |.loc l,v=>∃a,v=.ref a∧m[l]?=some a
 |.scr ns,v=>∃a,v=.ref a∧FzL K H a (ns.map V.int)
 |.adr a,v=>v=.ref a
 |.ty n,v=>v=.ty n
 |.exc n fs,v=>∃a C da,v=.ref a∧PySem.W.nsIn K mainGlobals n=some (some (.ref C))∧H a=some (.ext (Gg C da a))∧∀f i,fs.lookup f=some i→∃d fv,da=some d∧H d=some (.xd fv)∧fv.lookup f=some (.int i)
 |.edic,v=>∃a,v=.ref a∧H a=some (.ext (Nn a))
 |.glo n,v=>∃a,v=.ref a∧PySem.W.nsIn K mainGlobals n=some (some (.ref a))
 |.clo a vs ds,v=>v=.ref a∧DVs K m H ds vs
def DVs (K:PySem.W.Frag) (m:List Addr) (H:Hp):List D→List V→Prop
 |[],vs=>vs=[]
 |d::ds,vs=>∃v r,vs=v::r∧DV K m H d v∧DVs K m H ds r
end
section
variable {K:PySem.W.Frag} {m m':List Addr} {H H':Hp}
theorem JB {l:Nat} {a:Addr} (p:m <+:m') (h:m[l]?=some a):m'[l]?=some a:=by
 obtain ⟨t,rfl⟩:=p
 have hl:l<m.length:=(qa3.mp h).1
 rw [F6 hl];exact h
mutual
theorem DV.keep (p:m <+:m') (k:Kp H H'):∀{d:D} {v:V},DV K m H d v→DV K m' H' d v
 |.non,_,h=>by simpa [DV] using h
 |.bl _,_,h=>by simpa [DV] using h
 |.int _,_,h=>by simpa [DV] using h
 |.str _,_,h=>by simpa [DV] using h
 |.tup ds,_,h=>by
  simp only [DV] at h ⊢
  obtain ⟨a,vs,e,q,r⟩:=h
  exact ⟨a,vs,e,k _ _ q rfl,DVs.keep p k r⟩
 |.loc l,_,h=>by
  simp only [DV] at h ⊢
  obtain ⟨a,e,q⟩:=h
  exact ⟨a,e,JB p q⟩
 |.scr ns,_,h=>by
  simp only [DV] at h ⊢
  obtain ⟨a,e,q⟩:=h
  exact ⟨a,e,k.fzL q⟩
 |.adr _,_,h=>by simpa [DV] using h
 |.ty _,_,h=>by simpa [DV] using h
 |.exc _ _,_,h=>by
  simp only [DV] at h ⊢
  obtain ⟨a,C,da,e,q,r,t⟩:=h
  exact ⟨a,C,da,e,q,k _ _ r rfl,fun f i z=>let ⟨d,fv,z1,z2,z3⟩:=t f i z;⟨d,fv,z1,k _ _ z2 rfl,z3⟩⟩
 |.edic,_,h=>by
  simp only [DV] at h ⊢
  obtain ⟨a,e,r⟩:=h
  exact ⟨a,e,k _ _ r rfl⟩
 |.glo _,_,h=>by simpa [DV] using h
 |.clo _ _ ds,_,h=>by
  simp only [DV] at h ⊢
  exact ⟨h.1,DVs.keep p k h.2⟩
theorem DVs.keep (p:m <+:m') (k:Kp H H'):∀{ds:List D} {vs:List V},DVs K m H ds vs→DVs K m' H' ds vs
 |[],_,h=>by simpa [DVs] using h
 |d::ds,_,h=>by
  simp only [DVs] at h ⊢
  obtain ⟨v,r,e,q,t⟩:=h
  exact ⟨v,r,e,DV.keep p k q,DVs.keep p k t⟩
end
theorem DVs.nil:DVs K m H [] []:=by simp [DVs]
theorem DVs.cons {d:D} {v:V} {ds:List D} {vs:List V} (h:DV K m H d v) (t:DVs K m H ds vs):DVs K m H (d::ds) (v::vs):=by
 simp only [DVs];exact ⟨v,vs,rfl,h,t⟩
theorem DVs.len:∀{ds:List D} {vs:List V},DVs K m H ds vs→ds.length=vs.length
 |[],_,h=>by simp only [DVs] at h;subst h;rfl
 |d::ds,_,h=>by
  simp only [DVs] at h
  obtain ⟨v,r,e,_,t⟩:=h
  subst e
  simp [DVs.len t]
theorem DVs.get:∀{ds:List D} {vs:List V} {i:Nat} {d:D},DVs K m H ds vs→ds[i]?=some d→∃v,vs[i]?=some v∧DV K m H d v
 |[],_,_,_,_,e=>by simp at e
 |d::ds,_,i,x,h,e=>by
  simp only [DVs] at h
  obtain ⟨v,r,rfl,q,t⟩:=h
  cases i with
  |zero=>simp at e;subst e;exact ⟨v,rfl,q⟩
  |succ i=>
   obtain ⟨w,h1,h2⟩:=DVs.get (i:=i) t (by simpa using e)
   exact ⟨w,by simpa using h1,h2⟩
theorem DVs.app:∀{ds es:List D} {vs ws:List V},DVs K m H ds vs→DVs K m H es ws→DVs K m H (ds++es) (vs++ws)
 |[],_,_,_,h,t=>by simp only [DVs] at h;subst h;exact t
 |d::ds,_,_,_,h,t=>by
  simp only [DVs] at h
  obtain ⟨v,r,rfl,q,u⟩:=h
  exact .cons q (DVs.app u t)
theorem DVs.set:∀{ds:List D} {vs:List V} {d:D} {v:V} (i:Nat),DVs K m H ds vs→DV K m H d v→DVs K m H (ds.set i d) (vs.set i v)
 |[],_,_,_,_,h,_=>by simp only [DVs] at h;subst h;exact .nil
 |d::ds,_,_,_,i,h,q'=>by
  simp only [DVs] at h
  obtain ⟨v,r,rfl,q,u⟩:=h
  cases i with
  |zero=>exact .cons q' u
  |succ i=>exact .cons q (DVs.set i u q')
theorem DVs.take:∀{ds:List D} {vs:List V} (n:Nat),DVs K m H ds vs→DVs K m H (ds.take n) (vs.take n)
 |_,_,0,_=>by simpa using (DVs.nil:DVs K m H [] [])
 |[],_,n+1,h=>by simp only [DVs] at h;subst h;exact .nil
 |d::ds,_,n+1,h=>by
  simp only [DVs] at h
  obtain ⟨v,r,rfl,q,u⟩:=h
  exact .cons q (DVs.take n u)
theorem DVs.drop:∀{ds:List D} {vs:List V} (n:Nat),DVs K m H ds vs→DVs K m H (ds.drop n) (vs.drop n)
 |_,_,0,h=>by simpa using h
 |[],_,n+1,h=>by simp only [DVs] at h;subst h;exact .nil
 |d::ds,_,n+1,h=>by
  simp only [DVs] at h
  obtain ⟨v,r,rfl,q,u⟩:=h
  simpa using DVs.drop n u
theorem DVs.rep {ds:List D} {vs:List V} (h:DVs K m H ds vs):∀n,DVs K m H (List.replicate n ds).flatten (List.replicate n vs).flatten
 |0=>by simpa using (DVs.nil:DVs K m H [] [])
 |n+1=>by
  rw [GF,H0,GF,H0]
  exact h.app (DVs.rep h n)
def Iq (q:Str) (c:Addr) (h:Heap):Prop:=h.CodeRec (.ref c) q
def tabP (K:PySem.W.Frag):Option (Addr×Addr):=match PySem.W.nsIn K mainGlobals "law" with
 |some (some (.ref f))=>(match K.lookup f with
  |some ⟨_,_,.func fd,_⟩=>(match fd.code with
   |.ref c=>(match K.lookup c with
    |some ⟨_,_,.fields vs,_⟩=>(match (vs[11]?:Option Value) with
     |some (.ref P)=>some (c,P)
     |_=>none)
    |_=>none)
   |_=>none)
  |_=>none)
 |_=>none
def TabIs (K:PySem.W.Frag) (H:Hp) (a:Addr):Prop:=(∃c,tabP K=some (c,a))∧∃ps,H a=some (.tbl ps)∧TriplesOk ps.toList∧∀pos cv,codeAmong pos ps.toList=some cv→∃c,cv=.ref c∧H c=some (.ext (Iq "law.<locals>.<lambda>" c))
theorem TabIs.keep {K:PySem.W.Frag} {H H':Hp} {a:Addr} (t:TabIs K H a) (k:Kp H H') (e:H' a=H a):TabIs K H' a:=by
 obtain ⟨z,ps,h1,h2,h3⟩:=t
 exact ⟨z,ps,e.trans h1,h2,fun pos cv q=>let ⟨c,q1,q2⟩:=h3 pos cv q;⟨c,q1,k _ _ q2 rfl⟩⟩
def Np (hs:List Int):Int:=reduceHash (Builtin.Tuple.tupleHashOf hs)
def WZ:Kyd→Int
 |.i n=>hashInt n
 |.t ns=>Np (ns.map hashInt)
 |.b rs=>Np (rs.map fun r=>Np (r.map hashInt))
def JC (p:Kyd×V×V) (e:DictEntry):Prop:=e.hash=WZ p.1∧RelV p.2.1 e.key∧RelV p.2.2 e.val
def BF (a:Addr) (es:List (Kyd×V×V)) (h:Heap):Prop:=(a==sysModules)=false∧es.length≤sizeLine∧(es.map (·.1)).Nodup∧∃o us ep,h.get? a=some o∧o.ExactDict∧o.data=.dict us ep∧Paired JC es us.toList
def EntD (K:PySem.W.Frag) (m:List Addr) (H:Hp):List (Kyd×D)→List (Kyd×V×V)→Prop
 |[],es=>es=[]
 |p::r,es=>∃kv vv r',es=(p.1,kv,vv)::r'∧DV K m H (kD p.1) kv∧DV K m H p.2 vv∧EntD K m H r r'
theorem EntD.keep {K:PySem.W.Frag} {m m':List Addr} {H H':Hp} (p:m <+:m') (k:Kp H H'):∀{kvs:List (Kyd×D)} {es:List (Kyd×V×V)},EntD K m H kvs es→EntD K m' H' kvs es
 |[],_,h=>h
 |_::_,_,h=>by
  obtain ⟨kv,vv,r',e,d1,d2,t⟩:=h
  exact ⟨kv,vv,r',e,d1.keep p k,d2.keep p k,t.keep p k⟩
def DicH (fz:Bool) (H:Hp) (a:Addr) (es:List (Kyd×V×V)):Prop:=match fz with
 |true=>∃o,H a=some (.frz o (.dct (BF a es)))
 |false=>H a=some (.dct (BF a es))
theorem DicH.some {fz:Bool} {H:Hp} {a:Addr} {es:List (Kyd×V×V)} (d:DicH fz H a es):∃o,H a=some o:=by
 cases fz with
 |true=>obtain ⟨o,e⟩:=d;exact ⟨_,e⟩
 |false=>exact ⟨_,d⟩
theorem DicH.same {fz:Bool} {H H':Hp} {a:Addr} {es:List (Kyd×V×V)} (d:DicH fz H a es) (e:H' a=H a):DicH fz H' a es:=by
 cases fz with
 |true=>obtain ⟨o,z⟩:=d;exact ⟨o,e.trans z⟩
 |false=>exact e.trans d
theorem DicH.rd {fz:Bool} {H:Hp} {a:Addr} {es:List (Kyd×V×V)} (d:DicH fz H a es):Rd H a (.dct (BF a es)):=by
 cases fz with
 |true=>obtain ⟨o,z⟩:=d;exact .inr ⟨o,z⟩
 |false=>exact .inl d
def K3 (K:PySem.W.Frag) (m:List Addr) (H:Hp):DE→Addr→Prop
 |.lst ds,a=>∃vs,H a=some (.lst vs)∧DVs K m H ds vs
 |.tab,a=>TabIs K H a
 |.dic fz kvs,a=>∃es,DicH fz H a es∧EntD K m H kvs es
structure HR (K:PySem.W.Frag) (m:List Addr) (h:HD) (H:Hp):Prop where
 len:m.length=h.length
 nd:m.Nodup
 cells:∀(l:Nat) (c:DE) (a:Addr),h[l]?=some c→m[l]?=some a→K3 K m H c a
theorem HR.at {h:HD} {l:Nat} {c:DE} (r:HR K m h H) (e:h[l]?=some c):∃a,m[l]?=some a∧K3 K m H c a:=by
 have hl:l<h.length:=(qa3.mp e).1
 have:l<m.length:=by rw [r.len];exact hl
 exact ⟨m[l],Ba this,r.cells l c _ e (Ba this)⟩
theorem HR.mem {h:HD} {a:Addr} (r:HR K m h H) (ha:a∈m):H a≠none:=by
 obtain ⟨l,hl,rfl⟩:=List.getElem_of_mem ha
 have hl':l<h.length:=by rw [←r.len];exact hl
 have:=r.cells l h[l] m[l] (Ba hl') (Ba hl)
 cases hc:h[l] with
 |lst ds=>
  rw [hc] at this
  obtain ⟨vs,e,_⟩:=this
  rw [e];simp
 |tab=>
  rw [hc] at this
  obtain ⟨_,ps,e,_⟩:=this
  rw [e];simp
 |dic fz kvs=>
  rw [hc] at this
  obtain ⟨es,e,_⟩:=this
  obtain ⟨o,e⟩:=e.some
  rw [e];simp
theorem HR.same {h:HD} (r:HR K m h H) (k:Kp H H') (s:∀a∈m,H' a=H a):HR K m h H':=by
 refine ⟨r.len,r.nd,fun l c a e q=>?_⟩
 have hm:a∈m:=GD q
 have:=r.cells l c a e q
 cases c with
 |lst ds=>
  obtain ⟨vs,e1,e2⟩:=this
  exact ⟨vs,by rw [s a hm];exact e1,e2.keep (AC _) k⟩
 |tab=>exact TabIs.keep this k (s a hm)
 |dic fz kvs=>
  obtain ⟨es,e1,e2⟩:=this
  exact ⟨es,e1.same (s a hm),e2.keep (AC _) k⟩
theorem HR.new {h:HD} {p:Addr} {o:HO} (r:HR K m h H) (hp:H p=none):HR K m h (Av H p o):=
 r.same (.new hp) fun a ha=>AF fun z=>r.mem ha (z ▸ hp)
theorem HR.newCell {h:HD} {p:Addr} {o:HO} {c:DE} (r:HR K m h H) (hp:H p=none) (hc:K3 K (m++[p]) (Av H p o) c p):HR K (m++[p]) (h++[c]) (Av H p o):=by
 have hpm:p∉m:=fun z=>r.mem z hp
 refine ⟨by simp [r.len],?_,fun l c' a e q=>?_⟩
 ·rw [Jn]
  refine ⟨r.nd,by simp,fun a ha b hb=>?_⟩
  rw [qaA] at hb
  subst hb
  intro z;subst z;exact hpm ha
 ·by_cases hl:l<m.length
  ·rw [F6 hl] at q
   rw [F6 (by rw [←r.len];exact hl)] at e
   have:=r.cells l c' a e q
   have hne:a≠p:=fun z=>hpm (z ▸ GD q)
   cases c' with
   |lst ds=>
    obtain ⟨vs,e1,e2⟩:=this
    exact ⟨vs,by rw [AF hne];exact e1,e2.keep (GG _ _) (.new hp)⟩
   |tab=>exact TabIs.keep this (.new hp) (AF hne)
   |dic fz kvs=>
    obtain ⟨es,e1,e2⟩:=this
    exact ⟨es,e1.same (AF hne),e2.keep (GG _ _) (.new hp)⟩
  ·have h1:m.length≤l:=Jp hl
   rw [Jj h1] at q
   rw [Jj (by rw [←r.len];exact h1)] at e
   have e0:l - m.length=0:=by
    cases hz:l - m.length with
    |zero=>rfl
    |succ n=>rw [hz] at q;simp at q
   rw [←r.len] at e
   rw [e0] at q e
   simp at q e
   subst q e
   exact hc
theorem HR.setCell {h:HD} {p:Addr} {l:Nat} {o u:HO} {c:DE} (r:HR K m h H) (hl:m[l]?=some p) (ho:H p=some o) (i:Nm o=false) (hc:K3 K m (Av H p u) c p):HR K m (h.set l c) (Av H p u):=by
 refine ⟨by simp [r.len],r.nd,fun j c' a e q=>?_⟩
 by_cases hj:j=l
 ·subst hj
  rw [hl] at q;cases q
  have hlt:j<h.length:=by rw [←r.len];exact (qa3.mp hl).1
  rw [Cf hlt] at e
  cases e
  exact hc
 ·rw [B4 (Ne.symm hj)] at e
  have:=r.cells j c' a e q
  have hne:a≠p:=by
   intro z
   subst z
   obtain ⟨h1,e1⟩:=qa3.mp q
   obtain ⟨h2,e2⟩:=qa3.mp hl
   exact hj ((List.getElem_inj r.nd).mp (e1.trans e2.symm))
  cases c' with
  |lst ds=>
   obtain ⟨vs,e1,e2⟩:=this
   exact ⟨vs,by rw [AF hne];exact e1,e2.keep (AC _) (.set ho i)⟩
  |tab=>exact TabIs.keep this (.set ho i) (AF hne)
  |dic fz kvs=>
   obtain ⟨es,e1,e2⟩:=this
   exact ⟨es,e1.same (AF hne),e2.keep (AC _) (.set ho i)⟩
def ER (K:PySem.W.Frag) (m:List Addr) (H:Hp) (ρ:Ai) (σ:L2.St):Prop:=ρ.length=σ.length∧∀(i:Nat) (d:D),ρ[i]?=some (some d)→∃v,σ[i]?=some (some v)∧DV K m H d v
theorem ER.keep {ρ:Ai} {σ:L2.St} (p:m <+:m') (k:Kp H H') (e:ER K m H ρ σ):ER K m' H' ρ σ:=⟨e.1,fun i d h=>let ⟨v,a,b⟩:=e.2 i d h;⟨v,a,b.keep p k⟩⟩
theorem ER.set {ρ:Ai} {σ:L2.St} {i:Nat} {d:D} {v:V} (e:ER K m H ρ σ) (r:DV K m H d v):ER K m H (ρ.set i (some d)) (σ.set i (some v)):=by
 refine ⟨by simp [e.1],fun j d' h=>?_⟩
 by_cases hj:i=j
 ·subst hj
  by_cases hl:i < ρ.length
  ·rw [Cf hl] at h
   cases h
   exact ⟨v,by rw [Cf (by rw [←e.1];exact hl)],r⟩
  ·rw [List.getElem?_eq_none (by simp;omega)] at h;cases h
 ·rw [B4 hj] at h
  obtain ⟨w,a,b⟩:=e.2 j d' h
  exact ⟨w,by rw [B4 hj];exact a,b⟩
theorem ER.start {N:List Str} {ds:List D} {vs:List V} (h:DVs K m H ds vs):ER K m H (ds.map some++List.replicate (N.length - ds.length) none) (L2.start N vs):=by
 refine ⟨by simp [L2.start,h.len],fun i d e=>?_⟩
 by_cases hl:i<ds.length
 ·rw [F6 (by simpa using hl),CP] at e
  obtain ⟨d',e1⟩:∃d',ds[i]?=some d':=⟨ds[i],Ba hl⟩
  rw [e1] at e
  simp at e
  subst e
  obtain ⟨v,q,r⟩:=h.get e1
  refine ⟨v,?_,r⟩
  unfold L2.start
  rw [F6 (by simpa [←h.len] using hl),CP,q]
  rfl
 ·rw [Jj (by simpa using Jp hl)] at e
  rw [MP] at e
  split at e<;>cases e
def XD (K:PySem.W.Frag) (m:List Addr) (H:Hp) (fs:List (Str×D)) (da:Option Addr):Prop:=
 ∀f d,fs.lookup f=some d→∃a fv v,da=some a∧H a=some (.xd fv)∧fv.lookup f=some v∧DV K m H d v
def Post {α β:Type} (K:PySem.W.Frag) (R:List Addr→Hp→α→β→Prop) (m:List Addr) (H:Hp) (E:XK) (Q:β→Hp→Prop):Out α→Prop
 |.ok a h'=>∀v m' H',m <+:m'→Kp H H'→HR K m' h' H'→R m' H' a v→Q v H'
 |.err C fs h'=>∀da m' H',m <+:m'→Kp H H'→HR K m' h' H'→XD K m' H' fs da→E C da H'
 |.stuck=>False
theorem Post.ahead {α β:Type} {R:List Addr→Hp→α→β→Prop} {E:XK} {Q:β→Hp→Prop} {o:Out α} (p:m <+:m') (k:Kp H H') (h:Post K R m H E Q o):Post K R m' H' E Q o:=by
 cases o with
 |ok a h'=>exact fun v m2 H2 p2 k2=>h v m2 H2 (p.trans p2) (k.trans k2)
 |err C fs h'=>exact fun da m2 H2 p2 k2=>h da m2 H2 (p.trans p2) (k.trans k2)
 |stuck=>exact h
theorem Post.bind {α β γ δ:Type} {R:List Addr→Hp→α→β→Prop} {R':List Addr→Hp→γ→δ→Prop} {E:XK} {Q:δ→Hp→Prop} {Q':β→Hp→Prop} {o:Out α} {k:α→HD→Out γ}
 (h:Post K R' m H E Q (o.bind k)) (f:∀a h1 v m1 H1,o=.ok a h1→m <+:m1→Kp H H1→HR K m1 h1 H1→R m1 H1 a v→Post K R' m1 H1 E Q (k a h1)→Q' v H1):Post K R m H E Q' o:=by
 cases o with
 |ok a h1=>exact fun v m1 H1 p kk hr r=>f a h1 v m1 H1 rfl p kk hr r (h.ahead p kk)
 |err C fs h1=>exact h
 |stuck=>exact h
theorem Post.mono {α β:Type} {R:List Addr→Hp→α→β→Prop} {E:XK} {Q Q':β→Hp→Prop} {o:Out α} (h:Post K R m H E Q o) (f:∀v H',Q v H'→Q' v H'):Post K R m H E Q' o:=by
 cases o with
 |ok a h1=>exact fun v m1 H1 p k hr r=>f _ _ (h v m1 H1 p k hr r)
 |err C fs h1=>exact h
 |stuck=>exact h
end
abbrev ME:=Ai→HD→Out D
abbrev MT:=Ai→HD→Out Bool
abbrev MA:=Ai→HD→Out (List D)
inductive Fl where
 |nx |bk |ct |rt (d:D)
abbrev MS:=Ai→HD→Out (Fl×Ai)
def rD (K:PySem.W.Frag):List Addr→Hp→D→V→Prop:=fun m H d v=>DV K m H d v
def rB:List Addr→Hp→Bool→Bool→Prop:=fun _ _ a b=>a=b
def Fg (K:PySem.W.Frag):List Addr→Hp→List D→List V→Prop:=fun m H d v=>DVs K m H d v
inductive tM {α β:Type} (K:PySem.W.Frag) (R:List Addr→Hp→α→β→Prop) (E:XK) (f:Ai→HD→Out α) (σ:L2.St) (H:Hp) (Q:β→Hp→Prop):Prop where
 |mk (m:List Addr) (ρ:Ai) (h:HD) (hr:HR K m h H) (er:ER K m H ρ σ) (p:Post K R m H E Q (f ρ h)):tM K R E f σ H Q
abbrev tD (K:PySem.W.Frag) (E:XK) (f:ME):TE:=tM K (rD K) E f
abbrev Ir (K:PySem.W.Frag) (E:XK) (f:MT):TT:=tM K rB E f
abbrev Qi (K:PySem.W.Frag) (E:XK) (f:MA):TA:=tM K (Fg K) E f
def Qj (K:PySem.W.Frag) (m:List Addr) (H:Hp) (D:En):Fl×Ai→Prop
 |(.nx,ρ)=>∀σ,ER K m H ρ σ→D.nx σ H
 |(.bk,ρ)=>∀σ,ER K m H ρ σ→D.bk σ H
 |(.ct,ρ)=>∀σ,ER K m H ρ σ→D.ct σ H
 |(.rt d,_)=>∀v,DV K m H d v→D.rt v H
def PostS (K:PySem.W.Frag) (m:List Addr) (H:Hp) (E:XK) (D:En):Out (Fl×Ai)→Prop
 |.ok a h'=>∀m' H',m <+:m'→Kp H H'→HR K m' h' H'→Qj K m' H' D a
 |.err C fs h'=>∀da m' H',m <+:m'→Kp H H'→HR K m' h' H'→XD K m' H' fs da→E C da H'
 |.stuck=>False
inductive Iu (K:PySem.W.Frag) (E:XK) (g:MS) (D:En) (σ:L2.St) (H:Hp):Prop where
 |mk (m:List Addr) (ρ:Ai) (h:HD) (hr:HR K m h H) (er:ER K m H ρ σ) (p:PostS K m H E D (g ρ h)):Iu K E g D σ H
theorem PostS.ahead {K:PySem.W.Frag} {m m':List Addr} {H H':Hp} {E:XK} {D:En} {o:Out (Fl×Ai)} (p:m <+:m') (k:Kp H H') (h:PostS K m H E D o):PostS K m' H' E D o:=by
 cases o with
 |ok a h'=>exact fun m2 H2 p2 k2=>h m2 H2 (p.trans p2) (k.trans k2)
 |err C fs h'=>exact fun da m2 H2 p2 k2=>h da m2 H2 (p.trans p2) (k.trans k2)
 |stuck=>exact h
abbrev Ev (X:Cx) (E:XK) (e:Expr) (f:ME):Prop:=PE X e (tD X.K E f)
abbrev DF (X:Cx) (E:XK) (e:Expr) (f:MT):Prop:=PT X e (Ir X.K E f)
abbrev Dj (X:Cx) (E:XK) (es:List Expr) (f:MA):Prop:=PA X es (Qi X.K E f)
abbrev Ex (X:Cx) (E:XK) (st:Stmt) (g:MS):Prop:=PS X st (Iu X.K E g)
abbrev A8 (X:Cx) (E:XK) (sts:List Stmt) (g:MS):Prop:=DU X sts (Iu X.K E g)
section
variable {X:Cx}
theorem Ca {e:Expr} {t t':TE} (h:PE X e t) (i:∀σ H Q,t' σ H Q→t σ H Q):PE X e t':=fun pins s σ H Q I q=>h pins s σ H Q I (i σ H Q q)
theorem K4 {e:Expr} {t t':TT} (h:PT X e t) (i:∀σ H Q,t' σ H Q→t σ H Q):PT X e t':=fun pins s σ H Q I q=>h pins s σ H Q I (i σ H Q q)
theorem Qk {e:List Expr} {t t':TA} (h:PA X e t) (i:∀σ H Q,t' σ H Q→t σ H Q):PA X e t':=fun pos pins s σ H Q I q=>h pos pins s σ H Q I (i σ H Q q)
theorem EO {e:Stmt} {t t':TS} (h:PS X e t) (i:∀D σ H,t' D σ H→t D σ H):PS X e t':=fun pins s σ H D I q=>h pins s σ H D I (i D σ H q)
theorem Nq {e:List Stmt} {t t':TS} (h:DU X e t) (i:∀D σ H,t' D σ H→t D σ H):DU X e t':=fun pins s σ H D I q=>h pins s σ H D I (i D σ H q)
end
end LS
namespace LS
open PySem PySem.Spec PyProof.Rows L2
section
variable {X:Cx} {E:XK} {a b c:Expr} {pos:Pos} {f g k:ME}
def Ab (i:Nat):ME:=fun ρ h=>match ρ[i]? with
 |some (some d)=>.ok d h
 |_=>.stuck
theorem Ac {i:Nat} (h:PE X a (MX i)):Ev X E a (Ab i):=Ca h fun σ H Q z1_=>by
 obtain ⟨m,ρ,hd,hr,er,p⟩:=z1_
 unfold Ab at p
 split at p
 ·rename_i d e
  obtain ⟨v,e1,r⟩:=er.2 i d e
  exact ⟨v,e1,p v m H (AC _) (.refl _) hr r⟩
 ·exact p.elim
def mC (d:D):ME:=fun _ h=>.ok d h
theorem Iv {d:D} {v:V} (h:PE X a (tC v)) (r:∀m H,DV X.K m H d v):Ev X E a (mC d):=Ca h fun σ H Q z2_=>by obtain ⟨m,ρ,hd,hr,er,p⟩:=z2_;exact (p v m H (AC _) (.refl _) hr (r m H))
theorem Al {i:Int} {j:Nat}:Ev X E (.Constant (.int i) j pos) (mC (.int i)):=Iv PJ fun _ _=>by simp [DV]
theorem CS {i:Bool} {j:Nat}:Ev X E (.Constant (.bool i) j pos) (mC (.bl i)):=Iv UM fun _ _=>by simp [DV]
theorem FJ {j:Nat}:Ev X E (.Constant .none j pos) (mC .non):=Iv UN fun _ _=>by simp [DV]
theorem CV {x:Str} {j:Nat}:Ev X E (.Constant (.str x) j pos) (mC (.str x)):=Iv UO fun _ _=>by simp [DV]
theorem W0 {x:Str} {i:Int} {t:Tok} {pos:Pos} (hg:Gl X x) (hm:X.mg x=some (.int i t)) (hd:(x==("__debug__":Str))=false:=by decide):Ev X E (.Name x pos) (mC (.int i)):=
 Iv (UP (v:=.int i) hg hm ⟨t,rfl⟩ hd) fun _ _=>by simp [DV]
def Af (op:D→D→HD→Out D) (f g:ME):ME:=fun ρ h=>(f ρ h).bind fun x h1=>(g ρ h1).bind fun y h2=>op x y h2
theorem JD {op:D→D→HD→Out D} {Q:VK} {R:V→V→Hp→Prop} {σ:L2.St} {H:Hp} (h:tD X.K E (Af op f g) σ H Q)
 (i:∀m H2 h2 x y v u,HR X.K m h2 H2→DV X.K m H2 x v→DV X.K m H2 y u→Post X.K (rD X.K) m H2 E Q (op x y h2)→R v u H2):tD X.K E f σ H fun v H1=>tD X.K E g σ H1 fun u H2=>R v u H2:=by
 obtain ⟨m,ρ,hd,hr,er,p⟩:=h
 refine ⟨m,ρ,hd,hr,er,Post.bind p fun x h1 v m1 H1 _ p1 k1 hr1 r1 q1=>?_⟩
 refine ⟨m1,ρ,h1,hr1,er.keep p1 k1,Post.bind q1 fun y h2 u m2 H2 _ p2 k2 hr2 r2 q2=>?_⟩
 exact i m2 H2 h2 x y v u hr2 (DV.keep p2 k2 r1) r2 q2
def BA (X:Cx) (f:Value→Value→Sem Value) (op:D→D→HD→Out D):Prop:=
 ∃r:R2,OpR X f r∧∀m H h E x y v u Q,HR X.K m h H→DV X.K m H x v→DV X.K m H y u→Post X.K (rD X.K) m H E Q (op x y h)→r v u H Q
theorem AJ {o:Operator} {op:D→D→HD→Out D} (ho:BA X (binaryOp o) op) (ha:Ev X E a f) (hb:Ev X E b g):Ev X E (.BinOp a o b pos) (Af op f g):=by
 obtain ⟨r,ho,i⟩:=ho
 exact Ca (VB ho ha hb) fun σ H Q h=>JD h fun m H2 h2 x y v u hr rx ry q=>i m H2 h2 E x y v u Q hr rx ry q
theorem GQ {o:CmpOp} {op:D→D→HD→Out D} (ho:BA X (compareOp o) op) (ha:Ev X E a f) (hb:Ev X E b g) (hm:behindInMarks o b=false):Ev X E (.Compare a [o] [b] pos) (Af op f g):=by
 obtain ⟨r,ho,i⟩:=ho
 exact Ca (VN ho ha hb hm) fun σ H Q h=>JD h fun m H2 h2 x y v u hr rx ry q=>i m H2 h2 E x y v u Q hr rx ry q
def JE:D→HD→Out Bool
 |.bl b,h=>.ok b h
 |_,_=>.stuck
def AW (f:ME):MT:=fun ρ h=>(f ρ h).bind JE
theorem Ql {m:List Addr} {H:Hp} {x:D} {v:V} {h:HD} {Q:Bool→Hp→Prop} (hr:HR X.K m h H) (r:DV X.K m H x v) (q:Post X.K rB m H E Q (JE x h)):∃k,v=.bl k∧Q k H:=by
 cases x with
 |bl b=>
  simp only [DV] at r
  exact ⟨b,r,q b m H (AC _) (.refl _) hr rfl⟩
 |_=>exact q.elim
theorem BL {o:CmpOp} {op:D→D→HD→Out D} (ho:BA X (compareOp o) op) (ha:Ev X E a f) (hb:Ev X E b g) (hm:behindInMarks o b=false):DF X E (.Compare a [o] [b] pos) (AW (Af op f g)):=by
 obtain ⟨r,ho,i⟩:=ho
 refine K4 (VO ho ha hb hm) fun σ H Q h=>?_
 obtain ⟨m,ρ,hd,hr,er,p⟩:=h
 have h':tD X.K E (Af op f g) σ H fun x H'=>∃k,x=.bl k∧Q k H':=
  ⟨m,ρ,hd,hr,er,Post.bind p fun x h1 v m1 H1 _ p1 k1 hr1 r1 q1=>Ql hr1 r1 q1⟩
 exact JD h' fun m H2 h2 x y v u hr rx ry q=>i m H2 h2 E x y v u _ hr rx ry q
def Ep:D→HD→Out Bool
 |.non,h=>.ok false h
 |.bl b,h=>.ok b h
 |.int i,h=>.ok (i != 0) h
 |.tup ds,h=>.ok (!ds.isEmpty) h
 |.loc l,h=>match h[l]? with
  |some (.lst ds)=>.ok (!ds.isEmpty) h
  |_=>.stuck
 |_,_=>.stuck
def CW (f:ME):MT:=fun ρ h=>(f ρ h).bind Ep
theorem Qm {α β:Type} {xs:List α} {ys:List β} (h:xs.length=ys.length):xs.isEmpty=ys.isEmpty:=by
 cases xs<;>cases ys<;>simp_all
theorem W1 {m:List Addr} {H:Hp} {x:D} {v:V} {h:HD} {Q:Bool→Hp→Prop} (hr:HR X.K m h H) (r:DV X.K m H x v) (q:Post X.K rB m H E Q (Ep x h)):∃k,M9 X.K v H k∧Q k H:=by
 have go:∀k,Ep x h=.ok k h→Q k H:=fun k e=>by rw [e] at q;exact q k m H (AC _) (.refl _) hr rfl
 cases x with
 |non=>simp only [DV] at r;subst r;exact ⟨false,rfl,go _ rfl⟩
 |bl b=>simp only [DV] at r;subst r;exact ⟨b,rfl,go _ rfl⟩
 |int i=>simp only [DV] at r;subst r;exact ⟨_,rfl,go _ rfl⟩
 |str x=>exact q.elim
 |tup ds=>
  simp only [DV] at r
  obtain ⟨p,vs,rfl,hp,dv⟩:=r
  exact ⟨_,.inr ⟨vs,SqT.of hp,rfl⟩,by rw [←Qm dv.len];exact go _ rfl⟩
 |loc l=>
  simp only [DV] at r
  obtain ⟨p,rfl,hp⟩:=r
  simp only [Ep] at q
  split at q
  ·rename_i ds e
   obtain ⟨vs,e1,dv⟩:=hr.cells l _ p e hp
   exact ⟨_,.inl ⟨vs,SqL.of e1,rfl⟩,by rw [←Qm dv.len];exact q _ m H (AC _) (.refl _) hr rfl⟩
  ·exact q.elim
 |scr ns=>exact q.elim
 |adr a=>exact q.elim
 |ty a=>exact q.elim
 |exc n fs=>exact q.elim
 |edic=>exact q.elim
 |glo n=>exact q.elim
 |clo a vs ds=>exact q.elim
theorem Es (ha:Ev X E a f) (he:∀Ft,isTrue a X.env Ft=(do let v ←Ft;standAt a.pos;holding [v] (truthy v)):=by intro _;rfl):DF X E a (CW f):=
 K4 (VS ha he) fun σ H Q z3_=>by obtain ⟨m,ρ,hd,hr,er,p⟩:=z3_;exact (⟨m,ρ,hd,hr,er,Post.bind p fun x h1 v m1 H1 _ p1 k1 hr1 r1 q1=>W1 hr1 r1 q1⟩)
variable {tf tg:MT} {rest:List Expr}
def FK (f g:MT):MT:=fun ρ h=>(f ρ h).bind fun b h1=>if b=true then g ρ h1 else .ok false h1
def Dk (f g:MT):MT:=fun ρ h=>(f ρ h).bind fun b h1=>if b=true then .ok true h1 else g ρ h1
def Dl (f:MT):MT:=fun ρ h=>(f ρ h).bind fun b h1=>.ok (!b) h1
abbrev GR (X:Cx) (E:XK) (e:Expr) (f:MT):Prop:=PW X e (Ir X.K E f)
theorem Qn {e:Expr} {t t':TT} (h:PW X e t) (i:∀σ H Q,t' σ H Q→t σ H Q):PW X e t':=fun wh pins s σ H Q I q=>h wh pins s σ H Q I (i σ H Q q)
theorem Qo (ha:DF X E a tf):GR X E (.BoolOp .And [a] pos) tf:=UU ha
theorem FL (ha:DF X E a tf):GR X E (.BoolOp .Or [a] pos) tf:=UV ha
theorem Qp (ha:DF X E a tf) (hb:GR X E (.BoolOp .And (b::rest) pos) tg):GR X E (.BoolOp .And (a::b::rest) pos) (FK tf tg):=
 Qn (UW ha hb) fun σ H Q z4_=>by obtain ⟨m,ρ,hd,hr,er,p⟩:=z4_;exact (⟨m,ρ,hd,hr,er,Post.bind p fun x h1 v m1 H1 _ p1 k1 hr1 r1 q1=>by
  cases r1
  cases x with
  |true=>exact ⟨m1,ρ,h1,hr1,er.keep p1 k1,q1⟩
  |false=>exact q1 false m1 H1 (AC _) (.refl _) hr1 rfl⟩)
theorem FM (ha:DF X E a tf) (hb:GR X E (.BoolOp .Or (b::rest) pos) tg):GR X E (.BoolOp .Or (a::b::rest) pos) (Dk tf tg):=
 Qn (UX ha hb) fun σ H Q z5_=>by obtain ⟨m,ρ,hd,hr,er,p⟩:=z5_;exact (⟨m,ρ,hd,hr,er,Post.bind p fun x h1 v m1 H1 _ p1 k1 hr1 r1 q1=>by
  cases r1
  cases x with
  |false=>exact ⟨m1,ρ,h1,hr1,er.keep p1 k1,q1⟩
  |true=>exact q1 true m1 H1 (AC _) (.refl _) hr1 rfl⟩)
theorem ES (h:GR X E a tf):DF X E a tf:=PW.pt h
theorem EU (ha:DF X E a tf):DF X E (.UnaryOp .Not a pos) (Dl tf):=
 K4 (UY ha) fun σ H Q z6_=>by obtain ⟨m,ρ,hd,hr,er,p⟩:=z6_;exact (⟨m,ρ,hd,hr,er,Post.bind p fun x h1 v m1 H1 _ p1 k1 hr1 r1 q1=>by
  cases r1
  exact q1 _ m1 H1 (AC _) (.refl _) hr1 rfl⟩)
def Iw (f g:ME):ME:=fun ρ h=>(f ρ h).bind fun x h1=>match x with
 |.bl true=>g ρ h1
 |.bl false=>.ok (.bl false) h1
 |_=>.stuck
def Qq (f g:ME):ME:=fun ρ h=>(f ρ h).bind fun x h1=>match x with
 |.bl true=>.ok (.bl true) h1
 |.bl false=>g ρ h1
 |_=>.stuck
def K5 (f:ME):ME:=fun ρ h=>(f ρ h).bind fun x h1=>match x with
 |.bl b=>.ok (.bl (!b)) h1
 |_=>.stuck
theorem Nr {o:BoolOp} (h:Ev X E a f):Ev X E (.BoolOp o [a] pos) f:=U1 h
theorem Nt (ha:Ev X E a f) (hb:Ev X E (.BoolOp .And (b::rest) pos) g):Ev X E (.BoolOp .And (a::b::rest) pos) (Iw f g):=
 Ca (U2 ha hb) fun σ H Q ⟨m,ρ,hd,hr,er,p⟩=>⟨m,ρ,hd,hr,er,Post.bind p fun x h1 v m1 H1 _ p1 k1 hr1 r1 q1=>by
  cases x with
  |bl b=>
   refine ⟨b,by simpa [rD,DV] using r1,?_⟩
   cases b with
   |true=>exact ⟨m1,ρ,h1,hr1,er.keep p1 k1,q1⟩
   |false=>exact q1 _ m1 H1 (AC _) (.refl _) hr1 (by simp [rD,DV])
  |_=>exact q1.elim⟩
theorem W2 (ha:Ev X E a f):Ev X E (.UnaryOp .Not a pos) (K5 f):=
 Ca (U3 ha) fun σ H Q z9_=>by obtain ⟨m,ρ,hd,hr,er,p⟩:=z9_;exact (⟨m,ρ,hd,hr,er,Post.bind p fun x h1 v m1 H1 _ p1 k1 hr1 r1 q1=>by
  cases x with
  |bl b=>exact ⟨b,by simpa [rD,DV] using r1,q1 _ m1 H1 (AC _) (.refl _) hr1 (by simp [rD,DV])⟩
  |_=>exact q1.elim⟩)
def JF (t:MT) (f g:ME):ME:=fun ρ h=>(t ρ h).bind fun b h1=>if b=true then f ρ h1 else g ρ h1
theorem Qr (hc:DF X E c tf) (ha:Ev X E a f) (hb:Ev X E b g):Ev X E (.IfExp c a b pos) (JF tf f g):=
 Ca (U5 hc ha hb) fun σ H Q z10_=>by obtain ⟨m,ρ,hd,hr,er,p⟩:=z10_;exact (⟨m,ρ,hd,hr,er,Post.bind p fun x h1 v m1 H1 _ p1 k1 hr1 r1 q1=>by
  cases r1
  cases x with
  |true=>exact ⟨m1,ρ,h1,hr1,er.keep p1 k1,q1⟩
  |false=>exact ⟨m1,ρ,h1,hr1,er.keep p1 k1,q1⟩⟩)
def FN (op op':D→D→HD→Out D) (f g k:ME):ME:=fun ρ h=>(f ρ h).bind fun x h1=>(g ρ h1).bind fun y h2=>(op x y h2).bind fun z h3=>match z with
 |.bl true=>(k ρ h3).bind fun w h4=>op' y w h4
 |.bl false=>.ok (.bl false) h3
 |_=>.stuck
theorem Qs {r r':R2} {op op':D→D→HD→Out D} {o o':Value→Value→Sem Value} (i:∀m H h E x y v u Q,HR X.K m h H→DV X.K m H x v→DV X.K m H y u→Post X.K (rD X.K) m H E Q (op x y h)→r v u H Q)
 (i':∀m H h E x y v u Q,HR X.K m h H→DV X.K m H x v→DV X.K m H y u→Post X.K (rD X.K) m H E Q (op' x y h)→r' v u H Q) {σ:L2.St} {H:Hp} {Q:VK} (h:tD X.K E (FN op op' f g k) σ H Q):
 M8 r r' (tD X.K E f) (tD X.K E g) (tD X.K E k) σ H Q:=by
 obtain ⟨m,ρ,hd,hr,er,p⟩:=h
 refine ⟨m,ρ,hd,hr,er,Post.bind p fun x h1 v m1 H1 _ p1 k1 hr1 r1 q1=>?_⟩
 refine ⟨m1,ρ,h1,hr1,er.keep p1 k1,Post.bind q1 fun y h2 u m2 H2 _ p2 k2 hr2 r2 q2=>?_⟩
 refine i m2 H2 h2 E x y v u _ hr2 (DV.keep p2 k2 r1) r2 (Post.bind q2 fun z h3 w m3 H3 _ p3 k3 hr3 r3 q3=>?_)
 cases z with
 |bl b=>
  refine ⟨b,by simpa [rD,DV] using r3,?_⟩
  cases b with
  |false=>exact q3 _ m3 H3 (AC _) (.refl _) hr3 (by simp [rD,DV])
  |true=>
   refine ⟨m3,ρ,h3,hr3,((er.keep p1 k1).keep p2 k2).keep p3 k3,Post.bind q3 fun z h4 w' m4 H4 _ p4 k4 hr4 r4 q4=>?_⟩
   exact i' m4 H4 h4 E y z u w' Q hr4 (DV.keep p4 k4 (DV.keep p3 k3 r2)) r4 q4
 |_=>exact q3.elim
theorem W3 {o o':CmpOp} {op op':D→D→HD→Out D} (ho:BA X (compareOp o) op) (ho':BA X (compareOp o') op') (ha:Ev X E a f) (hb:Ev X E b g) (hc:Ev X E c k)
 (hm:lastMarks [o,o'] [b,c]=false:=by with_unfolding_all rfl):Ev X E (.Compare a [o,o'] [b,c] pos) (FN op op' f g k):=by
 obtain ⟨r,ho,i⟩:=ho
 obtain ⟨r',ho',i'⟩:=ho'
 exact Ca (VP ho ho' ha hb hc hm) fun σ H Q h=>Qs (o:=compareOp o) (o':=compareOp o') i i' h
theorem Qt {o o':CmpOp} {op op':D→D→HD→Out D} (ho:BA X (compareOp o) op) (ho':BA X (compareOp o') op') (ha:Ev X E a f) (hb:Ev X E b g) (hc:Ev X E c k)
 (hm:lastMarks [o,o'] [b,c]=false:=by with_unfolding_all rfl):DF X E (.Compare a [o,o'] [b,c] pos) (AW (FN op op' f g k)):=by
 obtain ⟨r,ho,i⟩:=ho
 obtain ⟨r',ho',i'⟩:=ho'
 refine K4 (VQ ho ho' ha hb hc hm) fun σ H Q h=>?_
 obtain ⟨m,ρ,hd,hr,er,p⟩:=h
 exact Qs (o:=compareOp o) (o':=compareOp o') i i' ⟨m,ρ,hd,hr,er,Post.bind p fun x h1 v m1 H1 _ p1 k1 hr1 r1 q1=>Ql hr1 r1 q1⟩
variable {es:List Expr} {fa:MA}
def Ae:MA:=fun _ h=>.ok [] h
def Aa (f:ME) (r:MA):MA:=fun ρ h=>(f ρ h).bind fun x h1=>(r ρ h1).bind fun xs h2=>.ok (x::xs) h2
theorem Ag:Dj X E [] Ae:=Qk Na fun σ H Q z11_=>by obtain ⟨m,ρ,hd,hr,er,p⟩:=z11_;exact (p [] m H (AC _) (.refl _) hr .nil)
theorem Ad (ha:Ev X E a f) (hr:Dj X E es fa) (hs:starEach (a::es) X.env=(false,eval a X.env)::starEach es X.env:=by rfl):Dj X E (a::es) (Aa f fa):=
 Qk (Nb ha hr hs) fun σ H Q z12_=>by obtain ⟨m,ρ,hd,hr,er,p⟩:=z12_;exact (⟨m,ρ,hd,hr,er,Post.bind p fun x h1 v m1 H1 _ p1 k1 hr1 r1 q1=>
  ⟨m1,ρ,h1,hr1,er.keep p1 k1,Post.bind q1 fun xs h2 vs m2 H2 _ p2 k2 hr2 r2 q2=>q2 _ m2 H2 (AC _) (.refl _) hr2 (DVs.cons (DV.keep p2 k2 r1) r2)⟩⟩)
def Aw (fa:MA):ME:=fun ρ h=>(fa ρ h).bind fun xs h1=>if xs.length≤sizeLine then .ok (.tup xs) h1 else .stuck
def CH (xs:List D) (h:HD):Out D:=if xs.length≤sizeLine then .ok (.loc h.length) (h++[.lst xs]) else .stuck
def BG (fa:MA):ME:=fun ρ h=>(fa ρ h).bind CH
theorem GS {m:List Addr} {H:Hp} {h:HD} {xs:List D} {vs:List V} {Q:VK} (hr:HR X.K m h H) (r:DVs X.K m H xs vs) (q:Post X.K (rD X.K) m H E Q (.ok (.tup xs) h)):∀p,H p=none→Q (.ref p) (Av H p (.tup vs)):=fun p hp=>
 q (.ref p) m _ (AC _) (.new hp) (hr.new hp) (by simp only [rD,DV];exact ⟨p,vs,rfl,B9,r.keep (AC _) (.new hp)⟩)
theorem Iz {m:List Addr} {H:Hp} {h:HD} {xs:List D} {vs:List V} {Q:VK} (hr:HR X.K m h H) (r:DVs X.K m H xs vs) (q:Post X.K (rD X.K) m H E Q (CH xs h)):vs.length≤sizeLine∧∀p,H p=none→Q (.ref p) (Av H p (.lst vs)):=by
 unfold CH at q
 by_cases hz:xs.length≤sizeLine
 ·rw [if_pos hz] at q
  refine ⟨by rw [←r.len];exact hz,fun p hp=>?_⟩
  refine q (.ref p) (m++[p]) _ (GG _ _) (.new hp) (hr.newCell hp ⟨vs,B9,r.keep (GG _ _) (.new hp)⟩) ?_
  simp only [rD,DV]
  exact ⟨p,rfl,by rw [←hr.len];simp⟩
 ·rw [if_neg hz] at q;exact q.elim
theorem AR {x1:Nat} (h:Dj X E es fa):Ev X E (.Tuple es x1 pos) (Aw fa):=
 Ca (V2 h) fun σ H Q z13_=>by obtain ⟨m,ρ,hd,hr,er,p⟩:=z13_;exact (⟨m,ρ,hd,hr,er,Post.bind p fun xs h1 vs m1 H1 _ p1 k1 hr1 r1 q1=>by
  by_cases hz:xs.length≤sizeLine
  ·rw [if_pos hz] at q1
   exact ⟨by rw [←DVs.len r1];exact hz,GS hr1 r1 q1⟩
  ·rw [if_neg hz] at q1;exact q1.elim⟩)
theorem CA (h:Dj X E es fa):Ev X E (.List es pos) (BG fa):=
 Ca (V3 h) fun σ H Q z14_=>by obtain ⟨m,ρ,hd,hr,er,p⟩:=z14_;exact (⟨m,ρ,hd,hr,er,Post.bind p fun xs h1 vs m1 H1 _ p1 k1 hr1 r1 q1=>Iz hr1 r1 q1⟩)
inductive K6 (K:PySem.W.Frag) (F:List D→HD→Out D) (vs:List V) (H:Hp) (Q:VK) (E:XK):Prop where
 |mk (m:List Addr) (ds:List D) (h:HD) (hr:HR K m h H) (r:DVs K m H ds vs) (p:Post K (rD K) m H E0 Q (F ds h)):K6 K F vs H Q E
def Ar (n:Nat) (F:List D→HD→Out D):Prop:=∀ds h,ds.length≠n→F ds h=.stuck
theorem Ar.len {K:PySem.W.Frag} {n:Nat} {F:List D→HD→Out D} (ar:Ar n F) {vs:List V} {H:Hp} {Q:VK} {E':XK} (h:K6 K F vs H Q E'):vs.length=n:=by
 obtain ⟨m,ds,hd,hr,r,p⟩:=h
 rw [←r.len]
 by_cases e:ds.length=n
 ·exact e
 ·rw [ar ds hd e] at p;exact p.elim
def ar0 (F:HD→Out D):List D→HD→Out D:=fun ds h=>match ds with
 |[]=>F h
 |_=>.stuck
def AB (F:D→HD→Out D):List D→HD→Out D:=fun ds h=>match ds with
 |[a]=>F a h
 |_=>.stuck
def BB (F:D→D→HD→Out D):List D→HD→Out D:=fun ds h=>match ds with
 |[a,b]=>F a b h
 |_=>.stuck
def W4 (F:D→D→D→HD→Out D):List D→HD→Out D:=fun ds h=>match ds with
 |[a,b,c]=>F a b c h
 |_=>.stuck
def Ah (F:List D→HD→Out D) (fa:MA):ME:=fun ρ h=>(fa ρ h).bind F
def DG (X:Cx) (f:Value) (F:List D→HD→Out D):Prop:=
 ∃r:List V→Hp→VK→Prop,DD X f r∧∀m H h E ds vs Q,HR X.K m h H→DVs X.K m H ds vs→Post X.K (rD X.K) m H E Q (F ds h)→r vs H Q
theorem Bk {id:String} {F:List D→HD→Out D} {x:Str} {p pos:Pos} {e:Expr} (hc:DG X (.builtin id) F) (hg:Gl X x) (hm:X.mg x=none) (hv:bootBuiltins x=some (.builtin id)) (ha:Dj X E (e::es) fa) (hn:x≠"__name__":=by decide) (hdb:(x==("__debug__":Str))=false:=by decide)
 (hs:starEach (e::es) X.env=(false,eval e X.env)::starEach es X.env:=by rfl) (hpl:(backTo pos (starEach es X.env)).any (·.1)=false:=by rfl):Ev X E (.Call (.Name x p) (e::es) [] pos) (Ah F fa):=by
 obtain ⟨r,hc,i⟩:=hc
 exact Ca (V7 hc hg hm hv ha hn hdb hs hpl) fun σ H Q z17_=>by obtain ⟨m,ρ,hd,hr,er,p⟩:=z17_;exact (⟨m,ρ,hd,hr,er,Post.bind p fun xs h1 vs m1 H1 e1 p1 k1 hr1 r1 q1=>i m1 H1 h1 E xs vs Q hr1 r1 q1⟩)
theorem DX {id:String} {F:List D→HD→Out D} {x:Str} {p pos:Pos} {e:Expr} (hc:DG X (.type id) F) (hg:Gl X x) (hm:X.mg x=none) (hv:bootBuiltins x=some (.type id)) (ha:Dj X E (e::es) fa) (hn:x≠"__name__":=by decide) (hdb:(x==("__debug__":Str))=false:=by decide)
 (hs:starEach (e::es) X.env=(false,eval e X.env)::starEach es X.env:=by rfl) (hpl:(backTo pos (starEach es X.env)).any (·.1)=false:=by rfl):Ev X E (.Call (.Name x p) (e::es) [] pos) (Ah F fa):=by
 obtain ⟨r,hc,i⟩:=hc
 exact Ca (Ng hc hg hm hv ha hn hdb hs hpl) fun σ H Q z18_=>by obtain ⟨m,ρ,hd,hr,er,p⟩:=z18_;exact (⟨m,ρ,hd,hr,er,Post.bind p fun xs h1 vs m1 H1 e1 p1 k1 hr1 r1 q1=>i m1 H1 h1 E xs vs Q hr1 r1 q1⟩)
end
section
variable {X:Cx} {E:XK}
theorem Bm {K:PySem.W.Frag} {m:List Addr} {H:Hp} {h:HD} {d:D} {v:V} {Q:VK} (hr:HR K m h H) (q:Post K (rD K) m H E Q (.ok d h)) (r:DV K m H d v):Q v H:=q v m H (AC _) (.refl _) hr r
theorem op_catT0:OpR X (binaryOp .Add) (fun x y H Q=>∃a b ys,x=.ref a∧y=.ref b∧SqT X.K H a []∧SqT X.K H b ys∧Q (.ref b) H):=by
 intro pins s σ H x y v u Q I rx ry h
 obtain ⟨a,b,ys,rfl,rfl,ha,hb,q⟩:=h
 cases rx
 cases ry
 obtain ⟨its,r1,p1,_⟩:=I.tuple ha
 obtain ⟨its2,r2,p2,_⟩:=I.tuple hb
 cases r1
 obtain ⟨⟨cls,dd,data,sl⟩,ho,hc,n,hd⟩:=id p1
 obtain ⟨⟨cls2,dd2,data2,sl2⟩,ho2,hc2,n2,hd2⟩:=id p2
 simp only at hc hd hc2 hd2
 subst hc hd hc2 hd2
 exact concat_meets ⟨_,ho,rfl⟩ ⟨_,ho2,rfl⟩ noFill_tuple_add seq_tuple_add PySem.F.slot_tuple_add PySem.F.entry_tuple_add (PySem.F.args_tuple_add_2 _ _)
  (tuple_addW0 a b _ its2.toArray n n2 dd dd2 sl sl2 (by simp)) ⟨ho,ho2,⟨.ref b,H,I,rfl,q⟩⟩
def Ax:D→D→HD→Out D
 |.int i,.int j,h=>.ok (.int (i+j)) h
 |.str x,.str y,h=>if x.length+y.length≤sizeLine then .ok (.str (x++y)) h else .stuck
 |.tup xs,.tup ys,h=>if xs.length+ys.length≤sizeLine then .ok (.tup (xs++ys)) h else .stuck
 |.loc l,.loc k,h=>match h[l]?,h[k]? with
  |some (.lst xs),some (.lst ys)=>CH (xs++ys) h
  |_,_=>.stuck
 |_,_,_=>.stuck
theorem A9:BA X (binaryOp .Add) Ax:=by
 refine ⟨_,op_add.or (op_catT0.or (op_catT.or (op_cat.or VT))),fun m H h E x y v u Q hr rx ry q=>?_⟩
 unfold Ax at q
 split at q
 ·simp only [DV] at rx ry
  subst rx ry
  exact .inl ⟨_,_,rfl,rfl,Bm hr q (by simp [DV])⟩
 ·simp only [DV] at rx ry
  subst rx ry
  split at q
  ·rename_i hz
   exact .inr (.inr (.inr (.inr ⟨_,_,rfl,rfl,hz,Bm hr q (by simp [DV])⟩)))
  ·exact q.elim
 ·rename_i xs ys
  simp only [DV] at rx ry
  obtain ⟨a,vs,rfl,ha,dx⟩:=rx
  obtain ⟨b,ws,rfl,hb,dy⟩:=ry
  split at q
  ·rename_i hz
   cases xs with
   |nil=>
    simp only [DVs] at dx
    subst dx
    exact .inr (.inl ⟨a,b,ws,rfl,rfl,SqT.of ha,SqT.of hb,Bm hr q (by simp only [DV];exact ⟨b,ws,rfl,hb,dy⟩)⟩)
   |cons x xs=>
    refine .inr (.inr (.inl ⟨a,b,vs,ws,rfl,rfl,SqT.of ha,SqT.of hb,?_,by rw [←dx.len,←dy.len];exact hz,fun e=>?_,fun e=>?_⟩))
    ·intro e;have:=dx.len;rw [e] at this;simp at this
    ·subst e
     have:ys=[]:=by have:=dy.len;simpa using this
     subst this
     exact Bm hr q (by simp only [DV];exact ⟨a,vs,rfl,ha,by simpa using dx⟩)
    ·exact GS hr (dx.app dy) q
  ·exact q.elim
 ·simp only [DV] at rx ry
  obtain ⟨a,rfl,ha⟩:=rx
  obtain ⟨b,rfl,hb⟩:=ry
  split at q
  ·rename_i xs ys e1 e2
   obtain ⟨vs,h1,d1⟩:=hr.cells _ _ a e1 ha
   obtain ⟨ws,h2,d2⟩:=hr.cells _ _ b e2 hb
   obtain ⟨z,q'⟩:=Iz hr (d1.app d2) q
   exact .inr (.inr (.inr (.inl ⟨a,b,vs,ws,rfl,rfl,h1,h2,by simpa using z,q'⟩)))
  ·exact q.elim
 ·exact q.elim
def intD (f:Int→Int→D) (c:Int→Int→Prop) [∀i j,Decidable (c i j)]:D→D→HD→Out D
 |.int i,.int j,h=>if c i j then .ok (f i j) h else .stuck
 |_,_,_=>.stuck
theorem Nu {o:Value→Value→Sem Value} {f:Int→Int→V} {g:Int→Int→D} {c c':Int→Int→Prop} [∀i j,Decidable (c' i j)] (h:OpR X o (rI c f)) (hc:∀i j,c' i j→c i j) (hg:∀m H i j,DV X.K m H (g i j) (f i j)):BA X o (intD g c'):=by
 refine ⟨_,h,fun m H h E x y v u Q hr rx ry q=>?_⟩
 unfold intD at q
 split at q
 ·simp only [DV] at rx ry
  subst rx ry
  split at q
  ·rename_i hc'
   exact ⟨_,_,rfl,rfl,hc _ _ hc',Bm hr q (hg _ _ _ _)⟩
  ·exact q.elim
 ·exact q.elim
def Gh (f:Int→Int→D):D→D→HD→Out D
 |.int i,.int j,h=>.ok (f i j) h
 |_,_,_=>.stuck
theorem K7 {o:Value→Value→Sem Value} {f:Int→Int→V} {g:Int→Int→D} (h:OpR X o (Ge f)) (hg:∀m H i j,DV X.K m H (g i j) (f i j)):BA X o (Gh g):=by
 refine ⟨_,h,fun m H h E x y v u Q hr rx ry q=>?_⟩
 unfold Gh at q
 split at q
 ·simp only [DV] at rx ry
  subst rx ry
  exact ⟨_,_,rfl,rfl,Bm hr q (hg _ _ _ _)⟩
 ·exact q.elim
abbrev JG:=Gh fun i j=>.int (i - j)
theorem Qu:BA X (binaryOp .Sub) JG:=K7 VC fun _ _ _ _=>by simp [DV]
abbrev IA:=Gh fun i j=>.bl (decide (i<j))
abbrev JH:=Gh fun i j=>.bl (decide (i≤j))
abbrev Nv:=Gh fun i j=>.bl (decide (j<i))
theorem K8:BA X (compareOp .Lt) IA:=K7 VI fun _ _ _ _=>by simp [DV]
theorem Nw:BA X (compareOp .LtE) JH:=K7 VJ fun _ _ _ _=>by simp [DV]
theorem W5:BA X (compareOp .Gt) Nv:=K7 VL fun _ _ _ _=>by simp [DV]
instance (i j:Int):Decidable (CMul i j):=by unfold CMul;infer_instance
instance (i j:Int):Decidable (PQ i j):=by unfold PQ;infer_instance
instance (i j:Int):Decidable (KU i j):=by unfold KU;infer_instance
abbrev CI:=intD (fun i j=>.int (i % j)) fun _ j=>0<j
theorem FO:BA X (binaryOp .Mod) CI:=Nu VD (fun _ _ h=>h) fun _ _ _ _=>by simp [DV]
abbrev K9:=intD (fun i j=>.int (i^j.toNat)) KU
theorem W6:BA X (binaryOp .Pow) K9:=Nu VE (fun _ _ h=>h) fun _ _ _ _=>by simp [DV]
def ZdC:D→D→HD→Out D
 |.int i,.int j,h=>if CMul i j then .ok (.int (i*j)) h else .stuck
 |.loc l,.int k,h=>match h[l]? with
  |some (.lst xs)=>if -(2^63)≤k∧k<2^63 then CH (List.replicate k.toNat xs).flatten h else .stuck
  |_=>.stuck
 |_,_,_=>.stuck
theorem op_isnotB:OpR X (compareOp .IsNot) (fun x y H Q=>∃b c,x=.bl b∧y=.bl c∧Q (.bl (!(b==c))) H):=by
 intro pins s σ H x y v u Q I rx ry h
 obtain ⟨b,c,rfl,rfl,q⟩:=h
 cases rx
 cases ry
 exact wpAny_isNot_plain rfl ⟨.bl _,H,I,by cases b<;>cases c<;>rfl,q⟩
def JI:D→Bool
 |.non=>true
 |_=>false
def W7:D→D→HD→Out D
 |.bl b,.bl c,h=>.ok (.bl (b==c)) h
 |x,.non,h=>.ok (.bl (JI x)) h
 |_,_,_=>.stuck
def EV:D→D→HD→Out D
 |.bl b,.bl c,h=>.ok (.bl (!(b==c))) h
 |x,.non,h=>.ok (.bl (!JI x)) h
 |_,_,_=>.stuck
theorem W8 {m:List Addr} {H:Hp} {x:D} {v:V} (r:DV X.K m H x v):decide (v=.non)=JI x:=by
 cases x<;>simp only [DV] at r<;>first |(subst r;rfl) |(obtain ⟨_,rfl,_⟩:=r;rfl) |(obtain ⟨_,_,rfl,_⟩:=r;rfl) |(obtain ⟨_,_,_,rfl,_⟩:=r;rfl) |(obtain ⟨rfl,_⟩:=r;rfl)
theorem Nx:BA X (compareOp .IsNot) EV:=by
 refine ⟨_,op_isnotB.or VM,fun m H h E x y v u Q hr rx ry q=>?_⟩
 unfold EV at q
 split at q
 ·simp only [DV] at rx ry
  subst rx ry
  exact .inl ⟨_,_,rfl,rfl,Bm hr q (by simp [DV])⟩
 ·simp only [DV] at ry
  subst ry
  exact .inr ⟨rfl,Bm hr q (by simp [DV,W8 rx])⟩
 ·exact q.elim
end
def AS {α:Type}:List (Option α)→Option (List α)
 |[]=>some []
 |none::_=>none
 |some a::r=>(AS r).map (a::·)
def AU (h:HD):Nat→D→Option PyData
 |_,.non=>some .none
 |_,.bl b=>some (.bool b)
 |_,.int i=>some (.int i)
 |_,.str x=>some (.str x)
 |n+1,.tup ds=>(AS (ds.map (AU h n))).map .tuple
 |n+1,.loc l=>match h[l]? with
  |some (.lst ds)=>(AS (ds.map (AU h n))).map .list
  |_=>none
 |_,_=>none
section
variable {X:Cx} {E:XK} {pins:List (Addr×Obj)} {σ:L2.St} {H:Hp} {s:Shared} {m:List Addr} {h:HD}
theorem Ny {n:Nat} (ih:∀(d:D) (v:V) (u:Value) (p:PyData),DV X.K m H d v→RelV v u→AU h n d=some p→∃as,Reads s.heap u p as):
 ∀(ds:List D) (vs:List V) (us:List Value) (ps:List PyData),DVs X.K m H ds vs→Vals vs us→AS (ds.map (AU h n))=some ps→∃as,ReadsAll s.heap us ps as
 |[],vs,us,ps,r,q,e=>by
  simp only [DVs] at r
  subst r
  cases q
  simp [AS] at e
  subst e
  exact ⟨[],.nil⟩
 |d::ds,vs,us,ps,r,q,e=>by
  simp only [DVs] at r
  obtain ⟨v,w,rfl,rv,rw'⟩:=r
  cases q with
  |cons q1 q2=>
   rw [Bx] at e
   cases ed:AU h n d with
   |none=>rw [ed] at e;simp [AS] at e
   |some p=>
    rw [ed] at e
    simp only [AS,qb0] at e
    obtain ⟨ps',e1,rfl⟩:=e
    obtain ⟨as,h1⟩:=ih d v _ p rv q1 ed
    obtain ⟨bs,h2⟩:=Ny ih ds w _ ps' rw' q2 e1
    exact ⟨as++bs,.cons h1 h2⟩
theorem Nz (hok:HOk X.prog X.w H s.heap) (hr:HR X.K m h H):∀(n:Nat) (d:D) (v:V) (u:Value) (p:PyData),DV X.K m H d v→RelV v u→AU h n d=some p→∃as,Reads s.heap u p as:=by
 intro n
 induction n with
 |zero=>
  intro d v u p r q e
  cases d<;>simp only [AU,DV,Option.some.injEq] at e r<;>try (cases e;done)
  ·subst e r;cases q;exact ⟨[],.none⟩
  ·subst e r;cases q;exact ⟨[],.bool _⟩
  ·subst e r;obtain ⟨t,rfl⟩:=q;exact ⟨[],.int _ _⟩
  ·subst e r;obtain ⟨t,rfl⟩:=q;exact ⟨[],.str _ _⟩
 |succ n ih=>
  intro d v u p r q e
  cases d with
  |non=>simp only [AU,DV,Option.some.injEq] at e r;subst e r;cases q;exact ⟨[],.none⟩
  |bl b=>simp only [AU,DV,Option.some.injEq] at e r;subst e r;cases q;exact ⟨[],.bool _⟩
  |int i=>simp only [AU,DV,Option.some.injEq] at e r;subst e r;obtain ⟨t,rfl⟩:=q;exact ⟨[],.int _ _⟩
  |str x=>simp only [AU,DV,Option.some.injEq] at e r;subst e r;obtain ⟨t,rfl⟩:=q;exact ⟨[],.str _ _⟩
  |tup ds=>
   simp only [AU,DV,qb0] at e r
   obtain ⟨a,vs,rfl,ha,dv⟩:=r
   obtain ⟨ps,e1,rfl⟩:=e
   cases q
   obtain ⟨_,its,rv,⟨o,ho,hc,k,hd⟩,_⟩:=hok a _ ha
   obtain ⟨as,h1⟩:=Ny ih ds vs its ps dv rv e1
   exact ⟨as,.tuple ho hc hd (by simpa using h1)⟩
  |loc l=>
   simp only [DV] at r
   obtain ⟨a,rfl,ha⟩:=r
   cases q
   simp only [AU] at e
   split at e
   ·rename_i ds el
    simp only [qb0] at e
    obtain ⟨ps,e1,rfl⟩:=e
    obtain ⟨vs,hv,dv⟩:=hr.cells l _ a el ha
    obtain ⟨_,its,k,rv,ho⟩:=hok a _ hv
    obtain ⟨as,h1⟩:=Ny ih ds vs its ps dv rv e1
    exact ⟨_,.list ho rfl rfl (by simpa using h1)⟩
   ·cases e
  |scr ns=>simp [AU] at e
  |adr a=>simp [AU] at e
  |ty a=>simp [AU] at e
  |exc n fs=>simp [AU] at e
  |edic=>simp [AU] at e
  |glo n=>simp [AU] at e
  |clo a vs ds=>simp [AU] at e
def FP (f:PyData→PyData→Bool):D→D→HD→Out D:=fun x y h=>match AU h 8 x,AU h 8 y with
 |some p,some q=>if SeqAt.shaped p=true∧SeqAt.shaped q=true then .ok (.bl (f p q)) h else .stuck
 |_,_=>.stuck
abbrev GT:=FP PyData.eqv
abbrev DY:=FP fun p q=>!PyData.eqv p q
theorem Qv {o:CmpOp} {f:PyData→PyData→Bool}
 (rule:∀{s:Shared} {a b:Value} {p q:PyData} {as bs:List Addr} {Q:Value→Shared→Prop},Reads s.heap a p as→Reads s.heap b q bs→SeqAt.shaped p=true→SeqAt.shaped q=true→Q (.bool (f p q)) s→wpAny (model X.prog X.w) X.A (compareOp o a b) Q X.xe s):
 BA X (compareOp o) (FP f):=by
 refine ⟨fun v u H Q=>∃m h x y,HR X.K m h H∧DV X.K m H x v∧DV X.K m H y u∧Post X.K (rD X.K) m H E0 Q (FP f x y h),?_,fun m H h E x y v u Q hr rx ry q=>⟨m,h,x,y,hr,rx,ry,?_⟩⟩
 ·intro pins s σ H x y v u Q I rx ry hq
  obtain ⟨m,h,dx,dy,hr,r1,r2,q⟩:=hq
  unfold FP at q
  split at q
  ·rename_i p p' e1 e2
   split at q
   ·rename_i hs
    obtain ⟨as,h1⟩:=Nz I.hok hr 8 dx x v p r1 rx e1
    obtain ⟨bs,h2⟩:=Nz I.hok hr 8 dy y u p' r2 ry e2
    exact rule h1 h2 hs.1 hs.2 ⟨.bl _,H,I,rfl,Bm hr q (by simp [DV])⟩
   ·exact q.elim
  ·exact q.elim
 ·unfold FP at q ⊢
  split
  ·split
   ·rename_i e1 e2 hs
    rw [e1,e2] at q
    simp only [hs] at q
    exact q
   ·rename_i e1 e2 hs
    rw [e1,e2] at q
    simp only [hs] at q
    exact q.elim
  ·rename_i hn
   split at q
   ·rename_i e1 e2
    exact (hn _ _ e1 e2).elim
   ·exact q.elim
theorem W9 (hu:X.A.units+64<cLine):BA X (compareOp .Eq) GT:=Qv fun ra rb ha hb h=>eq_dataH ra rb ha hb hu h
theorem Xa (hu:X.A.units+64<cLine):BA X (compareOp .NotEq) DY:=Qv fun ra rb ha hb h=>ne_dataH ra rb ha hb hu h
def CY:D→Option V
 |.non=>some .non
 |.bl b=>some (.bl b)
 |.int i=>some (.int i)
 |.str x=>some (.str x)
 |_=>none
theorem La {d:D} {v w:V} (r:DV X.K m H d v) (e:CY d=some w):v=w∧Eo v=true:=by
 cases d<;>simp only [CY,Option.some.injEq,DV] at e r<;>first |(subst e r;exact ⟨rfl,rfl⟩) |cases e
theorem Lb:∀{ds:List D} {vs ws:List V},DVs X.K m H ds vs→AS (ds.map CY)=some ws→vs=ws∧vs.all Eo=true
 |[],vs,ws,r,e=>by
  simp only [DVs] at r
  simp [AS] at e
  subst r e
  exact ⟨rfl,rfl⟩
 |d::ds,vs,ws,r,e=>by
  simp only [DVs] at r
  obtain ⟨v,w,rfl,rv,rw'⟩:=r
  rw [Bx] at e
  cases ed:CY d with
  |none=>rw [ed] at e;simp [AS] at e
  |some p=>
   rw [ed] at e
   simp only [AS,qb0] at e
   obtain ⟨ps',e1,rfl⟩:=e
   obtain ⟨h1,h2⟩:=La rv ed
   obtain ⟨h3,h4⟩:=Lb rw' e1
   subst h1 h3
   exact ⟨rfl,by simp [h2,h4]⟩
def BQ:D→HD→Option (List D)
 |.tup ds,_=>some ds
 |.loc l,h=>match h[l]? with
  |some (.lst ds)=>some ds
  |_=>none
 |.scr ns,_=>some (ns.map .int)
 |_,_=>none
theorem Qw {ns:List Int}:DVs X.K m H (ns.map .int) (ns.map V.int):=by
 induction ns with
 |nil=>exact .nil
 |cons n ns ih=>exact .cons (by simp [DV]) ih
theorem JJ {d:D} {v:V} {ds:List D} (hr:HR X.K m h H) (r:DV X.K m H d v) (e:BQ d h=some ds):∃p vs,v=.ref p∧(SqL X.K H p vs∨SqT X.K H p vs)∧DVs X.K m H ds vs:=by
 cases d with
 |tup xs=>
  simp only [DV,BQ,Option.some.injEq] at r e
  subst e
  obtain ⟨a,vs,rfl,ha,dv⟩:=r
  exact ⟨a,vs,rfl,.inr (SqT.of ha),dv⟩
 |loc l=>
  simp only [DV] at r
  obtain ⟨a,rfl,ha⟩:=r
  simp only [BQ] at e
  split at e
  ·rename_i xs el
   cases e
   obtain ⟨vs,hv,dv⟩:=hr.cells l _ a el ha
   exact ⟨a,vs,rfl,.inl (SqL.of hv),dv⟩
  ·cases e
 |scr ns=>
  simp only [DV,BQ,Option.some.injEq] at r e
  subst e
  obtain ⟨a,rfl,ha⟩:=r
  exact ⟨a,_,rfl,.inl ha.sq,Qw⟩
 |_=>simp [BQ] at e
def DH (neg:Bool):D→D→HD→Out D:=fun x y h=>match BQ y h with
 |none=>.stuck
 |some ds=>match CY x,AS (ds.map CY) with
  |some v,some vs=>.ok (.bl (if neg then !Io v vs else Io v vs)) h
  |_,_=>.stuck
theorem Qx {neg:Bool}:∀m H h E x y v u Q,HR X.K m h H→DV X.K m H x v→DV X.K m H y u→Post X.K (rD X.K) m H E Q (DH neg x y h)→Ni X.K neg v u H Q:=fun m H h E x y v u Q hr rx ry q=>by
 unfold DH at q
 split at q
 ·exact q.elim
 ·rename_i ds e
  split at q
  ·rename_i w ws e1 e2
   obtain ⟨p,vs,rfl,hs,dv⟩:=JJ hr ry e
   obtain ⟨h1,h2⟩:=La rx e1
   obtain ⟨h3,h4⟩:=Lb dv e2
   subst h1 h3
   exact ⟨p,vs,rfl,hs,h2,h4,Bm hr q (by simp [DV])⟩
  ·exact q.elim
theorem Lc:BA X (compareOp .In) (DH false):=⟨_,WC,Qx⟩
theorem Xb:BA X (compareOp .NotIn) (DH true):=⟨_,WD,Qx⟩
def As:D→D→HD→Out D:=fun x y h=>match BQ x h,y with
 |some ds,.int i=>match Di ds i with
  |some d=>.ok d h
  |none=>.stuck
 |_,_=>.stuck
theorem Xd {ds:List D} {vs:List V} {i:Int} {d:D} (r:DVs X.K m H ds vs) (e:Di ds i=some d):∃v,Di vs i=some v∧DV X.K m H d v:=by
 unfold Di at e ⊢
 rw [r.len] at e
 cases k:DW vs.length i with
 |none=>rw [k] at e;cases e
 |some j=>
  rw [k] at e
  exact r.get e
theorem AY {a b:Expr} {pos:Pos} {f g:ME} (ha:Ev X E a f) (hb:Ev X E b g) (hs:Nh b):Ev X E (.Subscript a b pos) (Af As f g):=
 Ca (Qd (ix_list.or ix_tup) ha hb hs) fun σ H Q hq=>JD hq fun m H2 h2 x y v u hr rx ry q=>by
  unfold As at q
  split at q
  ·rename_i ds i e
   split at q
   ·rename_i d ed
    simp only [DV] at ry
    subst ry
    obtain ⟨p,vs,rfl,hsq,dv⟩:=JJ hr rx e
    obtain ⟨w,e1,r1⟩:=Xd dv ed
    rcases hsq with hsq |hsq
    ·exact .inl ⟨p,vs,i,w,rfl,rfl,hsq,e1,Bm hr q r1⟩
    ·exact .inr ⟨p,vs,i,w,rfl,rfl,hsq,e1,Bm hr q r1⟩
   ·exact q.elim
  ·exact q.elim
def CB:D→HD→Out D:=fun x h=>match BQ x h with
 |some ds=>.ok (.int ds.length) h
 |none=>.stuck
theorem GU {F:D→HD→Out D} {ds:List D} {vs:List V} {Q:VK} {C:Prop} (r:DVs X.K m H ds vs) (q:Post X.K (rD X.K) m H E Q (AB F ds h)) (k:∀d v,vs=[v]→DV X.K m H d v→Post X.K (rD X.K) m H E Q (F d h)→C):C:=by
 unfold AB at q
 split at q
 ·simp only [DVs] at r
  obtain ⟨v,w,rfl,rv,rfl⟩:=r
  exact k _ v rfl rv q
 ·exact q.elim
theorem two_of {F:D→D→HD→Out D} {ds:List D} {vs:List V} {Q:VK} {C:Prop} (r:DVs X.K m H ds vs) (q:Post X.K (rD X.K) m H E Q (BB F ds h)) (k:∀d d' v v',vs=[v,v']→DV X.K m H d v→DV X.K m H d' v'→Post X.K (rD X.K) m H E Q (F d d' h)→C):C:=by
 unfold BB at q
 split at q
 ·simp only [DVs] at r
  obtain ⟨v,w,rfl,rv,v',w',rfl,rv',rfl⟩:=r
  exact k _ _ v v' rfl rv rv' q
 ·exact q.elim
theorem FQ:DG X (.builtin "len") (AB CB):=by
 refine ⟨_,WE,fun m H h E ds vs Q hr r q=>GU r q fun d v ev rv q=>?_⟩
 unfold CB at q
 split at q
 ·rename_i xs e
  obtain ⟨p,ws,rfl,hs,dv⟩:=JJ hr rv e
  exact ⟨p,ws,ev,hs,by rw [←dv.len];exact Bm hr q (by simp [DV])⟩
 ·exact q.elim
def CDv (i j:Int):Prop:=0<j∧j<18446744073709551616
instance (i j:Int):Decidable (CDv i j):=by unfold CDv;infer_instance
theorem CDv.no {i j:Int} (h:CDv i j):Builtin.divisionGoesByPylong i j=false:=by
 refine PyProof.noPylong_of_log2 ?_
 have h0:j.natAbs≠0:=by have:=h.1;omega
 have h1:j.natAbs<2^64:=by have:=h.2;have:=h.1;omega
 exact Nat.lt_trans ((Nat.log2_lt h0).mpr h1) (by decide)
theorem Xe:DD X (.builtin "divmod") (fun xs H Q=>∃i j,xs=[.int i,.int j]∧CDv i j∧∀p,H p=none→Q (.ref p) (Av H p (.tup [.int (i / j),.int (i % j)]))):=by
 intro pins s σ H xs us Q I r h
 obtain ⟨i,j,rfl,hc,q⟩:=h
 obtain ⟨u,w',rfl,⟨t,rfl⟩,⟨t',rfl⟩⟩:=KW r
 have h1:=hc.1
 refine divmod_int (by omega) ?_ (.inl hc.no)
 rw [Int.fdiv_eq_ediv_of_nonneg i (by omega),Int.fmod_eq_emod_of_nonneg i (by omega)]
 have hn:H s.heap.objs.size=none:=I.hok.fresh (AG _)
 refine ⟨.ref s.heap.objs.size,_,?_,rfl,q _ hn⟩
 refine I.laid (fun b o e=>AM _ e) (AG _) ⟨by simp only [GH,GK];rw [sizeLine_eq];decide,[.int (i / j) s.toks,.int (i % j) (s.toks+1)],.cons ⟨_,rfl⟩ (.cons ⟨_,rfl⟩ .nil),?_,NoDict.new⟩
 exact ⟨_,BD s.heap rfl,rfl,0,rfl⟩
def JK:D→D→HD→Out D
 |.int i,.int j,h=>if CDv i j then .ok (.tup [.int (i / j),.int (i % j)]) h else .stuck
 |_,_,_=>.stuck
theorem Xf:DG X (.builtin "divmod") (BB JK):=by
 refine ⟨_,Xe,fun m H h E ds vs Q hr r q=>two_of r q fun d d' v v' ev rv rv' q=>?_⟩
 unfold JK at q
 split at q
 ·split at q
  ·rename_i i j hc
   simp only [DV] at rv rv'
   subst rv rv'
   exact ⟨i,j,ev,hc,GS hr (.cons (by simp [DV]) (.cons (by simp [DV]) .nil)) q⟩
  ·exact q.elim
 ·exact q.elim
theorem Xg:OpR X (binaryOp .FloorDiv) (rI CDv fun i j=>.int (i / j)):=KS fun i j _ _ _ _ _ hc q=>by
 have h1:=hc.1
 exact floordiv_int (by omega) (by rw [Int.fdiv_eq_ediv_of_nonneg i (by omega)];exact q) (.inl hc.no)
abbrev Ld:=intD (fun i j=>.int (i / j)) CDv
theorem Xh:BA X (binaryOp .FloorDiv) Ld:=Nu Xg (fun _ _ h=>h) fun _ _ _ _=>by simp [DV]
def JL:D→D→HD→Out D
 |.int i,.int j,h=>.ok (.int (if j>i then j else i)) h
 |_,_,_=>.stuck
def GV:D→D→HD→Out D
 |.int i,.int j,h=>.ok (.int (if j<i then j else i)) h
 |_,_,_=>.stuck
theorem Xi (hc:X.calm=true):DG X (.builtin "max") (BB JL):=by
 refine ⟨_,VU hc,fun m H h E ds vs Q hr r q=>two_of r q fun d d' v v' ev rv rv' q=>?_⟩
 unfold JL at q
 split at q
 ·simp only [DV] at rv rv'
  subst rv rv'
  exact ⟨_,_,ev,Bm hr q (by simp [DV])⟩
 ·exact q.elim
theorem Qy (hc:X.calm=true):DG X (.builtin "min") (BB GV):=by
 refine ⟨_,VV hc,fun m H h E ds vs Q hr r q=>two_of r q fun d d' v v' ev rv rv' q=>?_⟩
 unfold GV at q
 split at q
 ·simp only [DV] at rv rv'
  subst rv rv'
  exact ⟨_,_,ev,Bm hr q (by simp [DV])⟩
 ·exact q.elim
def Gi:D→HD→Out D
 |.int i,h=>.ok (.int i) h
 |.bl b,h=>.ok (.int (if b then 1 else 0)) h
 |_,_=>.stuck
theorem NA:DG X (.type "int") (AB Gi):=by
 refine ⟨_,VW,fun m H h E ds vs Q hr r q=>GU r q fun d v ev rv q=>?_⟩
 unfold Gi at q
 split at q
 ·simp only [DV] at rv;subst rv
  exact .inl ⟨_,ev,Bm hr q (by simp [DV])⟩
 ·simp only [DV] at rv;subst rv
  exact .inr ⟨_,ev,Bm hr q (by simp [DV])⟩
 ·exact q.elim
def Ci:D→HD→Out D:=fun x h=>match x with
 |.tup ds=>.ok (.tup ds) h
 |.loc l=>match h[l]? with
  |some (.lst ds)=>.ok (.tup ds) h
  |_=>.stuck
 |_=>.stuck
theorem Gj:DG X (.type "tuple") (AB Ci):=by
 refine ⟨_,WH,fun m H h E ds vs Q hr r q=>GU r q fun d v ev rv q=>?_⟩
 unfold Ci at q
 split at q
 ·simp only [DV] at rv
  obtain ⟨a,ws,rfl,ha,dv⟩:=rv
  exact ⟨a,ws,ev,.inr ⟨SqT.of ha,Bm hr q (by simp only [DV];exact ⟨a,ws,rfl,ha,dv⟩)⟩⟩
 ·split at q
  ·rename_i ds' el
   simp only [DV] at rv
   obtain ⟨a,rfl,ha⟩:=rv
   obtain ⟨ws,hv,dv⟩:=hr.cells _ _ a el ha
   exact ⟨a,ws,ev,.inl ⟨SqL.of hv,GS hr dv q⟩⟩
  ·exact q.elim
 ·exact q.elim
end
theorem PostS.bind {α β:Type} {K:PySem.W.Frag} {m:List Addr} {H:Hp} {R:List Addr→Hp→α→β→Prop} {E:XK} {Q':β→Hp→Prop} {Dn:En} {o:Out α} {k:α→HD→Out (Fl×Ai)}
 (h:PostS K m H E Dn (o.bind k)) (f:∀a h1 v m1 H1,o=.ok a h1→m <+:m1→Kp H H1→HR K m1 h1 H1→R m1 H1 a v→PostS K m1 H1 E Dn (k a h1)→Q' v H1):Post K R m H E Q' o:=by
 cases o with
 |ok a h1=>exact fun v m1 H1 p kk hr r=>f a h1 v m1 H1 rfl p kk hr r (h.ahead p kk)
 |err C fs h1=>exact h
 |stuck=>exact h
theorem PostS.here {K:PySem.W.Frag} {m:List Addr} {H:Hp} {E:XK} {Dn:En} {a:Fl×Ai} {h:HD} (hr:HR K m h H) (p:PostS K m H E Dn (.ok a h)):Qj K m H Dn a:=p m H (AC _) (.refl _) hr
section
variable {X:Cx} {E:XK} {st:Stmt} {sts b1 b2:List Stmt} {g g1 g2:MS} {e:Expr} {f:ME} {pos:Pos} {t:MT}
def Bp:MS:=fun ρ h=>.ok (.nx,ρ) h
def Ak (g1 g2:MS):MS:=fun ρ h=>(g1 ρ h).bind fun x h1=>match x with
 |(.nx,ρ1)=>g2 ρ1 h1
 |y=>.ok y h1
theorem B7:A8 X E [] Bp:=Nq U9 fun Dn σ H z1_=>by obtain ⟨m,ρ,h,hr,er,p⟩:=z1_;exact ((p.here hr) σ er)
theorem AD (h:Ex X E st g):A8 X E [st] g:=Vb h
theorem Au (h1:Ex X E st g1) (h2:A8 X E sts g2):A8 X E (st::sts) (Ak g1 g2):=
 Nq (Va h1 h2) fun Dn σ H z2_=>by
  obtain ⟨m,ρ,h,hr,er,p⟩:=z2_
  refine ⟨m,ρ,h,hr,er,?_⟩
  unfold Ak at p
  cases o:g1 ρ h with
  |stuck=>rw [o] at p;exact p
  |err C fs h1=>rw [o] at p;exact p
  |ok x h1=>
   rw [o] at p
   obtain ⟨fl,ρ1⟩:=x
   intro m1 H1 p1 k1 hr1
   cases fl with
   |nx=>exact fun σ1 er1=>⟨m1,ρ1,h1,hr1,er1,PostS.ahead p1 k1 p⟩
   |bk=>exact p m1 H1 p1 k1 hr1
   |ct=>exact p m1 H1 p1 k1 hr1
   |rt d=>exact p m1 H1 p1 k1 hr1
def DZ (f:ME):MS:=fun ρ h=>(f ρ h).bind fun _ h1=>.ok (.nx,ρ) h1
theorem GW (he:Ev X E e f) (hs:swapsWith e none pos.line X.env=pure false:=by rfl):Ex X E (.Expr e pos) (DZ f):=
 EO (Vd he hs) fun Dn σ H z3_=>by obtain ⟨m,ρ,h,hr,er,p⟩:=z3_;exact (⟨m,ρ,h,hr,er,PostS.bind p fun x h1 v m1 H1 _ p1 k1 hr1 r1 q1=>(q1.here hr1) σ (er.keep p1 k1)⟩)
def AN (f:ME):MS:=fun ρ h=>(f ρ h).bind fun d h1=>.ok (.rt d,ρ) h1
theorem A4 (he:Ev X E e f):Ex X E (.Return (some e) pos) (AN f):=
 EO (Vf he) fun Dn σ H z4_=>by obtain ⟨m,ρ,h,hr,er,p⟩:=z4_;exact (⟨m,ρ,h,hr,er,PostS.bind p fun x h1 v m1 H1 _ p1 k1 hr1 r1 q1=>(q1.here hr1) v r1⟩)
def Bg (t:MT) (g1 g2:MS):MS:=fun ρ h=>(t ρ h).bind fun b h1=>if b=true then g1 ρ h1 else g2 ρ h1
theorem B8 {c:Expr} (hc:DF X E c t) (ha:A8 X E b1 g1) (hb:A8 X E b2 g2):Ex X E (.If c b1 b2 pos) (Bg t g1 g2):=
 EO (Vh hc ha hb) fun Dn σ H z5_=>by obtain ⟨m,ρ,h,hr,er,p⟩:=z5_;exact (⟨m,ρ,h,hr,er,PostS.bind p fun x h1 v m1 H1 _ p1 k1 hr1 r1 q1=>by
  cases r1
  cases x with
  |true=>exact ⟨m1,ρ,h1,hr1,er.keep p1 k1,q1⟩
  |false=>exact ⟨m1,ρ,h1,hr1,er.keep p1 k1,q1⟩⟩)
def Qz:MS:=fun _ _=>.stuck
theorem Xj:A8 X E sts Qz:=Nq Vj fun Dn σ H z7_=>by obtain ⟨m,ρ,h,hr,er,p⟩:=z7_;exact (p)
def Ay (i:Nat) (f:ME):MS:=fun ρ h=>(f ρ h).bind fun d h1=>.ok (.nx,ρ.set i (some d)) h1
theorem AV {i:Nat} {x:Str} {pos':Pos} (hN:X.N.Nodup) (hi:X.N[i]?=some x) (he:Ev X E e f) (hx:Ii X.env.scope x:=by first |exact .inl rfl |exact .inr rfl) (hs:swapsWith e (some (.Name x pos')) pos.line X.env=pure false:=by rfl) (hf:X.fn x=true∨X.env.scope.names.lookup x=some .local:=by first |exact .inl rfl |exact .inr rfl |assumption):
 Ex X E (.Assign [.Name x pos'] e pos) (Ay i f):=
 EO (Vl hN hi hx he hs hf) fun Dn σ H z9_=>by obtain ⟨m,ρ,h,hr,er,p⟩:=z9_;exact (⟨m,ρ,h,hr,er,PostS.bind p fun x h1 v m1 H1 _ p1 k1 hr1 r1 q1=>(q1.here hr1) _ ((er.keep p1 k1).set r1)⟩)
def GX (i j:Nat) (fa:MA):MS:=fun ρ h=>(fa ρ h).bind fun ds h1=>match ds with
 |[x,y]=>.ok (.nx,(ρ.set i (some x)).set j (some y)) h1
 |_=>.stuck
theorem NB {i j:Nat} {x y:Str} {a b:Expr} {fa:MA} {px py pt:Pos} {kt k2:Nat} {pt2:Pos} (hc:X.calm=true) (hN:X.N.Nodup) (hi:X.N[i]?=some x) (hj:X.N[j]?=some y) (hij:i≠j)
 (hx:X.env.scope.names.lookup x=some .local) (hy:X.env.scope.names.lookup y=some .local) (ha:Dj X E [a,b] fa)
 (hw:swappedStores [.Tuple [.Name x px,.Name y py] kt pt] (.Tuple [a,b] k2 pt2) X.env=pure (some [x,y]))
 (hs:swapsWithSole [.Tuple [.Name x px,.Name y py] kt pt] (.Tuple [a,b] k2 pt2) pos.line X.env=pure false:=by rfl):
 Ex X E (.Assign [.Tuple [.Name x px,.Name y py] kt pt] (.Tuple [a,b] k2 pt2) pos) (GX i j fa):=
 EO (Vn hc hN hi hj hij hx hy ha hw hs) fun Dn σ H z10_=>by obtain ⟨m,ρ,h,hr,er,p⟩:=z10_;exact (⟨m,ρ,h,hr,er,PostS.bind p fun x h1 v m1 H1 _ p1 k1 hr1 r1 q1=>by
  split at q1
  ·simp only [Fg,DVs] at r1
   obtain ⟨v,w,rfl,rv,v',w',rfl,rv',rfl⟩:=r1
   exact ⟨v,v',rfl,(q1.here hr1) _ (((er.keep p1 k1).set rv).set rv')⟩
  ·exact q1.elim⟩)
abbrev MG:=D→Ai→Option Ai
def JM (X:Cx) (tg:Expr) (sg:MG):Prop:=
 ∃gg:TG,PG X tg gg∧∀m H d v ρ σ ρ' Q,DV X.K m H d v→ER X.K m H ρ σ→sg d ρ=some ρ'→(∀σ',ER X.K m H ρ' σ'→Q σ' H)→gg v σ H Q
def Bq (i:Nat):MG:=fun d ρ=>some (ρ.set i (some d))
def Dw (i j:Nat):MG:=fun d ρ=>match d with
 |.tup [x,y]=>some ((ρ.set i (some x)).set j (some y))
 |_=>none
theorem EW {i:Nat} {x:Str} (h:PG X (.Name x pos) (Cy i)):JM X (.Name x pos) (Bq i):=⟨_,h,fun m H d v ρ σ ρ' Q r er e q=>by
 simp only [Bq,Option.some.injEq] at e
 subst e
 exact q _ (er.set r)⟩
theorem GY {i j:Nat} {x y:Str} {px py:Pos} {kt:Nat} (h:PG X (.Tuple [.Name x px,.Name y py] kt pos) (Fe X.K 2 (CU (Cy i) (CU (Cy j) FE)))):JM X (.Tuple [.Name x px,.Name y py] kt pos) (Dw i j):=⟨_,h,fun m H d v ρ σ ρ' Q r er e q=>by
 unfold Dw at e
 split at e
 ·rename_i a b
  cases e
  simp only [DV,DVs] at r
  obtain ⟨p,vs,rfl,hp,v1,w1,rfl,r1,v2,w2,rfl,r2,rfl⟩:=r
  exact ⟨p,_,rfl,SqT.of hp,rfl,v1,_,rfl,v2,_,rfl,rfl,q _ ((er.set r1).set r2)⟩
 ·cases e⟩
def FR (sg:MG) (f:ME):MS:=fun ρ h=>(f ρ h).bind fun d h1=>match sg d ρ with
 |some ρ1=>.ok (.nx,ρ1) h1
 |none=>.stuck
theorem IB {tg:Expr} {sg:MG} (he:Ev X E e f) (hg:JM X tg sg) (hs:swapsWithSole [tg] e pos.line X.env=pure false:=by rfl) (hw:swappedStores [tg] e X.env=pure none:=by rfl)
 (h1:(assignEach [tg] X.env).map (·.2)=[assign tg X.env]:=by rfl):Ex X E (.Assign [tg] e pos) (FR sg f):=by
 obtain ⟨gg,hg,i⟩:=hg
 exact EO (KP he hg hs hw h1) fun Dn σ H z11_=>by obtain ⟨m,ρ,h,hr,er,p⟩:=z11_;exact (⟨m,ρ,h,hr,er,PostS.bind p fun x h1 v m1 H1 _ p1 k1 hr1 r1 q1=>by
  split at q1
  ·rename_i ρ1 es
   exact i m1 H1 x v ρ σ ρ1 _ r1 (er.keep p1 k1) es fun σ' er'=>(q1.here hr1) σ' er'
  ·exact q1.elim⟩)
abbrev Bc:=List (Nat×List D)
def BR (src:Bc) (items:List D) (h:HD):Prop:=∀p∈src,h[p.1]?=some (.lst p.2)
theorem CC {items:List D} {h:HD}:BR [] items h:=fun p z=>nomatch z
theorem IC {items ds:List D} {h:HD} {l:Nat} (e:h[l]?=some (.lst ds)):BR [(l,ds)] items h:=fun p z=>by
 rw [qaA] at z
 subst z
 exact e
def Le (K:PySem.W.Frag):List Addr→Hp→(List D×Bc)→It→Prop:=fun m1 H1 x J=>
 ∀i m2 h2 H2,m1 <+:m2→Kp H1 H2→HR K m2 h2 H2→BR x.2 x.1 h2→
  (i<x.1.length→J.go i H2∧∀y H3,J.yld i H2 y H3→Kp H2 H3∧HR K m2 h2 H3∧∃d,x.1[i]?=some d∧DV K m2 H3 d y)∧(i=x.1.length→J.stop i H2)
abbrev MI:=Ai→HD→Out (List D×Bc)
abbrev Gk (X:Cx) (E:XK) (tg iter:Expr) (it:MI):Prop:=PI X tg iter (tM X.K (Le X.K) E it)
theorem JN {tg iter:Expr} {w w':TI} (h:PI X tg iter w) (i:∀σ H R,w' σ H R→w σ H R):PI X tg iter w':=fun pins s σ H R I q=>h pins s σ H R I (i σ H R q)
theorem Xk {tg l:Expr} {tl:TE} (hl:PE X l tl):PI X tg l (fun σ H R=>tl σ H fun x H1=>∃a,x=.ref a∧(((∃xs,SqL X.K H1 a xs)∧R (Jw X.K a) H1)∨((∃xs,SqT X.K H1 a xs)∧R (Jx X.K a) H1))):=by
 intro pins s σ H R I h
 refine AA (hl pins s σ H _ I h) fun v s1 z12_=>?_
 obtain ⟨x,H1,I1,r1,q1⟩:=z12_
 obtain ⟨a,e,q⟩:=q1
 subst e
 cases r1
 rcases q with ⟨⟨xs,hq⟩,q⟩ |⟨⟨xs,hq⟩,q⟩
 ·obtain ⟨its,rv,p,hz⟩:=I1.list hq
  refine wpAny_pyIter_list p.isList ?_
  refine ⟨s1.heap.objs.size,[s1.heap.objs.size],_,_,H1,rfl,I1.kept (t':=s1.toks) fun b o e=>AM _ e,Vq a _,⟨_,BD _ rfl,rfl,rfl⟩,fun b hb=>?_,q⟩
  have e:b=s1.heap.objs.size:=by simpa using hb
  subst e
  exact I1.fpOk (AG _) (I1.hok.fresh (AG _))
 ·obtain ⟨its,rv,p,hz⟩:=I1.tuple hq
  refine wpAny_pyIter_tuple (show s1.heap.IsTuple a its.toArray from p) ?_
  refine ⟨s1.heap.objs.size,[s1.heap.objs.size],_,_,H1,rfl,I1.kept (t':=s1.toks) fun b o e=>AM _ e,Vr a _,⟨_,BD _ rfl,rfl,rfl⟩,fun b hb=>?_,q⟩
  have e:b=s1.heap.objs.size:=by simpa using hb
  subst e
  exact I1.fpOk (AG _) (I1.hok.fresh (AG _))
def QC:D→List D→Bc
 |.loc l,ds=>[(l,ds)]
 |_,_=>[]
def GZ (d:D) (h:HD):Out (List D×Bc):=match BQ d h with
 |some ds=>.ok (ds,QC d ds) h
 |none=>.stuck
def B1 (f:ME):MI:=fun ρ h=>(f ρ h).bind GZ
theorem Kp.lget {H H':Hp} {a:Addr} {K:PySem.W.Frag} {xs:List V} (k:Kp H H') (h:FzL K H a xs):SqL K H' a xs:=(k.fzL h).sq
theorem QE {K:PySem.W.Frag} {a:Addr} {m:List Addr} {H:Hp} {h:HD} {i:Nat} {items:List D} {vs:List V} (hr:HR K m h H) (hs:SqL K H a vs) (dv:DVs K m H items vs) (uniq:∀ys,SqL K H a ys→ys=vs∨True):
 (i<items.length→(Jw K a).go i H∧∀y H3,(Jw K a).yld i H y H3→Kp H H3∧HR K m h H3∧∃d,items[i]?=some d∧DV K m H3 d y)∧(i=items.length→(Jw K a).stop i H):=by
 refine ⟨fun hi=>?_,fun hi=>⟨vs,hs,by rw [←dv.len];exact Nat.le_of_eq hi.symm⟩⟩
 have hd:items[i]?=some items[i]:=Ba hi
 obtain ⟨v,e1,r1⟩:=dv.get hd
 refine ⟨⟨vs,v,hs,e1⟩,fun y H3 z13_=>?_⟩
 obtain ⟨e3,hy⟩:=z13_
 subst e3
 have:=hy vs hs
 rw [e1] at this
 cases this
 exact ⟨.refl _,hr,_,hd,r1⟩
theorem Xl {K:PySem.W.Frag} {a:Addr} {m:List Addr} {H:Hp} {h:HD} {i:Nat} {items:List D} {vs:List V} (hr:HR K m h H) (hs:SqT K H a vs) (dv:DVs K m H items vs):
 (i<items.length→(Jx K a).go i H∧∀y H3,(Jx K a).yld i H y H3→Kp H H3∧HR K m h H3∧∃d,items[i]?=some d∧DV K m H3 d y)∧(i=items.length→(Jx K a).stop i H):=by
 refine ⟨fun hi=>?_,fun hi=>⟨vs,hs,by rw [←dv.len];exact Nat.le_of_eq hi.symm⟩⟩
 have hd:items[i]?=some items[i]:=Ba hi
 obtain ⟨v,e1,r1⟩:=dv.get hd
 refine ⟨⟨vs,v,hs,e1⟩,fun y H3 z14_=>?_⟩
 obtain ⟨e3,hy⟩:=z14_
 subst e3
 have:=hy vs hs
 rw [e1] at this
 cases this
 exact ⟨.refl _,hr,_,hd,r1⟩
theorem CZ {tg a:Expr} (ha:Ev X E a f):Gk X E tg a (B1 f):=
 JN (Xk ha) fun σ H R ⟨m,ρ,h,hr,er,p⟩=>⟨m,ρ,h,hr,er,Post.bind p fun x h1 v m1 H1 _ p1 k1 hr1 r1 q1=>by
  unfold GZ at q1
  split at q1
  ·rename_i ds eds
   cases x with
   |tup xs=>
    simp only [BQ,Option.some.injEq] at eds
    subst eds
    simp only [rD,DV] at r1
    obtain ⟨a,vs,rfl,ha,dv⟩:=r1
    refine ⟨a,rfl,.inr ⟨⟨vs,SqT.of ha⟩,q1 _ m1 H1 (AC _) (.refl _) hr1 fun i m2 h2 H2 p2 k2 hr2 _=>?_⟩⟩
    exact Xl hr2 (SqT.of (k2 _ _ ha rfl)) (dv.keep p2 k2)
   |loc l=>
    simp only [rD,DV] at r1
    obtain ⟨a,rfl,ha⟩:=r1
    simp only [BQ] at eds
    split at eds
    ·rename_i xs el
     cases eds
     obtain ⟨vs,hv,dv⟩:=hr1.cells l _ a el ha
     refine ⟨a,rfl,.inl ⟨⟨vs,SqL.of hv⟩,q1 _ m1 H1 (AC _) (.refl _) hr1 fun i m2 h2 H2 p2 k2 hr2 hs=>?_⟩⟩
     obtain ⟨ws,hw,dw⟩:=hr2.cells l _ a (hs _ Bf) (JB p2 ha)
     exact QE hr2 (SqL.of hw) dw fun _ _=>.inr trivial
    ·cases eds
   |scr ns=>
    simp only [BQ,Option.some.injEq] at eds
    subst eds
    simp only [rD,DV] at r1
    obtain ⟨a,rfl,ha⟩:=r1
    refine ⟨a,rfl,.inl ⟨⟨_,ha.sq⟩,q1 _ m1 H1 (AC _) (.refl _) hr1 fun i m2 h2 H2 p2 k2 hr2 _=>?_⟩⟩
    exact QE hr2 (k2.lget ha) Qw fun _ _=>.inr trivial
   |_=>simp [BQ] at eds
  ·exact q1.elim⟩
def Gm (lo:Int) (n:Nat):List D:=(List.range n).map fun k=>.int (lo+(k:Nat))
theorem QF {K:PySem.W.Frag} {m1:List Addr} {H1:Hp} (lo:Int) (n:Nat):Le K m1 H1 (Gm lo n,[]) (Jy lo n):=fun i m2 h2 H2 p2 k2 hr2 _=>by
 refine ⟨fun hi=>?_,fun hi=>?_⟩
 ·have hi':i<n:=by simpa [Gm] using hi
  refine ⟨hi',fun y H3 z16_=>?_⟩
  obtain ⟨e3,ey⟩:=z16_
  subst e3 ey
  refine ⟨.refl _,hr2,.int (lo+i),?_,by simp [DV]⟩
  simp [Gm,List.getElem?_range,hi']
 ·show n≤i
  have hi':i=n:=by simpa [Gm] using hi
  omega
@[irreducible] noncomputable def G0:List D→HD→Out (List D×Bc):=fun ds h=>match ds with
  |[.int j]=>@ite _ (-(2^62)≤j∧j<2^62) (Classical.propDecidable _) (.ok (Gm 0 j.toNat,[]) h) .stuck
  |_=>.stuck
@[irreducible] noncomputable def JO:List D→HD→Out (List D×Bc):=fun ds h=>match ds with
  |[.int i,.int j]=>@ite _ ((-(2^62)≤i∧i<2^62)∧-(2^62)≤j∧j<2^62) (Classical.propDecidable _) (.ok (Gm i (j - i).toNat,[]) h) .stuck
  |_=>.stuck
noncomputable def CJ (fa:MA):MI:=fun ρ h=>(fa ρ h).bind G0
noncomputable def Lf (fa:MA):MI:=fun ρ h=>(fa ρ h).bind JO
theorem DI {tg a:Expr} {fa:MA} {p pos:Pos} (hg:Gl X "range") (hm:X.mg "range"=none) (ha:Dj X E [a] fa) (hs:starEach [a] X.env=[(false,eval a X.env)]:=by rfl):Gk X E tg (.Call (.Name "range" p) [a] [] pos) (CJ fa):=
 JN (Vv hg hm ha hs) fun σ H R z17_=>by obtain ⟨m,ρ,h,hr,er,p⟩:=z17_;exact (⟨m,ρ,h,hr,er,Post.bind p fun x h1 v m1 H1 _ p1 k1 hr1 r1 q1=>by
  unfold G0 at q1
  split at q1
  ·split at q1
   ·rename_i hj
    simp only [Fg,DVs,DV] at r1
    obtain ⟨v,w,rfl,rfl,rfl⟩:=r1
    exact ⟨_,rfl,hj.1,hj.2,q1 _ m1 H1 (AC _) (.refl _) hr1 (QF 0 _)⟩
   ·exact q1.elim
  ·exact q1.elim⟩)
theorem Xm {tg a b:Expr} {fa:MA} {p pos:Pos} (hg:Gl X "range") (hm:X.mg "range"=none) (ha:Dj X E [a,b] fa) (hs:starEach [a,b] X.env=[(false,eval a X.env),(false,eval b X.env)]:=by rfl) (hs2:starEach [b] X.env=[(false,eval b X.env)]:=by rfl):Gk X E tg (.Call (.Name "range" p) [a,b] [] pos) (Lf fa):=
 JN (Vw hg hm ha hs hs2) fun σ H R z18_=>by obtain ⟨m,ρ,h,hr,er,p⟩:=z18_;exact (⟨m,ρ,h,hr,er,Post.bind p fun x h1 v m1 H1 _ p1 k1 hr1 r1 q1=>by
  unfold JO at q1
  split at q1
  ·split at q1
   ·rename_i hj
    simp only [Fg,DVs,DV] at r1
    obtain ⟨v,w,rfl,rfl,v',w',rfl,rfl,rfl⟩:=r1
    exact ⟨_,_,rfl,⟨hj.1.1,hj.1.2,hj.2.1,hj.2.2⟩,q1 _ m1 H1 (AC _) (.refl _) hr1 (QF _ _)⟩
   ·exact q1.elim
  ·exact q1.elim⟩)
open Classical in
noncomputable def Fh (src:Bc) (items:List D) (sg:MG) (body:MS):List D→MS
 |[]=>fun ρ h=>if BR src items h then .ok (.nx,ρ) h else .stuck
 |d::ds=>fun ρ h=>if BR src items h then match sg d ρ with
   |none=>.stuck
   |some ρ1=>(body ρ1 h).bind fun x h2=>match x with
    |(.nx,ρ2)=>Fh src items sg body ds ρ2 h2
    |(.ct,ρ2)=>Fh src items sg body ds ρ2 h2
    |(.bk,ρ2)=>.ok (.nx,ρ2) h2
    |(.rt d,ρ2)=>.ok (.rt d,ρ2) h2
  else .stuck
noncomputable def Cb (it:MI) (sg:MG) (body:MS):MS:=fun ρ h=>(it ρ h).bind fun x h1=>Fh x.2 x.1 sg body x.1 ρ h1
inductive QG (K:PySem.W.Frag) (E:XK) (Dn:En) (src:Bc) (items:List D) (sg:MG) (g:MS) (m1:List Addr) (H1:Hp) (i n:Nat) (σ2:L2.St) (H2:Hp):Prop where
 |mk (e:n=items.length - i) (l:i≤items.length) (m2:List Addr) (ρ2:Ai) (h2:HD) (p:m1 <+:m2) (k:Kp H1 H2) (hr:HR K m2 h2 H2) (er:ER K m2 H2 ρ2 σ2) (q:PostS K m2 H2 E Dn (Fh src items sg g (items.drop i) ρ2 h2)):QG K E Dn src items sg g m1 H1 i n σ2 H2
inductive QH (K:PySem.W.Frag) (E:XK) (Dn:En) (src:Bc) (items:List D) (sg:MG) (g:MS) (m1:List Addr) (H1:Hp) (i:Nat) (σ2:L2.St) (H2:Hp):Prop where
 |mk (m2:List Addr) (ρ2:Ai) (h2:HD) (p:m1 <+:m2) (k:Kp H1 H2) (hr:HR K m2 h2 H2) (er:ER K m2 H2 ρ2 σ2) (q:PostS K m2 H2 E Dn (Fh src items sg g (items.drop i) ρ2 h2)):QH K E Dn src items sg g m1 H1 i σ2 H2
theorem Dm {tg iter:Expr} {body:List Stmt} {it:MI} {sg:MG} {g:MS} (hp:PassesOwn (model X.prog X.w) X.A X.env X.xe) (hc:X.calm=true) (hi:Gk X E tg iter it) (hg:JM X tg sg) (hb:A8 X E body g)
 (hs:∀x,foldedSetIterable iter X.env x=pure x:=by intro _;rfl):Ex X E (.For tg iter body [] pos) (Cb it sg g):=by
 obtain ⟨gg,hg,ig⟩:=hg
 refine EO (Vz hp hc hi hg hb hs) ?_
 rintro Dn σ H ⟨m,ρ,h,hr,er,p⟩
 refine ⟨m,ρ,h,hr,er,PostS.bind p fun x h1 J m1 H1 _ p1 k1 hr1 r1 q1=>?_⟩
 obtain ⟨items,src⟩:=x
 refine ⟨QG X.K E Dn src items sg g m1 H1,⟨items.length,rfl,B5 _,m1,ρ,h1,AC _,.refl _,hr1,er.keep p1 k1,by simpa using q1⟩,?_⟩
 rintro i n σ2 H2 ⟨rfl,hi,m2,ρ2,h2,p2,k2,hr2,er2,q2⟩
 by_cases hlt:i<items.length
 ·rw [MN hlt] at q2
  unfold Fh at q2
  split at q2
  ·rename_i hs
   obtain ⟨hgo,hy⟩:=(r1 i m2 h2 H2 p2 k2 hr2 hs).1 hlt
   refine .inr ⟨hgo,QH X.K E Dn src items sg g m1 H1 (i+1),fun σ5 H5 z20_=>by obtain ⟨m5,ρ5,h5,a1,a2,a3,a4,a5⟩:=z20_;exact (⟨items.length - (i+1),by omega,rfl,hlt,m5,ρ5,h5,a1,a2,a3,a4,a5⟩),fun y H3 hyl=>?_⟩
   obtain ⟨k3,hr3,d,ed,rd⟩:=hy y H3 hyl
   have ed':d=items[i]:=by rw [Ba hlt] at ed;exact (Option.some.inj ed).symm
   subst ed'
   split at q2
   ·exact q2.elim
   ·rename_i ρ3 es
    refine ig m2 H3 _ y ρ2 σ2 ρ3 _ rd (er2.keep (AC _) k3) es fun σ4 er4=>?_
    refine ⟨m2,ρ3,h2,hr3,er4,?_⟩
    have q3:=PostS.ahead (AC _) k3 q2
    cases o:g ρ3 h2 with
    |stuck=>rw [o] at q3;exact q3
    |err C fs h5=>rw [o] at q3;exact q3
    |ok z h5=>
     rw [o] at q3
     obtain ⟨fl,ρ5⟩:=z
     intro m5 H5 p5 k5 hr5
     have pk:m1 <+:m5:=p2.trans p5
     have kk:Kp H1 H5:=(k2.trans k3).trans k5
     cases fl with
     |nx=>exact fun σ5 er5=>⟨m5,ρ5,h5,pk,kk,hr5,er5,PostS.ahead p5 k5 q3⟩
     |ct=>exact fun σ5 er5=>⟨m5,ρ5,h5,pk,kk,hr5,er5,PostS.ahead p5 k5 q3⟩
     |bk=>exact fun σ5 er5=>q3 m5 H5 p5 k5 hr5 σ5 er5
     |rt d=>exact fun v rv=>q3 m5 H5 p5 k5 hr5 v rv
  ·exact q2.elim
 ·have he:i=items.length:=Nat.le_antisymm hi (Jp hlt)
  subst he
  rw [List.drop_length] at q2
  unfold Fh at q2
  split at q2
  ·rename_i hs
   exact .inl ⟨(r1 _ m2 h2 H2 p2 k2 hr2 hs).2 rfl,(q2.here hr2) σ2 er2⟩
  ·exact q2.elim
end
section
variable {M:Model} {A:Around} {E:Value→Shared→Prop} {s:Shared}
theorem NC {env:Env}:∀(names:List (Str×NameKind)) (acc:List (Str×Addr)),(∀y∈names,y.2=.free→∃c,env.cells.lookup y.1=some c)→
 ∃cl:List (Str×Addr),(forIn names acc (fun (x:Str×NameKind) (cs:List (Str×Addr))=>match x with
  |(name,kind)=>if (kind==NameKind.free)=true then do let y ←cellOf env name;pure (ForInStep.yield ((name,y)::cs)) else pure (ForInStep.yield cs)):Sem (List (Str×Addr)))=pure cl∧
  (∀x c,(x,c)∈cl→(x,c)∈acc∨(env.cells.lookup x=some c∧(x,NameKind.free)∈names))∧(∀y∈names,y.2=.free→∃c,(y.1,c)∈cl)∧(∀p∈acc,p∈cl)
 |[],acc,_=>⟨acc,rfl,fun x c h=>.inl h,fun y hy=>absurd hy (by simp),fun p h=>h⟩
 |(name,kind)::r,acc,h=>by
  rw [GL]
  by_cases hk:kind=.free
  ·subst hk
   obtain ⟨c,hc⟩:=h (name,.free) Bf rfl
   obtain ⟨cl,e,h1,h2,h3⟩:=NC (env:=env) r ((name,c)::acc) (fun y hy=>h y (Bn _ hy))
   refine ⟨cl,?_,fun x c' hm=>?_,fun y hy hf=>?_,fun p hp=>h3 p (Bn _ hp)⟩
   ·rw [←e]
    have:cellOf env name=pure c:=by unfold cellOf;rw [hc]
    simp only [this,beq_self_eq_true,if_true,pure_bind]
   ·rcases h1 x c' hm with q |⟨q1,q2⟩
    ·rcases qa5.mp q with q |q
     ·cases q;exact .inr ⟨hc,Bf⟩
     ·exact .inl q
    ·exact .inr ⟨q1,Bn _ q2⟩
   ·rcases qa5.mp hy with q |q
    ·subst q;exact ⟨c,h3 _ Bf⟩
    ·exact h2 y q hf
  ·obtain ⟨cl,e,h1,h2,h3⟩:=NC (env:=env) r acc (fun y hy=>h y (Bn _ hy))
   refine ⟨cl,?_,fun x c' hm=>?_,fun y hy hf=>?_,h3⟩
   ·rw [←e]
    have hk':(kind==NameKind.free)=false:=by simpa using hk
    simp only [hk',Dv,if_false,pure_bind]
   ·rcases h1 x c' hm with q |⟨q1,q2⟩
    ·exact .inl q
    ·exact .inr ⟨q1,Bn _ q2⟩
   ·rcases qa5.mp hy with q |q
    ·subst q;exact absurd hf hk
    ·exact h2 y q hf
theorem QJ {scope:Scope} {env:Env} (h:∀y∈scope.names,y.2=.free→∃c,env.cells.lookup y.1=some c):
 ∃cl:List (Str×Addr),closureFor scope env=pure cl∧(∀x c,(x,c)∈cl→env.cells.lookup x=some c∧(x,NameKind.free)∈scope.names)∧(∀y∈scope.names,y.2=.free→∃c,(y.1,c)∈cl):=by
 obtain ⟨cl,e,h1,h2,h3⟩:=NC (env:=env) scope.names [] h
 refine ⟨cl,?_,fun x c hm=>?_,h2⟩
 ·unfold closureFor
  simp only [bind_pure]
  exact e
 ·rcases h1 x c hm with q |q
  ·exact nomatch q
  ·exact q
theorem Xn {scope:Scope} {globals:Addr} {cl:List (Str×Addr)} {qual:Str} {around:Env} {Q:Env→Shared→Prop}
 (h:Q (newEnv scope s.heap.objs.size globals (cellsFrom (s.heap.objs.size+1) scope.names cl) qual none .none (some around) builtinsNs) {s with heap:=pushCells (s.heap.push {cls:=.type "dict",data:=.dict #[]}) scope.names}):
 wpAny M A (newFunctionEnv scope globals cl [] qual none .none (some around)) Q E s:=by
 simp only [newFunctionEnv,Option.isSome_some,if_true]
 refine wpAny_bind (wpAny_alloc ?_)
 refine wpAny_bind (wpAny_layCells _ (fun name kind cells=>by cases hkc:kind==NameKind.cell<;>simp [hkc]) _ _ _ _ ?_)
 simp only [GM,pure_bind]
 refine wpAny_pure ?_
 rw [show ({s with heap:=s.heap.push {cls:=.type "dict",data:=.dict #[]}}:Shared).heap.objs.size=s.heap.objs.size+1 from DT ..]
 exact h
end
section
variable {prog:Program} {w:World} {A:Around} {R:Result→Shared→Prop} {s:Shared}
theorem Xo {elt target iter:Expr} {ifs:List Expr} {scope:Scope} {pos:Pos} {it acc:Value} {env:Env} (I:Nat→Shared→Prop)
 (turn:∀n s,I n s→wpAny (model prog w) A (pyNext it) (fun r s₁=>match r with
  |none=>R (.ok .next) s₁
  |some v=>wpAny (model prog w) A (letOwnedTupleGo target it v) (fun _ s₁'=>wpAny (model prog w) A (assign target env v) (fun _ s₂=>
   wpAny (model prog w) A (forIn ifs true fun c r=>if r=true then do let ok ←isTrue c env (eval c env);pure (ForInStep.yield ok) else pure (ForInStep.yield r)) (fun ok s₃=>
    if ok=true then wpAny (model prog w) A (eval elt env) (fun x s₄=>
     wpAny (model prog w) A (call (.builtin "list.append") [acc,x]) (fun _ s₅=>∃m,m<n∧I m s₅) (notedBy (model prog w) A env fun e s'=>R (.error e) s') s₄) (notedBy (model prog w) A env fun e s'=>R (.error e) s') s₃
    else ∃m,m<n∧I m s₃) (notedBy (model prog w) A env fun e s'=>R (.error e) s') s₂) (notedBy (model prog w) A env fun e s'=>R (.error e) s') s₁') (notedBy (model prog w) A env fun e s'=>R (.error e) s') s₁) (notedBy (model prog w) A env fun e s'=>R (.error e) s') s)
 (n:Nat) (h:I n s):
 codeAny (model prog w) A (.compLoop (.ListComp elt [⟨target,iter,ifs,0⟩] scope pos) 0 it acc env) R s:=by
 refine codeAny_loop rfl I (fun n s hI=>?_) n h
 show wpAny _ A ((compTurn (.ListComp elt [⟨target,iter,ifs,0⟩] scope pos) 0 it acc env).onRaise (fun x=>do noteFrame x env;theTreesLotGoes x)) _ _ s
 refine wpAny_noted ?_
 rw [compTurn_list]
 refine wpAny_bind (wpAny_standAt (wpAny_bind (wpAny_mono (turn n s hI) (fun r s₁ h₁=>?_) fun _ _ h'=>h')))
 cases r with
 |none=>exact wpAny_pure h₁
 |some v=>
  refine wpAny_bind (wpAny_mono h₁ (fun _ s₁' h₁'=>?_) fun _ _ h'=>h')
  refine wpAny_bind (wpAny_mono h₁' (fun _ s₂ h₂=>wpAny_bind (wpAny_mono h₂ (fun ok s₃ h₃=>?_) fun _ _ h'=>h')) fun _ _ h'=>h')
  cases ok with
  |false=>exact wpAny_pure ⟨rfl,h₃⟩
  |true=>
   exact wpAny_bind (wpAny_bind (wpAny_mono h₃ (fun x s₄ h₄=>wpAny_bind (wpAny_mono h₄ (fun _ s₅ h₅=>wpAny_pure (wpAny_pure ⟨rfl,h₅⟩)) fun _ _ h'=>h')) fun _ _ h'=>h'))
end
def JP (X:Cx) (ifs:List Expr) (t:TT):Prop:=∀(pins:List (Addr×Obj)) (s:Shared) (σ:L2.St) (H:Hp) (Q:Bool→Hp→Prop),Inv X pins σ H s→t σ H Q→
 wpAny (model X.prog X.w) X.A (forIn ifs true fun c r=>if r=true then do let ok ←isTrue c X.env (eval c X.env);pure (ForInStep.yield ok) else pure (ForInStep.yield r)) (TP X pins σ Q) X.xe s
theorem Xp {X:Cx}:JP X [] (fun _ H Q=>Q true H):=fun _ _ _ H _ I h=>wpAny_tests_nil ⟨H,I,h⟩
theorem Xq {X:Cx} {c:Expr} {t:TT} (h:PT X c t):JP X [c] t:=fun pins s σ H Q I q=>wpAny_tests_one (h pins s σ H Q I q)
def QK (env:Env) (scope:Scope) (C:Addr) (cells:List (Str×Addr)):Env:=
 {scope:=relabel scope env,locals:=C,globals:=env.globals,cells:=cells,qual:=env.qual,func:=none,code:=env.code,frame:=env.frame,builtins:=env.builtins}
def CT (X:Cx) (Nc:List Str) (scope:Scope) (C D:Addr) (cells:List (Str×Addr)) (fp:List Addr) (s₀:Shared) (H₀:Hp) (pins:List (Addr×Obj)):Cx:=
 {X with N:=Nc,s₀:=s₀,H₀:=H₀,env:=QK X.env scope C cells,outer:=X.stack,stack:=X.stack,ex:=D::fp,fn:=fun x=>scope.names.lookup x==some .cell,pn:=X.pn++pins,xe:=fun _ _=>False}
def BW (cs:List (Option Nat)) (σ:L2.St):L2.St:=cs.map fun o=>o.bind fun j=>(σ[j]?).join
def Sub (σ σ':L2.St):Prop:=σ.length=σ'.length∧∀(i:Nat) v,σ[i]?=some (some v)→σ'[i]?=some (some v)
def Lg (cs:List (Option Nat)) (wi:TI) (g:TG) (tc:TT) (te:TE):TE:=fun σ H Q=>wi σ H fun J H1=>∃W:Nat→Nat→List V→Hp→Prop,(∃n,W 0 n [] H1)∧∀i n acc H,W i n acc H→
 (J.stop i H∧acc.length≤sizeLine∧∀p,H p=none→Q (.ref p) (Av H p (.lst acc)))∨
 (J.go i H∧acc.length<sizeLine∧∀x H',J.yld i H x H'→g x (BW cs σ) H' fun σ2 H2=>Sub (BW cs σ) σ2∧tc σ2 H2 fun b H3=>if b=true then te σ2 H3 fun y H4=>∃n',n' < n∧W (i+1) n' (acc++[y]) H4 else ∃n',n' < n∧W (i+1) n' acc H3)
theorem ND:∀(names:List (Str×NameKind)) (h:Heap) (acc:List (Str×Addr)) (x:Str) (c:Addr),(x,c)∈cellsFrom h.objs.size names acc→(x,c)∈acc∨(h.objs.size≤c∧(x,NameKind.cell)∈names∧(pushCells h names).IsCell c none)
 |[],_,_,_,_,m=>.inl m
 |(name,kind)::r,h,acc,x,c,m=>by
  unfold cellsFrom at m
  unfold pushCells
  split at m
  ·rename_i hk
   rw [if_pos hk]
   have hk':kind=.cell:=by simpa using hk
   have e:h.objs.size+1=(h.push {cls:=.type "cell",data:=.cell none}).objs.size:=(DT ..).symm
   rw [e] at m
   rcases ND r _ _ x c m with q |⟨q1,q2,q3⟩
   ·rcases qa5.mp q with q |q
    ·cases q
     refine .inr ⟨AG _,by rw [hk'];exact Bf,?_⟩
     exact (show (h.push {cls:=.type "cell",data:=.cell none}).IsCell h.objs.size none from ⟨_,BD _ rfl,rfl⟩).keeps fun b o e=>pushCells_keeps _ _ b o e
    ·exact .inl q
   ·exact .inr ⟨by rw [←e] at q1;exact Nat.le_of_succ_le q1,Bn _ q2,q3⟩
  ·rename_i hk
   rw [if_neg hk]
   rcases ND r h acc x c m with q |⟨q1,q2,q3⟩
   ·exact .inl q
   ·exact .inr ⟨q1,Bn _ q2,q3⟩
theorem NF:∀(names:List (Str×NameKind)) (h:Heap) (acc:List (Str×Addr)),(∀x c,(x,c)∈acc→c<h.objs.size)→(∀x y c,(x,c)∈acc→(y,c)∈acc→x=y)→
 ∀x y c,(x,c)∈cellsFrom h.objs.size names acc→(y,c)∈cellsFrom h.objs.size names acc→x=y
 |[],_,_,_,i=>i
 |(name,kind)::r,h,acc,lt,i=>by
  unfold cellsFrom
  split
  ·have e:h.objs.size+1=(h.push {cls:=.type "cell",data:=.cell none}).objs.size:=(DT ..).symm
   rw [e]
   refine NF r _ _ (fun x c m=>?_) (fun x y c m m'=>?_)
   ·rw [←e]
    rcases qa5.mp m with q |q
    ·cases q;exact Jq _
    ·exact Jo (lt x c q)
   ·rcases qa5.mp m with q |q<;>rcases qa5.mp m' with q' |q'
    ·cases q;cases q';rfl
    ·cases q;exact absurd (lt y _ q') (DB _)
    ·cases q';exact absurd (lt x _ q) (DB _)
    ·exact i x y c q q'
  ·exact NF r h acc lt i
theorem lookup_mem {α:Type} {l:List (Str×α)} {x:Str} {k:α} (nd:(l.map (·.1)).Nodup) (h:(x,k)∈l):l.lookup x=some k:=by
 induction l with
 |nil=>cases h
 |cons p r ih=>
  obtain ⟨y,j⟩:=p
  rw [Bx,qbQ] at nd
  rw [GI]
  rcases qa5.mp h with e |e
  ·cases e;simp
  ·have:x≠y:=by
    rintro rfl
    exact nd.1 (qaL.mpr ⟨(x,k),e,rfl⟩)
   have hb:(x==y)=false:=by simpa using this
   rw [hb]
   exact ih nd.2 e
theorem Xr {env:Env} {x n:Str} {j:NameKind} {r:List (Str×NameKind)} {k:NameKind} (h:List.lookup x ((if (j==NameKind.free&&env.scope.kind==.function&&env.kindOf n==some .cell)=true then (n,NameKind.cell) else (n,j))::r)=some k):
 (x=n∧(k=j∨(j=.free∧k=.cell)))∨(x≠n∧List.lookup x r=some k):=by
 by_cases hx:x=n
 ·subst hx
  refine .inl ⟨rfl,?_⟩
  split at h
  ·rename_i hc
   rw [GI] at h
   simp only [beq_self_eq_true] at h
   cases h
   simp only [Cp] at hc
   exact .inr ⟨by simpa using hc.1.1,rfl⟩
  ·rw [GI] at h
   simp only [beq_self_eq_true] at h
   cases h
   exact .inl rfl
 ·have hb:(x==n)=false:=by simpa using hx
  refine .inr ⟨hx,?_⟩
  split at h<;>(rw [GI] at h;simp only [hb] at h;exact h)
theorem QL {scope:Scope} {env:Env} {x:Str} {k:NameKind}:(relabel scope env).names.lookup x=some k→∃k0,scope.names.lookup x=some k0∧(k=k0∨(k0=.free∧k=.cell)):=by
 show (scope.names.map _).lookup x=some k→_
 induction scope.names with
 |nil=>intro h;cases h
 |cons p r ih=>
  obtain ⟨n,j⟩:=p
  intro h
  rw [Bx] at h
  rw [GI]
  rcases Xr h with ⟨hx,hk⟩ |⟨hx,hr⟩
  ·subst hx
   simp only [beq_self_eq_true]
   exact ⟨j,rfl,hk⟩
  ·have hb:(x==n)=false:=by simpa using hx
   rw [hb]
   exact ih hr
structure ID (X:Cx) (scope:Scope) (Nc:List Str) (cs:List (Option Nat)):Prop where
 kind:scope.kind=.function
 loc:∀y∈scope.names,y.2=.local→scope.names.lookup y.1=some .local
 free:∀y∈scope.names,y.2=.free→X.env.kindOf y.1=some .cell∨X.env.kindOf y.1=some .free
 nd:(scope.names.map (·.1)).Nodup
 len:cs.length=Nc.length
 out:∀(i:Nat) (x:Str) (j:Nat),Nc[i]?=some x→cs[i]?=some (some j)→X.N[j]?=some x∧scope.names.lookup x=some .free
theorem Xs {a b:Addr} (h:a<b):@LT.lt Nat instLTNat a b:=h
theorem Cs {a b:Addr} (h:@LT.lt Nat instLTNat a b):a≠b:=By h
theorem IE {a b:Addr} (h:@LT.lt Nat instLTNat a b):b≠a:=Ne.symm (By h)
section
variable {X:Cx} {pins:List (Addr×Obj)} {σ:L2.St} {H:Hp} {s:Shared}
theorem Xu {scope:Scope} {Nc:List Str} {cs:List (Option Nat)} {fp:List Addr} {cl:List (Str×Addr)} (S:ID X scope Nc cs) (I:Inv X pins σ H s) (f:∀b∈fp,EK X pins H b) (ob:∀b∈fp,∃o,s.heap.get? b=some o)
 (hcl:∀x c,(x,c)∈cl→X.env.cells.lookup x=some c∧(x,NameKind.free)∈scope.names) (hcl2:∀y∈scope.names,y.2=.free→∃c,(y.1,c)∈cl) {s3:Shared} (e3:s3={s with heap:=s.heap.push {cls:=.type "list",data:=.seq ([]:List Value).toArray}}):
 Inv (CT X Nc scope s3.heap.objs.size s.heap.objs.size (cellsFrom (s3.heap.objs.size+1) scope.names cl) fp s3 H pins) [] (BW cs σ) H
  {s3 with heap:=pushCells (s3.heap.push {cls:=.type "dict",data:=.dict #[]}) scope.names}:=by
 have k3:∀b o,s.heap.get? b=some o→s3.heap.get? b=some o:=fun b o e=>by subst e3;exact AM _ e
 have Lk:s3.heap.objs.size=s.heap.objs.size+1:=by subst e3;exact DT ..
 have szd:(s3.heap.push {cls:=.type "dict",data:=.dict #[]}).objs.size=s3.heap.objs.size+1:=DT ..
 have k34:∀b o,s3.heap.get? b=some o→(pushCells (s3.heap.push {cls:=.type "dict",data:=.dict #[]}) scope.names).get? b=some o:=fun b o e=>pushCells_keeps _ _ b o (AM _ e)
 have k4:∀b o,s.heap.get? b=some o→(pushCells (s3.heap.push {cls:=.type "dict",data:=.dict #[]}) scope.names).get? b=some o:=fun b o e=>k34 b o (k3 b o e)
 have cllt:∀x c,(x,c)∈cl→c<s.heap.objs.size:=fun x c m=>by
  obtain ⟨v,q⟩:=I.cell x c (hcl x c m).1
  exact q.lt
 have cm:∀x c,(cellsFrom (s3.heap.objs.size+1) scope.names cl).lookup x=some c→(x,c)∈cl∨(s3.heap.objs.size+1≤c∧(x,NameKind.cell)∈scope.names∧(pushCells (s3.heap.push {cls:=.type "dict",data:=.dict #[]}) scope.names).IsCell c none):=fun x c e=>by
  have m:=mem_of_lookup e
  rw [←szd] at m
  have:=ND scope.names _ cl x c m
  rw [szd] at this
  exact this
 have frs_lt:∀b∈frs X.stack,b<s.heap.objs.size:=fun b hb=>by
  obtain ⟨_,o,ho,_⟩:=I.stack.mem hb
  exact AO ho
 have nfs:∀b,b≠X.env.locals→b∉X.fs→b∉frs X.stack:=fun b h1 h2 hb=>by
  rcases qa5.mp (I.stkSub b hb) with q |q
  ·exact h1 q
  ·exact h2 q
 have ok:(CT X Nc scope s3.heap.objs.size s.heap.objs.size (cellsFrom (s3.heap.objs.size+1) scope.names cl) fp s3 H pins).Ok:=by
  refine ⟨I.ok.mod,S.kind,I.ok.glob,I.ok.blt,AG _,fun x y c e1 e2=>?_,fun x hx=>?_,fun x c hf e=>?_,I.ok.hd,I.ok.frames,.inl rfl,fun b hb=>?_,fun b o e=>?_,?_,fun b o e hb=>?_,fun b hb=>?_,?_,I.stkFree⟩
  ·have m1:=mem_of_lookup e1
   have m2:=mem_of_lookup e2
   have m1':(x,c)∈cellsFrom (s3.heap.push {cls:=.type "dict",data:=.dict #[]}).objs.size scope.names cl:=by rw [szd];exact m1
   have m2':(y,c)∈cellsFrom (s3.heap.push {cls:=.type "dict",data:=.dict #[]}).objs.size scope.names cl:=by rw [szd];exact m2
   exact NF scope.names (s3.heap.push {cls:=.type "dict",data:=.dict #[]}) cl (fun x c m=>by rw [szd,Lk];exact A1 (cllt x c m) (by omega))
    (fun x y c a b=>I.ok.inj x y c (hcl x c a).1 (hcl y c b).1) x y c m1' m2'
  ·have:∃k,(relabel scope X.env).names.lookup x=some k∧(k=.cell∨k=.free):=by
    rcases hx with q |q
    ·exact ⟨_,q,.inl rfl⟩
    ·exact ⟨_,q,.inr rfl⟩
   obtain ⟨k,e1,hk⟩:=this
   obtain ⟨k0,e0,hk0⟩:=QL e1
   refine qbY.mp (PySem.W.cellsFrom_some _ _ _ ?_)
   have:k0=.cell∨k0=.free:=by
    rcases hk0 with q |⟨q,_⟩
    ·rw [←q];exact hk
    ·exact .inr q
   rcases this with q |q
   ·subst q;exact .inl e0
   ·subst q
    obtain ⟨c,hc⟩:=hcl2 _ (mem_of_lookup e0) rfl
    refine .inr ?_
    cases hl:cl.lookup x with
    |some c'=>rfl
    |none=>
     exfalso
     have:∀p∈cl,p.1≠x:=fun p hp e=>by
      have h2:=List.lookup_eq_none_iff.mp hl p hp
      rw [e] at h2
      simp at h2
     exact this _ hc rfl
  ·have hk:scope.names.lookup x=some .cell:=by
    have:(scope.names.lookup x==some NameKind.cell)=true:=hf
    simpa using this
   rcases cm x c e with q |⟨q1,_,_⟩
   ·have:=lookup_mem S.nd (hcl x c q).2
    rw [hk] at this
    cases this
   ·exact Nat.le_of_succ_le q1
  ·rcases qa5.mp hb with q |q
   ·subst q
    refine ⟨Cs (show _<s3.heap.objs.size by omega),fun x c e=>?_⟩
    rcases cm x c e with q |⟨q1,_,_⟩
    ·exact By (cllt x c q)
    ·exact IE (A1 (by omega) q1)
   ·obtain ⟨o,ho⟩:=ob b q
    have hlt:=Xs (AO ho)
    refine ⟨Cs (show _<s3.heap.objs.size by omega),fun x c e=>?_⟩
    rcases cm x c e with q2 |⟨q1,_,_⟩
    ·exact (f b q).2.2.2.2.1 x c (hcl x c q2).1
    ·exact IE (A1 (by omega) q1)
  ·obtain ⟨h1,h2⟩:=I.bs b o e
   exact ⟨k3 b o h1,h2⟩
  ·show X.base.objs.size≤s3.heap.objs.size
   have:=BP I.ok.bsz I.sz
   omega
  ·obtain ⟨h1,h2⟩:=I.bs b o e
   rcases qa5.mp hb with q |q
   ·exact absurd q (Cs (AO h1))
   ·rcases (f b q).2.2.2.1 with z |z
    ·exact I.ok.noex b o e z
    ·exact absurd (A1 (AO (I.ok.bs b o e).1) z) (DB _)
  ·rcases qa5.mp hb with q |q
   ·subst q
    intro z
    exact absurd (frs_lt _ z) (DB _)
   ·exact nfs b (f b q).2.1 (f b q).2.2.1
  ·exact I.stack.of_keeps fun b o e _=>⟨o,k3 b o e,rfl⟩
 refine ⟨ok,rfl,?_,?_,?_,fun x c e=>?_,?_,fun x c e=>?_,fun p hp=>?_,I.hok.kept k4,?_⟩
 ·show AllBare s3.gens
  subst e3;exact I.bare
 ·exact Un.kept k34
 ·refine ⟨fun _=>none,(Heap.Ns.new s3.heap (.type "dict")).keeps (pushCells_keeps _ _),fun i x v e1 e2 e3'=>?_⟩
  unfold BW at e2
  rw [CP] at e2
  cases ec:cs[i]? with
  |none=>rw [ec] at e2;cases e2
  |some o=>
   rw [ec] at e2
   cases o with
   |none=>cases e2
   |some j=>
    simp only [Gb,Option.bind_some,Option.some.injEq] at e2
    have e2':σ[j]?=some (some v):=by
     cases ej:σ[j]? with
     |none=>rw [ej] at e2;cases e2
     |some w=>rw [ej] at e2;simp at e2;rw [e2]
    obtain ⟨hN,hfr⟩:=S.out i x j e1 ec
    have hfm:=mem_of_lookup hfr
    have hkind:=S.free _ hfm rfl
    obtain ⟨m,hn,hl⟩:=I.loc
    obtain ⟨u,r,look⟩:=hl j x v hN e2' (by
     rcases hkind with q |q
     ·exact .inr (.inl q)
     ·exact .inr (.inr q))
    refine ⟨u,r,.inr ?_⟩
    rcases look with ⟨q,_⟩ |⟨_,c,ec',hc⟩
    ·rcases hkind with z |z<;>(rw [q] at z;cases z)
    ·obtain ⟨c',hc'⟩:=hcl2 _ hfm rfl
     have hv:(CT X Nc scope s3.heap.objs.size s.heap.objs.size (cellsFrom (s3.heap.objs.size+1) scope.names cl) fp s3 H pins).env.kindOf x=some .cell∨(CT X Nc scope s3.heap.objs.size s.heap.objs.size (cellsFrom (s3.heap.objs.size+1) scope.names cl) fp s3 H pins).env.kindOf x=some .free:=by
      rcases e3' with z |z |z
      ·obtain ⟨k0,a1,a2⟩:=QL z
       rw [hfr] at a1
       cases a1
       rcases a2 with a2 |⟨_,a2⟩<;>cases a2
      ·exact .inl z
      ·exact .inr z
     refine ⟨hv,c,?_,hc.keeps k4⟩
     obtain ⟨c2,h2⟩:=ok.has x hv
     rw [h2]
     rcases cm x c2 h2 with q |⟨_,q,_⟩
     ·rw [←ec',(hcl x c2 q).1]
     ·have:=lookup_mem S.nd q
      rw [hfr] at this
      cases this
 ·rcases cm x c e with q |⟨_,_,q⟩
  ·obtain ⟨v,z⟩:=I.cell x c (hcl x c q).1
   exact ⟨v,z.keeps k4⟩
  ·exact ⟨none,q⟩
 ·exact I.hok.fresh (show s.heap.objs.size≤s3.heap.objs.size by omega)
 ·rcases cm x c e with q |⟨q,_,_⟩
  ·exact I.freeC x c (hcl x c q).1
  ·exact I.hok.fresh (by omega)
 ·have hp':p∈X.pn++pins:=by
   rcases qaK.mp hp with q |q
   ·exact q
   ·exact absurd q (by simp)
  obtain ⟨a1,a2,a3,a4,a5⟩:=I.pin p hp'
  refine ⟨k4 _ _ a1,a2,?_,nfs p.1 a3 a4,a5⟩
  show p.1≠s3.heap.objs.size
  exact Cs (A1 (AO a1) (by omega))
 ·show (BW cs σ).length=Nc.length
  simp [BW,S.len]
end
section
variable {X:Cx} {elt tg iter:Expr} {ifs:List Expr} {scope:Scope} {pos:Pos} {Nc:List Str} {cs:List (Option Nat)} {wi:TI} {g:TG} {tc:TT} {te:TE}
theorem Xv {pins:List (Addr×Obj)} {σ:L2.St} {H H':Hp} {s s3 s':Shared} {fp:List Addr} {C:Addr} {cells:List (Str×Addr)} {po:List (Addr×Obj)} {σc:L2.St} {acc:List V} {its:List Value} {n:Nat}
 (I:Inv X pins σ H s) (f:∀b∈fp,EK X pins H b) (e3:s3={s with heap:=s.heap.push {cls:=.type "list",data:=.seq ([]:List Value).toArray}}) (hC:C=s3.heap.objs.size)
 (I':Inv (CT X Nc scope C s.heap.objs.size cells fp s3 H pins) po σc H' s') (hD:H' s.heap.objs.size=none) (hl:acc.length≤sizeLine) (rv:Vals acc its) (ho:s'.heap.get? s.heap.objs.size=some {cls:=.type "list",data:=.seq its.toArray n})
 {h':Heap} (sb:Heap.SameBut C s'.heap h'):Inv X pins σ (Av H' s.heap.objs.size (.lst acc)) {s' with heap:=h'}:=by
 have k3:∀b o,s.heap.get? b=some o→s3.heap.get? b=some o:=fun b o e=>by subst e3;exact AM _ e
 have Lk:s3.heap.objs.size=s.heap.objs.size+1:=by subst e3;exact DT ..
 have DY:∀b o,s.heap.get? b=some o→b≠s.heap.objs.size:=fun b o e=>Cs (AO e)
 have neC:∀b o,s.heap.get? b=some o→b≠C:=fun b o e=>by rw [hC];exact Cs (A1 (AO e) (by omega))
 have DC:s.heap.objs.size≠C:=by rw [hC];exact Cs (by omega)
 have U:Un (frs X.stack) (s.heap.objs.size::fp) H H' s3.heap s'.heap:=I'.base
 have exn:∀b o,s.heap.get? b=some o→b∉fp→b∉s.heap.objs.size::fp:=fun b o e hx hb=>by
  rcases qa5.mp hb with z |z
  ·exact DY b o e z
  ·exact hx z
 have neT:∀b u,H' b=some u→b≠s.heap.objs.size:=fun b u e=>Cr e hD
 have hCn:H' C=none:=I'.free
 refine I.call' (s':={s' with heap:=h'}) (ch:=fp) ?_ ?_ ?_ I'.bare ?_
 ·show s'.os=s.os
  have:=I'.os
  rw [this]
  show s3.os=s.os
  subst e3;rfl
 ·refine ⟨fun b o e nn hb hx=>?_,fun b o e nn hb hx=>?_,fun b o e nn hx=>?_,fun b o e hx=>?_,fun b xs e=>?_,fun b o u e=>?_,fun b ps e=>?_⟩
  ·exact (sb.2 b (neC b o e)).trans (U.keep b o (k3 b o e) nn hb (exn b o e hx))
  ·obtain ⟨sl,z⟩:=U.slot b o (k3 b o e) nn hb (exn b o e hx)
   exact ⟨sl,(sb.2 b (neC b o e)).trans z⟩
  ·rw [AF (DY b o e)]
   exact U.free b o (k3 b o e) nn (exn b o e hx)
  ·obtain ⟨o',z⟩:=U.there b o (k3 b o e) (exn b o e hx)
   exact ⟨o',(sb.2 b (neC b o e)).trans z⟩
  ·have z:=U.tups b xs e
   rw [AF (neT b _ z)]
   exact z
  ·have z:=U.frzs b o u e
   rw [AF (neT b _ z)]
   exact z
  ·obtain ⟨more,z⟩:=U.tbls b ps e
   exact ⟨more,by rw [AF (neT b _ z)];exact z⟩
 ·intro b u e
  by_cases hb:b=s.heap.objs.size
  ·subst hb
   rw [B9] at e
   cases e
   exact ⟨hl,its,n,rv,(sb.2 _ DC).trans ho⟩
  ·rw [AF hb] at e
   refine (I'.hok b u e).stay (fun c v hc z=>(sb.2 c ?_).trans z) (fun c z=>by rw [AF (neT c _ z)];exact z) fun c xs z=>by rw [AF (neT c _ z)];exact z
   rcases hc with rfl |hc
   ·exact Cr e hCn
   ·exact Cr hc hCn
 ·intro b hb
  obtain ⟨_,f1,_,f3,f4,f5⟩:=f b hb
  exact ⟨f3,f1,f4,f5⟩
inductive QM (W:Nat→Nat→List V→Hp→Prop) (Xc:Cx) (σc:L2.St) (tn:Nat→Heap→Prop) (fp:List Addr) (Da:Addr) (n:Nat) (s':Shared):Prop where
 |mk (i:Nat) (acc:List V) (H':Hp) (its:List Value) (k:Nat) (w:W i n acc H') (ii:Inv Xc [] σc H' s') (st:tn i s'.heap) (fr:∀b∈fp,H' b=none) (hD:H' Da=none) (rv:Vals acc its) (ho:s'.heap.get? Da=some {cls:=.type "list",data:=.seq its.toArray k}):QM W Xc σc tn fp Da n s'
theorem QN {use:Option (Value→Sem Unit)} {QQ:Value→Shared→Prop} {ppos:Pos} {pins:List (Addr×Obj)} {s:Shared} {σ:L2.St} {H:Hp} {Q:VK} (hcalm:X.calm=true) (S:ID X scope Nc cs) (hi:PI X tg iter wi)
 (hb:∀(C D:Addr) (cells:List (Str×Addr)) (fp:List Addr) (s₀:Shared) (H₀:Hp) (pins:List (Addr×Obj)),PG (CT X Nc scope C D cells fp s₀ H₀ pins) tg g∧JP (CT X Nc scope C D cells fp s₀ H₀ pins) ifs tc∧PE (CT X Nc scope C D cells fp s₀ H₀ pins) elt te)
 (hsf:∀x,foldedSetIterable iter X.env x=pure x) (I:Inv X pins σ H s) (h:Lg cs wi g tc te σ H Q)
 (fin:∀(s6:Shared) (C D:Addr) (H7:Hp) (m6:Str→Option Value),s6.heap.Ns C m6→H7 C=none→X.s₀.heap.objs.size≤C→C≠X.env.locals→(∀x c,X.env.cells.lookup x=some c→c≠C)→(∀p∈X.pn++pins,p.1≠C)→
  (∀h',Heap.SameBut C s6.heap h'→Inv X pins σ H7 {s6 with heap:=h'})→Q (.ref D) H7→compPost (model X.prog X.w) X.A X.xe use QQ (.ref D) C (.ok .next) s6):
 wpAny (model X.prog X.w) X.A (comprehension (.ListComp elt [⟨tg,iter,ifs,0⟩] scope pos) scope X.env ppos (newList []) false (eval iter X.env) use) QQ X.xe s:=by
 obtain ⟨cl,hclos,hcl,hcl2⟩:=QJ (scope:=scope) (env:=X.env) fun y hy hf=>I.ok.has y.1 (S.free y hy hf)
 refine wpAny_comprehension_free (use:=use) rfl hsf hclos S.kind S.loc (AA (hi pins s σ H _ I h) fun xv s1 h1=>AA h1 fun itv s2 h2=>?_)
 obtain ⟨it,fp,tn,J,H2,e,I2,T,DA,f2,W,⟨n0,w0⟩,turn⟩:=h2
 subst e
 refine wpAny_newObj_type ?_
 generalize e3:({s2 with heap:=s2.heap.push {cls:=.type "list",data:=.seq ([]:List Value).toArray}}:Shared)=s3
 refine Xn ?_
 have ob2:∀b∈fp,∃o,s2.heap.get? b=some o:=fun b hb=>let ⟨o,e,_⟩:=T.obj _ _ DA b hb;⟨o,e⟩
 have I4:=Xu (fp:=fp) (cl:=cl) S I2 f2 ob2 hcl hcl2 e3.symm
 generalize e4:({s3 with heap:=pushCells (s3.heap.push {cls:=.type "dict",data:=.dict #[]}) scope.names}:Shared)=s4 at I4
 generalize ecl:cellsFrom (s3.heap.objs.size+1) scope.names cl=cells at I4
 obtain ⟨pg,pt,pe⟩:=hb s3.heap.objs.size s2.heap.objs.size cells fp s3 H2 pins
 generalize eX:CT X Nc scope s3.heap.objs.size s2.heap.objs.size cells fp s3 H2 pins=Xc at I4 pg pt pe
 have xP:Xc.prog=X.prog:=by subst eX;rfl
 have xw:Xc.w=X.w:=by subst eX;rfl
 have xK:Xc.K=X.K:=by subst eX;rfl
 have xA:Xc.A=X.A:=by subst eX;rfl
 have xE:Xc.env=QK X.env scope s3.heap.objs.size cells:=by subst eX;rfl
 have xL:Xc.env.locals=s3.heap.objs.size:=by subst eX;rfl
 have xe:Xc.xe=fun _ _=>False:=by subst eX;rfl
 have xc:Xc.calm=true:=by subst eX;exact hcalm
 have xex:Xc.ex=s2.heap.objs.size::fp:=by subst eX;rfl
 have okc:=I4.ok
 have k3:∀b o,s2.heap.get? b=some o→s3.heap.get? b=some o:=fun b o e=>by subst e3;exact AM _ e
 have Lk:s3.heap.objs.size=s2.heap.objs.size+1:=by subst e3;exact DT ..
 have k34:∀b o,s3.heap.get? b=some o→s4.heap.get? b=some o:=fun b o e=>by subst e4;exact pushCells_keeps _ _ b o (AM _ e)
 have hDC:s2.heap.objs.size≠Xc.env.locals:=by rw [xL];exact Cs (by omega)
 have hDcell:∀x c,Xc.env.cells.lookup x=some c→c≠s2.heap.objs.size:=fun x c e=>(okc.exf _ (by rw [xex];exact Bf)).2 x c e
 have hDpin:∀p∈Xc.pn,p.1≠s2.heap.objs.size:=fun p hp=>by
  have hp':p∈X.pn++pins:=by subst eX;exact hp
  exact Cs (AO (I2.pin p hp').1)
 have hDfp:s2.heap.objs.size∉fp:=fun hm=>by
  obtain ⟨o,e⟩:=ob2 _ hm
  exact absurd (AO e) (DB _)
 have hDex:s2.heap.objs.size∈Xc.ex:=by rw [xex];exact Bf
 have hDfs:s2.heap.objs.size∉Xc.fs:=okc.exfs _ hDex
 have fpC:∀{po:List (Addr×Obj)} {H':Hp},(∀b∈fp,H' b=none)→(∀p∈po,p.1=s2.heap.objs.size)→∀b∈fp,EK Xc po H' b:=fun {po H'} hn hp b hb=>by
  have hbx:b∈Xc.ex:=by rw [xex];exact Bn _ hb
  refine ⟨hn b hb,(okc.exf b hbx).1,okc.exfs b hbx,.inl hbx,(okc.exf b hbx).2,fun p hpp=>?_⟩
  rcases qaK.mp hpp with z |z
  ·have hp':p∈X.pn++pins:=by subst eX;exact z
   exact (f2 b hb).2.2.2.2.2 p hp'
  ·rw [hp p z]
   intro e
   exact hDfp (e ▸ hb)
 have loop:∀sx,sx=s4→codeAny (model X.prog X.w) X.A (.compLoop (.ListComp elt [⟨tg,iter,ifs,0⟩] scope pos) 0 (.ref it) (.ref s2.heap.objs.size) Xc.env)
  (compPost (model X.prog X.w) X.A X.xe use QQ (.ref s2.heap.objs.size) s3.heap.objs.size) sx:=by
  rintro sx rfl
  refine Xo (QM W Xc (BW cs σ) tn fp s2.heap.objs.size) ?_ n0
   ⟨0,[],H2,[],0,w0,I4,?_,fun b hb=>(f2 b hb).1,I2.hok.fresh (AG _),.nil,?_⟩
  ·rintro n s5 ⟨i,acc,H5,its,k,w5,I5,GB,fr5,hD5,rv5,ho5⟩
   have pin1:Inv Xc [(s2.heap.objs.size,{cls:=.type "list",data:=.seq its.toArray k})] (BW cs σ) H5 s5:=I5.pins_of fun p hp=>by
    rw [qaA] at hp
    subst hp
    exact ⟨ho5,hD5,hDC,hDfs,fun v z=>by cases z⟩
   have pone:∀p∈[((s2.heap.objs.size:Addr),({cls:=.type "list",data:=.seq its.toArray k}:Obj))],p.1=s2.heap.objs.size:=fun p hp=>by
    rw [qaA] at hp;subst hp;rfl
   rcases turn i n acc H5 w5 with ⟨stop,hlen,qn⟩ |⟨go,hlen,step⟩
   ·have z1:=T.done Xc xP xw xK xc i _ s5 (BW cs σ) H5 (fun _ _=>False) pin1 (fpC fr5 pone) GB stop
    rw [xA] at z1
    refine wpAny_mono z1 (fun r s6 z1_=>?_) fun _ _ z=>False.elim z
    obtain ⟨hr,I6⟩:=z1_
    subst hr
    obtain ⟨m6,hn6,_⟩:=I6.loc
    obtain ⟨ho6,hD6,_⟩:=I6.pin _ (BI _ Bf)
    rw [xL] at hn6
    have lt2:∀b,b<s2.heap.objs.size→b≠s3.heap.objs.size:=fun b hb=>Cs (A1 hb (by omega))
    refine fin s6 s3.heap.objs.size s2.heap.objs.size (Av H5 s2.heap.objs.size (.lst acc)) m6 hn6 ?_ (BP I2.sz (by omega)) ?_ ?_ ?_ ?_ (qn _ hD6)
    ·rw [AF (IE (by omega))]
     have:=I6.free
     rw [xL] at this
     exact this
    ·obtain ⟨m2,hn2,_⟩:=I2.loc
     exact Ne.symm (lt2 _ hn2.lt)
    ·intro x c hx
     obtain ⟨v,hv⟩:=I2.cell x c hx
     obtain ⟨o,ho,_⟩:=hv
     exact lt2 _ (AO ho)
    ·intro p hp
     exact lt2 _ (AO (I2.pin p hp).1)
    ·intro h' sb
     subst eX
     exact Xv I2 f2 e3.symm rfl I6 hD6 hlen rv5 ho6 sb
   ·have z1:=T.item Xc xP xw xK xc i _ s5 (BW cs σ) H5 (fun _ _=>False) pin1 (fpC fr5 pone) GB go
    rw [xA] at z1
    refine wpAny_mono z1 (fun r s6 z2_=>?_) fun _ _ z=>False.elim z
    obtain ⟨u,hr,h6⟩:=z2_
    subst hr
    refine wpAny_mono h6 (fun _ s7 z3_=>?_) fun _ _ z=>False.elim z
    obtain ⟨x,H7,I7,r7,y7,Kv,fr7⟩:=z3_
    have I7':=I7.pinned (fp:=fp) (fpC fr7 pone) (T.obj _ _ Kv)
    have z2:=pg _ s7 (BW cs σ) H7 x u _ I7' r7 (step x H7 y7)
    rw [xP,xw,xA,xe] at z2
    refine wpAny_mono z2 (fun _ s8 z4_=>?_) fun _ _ z=>False.elim z
    obtain ⟨σ8,H8,I8,sub8,q8⟩:=z4_
    have z3:=pt _ s8 σ8 H8 _ I8 q8
    rw [xP,xw,xA,xe] at z3
    refine wpAny_mono z3 (fun ok s9 z5_=>?_) fun _ _ z=>False.elim z
    obtain ⟨H9,I9,q9⟩:=z5_
    have back:∀{sy:Shared} {Hy:Hp},Inv Xc ([(s2.heap.objs.size,{cls:=.type "list",data:=.seq its.toArray k})]++Jz fp s7.heap) σ8 Hy sy→
     Inv Xc [] (BW cs σ) Hy sy∧tn (i+1) sy.heap∧(∀b∈fp,Hy b=none)∧Hy s2.heap.objs.size=none∧sy.heap.get? s2.heap.objs.size=some {cls:=.type "list",data:=.seq its.toArray k}:=fun {sy Hy} Iy=>by
     obtain ⟨ho,hD,_⟩:=Iy.pin _ (BI _ (CG _ Bf))
     refine ⟨(Iy.pins_of fun p hp=>absurd hp (by simp)).weak (sub8.1) (fun j v z=>sub8.2 j v z),T.keep _ _ _ Kv fun b hb o e=>(Iy.pin (b,o) (BI _ (BI _ (KQ hb e)))).1,fun b hb=>?_,hD,ho⟩
     obtain ⟨o,e,_⟩:=T.obj _ _ Kv b hb
     exact (Iy.pin (b,o) (BI _ (BI _ (KQ hb e)))).2.1
    cases ok with
    |false=>
     simp only [Dv,if_false] at q9 ⊢
     obtain ⟨n',hn',w'⟩:=q9
     obtain ⟨a1,a2,a3,a4,a5⟩:=back I9
     exact ⟨n',hn',i+1,acc,H9,its,k,w',a1,a2,a3,a4,rv5,a5⟩
    |true=>
     simp only [if_true] at q9 ⊢
     have z4:=pe _ s9 σ8 H9 _ I9 q9
     rw [xP,xw,xA,xe] at z4
     refine wpAny_mono z4 (fun y s10 z6_=>?_) fun _ _ z=>False.elim z
     obtain ⟨yv,H10,I10,r10,n',hn',w'⟩:=z6_
     obtain ⟨a1,a2,a3,a4,a5⟩:=back I10
     have hlen':=rv5.length
     refine wpAny_list_append_plain ⟨k,a5⟩ (fun h' ⟨k',hl'⟩ sb=>?_) (by rw [A7];omega)
     have tu:Inv Xc [] (BW cs σ) H10 {s10 with heap:=h'}:=a1.turned (t':=s10.toks) (it:=s2.heap.objs.size) (fun b o hb e=>(sb.2 b hb).trans e) a4 hDC (.inl hDex) hDcell (fun p hp=>by
      rcases qaK.mp hp with z |z
      ·exact hDpin p z
      ·exact absurd z (by simp))
     refine ⟨n',hn',i+1,acc++[yv],H10,its++[y],k',w',tu,T.keep _ _ _ a2 (fun b hb o e=>(sb.2 b (fun z=>hDfp (z ▸ hb))).trans e),a3,a4,rv5.append (.cons r10 .nil),?_⟩
     rw [hl']
     simp
  ·exact T.keep _ _ _ DA fun b hb o e=>k34 b o (k3 b o e)
  ·refine k34 _ _ ?_
   subst e3
   exact BD _ rfl
 have fin:=loop s4 rfl
 have hst4:tn 0 s4.heap:=T.keep _ _ _ DA fun b hb o e=>k34 b o (k3 b o e)
 rw [xE] at fin
 have:=codeAny_compStart_list fin (T.self X.A 0 s4 _ _ hst4 fin)
 exact this
theorem Xw (hcalm:X.calm=true) (S:ID X scope Nc cs) (hi:PI X tg iter wi)
 (hb:∀(C D:Addr) (cells:List (Str×Addr)) (fp:List Addr) (s₀:Shared) (H₀:Hp) (pins:List (Addr×Obj)),PG (CT X Nc scope C D cells fp s₀ H₀ pins) tg g∧JP (CT X Nc scope C D cells fp s₀ H₀ pins) ifs tc∧PE (CT X Nc scope C D cells fp s₀ H₀ pins) elt te)
 (hsf:∀x,foldedSetIterable iter X.env x=pure x:=by intro _;rfl):PE X (.ListComp elt [⟨tg,iter,ifs,0⟩] scope pos) (Lg cs wi g tc te):=by
 intro pins s σ H Q I h
 rw [eval_ListComp]
 exact QN (use:=none) hcalm S hi hb hsf I h fun s6 C D H7 m6 hn _ _ _ _ _ inv q=>⟨m6,hn,fun h' sb=>⟨.ref D,H7,inv h' sb,rfl,q⟩⟩
end
def noErr {α:Type}:Out α→Out α
 |.ok a h=>.ok a h
 |_=>.stuck
@[simp] theorem ZdD {α:Type} (a:α) (h:HD):noErr (.ok a h)=.ok a h:=rfl
theorem QP {α β γ δ:Type} {K:PySem.W.Frag} {R:List Addr→Hp→α→β→Prop} {R':List Addr→Hp→γ→δ→Prop} {m:List Addr} {H:Hp} {E:XK} {Q:δ→Hp→Prop} {Q':β→Hp→Prop} {o:Out α} {k:α→HD→Out γ}
 (h:Post K R' m H E Q ((noErr o).bind k)) (f:∀a h1 v m1 H1,o=.ok a h1→m <+:m1→Kp H H1→HR K m1 h1 H1→R m1 H1 a v→Post K R' m1 H1 E Q (k a h1)→Q' v H1):Post K R m H E0 Q' o:=by
 cases o with
 |ok a h1=>exact fun v m1 H1 p kk hr r=>f a h1 v m1 H1 rfl p kk hr r (Post.ahead p kk h)
 |err C fs h1=>exact False.elim h
 |stuck=>exact False.elim h
def CK (cs:List (Option Nat)) (ρ:Ai):Ai:=cs.map fun o=>o.bind fun j=>(ρ[j]?).join
theorem join_some {α:Type} {l:List (Option α)} {j:Nat} {a:α}:(l[j]?).join=some a↔l[j]?=some (some a):=by
 cases h:l[j]? with
 |none=>simp
 |some o=>simp
theorem ER.comp {K:PySem.W.Frag} {m:List Addr} {H:Hp} {ρ:Ai} {σ:L2.St} (cs:List (Option Nat)) (er:ER K m H ρ σ):ER K m H (CK cs ρ) (BW cs σ):=by
 refine ⟨by simp [CK,BW],fun i d e=>?_⟩
 unfold CK at e
 rw [CP] at e
 cases ec:cs[i]? with
 |none=>rw [ec] at e;cases e
 |some o=>
  rw [ec] at e
  cases o with
  |none=>cases e
  |some j=>
   simp only [Gb,Option.bind_some,Option.some.injEq] at e
   obtain ⟨v,e1,r⟩:=er.2 j d (join_some.mp e)
   refine ⟨v,?_,r⟩
   unfold BW
   rw [CP,ec]
   simp only [Gb,Option.bind_some,Option.some.injEq]
   exact join_some.mpr e1
theorem Sub.set {cs:List (Option Nat)} {σ:L2.St} {σ':L2.St} {i:Nat} {v:V} (h:cs[i]?=some none) (s:Sub (BW cs σ) σ'):Sub (BW cs σ) (σ'.set i (some v)):=by
 refine ⟨by rw [s.1];simp,fun j w e=>?_⟩
 have hj:i≠j:=by
  rintro rfl
  unfold BW at e
  rw [CP,h] at e
  cases e
 rw [B4 hj]
 exact s.2 j w e
theorem Sub.refl (σ:L2.St):Sub σ σ:=⟨rfl,fun _ _ h=>h⟩
def G1 (K:PySem.W.Frag) (cs:List (Option Nat)) (gg:TG) (sg:MG):Prop:=
 ∀m H d v ρ σ0 ρ' Q,DV K m H d v→ER K m H ρ (BW cs σ0)→sg d ρ=some ρ'→(∀σ',Sub (BW cs σ0) σ'→ER K m H ρ' σ'→Q σ' H)→gg v (BW cs σ0) H Q
theorem Dx {K:PySem.W.Frag} {cs:List (Option Nat)} {i:Nat} (h:cs[i]?=some none):G1 K cs (Cy i) (Bq i):=fun m H d v ρ σ0 ρ' Q r er e q=>by
 simp only [Bq,Option.some.injEq] at e
 subst e
 exact q _ ((Sub.refl _).set h) (er.set r)
theorem Xx {K:PySem.W.Frag} {cs:List (Option Nat)} {i j:Nat} (h:cs[i]?=some none) (h':cs[j]?=some none):G1 K cs (Fe K 2 (CU (Cy i) (CU (Cy j) FE))) (Dw i j):=fun m H d v ρ σ0 ρ' Q r er e q=>by
 unfold Dw at e
 split at e
 ·rename_i a b
  cases e
  simp only [DV,DVs] at r
  obtain ⟨p,vs,rfl,hp,v1,w1,rfl,r1,v2,w2,rfl,r2,rfl⟩:=r
  exact ⟨p,_,rfl,SqT.of hp,rfl,v1,_,rfl,v2,_,rfl,rfl,q _ (((Sub.refl _).set h).set h') ((er.set r1).set r2)⟩
 ·cases e
abbrev Lh (X:Cx) (E:XK) (ifs:List Expr) (t:MT):Prop:=JP X ifs (Ir X.K E t)
def BX:MT:=fun _ h=>.ok true h
theorem DJ {X:Cx} {E:XK}:Lh X E [] BX:=fun pins s σ H Q I z1_=>by obtain ⟨m,ρ,h,hr,er,p⟩:=z1_;exact (Xp pins s σ H Q I (p true m H (AC _) (.refl _) hr rfl))
theorem JQ {X:Cx} {E:XK} {c:Expr} {t:MT} (h:DF X E c t):Lh X E [c] t:=Xq h
open Classical in
noncomputable def D0 (src:Bc) (items:List D) (sg:MG) (t:MT) (f:ME) (ρc:Ai):List D→HD→Out (List D)
 |[],h=>if BR src items h then .ok [] h else .stuck
 |d::ds,h=>if BR src items h then match sg d ρc with
   |none=>.stuck
   |some ρ1=>(noErr (t ρ1 h)).bind fun b h1=>if b=true then (noErr (f ρ1 h1)).bind fun y h2=>(D0 src items sg t f ρc ds h2).bind fun ys h3=>.ok (y::ys) h3 else D0 src items sg t f ρc ds h1
  else .stuck
noncomputable def A5 (cs:List (Option Nat)) (it:MI) (sg:MG) (t:MT) (f:ME):ME:=fun ρ h=>(it ρ h).bind fun x h1=>if x.1.length≤sizeLine then (D0 x.2 x.1 sg t f (CK cs ρ) x.1 h1).bind CH else .stuck
theorem Out.bind_assoc {α β γ:Type} (o:Out α) (k:α→HD→Out β) (l:β→HD→Out γ):(o.bind k).bind l=o.bind fun a h=>(k a h).bind l:=by cases o<;>rfl
section
variable {X:Cx} {E:XK} {elt tg iter:Expr} {ifs:List Expr} {scope:Scope} {pos:Pos} {Nc:List Str} {cs:List (Option Nat)} {it:MI} {gg:TG} {sg:MG} {t:MT} {f:ME}
inductive QR (K:PySem.W.Frag) (E:XK) (Q:VK) (src:Bc) (items:List D) (sg:MG) (t:MT) (f:ME) (ρc:Ai) (m1:List Addr) (H1:Hp) (i n:Nat) (acc:List V) (H2:Hp):Prop where
 |mk (e:n=items.length - i) (l:i≤items.length) (a:acc.length≤i) (m2:List Addr) (h2:HD) (dacc:List D) (p:m1 <+:m2) (k:Kp H1 H2) (hr:HR K m2 h2 H2) (da:DVs K m2 H2 dacc acc) (q:Post K (rD K) m2 H2 E Q ((D0 src items sg t f ρc (items.drop i) h2).bind fun ys h3=>CH (dacc++ys) h3)):QR K E Q src items sg t f ρc m1 H1 i n acc H2
theorem QT (hg:G1 X.K cs gg sg):∀σ H Q,tD X.K E (A5 cs it sg t f) σ H Q→Lg cs (tM X.K (Le X.K) E it) gg (Ir X.K E0 t) (tD X.K E0 f) σ H Q:=by
 refine ?_
 rintro σ H Q ⟨m,ρ,h,hr,er,p⟩
 refine ⟨m,ρ,h,hr,er,Post.bind p fun x h1 J m1 H1 _ p1 k1 hr1 r1 q1=>?_⟩
 obtain ⟨items,src⟩:=x
 dsimp only at q1
 split at q1
 ·rename_i hz
  have er1:ER X.K m1 H1 (CK cs ρ) (BW cs σ):=(er.keep p1 k1).comp cs
  refine ⟨QR X.K E Q src items sg t f (CK cs ρ) m1 H1,
   ⟨items.length,rfl,B5 _,AG _,m1,h1,[],AC _,.refl _,hr1,.nil,by simpa using q1⟩,?_⟩
  rintro i n acc H2 ⟨rfl,hi',ha,m2,h2,dacc,p2,k2,hr2,da,q2⟩
  by_cases hlt:i<items.length
  ·rw [MN hlt] at q2
   unfold D0 at q2
   split at q2
   ·rename_i hs
    obtain ⟨hgo,hy⟩:=(r1 i m2 h2 H2 p2 k2 hr2 hs).1 hlt
    refine .inr ⟨hgo,by omega,fun y H3 hyl=>?_⟩
    obtain ⟨k3,hr3,d,ed,rd⟩:=hy y H3 hyl
    have ed':d=items[i]:=by rw [Ba hlt] at ed;exact (Option.some.inj ed).symm
    subst ed'
    split at q2
    ·exact q2.elim
    ·rename_i ρ3 es
     have er3:ER X.K m2 H3 (CK cs ρ) (BW cs σ):=er1.keep p2 (k2.trans k3)
     refine hg m2 H3 _ y (CK cs ρ) σ ρ3 _ rd er3 es fun σ4 sub4 er4=>⟨sub4,m2,ρ3,h2,hr3,er4,?_⟩
     rw [Out.bind_assoc] at q2
     refine QP (Post.ahead (AC _) k3 q2) fun b h5 v m5 H5 _ p5 k5 hr5 r5 q5=>?_
     cases r5
     cases b with
     |false=>
      simp only [Dv,if_false] at q5 ⊢
      exact ⟨items.length - (i+1),by omega,rfl,hlt,by omega,m5,h5,dacc,p2.trans p5,(k2.trans k3).trans k5,hr5,DVs.keep p5 (k3.trans k5) da,q5⟩
     |true=>
      simp only [if_true] at q5 ⊢
      rw [Out.bind_assoc] at q5
      refine ⟨m5,ρ3,h5,hr5,er4.keep p5 k5,QP q5 fun z h6 w m6 H6 _ p6 k6 hr6 r6 q6=>?_⟩
      refine ⟨items.length - (i+1),by omega,rfl,hlt,by simp;omega,m6,h6,dacc++[z],(p2.trans p5).trans p6,((k2.trans k3).trans k5).trans k6,hr6,(DVs.keep (p5.trans p6) ((k3.trans k5).trans k6) da).app (.cons r6 .nil),?_⟩
      rw [Out.bind_assoc] at q6
      simp only [Out.bind_ok] at q6
      simpa using q6
   ·exact q2.elim
  ·have he:i=items.length:=Nat.le_antisymm hi' (Jp hlt)
   subst he
   rw [List.drop_length] at q2
   unfold D0 at q2
   split at q2
   ·rename_i hs
    simp only [Out.bind_ok,El] at q2
    obtain ⟨z1,z2⟩:=Iz hr2 da q2
    exact .inl ⟨(r1 _ m2 h2 H2 p2 k2 hr2 hs).2 rfl,z1,z2⟩
   ·exact q2.elim
 ·exact q1.elim
theorem Dc (hcalm:X.calm=true) (S:ID X scope Nc cs) (hi:Gk X E tg iter it) (hg:G1 X.K cs gg sg)
 (hb:∀(C D:Addr) (cells:List (Str×Addr)) (fp:List Addr) (s₀:Shared) (H₀:Hp) (pins:List (Addr×Obj)),PG (CT X Nc scope C D cells fp s₀ H₀ pins) tg gg∧Lh (CT X Nc scope C D cells fp s₀ H₀ pins) E0 ifs t∧Ev (CT X Nc scope C D cells fp s₀ H₀ pins) E0 elt f)
 (hsf:∀x,foldedSetIterable iter X.env x=pure x:=by intro _;rfl):Ev X E (.ListComp elt [⟨tg,iter,ifs,0⟩] scope pos) (A5 cs it sg t f):=by
 exact Ca (Xw (g:=gg) (tc:=Ir X.K E0 t) (te:=tD X.K E0 f) hcalm S hi hb hsf) (QT hg)
theorem QU {i:Nat} {x:Str} {pos' pos2:Pos} (hcalm:X.calm=true) (hN:X.N.Nodup) (hix:X.N[i]?=some x) (hx:Ii X.env.scope x) (S:ID X scope Nc cs) (hi:Gk X E tg iter it) (hg:G1 X.K cs gg sg)
 (hb:∀(C D:Addr) (cells:List (Str×Addr)) (fp:List Addr) (s₀:Shared) (H₀:Hp) (pins:List (Addr×Obj)),PG (CT X Nc scope C D cells fp s₀ H₀ pins) tg gg∧Lh (CT X Nc scope C D cells fp s₀ H₀ pins) E0 ifs t∧Ev (CT X Nc scope C D cells fp s₀ H₀ pins) E0 elt f)
 (hsf:∀x,foldedSetIterable iter X.env x=pure x:=by intro _;rfl) (hsw:swapsWith (.ListComp elt [⟨tg,iter,ifs,0⟩] scope pos) (some (.Name x pos')) pos2.line X.env=pure true:=by rfl)
 (hf:X.fn x=true∨X.env.scope.names.lookup x=some .local:=by first |exact .inl rfl |exact .inr rfl |assumption):Ex X E (.Assign [.Name x pos'] (.ListComp elt [⟨tg,iter,ifs,0⟩] scope pos) pos2) (Ay i (A5 cs it sg t f)):=by
 rintro pins s σ H D I ⟨m,ρ,h,hr,er,p⟩
 have hq:Lg cs (tM X.K (Le X.K) E it) gg (Ir X.K E0 t) (tD X.K E0 f) σ H (fun v H1=>D.nx (σ.set i (some v)) H1):=QT hg σ H _ ⟨m,ρ,h,hr,er,PostS.bind p fun y h1 v m1 H1 _ p1 k1 hr1 r1 q1=>(q1.here hr1) _ ((er.keep p1 k1).set r1)⟩
 rw [exec_Assign_Name_used _ _ _ _ hsw]
 refine wpAny_bind (wpAny_standAt (wpAny_bind ?_))
 show wpAny _ X.A (do let _ ←comprehension (.ListComp elt [⟨tg,iter,ifs,0⟩] scope pos) scope X.env _ (newList []) false (eval iter X.env) (some (assign (.Name x pos') X.env))) _ _ s
 refine wpAny_bind (wpAny_mono (QN (QQ:=fun _ s'=>SP X pins D .next s') hcalm S hi hb hsf I hq fun s6 C Dd H7 m6 hn hC h0 hL hc hp inv q=>?_) (fun _ s' z=>wpAny_pure (wpAny_pure z)) fun _ _ z=>z)
 have I6:Inv X pins σ H7 s6:=inv s6.heap ⟨rfl,fun _ _=>rfl⟩
 refine wpAny_assign_Name (KL I6 hN hix hx (v:=.ref Dd) rfl (fun s7 I7 z3_=>?_) hf)
 obtain ⟨a,sb7,ha⟩:=z3_
 have nCa:C≠a:=by
  rcases ha with z |z
  ·rw [z];exact hL
  ·exact Ne.symm (hc x a z)
 obtain ⟨o,es,ep,e1,e2⟩:=hn
 refine ⟨m6,⟨o,es,ep,(sb7.2 C nCa).trans e1,e2⟩,fun h' sb=>?_⟩
 exact ⟨_,H7,I7.turned (t':=s7.toks) (it:=C) (fun b o hb e=>(sb.2 b hb).trans e) hC hL (.inr h0) hc hp,q⟩
end
section
variable {X:Cx} {E:XK}
def EX:D→HD→Option String
 |.non,_=>some "NoneType"
 |.bl _,_=>some "bool"
 |.int _,_=>some "int"
 |.str _,_=>some "str"
 |.tup _,_=>some "tuple"
 |.loc l,h=>match h[l]? with
  |some (.lst _)=>some "list"
  |_=>none
 |_,_=>none
theorem Xy {m:List Addr} {H:Hp} {h:HD} {d:D} {v:V} {t:String} (hr:HR X.K m h H) (r:DV X.K m H d v) (e:EX d h=some t):Ff X.K H v (.type t):=by
 cases d with
 |non=>simp only [EX,Option.some.injEq,DV] at e r;subst e r;exact .non
 |bl b=>simp only [EX,Option.some.injEq,DV] at e r;subst e r;exact .bl _
 |int i=>simp only [EX,Option.some.injEq,DV] at e r;subst e r;exact .int _
 |str x=>simp only [EX,Option.some.injEq,DV] at e r;subst e r;exact .str _
 |tup ds=>simp only [EX,Option.some.injEq,DV] at e r;subst e;obtain ⟨a,vs,rfl,ha,_⟩:=r;exact .tup ha
 |loc l=>
  simp only [DV] at r
  obtain ⟨a,rfl,ha⟩:=r
  simp only [EX] at e
  split at e
  ·rename_i ds el
   cases e
   obtain ⟨vs,hv,_⟩:=hr.cells l _ a el ha
   exact .lst hv
  ·cases e
 |_=>simp [EX] at e
def subL:List (String×String×Bool):=[("NoneType","int",false),("bool","int",true),("int","int",true),("str","int",false),("tuple","int",false),("list","int",false),("NoneType","bool",false),("bool","bool",true),("int","bool",false),("str","bool",false),("tuple","bool",false),("list","bool",false),("NoneType","tuple",false),("bool","tuple",false),("int","tuple",false),("str","tuple",false),("tuple","tuple",true),("list","tuple",false),("NoneType","str",false),("bool","str",false),("int","str",false),("str","str",true),("tuple","str",false),("list","str",false),("NoneType","list",false),("bool","list",false),("int","list",false),("str","list",false),("tuple","list",false),("list","list",true),("dict","int",false),("dict","bool",false),("dict","tuple",false),("dict","str",false),("dict","list",false)]
def Li (t c:String):Option Bool:=(subL.find? fun p=>p.1==t&&p.2.1==c).map fun p=>p.2.2
theorem Xz {K:PySem.W.Frag}:∀p∈subL,PySem.W.kitOne K (.type p.1) (.type p.2.1)=some p.2.2:=by
 unfold subL
 simp only [List.forall_mem_cons]
 exact ⟨rfl,rfl,rfl,rfl,rfl,rfl,rfl,rfl,rfl,rfl,rfl,rfl,rfl,rfl,rfl,rfl,rfl,rfl,rfl,rfl,rfl,rfl,rfl,rfl,rfl,rfl,rfl,rfl,rfl,rfl,rfl,rfl,rfl,rfl,rfl,fun _ h=>nomatch h⟩
theorem QV {K:PySem.W.Frag} {t c:String} {b:Bool} (h:Li t c=some b):PySem.W.kitOne K (.type t) (.type c)=some b:=by
 unfold Li at h
 rw [qb0] at h
 obtain ⟨p,hp,rfl⟩:=h
 have e:=KB hp
 rw [Cp,beq_iff_eq,beq_iff_eq] at e
 rw [←e.1,←e.2]
 exact Xz p (Kw hp)
def BY:D→D→HD→Out D:=fun x y h=>match y,EX x h with
 |.ty T,some t=>match Li t T with
  |some b=>.ok (.bl b) h
  |none=>.stuck
 |_,_=>.stuck
theorem G2 {x:Str} {T:String} {pos:Pos} (hg:Gl X x) (hm:X.mg x=none) (hv:bootBuiltins x=some (.type T)) (hn:x≠"__name__":=by decide) (hd:(x==("__debug__":Str))=false:=by decide):Ev X E (.Name x pos) (mC (.ty T)):=
 Iv (UQ (v:=.ty T) hg hm hv rfl hn hd) fun _ _=>by simp [DV]
theorem NG (ns:List Int):∀j,j≤ns.length→preSum (fun i=>ns.getD i 0) j=(ns.take j).sum
 |0,_=>by simp [preSum]
 |j+1,h=>by
  rw [preSum,NG ns j (by omega),List.take_succ_eq_append_getElem (by omega),List.sum_append]
  simp [FB,Ba (show j<ns.length by omega)]
theorem NH {h h2 h':Heap} {it:Addr} (k:∀b o,h.get? b=some o→h2.get? b=some o) (hit:h.objs.size≤it) (hk:∀b o,b∉[it]→h2.get? b=some o→h'.get? b=some o):∀b o,h.get? b=some o→h'.get? b=some o:=fun b o e=>
 hk b o (by rw [qaA];exact Cs (A1 (AO e) hit)) (k b o e)
theorem QW {ns:List Int} {its:List Value} (r:Vals (ns.map V.int) its) {i:Nat} {v:Value} (e:its.toArray[i]?=some v):∃t,v=.int (ns.getD i 0) t:=by
 have e':its[i]?=some v:=by simpa using e
 have hi:i<its.length:=(qa3.mp e').1
 have hl:ns.length=its.length:=by have:=r.length;simpa using this
 have hn:(ns.map V.int)[i]?=some (V.int (ns.getD i 0)):=by
  rw [CP,Ba (by omega)]
  simp [FB,Ba (show i<ns.length by omega)]
 obtain ⟨u,h1,t,h2⟩:=r.get hn
 rw [e'] at h1
 cases h1
 exact ⟨t,h2⟩
theorem XA (hc:X.calm=true):DD X (.builtin "sum") (fun xs H Q=>∃(p:Addr) (ns:List Int),xs=[.ref p]∧(SqL X.K H p (ns.map V.int)∨SqT X.K H p (ns.map V.int))∧Q (.int ns.sum) H):=by
 intro pins s σ H xs us Q I r h
 obtain ⟨p,ns,rfl,hs,q⟩:=h
 obtain ⟨u,rfl,rx⟩:=FI r
 cases rx
 have hh:X.A.in1.handled=none:=I.ok.hd hc
 rcases hs with hs |hs
 ·obtain ⟨its,rv,pl,hz⟩:=I.list hs
  have hl:=rv.length
  rw [BJ] at hl
  have hlt:p<s.heap.objs.size:=by obtain ⟨_,e,_⟩:=pl.isList;exact AO e
  refine call_sum_walkG (wpAny_pyIter_list pl.isList ?_)
  refine ⟨s.heap.objs.size,[s.heap.objs.size,p],[s.heap.objs.size],its.toArray.size,_,_,fun i=>ns.getD i 0,rfl,Walks.list (A:=X.A.in1) hh _ p (Cs hlt) its.toArray,⟨⟨_,BD _ rfl,rfl,rfl⟩,pl.isList.push _⟩,fun b hb=>?_,fun i v e=>QW rv e,fun h' tk t' hk=>?_⟩
  ·show b<(s.heap.push _).objs.size
   rw [DT]
   rcases qa5.mp hb with z |z
   ·rw [z];exact Jq _
   ·rw [qaA.mp z];exact Jo hlt
  ·have e:preSum (fun i=>ns.getD i 0) its.toArray.size=ns.sum:=by
    rw [A7,←hl,NG ns _ (AG _),List.take_length]
   rw [e]
   exact ⟨.int ns.sum,H,I.kept (NH (fun b o e=>AM _ e) (AG _) hk),⟨t',rfl⟩,q⟩
 ·obtain ⟨its,rv,pl,hz⟩:=I.tuple hs
  have hl:=rv.length
  rw [BJ] at hl
  have hT:s.heap.IsTuple p its.toArray:=pl
  have hlt:p<s.heap.objs.size:=pl.lt
  refine call_sum_walkG (wpAny_pyIter_tuple hT ?_)
  refine ⟨s.heap.objs.size,[s.heap.objs.size,p],[s.heap.objs.size],its.toArray.size,_,_,fun i=>ns.getD i 0,rfl,Walks.tuple (A:=X.A.in1) hh _ p (Cs hlt) its.toArray,⟨⟨_,BD _ rfl,rfl,rfl⟩,hT.push _⟩,fun b hb=>?_,fun i v e=>QW rv e,fun h' tk t' hk=>?_⟩
  ·show b<(s.heap.push _).objs.size
   rw [DT]
   rcases qa5.mp hb with z |z
   ·rw [z];exact Jq _
   ·rw [qaA.mp z];exact Jo hlt
  ·have e:preSum (fun i=>ns.getD i 0) its.toArray.size=ns.sum:=by
    rw [A7,←hl,NG ns _ (AG _),List.take_length]
   rw [e]
   exact ⟨.int ns.sum,H,I.kept (NH (fun b o e=>AM _ e) (AG _) hk),⟨t',rfl⟩,q⟩
def G3:D→Option Int
 |.int i=>some i
 |_=>none
def IF:D→HD→Out D:=fun x h=>match BQ x h with
 |some ds=>match AS (ds.map G3) with
  |some ns=>.ok (.int ns.sum) h
  |none=>.stuck
 |none=>.stuck
theorem NI {m:List Addr} {H:Hp}:∀{ds:List D} {vs:List V} {ns:List Int},DVs X.K m H ds vs→AS (ds.map G3)=some ns→vs=ns.map V.int
 |[],vs,ns,r,e=>by
  simp only [DVs] at r
  simp [AS] at e
  subst r e
  rfl
 |d::ds,vs,ns,r,e=>by
  simp only [DVs] at r
  obtain ⟨v,w,rfl,rv,rw'⟩:=r
  rw [Bx] at e
  cases d with
  |int i=>
   simp only [G3,AS,qb0] at e
   obtain ⟨ns',e1,rfl⟩:=e
   simp only [DV] at rv
   subst rv
   rw [NI rw' e1]
   rfl
  |_=>simp [G3,AS] at e
theorem XB (hc:X.calm=true):DG X (.builtin "sum") (AB IF):=by
 refine ⟨_,XA hc,fun m H h E ds vs Q hr r q=>GU r q fun d v ev rv q=>?_⟩
 unfold IF at q
 split at q
 ·rename_i xs e
  split at q
  ·rename_i ns en
   obtain ⟨p,ws,rfl,hs,dv⟩:=JJ hr rv e
   have:=NI dv en
   subst this
   exact ⟨p,ns,ev,hs,Bm hr q (by simp [DV])⟩
  ·exact q.elim
 ·exact q.elim
theorem XC (hc:X.calm=true):DD X (.builtin "all") (fun xs H Q=>∃(p:Addr) (bs:List Bool),xs=[.ref p]∧SqL X.K H p (bs.map V.bl)∧Q (.bl (bs.all id)) H):=by
 intro pins s σ H xs us Q I r h
 obtain ⟨p,bs,rfl,hs,q⟩:=h
 obtain ⟨u,rfl,rx⟩:=FI r
 cases rx
 have hh:X.A.in1.handled=none:=I.ok.hd hc
 obtain ⟨its,rv,pl,hz⟩:=I.list hs
 have hl:=rv.length
 rw [BJ] at hl
 have hlt:p<s.heap.objs.size:=by obtain ⟨_,e,_⟩:=pl.isList;exact AO e
 have item:∀(i:Nat) (v:Value),its.toArray[i]?=some v→v=.bool (bs.getD i true):=fun i v e=>by
  have e':its[i]?=some v:=by simpa using e
  have hi:i<its.length:=(qa3.mp e').1
  have hn:(bs.map V.bl)[i]?=some (V.bl (bs.getD i true)):=by
   rw [CP,Ba (by omega)]
   simp [FB,Ba (show i<bs.length by omega)]
  obtain ⟨u,h1,h2⟩:=rv.get hn
  rw [e'] at h1
  cases h1
  exact h2
 refine call_all_walk (wpAny_pyIter_list pl.isList ?_)
 refine ⟨s.heap.objs.size,[s.heap.objs.size,p],[s.heap.objs.size],its.toArray.size,_,_,fun i=>bs.getD i true,rfl,Walks.list (A:=X.A.in1) hh _ p (Cs hlt) its.toArray,⟨⟨_,BD _ rfl,rfl,rfl⟩,pl.isList.push _⟩,fun i v s' Q' E' e hQ=>?_,fun h' tk hk=>?_⟩
 ·rw [item i v e]
  exact wpAny_truthy_bool hQ
 ·have e:(List.range its.toArray.size).all (fun i=>bs.getD i true)=bs.all id:=by
   rw [A7,←hl]
   apply qaW.mpr
   simp only [qaT,qaY,id]
   constructor
   ·intro h b hb
    obtain ⟨i,hi,rfl⟩:=List.getElem_of_mem hb
    have:=h i hi
    simpa [FB,Ba hi] using this
   ·intro h i hi
    have:=h bs[i] (Ib hi)
    simpa [FB,Ba hi] using this
  rw [e]
  exact ⟨.bl _,H,I.kept (NH (fun b o e=>AM _ e) (AG _) hk),rfl,q⟩
def IG:D→Option Bool
 |.bl b=>some b
 |_=>none
def Fi:D→HD→Out D:=fun x h=>match x with
 |.loc l=>match h[l]? with
  |some (.lst ds)=>match AS (ds.map IG) with
   |some bs=>.ok (.bl (bs.all id)) h
   |none=>.stuck
  |_=>.stuck
 |_=>.stuck
theorem QX {m:List Addr} {H:Hp}:∀{ds:List D} {vs:List V} {bs:List Bool},DVs X.K m H ds vs→AS (ds.map IG)=some bs→vs=bs.map V.bl
 |[],vs,ns,r,e=>by
  simp only [DVs] at r
  simp [AS] at e
  subst r e
  rfl
 |d::ds,vs,ns,r,e=>by
  simp only [DVs] at r
  obtain ⟨v,w,rfl,rv,rw'⟩:=r
  rw [Bx] at e
  cases d with
  |bl i=>
   simp only [IG,AS,qb0] at e
   obtain ⟨ns',e1,rfl⟩:=e
   simp only [DV] at rv
   subst rv
   rw [QX rw' e1]
   rfl
  |_=>simp [IG,AS] at e
theorem QY (hc:X.calm=true):DG X (.builtin "all") (AB Fi):=by
 refine ⟨_,XC hc,fun m H h E ds vs Q hr r q=>GU r q fun d v ev rv q=>?_⟩
 unfold Fi at q
 split at q
 ·rename_i l
  split at q
  ·rename_i xs el
   split at q
   ·rename_i bs eb
    simp only [DV] at rv
    obtain ⟨a,rfl,ha⟩:=rv
    obtain ⟨ws,hv,dv⟩:=hr.cells _ _ a el ha
    have:=QX dv eb
    subst this
    exact ⟨a,bs,ev,SqL.of hv,Bm hr q (by simp [DV])⟩
   ·exact q.elim
  ·exact q.elim
 ·exact q.elim
def IH:D→D→HD→Out D:=fun x y h=>match x with
 |.loc l=>match h[l]? with
  |some (.lst ds)=>if ds.length<sizeLine then .ok .non (h.set l (.lst (ds++[y]))) else .stuck
  |_=>.stuck
 |_=>.stuck
def Cj:D→HD→Out D:=fun x h=>match x with
 |.loc l=>match h[l]? with
  |some (.lst _)=>.ok x h
  |_=>.stuck
 |_=>.stuck
def G4 (f g:ME):ME:=fun ρ h=>((f ρ h).bind Cj).bind fun x h1=>(g ρ h1).bind fun y h2=>IH x y h2
theorem QZ {o e:Expr} {f g:ME} {apos cpos:Pos} (ho:Ev X E o f) (he:Ev X E e g)
 (hbase:attributeBase o "append" X.env (eval o X.env)=eval o X.env:=by rfl)
 (hfew:((backTo cpos (starEach [e] X.env)).all (fun x=>!x.1)&&(backToKw cpos (keywordEach [] X.env)).all (fun x=>x.1.isSome)
  &&decide ([e].length+([]:List Keyword).length+(if ([]:List Keyword).isEmpty then 0 else 1)<30))=true:=by rfl)
 (hline:(apos.endLine==cpos.line)=true:=by rfl) (hs:starEach [e] X.env=(false,eval e X.env)::starEach [] X.env:=by rfl) (hplain:(backTo cpos (starEach [] X.env)).any (·.1)=false:=by rfl):
 Ev X E (.Call (.Attribute o "append" apos) [e] [] cpos) (G4 f g):=
 Ca (Qe PySem.F.plainAttrs_list PySem.F.slot_list_append PySem.F.type_list_append WN ho (Ad he Ag hs) hbase hfew hline hs hplain) fun σ H Q z1_=>by
  obtain ⟨m,ρ,h,hr,er,p⟩:=z1_
  refine ⟨m,ρ,h,hr,er,?_⟩
  unfold G4 at p
  rw [Out.bind_assoc] at p
  refine Post.bind p fun x h1 v m1 H1 eo p1 k1 hr1 r1 q1=>?_
  clear eo
  unfold Cj at q1
  split at q1
  ·rename_i l
   split at q1
   ·rename_i ds el
    simp only [Out.bind_ok] at q1
    have r1':=r1
    simp only [rD,DV] at r1'
    obtain ⟨a,rfl,ha⟩:=r1'
    obtain ⟨ws,hv,dv⟩:=hr1.cells l _ a el ha
    refine ⟨.inl ⟨rfl,ws,SqL.of hv⟩,m1,ρ,h1,hr1,er.keep p1 k1,?_⟩
    have q2:Post X.K (rD X.K) m1 H1 E Q ((Aa g Ae ρ h1).bind fun ys h2=>match ys with
     |[y]=>IH (.loc l) y h2
     |_=>.stuck):=by
     unfold Aa Ae
     rw [Out.bind_assoc]
     exact q1
    refine Post.bind q2 fun ys h2 vs m2 H2 eo p2 k2 hr2 r2 q3=>?_
    clear eo
    split at q3
    ·rename_i y
     simp only [Fg,DVs] at r2
     obtain ⟨yv,w,rfl,ry,rfl⟩:=r2
     unfold IH at q3
     simp only at q3
     split at q3
     ·rename_i ds2 el2
      split at q3
      ·rename_i hz
       have ha2:=JB p2 ha
       obtain ⟨ws2,hv2,dv2⟩:=hr2.cells l _ a el2 ha2
       refine ⟨a,ws2,yv,rfl,rfl,hv2,by rw [←dv2.len];exact hz,?_⟩
       refine q3 .non m2 _ (AC _) (.set hv2 rfl) (hr2.setCell ha2 hv2 rfl ⟨_,B9,?_⟩) (by simp [rD,DV])
       exact (dv2.app (.cons ry .nil)).keep (AC _) (.set hv2 rfl)
      ·exact q3.elim
     ·exact q3.elim
    ·exact q3.elim
   ·exact q1.elim
  ·exact q1.elim
def II:D→D→D→HD→Out (Fl×Ai)→Out (Fl×Ai):=fun o i v h k=>match o,i with
 |.loc l,.int n=>match h[l]? with
  |some (.lst ds)=>match DW ds.length n with
   |some j=>match k with
    |.ok a _=>.ok a (h.set l (.lst (ds.set j v)))
    |_=>.stuck
   |none=>.stuck
  |_=>.stuck
 |_,_=>.stuck
def IJ (fo fi fv:ME):MS:=fun ρ h=>(fv ρ h).bind fun v h1=>(fo ρ h1).bind fun o h2=>(fi ρ h2).bind fun i h3=>II o i v h3 (.ok (.nx,ρ) h3)
theorem NJ {o i e:Expr} {fo fi fv:ME} {pos pos':Pos} (ho:Ev X E o fo) (hi:Ev X E i fi) (he:Ev X E e fv)
 (ha:∀v,assign (.Subscript o i pos') X.env v=(do
  let ov ←holding [v] (eval o X.env)
  let iv ←holding [v,ov] (eval i X.env)
  standAt pos'
  holding [v,ov,iv] (setItem ov iv v)
  release [v,ov,iv] []):=by intro _;rfl)
 (hs:swapsWithSole [.Subscript o i pos'] e pos.line X.env=pure false:=by rfl) (hw:swappedStores [.Subscript o i pos'] e X.env=pure none:=by rfl)
 (h1:(assignEach [.Subscript o i pos'] X.env).map (·.2)=[assign (.Subscript o i pos') X.env]:=by rfl):Ex X E (.Assign [.Subscript o i pos'] e pos) (IJ fo fi fv):=
 EO (KP he (M0 ho hi WA ha) hs hw h1) fun Dn σ H ⟨m,ρ,h,hr,er,p⟩=>⟨m,ρ,h,hr,er,PostS.bind p fun v h1 vv m1 H1 eo1 p1 k1 hr1 r1 q1=>by
  refine ⟨m1,ρ,h1,hr1,er.keep p1 k1,PostS.bind q1 fun ov h2 vo m2 H2 eo2 p2 k2 hr2 r2 q2=>?_⟩
  refine ⟨m2,ρ,h2,hr2,(er.keep p1 k1).keep p2 k2,PostS.bind q2 fun iv h3 vi m3 H3 eo3 p3 k3 hr3 r3 q3=>?_⟩
  clear eo1 eo2 eo3
  unfold II at q3
  split at q3
  ·rename_i l n
   split at q3
   ·rename_i ds el
    split at q3
    ·rename_i j ej
     have ro:=DV.keep p3 k3 r2
     simp only [DV] at ro
     obtain ⟨a,rfl,ha⟩:=ro
     have ri:=r3
     simp only [rD,DV] at ri
     subst ri
     obtain ⟨ws,hv,dv⟩:=hr3.cells l _ a el ha
     refine ⟨a,ws,n,j,rfl,rfl,hv,by rw [←dv.len];exact ej,?_⟩
     have rvv:=DV.keep p3 k3 (DV.keep p2 k2 r1)
     have hr4:HR X.K m3 (h3.set l (.lst (ds.set j v))) (Av H3 a (.lst (ws.set j vv))):=hr3.setCell ha hv rfl ⟨_,B9,(dv.set j rvv).keep (AC _) (.set hv rfl)⟩
     exact q3 m3 _ (AC _) (.set hv rfl) hr4 σ ((((er.keep p1 k1).keep p2 k2).keep p3 k3).keep (AC _) (.set hv rfl))
    ·exact q3.elim
   ·exact q3.elim
  ·exact q3.elim⟩
end
def Az (n:Nat) (g:MS):List D→HD→Out D:=fun ds h=>(g (ds.map some++List.replicate (n - ds.length) none) h).bind fun x h1=>match x with
 |(.nx,_)=>.ok .non h1
 |(.rt d,_)=>.ok d h1
 |_=>.stuck
open AutoSeq1 (wpAny_loadPart')
section
variable {prog:Program} {w:World} {A:Around} {E:Value→Shared→Prop} {s:Shared}
theorem XE {it l:Addr} {i:Nat} {items:Array Value} {x:Value} {Q:Value→Shared→Prop} (hit:s.heap.IsTupleIter it l i)
 (hl:s.heap.IsTuple l items) (hx:items[i]?=some x)
 (hQ:∀h',h'.IsTupleIter it l (i+1)→Heap.SameBut it s.heap h'→Q x {s with heap:=h'}):
 wpAny (model prog w) A (Builtin.SmallTypes.nextOf (.ref it)) Q E s:=by
 obtain ⟨o,ho,hc,hd⟩:=id hit
 obtain ⟨ol,hol,_,nl,hdl⟩:=hl
 unfold Builtin.SmallTypes.nextOf
 refine wpAny_bind (wpAny_callSpecial?_slot (name:=Str.ofString "__next__") hit.typeIs F.slot_tuple_iterator_next
  (wpAny_call_entry F.slot_tuple_iterator_next hit.typeIs F.entry_tuple_iterator_next ?_ (F.args_tuple_iterator_next_1 _)))
 show wpAny _ _ (field (.ref it) 0 >>=_) _ _ s
 refine wpAny_bind (wpAny_field ho hd (x:=.ref l) rfl ?_)
 show wpAny _ _ (if (Value.ref l==Value.none)=true then _ else _) _ _ s
 rw [if_neg (show ¬((Value.ref l==Value.none)=true) from BE)]
 show wpAny _ _ (field (.ref it) 1 >>=_) _ _ s
 refine wpAny_bind (wpAny_field ho hd (x:=.int i 0) rfl ?_)
 show wpAny _ _ (seqItems? (.ref l) >>=_) _ _ s
 refine wpAny_bind (wpAny_seqItems hol hdl ?_)
 simp only [Jk,hx]
 refine wpAny_bind (wpAny_setField ho hd (by simp) (wpAny_pure ⟨x,rfl,wpAny_pure (hQ _ ?_ (Heap.SameBut.update ..))⟩))
 exact ⟨_,MU _ ho (Obj.isFreed_of_fields (Obj.data_mapFields hd _)),(Obj.cls_mapFields ..).trans hc,by
  rw [Obj.data_mapFields hd];simp [rawInt]⟩
theorem XF {it l:Addr} {i:Nat} {items:Array Value} {Q:Value→Shared→Prop} (hh:A.handled=none)
 (hit:s.heap.IsTupleIter it l i) (hl:s.heap.IsTuple l items) (hx:items[i]?=none)
 (hE:∀h' e,Heap.ExtBut it s.heap h'→(∃o,h'.get? e=some o∧o.cls=.type "StopIteration")→E (.ref e) {s with heap:=h'}):
 wpAny (model prog w) A (Builtin.SmallTypes.nextOf (.ref it)) Q E s:=by
 obtain ⟨o,ho,hc,hd⟩:=id hit
 obtain ⟨ol,hol,_,nl,hdl⟩:=hl
 unfold Builtin.SmallTypes.nextOf
 refine wpAny_bind (wpAny_callSpecial?_slot (name:=Str.ofString "__next__") hit.typeIs F.slot_tuple_iterator_next
  (wpAny_call_entry F.slot_tuple_iterator_next hit.typeIs F.entry_tuple_iterator_next ?_ (F.args_tuple_iterator_next_1 _)))
 show wpAny _ _ (field (.ref it) 0 >>=_) _ _ s
 refine wpAny_bind (wpAny_field ho hd (x:=.ref l) rfl ?_)
 show wpAny _ _ (if (Value.ref l==Value.none)=true then _ else _) _ _ s
 rw [if_neg (show ¬((Value.ref l==Value.none)=true) from BE)]
 show wpAny _ _ (field (.ref it) 1 >>=_) _ _ s
 refine wpAny_bind (wpAny_field ho hd (x:=.int i 0) rfl ?_)
 show wpAny _ _ (seqItems? (.ref l) >>=_) _ _ s
 refine wpAny_bind (wpAny_seqItems hol hdl ?_)
 simp only [Jk,hx]
 refine wpAny_bind (wpAny_rule (wpAny_bind (wpAny_setField ho hd (by simp) ?_)))
 show wpAny _ _ (newExc (.type "StopIteration") [] >>=_) _ _ _
 refine wpAny_bind ?_
 simp only [newExc,newTuple]
 refine wpAny_bind (wpAny_newObj_type ?_ (by size_fits))
 refine wpAny_bind (m:=firstArgMember _ _) (wpAny_of_eq (a:=Value.none) (by first |rfl |(simp only [firstArgMember];rfl)) ?_)
 refine wpAny_newObj_type ?_ (by size_fits)
 simp only [raiseNew]
 refine wpAny_bind (wpAny_handled ?_)
 first |rw [show A.in1.handled=none from hh] |rw [hh]
 refine wpAny_bind (wpAny_pure (wpAny_throw ?_))
 exact hE _ _ (((Heap.SameBut.update ..).extBut.push _).push _) ⟨_,BD _ rfl,rfl⟩
end
theorem XG {prog:Program} {w:World} {A:Around} (hh:A.handled=none) (it l:Addr) (hne:l≠it) (items:Array Value):
 Draws prog w A it [it,l] items.size (fun i v=>items[i]?=some v) (fun i h=>h.IsTupleIter it l i∧h.IsTuple l items) where
 live:=fun _ _ st=>let ⟨o,ho,_⟩:=st.1;⟨o,ho⟩
 frame:=fun _ _ _ st hk=>⟨st.1.at fun o e=>hk it (by simp) o e,st.2.at fun o e=>hk l (by simp) o e⟩
 item:=fun i s Q E hi st hQ=>by
  refine XE st.1 st.2 (x:=items[i]) (by simp [hi]) fun h' hit' hs'=>?_
  exact hQ _ h' s.toks (by simp [hi]) ⟨hit',st.2.extBut hs'.extBut hne⟩ hs'
 done:=fun s Q E st hE=>XF hh st.1 st.2 (by simp) hE
section
variable {prog:Program} {w:World} {A:Around} {E:Value→Shared→Prop} {s:Shared}
end
def Ite (K:PySem.W.Frag) (t:Addr) (xs:List V):It:=⟨fun i H=>i<xs.length∧SqT K H t xs,fun i H x H'=>∃p v,H p=none∧x=.ref p∧xs[i]?=some v∧H'=Av H p (.tup [.int i,v]),fun i H=>i=xs.length∧SqT K H t xs⟩
section
variable {X:Cx} {E:XK}
def NK (ds:List D):List D:=ds.mapIdx fun i d=>.tup [.int (i:Nat),d]
def Q0:List D→HD→Out (List D×Bc):=fun ds h=>match ds with
 |[.tup xs]=>.ok (NK xs,[]) h
 |_=>.stuck
def Q1 (fa:MA):MI:=fun ρ h=>(fa ρ h).bind Q0
end
end LS
namespace LS
open PySem PySem.Spec PyProof.Rows L2
section
variable {prog:Program} {w:World} {A:Around} {E:Value→Shared→Prop} {s:Shared}
end
section
variable {X:Cx} {E:XK} {e:Expr} {f:ME}
def NL:D→HD→Out D:=fun x h=>match x with
 |.tup [a,b]=>.ok (.tup [b,a]) h
 |_=>.stuck
def Q2 (f:ME):ME:=fun ρ h=>(f ρ h).bind NL
end
structure CSc (X:Cx) (scope:Scope) (Nc:List Str) (cs:List (Option Nat)):Prop where
 kind:scope.kind=.function
 loc:(scope.names.all fun y=>y.2 != .local||scope.names.lookup y.1==some .local)=true
 free:(scope.names.all fun y=>y.2 != .free||(X.env.kindOf y.1==some .cell||X.env.kindOf y.1==some .free))=true
 nd:(scope.names.map (·.1)).Nodup
 len:cs.length=Nc.length
 out:((Nc.zip cs).all fun p=>match p.2 with
  |none=>true
  |some j=>X.N[j]?==some p.1&&scope.names.lookup p.1==some .free)=true
theorem CSc.ok {X:Cx} {scope:Scope} {Nc:List Str} {cs:List (Option Nat)} (S:CSc X scope Nc cs):ID X scope Nc cs:=by
 refine ⟨S.kind,fun y hy e=>?_,fun y hy e=>?_,S.nd,S.len,fun i x j h1 h2=>?_⟩
 ·have:=qaT.mp S.loc y hy
  rw [e] at this
  simpa using this
 ·have:=qaT.mp S.free y hy
  rw [e] at this
  simpa using this
 ·have hz:(Nc.zip cs)[i]?=some (x,some j):=by
   rw [List.getElem?_zip_eq_some]
   exact ⟨h1,h2⟩
  have:=qaT.mp S.out (x,some j) (GD hz)
  simpa using this
structure Dn (K:PySem.W.Frag) (mg:Str→Option Value) (x:Str) (ps:List Str) (st:Stmt) (f:Addr) (fd:FuncData):Prop where
 fn:Fun K x x st f fd
 bd:Binds K fd ps []
 mg:mg x=some (.ref f)
section
variable {X:Cx} {E:XK}
theorem NM {a:Expr} {f:ME} {pos:Pos} (ha:Ev X E a f):Ev X E (.UnaryOp .USub a pos) (fun ρ h=>(f ρ h).bind fun x h1=>match x with
 |.int i=>.ok (.int (-i)) h1
 |_=>.stuck):=
 Ca (PN PR ha) fun σ H Q z1_=>by obtain ⟨m,ρ,h,hr,er,p⟩:=z1_;exact (⟨m,ρ,h,hr,er,Post.bind p fun x h1 v m1 H1 eo p1 k1 hr1 r1 q1=>by
  clear eo
  split at q1
  ·simp only [rD,DV] at r1
   subst r1
   exact ⟨_,rfl,Bm hr1 q1 (by simp [DV])⟩
  ·exact q1.elim⟩)
def JR (f:ME):ME:=fun ρ h=>(f ρ h).bind fun x h1=>match x with
    |.int i=>.ok (.int (-i)) h1
    |_=>.stuck
theorem Gn {i j:Nat} {x y:Str} {px py tp:Pos} {kt:Nat} (hc:X.calm=true) (h1:PG X (.Name x px) (Cy i)) (h2:PG X (.Name y py) (Cy j)):PG X (.Tuple [.Name x px,.Name y py] kt tp) (Fe X.K 2 (CU (Cy i) (CU (Cy j) FE))):=
 FH hc (B6 h1 (B6 h2 FG))
end
def CMl (i j:Int):Prop:=CMul i j∨(Builtin.Int.intBits i≤16777216∧Builtin.Int.intBits j≤16777216)
instance (i j:Int):Decidable (CMl i j):=by unfold CMl;infer_instance
theorem CMl.ok {i j:Int} (h:CMl i j):IntMulOk i j:=by
 rcases h with h |⟨h1,h2⟩
 ·exact h.ok
 ·unfold IntMulOk
  intro z
  simp only [Cp,decide_eq_true_eq] at z
  have:=z.2
  unfold Builtin.Int.intTooBig at this
  simp only [decide_eq_true_eq] at this
  have hb:(bitsLine:Int)=134217728:=by first |rfl |decide
  omega
variable {X:Cx}
theorem op_mul':OpR X (binaryOp .Mult) (rI CMl fun i j=>.int (i*j)):=KS fun _ _ _ _ _ _ _ hc q=>mul_int q hc.ok
def EY:D→D→HD→Out D
 |.int i,.int j,h=>if CMl i j then .ok (.int (i*j)) h else .stuck
 |.loc l,.int k,h=>match h[l]? with
  |some (.lst xs)=>if -(2^63)≤k∧k<2^63 then CH (List.replicate k.toNat xs).flatten h else .stuck
  |_=>.stuck
 |_,_,_=>.stuck
theorem XH:BA X (binaryOp .Mult) EY:=by
 refine ⟨_,op_mul'.or WV,fun m H h E x y v u Q hr rx ry q=>?_⟩
 unfold EY at q
 split at q
 ·simp only [DV] at rx ry
  subst rx ry
  split at q
  ·rename_i hc
   exact .inl ⟨_,_,rfl,rfl,hc,Bm hr q (by simp [DV])⟩
  ·exact q.elim
 ·simp only [DV] at rx ry
  obtain ⟨a,rfl,ha⟩:=rx
  subst ry
  split at q
  ·rename_i k _ xs e
   split at q
   ·rename_i hk
    obtain ⟨vs,h1,d1⟩:=hr.cells _ _ a e ha
    obtain ⟨z,q'⟩:=Iz hr (d1.rep k.toNat) q
    refine .inr ⟨a,k,vs,rfl,rfl,h1,hk.1,hk.2,?_,q'⟩
    rw [K2] at z
    rw [Nat.mul_comm];exact z
   ·exact q.elim
  ·exact q.elim
 ·exact q.elim
end LS
namespace Att
open PySem PySem.W PySem.Calls PyProof.Rows
theorem XI {ns:List Int} (h:WData.layable (.list (ns.map WData.int))=true):∀n∈ns,Builtin.Int.intBits n≤2^20:=by
 have hw:WData.weight (.list (ns.map WData.int))≤2^20:=(layableW_iff.mp h).2.2
 have key:∀(ns:List Int) (b:Nat),WData.weightAll (ns.map WData.int)≤b→∀n∈ns,Builtin.Int.intBits n≤b:=by
  intro ns
  induction ns with
  |nil=>intro b _ n hn;cases hn
  |cons m r ih=>
   intro b hb n hn
   have e:WData.weightAll ((m::r).map WData.int)=Builtin.Int.intBits m+1+WData.weightAll (r.map WData.int):=by
    simp only [Bx,WData.weightAll,WData.weight]
    rfl
   rw [e] at hb
   rcases qa5.mp hn with z |z
   ·subst z;omega
   ·exact ih b (by omega) n z
 exact key ns _ (by simpa only [WData.weight] using hw)
theorem attach_bits {l:OpenLaw} {n:Nat} {q:Program} {loose:List Str} {XP:(Str→Option Value)→Heap→Prop} {YP:World→Heap→Prop} {d:DefRec}
 (hn:l.most=some n) (hdf:d.params.defaults=[])
 (call:∀(w:World) (s₀ s₁:Shared) (mg mb:Str→Option Value) (fa:Addr) (o:Obj) (pm cd doc:Value) (a:Addr) (vs:List Value) (ns:List Int),(∀n∈ns,Builtin.Int.intBits n≤2^20)→
  Ground q loose [] XP w s₀ mg mb s₁.heap→YP w s₁.heap→
  s₁.heap.get? fa=some o→o.data=.func (docDef d.name d.params d.body d.scope pm cd doc)→s₁.heap.CodeRec cd d.name→mg d.name=some (.ref fa)→
  s₁.heap.get? a=some {cls:=.type "list",data:=.seq vs.toArray}→IntsAre vs ns→ns.length≤n→s₁.gens=#[]→
  codeAny (model l.prog w) callerA (.call (.ref fa) ⟨[.ref a],[]⟩) (fun r s'=>r=.ok (.ret (.bool true))∧OldK s₁.heap s'.heap∧s'.os=s₁.os∧AllBare s'.gens) s₁):
 WalkO q loose XP YP l.row.toRowW d [] (fun f vs=>PySem.call f vs):=by
 intro w s₀ s₁ mg mb G Y fa o pm cd doc dV kV ho hd hcd hD hmg hg args vals as hpre hlay hrd hwl hlo
 obtain rfl:dV=.none:=Dflts.none hD hdf
 obtain rfl:kV=.none:=Dflts.noKw hD
 obtain ⟨a,vs,ns,rfl,rfl,hobj,hints,hlen⟩:=WX hn hpre hwl
 have hb:=XI (layableW_arg hlay _ Bf)
 refine enter_call (codeAny_mono (call w s₀ s₁ mg mb fa o pm cd doc a vs ns hb G Y ho (fd_plain hd) hcd hmg hobj hints hlen hg) fun r s' hq=>?_)
 obtain ⟨rfl,h2,h3,h4⟩:=hq
 exact ⟨.inl ⟨.bool true,.bool true,[],rfl,fun _=>rfl,.bool true,WY l _,fun _=>⟨List.Pairwise.nil,fun _ hm=>(nomatch hm)⟩⟩,h2,h3,h4⟩
end Att
namespace LS
open PySem PySem.Spec PyProof.Rows L2
def Wp {α:Type} (o:Out α) (Q:α→HD→Prop):Prop:=match o with
 |.ok a h=>Q a h
 |_=>False
section
variable {α β:Type} {o:Out α} {Q Q':α→HD→Prop}
@[simp] theorem AH (a:α) (h:HD):Wp (.ok a h) Q=Q a h:=rfl
@[simp] theorem ZdE:Wp .stuck Q=False:=rfl
theorem Ao {o':Out α} (e:o=o') (h:Wp o' Q):Wp o Q:=e ▸ h
theorem AE {k:α→HD→Out β} {Q:β→HD→Prop}:Wp (o.bind k) Q=Wp o fun a h=>Wp (k a h) Q:=by cases o<;>rfl
theorem Wp.mono (h:Wp o Q) (f:∀a h,Q a h→Q' a h):Wp o Q':=by
 cases o with
 |ok a h'=>exact f _ _ h
 |_=>exact h.elim
theorem Wp.ex (h:Wp o Q):∃a h',o=.ok a h'∧Q a h':=by
 cases o with
 |ok a h'=>exact ⟨a,h',rfl,h⟩
 |_=>exact h.elim
end
def Sm (h h':HD):Prop:=∀(l:Nat) (c:DE),h[l]?=some c→h'[l]?=some c
theorem Sm.refl (h:HD):Sm h h:=fun _ _ e=>e
theorem Sm.trans {h h1 h2:HD} (a:Sm h h1) (b:Sm h1 h2):Sm h h2:=fun l c e=>b l c (a l c e)
theorem Sm.app (h t:HD):Sm h (h++t):=fun l c e=>by
 rw [F6 (qa3.mp e).1];exact e
def Pu {α:Type} (o:Out α) (h:HD) (a:α):Prop:=Wp o fun x h'=>x=a∧Sm h h'
section
variable {α β:Type} {o:Out α} {h:HD} {a:α}
theorem Pu.wp {Q:α→HD→Prop} (p:Pu o h a) (k:∀h',Sm h h'→Q a h'):Wp o Q:=Wp.mono p fun x h' z1_=>by obtain ⟨e,s⟩:=z1_;subst e;exact k h' s
theorem Pu.ok:Pu (.ok a h) h a:=⟨rfl,.refl _⟩
theorem Pu.bind {k:α→HD→Out β} {b:β} (p:Pu o h a) (q:∀h',Sm h h'→Pu (k a h') h' b):Pu (o.bind k) h b:=by
 unfold Pu
 rw [AE]
 exact p.wp fun h' s=>Wp.mono (q h' s) fun x h2 z2_=>by obtain ⟨e,s2⟩:=z2_;exact (⟨e,s.trans s2⟩)
theorem Pu.noErr (p:Pu o h a):Pu (noErr o) h a:=by
 obtain ⟨x,h',e,q⟩:=Wp.ex p
 rw [e];exact q
end
def Q3 (i j:Nat) (ρ:Ai) (ds:List D) (h:HD):Out (Fl×Ai):=match ds with
 |[x,y]=>.ok (.nx,(ρ.set i (some x)).set j (some y)) h
 |_=>.stuck
def Q4 (o:Option Ai) (h:HD):Out (Fl×Ai):=match o with
 |some ρ1=>.ok (.nx,ρ1) h
 |none=>.stuck
def Lj (g:HD→Out D) (x:D) (h:HD):Out D:=match x with
 |.bl true=>g h
 |.bl false=>.ok (.bl false) h
 |_=>.stuck
def NO (g:HD→Out D) (x:D) (h:HD):Out D:=match x with
 |.bl true=>.ok (.bl true) h
 |.bl false=>g h
 |_=>.stuck
def Q5 (x:D) (h:HD):Out D:=match x with
 |.bl b=>.ok (.bl (!b)) h
 |_=>.stuck
def Q6 (x:D) (h:HD):Out D:=match x with
 |.int i=>.ok (.int (-i)) h
 |_=>.stuck
@[simp] theorem ZdF {i j:Nat} {ρ:Ai} {x y:D} {h:HD} {Q:Fl×Ai→HD→Prop}:Wp (Q3 i j ρ [x,y] h) Q=Q (.nx,(ρ.set i (some x)).set j (some y)) h:=rfl
@[simp] theorem ZdG {ρ:Ai} {h:HD} {Q:Fl×Ai→HD→Prop}:Wp (Q4 (some ρ) h) Q=Q (.nx,ρ) h:=rfl
@[simp] theorem ZdH {g:HD→Out D} {h:HD}:Lj g (.bl true) h=g h:=rfl
@[simp] theorem ZdI {g:HD→Out D} {h:HD}:Lj g (.bl false) h=.ok (.bl false) h:=rfl
@[simp] theorem ZdJ {g:HD→Out D} {h:HD}:NO g (.bl true) h=.ok (.bl true) h:=rfl
@[simp] theorem ZdK {g:HD→Out D} {h:HD}:NO g (.bl false) h=g h:=rfl
@[simp] theorem ZdL {b:Bool} {h:HD}:Q5 (.bl b) h=.ok (.bl (!b)) h:=rfl
@[simp] theorem ZdM {i:Int} {h:HD}:Q6 (.int i) h=.ok (.int (-i)) h:=rfl
def NQ (g:MS) (Q:Fl×Ai→HD→Prop):Fl×Ai→HD→Prop
 |(.nx,ρ),h=>Wp (g ρ h) Q
 |y,h=>Q y h
def IK (Q:D→HD→Prop):Fl×Ai→HD→Prop
 |(.nx,_),h=>Q .non h
 |(.rt d,_),h=>Q d h
 |_,_=>False
section
variable {ρ:Ai} {h:HD} {Q:Fl×Ai→HD→Prop} {QB:D→HD→Prop} {g g1 g2:MS} {f:ME} {t:MT}
@[simp] theorem Am:NQ g Q (.nx,ρ) h=Wp (g ρ h) Q:=rfl
@[simp] theorem ZdN {d:D}:NQ g Q (.rt d,ρ) h=Q (.rt d,ρ) h:=rfl
@[simp] theorem ZdO:IK QB (.nx,ρ) h=QB .non h:=rfl
@[simp] theorem ZdP {d:D}:IK QB (.rt d,ρ) h=QB d h:=rfl
@[simp] theorem Bt:Wp (Ak g1 g2 ρ h) Q=Wp (g1 ρ h) (NQ g2 Q):=by
  unfold Ak
  rw [AE]
  congr 1
  funext x h'
  obtain ⟨fl,ρ1⟩:=x
  cases fl<;>rfl
theorem Bu {n:Nat} {ds:List D}:Wp (Az n g ds h) QB=Wp (g (ds.map some++List.replicate (n - ds.length) none) h) (IK QB):=by
 unfold Az
 rw [AE]
 congr 1
 funext x h'
 obtain ⟨fl,ρ1⟩:=x
 cases fl<;>rfl
@[simp] theorem ZdQ:Wp (Bp ρ h) Q=Q (.nx,ρ) h:=rfl
@[simp] theorem ZdR:Wp (DZ f ρ h) Q=Wp (f ρ h) fun _ h1=>Q (.nx,ρ) h1:=by unfold DZ;rw [AE];rfl
@[simp] theorem ZdS:Wp (AN f ρ h) Q=Wp (f ρ h) fun d h1=>Q (.rt d,ρ) h1:=by unfold AN;rw [AE];rfl
@[simp] theorem G5 {i:Nat}:Wp (Ay i f ρ h) Q=Wp (f ρ h) fun d h1=>Q (.nx,ρ.set i (some d)) h1:=by unfold Ay;rw [AE];rfl
@[simp] theorem ZdT:Wp (Bg t g1 g2 ρ h) Q=Wp (t ρ h) fun b h1=>Wp (if b=true then g1 ρ h1 else g2 ρ h1) Q:=by unfold Bg;rw [AE]
@[simp] theorem ZdU {i j:Nat} {fa:MA}:Wp (GX i j fa ρ h) Q=Wp (fa ρ h) fun ds h1=>Wp (Q3 i j ρ ds h1) Q:=by unfold GX;rw [AE];rfl
@[simp] theorem ZdV {sg:MG}:Wp (FR sg f ρ h) Q=Wp (f ρ h) fun d h1=>Wp (Q4 (sg d ρ) h1) Q:=by unfold FR;rw [AE];rfl
@[simp] theorem ZdW {fo fi fv:ME}:Wp (IJ fo fi fv ρ h) Q=Wp (fv ρ h) fun v h1=>Wp (fo ρ h1) fun o h2=>Wp (fi ρ h2) fun i h3=>Wp (II o i v h3 (.ok (.nx,ρ) h3)) Q:=by
  unfold IJ;simp only [AE]
end
section
variable {ρ:Ai} {h:HD} {Q:D→HD→Prop} {QB:Bool→HD→Prop} {QA:List D→HD→Prop} {f g k:ME} {t u:MT} {fa:MA} {op op':D→D→HD→Out D} {F:List D→HD→Out D}
@[simp] theorem XJ {d:D} {r:Ai}:Wp (Ab 0 (some d::r) h) Q=Q d h:=rfl
@[simp] theorem XM {i:Nat} {x:Option D} {r:Ai}:Wp (Ab (i+1) (x::r) h) Q=Wp (Ab i r h) Q:=rfl
@[simp] theorem XN {d:D}:Wp (mC d ρ h) Q=Q d h:=rfl
@[simp] theorem XO:Wp (Af op f g ρ h) Q=Wp (f ρ h) fun x h1=>Wp (g ρ h1) fun y h2=>Wp (op x y h2) Q:=by unfold Af;simp only [AE]
@[simp] theorem JS:Wp (Ah F fa ρ h) Q=Wp (fa ρ h) fun ds h1=>Wp (F ds h1) Q:=by unfold Ah;rw [AE]
@[simp] theorem IP:Wp (Ae ρ h) QA=QA [] h:=rfl
@[simp] theorem G6:Wp (Aa f fa ρ h) QA=Wp (f ρ h) fun x h1=>Wp (fa ρ h1) fun xs h2=>QA (x::xs) h2:=by unfold Aa;simp only [AE];rfl
@[simp] theorem ZdX:Wp (Aw fa ρ h) Q=Wp (fa ρ h) fun xs h1=>Wp (if xs.length≤sizeLine then .ok (.tup xs) h1 else .stuck) Q:=by unfold Aw;simp only [AE]
@[simp] theorem XQ:Wp (BG fa ρ h) Q=Wp (fa ρ h) fun xs h1=>Wp (CH xs h1) Q:=by unfold BG;simp only [AE]
@[simp] theorem XR:Wp (AW f ρ h) QB=Wp (f ρ h) fun x h1=>Wp (JE x h1) QB:=by unfold AW;rw [AE]
@[simp] theorem ZdY:Wp (CW f ρ h) QB=Wp (f ρ h) fun x h1=>Wp (Ep x h1) QB:=by unfold CW;rw [AE]
@[simp] theorem ZdZ:Wp (Dl t ρ h) QB=Wp (t ρ h) fun b h1=>QB (!b) h1:=by unfold Dl;rw [AE];rfl
@[simp] theorem Zd0:Wp (FK t u ρ h) QB=Wp (t ρ h) fun b h1=>Wp (if b=true then u ρ h1 else .ok false h1) QB:=by unfold FK;rw [AE]
@[simp] theorem Zd1:Wp (Dk t u ρ h) QB=Wp (t ρ h) fun b h1=>Wp (if b=true then .ok true h1 else u ρ h1) QB:=by unfold Dk;rw [AE]
@[simp] theorem Zd2:Wp (Iw f g ρ h) Q=Wp (f ρ h) fun x h1=>Wp (Lj (g ρ) x h1) Q:=by unfold Iw;rw [AE];rfl
@[simp] theorem Zd3:Wp (Qq f g ρ h) Q=Wp (f ρ h) fun x h1=>Wp (NO (g ρ) x h1) Q:=by unfold Qq;rw [AE];rfl
@[simp] theorem Zd4:Wp (K5 f ρ h) Q=Wp (f ρ h) fun x h1=>Wp (Q5 x h1) Q:=by unfold K5;rw [AE];rfl
@[simp] theorem Zd5:Wp (JR f ρ h) Q=Wp (f ρ h) fun x h1=>Wp (Q6 x h1) Q:=by unfold JR;rw [AE];rfl
@[simp] theorem Zd6:Wp (JF t f g ρ h) Q=Wp (t ρ h) fun b h1=>Wp (if b=true then f ρ h1 else g ρ h1) Q:=by unfold JF;rw [AE]
@[simp] theorem Zd7:Wp (FN op op' f g k ρ h) Q=Wp (f ρ h) fun x h1=>Wp (g ρ h1) fun y h2=>Wp (op x y h2) fun z h3=>Wp (Lj (fun h=>(k ρ h).bind fun w h4=>op' y w h4) z h3) Q:=by unfold FN;simp only [AE];rfl
@[simp] theorem Zd8:Wp (Q2 f ρ h) Q=Wp (f ρ h) fun x h1=>Wp (NL x h1) Q:=by unfold Q2;rw [AE]
@[simp] theorem Zd9:Wp (G4 f g ρ h) Q=Wp (f ρ h) fun x h1=>Wp (Cj x h1) fun x h1=>Wp (g ρ h1) fun y h2=>Wp (IH x y h2) Q:=by unfold G4;simp only [AE]
@[simp] theorem Zea:Wp (BX ρ h) QB=QB true h:=rfl
theorem BC {xs:List D} (hn:xs.length≤sizeLine) (q:∀l h',Sm h h'→h'[l]?=some (.lst xs)→l=h.length→h'=h++[.lst xs]→Q (.loc l) h'):Wp (CH xs h) Q:=by
 unfold CH
 rw [if_pos hn]
 exact q h.length _ (.app _ _) (by simp) rfl rfl
end
section
variable {ρ:Ai} {h:HD} {QI:(List D×Bc)→HD→Prop} {f:ME} {fa:MA}
@[simp] theorem Zeb:Wp (B1 f ρ h) QI=Wp (f ρ h) fun d h1=>Wp (GZ d h1) QI:=by unfold B1;rw [AE]
@[simp] theorem Zec:Wp (CJ fa ρ h) QI=Wp (fa ρ h) fun d h1=>Wp (G0 d h1) QI:=by unfold CJ;rw [AE]
@[simp] theorem Zed:Wp (Lf fa ρ h) QI=Wp (fa ρ h) fun d h1=>Wp (JO d h1) QI:=by unfold Lf;rw [AE]
@[simp] theorem Zee:Wp (Q1 fa ρ h) QI=Wp (fa ρ h) fun d h1=>Wp (Q0 d h1) QI:=by unfold Q1;rw [AE]
theorem D3 {n:Nat} (hn:n≤1000):G0 [.int (n:Int)] h=.ok ((List.range n).map fun k=>D.int ((k:Nat):Int),[]) h:=by
 have:(-(2^62):Int)≤(n:Int)∧(n:Int)<2^62:=by omega
 unfold G0
 simp only
 rw [if_pos this]
 simp [Gm]
end
theorem Q7 {α:Type} {src:Bc} {items:List D} {sg:MG} {t:MT} {f:ME} {ρc:Ai} (φ:α→D) (g:α→Bool) (e:α→D) (ρ1:α→Ai):
 ∀(xs:List α) (h:HD),(∀h',Sm h h'→BR src items h')→(∀x∈xs,sg (φ x) ρc=some (ρ1 x))→(∀x∈xs,∀h',Sm h h'→Pu (t (ρ1 x) h') h' (g x))→(∀x∈xs,g x=true→∀h',Sm h h'→Pu (f (ρ1 x) h') h' (e x))→
  Pu (D0 src items sg t f ρc (xs.map φ) h) h ((xs.filter g).map e)
 |[],h,hs,_,_,_=>by
  simp only [Ih,List.filter_nil,D0]
  rw [if_pos (hs h (.refl _))]
  exact .ok
 |x::xs,h,hs,hg,ht,hf=>by
  simp only [Bx,D0]
  rw [if_pos (hs h (.refl _)),hg x Bf]
  simp only
  refine Pu.bind (ht x Bf h (.refl _)).noErr fun h1 s1=>?_
  have ih:∀h2,Sm h h2→Pu (D0 src items sg t f ρc (xs.map φ) h2) h2 ((xs.filter g).map e):=fun h2 s2=>Q7 φ g e ρ1 xs h2 (fun h' s'=>hs h' (s2.trans s'))
   (fun y hy=>hg y (Bn _ hy)) (fun y hy h' s'=>ht y (Bn _ hy) h' (s2.trans s')) (fun y hy gy h' s'=>hf y (Bn _ hy) gy h' (s2.trans s'))
  cases hgx:g x with
  |false=>
   rw [if_neg BE,List.filter_cons_of_neg (by simp [hgx])]
   exact ih h1 s1
  |true=>
   rw [if_pos rfl,List.filter_cons_of_pos hgx]
   refine Pu.bind (hf x Bf hgx h1 s1).noErr fun h2 s2=>?_
   exact Pu.bind (ih h2 (s1.trans s2)) fun h3 _=>.ok
theorem Gp {α:Type} {xs:List α}:xs.filter (fun _=>true)=xs:=List.filter_eq_self.mpr fun _ _=>rfl
section
variable {α:Type} {cs:List (Option Nat)} {it:MI} {sg:MG} {t:MT} {f:ME} {ρ:Ai} {h:HD} {src:Bc} {xs:List α} {φ:α→D}
theorem EZ {Q:D→HD→Prop} (g:α→Bool) (e:α→D) (ρ1:α→Ai) (hi:Wp (it ρ h) fun x h'=>x=(xs.map φ,src)∧Sm h h'∧∀h2,Sm h' h2→BR src (xs.map φ) h2) (hn:xs.length≤sizeLine)
 (hg:∀x∈xs,sg (φ x) (CK cs ρ)=some (ρ1 x)) (ht:∀x∈xs,∀h',Sm h h'→Pu (t (ρ1 x) h') h' (g x)) (hf:∀x∈xs,g x=true→∀h',Sm h h'→Pu (f (ρ1 x) h') h' (e x))
 (q:∀l h',Sm h h'→h'[l]?=some (.lst ((xs.filter g).map e))→Q (.loc l) h'):Wp (A5 cs it sg t f ρ h) Q:=by
 unfold A5
 rw [AE]
 refine Wp.mono hi fun x h1 z4_=>?_
 obtain ⟨ex,s1,hs⟩:=z4_
 subst ex
 rw [if_pos (by simpa using hn),AE]
 refine (Q7 φ g e ρ1 xs h1 hs hg (fun x hx h' s'=>ht x hx h' (s1.trans s')) (fun x hx gx h' s'=>hf x hx gx h' (s1.trans s'))).wp fun h2 s2=>?_
 refine BC ?_ fun l h3 s3 e3 _ _=>q l h3 ((s1.trans s2).trans s3) e3
 rw [BJ]
 exact BP (GC _ _) hn
theorem Q8 (g:α→Bool) (e:α→D) (ρ1:α→Ai) (hi:Wp (it ρ h) fun x h'=>x=(xs.map φ,src)∧Sm h h'∧∀h2,Sm h' h2→BR src (xs.map φ) h2) (hn:xs.length≤sizeLine)
 (hg:∀x∈xs,sg (φ x) (CK cs ρ)=some (ρ1 x)) (ht:∀x∈xs,∀h',Sm h h'→Pu (t (ρ1 x) h') h' (g x)) (hf:∀x∈xs,g x=true→∀h',Sm h h'→Pu (f (ρ1 x) h') h' (e x)):
 Pu (Ah (AB Ci) (Aa (A5 cs it sg t f) Ae) ρ h) h (.tup ((xs.filter g).map e)):=by
 unfold Pu
 rw [JS,G6]
 refine EZ g e ρ1 hi hn hg ht hf fun l h' s' e'=>?_
 rw [IP]
 simp only [AB,Ci,e']
 exact ⟨rfl,s'⟩
theorem NR (e:α→D) (ρ1:α→Ai) (hi:Wp (it ρ h) fun x h'=>x=(xs.map φ,src)∧Sm h h'∧∀h2,Sm h' h2→BR src (xs.map φ) h2) (hn:xs.length≤sizeLine)
 (hg:∀x∈xs,sg (φ x) (CK cs ρ)=some (ρ1 x)) (hf:∀x∈xs,∀h',Sm h h'→Pu (f (ρ1 x) h') h' (e x)):
 Pu (Ah (AB Ci) (Aa (A5 cs it sg BX f) Ae) ρ h) h (.tup (xs.map e)):=by
 have:=Q8 (t:=BX) (f:=f) (fun _=>true) e ρ1 hi hn hg (fun x hx h' s'=>(.ok:Pu (.ok true h') h' true)) (fun x hx _ h' s'=>hf x hx h' s')
 rw [Gp] at this
 exact this
theorem IQ {β γ:Type} {f:β→Option γ} {g:β→γ}:∀{xs:List β},(∀x∈xs,f x=some (g x))→AS (xs.map f)=some (xs.map g)
 |[],_=>rfl
 |x::xs,hf=>by
  simp only [Bx,hf x Bf,AS,IQ (fun y hy=>hf y (Bn _ hy)),Gb]
theorem XS (b:α→Bool) (ρ1:α→Ai) (hi:Wp (it ρ h) fun x h'=>x=(xs.map φ,src)∧Sm h h'∧∀h2,Sm h' h2→BR src (xs.map φ) h2) (hn:xs.length≤sizeLine)
 (hg:∀x∈xs,sg (φ x) (CK cs ρ)=some (ρ1 x)) (hf:∀x∈xs,∀h',Sm h h'→Pu (f (ρ1 x) h') h' (.bl (b x))):
 Pu (Ah (AB Fi) (Aa (A5 cs it sg BX f) Ae) ρ h) h (.bl (xs.all b)):=by
 unfold Pu
 rw [JS,G6]
 refine EZ (fun _=>true) (fun x=>.bl (b x)) ρ1 hi hn hg (fun x hx h' s'=>(.ok:Pu (.ok true h') h' true)) (fun x hx _ h' s'=>hf x hx h' s') fun l h' s' e'=>?_
 rw [IP]
 rw [Gp] at e'
 simp only [AB,Fi,e',Cq]
 rw [IQ (f:=IG∘fun x=>D.bl (b x)) (g:=b) (fun x _=>rfl)]
 refine ⟨?_,s'⟩
 simp [List.all_map]
end
def B2 (I:Ai→HD→Prop) (Q:Fl×Ai→HD→Prop):Fl×Ai→HD→Prop
 |(.nx,ρ),h=>I ρ h
 |(.ct,ρ),h=>I ρ h
 |(.bk,ρ),h=>Q (.nx,ρ) h
 |(.rt d,ρ),h=>Q (.rt d,ρ) h
theorem NS {α:Type} {src:Bc} {items:List D} {sg:MG} {body:MS} {Q:Fl×Ai→HD→Prop} (φ:α→D) (I:List α→Ai→HD→Prop) (ho:∀xs ρ h,I xs ρ h→BR src items h)
 (step:∀x xs ρ h,I (x::xs) ρ h→∃ρ1,sg (φ x) ρ=some ρ1∧Wp (body ρ1 h) (B2 (I xs) Q)) (done:∀ρ h,I [] ρ h→Q (.nx,ρ) h):∀(xs:List α) (ρ:Ai) (h:HD),I xs ρ h→Wp (Fh src items sg body (xs.map φ) ρ h) Q
 |[],ρ,h,i=>by
  simp only [Ih,Fh]
  rw [if_pos (ho _ _ _ i)]
  exact done ρ h i
 |x::xs,ρ,h,i=>by
  simp only [Bx,Fh]
  rw [if_pos (ho _ _ _ i)]
  obtain ⟨ρ1,e,w⟩:=step x xs ρ h i
  rw [e]
  simp only
  rw [AE]
  refine Wp.mono w fun y h' k=>?_
  obtain ⟨fl,ρ2⟩:=y
  cases fl with
  |nx=>exact NS φ I ho step done xs ρ2 h' k
  |ct=>exact NS φ I ho step done xs ρ2 h' k
  |bk=>exact k
  |rt d=>exact k
theorem Do {α:Type} {src:Bc} {it:MI} {sg:MG} {body:MS} {Q:Fl×Ai→HD→Prop} {ρ:Ai} {h:HD} {xs:List α} (φ:α→D) (I:List α→Ai→HD→Prop) (hi:Wp (it ρ h) fun x h'=>x=(xs.map φ,src)∧I xs ρ h') (ho:∀ys ρ h,I ys ρ h→BR src (xs.map φ) h)
 (step:∀x xs ρ h,I (x::xs) ρ h→∃ρ1,sg (φ x) ρ=some ρ1∧Wp (body ρ1 h) (B2 (I xs) Q)) (done:∀ρ h,I [] ρ h→Q (.nx,ρ) h):Wp (Cb it sg body ρ h) Q:=by
 unfold Cb
 rw [AE]
 refine Wp.mono hi fun x h1 z5_=>?_
 obtain ⟨e,i⟩:=z5_
 subst e
 exact NS φ I ho step done xs ρ h1 i
theorem XT {α β:Type} {f:α→Option β} {ys:List β}:∀{xs:List α},AS (xs.map f)=some ys→∀{g:α→Option β},(∀x∈xs,∀y,f x=some y→g x=some y)→AS (xs.map g)=some ys:=by
 intro xs
 induction xs generalizing ys with
 |nil=>intro e g _;exact e
 |cons x xs ih=>
  intro e g hg
  simp only [Bx] at e ⊢
  cases hx:f x with
  |none=>rw [hx] at e;simp [AS] at e
  |some y=>
   rw [hx] at e
   rw [hg x Bf y hx]
   simp only [AS] at e ⊢
   cases hr:AS (xs.map f) with
   |none=>rw [hr] at e;cases e
   |some zs=>rw [hr] at e;rw [ih hr (fun z hz=>hg z (Bn _ hz))];exact e
theorem IS {h:HD}:∀{n:Nat} {d:D} {p:PyData},AU [] n d=some p→AU h n d=some p
 |n,.non,p,e=>by simpa [AU] using e
 |n,.bl _,p,e=>by simpa [AU] using e
 |n,.int _,p,e=>by simpa [AU] using e
 |n,.str _,p,e=>by simpa [AU] using e
 |n+1,.tup ds,p,e=>by
  simp only [AU] at e ⊢
  cases hr:AS (ds.map (AU [] n)) with
  |none=>rw [hr] at e;cases e
  |some zs=>rw [hr] at e;rw [XT hr (fun x _ y hy=>IS hy)];exact e
 |0,.tup ds,p,e=>by simp [AU] at e
 |n+1,.loc l,p,e=>by simp [AU] at e
 |0,.loc l,p,e=>by simp [AU] at e
 |n,.scr _,p,e=>by cases n<;>simp [AU] at e
 |n,.adr _,p,e=>by cases n<;>simp [AU] at e
 |n,.ty _,p,e=>by cases n<;>simp [AU] at e
 |n,.exc _ _,p,e=>by cases n<;>simp [AU] at e
 |n,.edic,p,e=>by cases n<;>simp [AU] at e
 |n,.glo _,p,e=>by cases n<;>simp [AU] at e
 |n,.clo _ _ _,p,e=>by cases n<;>simp [AU] at e
def Py (d:D) (p:PyData):Prop:=AU [] 8 d=some p∧SeqAt.shaped p=true
theorem XU {x y:D} {p q:PyData} {h:HD} (hx:Py x p) (hy:Py y q):GT x y h=.ok (.bl (PyData.eqv p q)) h:=by
 simp only [GT,FP,IS hx.1,IS hy.1]
 rw [if_pos ⟨hx.2,hy.2⟩]
theorem XW {x y:D} {p q:PyData} {h:HD} (hx:Py x p) (hy:Py y q):DY x y h=.ok (.bl (!PyData.eqv p q)) h:=by
 simp only [DY,FP,IS hx.1,IS hy.1]
 rw [if_pos ⟨hx.2,hy.2⟩]
@[simp] theorem sz0:(0≤sizeLine)=True:=eq_true (B5 _)
@[simp] theorem sz1:(1≤sizeLine)=True:=eq_true (by unfold sizeLine;omega)
@[simp] theorem sz2:(2≤sizeLine)=True:=eq_true (by unfold sizeLine;omega)
@[simp] theorem Lk:(3≤sizeLine)=True:=eq_true (by unfold sizeLine;omega)
@[simp] theorem sz4:(4≤sizeLine)=True:=eq_true (by unfold sizeLine;omega)
@[simp] theorem sz5:(5≤sizeLine)=True:=eq_true (by unfold sizeLine;omega)
section
variable {h:HD} {a b c:D} {ds es:List D} {i j:Int} {F1:D→HD→Out D} {F2:D→D→HD→Out D} {F3:D→D→D→HD→Out D}
@[simp] theorem Zef:AB F1 [a] h=F1 a h:=rfl
@[simp] theorem Zeg:BB F2 [a,b] h=F2 a b h:=rfl
@[simp] theorem Zeh:W4 F3 [a,b,c] h=F3 a b c h:=rfl
@[simp] theorem Zei {b:Bool}:JE (.bl b) h=.ok b h:=rfl
@[simp] theorem Zej {b:Bool}:Ep (.bl b) h=.ok b h:=rfl
@[simp] theorem Zek:Ep .non h=.ok false h:=rfl
@[simp] theorem Zel:Ep (.int i) h=.ok (i != 0) h:=rfl
@[simp] theorem Zem:Ep (.tup ds) h=.ok (!ds.isEmpty) h:=rfl
@[simp] theorem Zen:BY (.int i) (.ty "int") h=.ok (.bl true) h:=rfl
@[simp] theorem Zeo:BY (.int i) (.ty "bool") h=.ok (.bl false) h:=rfl
@[simp] theorem Zep:BY (.int i) (.ty "tuple") h=.ok (.bl false) h:=rfl
@[simp] theorem Zeq:BY (.tup ds) (.ty "tuple") h=.ok (.bl true) h:=rfl
@[simp] theorem Zer:BY (.tup ds) (.ty "int") h=.ok (.bl false) h:=rfl
@[simp] theorem Zes:Ax (.int i) (.int j) h=.ok (.int (i+j)) h:=rfl
@[simp] theorem Zet {f:Int→Int→D}:Gh f (.int i) (.int j) h=.ok (f i j) h:=rfl
@[simp] theorem Zeu {b c:Bool}:W7 (.bl b) (.bl c) h=.ok (.bl (b==c)) h:=rfl
@[simp] theorem Zev {b c:Bool}:EV (.bl b) (.bl c) h=.ok (.bl (!(b==c))) h:=rfl
@[simp] theorem Zew:CB (.tup ds) h=.ok (.int ds.length) h:=rfl
@[simp] theorem Zex {ns:List Int}:CB (.scr ns) h=.ok (.int ns.length) h:=by simp [CB,BQ]
@[simp] theorem Zey:GZ (.tup ds) h=.ok (ds,[]) h:=rfl
@[simp] theorem Zez:Ci (.tup ds) h=.ok (.tup ds) h:=rfl
@[simp] theorem ZeA:NL (.tup [a,b]) h=.ok (.tup [b,a]) h:=rfl
@[simp] theorem ZeB:JL (.int i) (.int j) h=.ok (.int (if j>i then j else i)) h:=rfl
@[simp] theorem XX:GV (.int i) (.int j) h=.ok (.int (if j<i then j else i)) h:=rfl
@[simp] theorem ZeC {b:Bool}:Gi (.bl b) h=.ok (.int (if b then 1 else 0)) h:=rfl
@[simp] theorem ZeD:Gi (.int i) h=.ok (.int i) h:=rfl
@[simp] theorem ZeE {ρ:Ai} {k:Nat}:Bq k a ρ=some (ρ.set k (some a)):=rfl
@[simp] theorem ZeF {ρ:Ai} {k l:Nat}:Dw k l (.tup [a,b]) ρ=some ((ρ.set k (some a)).set l (some b)):=rfl
@[simp] theorem ZeG {b c:Bool}:GT (.bl b) (.bl c) h=.ok (.bl (b==c)) h:=rfl
@[simp] theorem ZeH {b c:Bool}:DY (.bl b) (.bl c) h=.ok (.bl (!(b==c))) h:=rfl
@[simp] theorem ZeI:GT (.int i) (.int j) h=.ok (.bl (i==j)) h:=rfl
@[simp] theorem ZeJ:DY (.int i) (.int j) h=.ok (.bl (!(i==j))) h:=rfl
theorem Q9 {l:Nat} (e:h[l]?=some (.lst ds)):Ci (.loc l) h=.ok (.tup ds) h:=by simp only [Ci,e]
theorem G7 {l:Nat} (e:h[l]?=some (.lst ds)):Cj (.loc l) h=.ok (.loc l) h:=by simp only [Cj,e]
theorem NT {l:Nat} (e:h[l]?=some (.lst ds)) (hn:ds.length<sizeLine):IH (.loc l) a h=.ok .non (h.set l (.lst (ds++[a]))):=by simp only [IH,e];rw [if_pos hn]
theorem ix_tup {k:Nat} (e:ds[k]?=some a):As (.tup ds) (.int (k:Nat)) h=.ok a h:=by
 have hk:k<ds.length:=(qa3.mp e).1
 have e1:Di ds ((k:Nat):Int)=some a:=by
  unfold Di DW
  rw [if_pos (by omega),if_pos (by omega)]
  simpa using e
 simp only [As,BQ,e1]
@[simp] theorem ZeK:As (.tup [a,b]) (.int 0) h=.ok a h:=rfl
@[simp] theorem ZeL:As (.tup [a,b]) (.int 1) h=.ok b h:=rfl
theorem XY {ns:List Int} {k:Nat} (e:ns[k]?=some i):As (.scr ns) (.int (k:Nat)) h=.ok (.int i) h:=by
 have hk:k<ns.length:=(qa3.mp e).1
 have e1:Di (ns.map D.int) ((k:Nat):Int)=some (.int i):=by
  unfold Di DW
  rw [if_pos (by omega),if_pos (by simpa using hk)]
  simp [e]
 simp only [As,BQ,e1]
theorem D7 {l k:Nat} (el:h[l]?=some (.lst ds)) (e:ds[k]?=some a):As (.loc l) (.int (k:Nat)) h=.ok a h:=by
 have hk:k<ds.length:=(qa3.mp e).1
 have e1:Di ds ((k:Nat):Int)=some a:=by
  unfold Di DW
  rw [if_pos (by omega),if_pos (by omega)]
  simpa using e
 simp only [As,BQ,el,e1]
theorem NU {l k:Nat} {ρ:Ai} (el:h[l]?=some (.lst ds)) (hk:k<ds.length):II (.loc l) (.int (k:Nat)) a h (.ok (.nx,ρ) h)=.ok (.nx,ρ) (h.set l (.lst (ds.set k a))):=by
 have:DW ds.length ((k:Nat):Int)=some k:=by
  unfold DW
  rw [if_pos (by omega),if_pos (by omega)]
  simp
 simp only [II,el,this]
theorem Ra {neg:Bool} {k:Nat} {ks:List Nat}:DH neg (.int (k:Nat)) (.tup (ks.map fun i=>.int ((i:Nat):Int))) h=.ok (.bl (if neg then !ks.contains k else ks.contains k)) h:=by
 have e:AS ((ks.map fun i=>D.int ((i:Nat):Int)).map CY)=some (ks.map fun i=>V.int ((i:Nat):Int)):=by
  rw [Cq]
  exact IQ (f:=CY∘fun i=>D.int ((i:Nat):Int)) (fun x _=>rfl)
 have e2:Io (V.int ((k:Nat):Int)) (ks.map fun i=>V.int ((i:Nat):Int))=ks.contains k:=by
  unfold Io
  rw [Jv,List.contains_eq_any_beq]
  congr 1
  funext i
  change (((i:Nat):Int)==((k:Nat):Int))=_
  rw [qaW]
  simp
  omega
 simp only [DH,BQ,e,CY,e2]
end
noncomputable def Ll (cs:List (Option Nat)) (it:MI) (sg:MG) (t:MT) (f:ME):ME:=Ah (AB Ci) (Aa (A5 cs it sg t f) Ae)
noncomputable def Rb (cs:List (Option Nat)) (it:MI) (sg:MG) (t:MT) (f:ME):ME:=Ah (AB Fi) (Aa (A5 cs it sg t f) Ae)
section
variable {α:Type} {cs:List (Option Nat)} {it:MI} {sg:MG} {t:MT} {f:ME} {ρ:Ai} {h:HD} {src:Bc} {xs:List α} {φ:α→D}
@[simp] theorem ZeM:Ah (AB Ci) (Aa (A5 cs it sg t f) Ae) ρ h=Ll cs it sg t f ρ h:=rfl
@[simp] theorem ZeN:Ah (AB Fi) (Aa (A5 cs it sg t f) Ae) ρ h=Rb cs it sg t f ρ h:=rfl
def G8 (o:Out (List D×Bc)) (h:HD) (ds:List D) (src:Bc):Prop:=Wp o fun x h'=>x=(ds,src)∧Sm h h'∧∀h2,Sm h' h2→BR src ds h2
theorem Rc (e:α→D) (ρ1:α→Ai) (hi:G8 (it ρ h) h (xs.map φ) src) (hg:∀x∈xs,sg (φ x) (CK cs ρ)=some (ρ1 x)) (hf:∀x∈xs,∀h',Sm h h'→Pu (f (ρ1 x) h') h' (e x)) (hn:xs.length≤sizeLine):
 Pu (Ll cs it sg BX f ρ h) h (.tup (xs.map e)):=NR e ρ1 hi hn hg hf
theorem Re (b:α→Bool) (ρ1:α→Ai) (hi:G8 (it ρ h) h (xs.map φ) src) (hg:∀x∈xs,sg (φ x) (CK cs ρ)=some (ρ1 x)) (hf:∀x∈xs,∀h',Sm h h'→Pu (f (ρ1 x) h') h' (.bl (b x))) (hn:xs.length≤sizeLine):
 Pu (Rb cs it sg BX f ρ h) h (.bl (xs.all b)):=XS b ρ1 hi hn hg hf
theorem Rf {ds:List D} {o:Out (List D×Bc)} (e:o=.ok (ds,[]) h):G8 o h ds []:=by
 rw [e];simp [G8,Sm.refl,BR]
end
section
variable {h:HD} {i j:Int}
theorem Lm (h1:-18446744073709551616<j) (h2:j<18446744073709551616):EY (.int i) (.int j) h=.ok (.int (i*j)) h:=by
 have:CMl i j:=.inl (.inr ⟨by omega,by omega⟩)
 simp only [EY];rw [if_pos this]
theorem NV (h1:-18446744073709551616<i) (h2:i<18446744073709551616):EY (.int i) (.int j) h=.ok (.int (i*j)) h:=by
 have:CMl i j:=.inl (.inl ⟨by omega,by omega⟩)
 simp only [EY];rw [if_pos this]
theorem XZ (h1:Builtin.Int.intBits i≤16777216) (h2:Builtin.Int.intBits j≤16777216):EY (.int i) (.int j) h=.ok (.int (i*j)) h:=by
 have:CMl i j:=.inr ⟨h1,h2⟩
 simp only [EY];rw [if_pos this]
theorem FS (h1:0<j):CI (.int i) (.int j) h=.ok (.int (i % j)) h:=by
 simp only [CI,intD];rw [if_pos h1]
theorem X0 (h1:0<j) (h2:j<18446744073709551616):Ld (.int i) (.int j) h=.ok (.int (i / j)) h:=by
 have:CDv i j:=⟨h1,h2⟩
 simp only [Ld,intD];rw [if_pos this]
theorem X3 (h1:0<j) (h2:j<18446744073709551616):JK (.int i) (.int j) h=.ok (.tup [.int (i / j),.int (i % j)]) h:=by
 have:CDv i j:=⟨h1,h2⟩
 simp only [JK];rw [if_pos this]
end
theorem Rg {α:Type} {o:Out α} {Q:α→HD→Prop}:Wp (noErr o) Q=Wp o Q:=by cases o<;>rfl
theorem NW {src:Bc} {items:List D} {sg:MG} {t:MT} {f:ME} {ρc:Ai} (φ:Nat→D) (I:HD→Prop) (T:Nat→Bool→Prop) (R:Nat→D→Prop) (ρ1:Nat→Ai) (hs:∀h,I h→BR src items h):
 ∀(xs:List Nat) (h:HD),xs.Nodup→I h→(∀x∈xs,sg (φ x) ρc=some (ρ1 x))→(∀x∈xs,∀h,I h→Wp (t (ρ1 x) h) fun b h1=>T x b∧if b=true then Wp (f (ρ1 x) h1) (fun y h2=>I h2∧R x y) else I h1)→
  Wp (D0 src items sg t f ρc (xs.map φ) h) fun ys h'=>I h'∧∃(g:Nat→Bool) (e:Nat→D),ys=(xs.filter g).map e∧(∀x∈xs,g x=true→R x (e x))∧∀x∈xs,T x (g x)
 |[],h,_,i,_,_=>by
  simp only [Ih,D0]
  rw [if_pos (hs h i)]
  exact ⟨i,fun _=>true,fun _=>.non,rfl,by simp,by simp⟩
 |x::xs,h,hd,i,hg,ht=>by
  simp only [Bx,D0]
  rw [if_pos (hs h i),hg x Bf]
  simp only
  rw [AE,Rg]
  rw [qbQ] at hd
  refine Wp.mono (ht x Bf h i) fun b h1 z1_=>?_
  obtain ⟨tb,w⟩:=z1_
  have ih:∀h2,I h2→_:=fun h2 i2=>NW φ I T R ρ1 hs xs h2 hd.2 i2 (fun y hy=>hg y (Bn _ hy)) (fun y hy=>ht y (Bn _ hy))
  cases b with
  |false=>
   rw [if_neg BE] at w ⊢
   refine Wp.mono (ih h1 w) ?_
   rintro ys h' ⟨i',g,e,ey,hr,tr⟩
   refine ⟨i',fun y=>if y=x then false else g y,e,?_,?_,?_⟩
   ·rw [List.filter_cons_of_neg (by simp),ey]
    congr 1
    refine Ia fun y hy=>?_
    rw [if_neg]
    intro z;subst z;exact hd.1 hy
   ·intro y hy gy
    rcases qa5.mp hy with z |z
    ·subst z;simp at gy
    ·refine hr y z ?_
     by_cases hz:y=x
     ·subst hz;exact absurd z hd.1
     ·simpa [hz] using gy
   ·intro y hy
    by_cases hz:y=x
    ·subst hz;simpa using tb
    ·simp only [if_neg hz]
     exact tr y (by rcases qa5.mp hy with z |z;exact absurd z hz;exact z)
  |true=>
   rw [if_pos rfl] at w ⊢
   rw [AE,Rg]
   refine Wp.mono w fun y h2 z3_=>?_
   obtain ⟨i2,ry⟩:=z3_
   rw [AE]
   refine Wp.mono (ih h2 i2) ?_
   rintro ys h' ⟨i',g,e,ey,hr,tr⟩
   refine ⟨i',fun z=>if z=x then true else g z,fun z=>if z=x then y else e z,?_,?_,?_⟩
   ·rw [List.filter_cons_of_pos (by simp),Bx,if_pos rfl,ey]
    congr 1
    rw [show xs.filter (fun z=>if z=x then true else g z)=xs.filter g from Ia fun z hz=>by
     rw [if_neg]
     intro q;subst q;exact hd.1 hz]
    refine F9 fun z hz=>?_
    rw [if_neg]
    intro q;subst q;exact hd.1 (qb8.mp hz).1
   ·intro z hz gz
    by_cases q:z=x
    ·subst q;simpa using ry
    ·rcases qa5.mp hz with w |w
     ·exact absurd w q
     ·simp only [if_neg q] at gz ⊢
      exact hr z w gz
   ·intro z hz
    by_cases q:z=x
    ·subst q;simpa using tb
    ·simp only [if_neg q]
     exact tr z (by rcases qa5.mp hz with w |w;exact absurd w q;exact w)
theorem X4 {cs:List (Option Nat)} {it:MI} {sg:MG} {t:MT} {f:ME} {ρ:Ai} {h:HD} {src:Bc} {xs:List Nat} {Q:D→HD→Prop} (φ:Nat→D) (I:HD→Prop) (T:Nat→Bool→Prop) (R:Nat→D→Prop) (ρ1:Nat→Ai) (hi:Wp (it ρ h) fun x h'=>x=(xs.map φ,src)∧I h') (hs:∀h,I h→BR src (xs.map φ) h)
 (hnew:∀h c,I h→I (h++[c])) (hd:xs.Nodup) (hn:xs.length≤sizeLine) (hg:∀x∈xs,sg (φ x) (CK cs ρ)=some (ρ1 x)) (ht:∀x∈xs,∀h,I h→Wp (t (ρ1 x) h) fun b h1=>T x b∧if b=true then Wp (f (ρ1 x) h1) (fun y h2=>I h2∧R x y) else I h1)
 (q:∀h' (g:Nat→Bool) (e:Nat→D),I h'→(∀x∈xs,g x=true→R x (e x))→(∀x∈xs,T x (g x))→Q (.tup ((xs.filter g).map e)) h'):Wp (Ll cs it sg t f ρ h) Q:=by
 unfold Ll
 rw [JS,G6]
 unfold A5
 rw [AE]
 refine Wp.mono hi fun x h1 z5_=>?_
 obtain ⟨ex,i1⟩:=z5_
 subst ex
 rw [if_pos (by simpa using hn),AE]
 refine Wp.mono (NW φ I T R ρ1 hs xs h1 hd i1 hg ht) fun ys h2 z6_=>?_
 obtain ⟨i2,g,e,ey,hr,tr⟩:=z6_
 subst ey
 refine BC ?_ fun l h3 s3 e3 _ eh=>?_
 ·rw [BJ]
  exact BP (GC _ _) hn
 ·rw [IP]
  simp only [AB,Ci,e3]
  refine q h3 g e ?_ hr tr
  rw [eh]
  exact hnew _ _ i2
theorem NX {α:Type} {g:α→PyData}:∀{xs:List α},(∀x∈xs,(g x).canLay0=true)→PyData.canLayAll0 (xs.map g)=true
 |[],_=>rfl
 |x::xs,hx=>by
  rw [Bx,PyData.canLayAll0,hx x Bf,NX fun y hy=>hx y (Bn _ hy)];rfl
theorem NY {α:Type} {g:α→PyData} {n:Nat}:∀{xs:List α},(∀x∈xs,(g x).depth≤n)→PyData.depthAll (xs.map g)≤n
 |[],_=>B5 _
 |x::xs,hx=>by
  rw [Bx,PyData.depthAll]
  exact Nat.max_le.mpr ⟨hx x Bf,NY fun y hy=>hx y (Bn _ hy)⟩
structure PyN (n:Nat) (d:D) (p:PyData):Prop where
 rd:∀k,n≤k→AU [] k d=some p
 ly:p.canLay0=true
 dp:p.depth≤n
theorem PyN.py {n:Nat} {d:D} {p:PyData} (h:PyN n d p) (hn:n≤8):Py d p:=⟨h.rd 8 hn,by
 unfold SeqAt.shaped
 rw [h.ly]
 have:=h.dp
 simp
 omega⟩
theorem pyn_int {i:Int}:PyN 0 (.int i) (.int i):=⟨fun k _=>by cases k<;>rfl,rfl,AG _⟩
theorem PyN.mono {n m:Nat} {d:D} {p:PyData} (h:PyN n d p) (hm:n≤m):PyN m d p:=⟨fun k hk=>h.rd k (BP hm hk),h.ly,BP h.dp hm⟩
theorem IT {α:Type} {n:Nat} {xs:List α} {e:α→D} {g:α→PyData} (hx:∀x∈xs,PyN n (e x) (g x)):PyN (n+1) (.tup (xs.map e)) (.tuple (xs.map g)):=by
 refine ⟨fun k hk=>?_,?_,?_⟩
 ·obtain ⟨k,rfl⟩:∃m,k=m+1:=⟨k - 1,by omega⟩
  simp only [AU,Cq]
  rw [IQ (f:=AU [] k∘e) (g:=g) (fun x h=>(hx x h).rd k (by omega))]
  rfl
 ·rw [PyData.canLay0];exact NX fun x h=>(hx x h).ly
 ·rw [PyData.depth]
  exact Nat.succ_le_succ (NY fun x h=>(hx x h).dp)
theorem X5 {n:Nat} {a b:D} {p q:PyData} (ha:PyN n a p) (hb:PyN n b q):PyN (n+1) (.tup [a,b]) (.tuple [p,q]):=
 IT (xs:=[(a,p),(b,q)]) (e:=Prod.fst) (g:=Prod.snd) (fun x hx=>by
  simp at hx
  rcases hx with rfl |rfl
  ·exact ha
  ·exact hb)
def KD {α:Type}:Sem α→Prop
 |.pure _=>True
 |.raise _=>True
 |.unsupported _=>True
 |.finish _=>True
 |.rule _ k=>KD (k ())
 |.at _ k=>KD (k ())
 |.load _ _ k=>∀o,KD (k o)
 |.update _ _ f k=>(∀o,(f o).dict=o.dict∧(o.isFreed=false→(f o).isFreed=false))∧KD (k ())
 |.loadIfAlive _ k=>∀o,KD (k o)
 |.point _ k=>KD (k ())
 |.register _ _=>True
 |.alloc _ k=>∀a,KD (k a)
 |.fresh k=>∀a,KD (k a)
 |.ask k=>∀a,KD (k a)
 |.choose _ _ k=>∀a,KD (k a)
 |.os _ _ k=>∀a,KD (k a)
 |.call ..=>False
 |.handled _ k=>∀a,KD (k a)
 |.genState _ k=>∀a,KD (k a)
 |.newGen _ k=>∀a,KD (k a)
 |.resume ..=>False
 |.yield ..=>True
 |.stack k=>∀a,KD (k a)
 |.fork ..=>True
 |.thread k=>∀a,KD (k a)
 |.await ..=>True
def Dicts (h h':Heap):Prop:=∀b o,h.get? b=some o→∃o',h'.get? b=some o'∧o'.dict=o.dict
theorem Dicts.refl (h:Heap):Dicts h h:=fun _ o e=>⟨o,e,rfl⟩
theorem Dicts.trans {h h1 h2:Heap} (a:Dicts h h1) (b:Dicts h1 h2):Dicts h h2:=fun c o e=>by
 obtain ⟨o1,e1,d1⟩:=a c o e
 obtain ⟨o2,e2,d2⟩:=b c o1 e1
 exact ⟨o2,e2,d2.trans d1⟩
theorem X6 {α:Type} {M:Model} {Γ:PySem.Ctx} {Q:α→Pos→Shared→Prop} {E:Value→Pos→Shared→Prop}:∀(t:Sem α) (p:Pos) (s:Shared),KD t→Sem.wp M Γ t Q E p s→Sem.wp M Γ t (fun a p s'=>Q a p s'∧Dicts s.heap s'.heap) (fun a p s'=>E a p s'∧Dicts s.heap s'.heap) p s:=by
 have Ek:∀(t:Sem α) (p:Pos) (h0:Heap) (s:Shared),Dicts h0 s.heap→Sem.wp M Γ t (fun a p s'=>Q a p s'∧Dicts s.heap s'.heap) (fun a p s'=>E a p s'∧Dicts s.heap s'.heap) p s→Sem.wp M Γ t (fun a p s'=>Q a p s'∧Dicts h0 s'.heap) (fun a p s'=>E a p s'∧Dicts h0 s'.heap) p s:=
  fun t p h0 s d w=>Sem.wp_mono M Γ t (fun a p s' z=>⟨z.1,d.trans z.2⟩) (fun a p s' z=>⟨z.1,d.trans z.2⟩) p s w
 intro t
 induction t with
 |pure a=>exact fun p s _ w=>⟨w,.refl _⟩
 |raise e=>exact fun p s _ w=>⟨w,.refl _⟩
 |unsupported w=>exact fun p s _ w=>w.elim
 |finish w=>exact fun p s _ w=>w.elim
 |rule t k ih=>exact fun p s kd w=>ih () p s kd w
 |«at» t k ih=>exact fun p s kd w=>ih () t s kd w
 |load a x k ih=>exact fun p s kd ⟨o,e,w⟩=>⟨o,e,ih o p s (kd o) w⟩
 |update a x f k ih=>
  refine fun p s kd ⟨e,w⟩=>⟨e,Ek _ p s.heap {s with heap:=s.heap.update a f} (fun b o eb=>?_) (ih () p _ kd.2 w)⟩
  by_cases hb:b=a
  ·subst hb
   obtain ⟨d1,d2⟩:=kd.1 o
   exact ⟨f o,MU f eb (d2 (Heap.get?_some_iff.mp eb).2),d1⟩
  ·exact ⟨o,(MQ s.heap f (Ne.symm hb)).trans eb,rfl⟩
 |alloc o k ih=>exact fun p s kd w=>Ek _ p s.heap {s with heap:=s.heap.push o} (fun b ob eb=>⟨ob,AM _ eb,rfl⟩) (ih _ p {s with heap:=s.heap.push o} (kd _) w)
 |loadIfAlive a k ih=>exact fun p s kd w=>ih _ p s (kd _) w
 |point l k ih=>exact fun p s kd w=>ih () p s kd w
 |register a k ih=>exact fun p s kd w=>w.elim
 |fresh k ih=>exact fun p s kd w=>ih _ p {s with toks:=s.toks+1} (kd _) w
 |ask k ih=>exact fun p s kd w=>ih _ p s (kd _) w
 |choose src n k ih=>exact fun p s kd ⟨z,w⟩=>⟨z,ih _ p {s with drawn:=s.drawn.bump src} (kd _) w⟩
 |os q l k ih=>exact fun p s kd w=>ih _ p {s with os:=(Os.step s.os q).1} (kd _) w
 |call c h g l k ih=>exact fun p s kd w=>kd.elim
 |handled o k ih=>exact fun p s kd w=>ih _ p s (kd _) w
 |newGen c k ih=>exact fun p s kd w=>ih _ p {s with gens:=s.gens.push (.fresh c)} (kd _) w
 |genState g k ih=>exact fun p s kd ⟨st,e,w⟩=>⟨st,e,ih _ p s (kd _) w⟩
 |resume g r l k ih=>exact fun p s kd w=>kd.elim
 |yield v g l k ih=>exact fun p s kd w=>w.elim
 |stack k ih=>exact fun p s kd w=>ih _ p s (kd _) w
 |fork c k ih=>exact fun p s kd w=>w.elim
 |thread k ih=>exact fun p s kd w=>ih _ p s (kd _) w
 |await a t b l k ih=>exact fun p s kd w=>w.elim
theorem JT {α:Type} {M:Model} {A:Around} {t:Sem α} {Q:α→Shared→Prop} {E:Value→Shared→Prop} {s:Shared} (kd:KD t) (h:wpAny M A t Q E s):wpAny M A t (fun a s'=>Q a s'∧Dicts s.heap s'.heap) (fun a s'=>E a s'∧Dicts s.heap s'.heap) s:=
 fun Γ p hΓ=>X6 t p s kd (h Γ p hΓ)
theorem KD.bind {α β:Type} {f:α→Sem β}:∀{t:Sem α},KD t→(∀a,KD (f a))→KD (t >>=f):=by
 intro t
 induction t with
 |pure a=>exact fun _ h=>h a
 |raise e=>exact fun _ _=>True.intro
 |unsupported w=>exact fun _ _=>True.intro
 |finish w=>exact fun _ _=>True.intro
 |rule t k ih=>exact fun kd h=>ih () kd h
 |«at» t k ih=>exact fun kd h=>ih () kd h
 |load a x k ih=>exact fun kd h o=>ih o (kd o) h
 |update a x g k ih=>exact fun kd h=>⟨kd.1,ih () kd.2 h⟩
 |alloc o k ih=>exact fun kd h a=>ih a (kd a) h
 |loadIfAlive a k ih=>exact fun kd h a=>ih a (kd a) h
 |point l k ih=>exact fun kd h=>ih () kd h
 |register a k ih=>exact fun kd h=>True.intro
 |fresh k ih=>exact fun kd h a=>ih a (kd a) h
 |ask k ih=>exact fun kd h a=>ih a (kd a) h
 |choose src n k ih=>exact fun kd h a=>ih a (kd a) h
 |os q l k ih=>exact fun kd h a=>ih a (kd a) h
 |call c h g l k ih=>exact fun kd h=>kd.elim
 |handled o k ih=>exact fun kd h a=>ih a (kd a) h
 |newGen c k ih=>exact fun kd h a=>ih a (kd a) h
 |genState g k ih=>exact fun kd h a=>ih a (kd a) h
 |resume g r l k ih=>exact fun kd h=>kd.elim
 |yield v g l k ih=>exact fun kd h=>True.intro
 |stack k ih=>exact fun kd h a=>ih a (kd a) h
 |fork c k ih=>exact fun kd h=>True.intro
 |thread k ih=>exact fun kd h a=>ih a (kd a) h
 |await a t b l k ih=>exact fun kd h=>True.intro
theorem Gq {α:Type} {c:Prop} [Decidable c] {a b:Sem α} (ha:KD a) (hb:KD b):KD (if c then a else b):=by split<;>assumption
theorem NZ {a:Addr}:KD (load a):=fun _=>True.intro
theorem X7 {f:Array Value→Array Value} (o:Obj):(Obj.mapFields f o).dict=o.dict∧(o.isFreed=false→(Obj.mapFields f o).isFreed=false):=by
 obtain ⟨c,d,dt,sl⟩:=o
 cases dt<;>exact ⟨rfl,fun h=>h⟩
theorem X8 {v:Value}:KD (fieldsOf v):=by
 unfold fieldsOf
 split
 ·exact KD.bind NZ fun o=>by split<;>exact True.intro
 ·exact True.intro
theorem Ln {v:Value} {i:Nat}:KD (field v i):=by
 unfold field
 exact KD.bind X8 fun o=>by split<;>exact True.intro
theorem N0 {v x:Value} {i:Nat}:KD (setField v i x):=by
 unfold setField
 split
 ·unfold updateField
  refine KD.bind NZ fun o=>?_
  split
  ·exact Gq ⟨X7,True.intro⟩ True.intro
  ·exact True.intro
 ·exact True.intro
theorem N1 {v:Value} {o:Option Addr}:KD (setFlight v o):=by
 unfold setFlight
 exact KD.bind Ln fun o=>Gq N0 True.intro
theorem X9 {n:String} {vs:List Value}:KD (newFields n vs):=by
 unfold newFields newObj
 unfold newObjAsIs
 dsimp only
 split
 ·exact True.intro
 ·exact fun a=>True.intro
theorem Rh:∀{l:List Env},KD (readyFrames l)
 |[]=>True.intro
 |env::outer=>by
  unfold readyFrames
  split
  ·refine KD.bind NZ fun o=>Gq True.intro (KD.bind ?_ fun b=>KD.bind ?_ fun v=>KD.bind ⟨fun o=>⟨rfl,fun h=>?_⟩,True.intro⟩ fun _=>Rh)
   ·unfold behindIsImport
    exact Gq True.intro (Gq True.intro (KD.bind Ln fun _=>True.intro))
   ·unfold keptBack
    split
    ·exact Gq True.intro fun _=>True.intro
    ·exact True.intro
   ·obtain ⟨c,d,dt,sl⟩:=o
    cases dt<;>exact h
  ·exact True.intro
theorem Yb {env:Env}:KD (PySem.frameOf env):=by
 unfold PySem.frameOf
 refine KD.bind (fun _=>True.intro) fun l=>KD.bind ?_ fun o=>?_
 ·unfold frameObject
  split
  ·exact True.intro
  ·exact KD.bind Rh fun _=>True.intro
 ·split<;>exact True.intro
theorem Yc {f:Addr} {b:Bool}:KD (entryPlaceOf f b):=by
 unfold entryPlaceOf
 intro l
 show KD (match l.find? _ with |some (_,pos)=>_ |none=>_)
 split<;>exact True.intro
theorem Ri {e:Value} {env:Env}:KD (noteFrame e env):=by
 unfold noteFrame
 split
 ·refine KD.bind Ln fun hd=>?_
  have fin:∀f:Addr,KD (do setField e 1 (←EntryCells.newEntry hd (←PySem.frameOf env) .none (rawInt f) .none (←entryPlaceOf f (hd != .none)))):=fun f=>
   KD.bind Yb fun _=>KD.bind Yc fun _=>KD.bind X9 fun _=>N0
  refine Gq (KD.bind Ln fun x=>Gq True.intro (KD.bind N0 fun _=>?_)) ?_
  ·exact fin _
  ·exact fin _
 ·exact True.intro
theorem Rj {e:Value} {env:Env}:KD (leaving env e):=by
 unfold leaving
 exact KD.bind Ri fun _=>N1
open Classical in
noncomputable def blank (p:Addr→Prop) (h:Heap):Heap:=⟨h.objs.mapIdx fun i o=>if p i then {o with data:=.freed} else o,h.life⟩
theorem G9 {p:Addr→Prop} {h:Heap} {b:Addr} (hp:p b):(blank p h).get? b=none:=by
 unfold blank Heap.get?
 simp only [Array.getElem?_mapIdx]
 cases e:h.objs[b]? with
 |none=>rfl
 |some o=>simp [hp]
theorem Ha {p:Addr→Prop} {h:Heap} {b:Addr} (hp:¬p b):(blank p h).get? b=h.get? b:=by
 unfold blank Heap.get?
 simp only [Array.getElem?_mapIdx]
 cases e:h.objs[b]? with
 |none=>rfl
 |some o=>simp [hp]
theorem N2 {p:Addr→Prop} {h:Heap}:(blank p h).StaysIn h:=fun b o e=>by
 by_cases hp:p b
 ·rw [G9 hp] at e;cases e
 ·rw [Ha hp] at e;exact e
inductive Lo (h0 h:Heap) (H:Hp) (a:Addr) (C:Value) (da:Option Addr):Prop where
 |mk (new:h0.get? a=none) (no:H a=none) (oe:Obj) (vs:Array Value) (a0:Value) (T:Addr) (oT:Obj) (ts:Array Value) (e1:h.get? a=some oe) (e2:oe.cls=C∧vs[0]?=some a0) (e3:oe.data=.fields vs) (e4:vs[1]?=some (.ref T)) (e5:h0.get? T=none) (e6:H T=none) (e7:T≠a) (e8:h.get? T=some oT) (e9:oT.data=.fields ts) (e10:ts[3]?=some .none) (e11:oe.dict=da):Lo h0 h H a C da
abbrev Fj (n:Str):Value:=.str n 0
inductive AK (P:Program) (w:World) (K:PySem.W.Frag) (outer:List Env) (H:Hp) (s:Shared) (E:XK) (e:Value) (s':Shared):Prop where
 |mk (a C:Addr) (n:Str) (da:Option Addr) (H':Hp) (ee:e=.ref a) (os:s'.os=s.os) (bare:AllBare s'.gens) (un:Un (frs outer) [] H H' s.heap s'.heap) (hok:HOk P w H' s'.heap) (fly:Lo s.heap s'.heap H' a (.ref C) da) (nm:PySem.W.nsIn K mainGlobals n=some (some (.ref C))) (q:E (Fj n) da H'):AK P w K outer H s E e s'
theorem Lp {h base:Heap} {p:Addr→Prop}:∀{l:List Env},h.FunFrames base l→(∀b∈frs l,p b)→h.FunFrames (blank p h) l
 |[],_,_=>trivial
 |env::rest,⟨k,⟨L,o,hf,_,ho,hd⟩,r⟩,hp=>⟨k,⟨L,o,hf,G9 (hp L (by unfold frs;rw [F8,hf];exact Bf)),ho,hd⟩,
  Lp r fun b hb=>hp b (by
   unfold frs at hb ⊢
   rw [F8,hf]
   exact Bn _ hb)⟩
theorem N3 {P:Program} {w:World} {H:Hp} {h:Heap} {a:Addr} {o:HO} (x:ObjOk P w H h a o):∃ob,h.get? a=some ob:=by
 cases o with
 |lst xs=>obtain ⟨_,_,_,_,e⟩:=x;exact ⟨_,e⟩
 |tup xs=>obtain ⟨_,_,_,⟨_,e,_⟩,_⟩:=x;exact ⟨_,e⟩
 |own y=>exact x
 |xd fs=>obtain ⟨_,⟨_,_,_,e,_⟩,_⟩:=x;exact ⟨_,e⟩
 |frz ob u=>obtain ⟨e,_⟩:=x;exact ⟨_,e⟩
 |tbl ps=>exact ⟨_,x⟩
 |ext φ=>exact x.2.1
 |mex φ=>exact x.2.1
 |dct φ=>exact x.2.1
structure Lv (X:Cx) (E:XK):Prop where
 xe:∀e s',wpAny (model X.prog X.w) X.A (leaving X.env e) (fun _ s''=>AK X.prog X.w X.K X.outer X.H₀ X.s₀ E e s'') (fun e' s''=>AK X.prog X.w X.K X.outer X.H₀ X.s₀ E e' s'') s'→X.xe e s'
 stk:X.stack=X.env::X.outer
 fr:X.env.frame=some X.env.locals
 ex:X.ex=[]
theorem JU {P:Program} {w:World} {K:PySem.W.Frag} {mg:Str→Option Value} {base:Heap} {N:List Str} {qual:Str} {scope:Scope} {f:Addr} {cd:Value} {A:Around} {outer:List Env} {s:Shared} {H:Hp} {E:XK}:Lv (AZ (AK P w K) P w K mg base N qual scope f cd A outer s H E) E:=
 ⟨fun _ _ h=>h,rfl,rfl,rfl⟩
section
variable {X:Cx} {E:XK}
theorem Lv.frs (lv:Lv X E):L2.frs X.stack=X.env.locals::X.fs:=by
 rw [lv.stk];unfold L2.frs;rw [F8,lv.fr];rfl
theorem Rk {pins:List (Addr×Obj)} {σ:L2.St} {H':Hp} {s':Shared} {h':Heap} {a T:Addr} {C:Value} (lv:Lv X E)
 (I:Inv X pins σ H' s')
 (na:X.s₀.heap.get? a=none) (nT:X.s₀.heap.get? T=none) (ha:H' a=none) (hT:H' T=none) {a0:Value}
 (L:Heap.LeftW (blank (fun b=>b=a∨b=T∨b∈frs X.stack) s'.heap) X.stack a C a0 s'.heap h') {da:Option Addr} {oa:Obj} (ea:s'.heap.get? a=some oa) (ed:oa.dict=da) (dd:Dicts s'.heap h'):
 Un X.fs [] X.H₀ H' X.s₀.heap h'∧HOk X.prog X.w H' h'∧Lo X.s₀.heap h' H' a C da:=by
 obtain ⟨stay,ff,⟨oe,vs,T2,oT,ts,e1,e2,e3,e4,e5,e6,e7,e8,e9⟩,ups⟩:=L
 have e11:oe.dict=da:=by
  obtain ⟨o',q1,q2⟩:=dd a oa ea
  rw [e1] at q1
  cases q1
  exact q2.trans ed
 have B:Un X.fs [] X.H₀ H' X.s₀.heap s'.heap:=by have:=I.base;rw [lv.ex] at this;exact this
 have stk:=I.stack
 have frNone:∀b∈frs X.stack,H' b=none:=fun b hb=>I.stkFree b hb
 have keepOf:∀b o,¬(b=a∨b=T∨b∈frs X.stack)→s'.heap.get? b=some o→h'.get? b=some o:=fun b o hb e=>stay b o (by rw [Ha hb];exact e)
 have notL:∀b o,X.s₀.heap.get? b=some o→b∉X.fs→b∉frs X.stack:=fun b o e hb z=>by
  rw [lv.frs] at z
  rcases qa5.mp z with z |z
  ·have:=AO e
   rw [z] at this
   exact absurd (A1 this I.ok.above) (DB _)
  ·exact hb z
 have old:∀b o,X.s₀.heap.get? b=some o→b≠a∧b≠T:=fun b o e=>⟨fun z=>(by rw [z,na] at e;cases e),fun z=>(by rw [z,nT] at e;cases e)⟩
 have noFields:∀b,b∈frs X.stack→∃o,s'.heap.get? b=some o∧∀vs,o.data≠.fields vs:=fun b hb=>(stk.mem hb).2
 have any:∀b o,X.s₀.heap.get? b=some o→s'.heap.get? b≠none→∃o',h'.get? b=some o':=fun b o e hn=>by
  cases e':s'.heap.get? b with
  |none=>exact absurd e' hn
  |some o'=>
   by_cases hb:b∈frs X.stack
   ·obtain ⟨o2,h2,d2⟩:=noFields b hb
    obtain ⟨sl,h3⟩:=ups b o2 h2 d2
    exact ⟨_,h3⟩
   ·exact ⟨o',keepOf b o' (fun z=>by rcases z with z |z |z;exact (old b o e).1 z;exact (old b o e).2 z;exact hb z) e'⟩
 refine ⟨⟨fun b o e n hb hx=>?_,fun b o e n hb hx=>?_,B.free,fun b o e hx=>?_,B.tups,B.frzs,B.tbls⟩,fun b o e=>?_,na,ha,oe,vs,a0,T2,oT,ts,e1,e2,e3,e4,?_,?_,e6,e7,e8,e9,e11⟩
 ·exact keepOf b o (fun z=>by rcases z with z |z |z;exact (old b o e).1 z;exact (old b o e).2 z;exact notL b o e hb z) (B.keep b o e n hb hx)
 ·obtain ⟨sl,h1⟩:=B.slot b o e n hb hx
  have hb':b∈frs X.stack:=by rw [lv.frs];exact Bn _ hb
  obtain ⟨o2,h2,d2⟩:=noFields b hb'
  rw [h1] at h2
  cases h2
  obtain ⟨sl2,h3⟩:=ups b _ h1 d2
  exact ⟨sl2,h3⟩
 ·obtain ⟨o',h1⟩:=B.there b o e hx
  exact any b o e (by rw [h1];simp)
 ·refine (I.hok b o e).stay (fun c u hc q=>keepOf c u (fun z=>?_) q) (fun _ q=>q) fun _ _ q=>q
  have hc':H' c≠none:=by
   rcases hc with rfl |hc
   ·rw [e];simp
   ·rw [hc];simp
  rcases z with z |z |z
  ·exact hc' (z ▸ ha)
  ·exact hc' (z ▸ hT)
  ·exact hc' (frNone c z)
 ·cases q:X.s₀.heap.get? T2 with
  |none=>rfl
  |some o=>
   exfalso
   obtain ⟨o',h1⟩:=B.there T2 o q (by simp)
   by_cases hb:T2∈frs X.stack
   ·obtain ⟨o2,h2,d2⟩:=noFields T2 hb
    obtain ⟨sl,h3⟩:=ups T2 o2 h2 d2
    rw [h3] at e7
    cases e7
    exact d2 _ e8
   ·rw [Ha (fun z=>by rcases z with z |z |z;exact (old T2 o q).1 z;exact (old T2 o q).2 z;exact hb z),h1] at e5
    cases e5
 ·cases q:H' T2 with
  |none=>rfl
  |some o=>
   exfalso
   by_cases hb:T2=a∨T2=T∨T2∈frs X.stack
   ·rcases hb with z |z |z
    ·rw [z,ha] at q;cases q
    ·rw [z,hT] at q;cases q
    ·rw [frNone T2 z] at q;cases q
   ·rw [Ha hb] at e5
    obtain ⟨ob,eb⟩:=N3 (I.hok T2 o q)
    rw [eb] at e5
    cases e5
theorem Lv.older (lv:Lv X E) {pins:List (Addr×Obj)} {σ:L2.St} {H1:Hp} {s1:Shared} (I:Inv X pins σ H1 s1):∀b,s1.heap.get? b=none→X.s₀.heap.get? b=none:=fun b hb=>by
 cases q:X.s₀.heap.get? b with
 |none=>rfl
 |some o=>
  obtain ⟨o',h1⟩:=I.base.there b o q (by rw [lv.ex];simp)
  rw [hb] at h1;cases h1
theorem N4 (lv:Lv X E):GO (AK X.prog X.w X.K) X E:=by
 rintro pins σ H1 s1 e s' I ⟨a,C,n,da,H',ee,os,bare,un,hok,fly,nm,q⟩
 subst ee
 have I':Inv X pins σ H' s':=I.call' os un hok bare (fun b hb=>absurd hb (by simp))
 obtain ⟨fnew,fno,oe,vs,a0,T,oT,ts,e1,e2,e3,e4,e5,e6,e7,e8,e9,e10,e11⟩:=fly
 have fro:X.A.frames=some (X.env::X.outer):=by rw [←lv.stk];exact I'.ok.frames
 have stk:s'.heap.FunFrames X.base (X.env::X.outer):=by have:=I'.stack;rw [lv.stk] at this;exact this
 have run:=JT Rj (wpAny_leaving_nextW (M:=model X.prog X.w) (E:=fun _ _=>False) (Q:=fun _ s''=>∃h',s''={s' with heap:=h'}∧Heap.LeftW (blank (fun b=>b=a∨b=T∨b∈frs X.stack) s'.heap) (X.env::X.outer) a (.ref C) a0 s'.heap h') (base:=blank (fun b=>b=a∨b=T∨b∈frs X.stack) s'.heap) (cls:=.ref C) (a0:=a0) fro (Lp stk fun b hb=>.inr (.inr (by rw [lv.stk];exact hb))) lv.fr
  ⟨oe,vs,T,oT,ts,e1,e2,e3,e4,G9 (.inr (.inl rfl)),e7,e8,e9,e10⟩ N2 (G9 (.inl rfl)) fun h' L=>⟨h',rfl,L⟩)
 refine lv.xe _ _ (wpAny_mono run (fun _ s'' z=>?_) fun _ _ z=>z.1.elim)
 obtain ⟨⟨h',rfl,L⟩,D⟩:=z
 obtain ⟨u1,u2,u3⟩:=Rk lv I' (lv.older I a fnew) (lv.older I T e5) fno e6 (by rw [lv.stk] at *;exact L) e1 e11 D
 exact ⟨a,C,n,da,H',rfl,I'.os,bare,u1,u2,u3,nm,q⟩
theorem Yd (lv:Lv X E) {pins:List (Addr×Obj)} {σ:L2.St} {H1:Hp} {s1:Shared} {a C:Addr} {n:Str} {da:Option Addr} {oe:Obj} {vs:Array Value} {a0:Value} (I':Inv X pins σ H1 s1)
 (e1:s1.heap.get? a=some oe) (ec:oe.cls=.ref C) (e3:oe.data=.fields vs) (v0:vs[0]?=some a0) (v1:vs[1]?=some .none) (ed:oe.dict=da) (new:X.s₀.heap.get? a=none) (fresh:H1 a=none) (nm:PySem.W.nsIn X.K mainGlobals n=some (some (.ref C))) (q:E (Fj n) da H1):X.xe (.ref a) s1:=by
 have fro:X.A.frames=some (X.env::X.outer):=by rw [←lv.stk];exact I'.ok.frames
 have stk:s1.heap.FunFrames X.base (X.env::X.outer):=by have:=I'.stack;rw [lv.stk] at this;exact this
 have run:=JT Rj (wpAny_leaving_firstW (M:=model X.prog X.w) (E:=fun _ _=>False) (Q:=fun _ s''=>∃h',s''={s1 with heap:=h'}∧Heap.LeftW (blank (fun b=>b=a∨b=a∨b∈frs X.stack) s1.heap) (X.env::X.outer) a oe.cls a0 s1.heap h') (base:=blank (fun b=>b=a∨b=a∨b∈frs X.stack) s1.heap) (a0:=a0) fro (Lp stk fun b hb=>.inr (.inr (by rw [lv.stk];exact hb))) lv.fr
  e1 N2 (G9 (.inl rfl)) e3 v1 v0 fun h2 L=>⟨h2,rfl,L⟩)
 refine lv.xe _ _ (wpAny_mono run (fun _ s'' z=>?_) fun _ _ z=>z.1.elim)
 obtain ⟨⟨h',rfl,L⟩,D⟩:=z
 obtain ⟨u1,u2,u3⟩:=Rk lv I' new new fresh fresh (by rw [lv.stk] at *;exact L) e1 ed D
 rw [ec] at u3
 exact ⟨a,C,n,da,H1,rfl,I'.os,I'.bare,u1,u2,u3,nm,q⟩
theorem Ye (lv:Lv X E) {pins:List (Addr×Obj)} {σ:L2.St} {H1:Hp} {s1:Shared} {h':Heap} {a C:Addr} {n:Str} {vs:List Value} (I:Inv X pins σ H1 s1)
 (m:Heap.MadeExcOf s1.heap h' a (.ref C) vs) (nm:PySem.W.nsIn X.K mainGlobals n=some (some (.ref C))) (q:E (Fj n) none H1):X.xe (.ref a) {s1 with heap:=h'}:=by
 have I':Inv X pins σ H1 {s1 with heap:=h'}:=I.kept m.keeps
 obtain ⟨t,e1,e2,e3⟩:=m.there
 have fresh:H1 a=none:=by
  cases q:H1 a with
  |none=>rfl
  |some o=>
   obtain ⟨ob,eb⟩:=N3 (I.hok a o q)
   rw [m.new] at eb;cases eb
 exact Yd lv I' e1 rfl rfl rfl rfl rfl (lv.older I a m.new) fresh nm q
end
section
variable {P:Program} {w:World} {K:PySem.W.Frag} {mg:Str→Option Value} {base:Heap} {N:List Str} {qual:Str} {scope:Scope} {f:Addr} {cd:Value} {A:Around} {outer:List Env} {s:Shared} {H:Hp} {E:XK}
theorem A0:GO (AK P w K) (AZ (AK P w K) P w K mg base N qual scope f cd A outer s H E) E:=N4 JU
theorem Yg {pins:List (Addr×Obj)} {σ:L2.St} {H1:Hp} {s1:Shared} {h':Heap} {a C:Addr} {n:Str} {vs:List Value} (I:Inv (AZ (AK P w K) P w K mg base N qual scope f cd A outer s H E) pins σ H1 s1)
 (m:Heap.MadeExcOf s1.heap h' a (.ref C) vs) (nm:PySem.W.nsIn K mainGlobals n=some (some (.ref C))) (q:E (Fj n) none H1):(AZ (AK P w K) P w K mg base N qual scope f cd A outer s H E).xe (.ref a) {s1 with heap:=h'}:=Ye JU I m nm q
end
inductive Rl (h:Heap) (C:Addr) (bmB:List Value) (newId:String):Prop where
 |mk (bm:List Value) (N:Addr) (nm q:Str) (bs:List Value) (hdct:Bool) (sn:List Str) (sub:List Value) (ab:Bool) (col:Option Bool) (dd:Option Addr) (k0 k1 k2 k3 k5:Option Value) (mN:Str→Option Value)
  (hC:h.get? C=some (excClassObj nm q C N bs bm hdct sn sub ab col dd k0 k1 k2 k3 k5 newId)) (hN:h.Ns N mN) (hni:mN "__init__"=none) (T:OwnTail h bmB bm):Rl h C bmB newId
def N5 (K:PySem.W.Frag) (C:Addr) (bmB:List Value) (newId:String):Prop:=∀h:Heap,K.In h→Rl h C bmB newId
def clsOf:Data→Option ClassData
 |.cls c=>some c
 |_=>none
theorem Yh {d:Data} {c:ClassData} (h:clsOf d=some c):d=.cls c:=by
 cases d<;>first |(cases h;rfl) |cases h
inductive Rm {α:Type} (l:List α):Prop where
 |mk (a b c d e f:α) (q:l=[a,b,c,d,e,f]):Rm l
theorem Yi {α:Type} {l:List α} (h:l.length=6):Rm l:=by
 cases l with
 |nil=>cases h
 |cons a l=>cases l with
  |nil=>cases h
  |cons b l=>cases l with
   |nil=>cases h
   |cons c l=>cases l with
    |nil=>cases h
    |cons d l=>cases l with
     |nil=>cases h
     |cons e l=>cases l with
      |nil=>cases h
      |cons f l=>cases l with
       |nil=>exact ⟨a,b,c,d,e,f,rfl⟩
       |cons g l=>cases h
def Lq (K:PySem.W.Frag) (C:Addr) (bmB:List Value) (newId:String) (o:Obj) (cd:ClassData):Bool:=
 decide (o.cls=.type "type")&&(decide (cd.mro=.ref C::cd.mro.tail)&&(!cd.hasDel&&(PySem.W.tailIn K bmB cd.mro.tail&&(PySem.W.nsOkIn K cd.ns&&(PySem.W.nsIn K cd.ns "__init__"==some none&&(decide (o.slots.toList.length=6)&&decide (o.slots.toList[4]?=some (some (.builtin newId)))))))))
def N6 (K:PySem.W.Frag) (C:Addr) (bmB:List Value) (newId:String):Bool:=match K.lookup C with
 |some o=>(match clsOf o.data with
  |some cd=>Lq K C bmB newId o cd
  |none=>false)
 |none=>false
theorem Yj {K:PySem.W.Frag} {C:Addr} {bmB:List Value} {newId:String} (q:N6 K C bmB newId=true):N5 K C bmB newId:=by
 intro h X
 unfold N6 at q
 cases lk:K.lookup C with
 |none=>rw [lk] at q;cases q
 |some o=>
  rw [lk] at q
  replace q:(match clsOf o.data with |some cd=>Lq K C bmB newId o cd |none=>false)=true:=q
  cases ec:clsOf o.data with
  |none=>rw [ec] at q;cases q
  |some cd=>
   rw [ec] at q
   replace q:Lq K C bmB newId o cd=true:=q
   unfold Lq at q
   simp only [Cp,decide_eq_true_eq,Bool.not_eq_true',beq_iff_eq] at q
   obtain ⟨e1,e2,e3,e4,e5,e6,e7,e8⟩:=q
   obtain ⟨cls,od,dt,⟨sl⟩⟩:=o
   obtain ⟨nm,bs,mro,ns,qn,hd,sn,sub,ab,col,del⟩:=cd
   replace ec:=Yh ec
   simp only at ec e1 e2 e3 e4 e5 e6 e7 e8
   obtain ⟨k0,k1,k2,k3,k4,k5,rfl⟩:=Yi e7
   cases mro with
   |nil=>cases e2
   |cons c bm=>
    cases e2
    cases Option.some.inj e8
    subst ec e1 e3
    exact ⟨_,_,_,_,_,_,_,_,_,_,_,_,_,_,_,_,h.nsMap ns,X _ _ lk,.of_isNs (PySem.W.isNs_of_in X e5),PySem.W.nsMap_none_of_in X e5 e6,PySem.W.tail_of_in X e4⟩
abbrev JV:List Value:=[.type "ValueError",.type "Exception",.type "BaseException",.type "object"]
def N7 (X:Cx) (E:XK):Prop:=∀(pins:List (Addr×Obj)) (σ:L2.St) (H1:Hp) (s1:Shared) (h':Heap) (a C:Addr) (n:Str) (vs:List Value),Inv X pins σ H1 s1→Heap.MadeExcOf s1.heap h' a (.ref C) vs→PySem.W.nsIn X.K mainGlobals n=some (some (.ref C))→E (Fj n) none H1→X.xe (.ref a) {s1 with heap:=h'}
theorem Rn {P:Program} {w:World} {K:PySem.W.Frag} {mg:Str→Option Value} {base:Heap} {N:List Str} {qual:Str} {scope:Scope} {f:Addr} {cd:Value} {A:Around} {outer:List Env} {s:Shared} {H:Hp} {E:XK}:
 N7 (AZ (AK P w K) P w K mg base N qual scope f cd A outer s H E) E:=fun pins σ H1 s1 h' a C n vs I m nm q=>Yg I m nm q
section
variable {X:Cx} {E:XK}
def IU (n:Str) (fa:MA):MS:=fun ρ h=>(fa ρ h).bind fun xs h1=>if xs.length≤sizeLine then .err (Fj n) [] h1 else .stuck
theorem Yk {x:Str} {C:Addr} {e:Expr} {es:List Expr} {fa:MA} {np cpos pos:Pos} (O:N5 X.K C JV "ValueError.__new__") (nmC:PySem.W.nsIn X.K mainGlobals x=some (some (.ref C))) (hg:Gl X x) (hc:X.calm=true) (th:N7 X E) (ha:Dj X E (e::es) fa)
 (hdb:(x==("__debug__":Str))=false:=by decide) (he:starEach (e::es) X.env=(false,eval e X.env)::starEach es X.env:=by rfl) (hpl:(backTo cpos (starEach (e::es) X.env)).any (·.1)=false:=by rfl):
 Ex X E (.Raise (some (.Call (.Name x np) (e::es) [] cpos)) none pos) (IU x fa):=by
 rintro pins s σ H D I ⟨m,ρ,h,hr,er,p⟩
 have hm:X.mg x=some (.ref C):=PySem.W.mg_of I.mod.kin I.mod.glob nmC
 obtain ⟨bm,NN,nm,q,bs,hdct,sn,sub,ab,col,dd,k0,k1,k2,k3,k5,mN,hC,hN,hni,T⟩:=O X.base I.mod.kin
 refine wpAny_Raise_call_subT (C:=C) (nm:=nm) (q:=q) (N:=NN) (bs:=bs) (bm:=bm) (hdct:=hdct) (sn:=sn) (sub:=sub) (ab:=ab) (col:=col) (dd:=dd) (k0:=k0) (k1:=k1) (k2:=k2) (k3:=k3) (k5:=k5)
  PySem.F.excBase_ValueError (mN:=mN) (T.hasType PySem.F.excBase_ValueError.hasBase) (I.ok.hd hc) hpl hni (Ij I hg hm ⟨rfl,?_⟩ hdb)
 have hh:=ha cpos pins s σ H (fun vs H1=>vs.length≤sizeLine∧E (Fj x) none H1) I ⟨m,ρ,h,hr,er,PostS.bind p fun xs h1 vs m1 H1 _ p1 k1 hr1 r1 q1=>by
  split at q1
  ·rename_i hz
   exact ⟨by rw [←DVs.len r1];exact hz,q1 none m1 H1 (AC _) (.refl _) hr1 (fun f d z=>by cases z)⟩
  ·exact q1.elim⟩
 rw [he] at hh ⊢
 exact Calls.evalArgs_plain (AA hh fun us s1 z1_=>by obtain ⟨vs,H1,I1,r,hl,q1⟩:=z1_;exact (⟨rfl,by rw [←r.length];exact hl,I1.bk _ _ hC,hN.keeps I1.bk,T.keeps I1.bk,fun h' a z=>th pins σ H1 s1 h' a C x us I1 z nmC q1⟩))
inductive FT (K:PySem.W.Frag) (F:List D→HD→Out D) (vs:List V) (H:Hp) (Q:VK) (E:XK):Prop where
 |mk (m:List Addr) (ds:List D) (h:HD) (hr:HR K m h H) (r:DVs K m H ds vs) (p:Post K (rD K) m H E Q (F ds h)):FT K F vs H Q E
theorem Ls {P:Program} {w:World} {K:PySem.W.Frag} {X:Cx}:GO (AK P w K) X E0:=fun _ _ _ _ _ _ _ z2_=>by obtain ⟨_,_,_,_,_,_,_,_,_,_,_,_,q⟩:=z2_;exact (q.elim)
theorem Lu {K:PySem.W.Frag} {n:Nat} {F:List D→HD→Out D} (ar:Ar n F) {vs:List V} {H:Hp} {Q:VK} {E':XK} (h:FT K F vs H Q E'):vs.length=n:=by
 obtain ⟨m,ds,hd,hr,r,p⟩:=h
 rw [←r.len]
 by_cases e:ds.length=n
 ·exact e
 ·rw [ar ds hd e] at p;exact p.elim
structure CaE (P:Program) (w:World) (K:PySem.W.Frag) (mg:Str→Option Value) (base:Heap) (x:Str) (k:Nat) (F:List D→HD→Out D):Prop where
 ex:∃(f:Addr) (fd:FuncData) (ps:List Str),FnOk P w K mg base (AK P w K) k f fd ps (FT K F)∧Binds K fd ps []∧mg x=some (.ref f)∧PySem.W.keepIn K (.ref f)=true
theorem AQ {k k':Nat} {F:List D→HD→Out D} {fa:MA} {x:Str} {p pos:Pos} {e:Expr} {es:List Expr} (C:CaE X.prog X.w X.K X.mg X.base x k F) (hr:Room k' X.A) (hx:GO (AK X.prog X.w X.K) X E) (ha:Dj X E (e::es) fa) (hk:k≤k':=by decide) (hg:Gl X x:=by rfl)
 (hdb:(x==("__debug__":Str))=false:=by decide) (he:starEach (e::es) X.env=(false,eval e X.env)::starEach es X.env:=by rfl) (hpl:(backTo pos (starEach es X.env)).any (·.1)=false:=by rfl):
 Ev X E (.Call (.Name x p) (e::es) [] pos) (Ah F fa):=by
 obtain ⟨f,fd,ps,G,hb,hm,hkp⟩:=C.ex
 exact Ca (V6 (E:=E) G (hr.mono hk) hg hm hkp hb .nil hx ha hdb he hpl) fun σ H Q z3_=>by obtain ⟨m,ρ,hd,hr,er,p⟩:=z3_;exact (⟨m,ρ,hd,hr,er,Post.bind p fun xs h1 vs m1 H1 e1 p1 k1 hr1 r1 q1=>by
  rw [El]
  exact ⟨m1,xs,h1,hr1,r1,q1⟩⟩)
theorem BZ {P:Program} {w:World} {K:PySem.W.Frag} {mg:Str→Option Value} {base:Heap} {x qual:Str} {st:Stmt} {f:Addr} {fd:FuncData} {N ps:List Str} {k:Nat} {F:List D→HD→Out D} {g:MS} (Fn:Fun K x qual st f fd) (S:Bo N ps (defScope st)) (ar:Ar ps.length F)
 (hg:∀ds h,ds.length=ps.length→F ds h=Az N.length g ds h)
 (hbody:∀(cdv:Value) (A:Around) (outer:List Env) (s:Shared) (H:Hp) (E:XK),Room k (A.deeper (envOfC qual (defScope st) s.heap.objs.size f cdv))→A8 (AZ (AK P w K) P w K mg base N qual (defScope st) f cdv A outer s H E) E (defBody st) g):FnOk P w K mg base (AK P w K) (k+1) f fd ps (FT K F):=by
 obtain ⟨oc,od,kV,doc,pm,an,cdv,ct,osl,rfl,lk,hcd⟩:=Fn.ex
 refine P6 lk hcd S (fun vs H Q E h=>Lu ar h) fun A outer s H vs Q E hr h=>?_
 refine ⟨_,hbody cdv A outer s H E hr,?_⟩
 have hl:=Lu ar h
 obtain ⟨m,ds,hd,hr1,r,p⟩:=h
 have hld:ds.length=ps.length:=by rw [r.len];exact hl
 refine ⟨m,ds.map some++List.replicate (N.length - ds.length) none,hd,hr1,ER.start r,?_⟩
 rw [hg ds hd hld] at p
 unfold Az at p
 cases o:g (ds.map some++List.replicate (N.length - ds.length) none) hd with
 |stuck=>rw [o] at p;exact p
 |err C fs h1=>rw [o] at p;exact p
 |ok a h1=>
  rw [o] at p
  obtain ⟨fl,ρ1⟩:=a
  intro m1 H1 p1 k1 hr1
  cases fl with
  |nx=>exact fun σ er=>p .non m1 H1 p1 k1 hr1 (by simp [rD,DV])
  |bk=>exact False.elim p
  |ct=>exact False.elim p
  |rt d=>exact fun v rv=>p v m1 H1 p1 k1 hr1 rv
end
theorem De {P:Program} {w:World} {K:PySem.W.Frag} {mg:Str→Option Value} {base:Heap} {N:List Str} {qual:Str} {scope:Scope} {f:Addr} {cd:Value} {A:Around} {outer:List Env} {s:Shared} {H:Hp} {E:XK}:
 PassesOwn (model P w) (AZ (AK P w K) P w K mg base N qual scope f cd A outer s H E).A (AZ (AK P w K) P w K mg base N qual scope f cd A outer s H E).env (AZ (AK P w K) P w K mg base N qual scope f cd A outer s H E).xe:=by
 passes_own
section
variable {X:Cx} {E:XK}
abbrev MO:=Ai→HD→Out (Option Int)
abbrev Lw (X:Cx) (E:XK) (e:Option Expr) (f:MO):Prop:=PO X e (tM X.K (fun _ _ a b=>a=b) E f)
def Bh:MO:=fun _ h=>.ok none h
def Bd (f:ME):MO:=fun ρ h=>(f ρ h).bind fun x h1=>match x with
 |.int i=>.ok (some i) h1
 |_=>.stuck
theorem Ro {e:Option Expr} {t t':TO} (h:PO X e t) (i:∀σ H Q,t' σ H Q→t σ H Q):PO X e t':=fun pins s σ H Q I q=>h pins s σ H Q I (i σ H Q q)
theorem Ck:Lw X E none Bh:=Ro Wl fun σ H Q z1_=>by obtain ⟨m,ρ,h,hr,er,p⟩:=z1_;exact (p none m H (AC _) (.refl _) hr rfl)
theorem Cm {e:Expr} {f:ME} (he:Ev X E e f):Lw X E (some e) (Bd f):=Ro (Wm he) fun σ H Q z2_=>by obtain ⟨m,ρ,h,hr,er,p⟩:=z2_;exact (⟨m,ρ,h,hr,er,Post.bind p fun x h1 v m1 H1 eo p1 k1 hr1 r1 q1=>by
 clear eo
 split at q1
 ·rename_i i
  simp only [rD,DV] at r1
  exact ⟨i,r1,q1 (some i) m1 H1 (AC _) (.refl _) hr1 rfl⟩
 ·exact q1.elim⟩)
def cutD (xs:List D) (lo hi:Option Int):List D:=(xs.drop (HT.sIx xs.length 0 lo)).take (HT.sIx xs.length xs.length hi - HT.sIx xs.length 0 lo)
def Rq (x:D) (lo hi:Option Int) (h:HD):Out D:=match x with
 |.tup xs=>if HT.sIx xs.length 0 lo=0∧HT.sIx xs.length xs.length hi=xs.length then .stuck else .ok (.tup (cutD xs lo hi)) h
 |_=>.stuck
def Rr (f:ME) (lo hi:MO):ME:=fun ρ h=>(f ρ h).bind fun x h1=>(lo ρ h1).bind fun l h2=>(hi ρ h2).bind fun u h3=>Rq x l u h3
theorem DVs.cut {K:PySem.W.Frag} {m:List Addr} {H:Hp} {ds:List D} {vs:List V} (r:DVs K m H ds vs) (lo hi:Option Int):DVs K m H (cutD ds lo hi) (Im vs lo hi):=by
 unfold cutD Im
 rw [r.len]
 exact (r.drop _).take _
def Rt (o i x y:D) (ρ:Ai) (h:HD):Out (Fl×Ai):=match x,y with
 |.int a,.int b=>II o i (.int (a+b)) h (.ok (.nx,ρ) h)
 |_,_=>.stuck
def Ru (o i:D) (h:HD):Out D:=match o,i with
 |.loc l,.int n=>if 0≤n then (match h[l]? with
  |some (.lst ds)=>(match ds[n.toNat]? with
   |some d=>.ok d h
   |none=>.stuck)
  |_=>.stuck) else .stuck
 |_,_=>.stuck
def Rv (fo fi fv:ME):MS:=fun ρ h=>(fo ρ h).bind fun o h1=>(fi ρ h1).bind fun i h2=>(Ru o i h2).bind fun x h3=>(fv ρ h3).bind fun y h4=>Rt o i x y ρ h4
end
theorem vals_ints:∀{ns:List Int} {its:List Value},Vals (ns.map V.int) its→∃ys:List (Int×Tok),its=ys.map (fun p=>Value.int p.1 p.2)∧ys.map (·.1)=ns
 |[],its,r=>by cases r;exact ⟨[],rfl,rfl⟩
 |n::ns,its,r=>by
  cases r with
  |cons r1 r2=>
   obtain ⟨t,rfl⟩:=r1
   obtain ⟨ys,rfl,e⟩:=vals_ints r2
   exact ⟨(n,t)::ys,rfl,by simp [e]⟩
section
variable {X:Cx}
def Yl:List Int→Int
 |[]=>0
 |n::ns=>ns.foldl min n
def Rw (f:List Int→Int):D→HD→Out D:=fun x h=>match x with
 |.loc l=>match h[l]? with
  |some (.lst ds)=>match AS (ds.map G3) with
   |some ns=>if ns=[] then .stuck else .ok (.int (f ns)) h
   |none=>.stuck
  |_=>.stuck
 |_=>.stuck
end
def ZeO (K:PySem.W.Frag) (t:Addr):It:=⟨fun i H=>∃xs,SqL K H t xs∧i<xs.length,fun i H x H'=>∃p v,H p=none∧x=.ref p∧(∀xs:List V,SqL K H t xs→xs[i]?=some v)∧H'=Av H p (.tup [.int i,v]),fun i H=>∃xs,SqL K H t xs∧i=xs.length⟩
section
variable {X:Cx} {E:XK}
def Rx:List D→HD→Out (List D×Bc):=fun ds h=>match ds with
 |[.tup xs]=>.ok (NK xs,[]) h
 |[.loc l]=>match h[l]? with
  |some (.lst xs)=>.ok (NK xs,[(l,xs)]) h
  |_=>.stuck
 |_=>.stuck
def Ry (fa:MA):MI:=fun ρ h=>(fa ρ h).bind Rx
end
structure Eu (z TI TO p q:Addr) (f g:List Addr):Prop where
 a1:TI≠z
 a2:TO≠z
 a3:p≠z
 a4:q≠z
 a5:TI≠TO
 a6:TI≠p
 a7:TI≠q
 a8:TO≠p
 a9:TO≠q
 b1:p≠q
 b2:z∉f
 b3:z∉g
 b4:TO∉f
 b5:TO∉g
 b6:p∉g
 b7:q∉f
section
variable {prog:Program} {w:World} {A:Around} {E:Value→Shared→Prop} {s:Shared} {z TI TO p q:Addr} {f g:List Addr} {n1 n2 k:Nat} {P1 P2:Nat→Value→Prop} {S1 S2:Nat→Heap→Prop} {a b:Value}
theorem Ym {Q:Value→Shared→Prop} (D1:Draws prog w A p f n1 P1 S1) (D2:Draws prog w A q g n2 P2 S2) (ap:Eu z TI TO p q f g)
 (zz:IsZip s.heap z TI TO .none) (zi:IsPair s.heap TI (.ref p) (.ref q)) (zo:IsPair s.heap TO a b) (s1:S1 k s.heap) (s2:S2 k s.heap) (l1:k<n1) (l2:k<n2)
 (hQ:∀h' tk x y,P1 k x→P2 k y→IsZip h' z TI TO (rawInt s.heap.objs.size)→IsPair h' TO x y→S1 (k+1) h'→S2 (k+1) h'→IsPair h' s.heap.objs.size x y→
  (∀c o,c≠z→c≠TO→c≠p→c≠q→s.heap.get? c=some o→h'.get? c=some o)→Q (.ref s.heap.objs.size) {s with heap:=h',toks:=tk}):
 wpAny (model prog w) A (Builtin.«zip.__next__» ⟨[.ref z],[]⟩) (fun fin s'=>∃v,fin=.done (.ret v)∧Q v s') E s:=by
 show wpAny _ _ (field (.ref z) 2 >>=_) _ _ _
 refine wpAny_bind (wpAny_field zz rfl (x:=.bool false) rfl ?_)
 show wpAny _ _ (field (.ref z) 3 >>=_) _ _ _
 refine wpAny_bind (wpAny_field zz rfl (x:=.ref TI) rfl ?_)
 refine wpAny_bind (wpAny_seqItems zi rfl ?_)
 show wpAny _ _ (Builtin.SmallTypes.ownedTupleIsFree (.ref z) >>=_) _ _ _
 refine wpAny_bind ?_
 unfold Builtin.SmallTypes.ownedTupleIsFree
 refine wpAny_bind (wpAny_field zz rfl (x:=.none) rfl (wpAny_pure ?_))
 simp only [if_true]
 refine wpAny_bind (wpAny_rule ?_)
 refine wpAny_bind (wpAny_field zz rfl (x:=.ref TO) rfl ?_)
 refine wpAny_bind (wpAny_setField_rec zz (by simp) fun m1 zz1 t1=>?_)
 replace zz1:IsZip m1 z TI TO .ellipsis:=zz1
 refine wpAny_bind ?_
 simp only [KA,KC,GL,GM]
 refine wpAny_bind (wpAny_bind (wpAny_onRaise ?_))
 show wpAny _ _ (Builtin.SmallTypes.nextOf (.ref p) >>=_) _ _ _
 refine wpAny_bind (D1.item k _ _ _ l1 (D1.frame k _ _ s1 fun c hc o e=>t1.extBut _ _ (fun y=>ap.b2 (y ▸ hc)) e) fun x m2 tk2 px s12 t2=>wpAny_pure ?_)
 have zo2:IsPair m2 TO a b:=t2.extBut _ _ ap.a8 (t1.extBut _ _ ap.a2 zo)
 refine wpAny_bind (wpAny_seqItems zo2 rfl ?_)
 refine wpAny_bind (wpAny_updateSeq_pair zo2 fun m3 zo3 t3=>?_)
 replace zo3:IsPair m3 TO x b:=zo3
 refine wpAny_bind (wpAny_letGo (wpAny_pure ?_))
 refine wpAny_bind (wpAny_bind (wpAny_onRaise ?_))
 show wpAny _ _ (Builtin.SmallTypes.nextOf (.ref q) >>=_) _ _ _
 have s23:S2 k m3:=D2.frame k _ _ s2 fun c hc o e=>t3.extBut _ _ (fun y=>ap.b5 (y ▸ hc)) (t2.extBut _ _ (fun y=>ap.b6 (y ▸ hc)) (t1.extBut _ _ (fun y=>ap.b3 (y ▸ hc)) e))
 refine wpAny_bind (D2.item k _ _ _ l2 s23 fun y m4 tk4 py s24 t4=>wpAny_pure ?_)
 have zo4:IsPair m4 TO x b:=t4.extBut _ _ ap.a9 zo3
 refine wpAny_bind (wpAny_seqItems zo4 rfl ?_)
 refine wpAny_bind (wpAny_updateSeq_pair zo4 fun m5 zo5 t5=>?_)
 replace zo5:IsPair m5 TO x y:=zo5
 refine wpAny_bind (wpAny_letGo (wpAny_pure (wpAny_pure ?_)))
 refine wpAny_bind (wpAny_seqItems zo5 rfl ?_)
 refine wpAny_bind (wpAny_newTuple ?_)
 have sz:m5.objs.size=s.heap.objs.size:=by rw [t5.1,t4.1,t3.1,t2.1,t1.1]
 have zz5:IsZip m5 z TI TO .ellipsis:=t5.extBut _ _ ap.a2.symm (t4.extBut _ _ ap.a4.symm (t3.extBut _ _ ap.a2.symm (t2.extBut _ _ ap.a3.symm zz1)))
 have kp:∀c o,c≠z→c≠TO→c≠p→c≠q→s.heap.get? c=some o→m5.get? c=some o:=fun c o c1 c2 c3 c4 e=>t5.extBut _ _ c2 (t4.extBut _ _ c4 (t3.extBut _ _ c2 (t2.extBut _ _ c3 (t1.extBut _ _ c1 e))))
 have zlt:z<m5.objs.size:=AO zz5
 show wpAny _ _ (Builtin.SmallTypes.ownedTupleHandOut (.ref z) (.ref m5.objs.size) >>=_) _ _ _
 refine wpAny_bind ?_
 unfold Builtin.SmallTypes.ownedTupleHandOut
 have zz6:IsZip (m5.push {cls:=.type "tuple",data:=.seq #[x,y]}) z TI TO .ellipsis:=AM _ zz5
 refine wpAny_bind (wpAny_setField_rec zz6 (by simp) fun m7 zz7 t7=>?_)
 replace zz7:IsZip m7 z TI TO (rawInt m5.objs.size):=zz7
 refine wpAny_setField_rec zz7 (by simp) fun m8 zz8 t8=>?_
 replace zz8:IsZip m8 z TI TO (rawInt m5.objs.size):=zz8
 have up:∀c o,c≠z→m5.get? c=some o→m8.get? c=some o:=fun c o c1 e=>t8.extBut _ _ c1 (t7.extBut _ _ c1 (AM _ e))
 have nw:IsPair m8 m5.objs.size x y:=t8.extBut _ _ (Bj zlt) (t7.extBut _ _ (Bj zlt) (BD _ rfl))
 rw [sz] at zz8 nw
 refine wpAny_pure ⟨_,rfl,?_⟩
 show Q (.ref m5.objs.size) _
 rw [sz]
 refine hQ m8 tk4 x y px py zz8 (up _ _ ap.a2 zo5) (D1.frame _ m2 m8 s12 fun c hc o e=>?_) (D2.frame _ m4 m8 s24 fun c hc o e=>?_) nw fun c o c1 c2 c3 c4 e=>up c o c1 (kp c o c1 c2 c3 c4 e)
 ·have n1:c≠TO:=fun y=>ap.b4 (y ▸ hc)
  exact up c o (fun y=>ap.b2 (y ▸ hc)) (t5.extBut _ _ n1 (t4.extBut _ _ (fun y=>ap.b7 (y ▸ hc)) (t3.extBut _ _ n1 e)))
 ·exact up c o (fun y=>ap.b3 (y ▸ hc)) (t5.extBut _ _ (fun y=>ap.b5 (y ▸ hc)) e)
theorem Yn {Q:Fin→Shared→Prop} (D1:Draws prog w A p f n1 P1 S1) (D2:Draws prog w A q g n2 P2 S2) (ap:Eu z TI TO p q f g)
 (zz:IsZip s.heap z TI TO .none) (zi:IsPair s.heap TI (.ref p) (.ref q)) (zo:IsPair s.heap TO a b) (s1:S1 k s.heap) (s2:S2 k s.heap) (hk:k=n1∨(k<n1∧k=n2))
 (hE:∀h' tk e,(∀c o,c≠z→c≠TO→c≠p→c≠q→s.heap.get? c=some o→h'.get? c=some o)→(∃o,h'.get? e=some o∧o.cls=.type "StopIteration")→E (.ref e) {s with heap:=h',toks:=tk}):
 wpAny (model prog w) A (Builtin.«zip.__next__» ⟨[.ref z],[]⟩) Q E s:=by
 show wpAny _ _ (field (.ref z) 2 >>=_) _ _ _
 refine wpAny_bind (wpAny_field zz rfl (x:=.bool false) rfl ?_)
 show wpAny _ _ (field (.ref z) 3 >>=_) _ _ _
 refine wpAny_bind (wpAny_field zz rfl (x:=.ref TI) rfl ?_)
 refine wpAny_bind (wpAny_seqItems zi rfl ?_)
 show wpAny _ _ (Builtin.SmallTypes.ownedTupleIsFree (.ref z) >>=_) _ _ _
 refine wpAny_bind ?_
 unfold Builtin.SmallTypes.ownedTupleIsFree
 refine wpAny_bind (wpAny_field zz rfl (x:=.none) rfl (wpAny_pure ?_))
 simp only [if_true]
 refine wpAny_bind (wpAny_rule ?_)
 refine wpAny_bind (wpAny_field zz rfl (x:=.ref TO) rfl ?_)
 refine wpAny_bind (wpAny_setField_rec zz (by simp) fun m1 zz1 t1=>?_)
 replace zz1:IsZip m1 z TI TO .ellipsis:=zz1
 refine wpAny_bind ?_
 simp only [KA,KC,GL,GM]
 refine wpAny_bind (wpAny_bind (wpAny_onRaise ?_))
 show wpAny _ _ (Builtin.SmallTypes.nextOf (.ref p) >>=_) _ _ _
 have s11:=D1.frame k _ m1 s1 fun c hc o e=>t1.extBut _ _ (fun y=>ap.b2 (y ▸ hc)) e
 rcases hk with hk |⟨hk,hk2⟩
 ·subst hk
  refine wpAny_bind (D1.done _ _ _ s11 fun m2 e t2 he=>?_)
  obtain ⟨oe,e1,e2⟩:=he
  have zz2:IsZip m2 z TI TO .ellipsis:=t2 _ _ ap.a3.symm zz1
  have ne:e≠z:=fun y=>by subst y;rw [zz2] at e1;cases e1;simp at e2
  exact wpAny_setField_rec zz2 (by simp) fun m3 _ t3=>hE m3 _ e (fun c o c1 _ c3 _ y=>t3.extBut _ _ c1 (t2 _ _ c3 (t1.extBut _ _ c1 y))) ⟨oe,t3.extBut _ _ ne e1,e2⟩
 ·subst hk2
  refine wpAny_bind (D1.item k _ _ _ hk s11 fun x m2 tk2 px s12 t2=>wpAny_pure ?_)
  have zo2:IsPair m2 TO a b:=t2.extBut _ _ ap.a8 (t1.extBut _ _ ap.a2 zo)
  refine wpAny_bind (wpAny_seqItems zo2 rfl ?_)
  refine wpAny_bind (wpAny_updateSeq_pair zo2 fun m3 zo3 t3=>?_)
  refine wpAny_bind (wpAny_letGo (wpAny_pure ?_))
  refine wpAny_bind (wpAny_bind (wpAny_onRaise ?_))
  show wpAny _ _ (Builtin.SmallTypes.nextOf (.ref q) >>=_) _ _ _
  have s23:S2 k m3:=D2.frame k _ _ s2 fun c hc o e=>t3.extBut _ _ (fun y=>ap.b5 (y ▸ hc)) (t2.extBut _ _ (fun y=>ap.b6 (y ▸ hc)) (t1.extBut _ _ (fun y=>ap.b3 (y ▸ hc)) e))
  refine wpAny_bind (D2.done _ _ _ s23 fun m4 e t4 he=>?_)
  obtain ⟨oe,e1,e2⟩:=he
  have zz4:IsZip m4 z TI TO .ellipsis:=t4 _ _ ap.a4.symm (t3.extBut _ _ ap.a2.symm (t2.extBut _ _ ap.a3.symm zz1))
  have ne:e≠z:=fun y=>by subst y;rw [zz4] at e1;cases e1;simp at e2
  exact wpAny_setField_rec zz4 (by simp) fun m5 _ t5=>hE m5 _ e (fun c o c1 c2 c3 c4 y=>t5.extBut _ _ c1 (t4 _ _ c4 (t3.extBut _ _ c2 (t2.extBut _ _ c3 (t1.extBut _ _ c1 y))))) ⟨oe,t5.extBut _ _ ne e1,e2⟩
theorem Yo {Q:Option Value→Shared→Prop} (D1:Draws prog w A.in1 p f n1 P1 S1) (D2:Draws prog w A.in1 q g n2 P2 S2) (ap:Eu z TI TO p q f g)
 (zz:IsZip s.heap z TI TO .none) (zi:IsPair s.heap TI (.ref p) (.ref q)) (zo:IsPair s.heap TO a b) (s1:S1 k s.heap) (s2:S2 k s.heap) (l1:k<n1) (l2:k<n2)
 (hQ:∀h' tk x y,P1 k x→P2 k y→IsZip h' z TI TO (rawInt s.heap.objs.size)→IsPair h' TO x y→S1 (k+1) h'→S2 (k+1) h'→IsPair h' s.heap.objs.size x y→
  (∀c o,c≠z→c≠TO→c≠p→c≠q→s.heap.get? c=some o→h'.get? c=some o)→Q (some (.ref s.heap.objs.size)) {s with heap:=h',toks:=tk}):
 wpAny (model prog w) A (pyNext (.ref z)) Q E s:=by
 have hT:s.TypeIs (.ref z) "zip":=⟨_,zz,rfl⟩
 unfold pyNext
 exact wpAny_bind (wpAny_attempt (wpAny_callSpecial?_slot (name:=Str.ofString "__next__") hT F.slot_zip_next (wpAny_call_entry F.slot_zip_next hT F.entry_zip_next
  (Ym D1 D2 ap zz zi zo s1 s2 l1 l2 fun h' tk x y c1 c2 c3 c4 c5 c6 c7 c8=>wpAny_pure (hQ h' tk x y c1 c2 c3 c4 c5 c6 c7 c8)) (F.args_zip_next_1 _))))
theorem Yp {Q:Option Value→Shared→Prop} (D1:Draws prog w A.in1 p f n1 P1 S1) (D2:Draws prog w A.in1 q g n2 P2 S2) (ap:Eu z TI TO p q f g)
 (zz:IsZip s.heap z TI TO .none) (zi:IsPair s.heap TI (.ref p) (.ref q)) (zo:IsPair s.heap TO a b) (s1:S1 k s.heap) (s2:S2 k s.heap) (hk:k=n1∨(k<n1∧k=n2))
 (hQ:∀h' tk,(∀c o,c≠z→c≠TO→c≠p→c≠q→s.heap.get? c=some o→h'.get? c=some o)→Q none {s with heap:=h',toks:=tk}):wpAny (model prog w) A (pyNext (.ref z)) Q E s:=by
 have hT:s.TypeIs (.ref z) "zip":=⟨_,zz,rfl⟩
 unfold pyNext
 refine wpAny_bind (wpAny_attempt (wpAny_callSpecial?_slot (name:=Str.ofString "__next__") hT F.slot_zip_next (wpAny_call_entry F.slot_zip_next hT F.entry_zip_next
  (Yn D1 D2 ap zz zi zo s1 s2 hk fun h' tk e kp he=>?_) (F.args_zip_next_1 _))))
 obtain ⟨o,ho,hc⟩:=he
 refine wpAny_bind (wpAny_isInstance (T:="StopIteration") (b:=true) ⟨o,ho,hc⟩ isSubtype_stop ?_)
 exact wpAny_pure (hQ _ _ kp)
end
open AutoSeq1 (wpAny_loadPart')
def ItAt:Bool→Heap→Addr→Addr→Nat→Prop
 |true,h,it,l,i=>h.IsTupleIter it l i
 |false,h,it,l,i=>h.IsListIter it l i
def SqA:Bool→Heap→Addr→Array Value→Prop
 |true,h,l,xs=>h.IsTuple l xs
 |false,h,l,xs=>h.IsList l xs
def DK:Bool→PySem.W.Frag→Hp→Addr→List V→Prop
 |true,K,H,a,xs=>SqT K H a xs
 |false,K,H,a,xs=>SqL K H a xs
def Hb (k:Bool) (l:Addr):Obj:={cls:=.type (if k then "tuple_iterator" else "list_iterator"),data:=.fields #[.ref l,.int 0 0]}
theorem Gr {prog:Program} {w:World} {A:Around} (k:Bool) (hh:A.handled=none) (it l:Addr) (hne:l≠it) (items:Array Value):
 Draws prog w A it [it,l] items.size (fun i v=>items[i]?=some v) (fun i h=>ItAt k h it l i∧SqA k h l items):=by
 cases k
 ·exact Draws.list hh it l hne items
 ·exact XG hh it l hne items
theorem ItAt.obj {k:Bool} {h:Heap} {it l:Addr} {i:Nat} (x:ItAt k h it l i):∃o,h.get? it=some o∧∀v,o.data≠.cell v:=by
 cases k
 ·obtain ⟨o,e,c,d⟩:=x
  exact ⟨o,e,fun v z=>by rw [d] at z;cases z⟩
 ·obtain ⟨o,e,c,d⟩:=x
  exact ⟨o,e,fun v z=>by rw [d] at z;cases z⟩
theorem ItAt.at {k:Bool} {h h':Heap} {it l:Addr} {i:Nat} (x:ItAt k h it l i) (f:∀o,h.get? it=some o→h'.get? it=some o):ItAt k h' it l i:=by
 cases k
 ·exact Heap.IsListIter.at x f
 ·exact Heap.IsTupleIter.at x f
section
variable {X:Cx} {pins:List (Addr×Obj)} {σ:L2.St} {H:Hp} {s:Shared}
theorem Ew {k:Bool} {a:Addr} {xs:List V} (I:Inv X pins σ H s) (h:DK k X.K H a xs):∃its:List Value,Vals xs its∧SqA k s.heap a its.toArray∧a<s.heap.objs.size:=by
 cases k
 ·obtain ⟨its,r,p,_⟩:=I.list h
  have q:=p.isList
  exact ⟨its,r,q,by obtain ⟨_,e,_⟩:=q;exact AO e⟩
 ·obtain ⟨its,r,p,_⟩:=I.tuple h
  exact ⟨its,r,p,p.lt⟩
theorem Lx {k:Bool} {a:Addr} {xs ys:List V} (I:Inv X pins σ H s) (h:DK k X.K H a xs) (h':DK k X.K H a ys):xs=ys:=by
 cases k
 ·exact I.list_inj h h'
 ·exact I.tuple_inj h h'
end
def Ly (K:PySem.W.Frag) (k1 k2:Bool) (t u:Addr):It:=⟨fun i H=>∃xs ys,DK k1 K H t xs∧DK k2 K H u ys∧i<xs.length∧i<ys.length,
 fun i H x H'=>∃p v v',H p=none∧x=.ref p∧(∀xs:List V,DK k1 K H t xs→xs[i]?=some v)∧(∀ys:List V,DK k2 K H u ys→ys[i]?=some v')∧H'=Av H p (.tup [v,v']),
 fun i H=>∃xs ys,DK k1 K H t xs∧DK k2 K H u ys∧(i=xs.length∨(i<xs.length∧i=ys.length))⟩
inductive Rz (k1 k2:Bool) (z TI TO p q t u:Addr) (i:Nat) (h:Heap):Prop where
 |mk (zz:IsZip h z TI TO .none) (zi:IsPair h TI (.ref p) (.ref q)) (zo:∃a b,IsPair h TO a b) (x1:ItAt k1 h p t i) (x2:ItAt k2 h q u i):Rz k1 k2 z TI TO p q t u i h
theorem Yq {P:Program} {w:World} {K:PySem.W.Frag} {elts:List Expr} {kt:Nat} {tpos:Pos} (k1 k2:Bool) (z TI TO p q t u:Addr) (ap:Eu z TI TO p q [p,t] [q,u]) (n1:t≠p) (n2:u≠q):
 Ik P w K (.Tuple elts kt tpos) (Ly K k1 k2 t u) [z,TI,TO,p,q] z (Rz k1 k2 z TI TO p q t u) where
 mem:=by simp
 obj:=fun i h st c hc=>by
  obtain ⟨zz,zi,⟨a,b,zo⟩,x1,x2⟩:=st
  simp only [qa5,Cg,or_false] at hc
  rcases hc with rfl |rfl |rfl |rfl |rfl
  ·exact ⟨_,zz,fun v y=>by cases y⟩
  ·exact ⟨_,zi,fun v y=>by cases y⟩
  ·exact ⟨_,zo,fun v y=>by cases y⟩
  ·exact x1.obj
  ·exact x2.obj
 keep:=fun i h h' st kp=>by
  obtain ⟨zz,zi,⟨a,b,zo⟩,x1,x2⟩:=st
  exact ⟨kp z (by simp) _ zz,kp TI (by simp) _ zi,⟨a,b,kp TO (by simp) _ zo⟩,x1.at fun o e=>kp p (by simp) o e,x2.at fun o e=>kp q (by simp) o e⟩
 item:=by
  intro X hP hw hK hc i pins s σ H E I hf st hg
  subst hP hw hK
  obtain ⟨zz,zi,⟨a,b,zo⟩,x1,x2⟩:=st
  obtain ⟨xs,ys,hq1,hq2,l1,l2⟩:=hg
  obtain ⟨it1,rv1,sq1,lt1⟩:=Ew I hq1
  obtain ⟨it2,rv2,sq2,lt2⟩:=Ew I hq2
  have e1:=rv1.length
  have e2:=rv2.length
  have hh:X.A.in1.handled=none:=I.ok.hd hc
  refine Yo (Gr k1 hh p t n1 it1.toArray) (Gr k2 hh q u n2 it2.toArray) ap zz zi zo ⟨x1,sq1⟩ ⟨x2,sq2⟩ (by rw [A7];omega) (by rw [A7];omega) fun h1 tk x y px py zz1 zo1 Ku DA nw kp=>?_
  refine ⟨.ref s.heap.objs.size,rfl,wpAny_letOwnedTupleGo_zip zz1 fun h2 zz2 sb=>?_⟩
  have hx:xs[i]?=some xs[i]:=Ba l1
  have hy:ys[i]?=some ys[i]:=Ba l2
  obtain ⟨u1,hu1,ru1⟩:=rv1.get hx
  obtain ⟨u2,hu2,ru2⟩:=rv2.get hy
  have hux:u1=x:=by
   have:it1[i]?=some x:=by simpa using px
   rw [hu1] at this
   exact Option.some.inj this
  have huy:u2=y:=by
   have:it2[i]?=some y:=by simpa using py
   rw [hu2] at this
   exact Option.some.inj this
  subst hux huy
  have hfr:H s.heap.objs.size=none:=I.hok.fresh (AG _)
  have kk:∀c o,c∉[z,TI,TO,p,q]→s.heap.get? c=some o→h2.get? c=some o:=fun c o hc e=>by
   simp only [qa5,Cg,or_false,not_or] at hc
   exact (sb.2 c hc.1).trans (kp c o hc.1 hc.2.2.1 hc.2.2.2.1 hc.2.2.2.2 e)
  have nal:∀c o,s.heap.get? c=some o→c≠s.heap.objs.size:=fun c o e=>Cs (AO e)
  have na:s.heap.objs.size≠z:=Ne.symm (nal z _ zz)
  have hnew:h2.get? s.heap.objs.size=some {cls:=.type "tuple",data:=.seq #[u1,u2]}:=(sb.2 _ na).trans nw
  have ntr:∀c o,H c=some o→c∉[z,TI,TO,p,q]:=fun c o e hc=>by
   rw [(hf c hc).1] at e;cases e
  refine ⟨.ref s.heap.objs.size,Av H s.heap.objs.size (.tup [xs[i],ys[i]]),?_,rfl,⟨s.heap.objs.size,xs[i],ys[i],hfr,rfl,fun zs hz=>by rw [Lx I hz hq1];exact hx,fun zs hz=>by rw [Lx I hz hq2];exact hy,rfl⟩,
   ⟨zz2,(sb.2 TI ap.a1).trans (kp TI _ ap.a1 ap.a5 ap.a6 ap.a7 zi),⟨u1,u2,(sb.2 TO ap.a2).trans zo1⟩,Ku.1.at fun o e=>(sb.2 p ap.a3).trans e,DA.1.at fun o e=>(sb.2 q ap.a4).trans e⟩,fun c hc=>?_⟩
  ·show Inv X pins σ _ {s with heap:=h2,gens:=s.gens,drawn:=s.drawn,toks:=tk}
   refine I.step (g':=s.gens) (d':=s.drawn) (t':=tk) (h':=h2) (ch:=[z,TI,TO,p,q]) (fun c hc=>?_) (fun c o _ _ hc e _=>kk c o hc e) (fun c o _ _ hc e _=>⟨o.slots,kk c o hc e⟩) (fun c o _ e n=>by rw [AF (nal c o e)];exact n)
    (fun c o hc e=>⟨o,kk c o hc e⟩) (fun c zs e=>by rw [AF (Cr e hfr)];exact e) (fun c o v e=>by rw [AF (Cr e hfr)];exact e) (fun c ps e=>⟨#[],by rw [AF (Cr e hfr),e];simp⟩) (fun m hm=>?_) (fun c o e=>?_) I.bare
   ·obtain ⟨_,c1,_,c3,c4,c5⟩:=hf c hc
    exact ⟨c3,c1,c4,c5⟩
   ·obtain ⟨o,es,ep,e,r⟩:=hm
    exact ⟨o,es,ep,kk _ o (fun hc=>(hf _ hc).2.1 rfl) e,r⟩
   ·by_cases hb:c=s.heap.objs.size
    ·subst hb
     rw [B9] at e
     cases e
     exact ⟨by simp only [GH,GK];rw [sizeLine_eq];decide,[u1,u2],.cons ru1 (.cons ru2 .nil),⟨_,hnew,rfl,0,rfl⟩,fun o e=>by rw [hnew] at e;cases e;rfl⟩
    ·rw [AF hb] at e
     refine (I.hok c o e).stay (fun d v hd e'=>kk d v ?_ e') (fun d e'=>by rw [AF (Cr e' hfr)];exact e') fun d zs e'=>by rw [AF (Cr e' hfr)];exact e'
     rcases hd with rfl |hd
     ·exact ntr d _ e
     ·exact ntr d _ hd
  ·have nc:c≠s.heap.objs.size:=by
    simp only [qa5,Cg,or_false] at hc
    rcases hc with rfl |rfl |rfl |rfl |rfl
    ·exact nal _ _ zz
    ·exact nal _ _ zi
    ·exact nal _ _ zo
    ·obtain ⟨o,e,_⟩:=x1.obj;exact nal _ _ e
    ·obtain ⟨o,e,_⟩:=x2.obj;exact nal _ _ e
   rw [AF nc]
   exact (hf c hc).1
 done:=by
  intro X hP hw hK hc i pins s σ H E I hf st hg
  subst hP hw hK
  obtain ⟨zz,zi,⟨a,b,zo⟩,x1,x2⟩:=st
  obtain ⟨xs,ys,hq1,hq2,hl⟩:=hg
  obtain ⟨it1,rv1,sq1,lt1⟩:=Ew I hq1
  obtain ⟨it2,rv2,sq2,lt2⟩:=Ew I hq2
  have e1:=rv1.length
  have e2:=rv2.length
  have hh:X.A.in1.handled=none:=I.ok.hd hc
  refine Yp (Gr k1 hh p t n1 it1.toArray) (Gr k2 hh q u n2 it2.toArray) ap zz zi zo ⟨x1,sq1⟩ ⟨x2,sq2⟩ (by simp only [A7];omega) fun h' tk kp=>⟨rfl,?_⟩
  have kk:∀c o,c∉[z,TI,TO,p,q]→s.heap.get? c=some o→h'.get? c=some o:=fun c o hc e=>by
   simp only [qa5,Cg,or_false,not_or] at hc
   exact kp c o hc.1 hc.2.2.1 hc.2.2.2.1 hc.2.2.2.2 e
  have ntr:∀c o,H c=some o→c∉[z,TI,TO,p,q]:=fun c o e hc=>by
   rw [(hf c hc).1] at e;cases e
  show Inv X pins σ _ {s with heap:=h',gens:=s.gens,drawn:=s.drawn,toks:=tk}
  refine I.step (g':=s.gens) (d':=s.drawn) (t':=tk) (h':=h') (ch:=[z,TI,TO,p,q]) (fun c hc=>?_) (fun c o _ _ hc e _=>kk c o hc e) (fun c o _ _ hc e _=>⟨o.slots,kk c o hc e⟩) (fun c o _ e n=>n)
   (fun c o hc e=>⟨o,kk c o hc e⟩) (fun c zs e=>e) (fun c o v e=>e) (fun c ps e=>⟨#[],by rw [e];simp⟩) (fun m hm=>?_) (fun c o e=>?_) I.bare
  ·obtain ⟨_,c1,_,c3,c4,c5⟩:=hf c hc
   exact ⟨c3,c1,c4,c5⟩
  ·obtain ⟨o,es,ep,e,r⟩:=hm
   exact ⟨o,es,ep,kk _ o (fun hc=>(hf _ hc).2.1 rfl) e,r⟩
  ·refine (I.hok c o e).stay (fun d v hd e'=>kk d v ?_ e') (fun d e'=>e') fun d zs e'=>e'
   rcases hd with rfl |hd
   ·exact ntr d _ e
   ·exact ntr d _ hd
 self:=fun A i s Q E st h=>by cases st with |mk zz zi zo x1 x2=>exact wpAny_pyIter_zip zz h
abbrev zA (h:Heap) (k1:Bool) (t:Addr):Heap:=h.push (Hb k1 t)
abbrev zB (h:Heap) (k1 k2:Bool) (t u:Addr):Heap:=(zA h k1 t).push (Hb k2 u)
abbrev zC (h:Heap) (k1 k2:Bool) (t u:Addr):Heap:=(zB h k1 k2 t u).push {cls:=.type "tuple",data:=.seq #[.ref h.objs.size,.ref (zA h k1 t).objs.size]}
abbrev zD (h:Heap) (k1 k2:Bool) (t u:Addr):Heap:=(zC h k1 k2 t u).push {cls:=.type "tuple",data:=.seq #[.none,.none]}
abbrev zE (h:Heap) (k1 k2:Bool) (t u:Addr):Heap:=(zD h k1 k2 t u).push {cls:=.type "zip",data:=.fields #[.none,.bool false,.bool false,.ref (zB h k1 k2 t u).objs.size,.ref (zC h k1 k2 t u).objs.size]}
theorem SqA.push {k:Bool} {h:Heap} {l:Addr} {xs:Array Value} (x:SqA k h l xs) (o:Obj):SqA k (h.push o) l xs:=by
 cases k
 ·exact Heap.IsList.push x o
 ·exact Heap.IsTuple.push x o
theorem RA {prog:Program} {w:World} {A:Around} {E:Value→Shared→Prop} {s:Shared} {k:Bool} {l:Addr} {xs:Array Value} {Q:Value→Shared→Prop} (x:SqA k s.heap l xs) (hQ:Q (.ref s.heap.objs.size) {s with heap:=s.heap.push (Hb k l)}):
 wpAny (model prog w) A (pyIter (.ref l)) Q E s:=by
 cases k
 ·exact wpAny_pyIter_list x hQ
 ·exact wpAny_pyIter_tuple x hQ
theorem Yr (k1 k2:Bool) (t u:Addr) (xs ys:Array Value):
 Meets (Builtin.«zip.__new__» ⟨[.type "zip",.ref t,.ref u],[]⟩) (fun _ R s=>SqA k1 s.heap t xs∧SqA k2 s.heap u ys∧
  R (.ok (.ret (.ref (zD s.heap k1 k2 t u).objs.size))) {s with heap:=zE s.heap k1 k2 t u}):=
 .of_wp fun prog w A R s h=>by
  obtain ⟨hp,g,d,tk,os⟩:=s;obtain ⟨hl1,hl2,h⟩:=h
  have hsub:=sub_zip
  have hL1:SqA k1 (Shared.heap ⟨hp,g,d,tk,os⟩) t xs:=hl1
  have hL2:SqA k2 (Shared.heap ⟨hp.push (Hb k1 t),g,d,tk,os⟩) u ys:=SqA.push hl2 _
  wp_walk using RA hL1,RA hL2
  exact ⟨_,rfl,h⟩
theorem ItAt.new {k:Bool} {h:Heap} {it l:Addr} (e:h.get? it=some (Hb k l)):ItAt k h it l 0:=by
 cases k
 ·exact ⟨_,e,rfl,rfl⟩
 ·exact ⟨_,e,rfl,rfl⟩
theorem RB {prog:Program} {w:World} {A:Around} {E:Value→Shared→Prop} {s:Shared} {k1 k2:Bool} {t u:Addr} {xs ys:Array Value} {Q:Value→Shared→Prop} (h1:SqA k1 s.heap t xs) (h2:SqA k2 s.heap u ys)
 (h:∀h',IsZip h' (s.heap.objs.size+4) (s.heap.objs.size+2) (s.heap.objs.size+3) .none→IsPair h' (s.heap.objs.size+2) (.ref s.heap.objs.size) (.ref (s.heap.objs.size+1))→
  IsPair h' (s.heap.objs.size+3) .none .none→ItAt k1 h' s.heap.objs.size t 0→ItAt k2 h' (s.heap.objs.size+1) u 0→(∀c o,s.heap.get? c=some o→h'.get? c=some o)→Q (.ref (s.heap.objs.size+4)) {s with heap:=h'}):
 wpAny (model prog w) A (call (.type "zip") [.ref t,.ref u]) Q E s:=by
 refine callType_new F.called_zip (by decide) (F.typeCall_zip_2 _ _) (F.newCall_zip_2 _ _) (fun obj=>F.args_object_init_3 obj _ _) F.entry_zip_new
  (Yr k1 k2 t u xs ys) ⟨h1,h2,?_⟩
 have y1:(zA s.heap k1 t).objs.size=s.heap.objs.size+1:=DT ..
 have y2:(zB s.heap k1 k2 t u).objs.size=s.heap.objs.size+2:=by rw [DT,y1]
 have y3:(zC s.heap k1 k2 t u).objs.size=s.heap.objs.size+3:=by rw [DT,y2]
 have y4:(zD s.heap k1 k2 t u).objs.size=s.heap.objs.size+4:=by rw [DT,y3]
 have g5:(zE s.heap k1 k2 t u).get? (zD s.heap k1 k2 t u).objs.size=some _:=BD _ rfl
 have g4:(zE s.heap k1 k2 t u).get? (zC s.heap k1 k2 t u).objs.size=some _:=AM _ (BD _ rfl)
 have g3:(zE s.heap k1 k2 t u).get? (zB s.heap k1 k2 t u).objs.size=some _:=AM _ (AM _ (BD _ rfl))
 have g2:(zE s.heap k1 k2 t u).get? (zA s.heap k1 t).objs.size=some (Hb k2 u):=AM _ (AM _ (AM _ (BD _ rfl)))
 have g1:(zE s.heap k1 k2 t u).get? s.heap.objs.size=some (Hb k1 t):=AM _ (AM _ (AM _ (AM _ (BD _ rfl))))
 show _∧_
 rw [y2,y3,y4] at g5
 rw [y1,y2] at g3
 rw [y3] at g4
 rw [y1] at g2
 rw [y4]
 exact ⟨⟨_,g5,rfl⟩,h _ g5 g3 g4 (.new g1) (.new g2) fun c o x=>AM _ (AM _ (AM _ (AM _ (AM _ x))))⟩
section
variable {X:Cx} {E:XK}
theorem Ys {elts:List Expr} {kt:Nat} {tpos p pos:Pos} {a b:Expr} {ta:TA} (hg:Gl X "zip") (hm:X.mg "zip"=none) (ha:PA X [a,b] ta) (hs:starEach [a,b] X.env=[(false,eval a X.env),(false,eval b X.env)]:=by rfl) (hs2:starEach [b] X.env=[(false,eval b X.env)]:=by rfl):
 PI X (.Tuple elts kt tpos) (.Call (.Name "zip" p) [a,b] [] pos) (fun σ H R=>ta σ H fun vs H1=>∃k1 k2 t u xs ys,vs=[.ref t,.ref u]∧DK k1 X.K H1 t xs∧DK k2 X.K H1 u ys∧R (Ly X.K k1 k2 t u) H1):=by
 intro pins s σ H R I h
 refine Call_ (GN I hg hm PyProof.Rows.boot_zip (PyProof.Rows.callWith_type1 (AA (ha pos pins s σ H _ I h) fun us s1 ⟨vs,H1,I1,r1,q1⟩=>?_) (by rw [hs,hs2]) (by rw [hs2];rfl)))
 obtain ⟨k1,k2,t,u,xs,ys,e,hq1,hq2,q⟩:=q1
 subst e
 cases r1 with
 |cons r rr=>
  cases rr with
  |cons r' rr=>
   cases rr
   cases r
   cases r'
   obtain ⟨it1,rv1,sq1,lt1⟩:=Ew I1 hq1
   obtain ⟨it2,rv2,sq2,lt2⟩:=Ew I1 hq2
   refine RB sq1 sq2 fun h' zz zi zo x1 x2 kp=>wpAny_pyIter_zip (s:={s1 with heap:=h'}) zz ?_
   have I2:Inv X pins σ H1 {s1 with heap:=h'}:=I1.kept (t':=s1.toks) kp
   have fr:∀c,s1.heap.objs.size≤c→EK X pins H1 c:=fun c hc=>I1.fpOk hc (I1.hok.fresh hc)
   have m0:s1.heap.objs.size≠s1.heap.objs.size+4:=By (by omega)
   have ap:Eu (s1.heap.objs.size+4) (s1.heap.objs.size+2) (s1.heap.objs.size+3) s1.heap.objs.size (s1.heap.objs.size+1) [s1.heap.objs.size,t] [s1.heap.objs.size+1,u]:=by
    generalize s1.heap.objs.size=n at lt1 lt2
    exact ⟨By (by omega),By (by omega),By (by omega),By (by omega),By (by omega),Bj (by omega),Bj (by omega),Bj (by omega),Bj (by omega),By (by omega),
     fun z=>by simp only [qa5,Cg,or_false] at z;rcases z with z |z;exact absurd z (Bj (by omega));exact absurd z (Bj (A1 lt1 (CQ _ _))),
     fun z=>by simp only [qa5,Cg,or_false] at z;rcases z with z |z;exact absurd z (Bj (by omega));exact absurd z (Bj (A1 lt2 (CQ _ _))),
     fun z=>by simp only [qa5,Cg,or_false] at z;rcases z with z |z;exact absurd z (Bj (by omega));exact absurd z (Bj (A1 lt1 (CQ _ _))),
     fun z=>by simp only [qa5,Cg,or_false] at z;rcases z with z |z;exact absurd z (Bj (by omega));exact absurd z (Bj (A1 lt2 (CQ _ _))),
     fun z=>by simp only [qa5,Cg,or_false] at z;rcases z with z |z;exact absurd z (By (by omega));exact absurd z (Bj lt2),
     fun z=>by simp only [qa5,Cg,or_false] at z;rcases z with z |z;exact absurd z (Bj (by omega));exact absurd z (Bj (A1 lt1 (CQ _ _)))⟩
   refine ⟨s1.heap.objs.size+4,[s1.heap.objs.size+4,s1.heap.objs.size+2,s1.heap.objs.size+3,s1.heap.objs.size,s1.heap.objs.size+1],_,_,H1,rfl,I2,Yq k1 k2 _ _ _ _ _ t u ap (Cs lt1) (Cs (Jo lt2)),⟨zz,zi,⟨_,_,zo⟩,x1,x2⟩,fun c hc=>?_,q⟩
   simp only [qa5,Cg,or_false] at hc
   rcases hc with rfl |rfl |rfl |rfl |rfl
   ·exact fr _ (CQ _ _)
   ·exact fr _ (CQ _ _)
   ·exact fr _ (CQ _ _)
   ·exact fr _ (AG _)
   ·exact fr _ (CQ _ _)
def Dy (xs ys:List D):List D:=List.zipWith (fun a b=>.tup [a,b]) xs ys
def Fm:D→HD→Option (List D×Bc)
 |.tup xs,_=>some (xs,[])
 |.loc l,h=>match h[l]? with
  |some (.lst xs)=>some (xs,[(l,xs)])
  |_=>none
 |_,_=>none
def Hc:List D→HD→Out (List D×Bc):=fun ds h=>match ds with
 |[x,y]=>match Fm x h,Fm y h with
  |some (xs,s1),some (ys,s2)=>.ok (Dy xs ys,s1++s2) h
  |_,_=>.stuck
 |_=>.stuck
def Hd (fa:MA):MI:=fun ρ h=>(fa ρ h).bind Hc
theorem Lz {m:List Addr} {h:HD} {d:D} {v:V} {H:Hp} {xs:List D} {sr:Bc} (hr:HR X.K m h H) (r:DV X.K m H d v) (e:Fm d h=some (xs,sr)):
 ∃k t,v=.ref t∧∀m2 h2 H2,m <+:m2→Kp H H2→HR X.K m2 h2 H2→(∀p∈sr,h2[p.1]?=some (.lst p.2))→∃vs,DK k X.K H2 t vs∧DVs X.K m2 H2 xs vs:=by
 cases d with
 |tup zs=>
  simp only [Fm,Option.some.injEq,Prod.mk.injEq] at e
  obtain ⟨rfl,rfl⟩:=e
  simp only [DV] at r
  obtain ⟨a,vs,rfl,ha,dv⟩:=r
  exact ⟨true,a,rfl,fun m2 h2 H2 p2 k2 hr2 _=>⟨vs,SqT.of (k2 _ _ ha rfl),dv.keep p2 k2⟩⟩
 |loc l=>
  simp only [Fm] at e
  split at e
  ·rename_i zs el
   simp only [Option.some.injEq,Prod.mk.injEq] at e
   obtain ⟨rfl,rfl⟩:=e
   simp only [DV] at r
   obtain ⟨a,rfl,ha⟩:=r
   refine ⟨false,a,rfl,fun m2 h2 H2 p2 k2 hr2 hs=>?_⟩
   obtain ⟨ws,hw,dw⟩:=hr2.cells l _ a (hs _ Bf) (JB p2 ha)
   exact ⟨ws,SqL.of hw,dw⟩
  ·cases e
 |_=>simp [Fm] at e
theorem LA {h:HD} {d:D} {xs:List D} {sr:Bc} (e:Fm d h=some (xs,sr)):∀p∈sr,h[p.1]?=some (.lst p.2):=by
 cases d with
 |tup zs=>
  simp only [Fm,Option.some.injEq,Prod.mk.injEq] at e
  obtain ⟨rfl,rfl⟩:=e
  exact fun p hp=>nomatch hp
 |loc l=>
  simp only [Fm] at e
  split at e
  ·rename_i zs el
   simp only [Option.some.injEq,Prod.mk.injEq] at e
   obtain ⟨rfl,rfl⟩:=e
   intro p hp
   rw [qaA] at hp
   subst hp
   exact el
  ·cases e
 |_=>simp [Fm] at e
theorem RC {elts:List Expr} {kt:Nat} {tpos p pos:Pos} {a b:Expr} {fa:MA} (hg:Gl X "zip") (hm:X.mg "zip"=none) (ha:Dj X E [a,b] fa) (hs:starEach [a,b] X.env=[(false,eval a X.env),(false,eval b X.env)]:=by rfl) (hs2:starEach [b] X.env=[(false,eval b X.env)]:=by rfl):
 Gk X E (.Tuple elts kt tpos) (.Call (.Name "zip" p) [a,b] [] pos) (Hd fa):=
 JN (Ys hg hm ha hs hs2) fun σ H R ⟨m,ρ,h,hr,er,p⟩=>⟨m,ρ,h,hr,er,Post.bind p fun x h1 v m1 H1 eo p1 k1 hr1 r1 q1=>by
  clear eo
  unfold Hc at q1
  split at q1
  ·rename_i d1 d2
   split at q1
   ·rename_i xs s1 ys s2 e1 e2
    simp only [Fg,DVs] at r1
    obtain ⟨v1,w1,rfl,rv1,v2,w2,rfl,rv2,rfl⟩:=r1
    obtain ⟨kd1,t,rfl,f1⟩:=Lz hr1 rv1 e1
    obtain ⟨kd2,u,rfl,f2⟩:=Lz hr1 rv2 e2
    obtain ⟨vs1,sq1,_⟩:=f1 m1 h1 H1 (AC _) (.refl _) hr1 (LA e1)
    obtain ⟨vs2,sq2,_⟩:=f2 m1 h1 H1 (AC _) (.refl _) hr1 (LA e2)
    refine ⟨kd1,kd2,t,u,vs1,vs2,rfl,sq1,sq2,q1 _ m1 H1 (AC _) (.refl _) hr1 fun i m2 h2 H2 p2 k2 hr2 hsr=>?_⟩
    obtain ⟨ws1,sw1,dw1⟩:=f1 m2 h2 H2 p2 k2 hr2 fun p hp=>hsr p (CG _ hp)
    obtain ⟨ws2,sw2,dw2⟩:=f2 m2 h2 H2 p2 k2 hr2 fun p hp=>hsr p (BI _ hp)
    have n1:=dw1.len
    have n2:=dw2.len
    have nl:(Dy xs ys).length=min xs.length ys.length:=by simp [Dy]
    refine ⟨fun hi=>?_,fun hi=>⟨ws1,ws2,sw1,sw2,by dsimp only at hi;omega⟩⟩
    dsimp only at hi
    have i1:i<xs.length:=by omega
    have i2:i<ys.length:=by omega
    refine ⟨⟨ws1,ws2,sw1,sw2,by omega,by omega⟩,fun y H3 z3_=>?_⟩
    obtain ⟨pp,vv,vv',hp,ey,ev,ev',eH⟩:=z3_
    subst ey eH
    have g1:xs[i]?=some xs[i]:=Ba i1
    have g2:ys[i]?=some ys[i]:=Ba i2
    obtain ⟨c1,z1,r1'⟩:=dw1.get g1
    obtain ⟨c2,z2,r2'⟩:=dw2.get g2
    rw [ev ws1 sw1] at z1
    rw [ev' ws2 sw2] at z2
    cases z1
    cases z2
    refine ⟨.new hp,hr2.new hp,.tup [xs[i],ys[i]],?_,?_⟩
    ·simp [Dy,List.getElem?_zipWith,g1,g2]
    ·simp only [DV]
     exact ⟨pp,_,rfl,B9,.cons (DV.keep (AC _) (.new hp) r1') (.cons (DV.keep (AC _) (.new hp) r2') .nil)⟩
   ·exact q1.elim
  ·exact q1.elim⟩
end
end LS
namespace LS
open PySem PySem.Spec PyProof.Rows L2
section
variable {ρ:Ai} {h:HD} {QI:(List D×Bc)→HD→Prop} {Q:D→HD→Prop} {QO:Option Int→HD→Prop} {QS:Fl×Ai→HD→Prop} {f fo fi fv:ME} {lo hi:MO} {fa:MA}
@[simp] theorem ZeP:Wp (Ry fa ρ h) QI=Wp (fa ρ h) fun d h1=>Wp (Rx d h1) QI:=by unfold Ry;rw [AE]
@[simp] theorem ZeQ:Wp (Hd fa ρ h) QI=Wp (fa ρ h) fun d h1=>Wp (Hc d h1) QI:=by unfold Hd;rw [AE]
@[simp] theorem ZeR:Wp (Rr f lo hi ρ h) Q=Wp (f ρ h) fun x h1=>Wp (lo ρ h1) fun l h2=>Wp (hi ρ h2) fun u h3=>Wp (Rq x l u h3) Q:=by unfold Rr;simp only [AE]
@[simp] theorem ZeS:Wp (Bh ρ h) QO=QO none h:=id rfl
@[simp] theorem ZeT:Wp (Bd f ρ h) QO=Wp (f ρ h) fun x h1=>Wp (match x with
  |.int i=>(.ok (some i) h1:Out (Option Int))
  |_=>.stuck) QO:=by unfold Bd;rw [AE]<;>rfl
@[simp] theorem ZeU:Wp (Rv fo fi fv ρ h) QS=Wp (fo ρ h) fun o h1=>Wp (fi ρ h1) fun i h2=>Wp (Ru o i h2) fun x h3=>Wp (fv ρ h3) fun y h4=>Wp (Rt o i x y ρ h4) QS:=by unfold Rv;simp only [AE]
theorem IV {l:Nat} {ds:List D} (e:h[l]?=some (.lst ds)):GZ (.loc l) h=.ok (ds,[(l,ds)]) h:=by
 simp only [GZ,BQ,e,QC]
theorem RD {l:Nat} {ds:List D} (e:h[l]?=some (.lst ds)):CB (.loc l) h=.ok (.int ds.length) h:=by
 simp only [CB,BQ,e]
end
noncomputable def N8 (cs:List (Option Nat)) (it:MI) (sg:MG) (t:MT) (f:ME):ME:=Ah (AB IF) (Aa (A5 cs it sg t f) Ae)
noncomputable def Yt (F:List Int→Int) (cs:List (Option Nat)) (it:MI) (sg:MG) (t:MT) (f:ME):ME:=Ah (AB (Rw F)) (Aa (A5 cs it sg t f) Ae)
section
variable {α:Type} {cs:List (Option Nat)} {it:MI} {sg:MG} {t:MT} {f:ME} {ρ:Ai} {h:HD} {src:Bc} {xs:List α} {φ:α→D} {F:List Int→Int}
@[simp] theorem ZeV:Ah (AB IF) (Aa (A5 cs it sg t f) Ae) ρ h=N8 cs it sg t f ρ h:=rfl
@[simp] theorem ZeW:Ah (AB (Rw F)) (Aa (A5 cs it sg t f) Ae) ρ h=Yt F cs it sg t f ρ h:=rfl
theorem Yu (n:α→Int) (ρ1:α→Ai) (hi:G8 (it ρ h) h (xs.map φ) src) (hg:∀x∈xs,sg (φ x) (CK cs ρ)=some (ρ1 x)) (hf:∀x∈xs,∀h',Sm h h'→Pu (f (ρ1 x) h') h' (.int (n x))) (hn:xs.length≤sizeLine):
 Pu (N8 cs it sg BX f ρ h) h (.int (xs.map n).sum):=by
 unfold Pu N8
 rw [JS,G6]
 refine EZ (fun _=>true) (fun x=>.int (n x)) ρ1 hi hn hg (fun x hx h' s'=>(.ok:Pu (.ok true h') h' true)) (fun x hx _ h' s'=>hf x hx h' s') fun l h' s' e'=>?_
 rw [Gp] at e'
 rw [IP]
 simp only [AB,IF,BQ,e',Cq]
 rw [IQ (f:=G3∘fun x=>D.int (n x)) (g:=n) (fun x _=>rfl)]
 exact ⟨rfl,s'⟩
end
def Gs (t:MT) (g:MS):Nat→MS
 |0=>fun _ _=>.stuck
 |n+1=>fun ρ h=>(t ρ h).bind fun b h1=>if b=true then (g ρ h1).bind (fun x h2=>match x with
   |(.nx,ρ2)=>Gs t g n ρ2 h2
   |(.ct,ρ2)=>Gs t g n ρ2 h2
   |(.bk,ρ2)=>.ok (.nx,ρ2) h2
   |(.rt d,ρ2)=>.ok (.rt d,ρ2) h2) else .ok (.nx,ρ) h1
def LC (t:MT) (g:MS):MS:=Gs t g 100000
section
variable {X:Cx} {E:XK}
theorem Yv {c:Expr} {body:List Stmt} {t:MT} {g:MS} {pos:Pos} (hp:PassesOwn (model X.prog X.w) X.A X.env X.xe) (hc:DF X E c t) (hb:A8 X E body g):Ex X E (.While c body [] pos) (LC t g):=by
 refine EO (Vp hp hc hb) fun Dn σ H z1_=>?_
 obtain ⟨m,ρ,h,hr,er,p⟩:=z1_
 unfold LC at p
 generalize (100000:Nat)=N at p
 refine ⟨fun n σ H=>∃m ρ h,HR X.K m h H∧ER X.K m H ρ σ∧PostS X.K m H E Dn (Gs t g n ρ h),⟨N,m,ρ,h,hr,er,p⟩,?_⟩
 rintro n σ H ⟨m,ρ,h,hr,er,p⟩
 cases n with
 |zero=>exact p.elim
 |succ n=>
  unfold Gs at p
  refine ⟨m,ρ,h,hr,er,PostS.bind p fun b h1 v m1 H1 eo p1 k1 hr1 r1 q1=>?_⟩
  clear eo
  cases r1
  cases b with
  |false=>
   rw [if_neg BE] at q1 ⊢
   exact (q1.here hr1) σ (er.keep p1 k1)
  |true=>
   rw [if_pos rfl] at q1 ⊢
   refine ⟨fun σ' H'=>∃m ρ h,HR X.K m h H'∧ER X.K m H' ρ σ'∧PostS X.K m H' E Dn (Gs t g n ρ h),fun σ' H' z=>⟨n,Jq _,z⟩,m1,ρ,h1,hr1,er.keep p1 k1,?_⟩
   cases o:g ρ h1 with
   |stuck=>rw [o] at q1;exact q1
   |err C fs h5=>rw [o] at q1;exact q1
   |ok z h5=>
    rw [o] at q1
    obtain ⟨fl,ρ5⟩:=z
    intro m5 H5 p5 k5 hr5
    cases fl with
    |nx=>exact fun σ5 er5=>⟨m5,ρ5,h5,hr5,er5,PostS.ahead p5 k5 q1⟩
    |ct=>exact fun σ5 er5=>⟨m5,ρ5,h5,hr5,er5,PostS.ahead p5 k5 q1⟩
    |bk=>exact fun σ5 er5=>q1 m5 H5 p5 k5 hr5 σ5 er5
    |rt d=>exact fun v rv=>q1 m5 H5 p5 k5 hr5 v rv
end
theorem N9 {t:MT} {g:MS} {Q:Fl×Ai→HD→Prop} (I:Nat→Ai→HD→Prop)
 (step:∀m ρ h,I m ρ h→Wp (t ρ h) fun b h1=>if b=true then Wp (g ρ h1) (B2 (fun ρ2 h2=>∃m',m' < m∧I m' ρ2 h2) Q) else Q (.nx,ρ) h1):∀(n m:Nat) (ρ:Ai) (h:HD),m<n→I m ρ h→Wp (Gs t g n ρ h) Q
 |0,m,ρ,h,hm,_=>by omega
 |n+1,m,ρ,h,hm,i=>by
  unfold Gs
  rw [AE]
  refine Wp.mono (step m ρ h i) fun b h1 w=>?_
  cases b with
  |false=>rw [if_neg BE] at w ⊢;exact w
  |true=>
   rw [if_pos rfl] at w ⊢
   rw [AE]
   refine Wp.mono w fun x h2 k=>?_
   obtain ⟨fl,ρ2⟩:=x
   cases fl with
   |nx=>obtain ⟨m',h1,h2⟩:=k;exact N9 I step n m' _ _ (by omega) h2
   |ct=>obtain ⟨m',h1,h2⟩:=k;exact N9 I step n m' _ _ (by omega) h2
   |bk=>exact k
   |rt d=>exact k
theorem Yw {t:MT} {g:MS} {ρ:Ai} {h:HD} {Q:Fl×Ai→HD→Prop} (I:Nat→Ai→HD→Prop) (m:Nat) (hm:m<100000) (i:I m ρ h)
 (step:∀m ρ h,I m ρ h→Wp (t ρ h) fun b h1=>if b=true then Wp (g ρ h1) (B2 (fun ρ2 h2=>∃m',m' < m∧I m' ρ2 h2) Q) else Q (.nx,ρ) h1):Wp (LC t g ρ h) Q:=
 N9 I step _ m ρ h hm i
section
variable {X:Cx}
def RE:D→HD→Out D:=fun x h=>match x with
 |.loc l=>match h[l]? with
  |some (.lst ds)=>match AS (ds.map IG) with
   |some bs=>.ok (.bl (bs.any id)) h
   |none=>.stuck
  |_=>.stuck
 |_=>.stuck
end
noncomputable def Yx (cs:List (Option Nat)) (it:MI) (sg:MG) (t:MT) (f:ME):ME:=Ah (AB RE) (Aa (A5 cs it sg t f) Ae)
section
variable {α:Type} {cs:List (Option Nat)} {it:MI} {sg:MG} {t:MT} {f:ME} {ρ:Ai} {h:HD} {src:Bc} {xs:List α} {φ:α→D}
@[simp] theorem ZeX:Ah (AB RE) (Aa (A5 cs it sg t f) Ae) ρ h=Yx cs it sg t f ρ h:=rfl
end
end LS
namespace LK
open LS
def Yy (n:Nat) (r:Nat→Bool):Int:=((List.range n).map fun j=>if r j then (1:Int) else 0).sum
def cc (H:Nat) (f:Nat→Nat→Bool) (R:Nat→Bool) (j:Nat):Int:=Yy H fun i=>Bool.xor (f i j) (R i)
def Yz (W:Nat) (H:Int) (c:Nat→Int) (C:Nat→Bool):Int:=((List.range W).map fun j=>if C j then H - c j else c j).sum
def YA (W:Nat) (H:Int) (c:Nat→Int):Int:=((List.range W).map fun j=>if H - c j<c j then H - c j else c j).sum
def TT (H W:Nat) (f:Nat→Nat→Bool) (R C:Nat→Bool):Int:=Yz W H (cc H f R) C
def ext (n:Nat) (R:Nat→Bool):Nat→Bool:=fun i=>if i=n then true else R i
def LL (s:Nat):Nat→List (Nat→Bool)
 |0=>[fun _=>false]
 |k+1=>LL s k++(LL s k).map (ext (s+k))
theorem LD {s:Nat}:∀{k:Nat} {R:Nat→Bool},R∈LL s k→∀i,i<s∨s+k≤i→R i=false
 |0,R,h,i,_=>by
  simp only [LL,qaA] at h
  subst h;rfl
 |k+1,R,h,i,hi=>by
  rcases qaK.mp h with z |z
  ·exact LD z i (by omega)
  ·obtain ⟨R',z1,rfl⟩:=qaL.mp z
   unfold ext
   rw [if_neg (by omega)]
   exact LD z1 i (by omega)
theorem RF {s:Nat} (R:Nat→Bool):∀k:Nat,∃R'∈LL s k,∀i,s≤i→i<s+k→R' i=R i
 |0=>⟨_,Bf,fun i h1 h2=>by omega⟩
 |k+1=>by
  obtain ⟨R',h1,h2⟩:=RF R k
  cases e:R (s+k) with
  |false=>
   refine ⟨R',CG _ h1,fun i hi hi2=>?_⟩
   by_cases hz:i=s+k
   ·rw [hz,e];exact LD h1 _ (by omega)
   ·exact h2 i hi (by omega)
  |true=>
   refine ⟨ext (s+k) R',BI _ (qaL.mpr ⟨R',h1,rfl⟩),fun i hi hi2=>?_⟩
   unfold ext
   by_cases hz:i=s+k
   ·rw [if_pos hz,hz,e]
   ·rw [if_neg hz];exact h2 i hi (by omega)
theorem RG {s:Nat}:∀k,(LL s k).length=2^k
 |0=>rfl
 |k+1=>by simp only [LL,EJ,BJ,RG k];omega
def ZeY (H W:Nat) (f:Nat→Nat→Bool):Int:=Yl ((LL 1 (H - 1)).map fun R=>YA W H (cc H f R))
def YB (L:List Int) (k:Int):Int:=(L.map fun x=>if x=k then (1:Int) else 0).sum
def hk (H W:Nat) (f:Nat→Nat→Bool) (k:Int) (R:Nat→Bool):Int:=YB ((LL 0 W).map (TT H W f R)) k
def NN (H W:Nat) (f:Nat→Nat→Bool) (k:Int):Int:=((LL 1 (H - 1)).map (hk H W f k)).sum
theorem YC {n:Nat} (C:Nat→Bool):∃C'∈LL 0 n,∀j,j<n→C' j=C j:=by
 obtain ⟨C',h1,h2⟩:=RF (s:=0) C n
 exact ⟨C',h1,fun j hj=>h2 j (by omega) (by omega)⟩
end LK
namespace LS
open PySem PySem.Spec PyProof.Rows L2 PySem.W
structure EC (K:Frag) (C:Addr):Prop where
 ga:findIn K (.ref C) "__getattribute__"=some (some (.builtin "BaseException.__getattribute__"))
 gt:findIn K (.ref C) "__getattr__"=some none
 cl:(clsIn K C).isSome=true
 ac:findIn K (.ref C) "__class__"=some (some (.builtin "object.__class__"))
 sg:specialIn K (.builtin "object.__class__") "__get__"=some (some (.builtin "getset_descriptor.__get__"))
 tk:takesIn K (.builtin "object.__class__")=some true
 mo:mroIn K C (.type "object")=some true
 mb:mroIn K C (.type "BaseException")=some true
section
variable {prog:Program} {w:World} {A:Around} {E:Value→Shared→Prop} {s:Shared} {K:Frag} {x C:Addr} {ox:Obj} {od:Option Obj}
def TyAt (x C:Addr) (h:Heap):Prop:=∃o,h.get? x=some o∧o.cls=.ref C
theorem TyAt.type {M:Model} {h:Heap} (t:TyAt x C h):Looks M h (typeOf (.ref x)) (.ref C):=by
 obtain ⟨o,h1,h2⟩:=t
 exact h2 ▸ (Looks.ld h1).andThen .now
theorem YD {M:Model} {h:Heap} (c:EC K C) (X:K.In h):Looks M h (Builtin.ObjectAttr.find (.ref x) (.ref C) "__class__") (.bind (.builtin "getset_descriptor.__get__") (.builtin "object.__class__")):=by
 have L1:=looks_findIn (M:=M) X c.ac
 have L2:Looks M h (Builtin.ObjectAttr.getOf (some (.builtin "object.__class__"))) (some (.builtin "getset_descriptor.__get__")):=looks_specialIn X c.sg
 have L3:=looks_takesIn (M:=M) X c.tk
 refine L1.andThen (L2.andThen ?_)
 exact (show Looks M h (Builtin.ObjectAttr.dataDescriptor? (some (.builtin "object.__class__")) (some (.builtin "getset_descriptor.__get__"))) (some (.builtin "getset_descriptor.__get__",.builtin "object.__class__")) from L3.andThen .now).andThen (Looks.tag .now)
theorem YE {R:Result→Shared→Prop} {tp:Value} (X:K.In s.heap) (I:TyAt x C s.heap) (hm:mroIn K C (.type "object")=some true)
 (h:R (.ok (.ret (.ref C))) s):codeAny (model prog w) A (.call (.builtin "getset_descriptor.__get__") ⟨[.builtin "object.__class__",.ref x,tp],[]⟩) R s:=by
 obtain ⟨hh,g,dr,t,os⟩:=s
 have L0:=I.type (M:=model prog w)
 have L1:=looks_mroIn (M:=model prog w) X hm
 refine codeAny_call_builtin KF.slot_gs.plain KF.entry_gs (KF.slot_gs.check _ _ _ _ _ _ _ _ KF.type_class (KF.args_gs _ _ _) ?_)
 unfold Builtin.«getset_descriptor.__get__» Builtin.Getset_descriptor.descrGet
 rw [dga_obj]
 refine wpAny_bind (wpAny_pure ?_)
 unfold Builtin.Getset_descriptor.descrGetter Builtin.Getset_descriptor.descrCheckInstance Builtin.Getset_descriptor.descrNameAndClass isInstance
 simp only [KF.owner_class]
 repeat lk
 refine ⟨Code.quiet_builtin _ (by decide +kernel),codeAny_builtin KF.entry_class ?_⟩
 unfold Builtin.«object.__class__» shownTypeOf
 repeat lk
 exact h
theorem YF {Q:Option Value→Shared→Prop} (c:EC K C) (X:K.In s.heap) (I:TyAt x C s.heap) (h:Q (some (.ref C)) {s with toks:=s.toks+1}):wpAny (model prog w) A (getAttr? (.ref x) "__class__") Q E s:=by
 obtain ⟨hh,g,d,t,os⟩:=s
 have L0:=I.type (M:=model prog w)
 have L1:=looks_findIn (M:=model prog w) X c.ga
 have L2:=looks_findIn (M:=model prog w) X c.gt
 have LF:=YD (M:=model prog w) (x:=x) c X
 have LB:=looks_mroIn (M:=model prog w) X c.mb
 have ha:=F.args_bexc_ga (.ref x) (.str "__class__" t)
 have hk:builtinKind "BaseException.__getattribute__"=some .slot:=by decide +kernel
 have hsplit:splitId "BaseException.__getattribute__"=some ("BaseException","__getattribute__"):=by decide +kernel
 have hx2:(Value.builtin "BaseException.__getattribute__"==Value.builtin "object.__getattribute__")=false:=by decide +kernel
 have hx1:(onTheHeap (Value.ref C)&&Value.builtin "BaseException.__getattribute__"==Value.builtin "object.__getattribute__")=false:=by rw [hx2];rfl
 unfold getAttr? getAttrBy? getAttrBy
 refine wpAny_bind (wpAny_mkText (wpAny_bind (wpAny_attempt (wpAny_holding (wpAny_bind (L0.at (wpAny_bind (L1.at ?_))))))))
 dsimp only
 rw [hx1]
 simp only [Dv,if_false]
 unfold getAttrByItsOwn hookBefore
 refine wpAny_bind ?_
 show wpAny _ _ (typeLookup (.ref C) "__getattr__") _ _ _
 refine L2.at ?_
 refine wpAny_bind (wpAny_attempt (wpAny_holding ?_))
 unfold callGetattribute boundAndCalled
 simp only [Jt,Dv,if_false]
 rw [PySem.F.attr_ValueError.ga.bind (.ref x)]
 refine wpAny_bind (wpAny_pure (wpAny_call (codeAny_call_builtin PySem.F.attr_ValueError.ga.plain F.entry_bexc_ga ?_)))
 simp only [checkBuiltinCall,hk,hsplit]
 refine wpAny_bind ?_
 unfold isInstance
 refine wpAny_bind (L0.at (LB.at ?_))
 wp_step
 unfold Builtin.«object.__getattribute__»
 repeat lk
 refine wpAny_run (YE (s:=⟨hh,g,d,t+1,os⟩) X I c.mo ?_) (by intro z;cases z)
 refine wpAny_pure (wpAny_pure ?_)
 exact handed_on rfl (wpAny_pure h)
theorem YG (c:EC K C):KitX K (.ref x) (.ref C) (TyAt x C) where
 ty:=fun _ _ _ I=>I.type
 it:=fun _ _ X _=>by
  obtain ⟨cdD,hcD⟩:=qbY.mp c.cl
  unfold clsIn at hcD
  split at hcD
  ·rename_i c' d' cd' sl' ho
   intro A' Q' E' s' k q
   unfold isType loadHead
   exact wpAny_bind (wpAny_loadPart (k _ _ (X _ _ ho)) (wpAny_pure q))
  ·cases hcD
 ne:=fun h tp dd its n sl X htp=>by
  obtain ⟨cdD,hcD⟩:=qbY.mp c.cl
  refine Bool.eq_false_iff.mpr fun q=>?_
  have e:C=tp:=Value.ref.inj (beq_iff_eq.mp q)
  subst e
  unfold clsIn at hcD
  split at hcD
  ·rename_i c' d' cd' sl' ho
   have z:=(X _ _ ho).symm.trans htp
   cases z
  ·cases hcD
 ca:=fun X I k=>YF c X I k
end
def excNames:List Str:=["NoBoard","NoLine","NoSwitching","NoNumber","Unlike","NoNet","NoPlace","NoText","NoRow","TooMany","SwitchError"]
def B3 (n n':Str):Bool:=n==n'||n'=="SwitchError"
def Oa (K:Frag) (C:Addr):Bool:=
 findIn K (.ref C) "__getattribute__"==some (some (.builtin "BaseException.__getattribute__"))&&findIn K (.ref C) "__getattr__"==some none&&(clsIn K C).isSome&&
 findIn K (.ref C) "__class__"==some (some (.builtin "object.__class__"))&&specialIn K (.builtin "object.__class__") "__get__"==some (some (.builtin "getset_descriptor.__get__"))&&
 takesIn K (.builtin "object.__class__")==some true&&mroIn K C (.type "object")==some true&&mroIn K C (.type "BaseException")==some true
theorem YH {K:Frag} {C:Addr} (h:Oa K C=true):EC K C:=by
 unfold Oa at h
 simp only [Cp,beq_iff_eq] at h
 obtain ⟨⟨⟨⟨⟨⟨⟨h1,h2⟩,h3⟩,h4⟩,h5⟩,h6⟩,h7⟩,h8⟩:=h
 exact ⟨h1,h2,h3,h4,h5,h6,h7,h8⟩
def Fo (K:Frag) (n:Str):Option Addr:=match nsIn K mainGlobals n with
 |some (some (.ref C))=>some C
 |_=>none
theorem RH {K:Frag} {n:Str} {C:Addr} (h:Fo K n=some C):nsIn K mainGlobals n=some (some (.ref C)):=by
 unfold Fo at h
 split at h
 ·rename_i e;cases h;exact e
 ·cases h
def Ob (K:Frag) (n:Str) (C S:Addr):Bool:=
 Oa K C&&kitOne K (.ref C) (.type "ValueError")==some true&&(n=="TooMany"||N6 K C JV "ValueError.__new__")&&exmOne K (.ref C) (.ref S)==some true&&
  excNames.all fun n'=>match Fo K n' with
   |some C'=>kitOne K (.ref C) (.ref C')==some (B3 n n')
   |none=>false
def etOk (K:Frag):Bool:=match Fo K "SwitchError" with
 |some S=>excNames.all fun n=>match Fo K n with
  |some C=>Ob K n C S
  |none=>false
 |none=>false
structure ET (K:Frag) (n:Str) (C:Addr):Prop where
 ec:EC K C
 ve:kitOne K (.ref C) (.type "ValueError")=some true
 at_:n≠"TooMany"→N5 K C JV "ValueError.__new__"
 sw:∀S,nsIn K mainGlobals "SwitchError"=some (some (.ref S))→exmOne K (.ref C) (.ref S)=some true
 sub:∀n' C',n'∈excNames→nsIn K mainGlobals n'=some (some (.ref C'))→kitOne K (.ref C) (.ref C')=some (B3 n n')
theorem LG {K:Frag} (h:etOk K=true) {n:Str} {C:Addr} (hn:n∈excNames) (hC:nsIn K mainGlobals n=some (some (.ref C))):ET K n C:=by
 unfold etOk at h
 split at h
 ·rename_i S hS
  have h1:=qaT.mp h n hn
  have e:Fo K n=some C:=by unfold Fo;rw [hC]
  rw [e] at h1
  have h1:Ob K n C S=true:=h1
  unfold Ob at h1
  simp only [Cp,beq_iff_eq,Bool.or_eq_true] at h1
  obtain ⟨⟨⟨⟨a1,a2⟩,a3⟩,a4⟩,a5⟩:=h1
  refine ⟨YH a1,a2,fun z=>Yj (a3.resolve_left z),fun S' hS'=>?_,fun n' C' hn' hC'=>?_⟩
  ·have:=RH hS
   rw [this] at hS'
   cases hS'
   exact a4
  ·have z:=qaT.mp a5 n' hn'
   have e':Fo K n'=some C':=by unfold Fo;rw [hC']
   rw [e'] at z
   exact beq_iff_eq.mp z
 ·cases h
section
variable {X:Cx} {E:XK}
theorem YI {x:Str} {a:Addr} {pos:Pos} (hg:Gl X x) (hn:nsIn X.K mainGlobals x=some (some (.ref a))) (hd:(x==("__debug__":Str))=false:=by decide):Ev X E (.Name x pos) (mC (.glo x)):=
 fun pins s σ H Q I z1_=>by obtain ⟨m,ρ,h,hr,er,p⟩:=z1_;exact (Ij I hg (mg_of I.mod.kin I.mod.glob hn) ⟨.ref a,H,I,rfl,p (.ref a) m H (AC _) (.refl _) hr (by simp only [rD,DV];exact ⟨a,rfl,hn⟩)⟩ hd)
def Gu {α:Type}:Out α→Prop
 |.err _ _ _=>False
 |_=>True
theorem Post.noE {α β:Type} {K:Frag} {R:List Addr→Hp→α→β→Prop} {m:List Addr} {H:Hp} {E E':XK} {Q:β→Hp→Prop} {o:Out α} (n:Gu o) (h:Post K R m H E Q o):Post K R m H E' Q o:=by
 cases o with
 |ok a h1=>exact h
 |err C fs h1=>exact False.elim n
 |stuck=>exact h
theorem RI {f:Value} {F:List D→HD→Out D} (hF:∀ds h,Gu (F ds h))
 (hc:∀(pins:List (Addr×Obj)) (s:Shared) (σ:L2.St) (H:Hp) (m:List Addr) (h:HD) (ds:List D) (vs:List V) (us:List Value) (Q:VK),Inv X pins σ H s→HR X.K m h H→DVs X.K m H ds vs→Vals vs us→Post X.K (rD X.K) m H E0 Q (F ds h)→
  wpAny (model X.prog X.w) X.A (call f us) (EP X pins σ Q) X.xe s):DG X f F:=
 ⟨fun vs H Q=>∃m h ds,HR X.K m h H∧DVs X.K m H ds vs∧Post X.K (rD X.K) m H E0 Q (F ds h),fun pins s σ H vs us Q I r z2_=>by obtain ⟨m,h,ds,hr,rd,q⟩:=z2_;exact (hc pins s σ H m h ds vs us Q I hr rd r q),fun m H h E ds vs Q hr rd q=>⟨m,h,ds,hr,rd,Post.noE (hF ds h) q⟩⟩
def AX:D→D→HD→Out D:=fun x y h=>match x with
 |.exc n _=>(match y with
  |.glo n'=>if n∈excNames∧n'∈excNames then .ok (.bl (B3 n n')) h else .stuck
  |.ty T=>if n∈excNames∧T="ValueError" then .ok (.bl true) h else .stuck
  |_=>.stuck)
 |.edic=>(match y with
  |.ty T=>(match Li "dict" T with
   |some b=>.ok (.bl b) h
   |none=>.stuck)
  |_=>.stuck)
 |_=>BY x y h
theorem YJ (pins:List (Addr×Obj)) (s:Shared) (σ:L2.St) (H:Hp) (m:List Addr) (h:HD) (x y:D) (v v':V) (u u':Value) (Q:VK) (I:Inv X pins σ H s) (hr:HR X.K m h H) (rx:DV X.K m H x v) (ry:DV X.K m H y v') (r:RelV v u) (r':RelV v' u')
 (q:Post X.K (rD X.K) m H E0 Q (BY x y h)):wpAny (model X.prog X.w) X.A (call (.builtin "isinstance") [u,u']) (EP X pins σ Q) X.xe s:=by
 unfold BY at q
 split at q
 ·rename_i T t et
  split at q
  ·rename_i b eb
   simp only [DV] at ry
   subst ry
   cases (show u'=Value.type T from r')
   exact VX I r (Xy hr rx et) (QV eb) fun tk=>⟨.bl b,H,I.tok _,rfl,Bm hr q (by simp [DV])⟩
  ·exact q.elim
 ·exact q.elim
theorem Df (et:etOk X.K=true):DG X (.builtin "isinstance") (BB AX):=by
 refine RI (fun ds h=>?_) fun pins s σ H m h ds vs us Q I hr rd r q=>two_of rd q fun x y v v' ev rx ry q=>?_
 ·unfold BB AX BY
  repeat' split
  all_goals trivial
 ·subst ev
  obtain ⟨u,u',rfl,r1,r2⟩:=KW r
  unfold AX at q
  split at q
  ·rename_i n fs
   simp only [DV] at rx
   obtain ⟨a,C,da,rfl,hC,ha,_⟩:=rx
   cases (show u=Value.ref a from r1)
   obtain ⟨⟨o,ws,ho,hcl,hdi,hdat⟩,_⟩:=(show ObjOk X.prog X.w H s.heap a (.ext (Gg C da a)) from I.hok a _ ha)
   have key:∀(c:Value) (b:Bool),EC X.K C→kitOne X.K (.ref C) c=some b→Q (.bl b) H→wpAny (model X.prog X.w) X.A (call (.builtin "isinstance") [.ref a,c]) (EP X pins σ Q) X.xe s:=by
    intro c b ec e q
    exact kia_one (YG ec) I.kIn ⟨o,ho,hcl⟩ e (fun z=>nomatch z) fun tk=>⟨.bl b,H,I.tok _,rfl,q⟩
   split at q
   ·rename_i n'
    split at q
    ·rename_i hn
     simp only [DV] at ry
     obtain ⟨C',rfl,hC'⟩:=ry
     cases (show u'=Value.ref C' from r2)
     have t:=LG et hn.1 hC
     exact key _ _ t.ec (t.sub n' C' hn.2 hC') (Bm hr q (by simp [DV]))
    ·exact q.elim
   ·rename_i T
    split at q
    ·rename_i hn
     simp only [DV] at ry
     subst ry
     cases (show u'=Value.type T from r2)
     obtain ⟨hn,rfl⟩:=hn
     have t:=LG et hn hC
     exact key _ _ t.ec t.ve (Bm hr q (by simp [DV]))
    ·exact q.elim
   ·exact q.elim
  ·split at q
   ·rename_i T
    split at q
    ·rename_i b eb
     simp only [DV] at rx ry
     obtain ⟨a,rfl,ha⟩:=rx
     subst ry
     cases (show u=Value.ref a from r1)
     cases (show u'=Value.type T from r2)
     obtain ⟨⟨_,o,ep,ho,hx,hd⟩,_⟩:=(show ObjOk X.prog X.w H s.heap a (.ext (Nn a)) from I.hok a _ ha)
     exact kia_one kitx_dict I.kIn ⟨o,ho,hx.1⟩ (QV eb) (fun z=>nomatch z) fun tk=>⟨.bl b,H,I.tok _,rfl,Bm hr q (by simp [DV])⟩
    ·exact q.elim
   ·exact q.elim
  ·exact YJ pins s σ H m h x y v v' u u' Q I hr rx ry r1 r2 q
end
section
variable {X:Cx} {E:XK}
def IW (chk:D→HD→Out D) (op:D→D→HD→Out D) (f g:ME):ME:=fun ρ h=>((f ρ h).bind chk).bind fun x h1=>(g ρ h1).bind fun y h2=>op x y h2
def RJ (X:Cx) (T:String) (x:V) (H:Hp):Prop:=∀(pins:List (Addr×Obj)) (σ:L2.St) (s:Shared) (u:Value),Inv X pins σ H s→RelV x u→s.TypeIs u T∧∀a,u=.ref a→∃ob,s.heap.get? a=some ob∧ob.dict=none
def YK (X:Cx) (T:String) (r:V→List V→Hp→VK→Prop) (to:TE) (t:TA):TE:=fun σ H Q=>to σ H fun x H1=>RJ X T x H1∧t σ H1 fun xs H2=>r x xs H2 Q
theorem YL {o e:Expr} {es:List Expr} {to:TE} {t:TA} {name:Str} {apos cpos:Pos} {T id:String} {r:V→List V→Hp→VK→Prop} (pa:PlainAttrs T) (slot:Slot T name id) (hty:typeOf (.builtin id)=pure (.type "method_descriptor")) (hm:KZ X id r) (ho:PE X o to) (ha:PA X (e::es) t)
 (hbase:attributeBase o name X.env (eval o X.env)=eval o X.env:=by rfl)
 (hfew:((backTo cpos (starEach (e::es) X.env)).all (fun x=>!x.1)&&(backToKw cpos (keywordEach [] X.env)).all (fun x=>x.1.isSome)
  &&decide ((e::es).length+([]:List Keyword).length+(if ([]:List Keyword).isEmpty then 0 else 1)<30))=true:=by rfl)
 (hline:(apos.endLine==cpos.line)=true:=by rfl) (hs:starEach (e::es) X.env=(false,eval e X.env)::starEach es X.env:=by rfl) (hplain:(backTo cpos (starEach es X.env)).any (·.1)=false:=by rfl):
 PE X (.Call (.Attribute o name apos) (e::es) [] cpos) (YK X T r to t):=by
 intro pins s σ H Q I h
 refine wpAny_Call_method_late hbase hfew hline rfl (AA (ho pins s σ H _ I h) fun v s1 z1_=>?_)
 obtain ⟨x,H1,I1,r1,ty,q1⟩:=z1_
 obtain ⟨h1,h2⟩:=ty pins σ s1 v I1 r1
 refine ⟨T,id,pa,slot,hty,h1,h2,?_⟩
 have hA:=ha cpos pins s1 σ H1 _ I1 q1
 rw [hs] at hA ⊢
 refine Calls.callWith_builtin (by show (false||(backTo cpos (starEach es X.env)).any (·.1))=false;rw [hplain]<;>rfl) (Calls.evalArgs_plain ?_)
 exact AA hA fun us s2 z2_=>by obtain ⟨vs,H2,I2,r2,q2⟩:=z2_;exact (hm pins s2 σ H2 x vs v us Q I2 r1 r2 q2)
structure RK (X:Cx) (T:String) (chk:D→HD→Out D):Prop where
 two:∀x h,chk x h=.ok x h∨chk x h=.stuck
 ty:∀m H h x v,HR X.K m h H→DV X.K m H x v→chk x h=.ok x h→RJ X T v H
def Oc (X:Cx) (id:String) (op:D→D→HD→Out D):Prop:=
 ∀(pins:List (Addr×Obj)) (s:Shared) (σ:L2.St) (H:Hp) (m:List Addr) (h:HD) (x y:D) (v yv:V) (u uy:Value) (Q:VK),Inv X pins σ H s→HR X.K m h H→DV X.K m H x v→DV X.K m H y yv→RelV v u→RelV yv uy→Post X.K (rD X.K) m H E0 Q (op x y h)→
  wpAny (model X.prog X.w) X.A (call (.builtin id) [u,uy]) (EP X pins σ Q) X.xe s
theorem RL {o e:Expr} {f g:ME} {name:Str} {T id:String} {chk:D→HD→Out D} {op:D→D→HD→Out D} {apos cpos:Pos} (pa:PlainAttrs T) (slot:Slot T name id) (hty:typeOf (.builtin id)=pure (.type "method_descriptor"))
 (hc:RK X T chk) (hn:∀x y h,Gu (op x y h)) (hm:Oc X id op) (ho:Ev X E o f) (he:Ev X E e g)
 (hbase:attributeBase o name X.env (eval o X.env)=eval o X.env:=by rfl)
 (hfew:((backTo cpos (starEach [e] X.env)).all (fun x=>!x.1)&&(backToKw cpos (keywordEach [] X.env)).all (fun x=>x.1.isSome)
  &&decide ([e].length+([]:List Keyword).length+(if ([]:List Keyword).isEmpty then 0 else 1)<30))=true:=by rfl)
 (hline:(apos.endLine==cpos.line)=true:=by rfl) (hs:starEach [e] X.env=(false,eval e X.env)::starEach [] X.env:=by rfl) (hplain:(backTo cpos (starEach [] X.env)).any (·.1)=false:=by rfl):
 Ev X E (.Call (.Attribute o name apos) [e] [] cpos) (IW chk op f g):=by
 have hr:KZ X id (fun v vs H Q=>∃m h x y yv,vs=[yv]∧HR X.K m h H∧DV X.K m H x v∧DV X.K m H y yv∧Post X.K (rD X.K) m H E0 Q (op x y h)):=by
  rintro pins s σ H v vs u us Q I r rs ⟨m,h,x,y,yv,ev,hr,rx,ry,q⟩
  subst ev
  obtain ⟨uy,rfl,r2⟩:=FI rs
  exact hm pins s σ H m h x y v yv u uy Q I hr rx ry r r2 q
 refine Ca (YL pa slot hty hr ho (Ad he Ag hs) hbase hfew hline hs hplain) fun σ H Q z3_=>?_
 obtain ⟨m,ρ,h,hr,er,p⟩:=z3_
 refine ⟨m,ρ,h,hr,er,?_⟩
 unfold IW at p
 rw [Out.bind_assoc] at p
 refine Post.bind p fun x h1 v m1 H1 eo p1 k1 hr1 r1 q1=>?_
 clear eo
 rcases hc.two x h1 with ec |ec
 ·rw [ec] at q1
  simp only [Out.bind_ok] at q1
  refine ⟨hc.ty m1 H1 h1 x v hr1 r1 ec,m1,ρ,h1,hr1,er.keep p1 k1,?_⟩
  have q2:Post X.K (rD X.K) m1 H1 E Q ((Aa g Ae ρ h1).bind fun ys h2=>match ys with
   |[y]=>op x y h2
   |_=>.stuck):=by
   unfold Aa Ae
   rw [Out.bind_assoc]
   exact q1
  refine Post.bind q2 fun ys h2 vs m2 H2 eo p2 k2 hr2 r2 q3=>?_
  clear eo
  split at q3
  ·rename_i y
   simp only [Fg,DVs] at r2
   obtain ⟨yv,w,rfl,ry,rfl⟩:=r2
   exact ⟨m2,h2,x,y,yv,rfl,hr2,DV.keep p2 k2 r1,ry,Post.noE (hn x y h2) q3⟩
  ·exact q3.elim
 ·rw [ec] at q1
  exact q1.elim
theorem Od:RK X "list" Cj where
 two:=fun x h=>by
  unfold Cj
  split
  ·split
   ·exact .inl rfl
   ·exact .inr rfl
  ·exact .inr rfl
 ty:=fun m H h x v hr r e=>by
  unfold Cj at e
  split at e
  ·rename_i l
   split at e
   ·rename_i ds el
    simp only [DV] at r
    obtain ⟨a,rfl,ha⟩:=r
    obtain ⟨ws,hv,dv⟩:=hr.cells l _ a el ha
    exact fun pins σ s u I ru=>Nk I ru (.inl ⟨rfl,ws,SqL.of hv⟩)
   ·cases e
  ·cases e
def IX (x:V) (xs:List V):Nat:=xs.countP fun y=>EN y x
theorem RM {x:V}:∀{xs:List V} {us:List Value},Vals xs us→xs.all Eo=true→us.countP (Cz x)=IX x xs
 |_,_,.nil,_=>rfl
 |y::xs,u::us,.cons r t,f=>by
  rw [Ie,Cp] at f
  unfold IX
  rw [List.countP_cons,List.countP_cons,K0 r f.1,RM t f.2]
  rfl
def IY:D→D→HD→Out D:=fun x y h=>match BQ x h with
 |none=>.stuck
 |some ds=>match CY y,AS (ds.map CY) with
  |some v,some vs=>.ok (.int (IX v vs)) h
  |_,_=>.stuck
theorem YM (x y:D) (h:HD):Gu (IY x y h):=by
 unfold IY
 repeat' split
 all_goals trivial
def He:D→D→HD→Out D:=fun x y h=>(Cj x h).bind fun _ _=>IY x y h
theorem YN:Oc X "list.count" He:=by
 intro pins s σ H m h x y v yv u uy Q I hr rx ry r r2 q
 unfold He at q
 rcases (Od (X:=X)).two x h with ec |ec
 ·rw [ec] at q
  simp only [Out.bind_ok] at q
  unfold Cj at ec
  split at ec
  ·rename_i l
   split at ec
   ·rename_i ds el
    unfold IY BQ at q
    simp only [el] at q
    split at q
    ·rename_i w ws e1 e2
     simp only [DV] at rx
     obtain ⟨a,rfl,ha⟩:=rx
     cases (show u=Value.ref a from r)
     obtain ⟨vs,hv,dv⟩:=hr.cells l _ a el ha
     obtain ⟨h1,h2⟩:=La ry e1
     obtain ⟨h3,h4⟩:=Lb dv e2
     subst h1 h3
     obtain ⟨z,its,n,rr,hl,e⟩:=I.lstM hv
     refine call_meets F.slot_list_count ⟨_,e,rfl⟩ F.entry_list_count (F.args_list_count_2 _ _) (PySem.SeqAt.list_countAt a its.toArray n none #[] uy (Cz yv)) ⟨e,fun w hw=>GP r2 h2 rr h4 w (by simpa using hw),?_⟩
     refine ⟨.int _,H,I.tok _,⟨_,rfl⟩,?_⟩
     rw [show (its.toArray.toList.countP (Cz yv))=IX yv vs by rw [←RM rr h4]]
     exact Bm hr q (by simp [DV])
    ·exact q.elim
   ·cases ec
  ·cases ec
 ·rw [ec] at q;exact q.elim
def LH (x:V) (xs:List V):Option Nat:=xs.findIdx? fun y=>EN y x
def Hf:D→D→HD→Out D:=fun x y h=>match x with
 |.loc l=>(match h[l]? with
  |some (.lst ds)=>(match CY y,AS (ds.map CY) with
   |some v,some vs=>(match LH v vs with
    |some j=>.ok (.int j) h
    |none=>.stuck)
   |_,_=>.stuck)
  |_=>.stuck)
 |_=>.stuck
theorem YO (x y:D) (h:HD):Gu (Hf x y h):=by
 unfold Hf
 repeat' split
 all_goals trivial
theorem YQ (x y:D) (h:HD):Gu (He x y h):=by
 unfold He
 rcases (show Cj x h=.ok x h∨Cj x h=.stuck by
  unfold Cj
  split
  ·split
   ·exact .inl rfl
   ·exact .inr rfl
  ·exact .inr rfl) with e |e
 ·rw [e];exact YM x y h
 ·rw [e];trivial
theorem RN {xs:List V} {us:List Value} (r:Vals xs us) {x:V} (f:xs.all Eo=true) {j:Nat} (hj:j<us.length):Cz x us[j]=EN (xs[j]'(by rw [r.length];exact hj)) x:=by
 have hx:j<xs.length:=by rw [r.length];exact hj
 obtain ⟨u,e,ru⟩:=r.get (Ba hx)
 rw [Ba hj] at e
 cases e
 exact K0 ru (qaT.mp f _ (Ib hx))
theorem YR:Oc X "list.index" Hf:=by
 intro pins s σ H m h x y v yv u uy Q I hr rx ry r r2 q
 unfold Hf at q
 split at q
 ·rename_i l
  split at q
  ·rename_i ds el
   split at q
   ·rename_i w ws e1 e2
    split at q
    ·rename_i j ej
     simp only [DV] at rx
     obtain ⟨a,rfl,ha⟩:=rx
     cases (show u=Value.ref a from r)
     obtain ⟨vs,hv,dv⟩:=hr.cells l _ a el ha
     obtain ⟨h1,h2⟩:=La ry e1
     obtain ⟨h3,h4⟩:=Lb dv e2
     subst h1 h3
     obtain ⟨z,its,n,rr,hl,e⟩:=I.lstM hv
     unfold LH at ej
     rw [List.findIdx?_eq_some_iff_getElem] at ej
     obtain ⟨hj,hit,hno⟩:=ej
     have hji:j<its.length:=by rw [←hl];exact hj
     have hsl:(j:Int)<2^63 - 1:=by have:=Il;omega
     refine call_meets F.slot_list_index ⟨_,e,rfl⟩ F.entry_list_index (F.args_list_index_2 _ _) (PySem.SeqAt.list_indexAt a its.toArray n none #[] uy (Cz yv) j (by simpa using hji) hsl ?_ ?_) ⟨e,fun w hw=>GP r2 h2 rr h4 w (by simpa using hw),?_⟩
     ·have:=RN rr h4 (x:=yv) hji
      simp only [List.getElem_toArray]
      rw [this];exact hit
     ·intro k hk hkj
      have hk':k<its.length:=by simpa using hk
      have:=RN rr h4 (x:=yv) hk'
      simp only [List.getElem_toArray]
      rw [this]
      simpa using hno k hkj
     ·exact ⟨.int _,H,I.tok _,⟨_,rfl⟩,Bm hr q (by simp [DV])⟩
    ·exact q.elim
   ·exact q.elim
  ·exact q.elim
 ·exact q.elim
end
theorem YS {pos:Pos} {l r:List Value} {cv:Value} (_:TriplesOk l) (e:codeAmong pos l=some cv):codeAmong pos (l++r)=some cv:=by
 rename_i ht
 clear ht
 fun_induction codeAmong pos l with
 |case1 line t col u c rest h=>rw [FD,FD,FD,codeAmong,if_pos h];exact e
 |case2 line t col u c rest h ih=>rw [FD,FD,FD,codeAmong,if_neg h];exact ih e
 |case3=>cases e
theorem RO {pos p2:Pos} {c cv:Value}:∀{l:List Value},TriplesOk l→codeAmong p2 (l++[rawInt pos.line,rawInt pos.col,c])=some cv→codeAmong p2 l=some cv∨cv=c
 |[],_,e=>by
  simp only [Ic,rawInt,codeAmong] at e
  split at e
  ·exact .inr (Option.some.inj e).symm
  ·cases e
 |.int i t::.int j u::c'::l,h,e=>by
  simp only [codeAmong,FD] at e ⊢
  split at e
  ·rename_i z
   rw [if_pos z];exact .inl e
  ·rename_i z
   rw [if_neg z];exact RO (by simpa [TriplesOk] using h) e
theorem HR.tab {K:Frag} {m:List Addr} {h:HD} {H H':Hp} {P:Addr} (r:HR K m h H) (k:Kp H H') (s:∀b,b≠P→H b≠none→H' b=H b) (t:TabIs K H' P) (tt:TabIs K H P):HR K m h H':=by
 refine ⟨r.len,r.nd,fun l c a e q=>?_⟩
 have hm:a∈m:=GD q
 have hn:H a≠none:=r.mem hm
 have:=r.cells l c a e q
 cases c with
 |lst ds=>
  obtain ⟨vs,e1,e2⟩:=this
  have ha:a≠P:=by
   rintro rfl
   obtain ⟨_,ps,z,_⟩:=tt
   rw [z] at e1;cases e1
  exact ⟨vs,by rw [s a ha hn];exact e1,e2.keep (AC _) k⟩
 |tab=>
  by_cases ha:a=P
  ·subst ha;exact t
  ·exact TabIs.keep this k (s a ha hn)
 |dic fz kvs=>
  obtain ⟨es,e1,e2⟩:=this
  have ha:a≠P:=by
   rintro rfl
   obtain ⟨_,ps,z,_⟩:=tt
   cases fz with
   |true=>obtain ⟨o,q⟩:=e1;rw [z] at q;cases q
   |false=>exact absurd (z.symm.trans e1) (by intro w;cases w)
  exact ⟨es,e1.same (s a ha hn),e2.keep (AC _) k⟩
structure LamX (X:Cx) (c P:Addr):Prop where
 code:X.env.code=.ref c
 tp:tabP X.K=some (c,P)
 hd:codeHdIn X.K c P=true
 qual:X.env.qual="law.<locals>."
 bm:∃bm o,X.mg "__builtins__"=some (.ref bm)∧bm≠builtinsNs∧X.base.get? bm=some o∧o.cls=.type "module"∧o.dict=some builtinsNs∧o.data=.plain
section
variable {X:Cx} {E:Value→Shared→Prop} {c P:Addr} {pins:List (Addr×Obj)} {σ:L2.St} {H:Hp} {s:Shared}
theorem LamX.builtins (L:LamX X c P) (I:Inv X pins σ H s) (t:TabIs X.K H P):s.heap.BuiltinsAt X.mg P:=by
 obtain ⟨bm,o,h1,h2,h3,h4,h5,h6⟩:=L.bm
 obtain ⟨e,n⟩:=I.bs bm o h3
 refine ⟨bm,o,h1,h2,fun z=>?_,fun z=>?_,e,h4,h5,h6⟩
 ·obtain ⟨og,es,ep,e1,e2,_⟩:=I.mod.glob
  rw [z,e1] at h3
  cases h3
  rw [e2] at h6;cases h6
 ·obtain ⟨_,ps,q,_⟩:=t
  rw [z,q] at n;cases n
abbrev BS:Str:="law.<locals>.<lambda>"
theorem YT {params:Arguments} {body:Expr} {scope:Scope} {pos:Pos} {clos:List (Str×Addr)} {Q:Value→Shared→Prop} {A:Around} (L:LamX X c P) (I:Inv X pins σ H s) (t:TabIs X.K H P) (hdef:defaultsOf params X.env=([],[])) (hcl:closureFor scope X.env=pure clos)
 (k:∀(f' c':Addr) (ctv pm:Value) (h':Heap) (tk:Nat) (H':Hp),Inv X pins σ H' {s with heap:=h',toks:=tk}→Kp H H'→TabIs X.K H' P→(∀b,b≠P→H b≠none→H' b=H b)→(∀b o,b≠P→s.heap.get? b=some o→h'.get? b=some o)→s.heap.objs.size≤f'→
  H' f'=none→h'.get? f'=some (kla_obj "<lambda>" BS params body scope clos pm c' ctv)→(∃ps,H' P=some (.tbl ps)∧codeAmong pos ps.toList=some (.ref c'))→Q (.ref f') {s with heap:=h',toks:=tk}):
 wpAny (model X.prog X.w) A (eval (.Lambda params body scope pos) X.env) Q E s:=by
 have hB:=L.builtins I t
 have hg:s.heap.Ns mainGlobals X.mg:=I.mod.glob.keeps I.bk
 have hCd:CodeHd s.heap c P:=codeHd_of_K I.kIn L.hd
 obtain ⟨ht1,ps,hps,htr,hcs⟩:=id t
 have hP:s.heap.get? P=some (tabObj ps):=I.hok P _ hps
 have hgP:mainGlobals≠P:=fun z=>by
  obtain ⟨og,es,ep,e1,e2,_⟩:=I.mod.glob
  have:=(I.bs _ _ e1).2
  rw [z,hps] at this;cases this
 have hq:X.env.qual++"<lambda>"=BS:=by rw [L.qual];decide +kernel
 refine kla_eval hdef ?_
 rw [hq]
 cases hc:codeAmong pos ps.toList with
 |some cv=>
  obtain ⟨c',rfl,hx⟩:=hcs pos cv hc
  refine kla_makeFunctionHit (mg:=X.mg) hcl I.ok.glob hg L.code hCd hP htr hc hB fun ctv h' tk hk hsz=>?_
  have hk2:∀b o,s.heap.get? b=some o→(h'.push (kla_obj "<lambda>" BS params body scope clos ((X.mg "__name__").getD .none) c' ctv)).get? b=some o:=fun b o e=>AM _ (hk b o e)
  exact k _ c' ctv _ _ tk H (I.kept hk2) (.refl _) t (fun _ _ _=>rfl) (fun b o _ e=>hk2 b o e) hsz (I.hok.fresh hsz) (BD _ rfl) ⟨ps,hps,hc⟩
 |none=>
  refine kla_makeFunction (mg:=X.mg) hcl I.ok.glob hg L.code hCd hP htr hc hgP hB fun c' ctv h' tk hx hge hlt hrec htb=>?_
  generalize ho:kla_obj "<lambda>" BS params body scope clos ((X.mg "__name__").getD .none) c' ctv=fo
  have hk2:∀b o,b≠P→s.heap.get? b=some o→(h'.push fo).get? b=some o:=fun b o hb e=>AM _ (hx b o hb e)
  have hPs:P<s.heap.objs.size:=AO hP
  have hc'P:c'≠P:=IE (A1 hPs hge)
  have hc'n:H c'=none:=I.hok.fresh hge
  generalize hps':ps++#[rawInt pos.line,rawInt pos.col,.ref c']=ps' at htb
  have tl:ps'.toList=ps.toList++[rawInt pos.line,rawInt pos.col,.ref c']:=by rw [←hps'];simp
  have hH:∀b,b≠P→H b≠none→Av (Av H P (.tbl ps')) c' (.ext (Iq BS c')) b=H b:=fun b hb hn=>by
   have:b≠c':=fun z=>hn (z ▸ hc'n)
   rw [AF this,AF hb]
  have hHP:Av (Av H P (.tbl ps')) c' (.ext (Iq BS c')) P=some (.tbl ps'):=by rw [AF (Ne.symm hc'P),B9]
  have kp:Kp H (Av (Av H P (.tbl ps')) c' (.ext (Iq BS c'))):=fun b o e i=>by
   have:b≠P:=fun z=>by rw [z,hps] at e;cases e;cases i
   rw [hH b this (by rw [e];simp)];exact e
  have lt':∀b o,s.heap.get? b=some o→b≠c':=fun b o e=>Cs (A1 (AO e) hge)
  have un:Un X.fs [] H (Av (Av H P (.tbl ps')) c' (.ext (Iq BS c'))) s.heap (h'.push fo):=by
   have neP:∀{b},H b=none→b≠P:=fun {b} n z=>by rw [z,hps] at n;cases n
   refine ⟨fun b o e n _ _=>hk2 b o (neP n) e,fun b o e n _ _=>⟨o.slots,hk2 b o (neP n) e⟩,fun b o e n _=>?_,fun b o e _=>?_,fun b xs e=>?_,fun b o u e=>?_,fun b qs e=>?_⟩
   ·rw [AF (lt' b o e),AF (neP n)];exact n
   ·by_cases hb:b=P
    ·subst hb;exact ⟨_,AM _ htb⟩
    ·exact ⟨o,hk2 b o hb e⟩
   ·rw [hH b (fun z=>by rw [z,hps] at e;cases e) (by rw [e];simp)];exact e
   ·rw [hH b (fun z=>by rw [z,hps] at e;cases e) (by rw [e];simp)];exact e
   ·by_cases hb:b=P
    ·subst hb
     rw [hps] at e;cases e
     exact ⟨_,by rw [hHP,←hps']⟩
    ·exact ⟨#[],by rw [hH b hb (by rw [e];simp),e];simp⟩
  have hok:HOk X.prog X.w (Av (Av H P (.tbl ps')) c' (.ext (Iq BS c'))) (h'.push fo):=by
   intro b o e
   by_cases hb:b=c'
   ·subst hb
    rw [B9] at e
    cases e
    have r1:(h'.push fo).CodeRec (.ref b) BS:=hrec.keeps fun b o e=>AM _ e
    refine ⟨r1,?_,fun h1 h2 z1 z2=>?_⟩
    ·obtain ⟨c2,oc,vs,t2,e1,e2,_⟩:=r1
     cases e1
     exact ⟨oc,e2⟩
    ·obtain ⟨c2,oc,vs,t2,e1,e2,e3⟩:=z1
     cases e1
     exact ⟨_,oc,vs,t2,rfl,z2 _ e2,e3⟩
   ·by_cases hbP:b=P
    ·subst hbP
     rw [hHP] at e
     cases e
     exact AM _ htb
    ·rw [AF hb,AF hbP] at e
     refine (I.hok b o e).stay (fun d u hd q=>hk2 d u ?_ q) (fun d q=>?_) fun d xs q=>?_
     ·rcases hd with rfl |hd
      ·exact hbP
      ·exact fun z=>by rw [z,hps] at hd;cases hd
     ·rw [hH d (fun z=>by rw [z,hps] at q;cases q) (by rw [q];simp)];exact q
     ·rw [hH d (fun z=>by rw [z,hps] at q;cases q) (by rw [q];simp)];exact q
  have hsz:s.heap.objs.size≤h'.objs.size:=Gc (Nat.lt_of_le_of_lt hge hlt)
  refine k _ c' ctv ((X.mg "__name__").getD .none) _ tk _ (I.un un hok) kp ⟨ht1,ps',hHP,?_,fun p2 cv e=>?_⟩ hH hk2 hsz ?_ (by rw [←ho];exact BD _ rfl) ⟨ps',hHP,?_⟩
  ·rw [tl];exact TriplesOk_snoc _ _ _ _ htr
  ·rw [tl] at e
   rcases RO htr e with z |z
   ·obtain ⟨c2,z1,z2⟩:=hcs p2 cv z
    exact ⟨c2,z1,kp _ _ z2 rfl⟩
   ·exact ⟨c',z,B9⟩
  ·have n1:h'.objs.size≠c':=IE hlt
   have n2:h'.objs.size≠P:=IE (A1 hPs hsz)
   rw [AF n1,AF n2];exact I.hok.fresh hsz
  ·rw [tl];exact codeAmong_snoc _ htr hc
end
def FU (P:Program) (w:World) (K:Frag) (mg:Str→Option Value) (base:Heap) (N:List Str) (scope:Scope) (a:Addr) (cd:Value) (cl:List (Str×Addr)) (A:Around) (outer:List Env) (s:Shared) (H:Hp) (E:XK):Cx where
 prog:=P
 w:=w
 K:=K
 mg:=mg
 base:=base
 A:=A.deeper (envX BS scope s.heap.objs.size a cd cl)
 N:=N
 s₀:=s
 H₀:=H
 env:=envX BS scope s.heap.objs.size a cd cl
 outer:=outer
 stack:=envX BS scope s.heap.objs.size a cd cl::outer
 ex:=[]
 calm:=true
 fn:=fun _=>false
 pn:=[]
 xe:=fun e s'=>wpAny (model P w) (A.deeper (envX BS scope s.heap.objs.size a cd cl)) (leaving (envX BS scope s.heap.objs.size a cd cl) e) (fun _ s''=>AK P w K outer H s E e s'') (fun e' s''=>AK P w K outer H s E e' s'') s'
theorem YU {P:Program} {w:World} {K:Frag} {mg:Str→Option Value} {base:Heap} {N:List Str} {scope:Scope} {a:Addr} {cd:Value} {cl:List (Str×Addr)} {A:Around} {outer:List Env} {s:Shared} {H:Hp} {E:XK}:
 Lv (FU P w K mg base N scope a cd cl A outer s H E) E:=⟨fun _ _ h=>h,rfl,rfl,rfl⟩
theorem RP {P:Program} {w:World} {K:Frag} {mg:Str→Option Value} {base:Heap} {N:List Str} {scope:Scope} {a:Addr} {cd:Value} {cl:List (Str×Addr)} {A:Around} {outer:List Env} {s:Shared} {H:Hp} {E:XK}:
 GO (AK P w K) (FU P w K mg base N scope a cd cl A outer s H E) E:=N4 YU
structure JW (h:Heap) (H:Hp) (outer:List Env) (N:List Str) (scope:Scope) (cl:List (Str×Addr)) (vs:List V):Prop where
 len:vs.length=N.length
 inj:∀x y c,cl.lookup x=some c→cl.lookup y=some c→x=y
 has:∀x,scope.names.lookup x=some .free→∃c,cl.lookup x=some c
 cell:∀x c,cl.lookup x=some c→(∃v,h.IsCell c v)∧H c=none∧c∉frs outer
 val:∀(i:Nat) (x:Str) (v:V),N[i]?=some x→vs[i]?=some v→scope.names.lookup x=some .free∧∃c u,cl.lookup x=some c∧h.IsCell c (some u)∧RelV v u
structure LamSc (scope:Scope):Prop where
 kind:scope.kind=.function
 co:scope.isCoroutine=false
 gen:scope.isGenerator=false
 only:(scope.names.all fun y=>y.2 != .cell)=true
theorem LamSc.nocell {scope:Scope} (S:LamSc scope):∀x∈scope.names,x.2≠.cell:=fun x hx e=>by
 have:=qaT.mp S.only x hx
 rw [e] at this
 simp at this
section
variable {P:Program} {w:World} {K:Frag} {mg:Str→Option Value} {base:Heap} {N:List Str} {scope:Scope} {a c':Addr} {pm ctv:Value} {params:Arguments} {body:Expr} {cl:List (Str×Addr)} {A:Around} {outer:List Env} {s:Shared} {H:Hp} {E:XK} {vs:List V}
theorem YV {cd:Value} {h1:Heap} {t1:Nat} (S:LamSc scope) (hd:A.handled=none) (e0:Gf P w K mg base A outer s H) (C:JW s.heap H outer N scope cl vs) (ns:h1.Ns s.heap.objs.size (fun _=>none)) (hk:∀b o,s.heap.get? b=some o→h1.get? b=some o):
 Inv (FU P w K mg base N scope a cd cl A outer s H E) [] (vs.map some) H {s with heap:=h1,toks:=t1}:=by
 have noA:∀b:Addr,b∉(FU P w K mg base N scope a cd cl A outer s H E).ex:=fun b z=>absurd (show b∈([]:List Addr) from z) (by simp)
 refine ⟨⟨e0.mod,S.kind,rfl,rfl,AG _,C.inj,fun x hx=>?_,fun x c hf=>(by cases hf),fun _=>hd,Around.frames_deeper e0.frames,.inr ⟨rfl,rfl⟩,fun b z=>absurd z (noA b),e0.bs,e0.bsz,fun b _ _=>noA b,fun b z=>absurd z (noA b),e0.funs,e0.frf⟩,
  rfl,e0.bare,Un.kept hk,⟨_,ns,fun i x v e1 e2 _=>?_⟩,fun x c e=>?_,e0.hok.fresh (AG _),fun x c e=>(C.cell x c e).2.1,fun p hp=>absurd (show p∈([]:List (Addr×Obj)) from hp) (by simp),e0.hok.kept hk,?_⟩
 ·have hx':scope.names.lookup x=some .cell∨scope.names.lookup x=some .free:=hx
  rcases hx' with z |z
  ·exact absurd rfl (S.nocell _ (mem_of_lookup z))
  ·exact C.has x z
 ·rw [CP] at e2
  cases ev:vs[i]? with
  |none=>rw [ev] at e2;cases e2
  |some v'=>
   rw [ev] at e2
   cases e2
   obtain ⟨hf,c,u,e3,e4,r⟩:=C.val i x v e1 ev
   exact ⟨u,r,.inr ⟨.inr hf,c,e3,e4.keeps hk⟩⟩
 ·obtain ⟨⟨v,q⟩,_⟩:=C.cell x c e
  exact ⟨v,q.keeps hk⟩
 ·show (vs.map some).length=N.length
  rw [BJ];exact C.len
theorem YW {k:Nat} {f:ME} {Q:VK} (S:LamSc scope) (hr:Room (k+1) A) (e0:Gf P w K mg base A outer s H) (C:JW s.heap H outer N scope cl vs) (ho:s.heap.get? a=some (kla_obj "<lambda>" BS params body scope cl pm c' ctv)) (hcd:s.heap.CodeRec (.ref c') BS)
 (hbind:bindArgs (kla_fn "<lambda>" BS params body scope cl pm (.ref c') ctv) ⟨[],[]⟩=pure [])
 (hb:Room k (A.deeper (envX BS scope s.heap.objs.size a (.ref c') cl))→Ev (FU P w K mg base N scope a (.ref c') cl A outer s H E) E body f)
 (q:∃m ds h,HR K m h H∧DVs K m H ds vs∧Post K (rD K) m H E Q (f (ds.map some) h)):codeAny (model P w) A (.call (.ref a) ⟨[],[]⟩) (CR (AK P w K) outer P w H s Q E) s:=by
 refine kla_callFunE hr.depth ho rfl S.co S.gen rfl hcd ?_
 rw [hbind]
 have lim:s.heap.NoLimit:=e0.mod.nolimit.keeps fun b o e=>(e0.bs b o e).1
 refine wpAny_pure (wpAny_newFunctionEnv S.nocell (fun y hy=>by cases hy) (fun h₁ hns hsb=>⟨lim.fresh _ hsb,?_⟩) S.kind)
 have hk₁:∀b o,s.heap.get? b=some o→h₁.get? b=some o:=fun b o e=>hsb.extBut b o (By (AO e)) (AM _ e)
 have I:Inv (FU P w K mg base N scope a (.ref c') cl A outer s H E) [] (vs.map some) H {s with heap:=h₁,toks:=s.toks+0}:=YV S hr.hd e0 C hns hk₁
 obtain ⟨m,ds,h,hr1,r,p⟩:=q
 have er:ER K m H (ds.map some) (vs.map some):=by
  refine ⟨by simp [r.len],fun i d e=>?_⟩
  rw [CP] at e
  cases ed:ds[i]? with
  |none=>rw [ed] at e;cases e
  |some d'=>
   rw [ed] at e
   cases e
   obtain ⟨v,e1,r1⟩:=r.get ed
   exact ⟨v,by rw [CP,e1];rfl,r1⟩
 refine kla_codeExpr (wpAny_mono (hb (hr.deeper _) [] _ _ H Q I ⟨m,ds.map some,h,hr1,er,p⟩) (fun u s' hs=>?_) fun e s' hs=>hs)
 obtain ⟨v,H',J,rv,qv⟩:=hs
 exact ⟨v,H',J.os,J.bare,J.base,J.hok,rv,qv⟩
end
structure RoomM (k:Nat) (A:Around):Prop where
 dp:A.depth+3*k+5<recursionLimit
 un:A.units+16*k+200<cLine
 gd:A.guards=some []
theorem RoomM.deeper {k:Nat} {A:Around} (r:RoomM (k+1) A) (env:Env):RoomM k (A.deeper env):=
 ⟨by have:=r.dp;show A.depth+1+3*k+5<_;omega,by have:=r.un;show A.units+3+16*k+200<_;omega,r.gd⟩
theorem RoomM.units {k:Nat} {A:Around} (r:RoomM k A):A.units+64<cLine:=by have:=r.un;omega
theorem RoomM.mono {j k:Nat} {A:Around} (r:RoomM k A) (h:j≤k):RoomM j A:=⟨by have:=r.dp;omega,by have:=r.un;omega,r.gd⟩
theorem RoomM.of {k:Nat} {A:Around} (r:Room k A) (e:Option Value):RoomM k (A.mark e):=⟨r.dp,r.un,r.gd⟩
def IZ (P:Program) (w:World) (K:Frag) (mg:Str→Option Value) (base:Heap) (N:List Str) (qual:Str) (scope:Scope) (f:Addr) (cd:Value) (A:Around) (outer:List Env) (s:Shared) (H:Hp):Cx:=
 {AZ Qg P w K mg base N qual scope f cd A outer s H E0 with calm:=false,xe:=fun _ _=>False}
theorem YX {P:Program} {w:World} {K:Frag} {mg:Str→Option Value} {base:Heap} {N ps:List Str} {qual:Str} {scope:Scope} {f:Addr} {cd:Value} {A:Around} {outer:List Env} {s s1:Shared} {H:Hp} {us:List Value} {vs:List V}
 (S:Bo N ps scope) (e0:Gf P w K mg base A outer s H) (hl:vs.length=ps.length) (r:Vals vs us)
 (x:InCallC s s.heap.objs.size (bindL (envOfC qual scope s.heap.objs.size f cd).kindOf (ps.zip us) fun _=>none) (cellsFrom (s.heap.objs.size+1) scope.names []) (bindC (envOfC qual scope s.heap.objs.size f cd).kindOf (ps.zip us) fun _=>none) s1):
 Inv (IZ P w K mg base N qual scope f cd A outer s H) [] (start N vs) H s1:=by
 have hpl:ps.length≤N.length:=by have:=congrArg List.length S.pre;rw [Kz] at this;omega
 obtain ⟨h1,tk,rfl,hk⟩:=x.done
 have noA:∀b:Addr,b∉(IZ P w K mg base N qual scope f cd A outer s H).ex:=fun b z=>absurd (show b∈([]:List Addr) from z) (by simp)
 refine ⟨⟨e0.mod,S.kind,rfl,rfl,AG _,fun y z c h1 h2=>?_,fun y hy=>?_,fun y c _ h=>?_,fun z=>(nomatch z),Around.frames_deeper e0.frames,.inr ⟨rfl,rfl⟩,fun b z=>absurd z (noA b),e0.bs,e0.bsz,fun b _ _=>noA b,fun b z=>absurd z (noA b),e0.funs,e0.frf⟩,
  rfl,e0.bare,Un.kept hk,⟨_,x.toInCall.ns,fun i y v h1 h2 h3=>?_⟩,fun y c h=>⟨_,x.cell y c h⟩,e0.hok.fresh (AG _),fun y c h=>?_,fun p hp=>absurd (show p∈([]:List (Addr×Obj)) from hp) (by simp),e0.hok.kept hk,?_⟩
 ·exact name_of_addr x.apart (PySem.mem_of_lookup h1) (PySem.mem_of_lookup h2)
 ·have hy:scope.names.lookup y=some .cell∨scope.names.lookup y=some .free:=hy
  rcases hy with hy |hy
  ·exact KY hy
  ·exact absurd rfl (S.nofree _ (PySem.mem_of_lookup hy))
 ·exact Gc (x.above y c (PySem.mem_of_lookup h))
 ·have hi:i<vs.length:=by
   unfold L2.start at h2
   by_cases hi:i<vs.length
   ·exact hi
   ·rw [Jj (by simpa using hi)] at h2
    rw [MP] at h2
    split at h2<;>cases h2
  have ha:vs[i]?=some v:=by
   unfold L2.start at h2
   rw [F6 (by simpa using hi),CP] at h2
   cases e:vs[i]? with
   |none=>rw [e] at h2;cases h2
   |some a=>rw [e] at h2;cases h2;rfl
  obtain ⟨u,hu,rv⟩:=r.get ha
  have hp:ps[i]?=some y:=by
   rw [←S.pre,List.getElem?_take_of_lt (by omega)];exact h1
  have ndP:ps.Nodup:=by rw [←S.pre];exact S.nd.sublist (List.take_sublist _ _)
  refine ⟨u,rv,?_⟩
  rcases S.par y (GD hp) with k |k
  ·exact .inl ⟨k,Nd ndP hp hu k⟩
  ·obtain ⟨c,e⟩:=KY (n:=s.heap.objs.size+1) k
   refine .inr ⟨.inl k,c,e,?_⟩
   have q:=x.cell y c e
   rw [Nf ndP hp hu (by show scope.names.lookup y≠_;rw [k];decide)] at q
   exact q
 ·exact e0.hok.fresh (Gc (x.above y c (PySem.mem_of_lookup h)))
 ·unfold L2.start
  show _=N.length
  rw [EJ,BJ,List.length_replicate]
  omega
structure RQ (P:Program) (w:World) (K:Frag) (mg:Str→Option Value) (base:Heap) (k:Nat) (f:Addr) (fd:FuncData) (ps:List Str) (F:List D→HD→Out D):Prop where
 run:∀(A:Around) (outer:List Env) (s:Shared) (H:Hp) (args:Args) (us:List Value) (vs:List V) (Q:VK),RoomM k A→Gf P w K mg base A outer s H→BindsTo s fd args (ps.zip us)→Vals vs us→K6 K F vs H Q E0→
  codeAny (model P w) A (.call (.ref f) args) (CR Qg outer P w H s Q E0) s
theorem YY {P:Program} {w:World} {K:Frag} {mg:Str→Option Value} {base:Heap} {x qual:Str} {st:Stmt} {f:Addr} {fd:FuncData} {N ps:List Str} {k:Nat} {F:List D→HD→Out D} {g:MS} (Fn:Fun K x qual st f fd) (S:Bo N ps (defScope st)) (ar:Ar ps.length F)
 (hg:∀ds h,ds.length=ps.length→F ds h=Az N.length g ds h)
 (hbody:∀(cdv:Value) (A:Around) (outer:List Env) (s:Shared) (H:Hp),RoomM k (A.deeper (envOfC qual (defScope st) s.heap.objs.size f cdv))→A8 (IZ P w K mg base N qual (defScope st) f cdv A outer s H) E0 (defBody st) g):RQ P w K mg base (k+1) f fd ps F:=by
 obtain ⟨oc,od,kV,doc,pm,an,cdv,ct,osl,rfl,lk,hcd⟩:=Fn.ex
 refine ⟨fun A outer s H args us vs Q hr e0 hb r hsp=>?_⟩
 have hl:vs.length=ps.length:=ar.len hsp
 have KX:K.In s.heap:=e0.mod.kin.keeps fun b o e=>(e0.bs b o e).1
 have lim:s.heap.NoLimit:=e0.mod.nolimit.keeps fun b o e=>(e0.bs b o e).1
 have hkind:∀y∈ps.zip us,(defScope st).names.lookup y.1=some .local∨((defScope st).names.lookup y.1=some .cell∧((cellsFrom (s.heap.objs.size+1) (defScope st).names []).lookup y.1).isSome=true):=fun z1_ hy=>by
  obtain ⟨n,v⟩:=z1_
  rcases S.par n (Jr hy).1 with q |q
  ·exact .inl q
  ·exact .inr ⟨q,PySem.W.cellsFrom_some _ _ _ (.inl q)⟩
 refine codeAny_call_function (by have:=hr.dp;omega) (KX _ _ lk) rfl S.co S.gen rfl (PySem.W.codeRec_of KX hcd) (hb _ _ _ _ ?_)
 refine wpAny_newFunctionEnv_cells S.kind hkind fun env he s1 x=>?_
 subst he
 refine ⟨lim.keeps x.toInCall.keep,codeAny_func ?_⟩
 have I:Inv (IZ P w K mg base N qual (defScope st) f cdv A outer s H) [] (start N vs) H s1:=YX S e0 hl r x
 have fin:∀{σ':L2.St} {H':Hp} {v:V} {u:Value} {s':Shared},Inv (IZ P w K mg base N qual (defScope st) f cdv A outer s H) [] σ' H' s'→RelV v u→Q v H'→CE outer P w H s Q u s':=
  fun {σ' H' v u s'} J rv q=>⟨v,H',J.os,J.bare,J.base,J.hok,rv,q⟩
 have post:Iu K E0 g {nx:=fun _ H'=>Q .non H',rt:=Q} (start N vs) H:=by
  obtain ⟨m,ds,hd,hr1,r,p⟩:=hsp
  have hld:ds.length=ps.length:=by rw [r.len];exact hl
  refine ⟨m,ds.map some++List.replicate (N.length - ds.length) none,hd,hr1,ER.start r,?_⟩
  rw [hg ds hd hld] at p
  unfold Az at p
  cases o:g (ds.map some++List.replicate (N.length - ds.length) none) hd with
  |stuck=>rw [o] at p;exact p
  |err C fs h1=>rw [o] at p;exact p
  |ok a h1=>
   rw [o] at p
   obtain ⟨fl,ρ1⟩:=a
   intro m1 H1 p1 k1 hr1
   cases fl with
   |nx=>exact fun σ er=>p .non m1 H1 p1 k1 hr1 (by simp [rD,DV])
   |bk=>exact False.elim p
   |ct=>exact False.elim p
   |rt d=>exact fun v rv=>p v m1 H1 p1 k1 hr1 rv
 refine wpAny_mono (hbody cdv A outer s H (hr.deeper _) [] s1 (start N vs) H _ I post) (fun fl s' hs=>?_) fun e s' hs=>hs.elim
 cases fl with
 |ret u=>
  obtain ⟨v,σ',H',J,rv,q⟩:=hs
  exact fin J rv q
 |next=>
  obtain ⟨σ',H',J,q⟩:=hs
  exact fin (v:=V.non) (u:=Value.none) J rfl q
 |brk=>
  obtain ⟨_,_,_,q⟩:=hs
  exact False.elim q
 |cont=>
  obtain ⟨_,_,_,q⟩:=hs
  exact False.elim q
structure CaM (P:Program) (w:World) (K:Frag) (mg:Str→Option Value) (base:Heap) (x:Str) (k:Nat) (F:List D→HD→Out D):Prop where
 ex:∃(f:Addr) (fd:FuncData) (ps:List Str),RQ P w K mg base k f fd ps F∧Binds K fd ps []∧mg x=some (.ref f)∧PySem.W.keepIn K (.ref f)=true∧Ar ps.length F
section
variable {X:Cx} {E:XK}
theorem YZ {k k':Nat} {F:List D→HD→Out D} {fa:MA} {x:Str} {p pos:Pos} {e:Expr} {es:List Expr} (C:CaM X.prog X.w X.K X.mg X.base x k F) (hr:RoomM k' X.A) (ha:Dj X E0 (e::es) fa) (hk:k≤k':=by decide) (hg:Gl X x:=by rfl)
 (hdb:(x==("__debug__":Str))=false:=by decide) (he:starEach (e::es) X.env=(false,eval e X.env)::starEach es X.env:=by rfl) (hpl:(backTo pos (starEach es X.env)).any (·.1)=false:=by rfl):
 Ev X E0 (.Call (.Name x p) (e::es) [] pos) (Ah F fa):=by
 obtain ⟨f,fd,ps,G,hb,hm,hkp,ar⟩:=C.ex
 rintro pins s σ H Q I ⟨m,ρ,hd,hr1,er,pp⟩
 refine wpAny_Call_Name_kw (Ij I hg hm ?_ hdb)
 have post:Qi X.K E0 fa σ H (fun vs H1=>K6 X.K F vs H1 Q E0):=⟨m,ρ,hd,hr1,er,Post.bind pp fun xs h1 vs m1 H1 e1 p1 k1 hr1 r1 q1=>⟨m1,xs,h1,hr1,r1,q1⟩⟩
 refine PySem.W.callWith_K (h₀:=X.base) I.ok.mod.kin hkp (AA (ha pos pins s σ H _ I post) ?_) he hpl
 rintro us s1 ⟨vs,H1,I1,r,q⟩
 refine ⟨I1.kIn,?_⟩
 have hl:us.length=ps.length:=by rw [←r.length];exact ar.len q
 have hb':=hb s1 us I1.kIn (by rw [El];exact hl)
 rw [El] at hb'
 refine wpAny_call (codeAny_mono (G.run X.A X.stack s1 H1 ⟨us,[]⟩ us vs Q (hr.mono hk) I1.env0 hb' r q) fun r s' hq=>?_)
 cases r with
 |error e=>exact False.elim hq
 |ok fl=>
  cases fl with
  |ret u=>exact I1.after hq
  |next=>exact False.elim hq
  |brk=>exact False.elim hq
  |cont=>exact False.elim hq
end
theorem RR {P:Program} {w:World} {fs:List Addr} {H H':Hp} {h0 h h':Heap} {a T:Addr} {C a0:Value} (B:Un fs [] H H' h0 h) (hok:HOk P w H' h) (na:h0.get? a=none) (nT:h0.get? T=none) (ha:H' a=none) (hT:H' T=none)
 (frNone:∀b∈fs,H' b=none) (noFields:∀b∈fs,∃o,h.get? b=some o∧∀vs,o.data≠.fields vs) (stay:(blank (fun b=>b=a∨b=T∨b∈fs) h).StaysIn h') (ups:∀b o,h.get? b=some o→(∀vs,o.data≠.fields vs)→∃sl,h'.get? b=some {o with slots:=sl})
 (tr:h'.TracedW (blank (fun b=>b=a∨b=T∨b∈fs) h) a C a0) {da:Option Addr} {oa:Obj} (ea:h.get? a=some oa) (ed:oa.dict=da) (dd:Dicts h h'):Un fs [] H H' h0 h'∧HOk P w H' h'∧Lo h0 h' H' a C da:=by
 obtain ⟨oe,vs,T2,oT,ts,e1,e2,e3,e4,e5,e6,e7,e8,e9⟩:=tr
 have e11:oe.dict=da:=by
  obtain ⟨o',q1,q2⟩:=dd a oa ea
  rw [e1] at q1
  cases q1
  exact q2.trans ed
 have keepOf:∀b o,¬(b=a∨b=T∨b∈fs)→h.get? b=some o→h'.get? b=some o:=fun b o hb e=>stay b o (by rw [Ha hb];exact e)
 have old:∀b o,h0.get? b=some o→b≠a∧b≠T:=fun b o e=>⟨fun z=>(by rw [z,na] at e;cases e),fun z=>(by rw [z,nT] at e;cases e)⟩
 have any:∀b o,h0.get? b=some o→h.get? b≠none→∃o',h'.get? b=some o':=fun b o e hn=>by
  cases e':h.get? b with
  |none=>exact absurd e' hn
  |some o'=>
   by_cases hb:b∈fs
   ·obtain ⟨o2,h2,d2⟩:=noFields b hb
    obtain ⟨sl,h3⟩:=ups b o2 h2 d2
    exact ⟨_,h3⟩
   ·exact ⟨o',keepOf b o' (fun z=>by rcases z with z |z |z;exact (old b o e).1 z;exact (old b o e).2 z;exact hb z) e'⟩
 refine ⟨⟨fun b o e n hb hx=>?_,fun b o e n hb hx=>?_,B.free,fun b o e hx=>?_,B.tups,B.frzs,B.tbls⟩,fun b o e=>?_,na,ha,oe,vs,a0,T2,oT,ts,e1,e2,e3,e4,?_,?_,e6,e7,e8,e9,e11⟩
 ·exact keepOf b o (fun z=>by rcases z with z |z |z;exact (old b o e).1 z;exact (old b o e).2 z;exact hb z) (B.keep b o e n hb hx)
 ·obtain ⟨sl,h1⟩:=B.slot b o e n hb hx
  obtain ⟨o2,h2,d2⟩:=noFields b hb
  rw [h1] at h2
  cases h2
  obtain ⟨sl2,h3⟩:=ups b _ h1 d2
  exact ⟨sl2,h3⟩
 ·obtain ⟨o',h1⟩:=B.there b o e hx
  exact any b o e (by rw [h1];simp)
 ·refine (hok b o e).stay (fun c u hc q=>keepOf c u (fun z=>?_) q) (fun _ q=>q) fun _ _ q=>q
  have hc':H' c≠none:=by
   rcases hc with rfl |hc
   ·rw [e];simp
   ·rw [hc];simp
  rcases z with z |z |z
  ·exact hc' (z ▸ ha)
  ·exact hc' (z ▸ hT)
  ·exact hc' (frNone c z)
 ·cases q:h0.get? T2 with
  |none=>rfl
  |some o=>
   exfalso
   obtain ⟨o',h1⟩:=B.there T2 o q (by simp)
   by_cases hb:T2∈fs
   ·obtain ⟨o2,h2,d2⟩:=noFields T2 hb
    obtain ⟨sl,h3⟩:=ups T2 o2 h2 d2
    rw [h3] at e7
    cases e7
    exact d2 _ e8
   ·rw [Ha (fun z=>by rcases z with z |z |z;exact (old T2 o q).1 z;exact (old T2 o q).2 z;exact hb z),h1] at e5
    cases e5
 ·cases q:H' T2 with
  |none=>rfl
  |some o=>
   exfalso
   by_cases hb:T2=a∨T2=T∨T2∈fs
   ·rcases hb with z |z |z
    ·rw [z,ha] at q;cases q
    ·rw [z,hT] at q;cases q
    ·rw [frNone T2 z] at q;cases q
   ·rw [Ha hb] at e5
    obtain ⟨ob,eb⟩:=N3 (hok T2 o q)
    rw [eb] at e5
    cases e5
theorem Y0 {M:Model} {A:Around} {E:Value→Shared→Prop} {s:Shared} {base:Heap} {env:Env} {outer:List Env} {L e:Addr} {C a0:Value} {Q:Unit→Shared→Prop} (fr:A.frames=some (env::outer)) (lo:env.frame=some L) (fl:Heap.FlyingW base (env::outer) e C a0 s.heap)
 (q:∀h',Heap.HeldW base (env::outer) e C a0 L h'→s.heap.UpToSlots h'→Dicts s.heap h'→Q () {s with heap:=h'}):wpAny M A (noteFrame (.ref e) env) Q E s:=by
 refine wpAny_mono (JT Ri (wpAny_looks_onW (M:=M) (A:=A) (E:=fun _ _=>False) (Q:=fun _ s'=>∃h',s'={s with heap:=h'}∧Heap.HeldW base (env::outer) e C a0 L h'∧s.heap.UpToSlots h') fr lo fl fun h' z1 z2=>⟨h',rfl,z1,z2⟩)) (fun _ s' z=>?_) fun _ _ z=>z.1.elim
 obtain ⟨⟨h',rfl,z1,z2⟩,D⟩:=z
 exact q h' z1 z2 D
theorem Y1 {M:Model} {A:Around} {E:Value→Shared→Prop} {s:Shared} {base:Heap} {l:List Env} {e L:Addr} {C a0:Value} {Q:Unit→Shared→Prop} (held:Heap.HeldW base l e C a0 L s.heap)
 (q:∀h',Heap.FlyingW base l e C a0 h'→s.heap.UpToSlots h'→Dicts s.heap h'→Q () {s with heap:=h'}):wpAny M A (setFlight (.ref e) none) Q E s:=by
 refine wpAny_mono (JT N1 (wpAny_landsW (M:=M) (A:=A) (E:=fun _ _=>False) (Q:=fun _ s'=>∃h',s'={s with heap:=h'}∧Heap.FlyingW base l e C a0 h'∧s.heap.UpToSlots h') held fun h' z1 z2=>⟨h',rfl,z1,z2⟩)) (fun _ s' z=>?_) fun _ _ z=>z.1.elim
 obtain ⟨⟨h',rfl,z1,z2⟩,D⟩:=z
 exact q h' z1 z2 D
theorem Y2 {M:Model} {A:Around} {E:Value→Shared→Prop} {s:Shared} {base:Heap} {l:List Env} {e:Addr} {C a0:Value} {Q:Unit→Shared→Prop} (held:Heap.FlyingW base l e C a0 s.heap)
 (q:∀h',Heap.FlyingW base l e C a0 h'→s.heap.UpToSlots h'→Dicts s.heap h'→Q () {s with heap:=h'}):wpAny M A (setFlight (.ref e) none) Q E s:=by
 refine wpAny_mono (JT N1 (lands_againW (M:=M) (A:=A) (E:=fun _ _=>False) (Q:=fun _ s'=>∃h',s'={s with heap:=h'}∧Heap.FlyingW base l e C a0 h'∧s.heap.UpToSlots h') held fun h' z1 z2=>⟨h',rfl,z1,z2⟩)) (fun _ s' z=>?_) fun _ _ z=>z.1.elim
 obtain ⟨⟨h',rfl,z1,z2⟩,D⟩:=z
 exact q h' z1 z2 D
section
variable {X:Cx} {pins:List (Addr×Obj)} {σ:L2.St} {H:Hp} {s:Shared}
theorem Inv.track {a:Addr} {o:HO} (I:Inv X pins σ H s) (new:X.s₀.heap.get? a=none) (no:H a=none) (hL:a≠X.env.locals) (hc:∀x c,X.env.cells.lookup x=some c→c≠a) (hp:∀p∈X.pn++pins,p.1≠a) (ok:ObjOk X.prog X.w (Av H a o) s.heap a o):
 Inv X pins σ (Av H a o) s:=by
 have ne:∀b u,H b=some u→b≠a:=fun b u e=>Cr e no
 refine ⟨I.ok,I.os,I.bare,⟨I.base.keep,I.base.slot,fun b ob e n hx=>?_,I.base.there,fun b xs e=>?_,fun b ob u e=>?_,fun b ps e=>?_⟩,I.loc,I.cell,?_,fun x c e=>?_,fun p hp'=>?_,fun b u e=>?_,I.len⟩
 ·rw [AF (fun z=>by rw [z,new] at e;cases e)];exact I.base.free b ob e n hx
 ·have:=I.base.tups b xs e
  rw [AF (ne _ _ this)];exact this
 ·have:=I.base.frzs b ob u e
  rw [AF (ne _ _ this)];exact this
 ·obtain ⟨more,this⟩:=I.base.tbls b ps e
  exact ⟨more,by rw [AF (ne _ _ this)];exact this⟩
 ·rw [AF (Ne.symm hL)];exact I.free
 ·rw [AF (hc x c e)];exact I.freeC x c e
 ·obtain ⟨a1,a2,a3⟩:=I.pin p hp'
  exact ⟨a1,by rw [AF (hp p hp')];exact a2,a3⟩
 ·by_cases hb:b=a
  ·subst hb
   rw [B9] at e
   cases e
   exact ok
  ·rw [AF hb] at e
   exact (I.hok b u e).stay (fun _ _ _ q=>q) (fun c q=>by rw [AF (ne _ _ q)];exact q) fun c xs q=>by rw [AF (ne _ _ q)];exact q
theorem Inv.locals {σ':L2.St} {h':Heap} {m':Str→Option Value} {t':Nat} (I:Inv X pins σ H s) (hn':h'.Ns X.env.locals m') (hs:Heap.SameBut X.env.locals s.heap h')
 (hl:∀(i:Nat) (x:Str) (v:V),X.N[i]?=some x→σ'[i]?=some (some v)→KJ X.env.scope x→∃u,RelV v u∧PH X.env h' m' x u) (len:σ'.length=σ.length):Inv X pins σ' H {s with heap:=h',toks:=t'}:=by
 obtain ⟨m,hn,_⟩:=id I.loc
 obtain ⟨oL,_,_,hoL,_⟩:=id hn
 have neL:∀b o,X.s₀.heap.get? b=some o→b≠X.env.locals:=fun b o e=>By (A1 (AO e) I.ok.above)
 refine ⟨I.ok,I.os,I.bare,⟨fun b o e n hb hx=>?_,fun b o e n hb hx=>?_,I.base.free,fun b o e hx=>?_,I.base.tups,I.base.frzs,I.base.tbls⟩,⟨_,hn',hl⟩,fun y c e=>?_,I.free,I.freeC,fun p hp=>?_,fun b ob e=>?_,len.trans I.len⟩
 ·exact (hs.2 b (neL b o e)).trans (I.base.keep b o e n hb hx)
 ·obtain ⟨sl,e1⟩:=I.base.slot b o e n hb hx
  exact ⟨sl,(hs.2 b (neL b o e)).trans e1⟩
 ·obtain ⟨o',e1⟩:=I.base.there b o e hx
  exact ⟨o',(hs.2 b (neL b o e)).trans e1⟩
 ·obtain ⟨v,z⟩:=I.cell y c e
  exact ⟨v,z.sameBut hs (I.cne y c e)⟩
 ·obtain ⟨a1,a2,a3,a4⟩:=I.pin p hp
  exact ⟨(hs.2 _ a3).trans a1,a2,a3,a4⟩
 ·refine (I.hok b ob e).stay (fun c w' hc q=>(hs.2 c ?_).trans q) (fun _ q=>q) fun _ _ q=>q
  rintro rfl
  have hfree:=I.free
  rcases hc with rfl |hc
  ·rw [hfree] at e;cases e
  ·rw [hfree] at hc;cases hc
theorem Y3 {M:Model} {A:Around} {E:Value→Shared→Prop} {n:Str} {pos:Pos} {i:Nat} {Q:Unit→Shared→Prop} (I:Inv X pins σ H s) (hN:X.N.Nodup) (hi:X.N[i]?=some n) (hl:X.env.kindOf n=some .local)
 (h:∀s',Inv X pins (σ.set i none) H s'→Q () s'):wpAny M A (do bindName X.env n .none;unbindBehindTheSuite X.env n pos) Q E s:=by
 have hp:(X.env.scope.kind==.class||(X.env.scope.kind==.module&&X.env.locals != X.env.globals))=false:=by rw [I.ok.kind];rfl
 refine wpAny_bind (wpAny_bindName (KL (v:=.non) I hN hi (.inl hl) rfl (fun s1 I1 _=>?_) (.inr hl)))
 unfold unbindBehindTheSuite
 refine wpAny_onRaise ?_
 unfold unbindName
 refine wpAny_bind (wpAny_point (wpAny_bind ?_))
 unfold deleteName
 simp only [hl,hp]
 rw [if_neg (by decide)]
 obtain ⟨m1,hn1,hl1⟩:=I1.loc
 have hin:(m1 n).isSome=true:=by
  have hiσ:i < σ.length:=by rw [I.len];exact (qa3.mp hi).1
  obtain ⟨u,_,lk⟩:=hl1 i n .non hi (by rw [Cf hiσ]) (.inl hl)
  rcases lk with ⟨_,z⟩ |⟨z,_⟩
  ·rw [z];rfl
  ·rcases z with z |z<;>(rw [hl] at z;cases z)
 refine wpAny_bind (wpAny_nsDel_keeps hn1 fun h2 v hn2 hs2=>?_)
 simp only [hin,if_true,Bool.not_true,Dv,if_false]
 refine wpAny_pure (wpAny_point (h _ (Inv.locals (t':=s1.toks) (I1.weak (σ':=σ.set i none) (by simp) fun j v' e=>?_) hn2 hs2 (fun j x v' e1 e2 e3=>?_) rfl)))
 ·by_cases hj:i=j
  ·subst hj
   have hiσ:i < σ.length:=by rw [I.len];exact (qa3.mp hi).1
   rw [Cf hiσ] at e;cases e
  ·rw [B4 hj] at e ⊢;exact e
 ·have hj:i≠j:=by
   rintro rfl
   have hiσ:i < σ.length:=by rw [I.len];exact (qa3.mp hi).1
   rw [Cf hiσ] at e2;cases e2
  rw [B4 hj] at e2
  obtain ⟨u,r,lk⟩:=hl1 j x v' e1 (by rw [B4 hj];exact e2) e3
  have hx:x≠n:=fun z=>hj (MW hN hi (z ▸ e1))
  refine ⟨u,r,?_⟩
  rcases lk with ⟨k1,k2⟩ |⟨k1,c,k2,k3⟩
  ·exact .inl ⟨k1,(if_neg hx).trans k2⟩
  ·exact .inr ⟨k1,c,k2,k3.sameBut hs2 (I1.cne x c k2)⟩
end
def FV:List (Str×D)→Option (List (Str×Int))
 |[]=>some []
 |(f,.int i)::r=>(FV r).map fun l=>(f,i)::l
 |_=>none
theorem RS:∀{fs:List (Str×D)} {is:List (Str×Int)} {f:Str} {i:Int},FV fs=some is→is.lookup f=some i→fs.lookup f=some (.int i)
 |[],is,f,i,e,l=>by cases e;cases l
 |(g,d)::r,is,f,i,e,l=>by
  cases d with
  |int j=>
   simp only [FV] at e
   cases er:FV r with
   |none=>rw [er] at e;cases e
   |some l2=>
    rw [er] at e
    cases e
    rw [GI] at l ⊢
    cases hb:f==g with
    |true=>rw [hb] at l;cases l;rfl
    |false=>rw [hb] at l;exact RS er l
  |_=>cases e
open Classical in
noncomputable def LI (a:Addr) (vs:List V) (Fk:List D→HD→Out D) (f:ME):MS:=fun ρ h=>match (ρ[0]?:Option (Option D)),(h[0]?:Option DE) with
 |some (some (.clo a' vs' ds)),some .tab=>if a'=a∧vs'=vs then (match f (ds.map some) h with
  |.ok _ h1=>.ok (.nx,ρ) h1
  |.err (.str n _) fs h1=>if n∈excNames then (match FV fs with
   |some is=>(match Fk [.exc n is] h1 with
    |.ok d h2=>.ok (.nx,(ρ.set 1 (some d)).set 2 none) h2
    |_=>.stuck)
   |none=>.stuck) else .stuck
  |_=>.stuck) else .stuck
 |_,_=>.stuck
structure SaidX (X:Cx) (P a c':Addr) (lpos:Pos) (Nc:List Str) (params:Arguments) (body:Expr) (scope:Scope) (cl:List (Str×Addr)) (pm ctv:Value) (vs:List V):Prop where
 N:X.N=(["_law_call","_law_word","_law_e"]:List Str)
 k0:X.env.kindOf "_law_call"=some .local
 k1:X.env.kindOf "_law_word"=some .local
 k2:X.env.kindOf "_law_e"=some .local
 tp:∃c,tabP X.K=some (c,P)
 tb:∃ps,X.H₀ P=some (.tbl ps)∧TriplesOk ps.toList∧codeAmong lpos ps.toList=some (.ref c')
 ob:X.s₀.heap.get? a=some (kla_obj "<lambda>" BS params body scope cl pm c' ctv)
 no:X.H₀ a=none
 nf:a∉X.fs
 clo:JW X.s₀.heap X.H₀ X.outer Nc scope cl vs
section
variable {X:Cx} {E:XK} {P a c':Addr} {lpos:Pos} {Nc:List Str} {params:Arguments} {body:Expr} {scope:Scope} {cl:List (Str×Addr)} {pm ctv:Value} {vs:List V}
theorem Y4 {M:Model} {A:Around} {E:Value→Shared→Prop} {s:Shared} {a:Addr} {o:Obj} {fd:FuncData} {Q:Value→Shared→Prop} {env:Env} {pos:Pos} (h0:s.heap.get? a=some o) (hd:o.data=.func fd) (h:wpAny M A (call (.ref a) []) Q E s):
 wpAny M A (callWith pos (.ref a) [] (backTo pos (starEach [] env)) []) Q E s:=
 callWith_of (P:=fun h=>h.get? a=some o) rfl (fun h e=>⟨.frame,.inl rfl,(Looks.ld (part:=none) e).andThen (by rw [hd];exact .now)⟩) (evalArgs_nil3 ⟨h0,h⟩)
theorem SaidX.cloNow (S:SaidX X P a c' lpos Nc params body scope cl pm ctv vs) (lv:Lv X E) {pins:List (Addr×Obj)} {σ:L2.St} {H:Hp} {s:Shared} (I:Inv X pins σ H s):JW s.heap H X.stack Nc scope cl vs∧s.heap.get? a=some (kla_obj "<lambda>" BS params body scope cl pm c' ctv):=by
 have B:Un X.fs [] X.H₀ H X.s₀.heap s.heap:=by have:=I.base;rw [lv.ex] at this;exact this
 have keep:∀c v,X.s₀.heap.IsCell c v→X.H₀ c=none→c∉X.fs→s.heap.IsCell c v:=fun c v z1_ n f=>by obtain ⟨o,e,d⟩:=z1_;exact (⟨o,B.keep c o e n f (by simp),d⟩)
 refine ⟨⟨S.clo.len,S.clo.inj,S.clo.has,fun x c e=>?_,fun i x v e1 e2=>?_⟩,B.keep a _ S.ob S.no S.nf (by simp)⟩
 ·obtain ⟨⟨v,q⟩,n,f⟩:=S.clo.cell x c e
  obtain ⟨o,e1,d⟩:=id q
  refine ⟨⟨v,keep c v q n f⟩,B.free c o e1 n (by simp),fun z=>?_⟩
  rw [lv.frs] at z
  rcases qa5.mp z with z |z
  ·exact absurd (A1 (AO e1) I.ok.above) (by rw [z];exact DB _)
  ·exact f z
 ·obtain ⟨hf,c,u,e3,e4,r⟩:=S.clo.val i x v e1 e2
  obtain ⟨_,n,f⟩:=S.clo.cell x c e3
  exact ⟨hf,c,u,e3,keep c _ e4 n f,r⟩
def Gv (X:Cx) (e:Addr):Cx:={X with A:=X.A.mark (some (.ref e)),calm:=false,xe:=fun _ _=>False}
theorem Inv.marked {pins:List (Addr×Obj)} {σ:L2.St} {H:Hp} {s:Shared} {e:Addr} (I:Inv X pins σ H s):Inv (Gv X e) pins σ H s:=
 ⟨⟨I.ok.mod,I.ok.kind,I.ok.glob,I.ok.blt,I.ok.above,I.ok.inj,I.ok.has,I.ok.cab,fun z=>(nomatch z),I.ok.frames,I.ok.stk,I.ok.exf,I.ok.bs,I.ok.bsz,I.ok.noex,I.ok.exfs,I.ok.funs,I.ok.frf⟩,I.os,I.bare,I.base,I.loc,I.cell,I.free,I.freeC,I.pin,I.hok,I.len⟩
theorem Inv.unmarked {pins:List (Addr×Obj)} {σ:L2.St} {H:Hp} {s:Shared} {e:Addr} (ok:X.Ok) (I:Inv (Gv X e) pins σ H s):Inv X pins σ H s:=
 ⟨ok,I.os,I.bare,I.base,I.loc,I.cell,I.free,I.freeC,I.pin,I.hok,I.len⟩
theorem Y5 {k:Nat} {Fk:List D→HD→Out D} {f:ME} {p4 p5 p6 p7 p8 p9 p10 p11 p12 p13 p14:Pos} (lv:Lv X E) (S:SaidX X P a c' lpos Nc params body scope cl pm ctv vs) (hr:Room (k+1) X.A) (et:etOk X.K=true) (hsw:∃Sw,nsIn X.K mainGlobals "SwitchError"=some (some (.ref Sw)))
 (hgS:X.env.kindOf "SwitchError"=some .globalImplicit) (hgK:X.env.kindOf "_law_kind"=some .globalImplicit)
 (hkind:CaM X.prog X.w X.K X.mg X.base "_law_kind" k Fk) (hL:LamSc scope) (hbind:bindArgs (kla_fn "<lambda>" BS params body scope cl pm (.ref c') ctv) ⟨[],[]⟩=pure [])
 (hb:∀(s:Shared) (H:Hp) (E':XK),Room k (X.A.deeper (envX BS scope s.heap.objs.size a (.ref c') cl))→Ev (FU X.prog X.w X.K X.mg X.base Nc scope a (.ref c') cl X.A X.stack s H E') E' body f):
 Ex X E (.Try [.Expr (.Call (.Name "_law_call" p4) [] [] p5) p6] [.ExceptHandler (some (.Name "SwitchError" p7)) (some "_law_e") [.Assign [.Name "_law_word" p8] (.Call (.Name "_law_kind" p9) [.Name "_law_e" p10] [] p11) p12] p13] [] [] p14) (LI a vs Fk f):=by
 rintro pins s σ H Dn I ⟨m,ρ,h,hr1,er,p⟩
 refine Classical.byContradiction fun nG=>?_
 have hN0:X.N[0]?=some ("_law_call":Str):=by rw [S.N];rfl
 have hN1:X.N[1]?=some ("_law_word":Str):=by rw [S.N];rfl
 have hN2:X.N[2]?=some ("_law_e":Str):=by rw [S.N];rfl
 have nd:X.N.Nodup:=by rw [S.N];decide +kernel
 obtain ⟨Sw,hSw⟩:=hsw
 unfold LI at p
 split at p
 ·rename_i a' vs' ds e0 et0
  split at p
  ·rename_i hav
   obtain ⟨rfl,rfl⟩:=hav
   obtain ⟨C,ob⟩:=S.cloNow lv I
   obtain ⟨v0,hv0,rv0⟩:=er.2 0 _ e0
   simp only [DV] at rv0
   obtain ⟨rfl,rds⟩:=rv0
   obtain ⟨aP,haP,tab⟩:=hr1.at et0
   obtain ⟨⟨cc,htp⟩,ps2,hps2,htr2,hcs2⟩:=tab
   obtain ⟨cc',htp'⟩:=S.tp
   rw [htp'] at htp
   cases htp
   obtain ⟨ps,hps,htr,hca⟩:=S.tb
   obtain ⟨more,hmore⟩:=I.base.tbls P ps hps
   have hca2:codeAmong lpos ps2.toList=some (.ref c'):=by
    have e:=hmore.symm.trans hps2
    cases e
    rw [Array.toList_append]
    exact YS htr hca
   obtain ⟨c2,e2,hx2⟩:=hcs2 lpos _ hca2
   cases e2
   have hcd:s.heap.CodeRec (.ref c') BS:=(I.hok c' _ hx2).1
   have run:∀(Q:VK) (E':XK),Post X.K (rD X.K) m H E' Q (f (ds.map some) h)→codeAny (model X.prog X.w) X.A (.call (.ref a') ⟨[],[]⟩) (CR (AK X.prog X.w X.K) X.stack X.prog X.w H s Q E') s:=fun Q E' q=>
    YW hL hr I.env0 C ob hcd hbind (hb s H E') ⟨m,ds,h,hr1,rds,q⟩
   have start:∀{Q:Flow→Shared→Prop} {EE:Value→Shared→Prop},codeAny (model X.prog X.w) X.A (.call (.ref a') ⟨[],[]⟩) (fun r s'=>match r with |.ok (.ret u)=>Q .next s' |.error e=>EE e s' |_=>False) s→
    wpAny (model X.prog X.w) X.A (execs [.Expr (.Call (.Name "_law_call" p4) [] [] p5) p6] X.env) Q EE s:=fun {Q EE} hc=>by
    refine wpAny_execs_cons (wpAny_Expr_any (wpAny_Call_Name_kw ?_) I.quiet rfl)
    obtain ⟨m0,hn0,hl0⟩:=I.loc
    obtain ⟨u,ru,lk⟩:=hl0 0 "_law_call" (.ref a') hN0 hv0 (.inl S.k0)
    cases (show u=Value.ref a' from ru)
    rcases lk with ⟨hk,hm⟩ |⟨z,_⟩
    ·refine wpAny_Name (wpAny_loadName_local I.ok.kind hk hn0 hm (Y4 ob rfl (wpAny_call (codeAny_mono hc fun r s' hq=>?_)))) (by decide)
     cases r with
     |error e=>exact hq
     |ok fl=>
      cases fl with
      |ret u=>exact wpAny_execs_nil hq
      |next=>exact hq.elim
      |brk=>exact hq.elim
      |cont=>exact hq.elim
    ·rcases z with z |z<;>(rw [S.k0] at z;cases z)
   refine nG (wpAny_Try_except (start ?_))
   clear nG
   refine Classical.byContradiction fun nG=>?_
   cases ho:f (ds.map some) h with
   |stuck=>rw [ho] at p;exact p.elim
   |ok d h1=>
    rw [ho] at p
    refine nG (codeAny_mono (run (fun v H'=>∃m',m <+:m'∧Kp H H'∧HR X.K m' h1 H') E0 (by rw [ho];exact fun v m' H' p1 k1 hr' _=>⟨m',p1,k1,hr'⟩)) fun r s' hq=>?_)
    cases r with
    |error e=>
     obtain ⟨_,_,_,_,_,_,_,_,_,_,_,_,q⟩:=hq
     exact q.elim
    |ok fl=>
     cases fl with
     |ret u=>
      obtain ⟨v,H',os,bare,un,hok,_,m',p1,k1,hr'⟩:=hq
      exact wpAny_execs_nil ⟨σ,H',I.call' os un hok bare (fun b hb=>absurd hb (by simp)),p m' H' p1 k1 hr' σ (er.keep p1 k1)⟩
     |next=>exact hq.elim
     |brk=>exact hq.elim
     |cont=>exact hq.elim
   |err Cv fs h1=>
    rw [ho] at p
    cases Cv with
    |str n t=>
     simp only at p
     split at p
     ·rename_i hn
      refine nG (codeAny_mono (run (fun _ _=>False) (fun C' da H'=>C'=.str n t∧∃m',m <+:m'∧Kp H H'∧HR X.K m' h1 H'∧XD X.K m' H' fs da) (by rw [ho];exact fun da m' H' p1 k1 hr' xd=>⟨rfl,m',p1,k1,hr',xd⟩)) fun r s1 hq=>?_)
      clear nG
      cases r with
      |ok fl=>
       cases fl with
       |ret u=>obtain ⟨_,_,_,_,_,_,_,z⟩:=hq;exact z.elim
       |next=>exact hq.elim
       |brk=>exact hq.elim
       |cont=>exact hq.elim
      |error e=>
       obtain ⟨ae,Cc,n',da,H',rfl,os,bare,un,hok,fly,nm,hE,m',p1,k1,hr',xd⟩:=hq
       refine Classical.byContradiction fun nG=>?_
       have hnn:n'=n:=by cases hE;rfl
       subst hnn
       have I1:Inv X pins σ H' s1:=I.call' os un hok bare (fun b hb=>absurd hb (by simp))
       obtain ⟨fnew,fno,oe,ws,a0,T,oT,ts,e1,e2,e3,e4,e5,e6,e7,e8,e9,e10,e11⟩:=fly
       have fro:X.A.frames=some (X.env::X.outer):=by rw [←lv.stk];exact I1.ok.frames
       have stk:s1.heap.FunFrames X.base (X.env::X.outer):=by have:=I1.stack;rw [lv.stk] at this;exact this
       have frN:∀b∈frs X.stack,H' b=none:=fun b hb=>I1.stkFree b hb
       have frO:∀b∈frs X.stack,∃o,s1.heap.get? b=some o∧∀vs,o.data≠.fields vs:=fun b hb=>(I1.stack.mem hb).2
       have fly0:Heap.FlyingW (blank (fun b=>b=ae∨b=T∨b∈frs X.stack) s1.heap) (X.env::X.outer) ae (.ref Cc) a0 s1.heap:=
        ⟨N2,G9 (.inl rfl),Lp stk fun b hb=>.inr (.inr (by rw [lv.stk];exact hb)),oe,ws,T,oT,ts,e1,e2,e3,e4,G9 (.inr (.inl rfl)),e7,e8,e9,e10⟩
       refine nG (Y0 fro lv.fr fly0 fun h4 held4 sm4 D4=>?_)
       clear nG
       refine Y1 held4 fun h5 held5 sm5 D5=>?_
       refine Classical.byContradiction fun nG=>?_
       obtain ⟨un5,hok5,fly5⟩:=RR un hok fnew e5 fno e6 frN frO held5.1 (sm4.trans sm5) held5.2.2.2 e1 e11 (D4.trans D5)
       have I5:Inv X pins σ H' {s1 with heap:=h5}:=I.call' (s':={s1 with heap:=h5}) os un5 hok5 bare (fun b hb=>absurd hb (by simp))
       have hmS:X.mg "SwitchError"=some (.ref Sw):=mg_of I.mod.kin I.mod.glob hSw
       have T5:=LG et hn nm
       obtain ⟨_,_,oe5,ws5,_,_,_,_,f1,f2,f3,_⟩:=id fly5
       refine nG (wpAny_handleBy_cons (codeAny_handlers_test ?_) (by intro q;cases q))
       clear nG
       refine Calls.Name_function_global I5.ok.kind hgS (Calls.loadGlobal_global (by rw [I5.ok.glob];exact I5.mod.glob.keeps I5.bk) hmS ?_) (by decide)
       refine (exm_one (M:=model X.prog X.w) I5.kIn (TyAt.type ⟨oe5,f1,f2.1⟩) (T5.sw Sw hSw)).here ?_
       simp only [if_true]
       refine codeAny_handlers_suite_as (Y2 held5 fun h6 held6 sm6 D6=>?_)
       obtain ⟨un6,hok6,fly6⟩:=RR un hok fnew e5 fno e6 frN frO held6.1 ((sm4.trans sm5).trans sm6) held6.2.2.2 e1 e11 ((D4.trans D5).trans D6)
       have I6:Inv X pins σ H' {s1 with heap:=h6}:=I.call' (s':={s1 with heap:=h6}) os un6 hok6 bare (fun b hb=>absurd hb (by simp))
       obtain ⟨_,_,oe6,ws6,_,_,_,_,g1,g2,g3,_,_,_,_,_,_,_,g11⟩:=id fly6
       have older:∀b,s.heap.get? b=none→X.s₀.heap.get? b=none:=lv.older I
       have xok:ObjOk X.prog X.w (Av H' ae (.ext (Gg Cc da ae))) h6 ae (.ext (Gg Cc da ae)):=
        ⟨⟨oe6,ws6,g1,g2.1,fun d z=>g11.trans z,g3⟩,⟨oe6,g1⟩,fun ha hb' z2_ k'=>by obtain ⟨o,w',z1,z2,z3,z4⟩:=z2_;exact (⟨o,w',k' o z1,z2,z3,z4⟩)⟩
       have neL:ae≠X.env.locals:=fun z=>by
        obtain ⟨mL,⟨oL,_,_,hoL,_⟩,_⟩:=I.loc
        rw [←z,fnew] at hoL;cases hoL
       have neC:∀x c,X.env.cells.lookup x=some c→c≠ae:=fun x c ex z=>by
        obtain ⟨v,o,hoc,_⟩:=I.cell x c ex
        rw [z,fnew] at hoc;cases hoc
       have neP:∀q∈X.pn++pins,q.1≠ae:=fun q hq z=>by
        have:=(I.pin q hq).1
        rw [z,fnew] at this;cases this
       have I6':=LS.Inv.track I6 (older ae fnew) fno neL neC neP xok
       have kx:Kp H' (Av H' ae (.ext (Gg Cc da ae))):=.new fno
       refine KL (v:=.ref ae) I6' nd hN2 (.inl S.k2) rfl (fun s7 I7 _=>?_) (.inr S.k2)
       split at p
       rename_i is his
       split at p
       ·rename_i d h2 hk2
        have hr7:HR X.K m' h1 (Av H' ae (.ext (Gg Cc da ae))):=hr'.new fno
        have er7:ER X.K m' (Av H' ae (.ext (Gg Cc da ae))) (ρ.set 2 (some (.exc n' is))) (σ.set 2 (some (.ref ae))):=
         ((er.keep p1 k1).keep (AC _) kx).set (by simp only [DV];exact ⟨ae,Cc,da,rfl,nm,B9,fun f i z=>by
           obtain ⟨b,fv,v,q1,q2,q3,q4⟩:=xd f _ (RS his z)
           simp only [DV] at q4
           exact ⟨b,fv,q1,by rw [AF (Cr q2 fno)];exact q2,by rw [q3,q4]⟩⟩)
        have hρ:2 < ρ.length:=by rw [er.1,I.len,S.N];decide
        have sx:A8 (Gv X ae) E0 [.Assign [.Name "_law_word" p8] (.Call (.Name "_law_kind" p9) [.Name "_law_e" p10] [] p11) p12] (Ay 1 (Ah Fk (Aa (Ab 2) Ae))):=
         AD (AV (X:=Gv X ae) (i:=1) nd hN1 (YZ (X:=Gv X ae) hkind (RoomM.of hr _) (Ad (Ac (X:=Gv X ae) (MY (X:=Gv X ae) hN2 (.inl S.k2))) Ag) (Nat.le_succ _) hgK) (Or.inl S.k1) (hf:=.inr S.k1))
        have post:Iu (Gv X ae).K E0 (Ay 1 (Ah Fk (Aa (Ab 2) Ae))) {nx:=fun σ' H''=>Dn.nx (σ'.set 2 none) H'',rt:=fun _ _=>False} (σ.set 2 (some (.ref ae))) (Av H' ae (.ext (Gg Cc da ae))):=by
         refine ⟨m',ρ.set 2 (some (.exc n' is)),h1,hr7,er7,?_⟩
         have ev:Ay 1 (Ah Fk (Aa (Ab 2) Ae)) (ρ.set 2 (some (.exc n' is))) h1=.ok (.nx,(ρ.set 2 (some (.exc n' is))).set 1 (some d)) h2:=by
          unfold Ay Ah Aa Ae Ab
          rw [Cf hρ]
          simp only [Out.bind_ok]
          rw [hk2]
          rfl
         rw [ev]
         intro m2 H2 p2 k2 hr2 σ' er2
         refine p m2 H2 (p1.trans p2) ((k1.trans kx).trans k2) hr2 _ ⟨by simp [er2.1.symm],fun i di e=>?_⟩
         by_cases hi:2=i
         ·subst hi
          rw [Cf (by simpa using hρ)] at e
          cases e
         ·rw [B4 hi] at e
          obtain ⟨v,z1,z2⟩:=er2.2 i di (by
           by_cases h1i:1=i
           ·subst h1i
            rw [Cf (by omega)] at e
            rw [Cf (by simp;omega)];exact e
           ·rw [B4 h1i] at e
            rw [B4 h1i,B4 hi];exact e)
          exact ⟨v,by rw [B4 hi];exact z1,z2⟩
        refine wpAny_mono (sx pins s7 _ _ _ (Inv.marked I7) post) (fun fl s8 h8=>?_) fun _ _ z=>False.elim z
        cases fl with
        |next=>
         obtain ⟨σ',H'',I8,q8⟩:=h8
         exact Y3 (Inv.unmarked I.ok I8) nd hN2 S.k2 fun s9 I9=>⟨_,H'',I9,q8⟩
        |ret u=>obtain ⟨_,_,_,_,_,z⟩:=h8;exact False.elim z
        |brk=>obtain ⟨_,_,_,z⟩:=h8;exact False.elim z
        |cont=>obtain ⟨_,_,_,z⟩:=h8;exact False.elim z
       ·exact p.elim
       ·exact p.elim
     ·exact p.elim
    |_=>exact p.elim
  ·exact p.elim
 ·exact p.elim
end
noncomputable def Oe (Fk:List D→HD→Out D):Out D→Out D
 |.ok _ h1=>.ok (.str "told") h1
 |.err (.str n _) fs h1=>if n∈excNames then (match FV fs with
  |some is=>(match Fk [.exc n is] h1 with
   |.ok d h2=>.ok d h2
   |_=>.stuck)
  |none=>.stuck) else .stuck
 |_=>.stuck
noncomputable def E1 (cs:List Nat) (Fk:List D→HD→Out D) (f:ME):ME:=fun ρ h=>match (h[0]?:Option DE),AS (cs.map fun j=>(ρ[j]?).join) with
 |some .tab,some ds=>Oe Fk (f (ds.map some) h)
 |_,_=>.stuck
structure LSc (X:Cx) (scope:Scope) (Nc:List Str) (cs:List Nat):Prop where
 lam:LamSc scope
 nd:(scope.names.map (·.1)).Nodup
 free:(scope.names.all fun y=>y.2 != .free||(X.env.kindOf y.1==some .cell||X.env.kindOf y.1==some .free))=true
 len:cs.length=Nc.length
 out:((Nc.zip cs).all fun p=>X.N[p.2]?==some p.1&&scope.names.lookup p.1==some .free)=true
theorem LSc.at_ {X:Cx} {scope:Scope} {Nc:List Str} {cs:List Nat} (S:LSc X scope Nc cs) {i j:Nat} {x:Str} (h1:Nc[i]?=some x) (h2:cs[i]?=some j):X.N[j]?=some x∧scope.names.lookup x=some .free:=by
 have hz:(Nc.zip cs)[i]?=some (x,j):=by
  rw [List.getElem?_zip_eq_some]
  exact ⟨h1,h2⟩
 have:=qaT.mp S.out (x,j) (GD hz)
 simpa using this
theorem LSc.fr {X:Cx} {scope:Scope} {Nc:List Str} {cs:List Nat} (S:LSc X scope Nc cs):∀y∈scope.names,y.2=.free→X.env.kindOf y.1=some .cell∨X.env.kindOf y.1=some .free:=fun y hy e=>by
 have:=qaT.mp S.free y hy
 rw [e] at this
 simpa using this
theorem RT {K:Frag} {m:List Addr} {H:Hp} {ρ:Ai} {σ:L2.St} (er:ER K m H ρ σ):∀{cs:List Nat} {ds:List D},AS (cs.map fun j=>(ρ[j]?).join)=some ds→∃vs,DVs K m H ds vs∧vs.length=cs.length∧∀(i:Nat) (v:V),vs[i]?=some v→∃j,cs[i]?=some j∧σ[j]?=some (some v)
 |[],ds,e=>by
  simp [AS] at e
  subst e
  exact ⟨[],.nil,rfl,fun i v z=>by simp at z⟩
 |j::cs,ds,e=>by
  rw [Bx] at e
  cases ed:(ρ[j]?).join with
  |none=>rw [ed] at e;simp [AS] at e
  |some d=>
   rw [ed] at e
   simp only [AS,qb0] at e
   obtain ⟨ds',e1,rfl⟩:=e
   obtain ⟨vs,h1,h2,h3⟩:=RT er e1
   obtain ⟨v,e2,r⟩:=er.2 j d (join_some.mp ed)
   refine ⟨v::vs,.cons r h1,by simp [h2],fun i v' z=>?_⟩
   cases i with
   |zero=>simp at z;subst z;exact ⟨j,rfl,e2⟩
   |succ i=>simpa using h3 i v' (by simpa using z)
section
variable {X:Cx} {E:XK} {c P:Addr} {Nc:List Str} {cs:List Nat} {params:Arguments} {body:Expr} {scope:Scope}
theorem Y6 {α:Type} {l:List (Str×α)} {x:Str} {v:α} (h:(x,v)∈l):∃w,l.lookup x=some w:=by
 cases e:l.lookup x with
 |some w=>exact ⟨w,rfl⟩
 |none=>
  have:=List.lookup_eq_none_iff.mp e _ h
  simp at this
theorem Y7 {k:Nat} {Fk:List D→HD→Out D} {f:ME} {fs:Addr} {fd:FuncData} {st:Stmt} {lpos p pos p1 p2 p3 p4 p5 p6 p7 p8 p9 p10 p11 p12 p13 p14 p15 p16:Pos} {j1:Nat} (L:LamX X c P) (fna:∀x,X.fn x=true) (hr:Room (k+2) X.A) (lv:Lv X E) (et:etOk X.K=true)
 (hsw:∃Sw,nsIn X.K mainGlobals "SwitchError"=some (some (.ref Sw)))
 (Fn:Fun X.K "_law_said" "_law_said" st fs fd) (hbd:Binds X.K fd ["_law_call"] []) (hm:X.mg "_law_said"=some (.ref fs)) (hkp:keepIn X.K (.ref fs)=true)
 (Sf:Bo ["_law_call","_law_word","_law_e"] ["_law_call"] (defScope st)) (hk0:(defScope st).names.lookup ("_law_call":Str)=some .local) (hk1:(defScope st).names.lookup ("_law_word":Str)=some .local) (hk2:(defScope st).names.lookup ("_law_e":Str)=some .local)
 (hgS:∀L' cd,(envOfC "_law_said" (defScope st) L' fs cd).kindOf "SwitchError"=some .globalImplicit) (hgK:∀L' cd,(envOfC "_law_said" (defScope st) L' fs cd).kindOf "_law_kind"=some .globalImplicit)
 (hst:defBody st=[.Assign [.Name "_law_word" p1] (.Constant (.str "told") j1 p2) p3,.Try [.Expr (.Call (.Name "_law_call" p4) [] [] p5) p6] [.ExceptHandler (some (.Name "SwitchError" p7)) (some "_law_e") [.Assign [.Name "_law_word" p8] (.Call (.Name "_law_kind" p9) [.Name "_law_e" p10] [] p11) p12] p13] [] [] p14,.Return (some (.Name "_law_word" p15)) p16])
 (hkind:CaM X.prog X.w X.K X.mg X.base "_law_kind" k Fk) (hg:Gl X "_law_said") (S:LSc X scope Nc cs) (hdef:defaultsOf params X.env=([],[]))
 (hbind:∀(cl:List (Str×Addr)) (pm cv ctv:Value),bindArgs (kla_fn "<lambda>" BS params body scope cl pm cv ctv) ⟨[],[]⟩=pure [])
 (hb:∀(a:Addr) (cd:Value) (cl:List (Str×Addr)) (A:Around) (outer:List Env) (s:Shared) (H:Hp) (E':XK),Room k (A.deeper (envX BS scope s.heap.objs.size a cd cl))→Ev (FU X.prog X.w X.K X.mg X.base Nc scope a cd cl A outer s H E') E' body f)
 (he:starEach [.Lambda params body scope lpos] X.env=(false,eval (.Lambda params body scope lpos) X.env)::starEach [] X.env:=by rfl) (hpl:(backTo pos (starEach [] X.env)).any (·.1)=false:=by rfl):
 Ev X E (.Call (.Name "_law_said" p) [.Lambda params body scope lpos] [] pos) (E1 cs Fk f):=by
 rintro pins s σ H Q I ⟨m,ρ,h,hr1,er,pp⟩
 unfold E1 at pp
 split at pp
 ·rename_i ds et0 eds
  obtain ⟨aP,haP,tab⟩:=hr1.at et0
  obtain ⟨⟨cc,htp⟩,tabr⟩:=id tab
  rw [L.tp] at htp
  cases htp
  obtain ⟨vs,dvs,vlen,vat⟩:=RT er eds
  obtain ⟨cl,hclos,hcl,hcl2⟩:=QJ (scope:=scope) (env:=X.env) fun y hy hf=>I.ok.has y.1 (S.fr y hy hf)
  refine wpAny_Call_Name_kw (Ij I hg hm ?_ (by decide))
  refine PySem.W.callWith_K (h₀:=X.base) I.ok.mod.kin hkp ?_ he hpl
  rw [he]
  show wpAny _ _ (spliced ((false,eval (.Lambda params body scope lpos) X.env)::[])) _ _ s
  refine Calls.spliced_cons (YT L I tab hdef hclos fun a c' ctv pm h' tk H' I' kp tab' same keep hsz no ob code=>?_)
  refine wpAny_pure ⟨I'.kIn,wpAny_call ?_⟩
  generalize hs1:({s with heap:=h',toks:=tk}:Shared)=s1 at I'
  have hh1:s1.heap=h':=by rw [←hs1]
  have hrN:HR X.K m h H':=hr1.tab kp same tab' tab
  have frLt:∀b∈frs X.stack,b<s.heap.objs.size:=fun b hb=>by
   obtain ⟨_,o,ho,_⟩:=I.stack.mem hb
   exact AO ho
  have cof:∀x c,cl.lookup x=some c→X.env.cells.lookup x=some c:=fun x c e=>(hcl x c (mem_of_lookup e)).1
  have hasC:∀x,scope.names.lookup x=some .free→∃c,cl.lookup x=some c:=fun x e=>by
   obtain ⟨c,hc⟩:=hcl2 _ (mem_of_lookup e) rfl
   exact Y6 hc
  have C1:JW s1.heap H' X.stack Nc scope cl vs:=by
   refine ⟨by rw [vlen,S.len],fun x y c e1 e2=>I.ok.inj x y c (cof x c e1) (cof y c e2),hasC,fun x c e=>?_,fun i x v e1 e2=>?_⟩
   ·refine ⟨I'.cell x c (cof x c e),I'.freeC x c (cof x c e),fun z=>?_⟩
    rcases qa5.mp (I.stkSub c z) with z |z
    ·exact I.cne x c (cof x c e) z
    ·obtain ⟨_,o,ho,_⟩:=I.ok.funs.mem z
     exact absurd (A1 (AO ho) (I.ok.cab x c (fna x) (cof x c e))) (DB _)
   ·obtain ⟨j,ej,sj⟩:=vat i v e2
    obtain ⟨hN,hf⟩:=S.at_ e1 ej
    have hk:=S.fr _ (mem_of_lookup hf) rfl
    obtain ⟨m0,hn0,hl0⟩:=I'.loc
    obtain ⟨u,r,lk⟩:=hl0 j x v hN sj (by rcases hk with z |z;exact .inr (.inl z);exact .inr (.inr z))
    refine ⟨hf,?_⟩
    rcases lk with ⟨z,_⟩ |⟨_,c,e3,e4⟩
    ·rcases hk with y |y<;>(rw [z] at y;cases y)
    ·obtain ⟨c2,e5⟩:=hasC x hf
     have:=cof x c2 e5
     rw [e3] at this
     cases this
     exact ⟨c,u,e5,e4,r⟩
  obtain ⟨oc,od,kV,doc,pm2,an,cdv,ct,osl,rfl,lk,hcd⟩:=Fn.ex
  have e0:=I'.env0
  have KX:X.K.In s1.heap:=I'.kIn
  have lim:s1.heap.NoLimit:=I'.nolimit
  have hkind2:∀y∈(["_law_call"]:List Str).zip [Value.ref a],(defScope st).names.lookup y.1=some .local∨((defScope st).names.lookup y.1=some .cell∧((cellsFrom (s1.heap.objs.size+1) (defScope st).names []).lookup y.1).isSome=true):=fun y hy=>by
   have:y=(("_law_call":Str),Value.ref a):=by simpa using hy
   subst this
   exact .inl hk0
  have bt:=hbd s1 [.ref a] I'.kIn rfl
  rw [El] at bt
  refine codeAny_mono (R:=CR (AK X.prog X.w X.K) X.stack X.prog X.w H' s1 Q E) ?_ fun r s' hq=>?_
  ·refine codeAny_call_function hr.depth (KX _ _ lk) rfl Sf.co Sf.gen rfl (PySem.W.codeRec_of KX hcd) (bt _ _ _ _ ?_)
   refine wpAny_newFunctionEnv_cells Sf.kind hkind2 fun env he2 s2 x=>?_
   subst he2
   refine ⟨lim.keeps x.toInCall.keep,codeAny_func ?_⟩
   have I2:Inv (AZ (AK X.prog X.w X.K) X.prog X.w X.K X.mg X.base ["_law_call","_law_word","_law_e"] "_law_said" (defScope st) fs cdv X.A X.stack s1 H' E) [] (L2.start ["_law_call","_law_word","_law_e"] [.ref a]) H' s2:=
    P5 Sf hr.hd e0 rfl (.cons rfl .nil) x
   obtain ⟨ps,hps,hca⟩:=code
   have tri:TriplesOk ps.toList:=by
    obtain ⟨_,ps',z1,z2,_⟩:=tab'
    rw [hps] at z1;cases z1;exact z2
   have SX:SaidX (AZ (AK X.prog X.w X.K) X.prog X.w X.K X.mg X.base ["_law_call","_law_word","_law_e"] "_law_said" (defScope st) fs cdv X.A X.stack s1 H' E) P a c' lpos Nc params body scope cl pm ctv vs:=
    ⟨rfl,hk0,hk1,hk2,⟨c,L.tp⟩,⟨ps,hps,tri,hca⟩,by show s1.heap.get? a=_;rw [hh1];exact ob,no,fun z=>absurd (A1 (frLt a z) hsz) (DB _),C1⟩
   have hrS:Room (k+1) (AZ (AK X.prog X.w X.K) X.prog X.w X.K X.mg X.base ["_law_call","_law_word","_law_e"] "_law_said" (defScope st) fs cdv X.A X.stack s1 H' E).A:=hr.deeper _
   have bx:=Au (AV (X:=AZ (AK X.prog X.w X.K) X.prog X.w X.K X.mg X.base ["_law_call","_law_word","_law_e"] "_law_said" (defScope st) fs cdv X.A X.stack s1 H' E) (E:=E) (i:=1) (pos:=p3) (pos':=p1) Sf.nd rfl (CV (x:="told") (j:=j1) (pos:=p2)) (Or.inl hk1))
    (Au (Y5 (p4:=p4) (p5:=p5) (p6:=p6) (p7:=p7) (p8:=p8) (p9:=p9) (p10:=p10) (p11:=p11) (p12:=p12) (p13:=p13) (p14:=p14) JU SX hrS et hsw (hgS _ _) (hgK _ _) hkind S.lam (hbind cl pm (.ref c') ctv) (fun s H E'=>hb a (.ref c') cl _ _ s H E'))
     (AD (A4 (pos:=p16) (Ac (MY (i:=1) (x:="_law_word") (pos:=p15) rfl (.inl hk1))))))
   rw [←hst] at bx
   have post:Iu X.K E (Ak (Ay 1 (mC (.str "told"))) (Ak (LI a vs Fk f) (AN (Ab 1)))) {nx:=fun _ H''=>Q .non H'',rt:=Q} (L2.start ["_law_call","_law_word","_law_e"] [.ref a]) H':=by
    refine ⟨m,[some (.clo a vs ds),none,none],h,hrN,?_,?_⟩
    ·refine ⟨rfl,fun i d e=>?_⟩
     match i,e with
     |0,e=>cases e;exact ⟨.ref a,rfl,by unfold DV;exact ⟨rfl,DVs.keep (AC _) kp dvs⟩⟩
     |1,e=>cases e
     |2,e=>cases e
     |i+3,e=>cases e
    ·have p2:=Post.ahead (AC m) kp pp
     unfold Ak Ay mC
     simp only [Out.bind_ok]
     unfold LI
     simp only [List.set_cons_succ,List.set_cons_zero,List.getElem?_cons_zero,et0,and_self,if_true]
     unfold Oe at p2
     cases ho:f (ds.map some) h with
     |stuck=>rw [ho] at p2;exact p2.elim
     |ok d h1=>
      rw [ho] at p2
      exact fun m' H'' p1 k1 hr' v rv=>p2 v m' H'' p1 k1 hr' rv
     |err Cv fs h1=>
      rw [ho] at p2
      cases Cv with
      |str n t=>
       simp only at p2 ⊢
       split at p2
       ·rename_i hn
        simp only [hn,if_true]
        cases hi:FV fs with
        |none=>rw [hi] at p2;exact p2.elim
        |some is=>
         rw [hi] at p2
         simp only at p2 ⊢
         cases hk:Fk [.exc n is] h1 with
         |stuck=>rw [hk] at p2;exact p2.elim
         |err _ _ _=>rw [hk] at p2;exact p2.elim
         |ok d h2=>
          rw [hk] at p2
          exact fun m' H'' p1 k1 hr' v rv=>p2 v m' H'' p1 k1 hr' rv
       ·exact p2.elim
      |_=>exact p2.elim
   refine wpAny_mono (bx [] s2 _ H' _ I2 post) (fun fl s' hs=>?_) fun e s' hs=>hs
   cases fl with
   |ret u=>
    obtain ⟨v,σ',H'',J,rv,q⟩:=hs
    exact ⟨v,H'',J.os,J.bare,J.base,J.hok,rv,q⟩
   |next=>
    obtain ⟨σ',H'',J,q⟩:=hs
    exact ⟨V.non,H'',J.os,J.bare,J.base,J.hok,rfl,q⟩
   |brk=>
    obtain ⟨_,_,_,q⟩:=hs
    exact False.elim q
   |cont=>
    obtain ⟨_,_,_,q⟩:=hs
    exact False.elim q
  ·cases r with
   |error e=>exact N4 lv pins σ H' s1 e s' I' hq
   |ok fl=>
    cases fl with
    |ret u=>exact I'.after hq
    |next=>exact False.elim hq
    |brk=>exact False.elim hq
    |cont=>exact False.elim hq
 ·exact pp.elim
end
def I0 (mg:Str→Option Value) (base:Heap):Prop:=∃bm o,mg "__builtins__"=some (.ref bm)∧bm≠builtinsNs∧base.get? bm=some o∧o.cls=.type "module"∧o.dict=some builtinsNs∧o.data=.plain
theorem Y8 {P:Program} {w:World} {K:Frag} {mg mb:Str→Option Value} {k:Nat} {fa a c T:Addr} {fd:FuncData} {x:Str} {F:List D→HD→Out D} {s₁:Shared} {vs:List Value} {ns:List Int}
 (KX:K.In s₁.heap) (hns:s₁.heap.Ns mainGlobals mg) (hb:s₁.heap.Ns builtinsNs mb) (hbb:∀x:Str,x≠"__name__"→mb x=bootBuiltins x) (hlim:s₁.heap.NoLimit) (hg:s₁.gens=#[]) (hbm:I0 mg s₁.heap)
 (ha:s₁.heap.get? a=some {cls:=.type "list",data:=.seq vs.toArray}) (hi:IntsAre vs ns) (hl:ns.length≤sizeLine) (hr:Room k callerA)
 (htp:tabP K=some (c,T)) (hcd:codeHdIn K c T=true) (hT:s₁.heap.get? T=some (tabObj #[])) (hKT:K.lookup T=none)
 (FF:∀base:Heap,K.In base→base.Ns mainGlobals mg→I0 mg base→FnOk P w K mg base (AK P w K) k fa fd [x] (FT K F)) (hbind:∀(s:Shared) (u:Value),BindsTo s fd ⟨[u],[]⟩ [(x,u)])
 (hF:∃h',F [.scr ns] [.tab]=.ok (.bl true) h'):
 codeAny (model P w) callerA (.call (.ref fa) ⟨[.ref a],[]⟩) (fun r s'=>r=.ok (.ret (.bool true))∧OldK s₁.heap s'.heap∧s'.os=s₁.os∧AllBare s'.gens) s₁:=by
 have rv:=L2.vals_ints hi
 have lenV:=hi.length
 have aT:a≠T:=fun z=>by rw [z,hT] at ha;cases ha
 have core:∀H:Hp,(∀b,b=T∨H b=none∨∃o xs,H b=some (.frz o (.lst xs)))→H T=some (.tbl #[])→FzL K H a (ns.map V.int)→HOk P w H s₁.heap→(∀b,H b≠none→b=a∨b=T)→(H a≠none→K.lookup a=none)→
  codeAny (model P w) callerA (.call (.ref fa) ⟨[.ref a],[]⟩) (fun r s'=>r=.ok (.ret (.bool true))∧OldK s₁.heap s'.heap∧s'.os=s₁.os∧AllBare s'.gens) s₁:=by
  intro H hO hHT hS hok hA hK
  have base_of:∀{b:Addr} {o:Obj},s₁.heap.get? b=some o→H b=none→(Fd s₁.heap H).get? b=some o:=fun e n=>UJ e n
  have noA:∀{b:Addr} {o:Obj},s₁.heap.get? b=some o→(∀its n,o.data≠.seq its n)→(∀ws,o.data≠.fields ws)→H b=none:=fun {b o} e d1 d2=>by
   cases q:H b with
   |none=>rfl
   |some u=>
    rcases hA b (by rw [q];simp) with e' |e'
    ·subst e'
     rw [ha] at e;cases e
     exact absurd rfl (d1 _ _)
    ·subst e'
     rw [hT] at e;cases e
     exact absurd rfl (d2 _)
  have nsK:∀{b:Addr} {m:Str→Option Value},s₁.heap.Ns b m→(Fd s₁.heap H).Ns b m:=fun {b m} ⟨o,es,ep,e,d,r⟩=>⟨o,es,ep,base_of e (noA e (fun _ _ z=>by rw [d] at z;cases z) (fun _ z=>by rw [d] at z;cases z)),d,r⟩
  have hKb:K.In (Fd s₁.heap H):=fun b o e=>base_of (KX b o e) (by
   cases q:H b with
   |none=>rfl
   |some u=>
    rcases hA b (by rw [q];simp) with e' |e'
    ·subst e'
     rw [hK (by rw [q];simp)] at e;cases e
    ·subst e'
     rw [hKT] at e;cases e)
  have hM:Mod K mg (Fd s₁.heap H):=⟨hKb,nsK hns,⟨mb,nsK hb,hbb⟩,let ⟨mc,h1,h2⟩:=hlim;⟨mc,nsK h1,h2⟩⟩
  have e0:Gf P w K mg (Fd s₁.heap H) callerA [] s₁ H:=⟨rfl,hM,fun b o e=>UK e,Nat.le_of_eq (UI _ _),trivial,fun b hb=>absurd (show b∈([]:List Addr) from hb) (by simp),hok,.of_eq hg⟩
  have hBM:I0 mg (Fd s₁.heap H):=by
   obtain ⟨bm,o,h1,h2,h3,h4,h5,h6⟩:=hbm
   exact ⟨bm,o,h1,h2,base_of h3 (noA h3 (fun _ _ z=>by rw [h6] at z;cases z) (fun _ z=>by rw [h6] at z;cases z)),h4,h5,h6⟩
  have hsp:FT K F [.ref a] H (fun v _=>v=.bl true) fun _ _ _=>False:=by
   obtain ⟨h',e⟩:=hF
   refine ⟨[T],[.scr ns],[.tab],⟨rfl,by simp,fun l cc b e1 e2=>?_⟩,.cons (by simp only [DV];exact ⟨a,rfl,hS⟩) .nil,?_⟩
   ·cases l with
    |zero=>
     simp at e1 e2
     subst e1 e2
     exact ⟨⟨c,htp⟩,#[],hHT,trivial,fun pos cv z=>by simp [codeAmong] at z⟩
    |succ l=>simp at e1
   ·rw [e]
    intro v m' H' _ _ _ r
    simpa [rD,DV] using r
  refine codeAny_mono ((FF _ hKb (nsK hns) hBM).run callerA [] s₁ H ⟨[.ref a],[]⟩ [.ref a] [.ref a] _ _ hr e0 (hbind s₁ (.ref a)) (.cons rfl .nil) hsp) fun r s' h=>?_
  cases r with
  |error e=>
   obtain ⟨_,_,_,_,_,_,_,_,_,_,_,_,q⟩:=h
   exact q.elim
  |ok fl=>
   cases fl with
   |next=>exact False.elim h
   |brk=>exact False.elim h
   |cont=>exact False.elim h
   |ret u=>
    obtain ⟨v,H',os,bare,un,hok',r',q⟩:=h
    have q':v=.bl true:=q
    subst q'
    obtain rfl:u=Value.bool true:=r'
    obtain ⟨more,hT'⟩:=un.tbls T _ hHT
    have hT2:s'.heap.get? T=some (tabObj (#[]++more)):=hok' T _ hT'
    have keepO:∀b o,b≠T→s₁.heap.get? b=some o→s'.heap.get? b=some o:=fun b o hbT e=>by
     cases q:H b with
     |none=>exact un.keep b o e q (by intro z;exact absurd (show b∈([]:List Addr) from z) (by simp)) (by simp)
     |some u=>
      rcases hO b with z |z |⟨ob,xs,z⟩
      ·exact absurd z hbT
      ·rw [q] at z;cases z
      ·have z2:=un.frzs b ob _ z
       obtain ⟨e1,_⟩:=hok b _ z
       obtain ⟨e2,_⟩:=hok' b _ z2
       rw [e] at e1;cases e1
       exact e2
    have hC:=codeHd_of_K KX hcd
    refine ⟨rfl,⟨fun b o e=>?_,fun b o e=>?_⟩,os,bare⟩
    ·by_cases hbT:b=T
     ·subst hbT
      rw [hT] at e
      cases e
      exact .inr (.inl ⟨(hC.tab hT).isCodeTable,rfl,#[],more,rfl,hT2⟩)
     ·exact .inl (keepO b o hbT e)
    ·by_cases hbT:b=T
     ·subst hbT;exact ⟨_,hT2⟩
     ·exact ⟨o,keepO b o hbT e⟩
 cases hk:K.lookup a with
 |some o=>
  have e:=KX a o hk
  rw [ha] at e
  cases e
  refine core (fun b=>if b=T then some (.tbl #[]) else none) (fun b=>?_) (if_pos rfl) (.inr (.inr ⟨_,vs.toArray,_,hk,rfl,rfl,rfl,by rw [A7,lenV];exact hl,by simpa using rv⟩)) (fun b u z=>?_) (fun b z=>?_) fun z=>absurd (if_neg aT) z
  ·by_cases hb:b=T
   ·exact .inl hb
   ·exact .inr (.inl (if_neg hb))
  ·by_cases hb:b=T
   ·have z':=(if_pos hb).symm.trans z
    cases z'
    subst hb
    exact hT
   ·have z':=(if_neg hb).symm.trans z
    cases z'
  ·by_cases hb:b=T
   ·exact .inr hb
   ·exact absurd (if_neg hb) z
 |none=>
  refine core (fun b=>if b=T then some (.tbl #[]) else if b=a then some (.frz {cls:=.type "list",data:=.seq vs.toArray} (.lst (ns.map V.int))) else none) (fun b=>?_) (if_pos rfl) (.inl ⟨{cls:=.type "list",data:=.seq vs.toArray},(if_neg aT).trans (if_pos rfl)⟩) (fun b u z=>?_) (fun b z=>?_) fun _=>hk
  ·by_cases hb:b=T
   ·exact .inl hb
   ·by_cases hba:b=a
    ·exact .inr (.inr ⟨_,_,(if_neg hb).trans (if_pos hba)⟩)
    ·exact .inr (.inl ((if_neg hb).trans (if_neg hba)))
  ·by_cases hb:b=T
   ·have z':=(if_pos hb).symm.trans z
    cases z'
    subst hb
    exact hT
   ·have z1:=(if_neg hb).symm.trans z
    by_cases hba:b=a
    ·have z':=(if_pos hba).symm.trans z1
     cases z'
     subst hba
     exact ⟨ha,by rw [BJ];exact hl,vs,_,rv,ha⟩
    ·have z':=(if_neg hba).symm.trans z1
     cases z'
  ·by_cases hb:b=T
   ·exact .inr hb
   ·by_cases hba:b=a
    ·exact .inl hba
    ·exact absurd ((if_neg hb).trans (if_neg hba)) z
open AutoSeq1 (wpAny_loadPart')
theorem Y9:fillsNumberSlot (.type "tuple") "mul"=pure false:=by
 first |exact noFill_tuple_mul' |(unfold fillsNumberSlot;kernel_rfl)
theorem Za:seqRepeat? (.type "tuple")=pure (some (.builtin "tuple.__mul__")):=by
 unfold seqRepeat?
 rw [PySem.seqSlot_of (T:="tuple") (name:="__mul__") (id:="tuple.__mul__") F.slot_tuple_mul.lookup (by decide +kernel),PySem.seqSlot_of (T:="tuple") (name:="__rmul__") (id:="tuple.__rmul__") (by rw [typeLookup_type,builtinLookup_eq_fast];kernel_rfl) (by decide +kernel)]
 rfl
theorem Zb (a:Int) (t:Tok) (l:Addr) (items:Array Value) (n:Nat) (dd:Option Addr) (sl:Array (Option Value)):
 Meets (Builtin.«int.__rmul__» ⟨[.int a t,.ref l],[]⟩) (fun _ R s=>s.heap.get? l=some {cls:=.type "tuple",dict:=dd,data:=.seq items n,slots:=sl}∧R (.ok (.ret Value.notImplemented)) s):=
 .of_wp fun prog w A R s h=>by
  obtain ⟨hp,g,d,tk,os⟩:=s;obtain ⟨hl,h⟩:=h
  wp_walk;exact ⟨_,rfl,h⟩
theorem Zc (l:Addr) (items:Array Value) (n:Nat) (dd:Option Addr) (sl:Array (Option Value)) (x:Int) (u:Tok) (h1:1<x) (h2:x<2^63) (hne:items.isEmpty=false) (hz:items.size*x.toNat≤sizeLine):
 Meets (Builtin.«tuple.__mul__» ⟨[.ref l,.int x u],[]⟩) (fun _ R s=>s.heap.get? l=some {cls:=.type "tuple",dict:=dd,data:=.seq items n,slots:=sl}∧R (.ok (.ret (Value.ref s.heap.objs.size))) {s with heap:=s.heap.push {cls:=Value.type "tuple",data:=Data.seq (List.foldl (fun x1 x2=>x1++x2) #[] (List.replicate x.toNat items))}}):=
 .of_wp fun prog w A R s h=>by
  obtain ⟨hp,g,d,tk,os⟩:=s;obtain ⟨hl,h⟩:=h
  have c1:(decide (x < -2^63)||decide (x≥2^63))=false:=by simp;omega
  have c2:(items.isEmpty||x==1)=false:=by
   rw [hne,Bool.false_or]
   exact beq_eq_false_iff_ne.mpr (by omega)
  have c3:(decide (x≤0)||items.isEmpty)=false:=by
   rw [hne,Bool.or_false]
   exact decide_eq_false (by omega)
  have hx:(x.toNat:Int)=x:=Int.toNat_of_nonneg (by omega)
  have hz':(items.size:Int)*x≤sizeLine:=by rw [←hx];exact_mod_cast hz
  have c4:¬((items.size:Int)*x>(2^63 - 1) / 8):=by
   have:(sizeLine:Int)≤(2^63 - 1) / 8:=by decide
   omega
  have c5:Builtin.Tuple.tupleTooMany ((items.size:Int)*x)=false:=by
   unfold Builtin.Tuple.tupleTooMany
   exact decide_eq_false (by omega)
  have c6:(List.foldl (fun x1 x2=>x1++x2) #[] (List.replicate x.toNat items)).size≤sizeLine:=by
   have f0:=K1 items.toList x.toNat []
   rw [Ic] at f0
   have:List.foldl (fun x1 x2=>x1++x2) #[] (List.replicate x.toNat items)=(List.replicate x.toNat items.toList).flatten.toArray:=by simpa using f0
   rw [this,A7,K2,Nat.mul_comm]
   simpa using hz
  wp_walk using wpAny_loadPart' hl
  rw [c1]
  simp only [Dv,if_false]
  refine wpAny_bind ?_
  unfold Builtin.Tuple.tupleItemsOf
  wp_walk using wpAny_loadPart' hl
  rw [c2]
  simp only [Dv,if_false]
  rw [c3]
  simp only [Dv,if_false]
  rw [if_neg c4,c5]
  simp only [Dv,if_false]
  refine wpAny_bind (wpAny_newObj_type (wpAny_pure ⟨_,rfl,h⟩) c6)
theorem Zd (l:Addr) (items:Array Value) (n:Nat) (dd:Option Addr) (sl:Array (Option Value)) (u:Tok):
 Meets (Builtin.«tuple.__mul__» ⟨[.ref l,.int 1 u],[]⟩) (fun _ R s=>s.heap.get? l=some {cls:=.type "tuple",dict:=dd,data:=.seq items n,slots:=sl}∧R (.ok (.ret (Value.ref l))) s):=
 .of_wp fun prog w A R s h=>by
  obtain ⟨hp,g,d,tk,os⟩:=s;obtain ⟨hl,h⟩:=h
  have c1:(decide ((1:Int) < -2^63)||decide ((1:Int)≥2^63))=false:=by decide
  have c2:(items.isEmpty||(1:Int)==1)=true:=by simp
  wp_walk using wpAny_loadPart' hl
  exact ⟨_,rfl,h⟩
theorem Ze (l:Addr) (items:Array Value) (n:Nat) (dd:Option Addr) (sl:Array (Option Value)) (x:Int) (u:Tok) (h1:-(2^63)≤x) (h2:x≤0) (hne:items.isEmpty=false):
 Meets (Builtin.«tuple.__mul__» ⟨[.ref l,.int x u],[]⟩) (fun _ R s=>s.heap.get? l=some {cls:=.type "tuple",dict:=dd,data:=.seq items n,slots:=sl}∧R (.ok (.ret (Value.ref s.heap.objs.size))) {s with heap:=s.heap.push {cls:=Value.type "tuple",data:=Data.seq #[]}}):=
 .of_wp fun prog w A R s h=>by
  obtain ⟨hp,g,d,tk,os⟩:=s;obtain ⟨hl,h⟩:=h
  have c1:(decide (x < -2^63)||decide (x≥2^63))=false:=by simp;omega
  have c2:(items.isEmpty||x==1)=false:=by
   rw [hne,Bool.false_or]
   exact beq_eq_false_iff_ne.mpr (by omega)
  have c3:(decide (x≤0)||items.isEmpty)=true:=by
   rw [hne,Bool.or_false]
   exact decide_eq_true h2
  wp_walk using wpAny_loadPart' hl
  rw [c1]
  simp only [Dv,if_false]
  refine wpAny_bind ?_
  unfold Builtin.Tuple.tupleItemsOf
  wp_walk using wpAny_loadPart' hl
  rw [c2]
  simp only [Dv,if_false]
  rw [c3]
  simp only [if_true]
  refine wpAny_bind (wpAny_newObj_type (wpAny_pure ⟨_,rfl,h⟩) (by show (#[]:Array Value).size≤sizeLine;simp))
section
variable {X:Cx} {E:XK}
def Zf (K:Frag):R2:=fun x y H Q=>∃l k xs,x=.ref l∧y=.int k∧H l=some (.tup xs)∧xs≠[]∧-(2^63)≤k∧k<2^63∧xs.length*k.toNat≤sizeLine∧(k=1→Q (.ref l) H)∧
 ∀p,H p=none→Q (.ref p) (Av H p (.tup (List.replicate k.toNat xs).flatten))
theorem Inv.tnew {pins:List (Addr×Obj)} {σ:L2.St} {H:Hp} {s:Shared} {ys:List V} {its:List Value} {t':Nat} (I:Inv X pins σ H s) (hv:Vals ys its) (hz:ys.length≤sizeLine):
 Inv X pins σ (Av H s.heap.objs.size (.tup ys)) {s with heap:=s.heap.push {cls:=.type "tuple",data:=.seq its.toArray},toks:=t'}:=
 I.laid (fun _ _ q=>AM _ q) (AG _) ⟨hz,its,hv,⟨_,BD _ rfl,rfl,0,rfl⟩,NoDict.new⟩
theorem op_repT:OpR X (binaryOp .Mult) (Zf X.K):=by
 intro pins s σ H x y v u Q I rx ry h
 obtain ⟨l,k,xs,rfl,rfl,hH,hne,h1,h2,hz,q1,q⟩:=h
 cases rx
 obtain ⟨t,rfl⟩:=ry
 obtain ⟨z,its,r,⟨o,ho,hc,n,hd⟩,_⟩:=(show ObjOk X.prog X.w H s.heap l (.tup xs) from I.hok l _ hH)
 obtain ⟨oc,dd,dat,sl⟩:=o
 simp only at hc hd
 subst hc hd
 have hl:=r.length
 have hine:its.toArray.isEmpty=false:=by
  cases its with
  |nil=>exfalso;cases xs with
   |nil=>exact hne rfl
   |cons _ _=>simp at hl
  |cons a b=>simp
 have mul:∀{Q':Value→Shared→Prop},wpAny (model X.prog X.w) X.A (call (.builtin "tuple.__mul__") [.ref l,.int k t]) Q' X.xe s→wpAny (model X.prog X.w) X.A (binaryOp .Mult (.ref l) (.int k t)) Q' X.xe s:=fun {Q'} hq=>
  wpAny_binaryOp_repeat_ref (T:="tuple") (U:="int") (by decide) ⟨_,ho,rfl⟩ (fun s'=>typeIs_int s' k t) Y9 F.fills_int_mul F.slot_int_rmul Za F.slot_int_index.lookup
   (call_meets F.slot_int_rmul (typeIs_int s k t) F.entry_int_rmul (F.args_int_rmul_2 _ _) (Zb k t l its.toArray n dd sl) ⟨ho,rfl,⟨_,ho,rfl⟩,hq⟩)
 refine mul ?_
 rcases Int.lt_trichotomy k 1 with hk |hk |hk
 ·refine call_meets F.slot_tuple_mul ⟨_,ho,rfl⟩ F.entry_tuple_mul (F.args_tuple_mul_2 _ _) (Ze l its.toArray n dd sl k t h1 (by omega) hine) ⟨ho,?_⟩
  have e:(List.replicate k.toNat xs).flatten=[]:=by
   have:k.toNat=0:=by omega
   rw [this];rfl
  have:=q _ I.fresh
  rw [e] at this
  exact ⟨.ref _,_,LS.Inv.tnew (its:=[]) (t':=s.toks) I .nil (B5 _),rfl,this⟩
 ·subst hk
  refine call_meets F.slot_tuple_mul ⟨_,ho,rfl⟩ F.entry_tuple_mul (F.args_tuple_mul_2 _ _) (Zd l its.toArray n dd sl t) ⟨ho,?_⟩
  exact ⟨.ref l,H,I,rfl,q1 rfl⟩
 ·refine call_meets F.slot_tuple_mul ⟨_,ho,rfl⟩ F.entry_tuple_mul (F.args_tuple_mul_2 _ _) (Zc l its.toArray n dd sl k t hk h2 hine (by rw [A7,←hl];exact hz)) ⟨ho,?_⟩
  have f0:=K1 its k.toNat []
  rw [Ic] at f0
  have f1:List.foldl (fun x1 x2=>x1++x2) #[] (List.replicate k.toNat its.toArray)=(List.replicate k.toNat its).flatten.toArray:=f0
  rw [f1]
  exact ⟨.ref _,_,LS.Inv.tnew (t':=s.toks) I (r.rep k.toNat) (by rw [K2,Nat.mul_comm];exact hz),rfl,q _ I.fresh⟩
noncomputable def Ey:D→D→HD→Out D:=fun x y h=>match x,y with
 |.tup xs,.int k=>@ite _ (xs≠[]∧-(2^63)≤k∧k<2^63∧xs.length*k.toNat≤sizeLine) (Classical.propDecidable _) (.ok (.tup (List.replicate k.toNat xs).flatten) h) .stuck
 |_,_=>EY x y h
theorem Gw:BA X (binaryOp .Mult) Ey:=by
 obtain ⟨r0,hr0,i0⟩:=XH (X:=X)
 refine ⟨_,op_repT.or hr0,fun m H h E x y v u Q hr rx ry q=>?_⟩
 unfold Ey at q
 split at q
 ·rename_i xs k
  split at q
  ·rename_i hc
   obtain ⟨hne,h1,h2,hz⟩:=hc
   simp only [DV] at rx ry
   obtain ⟨a,vs,rfl,ha,dv⟩:=rx
   subst ry
   refine .inl ⟨a,k,vs,rfl,rfl,ha,?_,h1,h2,by rw [←dv.len];exact hz,fun e=>?_,?_⟩
   ·intro e;have:=dv.len;rw [e] at this;exact hne (qcL.mp this)
   ·subst e
    refine Bm hr q ?_
    simp only [DV]
    exact ⟨a,vs,rfl,ha,by simpa using dv⟩
   ·exact GS hr (DVs.rep dv k.toNat) q
  ·exact q.elim
 ·exact .inr (i0 m H h E x y v u Q hr rx ry q)
end
end LS
namespace LS
open PySem PySem.Spec PyProof.Rows L2 PySem.W
section
variable {X:Cx} {E:XK}
abbrev MJ:=Str→Ai→HD→Out Str
def Zg:MJ:=fun acc _ h=>if acc.length≤sizeLine then .ok acc h else .stuck
def Zh (y:Str) (r:MJ):MJ:=fun acc ρ h=>if (acc++y).length≤sizeLine then r (acc++y) ρ h else .stuck
def RU (f:ME) (r:MJ):MJ:=fun acc ρ h=>(f ρ h).bind fun d h1=>match d with
 |.int i=>if i.natAbs.log2<1920∧(acc++(toString i:Str)).length≤sizeLine then r (acc++(toString i:Str)) ρ h1 else .stuck
 |_=>.stuck
def Of (fj:MJ):ME:=fun ρ h=>(fj Str.empty ρ h).bind fun x h1=>.ok (.str x) h1
def Dp:D→HD→Out D:=fun x h=>match AU h 8 x with
 |some p=>if p.showable=true∧p.hasDict=false∧p.depth≤40∧p.shown.length≤sizeLine then .ok (.str p.shown) h else .stuck
 |none=>.stuck
theorem LJ (hu:X.A.units+64<cLine) (hg:X.A.guards=some []):DG X (.builtin "repr") (AB Dp):=by
 refine RI (fun ds h=>?_) fun pins s σ H m h ds vs us Q I hr rd r q=>GU rd q fun x v ev rx q=>?_
 ·unfold AB Dp
  repeat' split
  all_goals trivial
 ·subst ev
  obtain ⟨u,rfl,ru⟩:=FI r
  unfold Dp at q
  split at q
  ·rename_i p e
   split at q
   ·rename_i hc
    obtain ⟨h1,h2,h3,h4⟩:=hc
    obtain ⟨as,hd⟩:=Nz I.hok hr 8 x v u p rx ru e
    have fin:∀(h':Heap) (t tk:Tok),(∀b o,s.heap.get? b=some o→h'.get? b=some o)→EP X pins σ Q (.str p.shown t) {s with heap:=h',toks:=tk}:=fun h' t tk hk=>⟨.str p.shown,H,I.kept hk,⟨t,rfl⟩,Bm hr q (by simp [DV])⟩
    cases hd with
    |list a1 a2 a3 a4=>exact repr_of_reads' (.list a1 a2 a3 a4) h1 (fun z=>by rw [h2] at z;cases z) hg (by omega) (fun _ _ e=>e) fin h4
    |tuple a1 a2 a3 a4=>exact repr_of_reads' (.tuple a1 a2 a3 a4) h1 (fun z=>by rw [h2] at z;cases z) hg (by omega) (fun _ _ e=>e) fin h4
    |dict a1 a2 a3 a4 a5=>cases h2
    |int i t=>
     have h1':i.natAbs.log2<1920:=by simpa [PyData.showable] using h1
     exact PySem.P.repr_of_int h1' (fin s.heap _ _ fun _ _ e=>e)
    |none=>exact PySem.P.repr_of_none (fin s.heap _ _ fun _ _ e=>e)
    |bool b=>exact PySem.P.repr_of_bool (fin s.heap _ _ fun _ _ e=>e)
    |str x t=>exact PySem.P.repr_of_str (fin s.heap _ _ fun _ _ e=>e) (by simpa [PyData.shown] using h4)
   ·exact q.elim
  ·exact q.elim
def Ct:D→D→HD→Out D:=fun x y h=>match x,y with
 |.str a,.str b=>.ok (.bl (a==b)) h
 |_,_=>GT x y h
def BU:D→D→HD→Out D:=fun x y h=>match x,y with
 |.str a,.str b=>.ok (.bl (!(a==b))) h
 |_,_=>DY x y h
theorem Fp (hu:X.A.units+64<cLine):BA X (compareOp .Eq) Ct:=by
 obtain ⟨r0,hr0,i0⟩:=W9 (X:=X) hu
 refine ⟨_,op_eq.or hr0,fun m H h E x y v u Q hr rx ry q=>?_⟩
 unfold Ct at q
 split at q
 ·simp only [DV] at rx ry
  subst rx ry
  exact .inl ⟨rfl,by rw [KV];exact Bm hr q (by simp [DV])⟩
 ·exact .inr (i0 m H h E x y v u Q hr rx ry q)
theorem D8 (hu:X.A.units+64<cLine):BA X (compareOp .NotEq) BU:=by
 obtain ⟨r0,hr0,i0⟩:=Xa (X:=X) hu
 refine ⟨_,op_ne.or hr0,fun m H h E x y v u Q hr rx ry q=>?_⟩
 unfold BU at q
 split at q
 ·simp only [DV] at rx ry
  subst rx ry
  exact .inl ⟨rfl,by rw [KV];exact Bm hr q (by simp [DV])⟩
 ·exact .inr (i0 m H h E x y v u Q hr rx ry q)
def LM:List Nat→List D→Ai→Option Ai
 |[],[],ρ=>some ρ
 |i::is,d::ds,ρ=>LM is ds (ρ.set i (some d))
 |_,_,_=>none
def Ez (is:List Nat):MG:=fun d ρ=>match d with
 |.tup ds=>LM is ds ρ
 |_=>none
def LN:List Nat→Gd
 |[]=>FE
 |i::is=>CU (Cy i) (LN is)
theorem RV:∀{is:List Nat} {ds:List D} {ρ ρ':Ai},LM is ds ρ=some ρ'→ds.length=is.length
 |[],[],_,_,_=>rfl
 |[],_::_,_,_,e=>by cases e
 |_::_,[],_,_,e=>by cases e
 |_::is,_::ds,_,_,e=>by simpa using RV (is:=is) (ds:=ds) e
theorem RW {K:Frag} {m:List Addr} {H:Hp}:∀{is:List Nat} {ds:List D} {vs:List V} {ρ ρ':Ai} {σ:L2.St} {Q:L2.St→Hp→Prop},DVs K m H ds vs→ER K m H ρ σ→LM is ds ρ=some ρ'→(∀σ',ER K m H ρ' σ'→Q σ' H)→LN is vs σ H Q
 |[],[],vs,ρ,ρ',σ,Q,r,er,e,q=>by
  simp only [DVs] at r
  subst r
  cases e
  exact ⟨rfl,q σ er⟩
 |[],_::_,_,_,_,_,_,_,_,e,_=>by cases e
 |_::_,[],_,_,_,_,_,_,_,e,_=>by cases e
 |i::is,d::ds,vs,ρ,ρ',σ,Q,r,er,e,q=>by
  simp only [DVs] at r
  obtain ⟨v,w,rfl,rv,rw'⟩:=r
  exact ⟨v,w,rfl,RW rw' (er.set rv) e q⟩
theorem LO {es:List Expr} {is:List Nat} {kt:Nat} {pos:Pos} (h:PG X (.Tuple es kt pos) (Fe X.K is.length (LN is))):JM X (.Tuple es kt pos) (Ez is):=⟨_,h,fun m H d v ρ σ ρ' Q r er e q=>by
 unfold Ez at e
 split at e
 ·rename_i ds
  simp only [DV] at r
  obtain ⟨p,vs,rfl,hp,dv⟩:=r
  exact ⟨p,vs,rfl,SqT.of hp,by rw [←dv.len];exact RV e,RW dv er e q⟩
 ·cases e⟩
end
theorem Og {K:Frag} (h:etOk K=true) {n:Str} (hn:n∈excNames):∃C,nsIn K mainGlobals n=some (some (.ref C)):=by
 unfold etOk at h
 split at h
 ·rename_i S hS
  have h1:=qaT.mp h n hn
  cases e:Fo K n with
  |none=>rw [e] at h1;cases h1
  |some C=>exact ⟨C,RH e⟩
 ·cases h
section
variable {X:Cx} {E:XK}
theorem Fq {x:Str} {pos:Pos} (et:etOk X.K=true) (hn:x∈excNames) (hg:Gl X x:=by rfl) (hd:(x==("__debug__":Str))=false:=by decide):Ev X E (.Name x pos) (mC (.glo x)):=by
 obtain ⟨a,h⟩:=Og et hn
 exact YI hg h hd
theorem RX {x:Str} {e:Expr} {es:List Expr} {fa:MA} {np cpos pos:Pos} (et:etOk X.K=true) (hn:x∈excNames) (hne:x≠"TooMany") (hg:Gl X x) (hc:X.calm=true) (th:N7 X E) (ha:Dj X E (e::es) fa)
 (hdb:(x==("__debug__":Str))=false:=by decide) (he:starEach (e::es) X.env=(false,eval e X.env)::starEach es X.env:=by rfl) (hpl:(backTo cpos (starEach (e::es) X.env)).any (·.1)=false:=by rfl):
 Ex X E (.Raise (some (.Call (.Name x np) (e::es) [] cpos)) none pos) (IU x fa):=by
 obtain ⟨C,h⟩:=Og et hn
 exact Yk ((LG et hn h).at_ hne) h hg hc th ha hdb he hpl
end
theorem CaM.mono {P:Program} {w:World} {K:Frag} {mg:Str→Option Value} {base:Heap} {x:Str} {j k:Nat} {F:List D→HD→Out D} (C:CaM P w K mg base x j F) (h:j≤k):CaM P w K mg base x k F:=by
 obtain ⟨f,fd,ps,G,r⟩:=C.ex
 exact ⟨f,fd,ps,⟨fun A outer s H args us vs Q hr=>G.run A outer s H args us vs Q (hr.mono h)⟩,r⟩
structure SaidD (K:Frag) (mg:Str→Option Value) (st:Stmt) (fs:Addr) (fd:FuncData):Prop where
 fn:Fun K "_law_said" "_law_said" st fs fd
 bd:Binds K fd ["_law_call"] []
 mg:mg "_law_said"=some (.ref fs)
structure RY (st:Stmt):Prop where
 sc:Bo ["_law_call","_law_word","_law_e"] ["_law_call"] (defScope st)
 k0:(defScope st).names.lookup ("_law_call":Str)=some .local
 k1:(defScope st).names.lookup ("_law_word":Str)=some .local
 k2:(defScope st).names.lookup ("_law_e":Str)=some .local
 gS:(defScope st).names.lookup ("SwitchError":Str)=some .globalImplicit
 gK:(defScope st).names.lookup ("_law_kind":Str)=some .globalImplicit
 tx:∃p1 j1 p2 p3 p4 p5 p6 p7 p8 p9 p10 p11 p12 p13 p14 p15 p16,defBody st=[.Assign [.Name "_law_word" p1] (.Constant (.str "told") j1 p2) p3,.Try [.Expr (.Call (.Name "_law_call" p4) [] [] p5) p6] [.ExceptHandler (some (.Name "SwitchError" p7)) (some "_law_e") [.Assign [.Name "_law_word" p8] (.Call (.Name "_law_kind" p9) [.Name "_law_e" p10] [] p11) p12] p13] [] [] p14,.Return (some (.Name "_law_word" p15)) p16]
theorem RZ {X:Cx} {E:XK} {c P:Addr} {Nc:List Str} {cs:List Nat} {params:Arguments} {body:Expr} {scope:Scope} {k kk:Nat} {Fk:List D→HD→Out D} {f:ME} {fs:Addr} {fd:FuncData} {st:Stmt} {lpos p pos:Pos}
 (L:LamX X c P) (fna:∀x,X.fn x=true) (hr:Room kk X.A) (lv:Lv X E) (et:etOk X.K=true) (Sd:SaidD X.K X.mg st fs fd) (St:RY st) (hkind:CaM X.prog X.w X.K X.mg X.base "_law_kind" k Fk) (S:LSc X scope Nc cs)
 (hb:∀(a:Addr) (cd:Value) (cl:List (Str×Addr)) (A:Around) (outer:List Env) (s:Shared) (H:Hp) (E':XK),Room k (A.deeper (envX BS scope s.heap.objs.size a cd cl))→Ev (FU X.prog X.w X.K X.mg X.base Nc scope a cd cl A outer s H E') E' body f)
 (hg:Gl X "_law_said") (hkk:k+2≤kk:=by decide) (hdef:defaultsOf params X.env=([],[]):=by rfl)
 (hbind:∀(cl:List (Str×Addr)) (pm cv ctv:Value),bindArgs (kla_fn "<lambda>" BS params body scope cl pm cv ctv) ⟨[],[]⟩=pure []:=by exact fun _ _ _ _=>rfl)
 (he:starEach [.Lambda params body scope lpos] X.env=(false,eval (.Lambda params body scope lpos) X.env)::starEach [] X.env:=by rfl) (hpl:(backTo pos (starEach [] X.env)).any (·.1)=false:=by rfl):
 Ev X E (.Call (.Name "_law_said" p) [.Lambda params body scope lpos] [] pos) (E1 cs Fk f):=by
 obtain ⟨p1,j1,p2,p3,p4,p5,p6,p7,p8,p9,p10,p11,p12,p13,p14,p15,p16,hst⟩:=St.tx
 exact Y7 L fna (hr.mono hkk) lv et (Og et (by decide +kernel)) Sd.fn Sd.bd Sd.mg Sd.fn.kp St.sc St.k0 St.k1 St.k2 (fun _ _=>St.gS) (fun _ _=>St.gK) hst hkind hg S hdef hbind hb he hpl
theorem Zi {P:Program} {w:World} {K:Frag} {mg:Str→Option Value} {base:Heap} {x qual:Str} {st:Stmt} {f:Addr} {kV doc pm cdv ct oc:Value} {an od:Option Addr} {osl:Array (Option Value)} {N ps:List Str} {k:Nat} {F:List D→HD→Out D} {g:MS}
 (lk:K.lookup f=some ⟨oc,od,.func (PySem.W.fnOf x qual (defArgs st) (defBody st) (defScope st) .none kV doc pm an cdv ct),osl⟩) (hcd:PySem.W.codeIn K cdv qual=true) (S:Bo N ps (defScope st)) (ar:Ar ps.length F)
 (hg:∀ds h,ds.length=ps.length→F ds h=Az N.length g ds h)
 (hbody:∀(A:Around) (outer:List Env) (s:Shared) (H:Hp) (E:XK),Room k (A.deeper (envOfC qual (defScope st) s.heap.objs.size f cdv))→A8 (AZ (AK P w K) P w K mg base N qual (defScope st) f cdv A outer s H E) E (defBody st) g):
 FnOk P w K mg base (AK P w K) (k+1) f (PySem.W.fnOf x qual (defArgs st) (defBody st) (defScope st) .none kV doc pm an cdv ct) ps (FT K F):=by
 refine P6 lk hcd S (fun vs H Q E h=>Lu ar h) fun A outer s H vs Q E hr h=>?_
 refine ⟨_,hbody A outer s H E hr,?_⟩
 have hl:=Lu ar h
 obtain ⟨m,ds,hd,hr1,r,p⟩:=h
 have hld:ds.length=ps.length:=by rw [r.len];exact hl
 refine ⟨m,ds.map some++List.replicate (N.length - ds.length) none,hd,hr1,ER.start r,?_⟩
 rw [hg ds hd hld] at p
 unfold Az at p
 cases o:g (ds.map some++List.replicate (N.length - ds.length) none) hd with
 |stuck=>rw [o] at p;exact p
 |err C fs h1=>rw [o] at p;exact p
 |ok a h1=>
  rw [o] at p
  obtain ⟨fl,ρ1⟩:=a
  intro m1 H1 p1 k1 hr1
  cases fl with
  |nx=>exact fun σ er=>p .non m1 H1 p1 k1 hr1 (by simp [rD,DV])
  |bk=>exact False.elim p
  |ct=>exact False.elim p
  |rt d=>exact fun v rv=>p v m1 H1 p1 k1 hr1 rv
def ZeZ (K:Frag) (T:Addr):Bool:=match tabP K with
 |some (c,T')=>T'==T&&codeHdIn K c T
 |none=>false
end LS
namespace LS
open PySem PySem.Spec PyProof.Rows L2
def We {α:Type} (o:Out α) (Q:α→HD→Prop) (R:Str→List (Str×D)→HD→Prop):Prop:=match o with
 |.ok a h=>Q a h
 |.err (.str n _) fs h=>R n fs h
 |_=>False
section
variable {α β:Type} {o:Out α} {Q Q':α→HD→Prop} {R R':Str→List (Str×D)→HD→Prop}
@[simp] theorem Ze0 (a:α) (h:HD):We (.ok a h) Q R=Q a h:=rfl
@[simp] theorem Ze1 (n:Str) (t:Tok) (fs:List (Str×D)) (h:HD):We (.err (.str n t) fs h:Out α) Q R=R n fs h:=rfl
@[simp] theorem Ze2:We .stuck Q R=False:=rfl
theorem Dz {k:α→HD→Out β} {Q:β→HD→Prop}:We (o.bind k) Q R=We o (fun a h=>We (k a h) Q R) R:=by
 cases o with
 |ok a h=>rfl
 |err C fs h=>cases C<;>rfl
 |stuck=>rfl
theorem Wp.we (h:Wp o Q):We o Q R:=by
 cases o with
 |ok a h'=>exact h
 |_=>exact h.elim
theorem We.mono (h:We o Q R) (f:∀a h,Q a h→Q' a h) (g:∀n fs h,R n fs h→R' n fs h):We o Q' R':=by
 cases o with
 |ok a h'=>exact f _ _ h
 |err C fs h'=>cases C<;>first |exact g _ _ _ h |exact h.elim
 |stuck=>exact h
theorem Pu.we {h:HD} {a:α} (p:Pu o h a) (k:∀h',Sm h h'→Q a h'):We o Q R:=Wp.we (p.wp k)
end
def Er {α:Type} (o:Out α) (h:HD) (n:Str):Prop:=We o (fun _ _=>False) fun n' fs h'=>n'=n∧fs=[]∧Sm h h'
theorem Er.we {α:Type} {o:Out α} {h:HD} {n:Str} {Q:α→HD→Prop} {R:Str→List (Str×D)→HD→Prop} (e:Er o h n) (k:∀h',Sm h h'→R n [] h'):We o Q R:=We.mono e (fun _ _ z=>z.elim) fun n' fs h' z1_=>by obtain ⟨rfl,rfl,s⟩:=z1_;exact k h' s
theorem LP {N:Nat} {g:MS} {ds:List D} {h:HD} {Q:D→HD→Prop} {R:Str→List (Str×D)→HD→Prop}:We (Az N g ds h) Q R=We (g (ds.map some++List.replicate (N - ds.length) none) h) (IK Q) R:=by
 unfold Az
 cases o:g (ds.map some++List.replicate (N - ds.length) none) h with
 |ok a h1=>
  obtain ⟨fl,ρ⟩:=a
  cases fl<;>rfl
 |err C fs h1=>cases C<;>rfl
 |stuck=>rfl
section
variable {ρ:Ai} {h:HD} {Q:Fl×Ai→HD→Prop} {QD:D→HD→Prop} {QB:Bool→HD→Prop} {R:Str→List (Str×D)→HD→Prop} {g g1 g2:MS} {f:ME} {t:MT} {fa:MA} {F:List D→HD→Out D}
def Oh (g2:MS) (Q:Fl×Ai→HD→Prop) (R:Str→List (Str×D)→HD→Prop):Fl×Ai→HD→Prop
 |(.nx,ρ),h=>We (g2 ρ h) Q R
 |y,h=>Q y h
@[simp] theorem Ze3:Oh g2 Q R (.nx,ρ) h=We (g2 ρ h) Q R:=rfl
@[simp] theorem Ze4 {d:D}:Oh g2 Q R (.rt d,ρ) h=Q (.rt d,ρ) h:=rfl
@[simp] theorem Ze5:We (Ak g1 g2 ρ h) Q R=We (g1 ρ h) (Oh g2 Q R) R:=by
  unfold Ak
  rw [Dz]
  congr 1
  funext x h1
  obtain ⟨fl,ρ1⟩:=x
  cases fl<;>rfl
@[simp] theorem Ze6:We (Bp ρ h) Q R=Q (.nx,ρ) h:=rfl
@[simp] theorem Ze7:We (DZ f ρ h) Q R=We (f ρ h) (fun _ h1=>Q (.nx,ρ) h1) R:=by unfold DZ;rw [Dz];rfl
@[simp] theorem Ze8:We (AN f ρ h) Q R=We (f ρ h) (fun d h1=>Q (.rt d,ρ) h1) R:=by unfold AN;rw [Dz];rfl
@[simp] theorem Ze9 {i:Nat}:We (Ay i f ρ h) Q R=We (f ρ h) (fun d h1=>Q (.nx,ρ.set i (some d)) h1) R:=by unfold Ay;rw [Dz];rfl
@[simp] theorem Zfa:We (Bg t g1 g2 ρ h) Q R=We (t ρ h) (fun b h1=>We (if b=true then g1 ρ h1 else g2 ρ h1) Q R) R:=by unfold Bg;rw [Dz]
@[simp] theorem Zfb:We (Ah F fa ρ h) QD R=We (fa ρ h) (fun ds h1=>We (F ds h1) QD R) R:=by unfold Ah;rw [Dz]
@[simp] theorem Zfc {n:Str}:We (IU n fa ρ h) Q R=We (fa ρ h) (fun xs h1=>We (if xs.length≤sizeLine then (.err (Fj n) [] h1:Out (Fl×Ai)) else .stuck) Q R) R:=by unfold IU;rw [Dz]
@[simp] theorem Zfd:We (Dl t ρ h) QB R=We (t ρ h) (fun b h1=>QB (!b) h1) R:=by unfold Dl;rw [Dz];rfl
@[simp] theorem Zfe {u:MT}:We (FK t u ρ h) QB R=We (t ρ h) (fun b h1=>We (if b=true then u ρ h1 else .ok false h1) QB R) R:=by unfold FK;rw [Dz]
@[simp] theorem Zff {u:MT}:We (Dk t u ρ h) QB R=We (t ρ h) (fun b h1=>We (if b=true then .ok true h1 else u ρ h1) QB R) R:=by unfold Dk;rw [Dz]
@[simp] theorem Zfg:We (CW f ρ h) QB R=We (f ρ h) (fun x h1=>We (Ep x h1) QB R) R:=by unfold CW;rw [Dz]
@[simp] theorem Zfh:We (AW f ρ h) QB R=We (f ρ h) (fun x h1=>We (JE x h1) QB R) R:=by unfold AW;rw [Dz]
@[simp] theorem Zfi {QA:List D→HD→Prop}:We (Ae ρ h) QA R=QA [] h:=rfl
@[simp] theorem Zfj {QA:List D→HD→Prop}:We (Aa f fa ρ h) QA R=We (f ρ h) (fun x h1=>We (fa ρ h1) (fun xs h2=>QA (x::xs) h2) R) R:=by
  unfold Aa;simp only [Dz];rfl
@[simp] theorem Zfk {d:D} {r:Ai}:We (Ab 0 (some d::r) h) QD R=QD d h:=rfl
@[simp] theorem Zfl {i:Nat} {x:Option D} {r:Ai}:We (Ab (i+1) (x::r) h) QD R=We (Ab i r h) QD R:=rfl
@[simp] theorem Zfm {d:D}:We (mC d ρ h) QD R=QD d h:=rfl
@[simp] theorem Zfn {op:D→D→HD→Out D} {f':ME}:We (Af op f f' ρ h) QD R=We (f ρ h) (fun x h1=>We (f' ρ h1) (fun y h2=>We (op x y h2) QD R) R) R:=by unfold Af;simp only [Dz]
@[simp] theorem Zfo {fj:MJ}:We (Of fj ρ h) QD R=We (fj Str.empty ρ h) (fun x h1=>QD (.str x) h1) R:=by unfold Of;rw [Dz];rfl
end
def Et {α:Type} (o:Out α) (h:HD) (n:Str) (fs:List (Str×D)):Prop:=We o (fun _ _=>False) fun n' fs' h'=>n'=n∧fs'=fs∧Sm h h'
theorem Et.we {α:Type} {o:Out α} {h:HD} {n:Str} {fs:List (Str×D)} {Q:α→HD→Prop} {R:Str→List (Str×D)→HD→Prop} (e:Et o h n fs) (k:∀h',Sm h h'→R n fs h'):We o Q R:=We.mono e (fun _ _ z=>z.elim) fun n' fs h' z1_=>by obtain ⟨rfl,rfl,s⟩:=z1_;exact k h' s
theorem Oi {cs:List Nat} {Fk:List D→HD→Out D} {f:ME} {ρ:Ai} {h:HD} {ds:List D} {Q:D→HD→Prop} (ht:h[0]?=some .tab) (hd:AS (cs.map fun j=>(ρ[j]?).join)=some ds)
 (q:We (f (ds.map some) h) (fun _ h1=>Q (.str "told") h1) fun n fs h1=>n∈excNames∧∃is,FV fs=some is∧Wp (Fk [.exc n is] h1) Q):Wp (E1 cs Fk f ρ h) Q:=by
 unfold E1
 rw [ht,hd]
 simp only
 unfold Oe
 cases o:f (ds.map some) h with
 |ok a h1=>rw [o] at q;exact q
 |stuck=>rw [o] at q;exact q.elim
 |err C fs h1=>
  rw [o] at q
  cases C with
  |str n t=>
   obtain ⟨hn,is,hi,hk⟩:=(show n∈excNames∧∃is,FV fs=some is∧Wp (Fk [.exc n is] h1) Q from q)
   simp only [hn,if_true,hi]
   cases e:Fk [.exc n is] h1 with
   |ok d h2=>rw [e] at hk;exact hk
   |_=>rw [e] at hk;exact hk.elim
  |_=>exact q.elim
def Rp (n L:Nat) (d:D):Prop:=∃p:PyData,(∀(h:HD) (m:Nat),AU h (n+m) d=some p)∧p.showable=true∧p.hasDict=false∧p.depth≤n∧p.shown.length≤L
theorem R0 {n L:Nat}:∀{ds:List D},(∀d∈ds,Rp n L d)→∃ps:List PyData,(∀(h:HD) (m:Nat),AS (ds.map (AU h (n+m)))=some ps)∧PyData.showableAll ps=true∧PyData.hasDictAll ps=false∧PyData.depthAll ps≤n∧ps.length=ds.length∧∀t∈PyData.shownAll ps,t.length≤L
 |[],_=>⟨[],fun _ _=>rfl,rfl,rfl,B5 _,rfl,fun t ht=>by cases ht⟩
 |d::ds,hd=>by
  obtain ⟨p,a1,a2,a3,a4,a5⟩:=hd d Bf
  obtain ⟨ps,b1,b2,b3,b4,b5,b6⟩:=R0 (fun x hx=>hd x (Bn _ hx))
  refine ⟨p::ps,fun h m=>?_,by simp [PyData.showableAll,a2,b2],by simp [PyData.hasDictAll,a3,b3],by simp only [PyData.depthAll];omega,by simp [b5],fun t ht=>?_⟩
  ·rw [Bx,a1 h m]
   simp only [AS,b1 h m]
   rfl
  ·simp only [PyData.shownAll] at ht
   rcases qa5.mp ht with e |e
   ·rw [e];exact a5
   ·exact b6 t e
theorem R1 {L:Nat}:∀{ts:List Str},(∀t∈ts,t.length≤L)→piled ts≤ts.length*(L+2)
 |[],_=>by simp [piled]
 |t::ts,h=>by
  have h1:=h t Bf
  have h2:=R1 (fun x hx=>h x (Bn _ hx)) (ts:=ts) (L:=L)
  simp only [piled] at *
  simp [Nat.succ_mul]
  omega
theorem R3:∀{ps:List PyData},(PyData.shownAll ps).length=ps.length
 |[]=>rfl
 |p::ps=>by simp [PyData.shownAll,R3 (ps:=ps)]
theorem Zj {n L k:Nat} {ds:List D} (h:∀d∈ds,Rp n L d) (hk:ds.length≤k):Rp (n+1) (k*(L+2)+3) (.tup ds):=by
 obtain ⟨ps,b1,b2,b3,b4,b5,b6⟩:=R0 h
 refine ⟨.tuple ps,fun h m=>?_,by simpa [PyData.showable] using b2,by simpa [PyData.hasDict] using b3,by simp only [PyData.depth];omega,?_⟩
 ·rw [show n+1+m=(n+m)+1 by omega]
  simp only [AU,b1 h m]
  rfl
 ·simp only [PyData.shown,tupleText]
  have hl:(PyData.shownAll ps).length=ds.length:=by rw [R3,b5]
  have hj:(Str.join ", " (PyData.shownAll ps)).length≤k*(L+2):=by
   by_cases he:PyData.shownAll ps=[]
   ·rw [he];exact B5 _
   ·have h1:=join_length_add _ he
    have h2:=R1 b6
    have h3:(PyData.shownAll ps).length*(L+2)≤k*(L+2):=Nat.mul_le_mul_right _ (by rw [hl];exact hk)
    omega
  rw [strLen_append,strLen_append]
  have e1:((("(":String):Str)).length=1:=rfl
  have e2:(((if (PyData.shownAll ps).length==1 then ",)" else ")":String):Str)).length≤2:=by split<;>decide
  omega
theorem Zk {n L:Nat} {d:D} (h:Rp n L d) (hn:n≤8) (hl:L≤sizeLine):∃x:Str,∀hd,Dp d hd=.ok (.str x) hd:=by
 obtain ⟨p,a1,a2,a3,a4,a5⟩:=h
 refine ⟨p.shown,fun hd=>?_⟩
 have e:=a1 hd (8 - n)
 rw [show n+(8 - n)=8 by omega] at e
 unfold Dp
 rw [e]
 simp only
 rw [if_pos ⟨a2,a3,by omega,BP a5 hl⟩]
theorem Zl {i:Int} (h1:0≤i) (h2:i<10):Rp 0 2 (.int i):=by
 refine ⟨.int i,fun h m=>by cases m<;>rfl,?_,rfl,by simp [PyData.depth],?_⟩
 ·obtain ⟨k,rfl⟩:∃k:Nat,i=(k:Int):=⟨i.toNat,by omega⟩
  have hk:k<10:=by omega
  match k,hk with
  |0,_=>decide
  |1,_=>decide
  |2,_=>decide
  |3,_=>decide
  |4,_=>decide
  |5,_=>decide
  |6,_=>decide
  |7,_=>decide
  |8,_=>decide
  |9,_=>decide
 ·obtain ⟨k,rfl⟩:∃k:Nat,i=(k:Int):=⟨i.toNat,by omega⟩
  have hk:k<10:=by omega
  match k,hk with
  |0,_=>decide
  |1,_=>decide
  |2,_=>decide
  |3,_=>decide
  |4,_=>decide
  |5,_=>decide
  |6,_=>decide
  |7,_=>decide
  |8,_=>decide
  |9,_=>decide
section
variable {h:HD} {i j:Int} {ds:List D} {a b:D} {l:Nat} {x y:Str}
@[simp] theorem Zfp:BU (.str x) (.str y) h=.ok (.bl (!(x==y))) h:=rfl
@[simp] theorem Zfq:Ct (.str x) (.str y) h=.ok (.bl (x==y)) h:=rfl
@[simp] theorem Zm:BU (.int i) (.int j) h=.ok (.bl (!(i==j))) h:=rfl
@[simp] theorem R4:Ct (.int i) (.int j) h=.ok (.bl (i==j)) h:=rfl
@[simp] theorem Zfr {c d:Bool}:BU (.bl c) (.bl d) h=.ok (.bl (!(c==d))) h:=rfl
@[simp] theorem Zfs {c d:Bool}:Ct (.bl c) (.bl d) h=.ok (.bl (c==d)) h:=rfl
@[simp] theorem Zft {es:List D}:BU (.tup ds) (.tup es) h=DY (.tup ds) (.tup es) h:=rfl
@[simp] theorem Zfu {es:List D}:Ct (.tup ds) (.tup es) h=GT (.tup ds) (.tup es) h:=rfl
@[simp] theorem Zfv:Ey (.int i) (.int j) h=EY (.int i) (.int j) h:=rfl
@[simp] theorem Zfw:Ey (.loc l) b h=EY (.loc l) b h:=rfl
@[simp] theorem Zfx:AX (.int i) b h=BY (.int i) b h:=rfl
@[simp] theorem Zfy {c:Bool}:AX (.bl c) b h=BY (.bl c) b h:=rfl
@[simp] theorem Zfz:AX .non b h=BY .non b h:=rfl
@[simp] theorem ZfA:AX (.str x) b h=BY (.str x) b h:=rfl
@[simp] theorem ZfB:AX (.tup ds) b h=BY (.tup ds) b h:=rfl
@[simp] theorem Zn:AX (.loc l) b h=BY (.loc l) b h:=rfl
@[simp] theorem ZfC {c:Bool}:BY (.bl c) (.ty "int") h=.ok (.bl true) h:=rfl
@[simp] theorem ZfD {c:Bool}:BY (.bl c) (.ty "bool") h=.ok (.bl true) h:=rfl
@[simp] theorem ZfE {c:Bool}:BY (.bl c) (.ty "tuple") h=.ok (.bl false) h:=rfl
@[simp] theorem ZfF:BY .non (.ty "int") h=.ok (.bl false) h:=rfl
@[simp] theorem ZfG:BY .non (.ty "tuple") h=.ok (.bl false) h:=rfl
@[simp] theorem ZfH:BY (.str x) (.ty "int") h=.ok (.bl false) h:=rfl
@[simp] theorem ZfI:BY (.str x) (.ty "tuple") h=.ok (.bl false) h:=rfl
theorem Zo (e:h[l]?=some (.lst ds)):BY (.loc l) (.ty "int") h=.ok (.bl false) h:=by
 simp only [BY,EX,e];rfl
theorem Zp (e:h[l]?=some (.lst ds)):BY (.loc l) (.ty "tuple") h=.ok (.bl false) h:=by
 simp only [BY,EX,e];rfl
@[simp] theorem ZfJ:AX .edic (.ty "int") h=.ok (.bl false) h:=rfl
@[simp] theorem ZfK:AX .edic (.ty "tuple") h=.ok (.bl false) h:=rfl
theorem Fs {n n':Str} {fs:List (Str×Int)} (h1:n∈excNames) (h2:n'∈excNames):AX (.exc n fs) (.glo n') h=.ok (.bl (B3 n n')) h:=if_pos ⟨h1,h2⟩
theorem Zq {n:Str} {fs:List (Str×Int)} (h1:n∈excNames):AX (.exc n fs) (.ty "ValueError") h=.ok (.bl true) h:=if_pos ⟨h1,rfl⟩
@[simp] theorem ZfL {ρ:Ai} {c d:D} {i j k l:Nat}:Ez [i,j,k,l] (.tup [a,b,c,d]) ρ=some ((((ρ.set i (some a)).set j (some b)).set k (some c)).set l (some d)):=rfl
theorem Zr (hz:x.length+y.length≤1000):Ax (.str x) (.str y) h=.ok (.str (x++y)) h:=by
 simp only [Ax]
 rw [if_pos (by unfold sizeLine;omega)]
theorem JX {xs ys:List D} {k:Nat} (e1:h[l]?=some (.lst xs)) (e2:h[k]?=some (.lst ys)):Ax (.loc l) (.loc k) h=CH (xs++ys) h:=by simp only [Ax,e1,e2]
theorem Zs {vs:List V} {w:V} (e:h[l]?=some (.lst ds)) (e1:AS (ds.map CY)=some vs) (e2:CY a=some w):He (.loc l) a h=.ok (.int (IX w vs)) h:=by
 simp only [He,Cj,e,Out.bind_ok,IY,BQ,e1,e2]
theorem Zt {vs:List V} {w:V} {j:Nat} (e:h[l]?=some (.lst ds)) (e1:AS (ds.map CY)=some vs) (e2:CY a=some w) (e3:LH w vs=some j):Hf (.loc l) a h=.ok (.int j) h:=by
 simp only [Hf,e,e1,e2,e3]
@[simp] theorem ZfM {chk:D→HD→Out D} {op:D→D→HD→Out D} {f g:ME} {ρ:Ai} {Q:D→HD→Prop}:Wp (IW chk op f g ρ h) Q=Wp (f ρ h) fun x h1=>Wp (chk x h1) fun x h2=>Wp (g ρ h2) fun y h3=>Wp (op x y h3) Q:=by unfold IW;simp only [AE]
@[simp] theorem sz6:(6≤sizeLine)=True:=eq_true (by unfold sizeLine;omega)
@[simp] theorem sz7:(7≤sizeLine)=True:=eq_true (by unfold sizeLine;omega)
@[simp] theorem sz8:(8≤sizeLine)=True:=eq_true (by unfold sizeLine;omega)
@[simp] theorem sz9:(9≤sizeLine)=True:=eq_true (by unfold sizeLine;omega)
@[simp] theorem ZfN:(10≤sizeLine)=True:=eq_true (by unfold sizeLine;omega)
end
section
variable {ρ:Ai} {h:HD} {Q:Str→HD→Prop} {R:Str→List (Str×D)→HD→Prop} {acc y:Str} {r:MJ} {f:ME} {n:Nat} {i:Int}
end
end LS
namespace LS
open PySem PySem.Spec PyProof.Rows L2 PySem.W
section
variable {X:Cx} {E:XK}
def Hg:D→HD→Out D:=fun x h=>match BQ x h with
 |some ds=>CH ds h
 |none=>.stuck
theorem R5:DG X (.type "list") (AB Hg):=by
 refine ⟨_,WG,fun m H h E ds vs Q hr r q=>GU r q fun d v ev rv q=>?_⟩
 unfold Hg at q
 split at q
 ·rename_i ds' e
  obtain ⟨p,ws,rfl,hs,dv⟩:=JJ hr rv e
  exact ⟨p,ws,ev,hs,(Iz hr dv q).2⟩
 ·exact q.elim
theorem R6 {pos:Pos}:Ev X E (.Dict [] [] pos) (mC .edic):=fun pins s σ H Q I z1_=>by
 obtain ⟨m,ρ,h,hr,er,p⟩:=z1_
 have hf:H s.heap.objs.size=none:=I.hok.fresh (AG _)
 refine wpAny_Dict_empty ⟨.ref s.heap.objs.size,Av H s.heap.objs.size (.ext (Nn s.heap.objs.size)),I.laid (t':=s.toks) (fun _ _ q=>AM _ q) (AG _) ?_,rfl,?_⟩
 ·have ne:s.heap.objs.size≠sysModules:=by
   obtain ⟨og,_,_,eg,_⟩:=I.ok.mod.glob
   obtain ⟨ml,⟨ol,_,_,el,_⟩,_⟩:=I.loc
   have h1:(3:Nat)<X.base.objs.size:=AO eg
   have h2:(X.env.locals:Nat)<s.heap.objs.size:=AO el
   have h3:X.base.objs.size≤X.s₀.heap.objs.size:=I.ok.bsz
   have h4:X.s₀.heap.objs.size≤(X.env.locals:Nat):=I.ok.above
   have h5:(1:Nat)<s.heap.objs.size:=A1 (A1 (show 1<4 by decide) h1) (BP h3 (BP h4 (Gc h2)))
   exact fun z=>Bj h5 z
  exact ⟨⟨ne,_,_,BD _ rfl,⟨rfl,rfl,rfl⟩,rfl⟩,⟨_,BD _ rfl⟩,fun h1 h2 z2_ k=>by obtain ⟨ne,o,ep,z1,z2⟩:=z2_;exact (⟨ne,o,ep,k o z1,z2⟩)⟩
 ·exact p (.ref s.heap.objs.size) m _ (AC _) (.new hf) (hr.new hf) (by simp only [rD,DV];exact ⟨_,rfl,B9⟩)
def ZfO (T:List (Str×(List D→HD→Out D))) (fv:ME) (fa:MA):ME:=fun ρ h=>(fv ρ h).bind fun d h1=>match d with
 |.glo n=>(match T.lookup n with
  |some F=>(fa ρ h1).bind F
  |none=>.stuck)
 |_=>.stuck
def ZfP (P:Program) (w:World) (K:Frag) (mg:Str→Option Value) (base:Heap) (k:Nat) (T:List (Str×(List D→HD→Out D))):Prop:=∀n F,T.lookup n=some F→CaE P w K mg base n k F
theorem CaE.mono {P:Program} {w:World} {K:Frag} {mg:Str→Option Value} {base:Heap} {x:Str} {j k:Nat} {F:List D→HD→Out D} (C:CaE P w K mg base x j F) (h:j≤k):CaE P w K mg base x k F:=by
 obtain ⟨f,fd,ps,G,r⟩:=C.ex
 exact ⟨f,fd,ps,G.mono h,r⟩
end
def ZfQ (K:Frag) (c:Addr):Bool:=match tabP K with
 |some (c',T)=>c'==c&&codeHdIn K c T
 |none=>false
section
variable {prog:Program} {w:World} {A:Around} {E:Str→Value→Shared→Prop}
end
section
variable {X:Cx} {E:XK}
def Zu (K:PySem.W.Frag):V→Option Int→Option Int→Hp→VK→Prop:=fun x lo hi H Q=>∃a xs,x=.ref a∧SqT K H a xs∧HT.sIx xs.length 0 lo=0∧HT.sIx xs.length xs.length hi=xs.length∧Q (.ref a) H
theorem sl_whole:SlR X (Zu X.K):=by
 rintro pins s σ H x v vl vu lo hi sl Q I rx hs pl pu ⟨a,xs,rfl,hx,w0,w1,q⟩
 cases rx
 obtain ⟨its,r,ht,hz⟩:=I.tuple hx
 have hl:its.toArray.size=xs.length:=by rw [A7];exact r.length.symm
 rw [←hl] at w0 w1
 obtain ⟨os,hos,hcs,hds⟩:=id hs
 refine ⟨"tuple",_,slot_tuple_getitem.lookup,ht.typeIs,?_⟩
 unfold getItem
 try with_reducible refine wpAny_holding ?_
 first |refine wpAny_bind (wpAny_pure ?_) |skip
 refine wpAny_bind (wpAny_sequenceKey ht.typeIs (by decide) (wpAny_bind (wpAny_callSpecial?_slot (name:=Str.ofString "__getitem__") ht.typeIs slot_tuple_getitem
  (wpAny_call_entry slot_tuple_getitem ht.typeIs entry_tuple_getitem ?_ (args_tuple_getitem _ _)))))
 show wpAny _ _ (Builtin.Tuple.tupleItemsOf (.ref a) >>=_) _ _ s
 refine wpAny_bind (tupleItemsOf_ ht (wpAny_bind (wpAny_typeOf (show s.TypeIs (.ref sl) "slice" from ⟨os,hos,hcs⟩) ?_)))
 rw [if_pos (by decide)]
 refine wpAny_bind (HT.sliceApplied_gen hs pl pu ?_)
 have hy:(((HT.sIx its.toArray.size 0 lo:Nat):Int)==0&&(1:Int)==1&&(HT.sIx its.toArray.size its.toArray.size hi - HT.sIx its.toArray.size 0 lo)==its.toArray.size)=true:=by
  rw [w0,w1]
  simp
 show wpAny _ _ (if (((HT.sIx its.toArray.size 0 lo:Nat):Int)==0&&(1:Int)==1&&(HT.sIx its.toArray.size its.toArray.size hi - HT.sIx its.toArray.size 0 lo)==its.toArray.size)=true then _ else _) _ _ s
 rw [if_pos hy]
 unfold Builtin.Tuple.tupleIsExact
 refine wpAny_bind (wpAny_bind (wpAny_typeOf ht.typeIs (wpAny_pure ?_)))
 rw [if_pos (by decide)]
 refine wpAny_bind (wpAny_rule ?_)
 have fin:EP X pins σ Q (.ref a) s:=⟨.ref a,H,I,rfl,q⟩
 first
  |exact wpAny_pure ⟨_,rfl,wpAny_pure fin⟩
  |exact wpAny_pure fin
def D9 (x:D) (lo hi:Option Int) (h:HD):Out D:=match x with
 |.tup xs=>.ok (.tup (cutD xs lo hi)) h
 |_=>.stuck
def Be (f:ME) (lo hi:MO):ME:=fun ρ h=>(f ρ h).bind fun x h1=>(lo ρ h1).bind fun l h2=>(hi ρ h2).bind fun u h3=>D9 x l u h3
theorem Zv {α:Type} {xs:List α} {lo hi:Option Int} (h0:HT.sIx xs.length 0 lo=0) (h1:HT.sIx xs.length xs.length hi=xs.length):(xs.drop (HT.sIx xs.length 0 lo)).take (HT.sIx xs.length xs.length hi - HT.sIx xs.length 0 lo)=xs:=by
 rw [h0,h1];simp
theorem Cn {e:Expr} {lo hi:Option Expr} {f:ME} {fl fh:MO} {p2 pos:Pos} (he:Ev X E e f) (hl:Lw X E lo fl) (hu:Lw X E hi fh):Ev X E (.Subscript e (.Slice lo hi none p2) pos) (Be f fl fh):=
 Ca (Wo (sl_whole.or Ws) he hl hu) fun σ H Q ⟨m,ρ,h,hr,er,p⟩=>⟨m,ρ,h,hr,er,Post.bind p fun x h1 v m1 H1 eo1 p1 k1 hr1 r1 q1=>
  ⟨m1,ρ,h1,hr1,er.keep p1 k1,Post.bind q1 fun l h2 l' m2 H2 eo2 p2 k2 hr2 r2 q2=>
   ⟨m2,ρ,h2,hr2,(er.keep p1 k1).keep p2 k2,Post.bind q2 fun u h3 u' m3 H3 eo3 p3 k3 hr3 r3 q3=>by
    clear eo1 eo2 eo3
    subst r2 r3
    have rx:=DV.keep p3 k3 (DV.keep p2 k2 r1)
    unfold D9 at q3
    split at q3
    ·rename_i xs
     have rx0:=rx
     simp only [DV] at rx
     obtain ⟨a,vs,rfl,ha,dv⟩:=rx
     by_cases hz:HT.sIx xs.length 0 l=0∧HT.sIx xs.length xs.length u=xs.length
     ·refine .inl ⟨a,vs,rfl,SqT.of ha,by rw [←dv.len];exact hz.1,by rw [←dv.len];exact hz.2,?_⟩
      have e:cutD xs l u=xs:=Zv hz.1 hz.2
      rw [e] at q3
      exact q3 (.ref a) m3 H3 (AC _) (.refl _) hr3 rx0
     ·rw [dv.len] at hz
      exact .inr ⟨a,vs,rfl,SqT.of ha,hz,GS hr3 (dv.cut l u) q3⟩
    ·exact q3.elim⟩⟩⟩
end
section
variable {f:ME} {lo hi:MO} {ρ:Ai} {h:HD} {Q:D→HD→Prop}
@[simp] theorem ZfR:Wp (Be f lo hi ρ h) Q=Wp (f ρ h) fun x h1=>Wp (lo ρ h1) fun l h2=>Wp (hi ρ h2) fun u h3=>Wp (D9 x l u h3) Q:=by unfold Be;simp only [AE]
end
section
variable {K:Frag} {mg:Str→Option Value} {h:Heap}
theorem Zw {us:List Value} (h:us.length=0):us=[]:=qcL.mp h
theorem R7 {us:List Value} (h:us.length=1):∃v0,us=[v0]:=by
 cases us with
 |nil=>cases h
 |cons v t=>
  obtain rfl:=Zw (Nat.succ.inj h)
  exact ⟨v,rfl⟩
theorem R8 {us:List Value} (h:us.length=2):∃v0 v1,us=[v0,v1]:=by
 cases us with
 |nil=>cases h
 |cons v t=>
  obtain ⟨w0,rfl⟩:=R7 (Nat.succ.inj h)
  exact ⟨v,w0,rfl⟩
theorem Zx {us:List Value} (h:us.length=3):∃v0 v1 v2,us=[v0,v1,v2]:=by
 cases us with
 |nil=>cases h
 |cons v t=>
  obtain ⟨w0,w1,rfl⟩:=R8 (Nat.succ.inj h)
  exact ⟨v,w0,w1,rfl⟩
theorem Ea {x p0:Str} {st:Stmt} {f:Addr} {oc:Value} {od an:Option Addr} {osl:Array (Option Value)} {kV doc pm cdv ct:Value} (X:K.In h) (G:h.Ns mainGlobals mg) (l:K.lookup f=some ⟨oc,od,.func (fnOf x x (defArgs st) (defBody st) (defScope st) .none kV doc pm an cdv ct),osl⟩) (c:codeIn K cdv x=true) (k:keepIn K (.ref f)=true) (a:nsIn K mainGlobals x=some (some (.ref f)))
 (b:∀(kV doc pm:Value) (an:Option Addr) (cdv ct v0:Value),bindArgs (fnOf x x (defArgs st) (defBody st) (defScope st) .none kV doc pm an cdv ct) ⟨[v0],[]⟩=pure (([p0]:List Str).zip [v0])):Dn K mg x [p0] st f (fnOf x x (defArgs st) (defBody st) (defScope st) .none kV doc pm an cdv ct):=
 ⟨Ip l c k,(Ip l c k).binds (fun kV doc pm an cdv ct us hl=>by obtain ⟨v0,rfl⟩:=R7 hl;exact b kV doc pm an cdv ct v0),mg_of X G a⟩
theorem DL {x p0 p1:Str} {st:Stmt} {f:Addr} {oc:Value} {od an:Option Addr} {osl:Array (Option Value)} {kV doc pm cdv ct:Value} (X:K.In h) (G:h.Ns mainGlobals mg) (l:K.lookup f=some ⟨oc,od,.func (fnOf x x (defArgs st) (defBody st) (defScope st) .none kV doc pm an cdv ct),osl⟩) (c:codeIn K cdv x=true) (k:keepIn K (.ref f)=true) (a:nsIn K mainGlobals x=some (some (.ref f)))
 (b:∀(kV doc pm:Value) (an:Option Addr) (cdv ct v0 v1:Value),bindArgs (fnOf x x (defArgs st) (defBody st) (defScope st) .none kV doc pm an cdv ct) ⟨[v0,v1],[]⟩=pure (([p0,p1]:List Str).zip [v0,v1])):Dn K mg x [p0,p1] st f (fnOf x x (defArgs st) (defBody st) (defScope st) .none kV doc pm an cdv ct):=
 ⟨Ip l c k,(Ip l c k).binds (fun kV doc pm an cdv ct us hl=>by obtain ⟨v0,v1,rfl⟩:=R8 hl;exact b kV doc pm an cdv ct v0 v1),mg_of X G a⟩
theorem Zy {x p0 p1 p2:Str} {st:Stmt} {f:Addr} {oc:Value} {od an:Option Addr} {osl:Array (Option Value)} {kV doc pm cdv ct:Value} (X:K.In h) (G:h.Ns mainGlobals mg) (l:K.lookup f=some ⟨oc,od,.func (fnOf x x (defArgs st) (defBody st) (defScope st) .none kV doc pm an cdv ct),osl⟩) (c:codeIn K cdv x=true) (k:keepIn K (.ref f)=true) (a:nsIn K mainGlobals x=some (some (.ref f)))
 (b:∀(kV doc pm:Value) (an:Option Addr) (cdv ct v0 v1 v2:Value),bindArgs (fnOf x x (defArgs st) (defBody st) (defScope st) .none kV doc pm an cdv ct) ⟨[v0,v1,v2],[]⟩=pure (([p0,p1,p2]:List Str).zip [v0,v1,v2])):Dn K mg x [p0,p1,p2] st f (fnOf x x (defArgs st) (defBody st) (defScope st) .none kV doc pm an cdv ct):=
 ⟨Ip l c k,(Ip l c k).binds (fun kV doc pm an cdv ct us hl=>by obtain ⟨v0,v1,v2,rfl⟩:=Zx hl;exact b kV doc pm an cdv ct v0 v1 v2),mg_of X G a⟩
theorem SaidD.of {st:Stmt} {f:Addr} {fd:FuncData} (d:Dn K mg "_law_said" ["_law_call"] st f fd):SaidD K mg st f fd:=⟨d.fn,d.bd,d.mg⟩
end
open AutoSeq1 (wpAny_loadPart')
section
variable {prog:Program} {w:World} {A:Around} {E:Value→Shared→Prop} {s:Shared}
end
def Ja (r:Addr) (n:Nat) (h:Heap):Prop:=∃t u v,IsRange h r 0 (n:Int) 1 t u v
theorem R9:∀(n k:Nat) (us:List Value),us.length=n→(∀(j:Nat) (v:Value),us[j]?=some v→∃t,v=Value.int ((k:Int)+(j:Int)) t)→Vals ((List.range' k n).map fun i=>V.int ((i:Nat):Int)) us
 |0,k,us,hl,h=>by
  rw [qcL.mp hl]
  exact .nil
 |n+1,k,us,hl,h=>by
  cases us with
  |nil=>cases hl
  |cons u us=>
   rw [List.range'_succ,Bx]
   refine .cons ?_ (R9 n (k+1) us (Nat.succ.inj hl) fun j v e=>?_)
   ·obtain ⟨t,e⟩:=h 0 u rfl
    exact ⟨t,by rw [e];simp⟩
   ·obtain ⟨t,e⟩:=h (j+1) v (by simpa using e)
    exact ⟨t,by rw [e];congr 1;push_cast;omega⟩
section
variable {X:Cx} {E:XK}
inductive Sa (vs:List V) (H:Hp) (Q:VK):Prop where
 |mk (n:Nat) (e:vs=[.int (n:Int)]) (hn:n≤1000) (q:∀p,H p=none→Q (.ref p) (Av H p (.ext (Ja p n)))):Sa vs H Q
inductive Zz (vs:List V) (H:Hp) (Q:VK):Prop where
 |mk (r:Addr) (n:Nat) (e:vs=[.ref r]) (hr:H r=some (.ext (Ja r n))) (hn:n≤1000) (q:∀p,H p=none→Q (.ref p) (Av H p (.tup ((List.range n).map fun i=>V.int ((i:Nat):Int))))):Zz vs H Q
theorem ZA:DD X (.type "range") Sa:=by
 intro pins s σ H vs us Q I r h
 obtain ⟨n,rfl,hn,q⟩:=h
 obtain ⟨u,rfl,t,rfl⟩:=Vals.one r
 refine call_range_1 ?_
 have hf:H s.heap.objs.size=none:=I.hok.fresh (AG _)
 refine ⟨.ref s.heap.objs.size,Av H s.heap.objs.size (.ext (Ja s.heap.objs.size n)),I.laid (fun b o e=>AM _ e) (AG _) ?_,rfl,q _ hf⟩
 exact ⟨⟨_,_,_,BD _ rfl⟩,⟨_,BD _ rfl⟩,fun h1 h2 z k=>by obtain ⟨t,u,v,e⟩:=z;exact ⟨t,u,v,k _ e⟩⟩
theorem Sb {K:Frag} {m:List Addr} {H:Hp}:∀l:List Nat,DVs K m H (l.map fun k=>D.int ((k:Nat):Int)) (l.map fun k=>V.int ((k:Nat):Int))
 |[]=>.nil
 |a::l=>.cons (by simp only [DV]) (Sb l)
noncomputable def ZC:D→HD→Out D:=fun d h=>match d with
 |.int i=>@ite _ (0≤i∧i≤1000) (Classical.propDecidable _) (.ok (.tup ((List.range i.toNat).map fun k=>D.int ((k:Nat):Int))) h) .stuck
 |_=>.stuck
noncomputable def ZfS (f:ME):ME:=fun ρ h=>(f ρ h).bind ZC
end
end LS
namespace LS
open PySem PySem.Spec PyProof.Rows L2 PySem.W
section
variable {X:Cx} {E:XK}
def ZD:D→HD→Out D:=fun x h=>match x with
 |.tup _=>.ok x h
 |_=>.stuck
def ZfT:D→D→HD→Out D:=fun x y h=>(ZD x h).bind fun _ _=>IY x y h
mutual
def Oj:PyData→Bool
 |.list _=>false
 |.tuple xs=>Ol xs
 |_=>true
def Ol:List PyData→Bool
 |[]=>true
 |x::xs=>Oj x&&Ol xs
end
def Om (h:HD):Nat→D→Option PyData
 |_,.non=>some .none
 |_,.bl b=>some (.bool b)
 |_,.int i=>some (.int i)
 |_,.str x=>some (.str x)
 |_,.edic=>some (.dict [])
 |n+1,.tup ds=>(AS (ds.map (Om h n))).map .tuple
 |n+1,.loc l=>match h[l]? with
  |some (.lst ds)=>(AS (ds.map (Om h n))).map .list
  |_=>none
 |_,_=>none
inductive ZE (h:Heap) (u:Value) (p:PyData):Prop where
 |mk (as:List Addr) (f1:Reads h u p as) (f2:Oj p=true→sysModules∉as):ZE h u p
inductive ZF (h:Heap) (us:List Value) (ps:List PyData):Prop where
 |mk (as:List Addr) (f1:ReadsAll h us ps as) (f2:Ol ps=true→sysModules∉as):ZF h us ps
variable {pins:List (Addr×Obj)} {σ:L2.St} {H:Hp} {s:Shared} {m:List Addr} {h:HD}
def ZfU:D→HD→Out D:=fun x h=>match Om h 8 x with
 |some p=>if p.showable=true∧(p.hasDict=false∨Oj p=true)∧p.depth≤40∧p.shown.length≤sizeLine then .ok (.str p.shown) h else .stuck
 |none=>.stuck
end
end LS
namespace HT
open PySem PyProof.Rows
def lexLe:List Int→List Int→Bool
 |[],[]=>true
 |[],_::_=>true
 |_::_,[]=>false
 |x::xs,y::ys=>if x=y then lexLe xs ys else decide (x≤y)
section
open PySem.SeqAt
open PySem.AutoSeq1 (wpAny_loadPart')
open PySem.MeetsSeq PySem.MeetsSeq2 PySem.MeetsSeq3
end
section
variable {prog:Program} {w:World} {A:Around} {E:Value→Shared→Prop} {s:Shared}
end
end HT
namespace L2
open PySem PySem.Spec PyProof.Rows
section
variable {X:Cx}
def ZfV (K:PySem.W.Frag):R2:=fun x y H Q=>∃a b ns ms,x=.ref a∧y=.ref b∧SqT K H a (ns.map V.int)∧SqT K H b (ms.map V.int)∧Q (.bl (HT.lexLe ns ms)) H
end
end L2
namespace LS
open PySem PySem.Spec PyProof.Rows L2
theorem Se {K:PySem.W.Frag} {cs:List (Option Nat)} {i j k:Nat} (h:cs[i]?=some none) (h':cs[j]?=some none) (h2:cs[k]?=some none):G1 K cs (Fe K [i,j,k].length (LN [i,j,k])) (Ez [i,j,k]):=fun m H d v ρ σ0 ρ' Q r er e q=>by
 unfold Ez at e
 split at e
 ·rename_i ds
  match ds,e with
  |[a,b,c],e=>
   cases e
   simp only [DV,DVs] at r
   obtain ⟨p,vs,rfl,hp,v1,w1,rfl,r1,v2,w2,rfl,r2,v3,w3,rfl,r3,rfl⟩:=r
   exact ⟨p,_,rfl,SqT.of hp,rfl,v1,_,rfl,v2,_,rfl,v3,_,rfl,rfl,q _ ((((Sub.refl _).set h).set h').set h2) (((er.set r1).set r2).set r3)⟩
 ·cases e
section
variable {X:Cx} {E:XK}
def On:D→Option (List Int)
 |.tup ds=>AS (ds.map G3)
 |_=>none
theorem Sg {m:List Addr} {H:Hp} {d:D} {v:V} {ns:List Int} (r:DV X.K m H d v) (e:On d=some ns):∃a,v=.ref a∧SqT X.K H a (ns.map V.int):=by
 cases d with
 |tup ds=>
  simp only [DV] at r
  obtain ⟨a,vs,rfl,ha,dv⟩:=r
  have:=NI dv e
  subst this
  exact ⟨a,rfl,SqT.of ha⟩
 |_=>exact nomatch (show (none:Option (List Int))=some ns from e)
def LQ (f:List Int→List Int→Bool):D→D→HD→Out D:=fun x y h=>match On x,On y with
 |some ns,some ms=>.ok (.bl (f ns ms)) h
 |_,_=>.stuck
theorem ZG (hu:X.A.units+64<cLine):BA X (compareOp .Lt) (LQ HT.lexLt):=⟨_,Wu (by omega),fun m H h E x y v u Q hr rx ry q=>by
 unfold LQ at q
 split at q
 ·rename_i ns ms e1 e2
  obtain ⟨a,rfl,ha⟩:=Sg rx e1
  obtain ⟨b,rfl,hb⟩:=Sg ry e2
  exact ⟨a,b,ns,ms,rfl,rfl,ha,hb,Bm hr q (by simp [DV])⟩
 ·exact q.elim⟩
end
section
variable {prog:Program} {w:World} {A:Around} {E:Value→Shared→Prop} {s:Shared}
theorem ZH {n:Nat} {sl:Addr} {tk:Tok} {Q:Int×Int×Nat→Shared→Prop} (hs:s.heap.IsSliceOf sl .none .none (.int (-1) tk)) (h:Q ((n:Int) - 1,-1,n) s):wpAny (model prog w) A (Builtin.Slice.sliceApplied (.ref sl) (pure ((n:Nat):Int))) Q E s:=by
 obtain ⟨os,hos,hcs,hds⟩:=id hs
 unfold Builtin.Slice.sliceApplied Builtin.Slice.sliceFields
 refine wpAny_bind (wpAny_bind (wpAny_field hos hds (x:=.none) rfl (wpAny_bind (wpAny_field hos hds (x:=.none) rfl (wpAny_bind (wpAny_field hos hds (x:=.int (-1) tk) rfl (wpAny_pure ?_)))))))
 refine wpAny_bind (slicePart_int ?_)
 show wpAny _ _ (if ((-1:Int)==0)=true then _ else _) _ _ s
 rw [if_neg (by decide)]
 refine wpAny_bind (slicePart_none (wpAny_bind (slicePart_none (wpAny_bind (wpAny_pure ?_)))))
 refine wpAny_pure ?_
 have e1:Builtin.Slice.slicePlaces ((n:Int) - 1) (-1) (-1)=n:=by
  unfold Builtin.Slice.slicePlaces
  simp
  omega
 have e2:Builtin.Slice.sliceAdjust none none (-1) (n:Int)=((n:Int) - 1,-1):=by
  rfl
 show Q ((Builtin.Slice.sliceAdjust none none (-1) (n:Int)).1,-1,Builtin.Slice.slicePlaces (Builtin.Slice.sliceAdjust none none (-1) (n:Int)).1 (Builtin.Slice.sliceAdjust none none (-1) (n:Int)).2 (-1)) s
 rw [e2]
 show Q ((n:Int) - 1,-1,Builtin.Slice.slicePlaces ((n:Int) - 1) (-1) (-1)) s
 rw [e1]
 exact h
theorem Sh {α β:Type} {f g:α→Option β}:∀{l:List α},(∀x∈l,f x=g x)→l.filterMap f=l.filterMap g
 |[],_=>rfl
 |x::xs,h=>by rw [F8,F8,h x Bf,Sh fun y hy=>h y (Bn _ hy)]
theorem LR {vs:List Value}:((List.range vs.toArray.size).filterMap fun (m:Nat)=>vs.toArray[(((vs.toArray.size:Nat):Int) - 1+(m:Int)*(-1)).toNat]?).toArray=vs.reverse.toArray:=by
 have e:(List.range vs.toArray.size).filterMap (fun (m:Nat)=>vs.toArray[(((vs.toArray.size:Nat):Int) - 1+(m:Int)*(-1)).toNat]?)=((List.range vs.toArray.size).map fun k=>vs.toArray.size - 1 - k).filterMap (vs.toArray[·]?):=by
  rw [List.filterMap_map]
  refine Sh fun m hm=>?_
  have:=qaY.mp hm
  show vs.toArray[_]?=vs.toArray[vs.toArray.size - 1 - m]?
  congr 1
  omega
 rw [e,PySem.W.krv_range,List.filterMap_reverse,PySem.W.krv_all]
theorem ZI {t sl:Addr} {vs:List Value} {tk:Tok} {Q:Value→Shared→Prop} (ht:IsTup s.heap t vs.toArray) (hs:s.heap.IsSliceOf sl .none .none (.int (-1) tk)) (hn:vs.length≤sizeLine)
 (h:Q (.ref s.heap.objs.size) {s with heap:=s.heap.push {cls:=.type "tuple",data:=.seq vs.reverse.toArray}}):wpAny (model prog w) A (getItem (.ref t) (.ref sl)) Q E s:=by
 obtain ⟨os,hos,hcs,hds⟩:=id hs
 have hTs:s.TypeIs (.ref sl) "slice":=⟨os,hos,hcs⟩
 unfold getItem
 try with_reducible refine wpAny_holding ?_
 first |refine wpAny_bind (wpAny_pure ?_) |skip
 refine wpAny_bind (wpAny_sequenceKey ht.typeIs (by decide) ?_)
 refine wpAny_bind (wpAny_callSpecial?_slot (name:=Str.ofString "__getitem__") ht.typeIs PyProof.Rows.slot_tuple_getitem
  (wpAny_call_entry PyProof.Rows.slot_tuple_getitem ht.typeIs entry_tuple_getitem ?_ (args_tuple_getitem _ _)))
 show wpAny _ _ (Builtin.Tuple.tupleItemsOf (.ref t) >>=_) _ _ s
 refine wpAny_bind (tupleItemsOf_ ht ?_)
 refine wpAny_bind (wpAny_typeOf hTs ?_)
 rw [if_pos (by decide)]
 refine wpAny_bind (ZH (n:=vs.toArray.size) hs ?_)
 show wpAny _ _ (if ((((vs.toArray.size:Nat):Int) - 1)==0&&(-1:Int)==1&&vs.toArray.size==vs.toArray.size)=true then _ else _) _ _ s
 rw [if_neg (by rw [show ((-1:Int)==1)=false from rfl,Bool.and_false,Jt];exact BE)]
 have hz:sizeOk (.seq vs.reverse.toArray):=by show vs.reverse.toArray.size≤sizeLine;simpa using hn
 first
  |(rw [LR];exact wpAny_bind (m:=Builtin.Tuple.tupleExact _) (wpAny_newObj_type (wpAny_pure ⟨_,rfl,wpAny_pure h⟩) hz))
  |(rw [LR];exact wpAny_bind (m:=Builtin.Tuple.tupleExact _) (wpAny_newObj_type (wpAny_bind (wpAny_pure (wpAny_pure ⟨_,rfl,wpAny_pure h⟩))) hz))
  |(rw [LR];exact wpAny_bind (wpAny_bind (m:=Builtin.Tuple.tupleExact _) (wpAny_newObj_type (wpAny_pure (wpAny_pure ⟨_,rfl,wpAny_pure h⟩)) hz)))
  |(rw [LR];exact wpAny_bind (wpAny_bind (m:=Builtin.Tuple.tupleExact _) (wpAny_newObj_type (wpAny_pure ⟨_,rfl,wpAny_pure h⟩) hz)))
end
section
variable {X:Cx} {E:XK} {e:Expr} {f:ME}
def LU:D→HD→Out D:=fun x h=>match x with
 |.tup ds=>.ok (.tup ds.reverse) h
 |_=>.stuck
def JY (f:ME):ME:=fun ρ h=>(f ρ h).bind LU
theorem DVs.rev {K:PySem.W.Frag} {m:List Addr} {H:Hp}:∀{ds:List D} {vs:List V},DVs K m H ds vs→DVs K m H ds.reverse vs.reverse
 |[],vs,r=>by
  simp only [DVs] at r
  subst r
  exact .nil
 |d::ds,vs,r=>by
  simp only [DVs] at r
  obtain ⟨v,w,rfl,rv,rw'⟩:=r
  rw [Jl,Jl]
  exact (DVs.rev rw').app (.cons rv .nil)
theorem ZJ {vs:List V} {us:List Value} (r:Vals vs us):Vals vs.reverse us.reverse:=r.reverse
theorem ZK {j:Nat} {p1 p2 p3 pos:Pos} (he:Ev X E e f):Ev X E (.Subscript e (.Slice none none (some (.UnaryOp .USub (.Constant (.int 1) j p1) p2)) p3) pos) (JY f):=by
 rintro pins s σ H Q I ⟨m,ρ,h,hr,er,p⟩
 have p':tD X.K E f σ H fun v H1=>∃t xs,v=.ref t∧SqT X.K H1 t xs∧∀q,H1 q=none→Q (.ref q) (Av H1 q (.tup xs.reverse)):=⟨m,ρ,h,hr,er,Post.bind p fun x h1 v m1 H1 eo p1 k1 hr1 r1 q1=>by
  clear eo
  unfold LU at q1
  split at q1
  ·simp only [rD,DV] at r1
   obtain ⟨t,vs,rfl,ht,dv⟩:=r1
   exact ⟨t,vs,rfl,SqT.of ht,GS hr1 (DVs.rev dv) q1⟩
  ·exact q1.elim⟩
 refine Subscript_ (AA (he pins s σ H _ I p') fun v s1 z1_=>?_)
 obtain ⟨x,H1,I1,r1,t,xs,ex,hq,q1⟩:=z1_
 subst ex
 cases r1
 refine wpAny_Slice ?_
 rw [evalPart_none,evalPart_some]
 refine wpAny_pure (wpAny_pure ?_)
 have st:PE X (.UnaryOp .USub (.Constant (.int 1) j p1) p2) (PM (rU fun i=>.int (-i)) (tC (.int 1))):=PN PR PJ
 refine AA (st pins s1 σ H1 (fun v H3=>v=.int (-1)∧H3=H1) I1 ⟨1,rfl,rfl,rfl⟩) fun sv s3 z2_=>?_
 obtain ⟨x,H3,I3,r3,ex,eH⟩:=z2_
 subst ex eH
 obtain ⟨tk,rfl⟩:=r3
 obtain ⟨its,rv,pl,hz⟩:=I3.tuple hq
 have I4:Inv X pins σ H3 {s3 with heap:=s3.heap.push {cls:=.type "slice",data:=.fields #[.none,.none,.int (-1) tk]}}:=I3.kept (t':=s3.toks) fun b ob q=>AM _ q
 have pl4:IsTup (s3.heap.push {cls:=.type "slice",data:=.fields #[.none,.none,.int (-1) tk]}) t its.toArray:=by
  obtain ⟨o,ho,r⟩:=pl
  exact ⟨o,AM _ ho,r⟩
 have hsl:(s3.heap.push {cls:=.type "slice",data:=.fields #[.none,.none,.int (-1) tk]}).IsSliceOf s3.heap.objs.size .none .none (.int (-1) tk):=Heap.IsSliceOf.new ..
 show wpAny (model X.prog X.w) X.A (subscriptTail e (.Slice none none (some (.UnaryOp .USub (.Constant (.int 1) j p1) p2)) p3) (.ref t) (.ref s3.heap.objs.size)) (EP X pins σ Q) X.xe {s3 with heap:=s3.heap.push {cls:=.type "slice",data:=.fields #[.none,.none,.int (-1) tk]}}
 refine tail_any (ops:=[.ref t,.ref s3.heap.objs.size]) (T:="tuple") pl4.typeIs PyProof.Rows.slot_tuple_getitem.lookup (ZI (s:={s3 with heap:=s3.heap.push {cls:=.type "slice",data:=.fields #[.none,.none,.int (-1) tk]}}) pl4 hsl (by rw [←rv.length];exact hz) ?_) (by with_unfolding_all rfl)
 refine ⟨.ref _,_,I4.laid (t':=s3.toks) (o:=.tup xs.reverse) (fun b ob q=>AM _ q) (AG _) ?_,rfl,q1 _ (I4.hok.fresh (AG _))⟩
 exact ⟨by rw [List.length_reverse];exact hz,its.reverse,ZJ rv,IsTup.new _ _,NoDict.new⟩
end
end LS
namespace LS
open PySem
section
variable {prog:Program} {w:World} {A:Around} {E:Value→Shared→Prop} {h:Heap} {g:Array GenState} {d:Drawn} {t:Nat} {os:OsState}
variable {nm q:Str} {C N:Addr} {bs bm bmB:List Value} {hdct:Bool} {sn:List Str} {sub:List Value} {ab:Bool} {col:Option Bool} {dd:Option Addr} {k0 k1 k2 k3 k5:Option Value} {B newId initId:String}
end
end LS
namespace LS
open PySem PySem.Spec PyProof.Rows L2
def ZfW (i j k:Nat):MG:=fun d ρ=>match d with
 |.tup [x,.tup [y,z]]=>some (((ρ.set i (some x)).set j (some y)).set k (some z))
 |_=>none
abbrev ZfX (K:PySem.W.Frag) (i j k:Nat):TG:=Fe K 2 (CU (Cy i) (CU (Fe K 2 (CU (Cy j) (CU (Cy k) FE))) FE))
def emS (elt:Expr) (gens:List Comprehension) (scope:Scope) (pos:Pos) (d:Nat) (acc:Value) (env:Env):Sem Unit:=match gens[d+1]? with
 |some g=>eval g.iter env >>=fun x=>standAt g.iter.pos >>=fun _=>foldedSetIterable g.iter env x >>=fun y=>holding [y] (pyIter y) >>=fun it=>
  runOwn (.compStart (.ListComp elt gens scope pos) (d+1) it acc env) env >>=fun _=>pure ()
 |none=>eval elt env >>=fun x=>call (.builtin "list.append") [acc,x] >>=fun _=>pure ()
section
variable {prog:Program} {w:World} {A:Around} {R:Result→Shared→Prop} {s:Shared} {elt tg iter:Expr} {gens:List Comprehension} {ifs:List Expr} {scope:Scope} {pos:Pos} {d:Nat} {it acc:Value} {env:Env}
end
abbrev Oo (its:List Value) (k:Nat):Obj:={cls:=.type "list",data:=.seq its.toArray k}
structure ZfY (X:Cx) (D:Addr):Prop where
 lo:D≠X.env.locals
 ce:∀x c,X.env.cells.lookup x=some c→c≠D
 pn:∀p∈X.pn,p.1≠D
 ex:D∈X.ex
 fs:D∉X.fs
section
variable {X:Cx} {D:Addr} {its its':List Value} {k k':Nat} {rest:List (Addr×Obj)} {σ:L2.St} {H:Hp} {s:Shared} {h':Heap}
def EM (X:Cx) (D:Addr) (em:Sem Unit) (te:L2.St→Hp→List V→(List V→Hp→Prop)→Prop):Prop:=
 ∀(rest:List (Addr×Obj)) (its:List Value) (k:Nat) (acc:List V) (σ:L2.St) (H:Hp) (s:Shared) (Q:List V→Hp→Prop),Inv X ((D,Oo its k)::rest) σ H s→(∀p∈rest,p.1≠D)→Vals acc its→te σ H acc Q→
  wpAny (model X.prog X.w) X.A em (fun _ s'=>∃its' k' acc' H',Inv X ((D,Oo its' k')::rest) σ H' s'∧Vals acc' its'∧Q acc' H') (fun _ _=>False) s
def ZfZ (te:TE):L2.St→Hp→List V→(List V→Hp→Prop)→Prop:=fun σ H acc Q=>acc.length<sizeLine∧te σ H fun y H'=>Q (acc++[y]) H'
def Zf0 (wi:TI) (g:TG) (tc:TT) (te:L2.St→Hp→List V→(List V→Hp→Prop)→Prop):L2.St→Hp→List V→(List V→Hp→Prop)→Prop:=fun σ H acc Q=>wi σ H fun J H1=>∃W:Nat→Nat→List V→Hp→Prop,(∃n,W 0 n acc H1)∧∀i n acc H,W i n acc H→
 (J.stop i H∧Q acc H)∨
 (J.go i H∧∀x H',J.yld i H x H'→g x σ H' fun σ2 H2=>Sub σ σ2∧tc σ2 H2 fun b H3=>if b=true then te σ2 H3 acc fun acc' H4=>∃n',n' < n∧W (i+1) n' acc' H4 else ∃n',n' < n∧W (i+1) n' acc H3)
inductive ZL (X:Cx) (D:Addr) (rest:List (Addr×Obj)) (σ:L2.St) (W:Nat→Nat→List V→Hp→Prop) (tn:Nat→Heap→Prop) (fp:List Addr) (n:Nat) (s':Shared):Prop where
 |mk (i:Nat) (acc:List V) (H':Hp) (its:List Value) (k:Nat) (w:W i n acc H') (ii:Inv X ((D,Oo its k)::rest) σ H' s') (st:tn i s'.heap) (fr:∀b∈fp,H' b=none) (rv:Vals acc its):ZL X D rest σ W tn fp n s'
end
def Zf1 (cs:List (Option Nat)) (wi:TI) (g:TG) (tc:TT) (te:L2.St→Hp→List V→(List V→Hp→Prop)→Prop):TE:=fun σ H Q=>wi σ H fun J H1=>∃W:Nat→Nat→List V→Hp→Prop,(∃n,W 0 n [] H1)∧∀i n acc H,W i n acc H→
 (J.stop i H∧acc.length≤sizeLine∧∀p,H p=none→Q (.ref p) (Av H p (.lst acc)))∨
 (J.go i H∧∀x H',J.yld i H x H'→g x (BW cs σ) H' fun σ2 H2=>Sub (BW cs σ) σ2∧tc σ2 H2 fun b H3=>if b=true then te σ2 H3 acc fun acc' H4=>∃n',n' < n∧W (i+1) n' acc' H4 else ∃n',n' < n∧W (i+1) n' acc H3)
section
variable {X:Cx} {elt tg iter:Expr} {ifs:List Expr} {gs:List Comprehension} {scope:Scope} {pos:Pos} {Nc:List Str} {cs:List (Option Nat)} {wi:TI} {g:TG} {tc:TT} {te:L2.St→Hp→List V→(List V→Hp→Prop)→Prop}
end
abbrev EA:=Ai→HD→List D→Out (List D)
abbrev Si:=L2.St→Hp→List V→(List V→Hp→Prop)→Prop
def Frs (js:List Nat) (σ:L2.St):Prop:=∀j∈js,σ[j]?=some none
def Zf2 (K:PySem.W.Frag) (is js:List Nat) (gg:TG) (sg:MG):Prop:=
 ∀m H d v ρ σ ρ' Q,DV K m H d v→ER K m H ρ σ→Frs (is++js) σ→sg d ρ=some ρ'→(∀σ',Sub σ σ'→Frs js σ'→ER K m H ρ' σ'→Q σ' H)→gg v σ H Q
theorem Frs.set {js:List Nat} {σ:L2.St} {i:Nat} {v:Option V} (h:Frs js σ) (n:i∉js):Frs js (σ.set i v):=fun j hj=>by
 have hn:i≠j:=by
  rintro rfl
  exact n hj
 rw [B4 hn]
 exact h j hj
noncomputable def Zf3 (f:ME):EA:=fun ρ h acc=>if acc.length<sizeLine then (noErr (f ρ h)).bind fun y h2=>.ok (acc++[y]) h2 else .stuck
open Classical in
noncomputable def JZ (src:Bc) (items:List D) (sg:MG) (t:MT) (e:EA) (ρ:Ai):List D→HD→List D→Out (List D)
 |[],h,acc=>if BR src items h then .ok acc h else .stuck
 |d::ds,h,acc=>if BR src items h then match sg d ρ with
   |none=>.stuck
   |some ρ1=>(noErr (t ρ1 h)).bind fun b h1=>if b=true then (noErr (e ρ1 h1 acc)).bind fun acc2 h2=>JZ src items sg t e ρ ds h2 acc2 else JZ src items sg t e ρ ds h1 acc
  else .stuck
noncomputable def Zf4 (it:MI) (sg:MG) (t:MT) (e:EA):EA:=fun ρ h acc=>(noErr (it ρ h)).bind fun x h1=>JZ x.2 x.1 sg t e ρ x.1 h1 acc
noncomputable def LV (cs:List (Option Nat)) (it:MI) (sg:MG) (t:MT) (e:EA):ME:=fun ρ h=>(it ρ h).bind fun x h1=>(JZ x.2 x.1 sg t e (CK cs ρ) x.1 h1 []).bind CH
def tEm (K:PySem.W.Frag) (js:List Nat) (e:EA):Si:=fun σ H acc Q=>∃m ρ h dacc,HR K m h H∧ER K m H ρ σ∧DVs K m H dacc acc∧Frs js σ∧Post K (Fg K) m H E0 Q (e ρ h dacc)
theorem EM.imp {X:Cx} {D:Addr} {em:Sem Unit} {te te':Si} (h:EM X D em te) (f:∀σ H acc Q,te' σ H acc Q→te σ H acc Q):EM X D em te':=
 fun rest its k acc σ H s Q I hr rv z=>h rest its k acc σ H s Q I hr rv (f _ _ _ _ z)
inductive ZM {β:Type} (K:PySem.W.Frag) (E:XK) (α:Type) (R:List Addr→Hp→α→β→Prop) (Q:β→Hp→Prop) (kk:List D→HD→Out α) (src:Bc) (items:List D) (sg:MG) (t:MT) (e:EA) (ρ:Ai) (m1:List Addr) (H1:Hp) (i n:Nat) (acc:List V) (H2:Hp):Prop where
 |mk (en:n=items.length - i) (l:i≤items.length) (m2:List Addr) (h2:HD) (dacc:List D) (p:m1 <+:m2) (k:Kp H1 H2) (hr:HR K m2 h2 H2) (da:DVs K m2 H2 dacc acc) (q:Post K R m2 H2 E Q ((JZ src items sg t e ρ (items.drop i) h2 dacc).bind kk)):ZM K E α R Q kk src items sg t e ρ m1 H1 i n acc H2
section
variable {X:Cx} {E:XK} {D:Addr} {elt tg iter:Expr} {ifs:List Expr} {gs gens:List Comprehension} {scope:Scope} {pos:Pos} {Nc:List Str} {cs:List (Option Nat)} {it:MI} {gg:TG} {sg:MG} {t:MT} {f:ME} {e:EA} {d:Nat} {is js:List Nat}
end
section
variable {α β:Type} {cs:List (Option Nat)} {it:MI} {sg:MG} {t:MT} {f:ME} {e:EA} {ρ:Ai} {h:HD} {src:Bc} {xs:List α} {φ:α→D} {acc:List D}
noncomputable def ZN (cs:List (Option Nat)) (it:MI) (sg:MG) (t:MT) (e:EA):ME:=Ah (AB Ci) (Aa (LV cs it sg t e) Ae)
noncomputable def ZO (cs:List (Option Nat)) (it:MI) (sg:MG) (t:MT) (e:EA):ME:=Ah (AB Fi) (Aa (LV cs it sg t e) Ae)
@[simp] theorem Zf5:Ah (AB Ci) (Aa (LV cs it sg t e) Ae) ρ h=ZN cs it sg t e ρ h:=rfl
@[simp] theorem Zf6:Ah (AB Fi) (Aa (LV cs it sg t e) Ae) ρ h=ZO cs it sg t e ρ h:=rfl
end
end LS
namespace LS
open PySem
inductive TlN (h:Heap) (ns:List Str) (bB:List Value):List Value→Prop
 |base:TlN h ns bB bB
 |own {a:Addr} {c0:Value} {dd:Option Addr} {cd:ClassData} {sl:Array (Option Value)} {m:Str→Option Value} {tl:List Value} (ha:h.get? a=some {cls:=c0,dict:=dd,data:=.cls cd,slots:=sl}) (hm:h.Ns cd.ns m) (no:∀n∈ns,m n=none) (r:TlN h ns bB tl):TlN h ns bB (.ref a::tl)
theorem TlN.keeps {h h':Heap} {ns:List Str} {bB tl:List Value} (T:TlN h ns bB tl) (k:∀b o,h.get? b=some o→h'.get? b=some o):TlN h' ns bB tl:=by
 induction T with
 |base=>exact .base
 |own ha hm no _ ih=>exact .own (k _ _ ha) (hm.keeps k) no ih
theorem TlN.has {h:Heap} {ns:List Str} {bB tl:List Value} {v:Value} (T:TlN h ns bB tl) (hv:bB.contains v=true):tl.contains v=true:=by
 induction T with
 |base=>exact hv
 |own ha hm no _ ih=>rw [List.contains_cons,ih,Bool.or_true]
section
variable {M:Model} {A:Around} {E:Value→Shared→Prop} {h:Heap} {g:Array GenState} {d:Drawn} {t:Nat} {os:OsState}
theorem TlN.look {ns:List Str} {bB tl:List Value} {n:Str} {y:Option Value} {Q:Option Value→Shared→Prop} (T:TlN h ns bB tl) (hn:n∈ns) (e:lookupAlong bB n=pure y) (q:Q y ⟨h,g,d,t,os⟩):wpAny M A (lookupAlong tl n) Q E ⟨h,g,d,t,os⟩:=by
 induction T with
 |base=>rw [e];exact wpAny_pure q
 |own ha hm no _ ih=>
  rw [lookupAlong_cons];refine wpAny_bind (wpAny_classOwn_cls ha hm ?_);rw [no n hn]
  exact ih
variable {nm q:Str} {C N x:Addr} {bs bm bB:List Value} {hd:Bool} {sn:List Str} {sub:List Value} {ab:Bool} {col:Option Bool} {dd:Option Addr} {k0 k1 k2 k3 k5:Option Value} {B newId sa owner:String} {ns:List Str} {mN mA:Str→Option Value} {name:Str} {v:Value}
end
section
variable {prog:Program} {w:World} {A:Around} {E:Value→Shared→Prop} {h:Heap} {g:Array GenState} {d:Drawn} {t:Nat} {os:OsState}
variable {nm q:Str} {C N x:Addr} {bs bm bB:List Value} {sn:List Str} {sub:List Value} {ab:Bool} {col:Option Bool} {dd:Option Addr} {k0 k1 k2 k3 k5:Option Value} {B newId sa owner:String} {ns:List Str} {mN mA:Str→Option Value} {name:Str} {v:Value}
structure Zf7 (h h':Heap) (x C:Addr) (name:Str) (v:Value) (mA:Str→Option Value):Prop where
 inst:h'.Inst x C (fun y=>if y=name then some v else mA y)
 keep:∀b o,b≠x→(∀o0 dx,h.get? x=some o0→o0.dict=some dx→b≠dx)→h.get? b=some o→h'.get? b=some o
 new:∀o0,h.get? x=some o0→o0.dict=none→∃o1,h'.get? x=some o1∧o1.dict=some h.objs.size
 same:∀o0,h.get? x=some o0→∃o1,h'.get? x=some o1∧o1.cls=o0.cls∧o1.data=o0.data∧o1.slots=o0.slots∧∀dx,o0.dict=some dx→o1.dict=some dx
end
section
variable {prog:Program} {w:World} {A:Around} {E:Value→Shared→Prop} {h:Heap} {g:Array GenState} {d:Drawn} {t:Nat} {os:OsState}
variable {nm q:Str} {C N x:Addr} {bs bm bB:List Value} {sn:List Str} {sub:List Value} {ab:Bool} {col:Option Bool} {dd:Option Addr} {k0 k1 k2 k3 k5:Option Value} {B newId:String} {ns:List Str} {mN mA:Str→Option Value} {name:Str} {v:Value}
end
end LS
namespace LS
open PySem PySem.Spec PyProof.Rows L2
def tmNames:List Str:=["__init__","__setattr__","__getattribute__","__getattr__","many","most"]
def Sj (K:PySem.W.Frag) (ns:List Str) (bB:List Value):List Value→Bool
 |[]=>bB==[]
 |v::r=>(v::r)==bB||match v with
  |.ref a=>(match K.lookup a with
   |some o=>(match clsOf o.data with
    |some cd=>PySem.W.nsOkIn K cd.ns&&(ns.all (fun n=>PySem.W.nsIn K cd.ns n==some none)&&Sj K ns bB r)
    |none=>false)
   |none=>false)
  |_=>false
theorem TlN.tail {h:Heap} {ns:List Str} {bB tl:List Value} (T:TlN h ns bB tl) (hi:("__init__":Str)∈ns):OwnTail h bB tl:=by
 induction T with
 |base=>exact .base
 |own ha hm no _ ih=>exact .own ha hm (no _ hi) ih
inductive ZP (h:Heap) (C fI:Addr):Prop where
 |mk (bm:List Value) (N:Addr) (nm q:Str) (bs:List Value) (sn:List Str) (sub:List Value) (ab:Bool) (col:Option Bool) (dd:Option Addr) (k0 k1 k2 k3 k5:Option Value) (mN:Str→Option Value)
  (hC:h.get? C=some (excClassObj nm q C N bs bm true sn sub ab col dd k0 k1 k2 k3 k5 "ValueError.__new__")) (hN:h.Ns N mN) (hi:mN "__init__"=some (.ref fI)) (no:∀n∈tmNames.tail,mN n=none) (T:TlN h tmNames JV bm):ZP h C fI
def ZQ (K:PySem.W.Frag) (C fI:Addr) (o:Obj) (cd:ClassData):Bool:=
 decide (o.cls=.type "type")&&(decide (cd.mro=.ref C::cd.mro.tail)&&(!cd.hasDel&&(Sj K tmNames JV cd.mro.tail&&(PySem.W.nsOkIn K cd.ns&&(PySem.W.nsIn K cd.ns "__init__"==some (some (.ref fI))&&(tmNames.tail.all (fun n=>PySem.W.nsIn K cd.ns n==some none)&&(decide (o.slots.toList.length=6)&&(decide (o.slots.toList[4]?=some (some (.builtin "ValueError.__new__")))&&cd.hasDict))))))))
def tmX (K:PySem.W.Frag) (C fI:Addr):Bool:=match K.lookup C with
 |some o=>(match clsOf o.data with
  |some cd=>ZQ K C fI o cd
  |none=>false)
 |none=>false
def ZR (C t0:Addr) (da:Option Addr):Obj:={cls:=.ref C,dict:=da,data:=.fields #[.ref t0,.none,.none,.none,.bool false,.none]}
def LW (C e:Addr) (da:Option Addr) (h:Heap):Prop:=∃t0,h.get? e=some (ZR C t0 da)
def Zf8 (d:Addr) (m:Str→Option Value) (h:Heap):Prop:=h.Ns1 d m
def one (n:Str) (u:Value):Str→Option Value:=fun y=>if y=n then some u else none
section
variable {X:Cx} {pins:List (Addr×Obj)} {σ:L2.St} {H:Hp} {s:Shared} {E:Value→Shared→Prop} {A:Around} {C fI e da:Addr} {n:Str} {u:Value}
def del (H:Hp) (a:Addr):Hp:=fun b=>if b=a then none else H b
theorem Sk {H:Hp} {a b:Addr} (h:b≠a):del H a b=H b:=by unfold del;rw [if_neg h]
theorem Kp.del {H:Hp} {a:Addr} {φ:Heap→Prop} (h:H a=some (.mex φ)):Kp H (LS.del H a):=fun b o e i=>by
 rw [Sk]
 ·exact e
 ·intro z
  rw [z,h] at e;cases e;cases i
theorem HR.del {K:PySem.W.Frag} {m:List Addr} {h:HD} {H:Hp} {a:Addr} {φ:Heap→Prop} (r:HR K m h H) (e:H a=some (.mex φ)):HR K m h (LS.del H a):=r.same (.del e) fun b hb=>Sk fun z=>by
 subst z
 obtain ⟨l,hl,el⟩:=List.getElem_of_mem hb
 have hl':l<h.length:=by rw [←r.len];exact hl
 have c:=r.cells l h[l] m[l] (Ba hl') (Ba hl)
 rw [el] at c
 cases hc:h[l] with
 |lst ds=>rw [hc] at c;obtain ⟨vs,q,_⟩:=c;rw [e] at q;cases q
 |tab=>rw [hc] at c;obtain ⟨_,ps,q,_⟩:=c;rw [e] at q;cases q
 |dic fz kvs=>
  rw [hc] at c
  obtain ⟨es,q,_⟩:=c
  cases fz with
  |true=>obtain ⟨o,q⟩:=q;rw [e] at q;cases q
  |false=>exact absurd (e.symm.trans q) (by intro z;cases z)
end
end LS
namespace LS
open PySem PySem.Spec PyProof.Rows L2 PySem.Calls PySem.W
def swX (K:PySem.W.Frag) (S:Addr):Bool:=PySem.W.readsIn K S (.type "type")&&(match PySem.W.findCls K (.ref S) (.type "type") "__init__" with
 |some (.val (.builtin b))=>b=="ValueError.__init__"
 |_=>false)
def Zf9 (H₀:Hp) (C:Addr) (ta:TA):TE:=fun σ H Q=>∃e,H₀ e≠none∧H e=some (.mex (LW C e none))∧ta σ (del H e) fun vs H1=>∃x,vs=[.ref e,.str x]∧(H1 e=none→Q .non (Av H1 e (.mex (LW C e none))))
section
variable {X:Cx} {C fI S:Addr} {ta:TA} {a1 a2:Expr} {p1 p2 p5:Pos}
end
end LS
namespace LS
open PySem PySem.Spec PyProof.Rows L2 PySem.Calls
section
variable {X:Cx} {C fI S:Addr}
end
noncomputable abbrev Sl:ME:=Of (RU (Ab 1) (Zh " are more than " (RU (Ab 2) Zg)))
inductive Sn (K:PySem.W.Frag) (C:Addr) (vs:List V) (H:Hp) (Q:VK) (E:XK):Prop
 |mk (e:Addr) (a b:Int) (m:List Addr) (h h2:HD) (x:Str) (ev:vs=[.ref e,.int a,.int b]) (hr:HR K m h H) (hH:H e=some (.mex (LW C e none))) (hj:Sl [none,some (.int a),some (.int b)] h=.ok (.str x) h2)
  (q:∀m1 H1 da,m <+:m1→Kp (del H e) H1→HR K m1 h2 H1→H1 e=none→H1 da=none→da≠e→Q .non (Av (Av H1 e (.mex (LW C e (some da)))) da (.xd [("many",.int a),("most",.int b)]))):Sn K C vs H Q E
section
variable {P:Program} {w:World} {K:PySem.W.Frag} {mg:Str→Option Value} {base:Heap} {C f S:Addr} {k:Nat} {qual:Str} {scope:Scope} {p1 p2 p3 p4 p5 p6 q1 q2 q3 q4 r1 r2 r3 r4:Pos} {js:Expr}
abbrev Zga (js:Expr) (p1 p2 p3 p5 p6 q1 q2 q3 q4 r1 r2 r3 r4:Pos):List Stmt:=[.Expr (.Call (.Attribute (.Name "SwitchError" p1) "__init__" p2) [.Name "self" p3,js] [] p5) p6,.Assign [.Attribute (.Name "self" q1) "many" q2] (.Name "many" q3) q4,.Assign [.Attribute (.Name "self" r1) "most" r2] (.Name "most" r3) r4]
end
noncomputable def Zgb (fa:MA):MS:=fun ρ h=>(fa ρ h).bind fun xs h1=>match xs with
 |[.int a,.int b]=>(match Sl [none,some (.int a),some (.int b)] h1 with
  |.ok (.str _) h2=>.err (Fj "TooMany") [("many",.int a),("most",.int b)] h2
  |_=>.stuck)
 |_=>.stuck
section
variable {X:Cx} {E:XK} {C fI:Addr} {fd:FuncData} {k:Nat}
end
def ZS (nm:Str):D→HD→Out D
 |.exc n fs,h=>if n="TooMany" then (match fs.lookup nm with
  |some i=>.ok (.int i) h
  |none=>.stuck) else .stuck
 |_,_=>.stuck
noncomputable def Zgc (f:ME) (nm:Str):ME:=fun ρ h=>(f ρ h).bind fun d h1=>ZS nm d h1
section
variable {X:Cx} {E:XK} {C fI:Addr}
end
end LS
namespace Tp
open PySem PySem.W PySem.Spec PySem.Calls PyProof.Rows
section
variable {α β:Type}
noncomputable def fN (n:Nat) (k:Nat→α):α:=@Nat.rec (fun _=>α) (k 0) (fun m _=>k (Nat.succ m)) n
theorem LY (n:Nat) (k:Nat→α):fN n k=k n:=by cases n<;>rfl
noncomputable def fL (l:List β):(List β→α)→α:=@List.rec β (fun _=>(List β→α)→α) (fun k=>k []) (fun a _ ih k=>ih fun l'=>k (a::l')) l
theorem J0:∀(l:List β) (k:List β→α),fL l k=k l
 |[],_=>rfl
 |a::l,k=>J0 l fun l'=>k (a::l')
noncomputable def fE (l:List DictEntry):(List DictEntry→α)→α:=@List.rec DictEntry (fun _=>(List DictEntry→α)→α) (fun k=>k []) (fun a _ ih k=>ih fun l'=>@DictEntry.rec (fun _=>α) (fun x y z=>k (⟨x,y,z⟩::l')) a) l
theorem So:∀(l:List DictEntry) (k:List DictEntry→α),fE l k=k l
 |[],_=>rfl
 |⟨_,_,_⟩::l,k=>So l fun l'=>k (_::l')
noncomputable def fD (d:Data) (k:Data→α):α:=@Data.rec (fun _=>α) (k .plain) (fun v=>k (.prim v)) (fun x n=>@Array.rec Value (fun _=>α) (fun l=>fL l fun l=>fN n fun n=>k (.seq ⟨l⟩ n)) x)
 (fun x n=>@Array.rec DictEntry (fun _=>α) (fun l=>fE l fun l=>fN n fun n=>k (.dict ⟨l⟩ n)) x) (fun x n t=>k (.set x n t)) (fun b n=>k (.bytearray b n)) (fun v=>k (.cell v)) (fun f=>k (.func f)) (fun c=>k (.cls c))
 (fun x=>@Array.rec Value (fun _=>α) (fun l=>fL l fun l=>k (.fields ⟨l⟩)) x) (k .freed) d
theorem ZT (d:Data) (k:Data→α):fD d k=k d:=by
 cases d with
 |seq x n=>cases x;simp only [fD,J0,LY]
 |dict x n=>cases x;simp only [fD,So,LY]
 |fields x=>cases x;simp only [fD,J0]
 |_=>rfl
noncomputable def fO (o:Obj) (k:Obj→α):α:=@Obj.rec (fun _=>α) (fun c d da sl=>fD da fun da=>k ⟨c,d,da,sl⟩) o
theorem Sq (o:Obj) (k:Obj→α):fO o k=k o:=by cases o;simp only [fO,ZT]
noncomputable def fT (t:BT):(BT→α)→α:=@BT.rec (fun _=>(BT→α)→α) (fun k=>k .nil) (fun v _ _ il ir k=>fO v fun v=>il fun l=>ir fun r=>k (.node v l r)) t
theorem Oq:∀(t:BT) (k:BT→α),fT t k=k t
 |.nil,_=>rfl
 |.node v l r,k=>by
  show fO v (fun v=>fT l fun l=>fT r fun r=>k (.node v l r))=_
  rw [Sq,Oq l,Oq r]
noncomputable def fS (s:SharedT) (k:SharedT→α):α:=@SharedT.rec (fun _=>α) (fun t n li g d tk os=>fT t fun t=>fN n fun n=>fN tk fun tk=>@Drawn.rec (fun _=>α) (fun a b c e=>@Array.rec GenState (fun _=>α) (fun g=>fL g fun g=>k ⟨t,n,li,⟨g⟩,⟨a,b,c,e⟩,tk,os⟩) g) d) s
theorem Ot (s:SharedT) (k:SharedT→α):fS s k=k s:=by
 obtain ⟨t,n,li,⟨g⟩,⟨a,b,c,e⟩,tk,os⟩:=s
 simp only [fS,Oq,LY,J0]
noncomputable def fP (p:Pos) (k:Pos→α):α:=@Pos.rec (fun _=>α) (fun a b c d=>fN a fun a=>fN b fun b=>fN c fun c=>fN d fun d=>k ⟨a,b,c,d⟩) p
theorem Ou (p:Pos) (k:Pos→α):fP p k=k p:=by cases p;simp only [fP,LY]
end
section
variable (stp:SharedT→Thread→Option (SharedT×Thread)) (ok:Thread→Bool) (seg:Nat→SharedT→Thread→Option (Flow×SharedT×Code×Pos))
noncomputable def Jb (env:Env) (c:Code) (f:Nat):List (List Stmt)→SharedT→Pos→List Code→Option (SharedT×Pos×List Code)
 |[],s,pos,cs=>some (s,pos,cs)
 |l::ls,s,pos,cs=>match seg f s (piecesOf l env c pos [topFrame ⟨0,0,0,0⟩]) with
  |some (.next,s',c',pos')=>fS s' fun s'=>fP pos' fun pos'=>Jb env c f ls s' pos' (c'::cs)
  |_=>none
def LZ:Nat→SharedT→Thread→Option (SharedT×Thread)
 |0,s,t=>some (s,t)
 |n+1,s,t=>match through t with
  |true=>none
  |false=>match ok t with
   |false=>none
   |true=>match stp s t with
    |some (s',t')=>LZ n s' t'
    |none=>none
def L4:Nat→SharedT→Thread→Option SharedT
 |0,_,_=>none
 |n+1,s,t=>match through t with
  |true=>some s
  |false=>match ok t with
   |false=>none
   |true=>match stp s t with
    |some (s',t')=>L4 n s' t'
    |none=>none
def cut:Nat→List Stmt→List (List Stmt)
 |0,l=>[l]
 |n+1,l=>match l with
  |[]=>[]
  |x::l=>[x]::cut n l
theorem Sr:∀(n:Nat) (l:List Stmt),(cut n l).flatten=l
 |0,l=>by simp [cut]
 |_+1,[]=>rfl
 |n+1,x::l=>by simp [cut,Sr n l]
theorem Ss:∀(n:Nat) (l:List Stmt),(cut n l).length≤n+1
 |0,l=>AG _
 |_+1,[]=>B5 _
 |n+1,x::l=>Nat.succ_le_succ (Ss n l)
def Ov (p:Program):Env:={scope:=p.main.scope,locals:=mainNs,globals:=mainNs,cells:=[],code:=.ref 13,frame:=some 14}
def Hh (p:Program):Code:=.body (behindTheImports p) (Ov p)
noncomputable def Ft (p:Program) (S0:SharedT):Option (Thread×List Code×SharedT):=match LZ stp ok 12 S0 (topStub p) with
 |some (sa,ta)=>match seg 1 sa (blockOf (behindTheImports p) (Ov p) (Hh p) ⟨0,0,0,0⟩ [topFrame ⟨0,0,0,0⟩]) with
  |some (.next,sb,cb,pb)=>fS sb fun sb=>fP pb fun pb=>match Jb seg (Ov p) (Hh p) 2000 (cut 400 (behindTheImports p)) sb pb [cb] with
   |some (sf,pf,cs)=>match L4 stp ok 2 sf ⟨doneF .next,Hh p,pf,[topFrame ⟨0,0,0,0⟩]⟩ with
    |some sg=>some (ta,cs,sg)
    |none=>none
   |none=>none
  |_=>none
 |none=>none
end
noncomputable def Su (P:Params) (os:OsState):SharedT:=⟨((boot_heap P).objs.toList.foldl (fun (x:BT×Nat) o=>(x.1.ins x.2 o,x.2+1)) (.nil,0)).1,11,(boot_heap P).life,⟨[]⟩,boot_drawn,boot_toks,os⟩
theorem ZU (P:Params) (os:OsState):(Su P os).abs=⟨boot_heap P,⟨[]⟩,boot_drawn,boot_toks,os⟩:=by kernel_rfl
section
variable {α:Type}
noncomputable def Ow (l:List Obj):(List Obj→α)→α:=@List.rec Obj (fun _=>(List Obj→α)→α) (fun k=>k []) (fun a _ ih k=>fO a fun a=>ih fun l'=>k (a::l')) l
theorem Sv:∀(l:List Obj) (k:List Obj→α),Ow l k=k l
 |[],_=>rfl
 |a::l,k=>by show fO a (fun a=>Ow l fun l'=>k (a::l'))=_;rw [Sq,Sv]
noncomputable def fin (s:SharedT) (k:Shared→α):α:=Ow (s.tree.list s.n) fun l=>k ⟨⟨⟨l⟩,s.life⟩,s.gens,s.drawn,s.toks,s.os⟩
theorem ZV (s:SharedT) (k:Shared→α):fin s k=k s.abs:=Sv _ _
end
section
variable {tb:String→Option Builtin} {p:Program} {w:World} {m0:Nat} {ann:Option Value}
theorem Sx:∀{n:Nat} {s s':SharedT} {t t':Thread},LZ (stepT (denote tb) p w) (stepOk m0 ann) n s t=some (s',t')→topGo tb p w m0 ann n s.abs t=some (s'.abs,t')
 |0,_,_,_,_,h=>by cases h;rfl
 |n+1,s,s',t,t',h=>by
  unfold LZ at h
  unfold topGo
  cases he:through t with
  |true=>rw [he] at h;cases h
  |false=>
   rw [he] at h
   cases hk:stepOk m0 ann t with
   |false=>rw [hk] at h;cases h
   |true=>
    rw [hk] at h
    cases hs:stepT (denote tb) p w s t with
    |none=>rw [hs] at h;cases h
    |some r=>obtain ⟨s₂,t₂⟩:=r;rw [hs] at h;rw [stepT_spec hs];exact Sx h
theorem Sy:∀{n:Nat} {s s':SharedT} {t:Thread},L4 (stepT (denote tb) p w) (stepOk m0 ann) n s t=some s'→topRun tb p w m0 ann n s.abs t=some s'.abs
 |0,_,_,_,h=>by cases h
 |n+1,s,s',t,h=>by
  unfold L4 at h
  unfold topRun
  cases he:through t with
  |true=>rw [he] at h;cases h;rfl
  |false=>
   rw [he] at h
   cases hk:stepOk m0 ann t with
   |false=>rw [hk] at h;cases h
   |true=>
    rw [hk] at h
    cases hs:stepT (denote tb) p w s t with
    |none=>rw [hs] at h;cases h
    |some r=>obtain ⟨s₂,t₂⟩:=r;rw [hs] at h;rw [stepT_spec hs];exact Sy h
theorem Ox {seg:Nat→SharedT→Thread→Option (Flow×SharedT×Code×Pos)} {env:Env} {c:Code} {f:Nat}:∀{ls:List (List Stmt)} {s sf:SharedT} {pos pf:Pos} {c0 cs:List Code},Jb seg env c f ls s pos c0=some (sf,pf,cs)→∀x∈c0,x∈cs
 |[],_,_,_,_,_,_,h,x,hx=>by cases h;exact hx
 |l::ls,s,sf,pos,pf,c0,cs,h,x,hx=>by
  unfold Jb at h
  split at h
  ·rw [Ot,Ou] at h;exact Ox h x (.tail _ hx)
  ·cases h
theorem Sz {env:Env} {c:Code} {f:Nat}:∀{ls:List (List Stmt)} {s sf:SharedT} {pos pf:Pos} {c0 cs:List Code},Jb (segRunT tb p w m0 ann 1) env c f ls s pos c0=some (sf,pf,cs)→(∀x∈cs,x=c)→∀{N:Nat} {r:Shared},
 topRun tb p w m0 ann N sf.abs ⟨doneF .next,c,pf,[topFrame ⟨0,0,0,0⟩]⟩=some r→topRun tb p w m0 ann (ls.length*f+N) s.abs (restOf ls.flatten env c pos [topFrame ⟨0,0,0,0⟩])=some r
 |[],s,sf,pos,pf,c0,cs,h,hc,N,r,k=>by
  cases h
  rw [GK,Nat.zero_mul,Nat.zero_add]
  exact piece_nil k
 |l::ls,s,sf,pos,pf,c0,cs,h,hc,N,r,k=>by
  unfold Jb at h
  split at h
  ·rename_i s' c' pos' e
   rw [Ot,Ou] at h
   have e1:=segRun_of e
   rw [hc c' (Ox h c' (.head _))] at e1
   have:=piece_app (rest:=ls.flatten) e1 (Sz h hc k)
   rw [GH,Nat.succ_mul,Nat.add_comm (ls.length*f) f,Nat.add_assoc]
   exact this
  ·cases h
end
noncomputable def ZW {α:Type} (OS:Program→List Str→List Str→(Shared→Bool)→Bool→Shared→_) (IM:List Stmt→List Str) (p q:Program) (loose:List Str) (Yf:Shared→α) (H₀:Heap) (s:Shared):=
 ((staticsOk (IM p.main.body) H₀ s.heap&&namesBound p s.heap&&gensDone s&&laidKept H₀ s.heap),(OS q loose (IM p.main.body) (fun _=>true) true s:type_of% (openSeen q loose [] (fun _=>true) true s)),Yf s)
theorem left_of {p q:Program} {loose:List Str} {α:Type} {Yf:Shared→α} {Ya:World→α} {n:Nat} (e:opening p=plainProg p.main.scope.names) (fm:∀s,fenceModules? p s=some s)
 (size:∀w:World,((boot_heap w.params).isNs mainGlobals&&(Array.mk ([]:List GenState)).size==0,(boot_heap w.params).objs.size,(boot_heap w.params).nsMap mainGlobals "__annotations__")=(true,11,some (.ref 6)))
 (h:∀(w:World) (os:OsState),(Ft (stepT (denote treeTable) p w) (stepOk 11 (some (.ref 6))) (segRunT treeTable p w 11 (some (.ref 6)) 1) p (Su w.params os)).map (fun r=>(r.1,r.2.1,fin r.2.2 (ZW openSeen importedModules p q loose Yf (boot_heap w.params))))=
  some (⟨denote treeTable (Hh p),Hh p,⟨0,0,0,0⟩,[topFrame ⟨0,0,0,0⟩]⟩,List.replicate n (Hh p),(true,openGood q loose,Ya w))):
 LeftO p q loose (fun _=>true) Yf Ya 1000000:=fun w=>by
 obtain ⟨⟨hp,gs,d,k,os⟩,e0,e'⟩:=qb0.mp (boot_open (N:=1000000) e rfl fm w)
 obtain ⟨rfl,rfl,rfl,rfl⟩:hp=boot_heap w.params∧gs=Array.mk []∧d=boot_drawn∧k=boot_toks:=by simpa using e'
 obtain ⟨z1,z2,z3⟩:_∧_∧_:=by simpa only [Prod.mk.injEq] using size w
 obtain ⟨⟨ta,cs,sg⟩,h1,h2⟩:=qb0.mp (h w os)
 dsimp only at h2
 rw [ZV] at h2
 obtain ⟨h3,h4⟩:=Prod.mk.inj h2
 obtain ⟨h5,h6⟩:=Prod.mk.inj h4
 obtain ⟨l1,h7⟩:=Prod.mk.inj h6
 obtain ⟨l2,l3⟩:=Prod.mk.inj h7
 have hcs:∀x∈cs,x=Hh p:=fun x hx=>by rw [h5] at hx;exact List.eq_of_mem_replicate hx
 have run:topRun treeTable p w 11 (some (.ref 6)) 1000000 ⟨boot_heap w.params,Array.mk [],boot_drawn,boot_toks,os⟩ (topStub p)=some sg.abs:=by
  rw [←ZU]
  unfold Ft at h1
  split at h1
  ·rename_i sa ta' ea
   split at h1
   ·rename_i sb cb pb eb
    rw [Ot,Ou] at h1
    split at h1
    ·rename_i sf pf cs' ec
     split at h1
     ·rename_i sg' eg
      cases h1
      have hb:=segRun_of eb
      rw [hcs cb (Ox ec cb (.head _))] at hb
      have c1:=Sz ec hcs (Sy eg)
      rw [Sr] at c1
      have c2:=piece_block hb c1
      have c3:=Sx ea
      rw [h3] at c3
      have c4:=go_top c3 c2
      have hl:=Ss 400 (behindTheImports p)
      have:=topRun_mono (1000000 - (12+(1+((cut 400 (behindTheImports p)).length*2000+2)))) _ _ _ _ c4
      rwa [show 12+(1+((cut 400 (behindTheImports p)).length*2000+2))+(1000000 - (12+(1+((cut 400 (behindTheImports p)).length*2000+2))))=1000000 by omega] at this
     ·cases h1
    ·cases h1
   ·cases h1
  ·cases h1
 have t:topFrom treeTable p w 1000000 ⟨boot_heap w.params,Array.mk [],boot_drawn,boot_toks,os⟩=some sg.abs:=by
  unfold topFrom
  dsimp only
  rw [z1,z2,z3,run]
  show (match staticsOk (importedModules p.main.body) (boot_heap w.params) sg.abs.heap&&namesBound p sg.abs.heap&&gensDone sg.abs&&laidKept (boot_heap w.params) sg.abs.heap with |true=>_ |false=>_)=_
  rw [l1]
 unfold openEnds
 rw [e0]
 show (topFrom treeTable p w 1000000 _).map _=_
 rw [t]
 exact congrArg some (Prod.ext l2 l3)
def SA (h:Heap) (a:Addr):Option (Addr×Obj):=match h.get? a with
 |some o=>(match o.cls,a==mainNs||a==cStatics with
  |.none,false=>none
  |_,_=>some (a,o))
 |none=>none
def L5 (h:Heap):Frag:=(List.range h.objs.size).filterMap (SA h)
theorem lookup_mem {a:Addr} {o:Obj}:∀{l:Frag},l.lookup a=some o→(a,o)∈l
 |[],h=>by cases h
 |(b,o')::l,h=>by
  rw [GI] at h
  split at h
  ·rename_i q
   cases h
   rw [beq_iff_eq.mp q]
   exact .head _
  ·exact .tail _ (lookup_mem h)
theorem ZX (h:Heap):(L5 h).In h:=fun a o e=>by
 obtain ⟨b,_,hb⟩:=List.mem_filterMap.mp (lookup_mem e)
 unfold SA at hb
 split at hb
 ·rename_i o' e'
  split at hb
  ·cases hb
  ·cases hb;exact e'
 ·cases hb
def blank (fd:FuncData):FuncData:={fd with kwdefaults:=.none,doc:=.none,pyModule:=.none,annotations:=none,code:=.none,closureTuple:=.none}
def J1 (K:Frag) (n:Str):Option (FuncData×Bool×Bool):=match nsIn K mainGlobals n with
 |some (some (.ref f))=>(match K.lookup f with
  |some ⟨_,_,.func fd,_⟩=>some (blank fd,codeIn K fd.code n,keepIn K (.ref f))
  |_=>none)
 |_=>none
abbrev L6 (n:Str) (st:Stmt):FuncData:=fnOf n n (L2.defArgs st) (L2.defBody st) (L2.defScope st) .none .none .none .none none .none .none
inductive L8 (K:Frag) (n:Str) (st:Stmt):Prop where
 |mk (f:Addr) (od an:Option Addr) (sl:Array (Option Value)) (oc kV dc pm cd ct:Value) (a:nsIn K mainGlobals n=some (some (.ref f)))
  (l:K.lookup f=some ⟨oc,od,.func (fnOf n n (L2.defArgs st) (L2.defBody st) (L2.defScope st) .none kV dc pm an cd ct),sl⟩) (c:codeIn K cd n=true) (k:keepIn K (.ref f)=true):L8 K n st
theorem ZY {K:Frag} {n:Str} {st:Stmt} (e:J1 K n=some (L6 n st,true,true)):L8 K n st:=by
 unfold J1 at e
 split at e
 ·rename_i f hf
  split at e
  ·rename_i oc od fd sl hl
   obtain ⟨e1,e2⟩:=Prod.mk.inj (Option.some.inj e)
   obtain ⟨e3,e4⟩:=Prod.mk.inj e2
   obtain ⟨x1,x2,x3,x4,x5,x6,x7,x8,x9,x10,x11,x12,x13,x14,x15⟩:=fd
   replace e1:FuncData.mk x1 x2 x3 x4 x5 x6 x7 x8 .none .none .none none .none .none x15=L6 n st:=e1
   injection e1 with y1 y2 y3 y4 y5 y6 y7 y8 y9 y10 y11 y12 y13 y14 y15
   subst x1 x2 x3 x4 x5 x6 x7 x8 x15
   exact ⟨f,od,x12,sl,oc,x9,x10,x11,x13,x14,hf,hl,e3,e4⟩
  ·cases e
 ·cases e
def J2 (K:Frag) (x:Str):Option Int:=match nsIn K mainGlobals x with
 |some (some (.int v _))=>some v
 |_=>none
theorem ZZ {K:Frag} {x:Str} {v:Int} (e:J2 K x=some v):∃t,nsIn K mainGlobals x=some (some (.int v t)):=by
 unfold J2 at e
 split at e
 ·rename_i t h;cases e;exact ⟨t,h⟩
 ·cases e
def Oy (K:Frag) (h:Heap):Option (Option Obj×Bool×Bool):=match LS.tabP K with
 |some (c,T)=>some (h.get? T,codeHdIn K c T,(K.lookup T).isNone)
 |none=>none
structure Want where
 fs:List (Str×Stmt)
 cs:List (Str×Int)
 bs:List Str
abbrev L9:=List (Option (FuncData×Bool×Bool))×List (Option Int)×List (Option (Option Value))×Bool×Option (Option Obj×Bool×Bool)
noncomputable def obsK (W:Want) (s:Shared):L9:=fL (L5 s.heap) fun K=>
 (W.fs.map fun x=>J1 K x.1,W.cs.map fun x=>J2 K x.1,W.bs.map (nsIn K mainGlobals),LS.etOk K,Oy K s.heap)
def valK (W:Want):L9:=(W.fs.map fun x=>some (L6 x.1 x.2,true,true),W.cs.map fun x=>some x.2,W.bs.map fun _=>some none,true,some (some (tabObj #[]),true,true))
inductive Has (W:Want) (K:Frag) (c T:Addr):Prop where
 |mk (fs:∀(i:Nat) n st,W.fs[i]?=some (n,st)→L8 K n st) (cs:∀(i:Nat) n v,W.cs[i]?=some (n,v)→∃t,nsIn K mainGlobals n=some (some (.int v t))) (bs:∀(i:Nat) n,W.bs[i]?=some n→nsIn K mainGlobals n=some none)
  (et:LS.etOk K=true) (tb:LS.tabP K=some (c,T)) (hd:codeHdIn K c T=true) (no:K.lookup T=none):Has W K c T
def Says (W:Want) (_:World) (h:Heap):Prop:=∃(K:Frag) (c T:Addr),K.In h∧Has W K c T∧h.get? T=some (tabObj #[])
theorem Says.keeps {W:Want} (w:World) (h h':Heap) (x:Says W w h) (k:∀b o,h.get? b=some o→h'.get? b=some o):Says W w h':=by
 obtain ⟨K,c,T,h1,h2,h3⟩:=x
 exact ⟨K,c,T,h1.keeps k,h2,k _ _ h3⟩
theorem Oz {α β:Type} {f g:α→β} {l:List α} (e:l.map f=l.map g) {i:Nat} {x:α} (h:l[i]?=some x):f x=g x:=by
 have:=congrArg (·[i]?) e
 simp only [CP,h,Gb,Option.some.injEq] at this
 exact this
theorem says_of {W:Want} (w:World) (s:Shared) (e:obsK W s=valK W):Says W w s.heap:=by
 unfold obsK valK at e
 rw [J0] at e
 obtain ⟨e1,e⟩:=Prod.mk.inj e
 obtain ⟨e2,e⟩:=Prod.mk.inj e
 obtain ⟨e3,e⟩:=Prod.mk.inj e
 obtain ⟨e4,e5⟩:=Prod.mk.inj e
 unfold Oy at e5
 split at e5
 ·rename_i c T hT
  obtain ⟨a1,a2⟩:=Prod.mk.inj (Option.some.inj e5)
  obtain ⟨a2,a3⟩:=Prod.mk.inj a2
  exact ⟨_,c,T,ZX _,⟨fun i n st h=>ZY (Oz e1 h),fun i n v h=>ZZ (Oz e2 h),fun i n h=>Oz e3 h,e4,hT,a2,Option.isNone_iff_eq_none.mp a3⟩,a1⟩
 ·cases e5
theorem tab_cd {K:Frag} {c T f:Addr} {oc kV dc pm cd ct:Value} {od an:Option Addr} {sl:Array (Option Value)} {st:Stmt} (h:LS.tabP K=some (c,T)) (a:nsIn K mainGlobals "law"=some (some (.ref f)))
 (l:K.lookup f=some ⟨oc,od,.func (fnOf "law" "law" (L2.defArgs st) (L2.defBody st) (L2.defScope st) .none kV dc pm an cd ct),sl⟩):cd=.ref c:=by
 unfold LS.tabP at h
 rw [a] at h
 dsimp only at h
 rw [l] at h
 dsimp only at h
 split at h
 ·split at h
  ·split at h
   ·cases h;rfl
   ·cases h
  ·cases h
 ·cases h
end Tp
namespace LS
open PySem PySem.W PySem.Spec PySem.Calls PyProof.Rows L2
theorem walk_hd {l:OpenLaw} {n k:Nat} {q:Program} {loose:List Str} {XP:(Str→Option Value)→Heap→Prop} {W:Tp.Want} {d:DefRec} {x:Str} {F:List D→HD→Out D}
 (hn:l.most=some n) (hn2:n≤sizeLine) (hdf:d.params.defaults=[]) (hr:Room k callerA)
 (Fn:∀(w:World) (K:Frag) (c T:Addr) (mg:Str→Option Value) (fa:Addr) (h:Heap),Tp.Has W K c T→K.In h→h.Ns mainGlobals mg→mg d.name=some (.ref fa)→
  ∃fd:FuncData,(∀(s:Shared) (u:Value),BindsTo s fd ⟨[u],[]⟩ [(x,u)])∧
   ∀base:Heap,K.In base→base.Ns mainGlobals mg→I0 mg base→FnOk l.prog w K mg base (AK l.prog w K) k fa fd [x] (FT K F))
 (hF:∀ns:List Int,ns.length≤n→(∀i∈ns,Builtin.Int.intBits i≤2^20)→∃h',F [.scr ns] [.tab]=.ok (.bl true) h'):
 WalkO q loose XP (Tp.Says W) l.row.toRowW d [] (fun f vs=>PySem.call f vs):=by
 refine Att.attach_bits hn hdf fun w s₀ s₁ mg mb fa o pm cd doc a vs ns hbits G Y ho hd hcd' hmg hobj hints hlen hg=>?_
 obtain ⟨K,c,T,KX,HS,hT⟩:=Y
 obtain ⟨fd,hb,hF'⟩:=Fn w K c T mg fa _ HS KX G.T.g hmg
 obtain ⟨bm,ob,b1,b2,b3,b4,b5,b6⟩:=G.T.bmain
 obtain ⟨_,_,_,_,h1,h2,h3⟩:=HS
 exact Y8 KX G.T.g G.T.b G.T.builtins G.T.nolimit hg ⟨bm,ob,b1,b2,b3,b4,b5,b6⟩ hobj hints (BP hlen hn2) hr h1 h2 hT h3 hF' hb (hF ns hlen hbits)
end LS
namespace Tp
open PySem PySem.W PySem.Spec PySem.Calls PyProof.Rows
def Z0 (K:Frag):Option (FuncData×List Bool):=match nsIn K mainGlobals "TooMany",nsIn K mainGlobals "SwitchError" with
 |some (some (.ref C)),some (some (.ref S))=>(match K.lookup C with
  |some o=>(match LS.clsOf o.data with
   |some cd=>(match nsIn K cd.ns "__init__" with
    |some (some (.ref f))=>(match K.lookup f with
     |some ⟨oc,_,.func fd,_⟩=>some (blank fd,[codeIn K fd.code "TooMany.__init__",LS.tmX K C f,LS.swX K S,keepIn K (.ref C),oc==.type "function"])
     |_=>none)
    |_=>none)
   |none=>none)
  |none=>none)
 |_,_=>none
abbrev Z1 (st:Stmt):FuncData:=fnOf "__init__" "TooMany.__init__" (L2.defArgs st) (L2.defBody st) (L2.defScope st) .none .none .none .none none .none .none
inductive SB (K:Frag) (st:Stmt):Prop where
 |mk (C S f:Addr) (od an:Option Addr) (sl:Array (Option Value)) (kV dc pm cd ct:Value) (nC:nsIn K mainGlobals "TooMany"=some (some (.ref C))) (nS:nsIn K mainGlobals "SwitchError"=some (some (.ref S)))
  (l:K.lookup f=some ⟨.type "function",od,.func (fnOf "__init__" "TooMany.__init__" (L2.defArgs st) (L2.defBody st) (L2.defScope st) .none kV dc pm an cd ct),sl⟩) (c:codeIn K cd "TooMany.__init__"=true) (tm:LS.tmX K C f=true) (sw:LS.swX K S=true) (kp:keepIn K (.ref C)=true):SB K st
noncomputable def Zgd (W:Want) (s:Shared):L9×Option (FuncData×List Bool):=fL (L5 s.heap) fun K=>
 ((W.fs.map fun x=>J1 K x.1,W.cs.map fun x=>J2 K x.1,W.bs.map (nsIn K mainGlobals),LS.etOk K,Oy K s.heap),Z0 K)
def Zge (W:Want) (st:Stmt):L9×Option (FuncData×List Bool):=(valK W,some (Z1 st,[true,true,true,true,true]))
def SaysT (W:Want) (st:Stmt) (_:World) (h:Heap):Prop:=∃(K:Frag) (c T:Addr),K.In h∧(Has W K c T∧SB K st)∧h.get? T=some (tabObj #[])
theorem SaysT.keeps {W:Want} {st:Stmt} (w:World) (h h':Heap) (x:SaysT W st w h) (k:∀b o,h.get? b=some o→h'.get? b=some o):SaysT W st w h':=by
 obtain ⟨K,c,T,h1,h2,h3⟩:=x
 exact ⟨K,c,T,h1.keeps k,h2,k _ _ h3⟩
end Tp
namespace LS
open PySem PySem.W PySem.Spec PySem.Calls PyProof.Rows L2
structure TmK (P:Program) (w:World) (K:Frag) (mg:Str→Option Value) (base:Heap) (C f:Addr) (fd:FuncData) (oI:Obj):Prop where
 tm:tmX K C f=true
 F:FnOk P w K mg base (AK P w K) 1 f fd ["self","many","most"] (Sn K C)
 hb:Binds K fd ["self","many","most"] []
 lI:K.lookup f=some oI
 cI:oI.cls=.type "function"
 kp:keepIn K (.ref C)=true
 nC:nsIn K mainGlobals "TooMany"=some (some (.ref C))
end LS
namespace LS
open PySem PySem.Spec PyProof.Rows L2
open Classical in
noncomputable def Zgf:D→HD→Out D
 |.int i,h=>if i.natAbs<4611686018427387904 then .ok (.str (toString i)) h else .stuck
 |_,_=>.stuck
section
variable {X:Cx}
def Zgg (i j k:Nat) (ta:TA):TS:=fun Dn σ H=>ta σ H fun vs H1=>∃u v w,vs=[u,v,w]∧Dn.nx (((σ.set i (some u)).set j (some v)).set k (some w)) H1
def OA (i j k:Nat) (ρ:Ai):List D→HD→Out (Fl×Ai)
 |[u,v,w],h=>.ok (.nx,((ρ.set i (some u)).set j (some v)).set k (some w)) h
 |_,_=>.stuck
noncomputable def SC (i j k:Nat) (fa:MA):MS:=fun ρ h=>(fa ρ h).bind fun ds h1=>OA i j k ρ ds h1
end
@[simp] theorem Zgh {i j k:Nat} {fa:MA} {ρ:Ai} {h:HD} {Q:Fl×Ai→HD→Prop}:Wp (SC i j k fa ρ h) Q=Wp (fa ρ h) fun ds h1=>Wp (OA i j k ρ ds h1) Q:=by unfold SC;rw [AE]
@[simp] theorem Zgi {i j k:Nat} {ρ:Ai} {u v w:D} {h:HD} {Q:Fl×Ai→HD→Prop}:Wp (OA i j k ρ [u,v,w] h) Q=Q (.nx,((ρ.set i (some u)).set j (some v)).set k (some w)) h:=rfl
section
variable {X:Cx}
abbrev Zgj:=Gh fun i j=>.int (Builtin.bitXor i j)
end
section
variable {X:Cx} {E:XK} {D:Addr} {elt tg iter:Expr} {ifs:List Expr} {gs gens:List Comprehension} {scope:Scope} {pos:Pos} {Nc:List Str} {cs:List (Option Nat)} {it:MI} {gg:TG} {sg:MG} {t:MT} {f:ME} {e:EA} {d:Nat} {is js:List Nat}
end
def Z2:List Expr→Option (List (Int×Int))
 |[]=>some []
 |.Tuple [.Constant (.int a) _ _,.Constant (.int b) _ _] _ _::es=>(Z2 es).map ((a,b)::·)
 |_=>none
noncomputable def Ma:List (Int×Int)→MA
 |[]=>Ae
 |p::ps=>Aa (Aw (Aa (mC (.int p.1)) (Aa (mC (.int p.2)) Ae))) (Ma ps)
@[simp] theorem Zgk:Ma []=Ae:=rfl
@[simp] theorem Zgl {p:Int×Int} {ps:List (Int×Int)}:Ma (p::ps)=Aa (Aw (Aa (mC (.int p.1)) (Aa (mC (.int p.2)) Ae))) (Ma ps):=rfl
section
variable {X:Cx} {E:XK}
@[irreducible] def ExI (X:Cx) (E:XK) (st:Stmt) (g:MS):Prop:=Ex X E st g
@[irreducible] def Zgm (X:Cx) (E:XK) (sts:List Stmt) (g:MS):Prop:=A8 X E sts g
end
end LS
namespace LS
open PySem PySem.Spec PySem.W PyProof.Rows L2
end LS
namespace LS
open PySem PySem.Spec PyProof.Rows L2 PySem.W
end LS
namespace Tp
open PySem PySem.W PySem.Spec PySem.Calls PyProof.Rows
abbrev SD:=List (Option (FuncData×Bool×Bool))×List (Option Int)×List (Option (Option Value))×Bool
noncomputable def Zgn (W:Want) (s:Shared):SD:=fL (L5 s.heap) fun K=>
 (W.fs.map fun x=>J1 K x.1,W.cs.map fun x=>J2 K x.1,W.bs.map (nsIn K mainGlobals),true)
def Zgo (W:Want):SD:=(W.fs.map fun x=>some (L6 x.1 x.2,true,true),W.cs.map fun x=>some x.2,W.bs.map fun _=>some none,true)
inductive SE (W:Want) (K:Frag):Prop where
 |mk (fs:∀(i:Nat) n st,W.fs[i]?=some (n,st)→L8 K n st) (cs:∀(i:Nat) n v,W.cs[i]?=some (n,v)→∃t,nsIn K mainGlobals n=some (some (.int v t))) (bs:∀(i:Nat) n,W.bs[i]?=some n→nsIn K mainGlobals n=some none)
  (et:True):SE W K
def Says0 (W:Want) (_:World) (h:Heap):Prop:=∃K:Frag,K.In h∧SE W K
theorem Says0.keeps {W:Want} (w:World) (h h':Heap) (x:Says0 W w h) (k:∀b o,h.get? b=some o→h'.get? b=some o):Says0 W w h':=by
 obtain ⟨K,h1,h2⟩:=x
 exact ⟨K,h1.keeps k,h2⟩
end Tp
namespace LS
open PySem PySem.W PySem.Spec PySem.Calls PyProof.Rows L2
end LS
namespace LS
open PySem PySem.Spec PyProof.Rows L2
def Z3:D→HD→Out D:=fun x h=>match x with
 |.loc l=>(match h[l]? with
  |some (.lst ds)=>CH ds.reverse h
  |_=>.stuck)
 |_=>.stuck
def Zgp (f:ME):ME:=fun ρ h=>(f ρ h).bind Z3
section
variable {X:Cx} {E:XK} {e:Expr} {f:ME}
end
def Jc:D→D→HD→Out D:=fun x y h=>match x with
 |.exc _ _=>.stuck
 |.edic=>.stuck
 |_=>AX x y h
section
variable {h:HD} {y:D} {i:Int} {b:Bool} {x:Str} {ds:List D} {l:Nat}
@[simp] theorem Zgq:Jc (.int i) y h=AX (.int i) y h:=rfl
@[simp] theorem Zgr:Jc (.bl b) y h=AX (.bl b) y h:=rfl
@[simp] theorem Zgs:Jc .non y h=AX .non y h:=rfl
@[simp] theorem Zgt:Jc (.str x) y h=AX (.str x) y h:=rfl
@[simp] theorem Zgu:Jc (.tup ds) y h=AX (.tup ds) y h:=rfl
@[simp] theorem Zgv:Jc (.loc l) y h=AX (.loc l) y h:=rfl
end
end LS
namespace LS
open PySem PySem.Spec PyProof.Rows L2 PySem.W PySem.Calls
def Jd:D→D→HD→Out D:=fun x y h=>match x,y with
 |.loc l,.loc k=>(match h[l]?,h[k]? with
  |some (.lst ds),some (.lst es)=>if ds.length+es.length≤sizeLine then .ok .non (h.set l (.lst (ds++es))) else .stuck
  |_,_=>.stuck)
 |_,_=>.stuck
section
variable {X:Cx} {E:XK}
def J3 (f g:ME):ME:=fun ρ h=>((f ρ h).bind Cj).bind fun x h1=>(g ρ h1).bind fun y h2=>Jd x y h2
theorem Z4 {o e:Expr} {f g:ME} {apos cpos:Pos} (ho:Ev X E o f) (he:Ev X E e g)
 (hbase:attributeBase o "extend" X.env (eval o X.env)=eval o X.env:=by rfl)
 (hfew:((backTo cpos (starEach [e] X.env)).all (fun x=>!x.1)&&(backToKw cpos (keywordEach [] X.env)).all (fun x=>x.1.isSome)
  &&decide ([e].length+([]:List Keyword).length+(if ([]:List Keyword).isEmpty then 0 else 1)<30))=true:=by rfl)
 (hline:(apos.endLine==cpos.line)=true:=by rfl) (hs:starEach [e] X.env=(false,eval e X.env)::starEach [] X.env:=by rfl) (hplain:(backTo cpos (starEach [] X.env)).any (·.1)=false:=by rfl):
 Ev X E (.Call (.Attribute o "extend" apos) [e] [] cpos) (J3 f g):=
 Ca (Qe PySem.F.plainAttrs_list PySem.F.slot_list_extend PySem.F.type_list_extend WQ ho (Ad he Ag hs) hbase hfew hline hs hplain) fun σ H Q z1_=>by
  obtain ⟨m,ρ,h,hr,er,p⟩:=z1_
  refine ⟨m,ρ,h,hr,er,?_⟩
  unfold J3 at p
  rw [Out.bind_assoc] at p
  refine Post.bind p fun x h1 v m1 H1 eo p1 k1 hr1 r1 q1=>?_
  clear eo
  unfold Cj at q1
  split at q1
  ·rename_i l
   split at q1
   ·rename_i ds el
    simp only [Out.bind_ok] at q1
    have r1':=r1
    simp only [rD,DV] at r1'
    obtain ⟨a,rfl,ha⟩:=r1'
    obtain ⟨ws,hv,dv⟩:=hr1.cells l _ a el ha
    refine ⟨.inl ⟨rfl,ws,SqL.of hv⟩,m1,ρ,h1,hr1,er.keep p1 k1,?_⟩
    have q2:Post X.K (rD X.K) m1 H1 E Q ((Aa g Ae ρ h1).bind fun ys h2=>match ys with
     |[y]=>Jd (.loc l) y h2
     |_=>.stuck):=by
     unfold Aa Ae
     rw [Out.bind_assoc]
     exact q1
    refine Post.bind q2 fun ys h2 vs m2 H2 eo p2 k2 hr2 r2 q3=>?_
    clear eo
    split at q3
    ·rename_i y
     simp only [Fg,DVs] at r2
     obtain ⟨yv,w,rfl,ry,rfl⟩:=r2
     unfold Jd at q3
     split at q3
     ·rename_i l' k el'
      cases el'
      split at q3
      ·rename_i ds2 zs el2 ek2
       split at q3
       ·rename_i hz
        have ha2:=JB p2 ha
        obtain ⟨ws2,hv2,dv2⟩:=hr2.cells _ _ a el2 ha2
        simp only [DV] at ry
        obtain ⟨b,rfl,hb⟩:=ry
        obtain ⟨zs2,hz2,dz2⟩:=hr2.cells _ _ b ek2 hb
        refine ⟨a,b,ws2,zs2,rfl,rfl,hv2,hz2,by rw [←dv2.len,←dz2.len];exact hz,?_⟩
        refine q3 .non m2 _ (AC _) (.set hv2 rfl) (hr2.setCell ha2 hv2 rfl ⟨_,B9,?_⟩) (by simp [rD,DV])
        exact (dv2.app dz2).keep (AC _) (.set hv2 rfl)
       ·exact q3.elim
      ·exact q3.elim
     ·exact q3.elim
    ·exact q3.elim
   ·exact q1.elim
  ·exact q1.elim
end
section
variable {f g:ME} {ρ:Ai} {h:HD} {Q:D→HD→Prop} {l k:Nat} {ds es:List D}
@[simp] theorem Zgw:Wp (J3 f g ρ h) Q=Wp (f ρ h) fun x h1=>Wp (Cj x h1) fun x h1=>Wp (g ρ h1) fun y h2=>Wp (Jd x y h2) Q:=by unfold J3;simp only [AE]
theorem Z5 (e:h[l]?=some (.lst ds)) (e':h[k]?=some (.lst es)) (hn:ds.length+es.length≤sizeLine):Jd (.loc l) (.loc k) h=.ok .non (h.set l (.lst (ds++es))):=by
 simp only [Jd,e,e']
 rw [if_pos hn]
end
def Z6:Kyd→Bool
 |.i _=>true
 |_=>false
def E2 (kvs:List (Kyd×D)):Bool:=kvs.all fun p=>Z6 p.1
def Bi (kvs:List (Kyd×D)) (k:Kyd):Option D:=(kvs.find? fun p=>decide (p.1=k)).map (·.2)
def Cd (kvs:List (Kyd×D)) (k:Kyd) (v:D):List (Kyd×D):=if kvs.any (fun p=>decide (p.1=k)) then kvs.map (fun p=>if p.1=k then (p.1,v) else p) else kvs++[(k,v)]
def IR (K:Frag) (m:List Addr) (H:Hp) (p:Kyd×D) (q:Int×Value):Prop:=p.1=.i q.1∧∃v,DV K m H p.2 v∧RelV v q.2
section
variable {P:Program} {w:World} {K:Frag} {m:List Addr} {H:Hp} {h:Heap} {a:Addr}
theorem EntD.len:∀{kvs:List (Kyd×D)} {es:List (Kyd×V×V)},EntD K m H kvs es→kvs.length=es.length
 |[],_,e=>by simp only [EntD] at e;subst e;rfl
 |_::_,_,e=>by
  simp only [EntD] at e
  obtain ⟨kv,vv,r',rfl,_,_,t⟩:=e
  simp [EntD.len t]
theorem SF:∀{kvs:List (Kyd×D)} {es:List (Kyd×V×V)} {ul:List DictEntry},EntD K m H kvs es→E2 kvs=true→Paired JC es ul→
 ∃vs:List (Int×Value),Pairs (intKind P w) ul vs∧(∀e∈ul,∃k,(intKind P w).is k e.key=true∧e.hash=(intKind P w).hash k)∧Paired (IR K m H) kvs vs∧vs.map (fun q=>Kyd.i q.1)=es.map (·.1)
 |[],_,_,e,_,p=>by
  simp only [EntD] at e
  subst e
  cases p
  exact ⟨[],.nil,by simp,.nil,rfl⟩
 |(k,d)::kvs,_,_,e,hi,p=>by
  simp only [EntD] at e
  obtain ⟨kv,vv,r',rfl,d1,d2,t⟩:=e
  simp only [E2,Ie,Cp] at hi
  cases p with
  |cons p1 p2=>
   rename_i e ul'
   obtain ⟨vs,h1,h2,h3,h4⟩:=SF t hi.2 p2
   obtain ⟨q1,q2,q3⟩:=p1
   cases k with
   |i n=>
    simp only [kD,DV] at d1
    subst d1
    obtain ⟨tk,q2⟩:=q2
    have hk:(intKind P w).is n e.key=true:=by
     rw [q2];exact intKind_is P w n tk
    refine ⟨(n,e.val)::vs,.cons hk rfl h1,fun x hx=>?_,.cons ⟨rfl,vv,d2,q3⟩ h3,by simp [h4]⟩
    rcases qa5.mp hx with rfl |hx
    ·exact ⟨n,hk,q1⟩
    ·exact h2 x hx
   |t ns=>cases hi.1
   |b rs=>cases hi.1
theorem Z7 {vs:List (Int×Value)} {es:List (Kyd×V×V)} (e:vs.map (fun q=>Kyd.i q.1)=es.map (·.1)) (nd:(es.map (·.1)).Nodup):(vs.map (·.1)).Nodup:=by
 rw [←e] at nd
 unfold List.Nodup at nd ⊢
 rw [FC] at nd ⊢
 exact nd.imp fun z y=>z (by rw [y])
theorem OB {es:List (Kyd×V×V)} {kvs:List (Kyd×D)} (d:BF a es h) (e:EntD K m H kvs es) (hi:E2 kvs=true):
 ∃(ob:Obj) (us:Array DictEntry) (ep:Nat) (vs:List (Int×Value)),h.get? a=some ob∧ob.data=.dict us ep∧h.DictAt (intKind P w) a vs ep∧Paired (IR K m H) kvs vs:=by
 obtain ⟨hs,hz,nd,o,us,ep,h1,h2,h3,h4⟩:=d
 obtain ⟨vs,q1,q2,q3,q4⟩:=SF (P:=P) (w:=w) e hi h4
 exact ⟨o,us,ep,vs,h1,h3,⟨o,us,h1,h2,h3,fun x hx=>q2 x (Array.mem_toList_iff.mpr hx),q1,Z7 q4 nd⟩,q3⟩
theorem SG:∀{kvs:List (Kyd×D)} {vs:List (Int×Value)} {ul:List DictEntry},Paired (IR K m H) kvs vs→Pairs (intKind P w) ul vs→(∀e∈ul,∃k,(intKind P w).is k e.key=true∧e.hash=(intKind P w).hash k)→
 ∃es:List (Kyd×V×V),EntD K m H kvs es∧Paired JC es ul∧es.map (·.1)=vs.map (fun q=>Kyd.i q.1)
 |_,_,_,.nil,p,_=>by
  cases p
  exact ⟨[],rfl,.nil,rfl⟩
 |_,_,_,.cons r t,p,hk=>by
  rename_i x y xs ys
  cases p with
  |cons p1 p2 p3=>
   rename_i e es'
   obtain ⟨es,h1,h2,h3⟩:=SG t p3 (fun z hz=>hk z (Bn _ hz))
   obtain ⟨k,d⟩:=x
   obtain ⟨n,u⟩:=y
   obtain ⟨r1,v,r2,r3⟩:=r
   simp only at r1 p1 p2 r2 r3
   subst r1
   obtain ⟨tk,ek⟩:=Value.isInt_shape p1
   obtain ⟨k',k1,k2⟩:=hk e Bf
   have:k'=n:=(intKind P w).inj _ _ _ k1 p1
   subst this
   refine ⟨(.i k',.int k',v)::es,?_,.cons ⟨k2,⟨tk,ek⟩,by rw [p2];exact r3⟩ h2,by simp [h3]⟩
   simp only [EntD]
   exact ⟨_,_,_,rfl,by simp [kD,DV],r2,h1⟩
theorem Z8 {kvs:List (Kyd×D)} {vs:List (Int×Value)} (hs:(a==sysModules)=false) (hz:kvs.length≤sizeLine) (dd:h.DictOf (intKind P w) a vs) (r:Paired (IR K m H) kvs vs):∃es,BF a es h∧EntD K m H kvs es:=by
 obtain ⟨o,us,ep,h1,h2,h3,h4,h5,h6⟩:=dd
 obtain ⟨es,q1,q2,q3⟩:=SG (P:=P) (w:=w) r h5 (fun e he=>h4 e (Array.mem_toList_iff.mp he))
 refine ⟨es,⟨hs,by rw [←q1.len];exact hz,?_,o,us,ep,h1,h2,h3,q2⟩,q1⟩
 rw [q3]
 unfold List.Nodup at h6 ⊢
 rw [FC] at h6 ⊢
 exact h6.imp fun z y=>z (by injection y)
theorem OC {n:Int}:∀{kvs:List (Kyd×D)} {vs:List (Int×Value)},Paired (IR K m H) kvs vs→(Bi kvs (.i n)=none∧valueAt vs n=none)∨∃d u v,Bi kvs (.i n)=some d∧valueAt vs n=some u∧DV K m H d v∧RelV v u
 |_,_,.nil=>.inl ⟨rfl,rfl⟩
 |_,_,.cons r t=>by
  rename_i x y xs ys
  obtain ⟨r1,v,r2,r3⟩:=r
  by_cases z:y.1=n
  ·refine .inr ⟨x.2,y.2,v,?_,?_,r2,r3⟩
   ·simp [Bi,DS,r1,z]
   ·simp [valueAt,DS,z]
  ·have e1:Bi (x::xs) (.i n)=Bi xs (.i n):=by simp [Bi,DS,r1,z]
   have e2:valueAt (y::ys) n=valueAt ys n:=by simp [valueAt,DS,z]
   rw [e1,e2]
   exact OC t
theorem SH {n:Int}:∀{kvs:List (Kyd×D)} {vs:List (Int×Value)},Paired (IR K m H) kvs vs→(kvs.any fun p=>decide (p.1=.i n))=vs.any fun kv=>decide (kv.1=n)
 |_,_,.nil=>rfl
 |_,_,.cons r t=>by
  rw [Ig,Ig,SH t,r.1]
  congr 1
  simp
theorem SI {n:Int} {d:D} {v:V} {u:Value} (dv:DV K m H d v) (rv:RelV v u):∀{kvs:List (Kyd×D)} {vs:List (Int×Value)},Paired (IR K m H) kvs vs→Paired (IR K m H) (kvs.map fun p=>if p.1=.i n then (p.1,d) else p) (vs.map fun kv=>if kv.1=n then (kv.1,u) else kv)
 |_,_,.nil=>.nil
 |_,_,.cons r t=>by
  rename_i x y xs ys
  refine .cons ?_ (SI dv rv t)
  show IR K m H (if x.1=.i n then (x.1,d) else x) (if y.1=n then (y.1,u) else y)
  by_cases z:y.1=n
  ·rw [if_pos z,if_pos (by rw [r.1,z])]
   exact ⟨r.1,v,dv,rv⟩
  ·rw [if_neg z,if_neg (by rw [r.1];intro q;injection q with q;exact z q)]
   exact r
theorem SJ {p:Kyd×D} {q:Int×Value} (r:IR K m H p q):∀{kvs:List (Kyd×D)} {vs:List (Int×Value)},Paired (IR K m H) kvs vs→Paired (IR K m H) (kvs++[p]) (vs++[q])
 |_,_,.nil=>.cons r .nil
 |_,_,.cons x t=>.cons x (SJ r t)
theorem Z9 {n:Int} {d:D} {v:V} {u:Value} {kvs:List (Kyd×D)} {vs:List (Int×Value)} (r:Paired (IR K m H) kvs vs) (dv:DV K m H d v) (rv:RelV v u):Paired (IR K m H) (Cd kvs (.i n) d) (stored vs n u):=by
 unfold Cd stored
 rw [SH r]
 by_cases z:(vs.any fun kv=>decide (kv.1=n))=true
 ·rw [if_pos z,if_pos z];exact SI dv rv r
 ·rw [if_neg z,if_neg z];exact SJ ⟨rfl,v,dv,rv⟩ r
theorem J4 {kvs:List (Kyd×D)} {k:Kyd} {d:D}:(Cd kvs k d).length≤kvs.length+1:=by
 unfold Cd
 split<;>simp
theorem SK:∀{kvs:List (Kyd×D)} {vs:List (Int×Value)},Paired (IR K m H) kvs vs→kvs.length=vs.length
 |_,_,.nil=>rfl
 |_,_,.cons _ t=>by simp [SK t]
theorem OD {H':Hp} {es:List (Kyd×V×V)} (d:BF a es h):ObjOk P w H' h a (.dct (BF a es)):=
 ⟨d,let ⟨_,_,_,o,_,_,e,_⟩:=d;⟨o,e⟩,fun h1 h2 ⟨x1,x2,x3,o,us,ep,e,r⟩ k=>⟨x1,x2,x3,o,us,ep,k _ e,r⟩⟩
end
section
variable {X:Cx} {E:XK} {pins:List (Addr×Obj)} {σ:L2.St} {H:Hp} {s:Shared}
theorem Zaa (I:Inv X pins σ H s):(s.heap.objs.size==sysModules)=false:=by
 have ne:s.heap.objs.size≠sysModules:=by
  obtain ⟨og,_,_,eg,_⟩:=I.ok.mod.glob
  obtain ⟨ml,⟨ol,_,_,el,_⟩,_⟩:=I.loc
  have h1:(3:Nat)<X.base.objs.size:=AO eg
  have h2:(X.env.locals:Nat)<s.heap.objs.size:=AO el
  have h3:X.base.objs.size≤X.s₀.heap.objs.size:=I.ok.bsz
  have h4:X.s₀.heap.objs.size≤(X.env.locals:Nat):=I.ok.above
  have h5:(1:Nat)<s.heap.objs.size:=A1 (A1 (show 1<4 by decide) h1) (BP h3 (BP h4 (Gc h2)))
  exact fun z=>Bj h5 z
 exact beq_eq_false_iff_ne.mpr ne
def OE (kvs:List (Kyd×D)) (h:HD):Out D:=.ok (.loc h.length) (h++[.dic false kvs])
def Mb:ME:=fun _ h=>OE [] h
theorem Zab {m:List Addr} {h:HD} {Q:VK} {a:Addr} {kvs:List (Kyd×D)} {es:List (Kyd×V×V)} {H1:Hp} (hr:HR X.K m h H) (hf:H a=none) (k:Kp H H1) (p:Post X.K (rD X.K) m H E Q (OE kvs h)) (e1:H1=Av H a (.dct (BF a es))) (en:EntD X.K m H kvs es):Q (.ref a) H1:=by
 subst e1
 refine p (.ref a) (m++[a]) _ (GG _ _) (.new hf) (hr.newCell hf ⟨es,B9,en.keep (GG _ _) (.new hf)⟩) ?_
 simp only [rD,DV]
 refine ⟨a,rfl,?_⟩
 rw [←hr.len]
 simp
theorem SL {pos:Pos}:Ev X E (.Dict [] [] pos) Mb:=fun pins s σ H Q I z1_=>by
 obtain ⟨m,ρ,h,hr,er,p⟩:=z1_
 have hf:H s.heap.objs.size=none:=I.hok.fresh (AG _)
 exact wpAny_Dict_empty ⟨.ref s.heap.objs.size,Av H s.heap.objs.size (.dct (BF s.heap.objs.size [])),I.laid (t':=s.toks) (fun _ _ q=>AM _ q) (AG _) (OD ⟨Zaa I,B5 _,List.nodup_nil,_,#[],0,BD _ rfl,⟨rfl,rfl,rfl⟩,rfl,.nil⟩),rfl,
  Zab (es:=[]) hr hf (.new hf) p rfl (by simp [EntD])⟩
def Zac (i j:Int):ME:=fun _ h=>OE [(.i i,.int j)] h
def SM:D→HD→Out D:=fun x h=>match x with
 |.loc l=>(match h[l]? with
  |some (.dic _ _)=>.ok x h
  |_=>.stuck)
 |_=>.stuck
theorem SO {fz:Bool} {a:Addr} {es:List (Kyd×V×V)} (I:Inv X pins σ H s) (d:DicH fz H a es):BF a es s.heap:=by
 have:=d.rd.ok I.hok
 exact (show ObjOk X.prog X.w H s.heap a (.dct (BF a es)) from this).1
theorem SQ {a:Addr} {es:List (Kyd×V×V)} (d:BF a es s.heap):s.TypeIs (.ref a) "dict"∧∀b,Value.ref a=.ref b→∃ob,s.heap.get? b=some ob∧ob.dict=none:=by
 obtain ⟨_,_,_,o,us,ep,h1,h2,h3,_⟩:=d
 exact ⟨⟨o,h1,h2.1⟩,fun b z=>by cases z;exact ⟨o,h1,h2.2.1⟩⟩
def SS:D→D→D→HD→Out D:=fun x y z h=>match x,y with
 |.loc l,.int n=>(match h[l]? with
  |some (.dic _ kvs)=>if E2 kvs then .ok ((Bi kvs (.i n)).getD z) h else .stuck
  |_=>.stuck)
 |_,_=>.stuck
def SU (f g k:ME):ME:=fun ρ h=>((f ρ h).bind SM).bind fun x h1=>(g ρ h1).bind fun y h2=>(k ρ h2).bind fun z h3=>SS x y z h3
def J5 (o i v:D) (h:HD) (g:HD→Out (Fl×Ai)):Out (Fl×Ai):=match o,i with
 |.loc l,.int n=>(match h[l]? with
  |some (.dic false kvs)=>if E2 kvs∧kvs.length<sizeLine then g (h.set l (.dic false (Cd kvs (.i n) v))) else .stuck
  |_=>.stuck)
 |_,_=>.stuck
def Mc (fo fi fv:ME):MS:=fun ρ h=>(fv ρ h).bind fun v h1=>(fo ρ h1).bind fun o h2=>(fi ρ h2).bind fun i h3=>J5 o i v h3 fun h4=>.ok (.nx,ρ) h4
def Zad (K:Frag):V→V→V→Hp→(Hp→Prop)→Prop:=fun o i v H Q=>∃(m:List Addr) (a:Addr) (n:Int) (kvs:List (Kyd×D)) (es:List (Kyd×V×V)) (d:D),o=.ref a∧i=.int n∧H a=some (.dct (BF a es))∧EntD K m H kvs es∧E2 kvs=true∧kvs.length<sizeLine∧DV K m H d v∧
 ∀es',EntD K m H (Cd kvs (.i n) d) es'→Q (Av H a (.dct (BF a es')))
theorem Zae:KO X (Zad X.K):=by
 intro pins s σ H o i v ov iv u Q I ro ri rv h
 obtain ⟨m,a,n,kvs,es,d,rfl,rfl,hH,en,hi,hz,dv,q⟩:=h
 cases ro
 obtain ⟨tk,rfl⟩:=ri
 have dc:BF a es s.heap:=(show ObjOk X.prog X.w H s.heap a (.dct (BF a es)) from I.hok a _ hH).1
 obtain ⟨ob,us,ep,vs,h1,h2,dd,rr⟩:=OB (P:=X.prog) (w:=X.w) dc en hi
 refine wpAny_setItem_pairs (hsz:=by rw [←SK rr];omega) (intKind_is X.prog X.w n tk) dd.dictOf fun h' dd' hs=>?_
 obtain ⟨es',q1,q2⟩:=Z8 (P:=X.prog) (w:=X.w) dc.1 (BP J4 (by omega)) dd' (Z9 rr dv rv)
 refine ⟨_,I.write (x:=a) (e:=a) (t':=s.toks+1) (by rw [hH];exact True.intro) (.inl rfl) (fun b q hb z=>(hs.2 b hb).trans z) ?_ (OD q1),q es' q2⟩
 obtain ⟨q,_,_,hq,_⟩:=dd'
 exact ⟨q,hq⟩
theorem Zaf {o i e:Expr} {fo fi fv:ME} {pos pos':Pos} (ho:Ev X E o fo) (hi:Ev X E i fi) (he:Ev X E e fv)
 (ha:∀v,assign (.Subscript o i pos') X.env v=(do
  let ov ←holding [v] (eval o X.env)
  let iv ←holding [v,ov] (eval i X.env)
  standAt pos'
  holding [v,ov,iv] (setItem ov iv v)
  release [v,ov,iv] []):=by intro _;rfl)
 (hs:swapsWithSole [.Subscript o i pos'] e pos.line X.env=pure false:=by rfl) (hw:swappedStores [.Subscript o i pos'] e X.env=pure none:=by rfl)
 (h1:(assignEach [.Subscript o i pos'] X.env).map (·.2)=[assign (.Subscript o i pos') X.env]:=by rfl):Ex X E (.Assign [.Subscript o i pos'] e pos) (Mc fo fi fv):=
 EO (KP he (M0 ho hi Zae ha) hs hw h1) fun Dn σ H ⟨m,ρ,h,hr,er,p⟩=>⟨m,ρ,h,hr,er,PostS.bind p fun v h1 vv m1 H1 eo1 p1 k1 hr1 r1 q1=>by
  refine ⟨m1,ρ,h1,hr1,er.keep p1 k1,PostS.bind q1 fun ov h2 vo m2 H2 eo2 p2 k2 hr2 r2 q2=>?_⟩
  refine ⟨m2,ρ,h2,hr2,(er.keep p1 k1).keep p2 k2,PostS.bind q2 fun iv h3 vi m3 H3 eo3 p3 k3 hr3 r3 q3=>?_⟩
  clear eo1 eo2 eo3
  unfold J5 at q3
  split at q3
  ·rename_i l n
   split at q3
   ·rename_i kvs el
    split at q3
    ·rename_i hc
     have ro:=DV.keep p3 k3 r2
     simp only [DV] at ro
     obtain ⟨a,rfl,ha⟩:=ro
     have ri:=r3
     simp only [rD,DV] at ri
     subst ri
     obtain ⟨es,hv,en⟩:=hr3.cells l _ a el ha
     have hv:H3 a=some (.dct (BF a es)):=hv
     have rvv:=DV.keep p3 k3 (DV.keep p2 k2 r1)
     refine ⟨m3,a,n,kvs,es,v,rfl,rfl,hv,en,hc.1,hc.2,rvv,fun es' en'=>?_⟩
     have kk:Kp H3 (Av H3 a (.dct (BF a es'))):=.set hv rfl
     have hr4:HR X.K m3 (h3.set l (.dic false (Cd kvs (.i n) v))) (Av H3 a (.dct (BF a es'))):=hr3.setCell ha hv rfl ⟨es',B9,en'.keep (AC _) kk⟩
     exact q3 m3 _ (AC _) kk hr4 σ ((((er.keep p1 k1).keep p2 k2).keep p3 k3).keep (AC _) kk)
    ·exact q3.elim
   ·exact q3.elim
  ·exact q3.elim⟩
def Zgx (a:Addr) (ob:Obj) (es:List (Kyd×V×V)):It:=⟨fun i H=>H a=some (.frz ob (.dct (BF a es)))∧i<es.length,fun i H x H'=>∃p k kv vv,H p=none∧x=.ref p∧es[i]?=some (k,kv,vv)∧H'=Av H p (.tup [kv,vv]),fun i H=>H a=some (.frz ob (.dct (BF a es)))∧i=es.length⟩
def SV (d:D) (h:HD):Out (List D×Bc):=match d with
 |.loc l=>(match h[l]? with
  |some (.dic _ kvs)=>if E2 kvs then .ok (kvs.map fun p=>.tup [kD p.1,p.2],[]) (h.set l (.dic true kvs)) else .stuck
  |_=>.stuck)
 |_=>.stuck
def SW (f:ME):MI:=fun ρ h=>(f ρ h).bind SV
end
section
variable {f g k fo fi fv:ME} {ρ:Ai} {h:HD} {Q:D→HD→Prop} {QS:Fl×Ai→HD→Prop} {QI:List D×Bc→HD→Prop} {i j:Int} {l:Nat} {fz:Bool} {kvs:List (Kyd×D)}
@[simp] theorem Zgy:Wp (Mb ρ h) Q=Q (.loc h.length) (h++[.dic false []]):=id rfl
@[simp] theorem Zgz:Wp (Zac i j ρ h) Q=Q (.loc h.length) (h++[.dic false [(.i i,.int j)]]):=id rfl
@[simp] theorem ZgA:Wp (SU f g k ρ h) Q=Wp (f ρ h) fun x h1=>Wp (SM x h1) fun x h2=>Wp (g ρ h2) fun y h3=>Wp (k ρ h3) fun z h4=>Wp (SS x y z h4) Q:=by unfold SU;simp only [AE]
@[simp] theorem ZgB:Wp (Mc fo fi fv ρ h) QS=Wp (fv ρ h) fun v h1=>Wp (fo ρ h1) fun o h2=>Wp (fi ρ h2) fun i h3=>Wp (J5 o i v h3 fun h4=>.ok (.nx,ρ) h4) QS:=by unfold Mc;simp only [AE]
@[simp] theorem ZgC:Wp (SW f ρ h) QI=Wp (f ρ h) fun d h1=>Wp (SV d h1) QI:=by unfold SW;rw [AE]
end
namespace Dt
open PySem
abbrev iK (prog:Program) (w:World):KeyKind prog w Int:=intKind prog w
abbrev tK (prog:Program) (w:World):HeapKind prog w (List Int):=tupleKind (iK prog w)
abbrev Ent:=List Int×Addr×Value
end Dt
section
variable {P:Program} {w:World} {K:Frag} {m:List Addr} {H:Hp} {h:Heap} {a:Addr}
theorem SY:∀{ns:List Int} {vs:List V} {us:List Value},DVs K m H (ns.map D.int) vs→Vals vs us→ItemsAre (intKind P w) ns us
 |[],_,_,r,t=>by
  simp only [Ih,DVs] at r
  subst r
  cases t
  exact .nil
 |n::ns,_,_,r,t=>by
  simp only [Bx,DVs] at r
  obtain ⟨v,vs,rfl,rv,rr⟩:=r
  simp only [DV] at rv
  subst rv
  cases t with
  |cons t1 t2=>
   obtain ⟨tk,rfl⟩:=t1
   exact .cons (intKind_is P w n tk) (SY rr t2)
theorem Zag (ok:HOk P w H h) {ns:List Int} {v:V} (d:DV K m H (.tup (ns.map D.int)) v):∃b,v=.ref b∧IsTupleKey (intKind P w) h ns b:=by
 simp only [DV] at d
 obtain ⟨b,vs,rfl,hb,dv⟩:=d
 obtain ⟨_,its,f2,⟨o,ho,hc,n,hd⟩,_⟩:=(show MV h b vs from ok b _ hb)
 exact ⟨b,rfl,o,its.toArray,n,ho,hc,hd,by simpa using SY dv f2⟩
end
def Hi:List D→Option (List Int)
 |[]=>some []
 |.int n::ds=>(Hi ds).map (n::·)
 |_=>none
theorem SZ:∀{ds:List D} {ns:List Int},Hi ds=some ns→ds=ns.map D.int
 |[],_,e=>by cases e;rfl
 |d::ds,ns,e=>by
  cases d<;>simp only [Hi] at e<;>try cases e
  rename_i n
  cases q:Hi ds with
  |none=>rw [q] at e;cases e
  |some ms=>rw [q] at e;cases e;rw [SZ q];rfl
end LS
namespace LS
open PySem PySem.Spec PyProof.Rows L2 PySem.W PySem.Calls
def isT:Kyd→Bool
 |.t _=>true
 |_=>false
def Dq (kvs:List (Kyd×D)):Bool:=kvs.all fun p=>isT p.1
def TR (K:Frag) (m:List Addr) (H:Hp) (p:Kyd×D) (q:List Int×Addr×Value):Prop:=p.1=.t q.1∧DV K m H (kD p.1) (.ref q.2.1)∧∃v,DV K m H p.2 v∧RelV v q.2.2
section
variable {P:Program} {w:World} {K:Frag} {m:List Addr} {H:Hp} {h:Heap} {a:Addr}
theorem Md (ok:HOk P w H h) {ns:List Int} {v:V} (d:DV K m H (kD (.t ns)) v):∃b,v=.ref b∧IsTupleKey (intKind P w) h ns b:=Zag ok d
theorem S4 (ok:HOk P w H h):∀{kvs:List (Kyd×D)} {es:List (Kyd×V×V)} {ul:List DictEntry},EntD K m H kvs es→Dq kvs=true→Paired JC es ul→
 ∃xs:List (List Int×Addr×Value),ul=xs.map (entryOfKey (Dt.tK P w))∧Paired (TR K m H) kvs xs∧(∀x∈xs,(Dt.tK P w).is h x.1 x.2.1)∧xs.map (fun q=>Kyd.t q.1)=es.map (·.1)
 |[],_,_,e,_,p=>by
  simp only [EntD] at e
  subst e
  cases p
  exact ⟨[],rfl,.nil,by simp,rfl⟩
 |(k,d)::kvs,_,_,e,hi,p=>by
  simp only [EntD] at e
  obtain ⟨kv,vv,r',rfl,d1,d2,t⟩:=e
  simp only [Dq,Ie,Cp] at hi
  cases p with
  |cons p1 p2=>
   rename_i e ul'
   obtain ⟨xs,h1,h2,h3,h4⟩:=S4 ok t hi.2 p2
   obtain ⟨q1,q2,q3⟩:=p1
   cases k with
   |t rs=>
    obtain ⟨b,rfl,hb⟩:=Md ok d1
    obtain ⟨eh,ek,ev⟩:=e
    cases (show ek=Value.ref b from q2)
    simp only at q1
    subst q1
    refine ⟨(rs,b,ev)::xs,by rw [h1];rfl,.cons ⟨rfl,d1,vv,d2,q3⟩ h2,fun x hx=>?_,by simp [h4]⟩
    rcases qa5.mp hx with rfl |hx
    ·exact hb
    ·exact h3 x hx
   |b ns=>cases hi.1
   |i n=>cases hi.1
theorem OF (ok:HOk P w H h) {es:List (Kyd×V×V)} {kvs:List (Kyd×D)} (d:BF a es h) (e:EntD K m H kvs es) (hi:Dq kvs=true):∃xs:List (List Int×Addr×Value),h.DictOfH (Dt.tK P w) a xs∧Paired (TR K m H) kvs xs:=by
 obtain ⟨hs,hz,nd,o,us,ep,h1,h2,h3,h4⟩:=d
 obtain ⟨xs,q1,q2,q3,q4⟩:=S4 ok e hi h4
 refine ⟨xs,⟨o,us,ep,h1,h2,h3,q1,q3,?_⟩,q2⟩
 rw [←q4] at nd
 unfold List.Nodup at nd ⊢
 rw [FC] at nd ⊢
 exact nd.imp fun z y=>z (by rw [y])
theorem S6:∀{kvs:List (Kyd×D)} {xs:List (List Int×Addr×Value)},Paired (TR K m H) kvs xs→∃es:List (Kyd×V×V),EntD K m H kvs es∧Paired JC es (xs.map (entryOfKey (Dt.tK P w)))∧es.map (·.1)=xs.map (fun q=>Kyd.t q.1)
 |_,_,.nil=>⟨[],rfl,.nil,rfl⟩
 |_,_,.cons r t=>by
  rename_i x y xs ys
  obtain ⟨es,h1,h2,h3⟩:=S6 t
  obtain ⟨k,d⟩:=x
  obtain ⟨n,b,u⟩:=y
  obtain ⟨r1,r0,v,r2,r3⟩:=r
  simp only at r1 r0 r2 r3
  subst r1
  refine ⟨(.t n,.ref b,v)::es,?_,.cons ⟨rfl,rfl,r3⟩ h2,by simp [h3]⟩
  simp only [EntD]
  exact ⟨_,_,_,rfl,r0,r2,h1⟩
theorem S7:∀{kvs:List (Kyd×D)} {xs:List (List Int×Addr×Value)},Paired (TR K m H) kvs xs→kvs.length=xs.length
 |_,_,.nil=>rfl
 |_,_,.cons _ t=>by simp [S7 t]
theorem Zah {kvs:List (Kyd×D)} {xs:List (List Int×Addr×Value)} (hs:(a==sysModules)=false) (hz:kvs.length≤sizeLine) (dd:h.DictOfH (Dt.tK P w) a xs) (r:Paired (TR K m H) kvs xs):∃es,BF a es h∧EntD K m H kvs es:=by
 obtain ⟨o,us,ep,h1,h2,h3,h4,h5,h6⟩:=dd
 obtain ⟨es,q1,q2,q3⟩:=S6 (P:=P) (w:=w) r
 refine ⟨es,⟨hs,by rw [←q1.len];exact hz,?_,o,us,ep,h1,h2,h3,by rw [h4];exact q2⟩,q1⟩
 rw [q3]
 unfold List.Nodup at h6 ⊢
 rw [FC] at h6 ⊢
 exact h6.imp fun z y=>z (by injection y)
theorem S8 {n:List Int}:∀{kvs:List (Kyd×D)} {xs:List (List Int×Addr×Value)},Paired (TR K m H) kvs xs→(kvs.any fun p=>decide (p.1=.t n))=(atKey xs n).isSome
 |_,_,.nil=>rfl
 |_,_,.cons r t=>by
  rename_i x y xs ys
  rw [Ig,S8 t,r.1]
  by_cases z:y.1=n
  ·simp [atKey,DS,z]
  ·simp [atKey,DS,z]
theorem S9 {n:List Int} {d:D} {v:V} {u:Value} (dv:DV K m H d v) (rv:RelV v u):∀{kvs:List (Kyd×D)} {xs:List (List Int×Addr×Value)},Paired (TR K m H) kvs xs→Paired (TR K m H) (kvs.map fun p=>if p.1=.t n then (p.1,d) else p) (xs.map (putAt n u))
 |_,_,.nil=>.nil
 |_,_,.cons r t=>by
  rename_i x y xs ys
  refine .cons ?_ (S9 dv rv t)
  show TR K m H (if x.1=.t n then (x.1,d) else x) (putAt n u y)
  unfold putAt
  by_cases z:y.1=n
  ·rw [if_pos z,if_pos (by rw [r.1,z])]
   exact ⟨r.1,r.2.1,v,dv,rv⟩
  ·rw [if_neg z,if_neg (by rw [r.1];intro q;injection q with q;exact z q)]
   exact r
theorem Ta {p:Kyd×D} {q:List Int×Addr×Value} (r:TR K m H p q):∀{kvs:List (Kyd×D)} {xs:List (List Int×Addr×Value)},Paired (TR K m H) kvs xs→Paired (TR K m H) (kvs++[p]) (xs++[q])
 |_,_,.nil=>.cons r .nil
 |_,_,.cons x t=>.cons x (Ta r t)
theorem Zai {n:List Int} {b:Addr} {d:D} {v:V} {u:Value} {kvs:List (Kyd×D)} {xs:List (List Int×Addr×Value)} (r:Paired (TR K m H) kvs xs) (db:DV K m H (kD (.t n)) (.ref b)) (dv:DV K m H d v) (rv:RelV v u):Paired (TR K m H) (Cd kvs (.t n) d) (storedH xs n b u):=by
 unfold Cd storedH
 rw [S8 r]
 by_cases z:(atKey xs n).isSome=true
 ·rw [if_pos z,if_pos z];exact S9 dv rv r
 ·rw [if_neg z,if_neg z];exact Ta ⟨rfl,db,v,dv,rv⟩ r
end
def keyT:D→Option (List Int)
 |.tup ds=>Hi ds
 |_=>none
theorem OG {d:D} {ns:List Int} (e:keyT d=some ns):d=kD (.t ns):=by
 cases d<;>simp only [keyT] at e<;>try cases e
 rw [SZ e]
 rfl
def J6 (o i v:D) (h:HD) (g:HD→Out (Fl×Ai)):Out (Fl×Ai):=match o,keyT i with
 |.loc l,some rs=>(match h[l]? with
  |some (.dic false kvs)=>if Dq kvs∧kvs.length<sizeLine then g (h.set l (.dic false (Cd kvs (.t rs) v))) else .stuck
  |_=>.stuck)
 |_,_=>.stuck
def J7 (fo fi fv:ME):MS:=fun ρ h=>(fv ρ h).bind fun v h1=>(fo ρ h1).bind fun o h2=>(fi ρ h2).bind fun i h3=>J6 o i v h3 fun h4=>.ok (.nx,ρ) h4
def Zaj (K:Frag):V→V→V→Hp→(Hp→Prop)→Prop:=fun o i v H Q=>∃(m:List Addr) (a:Addr) (rs:List Int) (kvs:List (Kyd×D)) (es:List (Kyd×V×V)) (d:D),o=.ref a∧DV K m H (kD (.t rs)) i∧H a=some (.dct (BF a es))∧EntD K m H kvs es∧Dq kvs=true∧kvs.length<sizeLine∧DV K m H d v∧
 ∀es',EntD K m H (Cd kvs (.t rs) d) es'→Q (Av H a (.dct (BF a es')))
section
variable {X:Cx} {E:XK} {pins:List (Addr×Obj)} {σ:L2.St} {H:Hp} {s:Shared}
theorem Zak (hu:X.A.units+64<cLine):KO X (Zaj X.K):=by
 intro pins s σ H o i v ov iv u Q I ro ri rv h
 obtain ⟨m,a,rs,kvs,es,d,rfl,di,hH,en,hi,hz,dv,q⟩:=h
 cases ro
 obtain ⟨b,rfl,hb⟩:=Md I.hok di
 cases (show iv=Value.ref b from ri)
 have dc:BF a es s.heap:=(show ObjOk X.prog X.w H s.heap a (.dct (BF a es)) from I.hok a _ hH).1
 obtain ⟨xs,dd,rr⟩:=OF (P:=X.prog) (w:=X.w) I.hok dc en hi
 refine wpAny_setItem_heap (knd:=Dt.tK X.prog X.w) (hsz:=by rw [←S7 rr];omega) (by show X.A.units+1<cLine;omega) hb dd fun h' dd' hs=>?_
 obtain ⟨es',q1,q2⟩:=Zah (P:=X.prog) (w:=X.w) dc.1 (BP J4 (by omega)) dd' (Zai rr di dv rv)
 refine ⟨_,I.write (x:=a) (e:=a) (t':=_) (by rw [hH];exact True.intro) (.inl rfl) (fun b q hb z=>(hs.2 b hb).trans z) ?_ (OD q1),q es' q2⟩
 obtain ⟨q,_,_,hq,_⟩:=dd'
 exact ⟨q,hq⟩
theorem Tb {o i e:Expr} {fo fi fv:ME} {pos pos':Pos} (hu:X.A.units+64<cLine) (ho:Ev X E o fo) (hi:Ev X E i fi) (he:Ev X E e fv)
 (ha:∀v,assign (.Subscript o i pos') X.env v=(do
  let ov ←holding [v] (eval o X.env)
  let iv ←holding [v,ov] (eval i X.env)
  standAt pos'
  holding [v,ov,iv] (setItem ov iv v)
  release [v,ov,iv] []):=by intro _;rfl)
 (hs:swapsWithSole [.Subscript o i pos'] e pos.line X.env=pure false:=by rfl) (hw:swappedStores [.Subscript o i pos'] e X.env=pure none:=by rfl)
 (h1:(assignEach [.Subscript o i pos'] X.env).map (·.2)=[assign (.Subscript o i pos') X.env]:=by rfl):Ex X E (.Assign [.Subscript o i pos'] e pos) (J7 fo fi fv):=
 EO (KP he (M0 ho hi (Zak hu) ha) hs hw h1) fun Dn σ H ⟨m,ρ,h,hr,er,p⟩=>⟨m,ρ,h,hr,er,PostS.bind p fun v h1 vv m1 H1 eo1 p1 k1 hr1 r1 q1=>by
  refine ⟨m1,ρ,h1,hr1,er.keep p1 k1,PostS.bind q1 fun ov h2 vo m2 H2 eo2 p2 k2 hr2 r2 q2=>?_⟩
  refine ⟨m2,ρ,h2,hr2,(er.keep p1 k1).keep p2 k2,PostS.bind q2 fun iv h3 vi m3 H3 eo3 p3 k3 hr3 r3 q3=>?_⟩
  clear eo1 eo2 eo3
  unfold J6 at q3
  split at q3
  ·rename_i l rs er'
   split at q3
   ·rename_i kvs el
    split at q3
    ·rename_i hc
     have ro:=DV.keep p3 k3 r2
     simp only [DV] at ro
     obtain ⟨a,rfl,ha⟩:=ro
     have ri:DV X.K m3 H3 (kD (.t rs)) vi:=by rw [←OG er'];exact r3
     obtain ⟨es,hv,en⟩:=hr3.cells l _ a el ha
     have hv:H3 a=some (.dct (BF a es)):=hv
     have rvv:=DV.keep p3 k3 (DV.keep p2 k2 r1)
     refine ⟨m3,a,rs,kvs,es,v,rfl,ri,hv,en,hc.1,hc.2,rvv,fun es' en'=>?_⟩
     have kk:Kp H3 (Av H3 a (.dct (BF a es'))):=.set hv rfl
     have hr4:HR X.K m3 (h3.set l (.dic false (Cd kvs (.t rs) v))) (Av H3 a (.dct (BF a es'))):=hr3.setCell ha hv rfl ⟨es',B9,en'.keep (AC _) kk⟩
     exact q3 m3 _ (AC _) kk hr4 σ ((((er.keep p1 k1).keep p2 k2).keep p3 k3).keep (AC _) kk)
    ·exact q3.elim
   ·exact q3.elim
  ·exact q3.elim⟩
end
section
variable {K:Frag} {m:List Addr} {H:Hp}
theorem OH {n:List Int}:∀{kvs:List (Kyd×D)} {xs:List Dt.Ent},Paired (TR K m H) kvs xs→(Bi kvs (.t n)=none∧atKey xs n=none)∨∃d p v,Bi kvs (.t n)=some d∧atKey xs n=some p∧DV K m H d v∧RelV v p.2
 |_,_,.nil=>.inl ⟨rfl,rfl⟩
 |_,_,.cons r t=>by
  rename_i x y xs ys
  obtain ⟨r1,r0,v,r2,r3⟩:=r
  by_cases z:y.1=n
  ·refine .inr ⟨x.2,y.2,v,?_,?_,r2,r3⟩
   ·simp [Bi,DS,r1,z]
   ·simp [atKey,DS,z]
  ·have e1:Bi (x::xs) (.t n)=Bi xs (.t n):=by simp [Bi,DS,r1,z]
   have e2:atKey (y::ys) n=atKey ys n:=by simp [atKey,DS,z]
   rw [e1,e2]
   exact OH t
theorem Zal {kvs:List (Kyd×D)} {k:Kyd}:(kvs.any fun p=>decide (p.1=k))=(Bi kvs k).isSome:=by
 unfold Bi
 rw [Option.isSome_map,qaW,qbF,List.find?_isSome]
end
def Eb (neg:Bool):D→D→HD→Out D:=fun x y h=>match y with
 |.loc l=>(match h[l]? with
  |some (.dic _ kvs)=>(match x with
   |.int n=>if E2 kvs then .ok (.bl (Bool.xor neg (Bi kvs (.i n)).isSome)) h else .stuck
   |_=>(match keyT x with
    |some ns=>if Dq kvs then .ok (.bl (Bool.xor neg (Bi kvs (.t ns)).isSome)) h else .stuck
    |none=>.stuck))
  |_=>.stuck)
 |_=>.stuck
theorem Zam (neg:Bool) (x y:D) (h:HD):Gu (Eb neg x y h):=by
 unfold Eb
 repeat' split
 all_goals trivial
section
variable {X:Cx} {E:XK}
def Zan (X:Cx) (neg:Bool):R2:=fun v u H Q=>∃m h x y,HR X.K m h H∧DV X.K m H x v∧DV X.K m H y u∧Post X.K (rD X.K) m H E0 Q (Eb neg x y h)
theorem Tc {neg:Bool} {o:CmpOp} (hu:X.A.units+64<cLine)
 (ki:∀{s:Shared} {d:Addr} {n:Int} {tk:Tok} {f:Int→Option Value} {Q:Value→Shared→Prop} {E:Value→Shared→Prop},(d==sysModules)=false→s.heap.MapOf (intKind X.prog X.w) d f→Q (.bool (Bool.xor neg (f n).isSome)) {s with toks:=s.toks+1}→wpAny (model X.prog X.w) X.A (compareOp o (.int n tk) (.ref d)) Q E s)
 (kt:∀{s:Shared} {d c:Addr} {ns:List Int} {xs:List Dt.Ent} {Q:Value→Shared→Prop} {E:Value→Shared→Prop},IsTupleKey (intKind X.prog X.w) s.heap ns c→(d==sysModules)=false→s.heap.DictOfH (Dt.tK X.prog X.w) d xs→Q (.bool (Bool.xor neg (atKey xs ns).isSome)) {s with toks:=s.toks+(Dt.tK X.prog X.w).draws ns}→wpAny (model X.prog X.w) X.A (compareOp o (.ref c) (.ref d)) Q E s):
 BA X (compareOp o) (Eb neg):=by
 refine ⟨Zan X neg,fun pins s σ H v u a b Q I rv ru z=>?_,fun m H h E x y v u Q hr rx ry q=>⟨m,h,x,y,hr,rx,ry,Post.noE (Zam _ _ _ _) q⟩⟩
 obtain ⟨m,h,x,y,hr,rx,ry,q⟩:=z
 unfold Eb at q
 split at q
 ·rename_i l
  split at q
  ·rename_i fz kvs el
   simp only [DV] at ry
   obtain ⟨d,rfl,hd⟩:=ry
   cases (show b=Value.ref d from ru)
   obtain ⟨es,he,en⟩:=hr.cells l _ d el hd
   have dc:=SO I he
   split at q
   ·rename_i n
    split at q
    ·rename_i hi
     simp only [DV] at rx
     subst rx
     obtain ⟨tk,rfl⟩:=rv
     obtain ⟨ob,us,ep,vs,h1,h2,dd,rr⟩:=OB (P:=X.prog) (w:=X.w) dc en hi
     refine ki dc.1 dd.dictOf.mapOf ?_
     have e:(valueAt vs n).isSome=(Bi kvs (.i n)).isSome:=by
      rcases OC (n:=n) rr with ⟨e1,e2⟩ |⟨d,u',v',e1,e2,e3,e4⟩<;>rw [e1,e2]<;>rfl
     rw [e]
     exact ⟨.bl _,H,I.tok _,rfl,Bm hr q (by simp [DV])⟩
    ·exact q.elim
   ·split at q
    ·rename_i ns ek
     split at q
     ·rename_i hi
      rw [OG ek] at rx
      obtain ⟨c,rfl,hk⟩:=Md (P:=X.prog) (w:=X.w) I.hok rx
      cases (show a=Value.ref c from rv)
      obtain ⟨xs,dd,rr⟩:=OF (P:=X.prog) (w:=X.w) I.hok dc en hi
      refine kt hk dc.1 dd ?_
      have e:(atKey xs ns).isSome=(Bi kvs (.t ns)).isSome:=by
       rcases OH (n:=ns) rr with ⟨e1,e2⟩ |⟨d,u',v',e1,e2,e3,e4⟩<;>rw [e1,e2]<;>rfl
      rw [e]
      exact ⟨.bl _,H,I.tok _,rfl,Bm hr q (by simp [DV])⟩
     ·exact q.elim
    ·exact q.elim
  ·exact q.elim
 ·exact q.elim
theorem Zao (hu:X.A.units+64<cLine):BA X (compareOp .In) (Eb false):=
 Tc hu (fun hd hm q=>wpAny_in_of (intKind_is _ _ _ _) hd hm (by rw [Ju] at q;exact q)) fun hk hd dd q=>wpAny_in_heap (knd:=Dt.tK X.prog X.w) (by show X.A.units+1<cLine;omega) hk hd dd (by rw [Ju] at q;exact q)
theorem Zap (hu:X.A.units+64<cLine):BA X (compareOp .NotIn) (Eb true):=
 Tc hu (fun hd hm q=>wpAny_notIn_of (intKind_is _ _ _ _) hd hm (by rw [Bool.true_xor] at q;exact q)) fun hk hd dd q=>wpAny_notIn_heap (knd:=Dt.tK X.prog X.w) (by show X.A.units+1<cLine;omega) hk hd dd (by rw [Bool.true_xor] at q;exact q)
def EB:D→D→HD→Out D:=fun x y h=>match x with
 |.loc l=>(match h[l]? with
  |some (.dic _ kvs)=>(match y with
   |.int n=>if E2 kvs then (match Bi kvs (.i n) with
    |some d=>.ok d h
    |none=>.stuck) else .stuck
   |_=>(match keyT y with
    |some ns=>if Dq kvs then (match Bi kvs (.t ns) with
     |some d=>.ok d h
     |none=>.stuck) else .stuck
    |none=>.stuck))
  |_=>.stuck)
 |_=>.stuck
theorem Zaq (x y:D) (h:HD):Gu (EB x y h):=by
 unfold EB
 repeat' split
 all_goals trivial
def Zar (X:Cx):R2:=fun v u H Q=>∃m h x y,HR X.K m h H∧DV X.K m H x v∧DV X.K m H y u∧Post X.K (rD X.K) m H E0 Q (EB x y h)
theorem Zas (hu:X.A.units+64<cLine):IxR X (Zar X):=by
 intro value slice pins s σ H v u a b Q I rv ru z hs
 obtain ⟨m,h,x,y,hr,rx,ry,q⟩:=z
 unfold EB at q
 split at q
 ·rename_i l
  split at q
  ·rename_i fz kvs el
   simp only [DV] at rx
   obtain ⟨d,rfl,hd⟩:=rx
   cases (show a=Value.ref d from rv)
   obtain ⟨es,he,en⟩:=hr.cells l _ d el hd
   have dc:=SO I he
   split at q
   ·rename_i n
    split at q
    ·rename_i hi
     split at q
     ·rename_i dd' eg
      simp only [DV] at ry
      subst ry
      obtain ⟨tk,rfl⟩:=ru
      obtain ⟨ob,us,ep,vs,h1,h2,dd,rr⟩:=OB (P:=X.prog) (w:=X.w) dc en hi
      rcases OC (n:=n) rr with ⟨e1,e2⟩ |⟨d2,u',v',e1,e2,e3,e4⟩
      ·rw [e1] at eg;cases eg
      ·rw [e1] at eg
       cases eg
       exact subscriptTail_builtinR (x:=u') (SQ dc).1 slot_dict_getitem.lookup (wpAny_getItem_of (Q:=fun r s'=>r=u'∧EP X pins σ Q r s') (intKind_is _ _ _ _) dd.dictOf.mapOf e2 ⟨rfl,v',H,I.tok _,e4,Bm hr q e3⟩) hs
     ·exact q.elim
    ·exact q.elim
   ·split at q
    ·rename_i ns ek
     split at q
     ·rename_i hi
      split at q
      ·rename_i dd' eg
       rw [OG ek] at ry
       obtain ⟨c,rfl,hk⟩:=Md (P:=X.prog) (w:=X.w) I.hok ry
       cases (show b=Value.ref c from ru)
       obtain ⟨xs,dd,rr⟩:=OF (P:=X.prog) (w:=X.w) I.hok dc en hi
       rcases OH (n:=ns) rr with ⟨e1,e2⟩ |⟨d2,p,v',e1,e2,e3,e4⟩
       ·rw [e1] at eg;cases eg
       ·rw [e1] at eg
        cases eg
        exact subscriptTail_builtinR (x:=p.2) (SQ dc).1 slot_dict_getitem.lookup (wpAny_getItem_heap (knd:=Dt.tK X.prog X.w) (Q:=fun r s'=>r=p.2∧EP X pins σ Q r s') (by show X.A.units+1<cLine;omega) hk dd e2 ⟨rfl,v',H,I.tok _,e4,Bm hr q e3⟩) hs
      ·exact q.elim
     ·exact q.elim
    ·exact q.elim
  ·exact q.elim
 ·exact q.elim
theorem Td {a b:Expr} {pos:Pos} {f g:ME} (hu:X.A.units+64<cLine) (ha:Ev X E a f) (hb:Ev X E b g) (hs:Nh b):Ev X E (.Subscript a b pos) (Af EB f g):=
 Ca (Qd (Zas hu) ha hb hs) fun σ H Q hq=>JD hq fun m H2 h2 x y v u hr rx ry q=>⟨m,h2,x,y,hr,rx,ry,Post.noE (Zaq _ _ _) q⟩
def J8:D→HD→Out D:=fun x h=>match x with
 |.loc l=>(match h[l]? with
  |some (.lst ds)=>(match ds[ds.length - 1]? with
   |some d=>.ok d (h.set l (.lst ds.dropLast))
   |none=>.stuck)
  |_=>.stuck)
 |_=>.stuck
def J9 (f:ME):ME:=fun ρ h=>((f ρ h).bind Cj).bind J8
theorem DVs.dropLast {K:Frag} {m:List Addr} {H:Hp} {ds:List D} {vs:List V} (r:DVs K m H ds vs):DVs K m H ds.dropLast vs.dropLast:=by
 rw [List.dropLast_eq_take,List.dropLast_eq_take,r.len]
 exact r.take _
theorem Zat {o:Expr} {f:ME} {apos cpos:Pos} (ho:Ev X E o f)
 (hbase:attributeBase o "pop" X.env (eval o X.env)=eval o X.env:=by rfl) (hline:(apos.endLine==cpos.line)=true:=by rfl):
 Ev X E (.Call (.Attribute o "pop" apos) [] [] cpos) (J9 f):=
 Ca (WK PySem.F.plainAttrs_list PySem.F.slot_list_pop PySem.F.type_list_pop WS ho hbase hline) fun σ H Q z1_=>by
  obtain ⟨m,ρ,h,hr,er,p⟩:=z1_
  refine ⟨m,ρ,h,hr,er,?_⟩
  unfold J9 at p
  rw [Out.bind_assoc] at p
  refine Post.bind p fun x h1 v m1 H1 eo p1 k1 hr1 r1 q1=>?_
  clear eo
  unfold Cj at q1
  split at q1
  ·rename_i l
   split at q1
   ·rename_i ds el
    simp only [Out.bind_ok] at q1
    simp only [rD,DV] at r1
    obtain ⟨a,rfl,ha⟩:=r1
    obtain ⟨ws,hv,dv⟩:=hr1.cells l _ a el ha
    refine ⟨.inl ⟨rfl,ws,SqL.of hv⟩,?_⟩
    unfold J8 at q1
    simp only [el] at q1
    split at q1
    ·rename_i d ed
     obtain ⟨w,hw,dw⟩:=dv.get ed
     refine ⟨a,ws,w,rfl,rfl,hv,by rw [←dv.len];exact hw,?_⟩
     refine q1 w m1 _ (AC _) (.set hv rfl) (hr1.setCell ha hv rfl ⟨_,B9,?_⟩) (DV.keep (AC _) (.set hv rfl) dw)
     exact (DVs.dropLast dv).keep (AC _) (.set hv rfl)
    ·exact q1.elim
   ·exact q1.elim
  ·exact q1.elim
end
section
variable {f fo fi fv:ME} {ρ:Ai} {h:HD} {QS:Fl×Ai→HD→Prop} {Q:D→HD→Prop} {l:Nat} {ds:List D}
@[simp] theorem ZgD:Wp (J7 fo fi fv ρ h) QS=Wp (fv ρ h) fun v h1=>Wp (fo ρ h1) fun o h2=>Wp (fi ρ h2) fun i h3=>Wp (J6 o i v h3 fun h4=>.ok (.nx,ρ) h4) QS:=by unfold J7;simp only [AE]
@[simp] theorem ZgE:Wp (J9 f ρ h) Q=Wp (f ρ h) fun x h1=>Wp (Cj x h1) fun x h1=>Wp (J8 x h1) Q:=by unfold J9;simp only [AE]
end
end LS
namespace LS
open PySem PySem.Spec PyProof.Rows L2
def OI (i j k l:Nat):MG:=fun d ρ=>match d with
 |.tup [.tup [x,y,z],t]=>some ((((ρ.set i (some x)).set j (some y)).set k (some z)).set l (some t))
 |_=>none
abbrev Zau (K:PySem.W.Frag) (i j k l:Nat):TG:=Fe K 2 (CU (Fe K 3 (CU (Cy i) (CU (Cy j) (CU (Cy k) FE)))) (CU (Cy l) FE))
theorem Zav {K:PySem.W.Frag} {cs:List (Option Nat)} {i j k l:Nat} (h:cs[i]?=some none) (h':cs[j]?=some none) (h2:cs[k]?=some none) (h3:cs[l]?=some none):G1 K cs (Zau K i j k l) (OI i j k l):=fun m H d v ρ σ0 ρ' Q r er e q=>by
 unfold OI at e
 split at e
 ·cases e
  simp only [DV,DVs] at r
  obtain ⟨p,vs,rfl,hp,v1,w1,rfl,⟨p2,vs2,rfl,hp2,v3,w3,rfl,r3,v4,w4,rfl,r4,v5,w5,rfl,r5,rfl⟩,v2,w2,rfl,r2,rfl⟩:=r
  exact ⟨p,_,rfl,SqT.of hp,rfl,_,_,rfl,⟨p2,_,rfl,SqT.of hp2,rfl,v3,_,rfl,v4,_,rfl,v5,_,rfl,rfl,v2,_,rfl,rfl,q _ (((((Sub.refl _).set h).set h').set h2).set h3) ((((er.set r3).set r4).set r5).set r2)⟩⟩
 ·cases e
abbrev E3 (h:Heap) (z TI TO:Addr) (f0 f1:Value):Prop:=h.get? z=some {cls:=.type "zip",dict:=none,data:=.fields #[f0,f1,.bool false,.ref TI,.ref TO],slots:=#[]}
inductive ZipN (h:Heap) (z TI TO:Addr):Prop where
 |none (b:Bool) (e:E3 h z TI TO .none (.bool b)):ZipN h z TI TO
 |held (a:Int) (t:Tok) (b:Bool) (e:E3 h z TI TO (.int a t) (.bool b)):ZipN h z TI TO
section
variable {prog:Program} {w:World} {A:Around} {E:Value→Shared→Prop} {s:Shared} {z TI TO p q:Addr} {f g:List Addr} {n1 n2 k:Nat} {P1 P2:Nat→Value→Prop} {S1 S2:Nat→Heap→Prop} {a b:Value}
theorem Zaw {M:Model} {c:Addr} {Q:Option Obj→Shared→Prop} (h:Q (s.heap.get? c) s):wpAny M A (loadIfAlive c) Q E s:=fun _ _ _=>h
theorem Te {Q:Bool→Shared→Prop} (zz:ZipN s.heap z TI TO) (h1:∀f0 b,E3 s.heap z TI TO f0 (.bool b)→Q true s)
 (h2:∀h',ZipN h' z TI TO→Heap.SameBut z s.heap h'→Q false {s with heap:=h'}):wpAny (model prog w) A (Builtin.SmallTypes.ownedTupleIsFree (.ref z)) Q E s:=by
 unfold Builtin.SmallTypes.ownedTupleIsFree
 cases zz with
 |none b e=>exact wpAny_bind (wpAny_field e rfl (x:=.none) rfl (wpAny_pure (h1 _ _ e)))
 |held a t b e=>
  refine wpAny_bind (wpAny_field e rfl (x:=.int a t) rfl ?_)
  refine wpAny_bind (Zaw ?_)
  cases hc:s.heap.get? a.toNat with
  |none=>exact wpAny_pure (h1 _ _ e)
  |some o=>
   simp only [Option.isNone_some,Dv,if_false]
   refine wpAny_bind (wpAny_field e rfl (x:=.bool b) rfl ?_)
   cases b with
   |true=>exact wpAny_pure (h2 s.heap (.held a t true e) ⟨rfl,fun _ _=>rfl⟩)
   |false=>
    rw [if_pos (by decide)]
    refine wpAny_bind (wpAny_setField_rec e (by simp) fun h' e' sb=>wpAny_pure (h2 h' (.held a t true e') sb))
theorem Zax {Q:Value→Shared→Prop} (D1:Draws prog w A p f n1 P1 S1) (D2:Draws prog w A q g n2 P2 S2) (ap:Eu z TI TO p q f g)
 (zz:ZipN s.heap z TI TO) (zi:IsPair s.heap TI (.ref p) (.ref q)) (zo:IsPair s.heap TO a b) (s1:S1 k s.heap) (s2:S2 k s.heap) (l1:k<n1) (l2:k<n2)
 (hQ:∀h' tk x y,P1 k x→P2 k y→ZipN h' z TI TO→(∃a b,IsPair h' TO a b)→S1 (k+1) h'→S2 (k+1) h'→IsPair h' s.heap.objs.size x y→
  (∀c o,c≠z→c≠TO→c≠p→c≠q→s.heap.get? c=some o→h'.get? c=some o)→Q (.ref s.heap.objs.size) {s with heap:=h',toks:=tk}):
 wpAny (model prog w) A (Builtin.«zip.__next__» ⟨[.ref z],[]⟩) (fun fin s'=>∃v,fin=.done (.ret v)∧Q v s') E s:=by
 have fl:∀i (x:Value),i=2∧x=.bool false∨i=3∧x=.ref TI→∀{Q:Value→Shared→Prop},Q x s→wpAny (model prog w) A (field (.ref z) i) Q E s:=fun i x h {Q} hq=>by
  cases zz with
  |none b e=>rcases h with ⟨rfl,rfl⟩ |⟨rfl,rfl⟩<;>exact wpAny_field e rfl rfl hq
  |held a t b e=>rcases h with ⟨rfl,rfl⟩ |⟨rfl,rfl⟩<;>exact wpAny_field e rfl rfl hq
 show wpAny _ _ (field (.ref z) 2 >>=_) _ _ _
 refine wpAny_bind (fl 2 (.bool false) (.inl ⟨rfl,rfl⟩) ?_)
 show wpAny _ _ (field (.ref z) 3 >>=_) _ _ _
 refine wpAny_bind (fl 3 (.ref TI) (.inr ⟨rfl,rfl⟩) ?_)
 refine wpAny_bind (wpAny_seqItems zi rfl ?_)
 show wpAny _ _ (Builtin.SmallTypes.ownedTupleIsFree (.ref z) >>=_) _ _ _
 refine wpAny_bind (Te zz (fun f0 b1 zz=>?_) fun m1 zz1 t1=>?_)
 ·simp only [if_true]
  refine wpAny_bind (wpAny_rule ?_)
  refine wpAny_bind (wpAny_field zz rfl (x:=.ref TO) rfl ?_)
  refine wpAny_bind (wpAny_setField_rec zz (by simp) fun m1 zz1 t1=>?_)
  replace zz1:E3 m1 z TI TO .ellipsis (.bool b1):=zz1
  refine wpAny_bind ?_
  simp only [KA,KC,GL,GM]
  refine wpAny_bind (wpAny_bind (wpAny_onRaise ?_))
  show wpAny _ _ (Builtin.SmallTypes.nextOf (.ref p) >>=_) _ _ _
  refine wpAny_bind (D1.item k _ _ _ l1 (D1.frame k _ _ s1 fun c hc o e=>t1.extBut _ _ (fun y=>ap.b2 (y ▸ hc)) e) fun x m2 tk2 px s12 t2=>wpAny_pure ?_)
  have zo2:IsPair m2 TO a b:=t2.extBut _ _ ap.a8 (t1.extBut _ _ ap.a2 zo)
  refine wpAny_bind (wpAny_seqItems zo2 rfl ?_)
  refine wpAny_bind (wpAny_updateSeq_pair zo2 fun m3 zo3 t3=>?_)
  replace zo3:IsPair m3 TO x b:=zo3
  refine wpAny_bind (wpAny_letGo (wpAny_pure ?_))
  refine wpAny_bind (wpAny_bind (wpAny_onRaise ?_))
  show wpAny _ _ (Builtin.SmallTypes.nextOf (.ref q) >>=_) _ _ _
  have s23:S2 k m3:=D2.frame k _ _ s2 fun c hc o e=>t3.extBut _ _ (fun y=>ap.b5 (y ▸ hc)) (t2.extBut _ _ (fun y=>ap.b6 (y ▸ hc)) (t1.extBut _ _ (fun y=>ap.b3 (y ▸ hc)) e))
  refine wpAny_bind (D2.item k _ _ _ l2 s23 fun y m4 tk4 py s24 t4=>wpAny_pure ?_)
  have zo4:IsPair m4 TO x b:=t4.extBut _ _ ap.a9 zo3
  refine wpAny_bind (wpAny_seqItems zo4 rfl ?_)
  refine wpAny_bind (wpAny_updateSeq_pair zo4 fun m5 zo5 t5=>?_)
  replace zo5:IsPair m5 TO x y:=zo5
  refine wpAny_bind (wpAny_letGo (wpAny_pure (wpAny_pure ?_)))
  refine wpAny_bind (wpAny_seqItems zo5 rfl ?_)
  refine wpAny_bind (wpAny_newTuple ?_)
  have sz:m5.objs.size=s.heap.objs.size:=by rw [t5.1,t4.1,t3.1,t2.1,t1.1]
  have zz5:E3 m5 z TI TO .ellipsis (.bool b1):=t5.extBut _ _ ap.a2.symm (t4.extBut _ _ ap.a4.symm (t3.extBut _ _ ap.a2.symm (t2.extBut _ _ ap.a3.symm zz1)))
  have kp:∀c o,c≠z→c≠TO→c≠p→c≠q→s.heap.get? c=some o→m5.get? c=some o:=fun c o c1 c2 c3 c4 e=>t5.extBut _ _ c2 (t4.extBut _ _ c4 (t3.extBut _ _ c2 (t2.extBut _ _ c3 (t1.extBut _ _ c1 e))))
  have zlt:z<m5.objs.size:=AO zz5
  show wpAny _ _ (Builtin.SmallTypes.ownedTupleHandOut (.ref z) (.ref m5.objs.size) >>=_) _ _ _
  refine wpAny_bind ?_
  unfold Builtin.SmallTypes.ownedTupleHandOut
  have zz6:E3 (m5.push {cls:=.type "tuple",data:=.seq #[x,y]}) z TI TO .ellipsis (.bool b1):=AM _ zz5
  refine wpAny_bind (wpAny_setField_rec zz6 (by simp) fun m7 zz7 t7=>?_)
  replace zz7:E3 m7 z TI TO (rawInt m5.objs.size) (.bool b1):=zz7
  refine wpAny_setField_rec zz7 (by simp) fun m8 zz8 t8=>?_
  replace zz8:E3 m8 z TI TO (rawInt m5.objs.size) (.bool false):=zz8
  have up:∀c o,c≠z→m5.get? c=some o→m8.get? c=some o:=fun c o c1 e=>t8.extBut _ _ c1 (t7.extBut _ _ c1 (AM _ e))
  have nw:IsPair m8 m5.objs.size x y:=t8.extBut _ _ (Bj zlt) (t7.extBut _ _ (Bj zlt) (BD _ rfl))
  rw [sz] at zz8 nw
  refine wpAny_pure ⟨_,rfl,?_⟩
  show Q (.ref m5.objs.size) _
  rw [sz]
  refine hQ m8 tk4 x y px py (.held _ _ _ zz8) ⟨_,_,up _ _ ap.a2 zo5⟩ (D1.frame _ m2 m8 s12 fun c hc o e=>?_) (D2.frame _ m4 m8 s24 fun c hc o e=>?_) nw fun c o c1 c2 c3 c4 e=>up c o c1 (kp c o c1 c2 c3 c4 e)
  ·have n1:c≠TO:=fun y=>ap.b4 (y ▸ hc)
   exact up c o (fun y=>ap.b2 (y ▸ hc)) (t5.extBut _ _ n1 (t4.extBut _ _ (fun y=>ap.b7 (y ▸ hc)) (t3.extBut _ _ n1 e)))
  ·exact up c o (fun y=>ap.b3 (y ▸ hc)) (t5.extBut _ _ (fun y=>ap.b5 (y ▸ hc)) e)
 ·simp only [Dv,if_false]
  refine wpAny_bind ?_
  simp only [List.forIn_toArray,GL,GM]
  refine wpAny_bind (wpAny_bind (wpAny_holding ?_))
  show wpAny _ _ (Builtin.SmallTypes.nextOf (.ref p) >>=_) _ _ _
  refine wpAny_bind (D1.item k _ _ _ l1 (D1.frame k _ _ s1 fun c hc o e=>t1.extBut _ _ (fun y=>ap.b2 (y ▸ hc)) e) fun x m2 tk2 px s12 t2=>wpAny_pure ?_)
  refine wpAny_pure ?_
  refine wpAny_bind (wpAny_bind (wpAny_holding ?_))
  show wpAny _ _ (Builtin.SmallTypes.nextOf (.ref q) >>=_) _ _ _
  have s23:S2 k m2:=D2.frame k _ _ s2 fun c hc o e=>t2.extBut _ _ (fun y=>ap.b6 (y ▸ hc)) (t1.extBut _ _ (fun y=>ap.b3 (y ▸ hc)) e)
  refine wpAny_bind (D2.item k _ _ _ l2 s23 fun y m4 tk4 py s24 t4=>wpAny_pure ?_)
  refine wpAny_pure (wpAny_pure ?_)
  refine wpAny_bind (wpAny_newTuple ?_ (by show 2≤sizeLine;unfold sizeLine;decide))
  have sz:m4.objs.size=s.heap.objs.size:=by rw [t4.1,t2.1,t1.1]
  have up:∀c o,m4.get? c=some o→(m4.push {cls:=.type "tuple",data:=.seq #[x,y]}).get? c=some o:=fun c o e=>AM _ e
  have zn:ZipN (m4.push {cls:=.type "tuple",data:=.seq #[x,y]}) z TI TO:=by
   cases zz1 with
   |none b e=>exact .none b (up _ _ (t4.extBut _ _ ap.a4.symm (t2.extBut _ _ ap.a3.symm e)))
   |held a t b e=>exact .held a t b (up _ _ (t4.extBut _ _ ap.a4.symm (t2.extBut _ _ ap.a3.symm e)))
  refine wpAny_pure ⟨_,rfl,?_⟩
  show Q (.ref m4.objs.size) _
  have nw:IsPair (m4.push {cls:=.type "tuple",data:=.seq #[x,y]}) m4.objs.size x y:=BD _ rfl
  rw [sz] at nw ⊢
  refine hQ _ tk4 x y px py zn ⟨a,b,up _ _ (t4.extBut _ _ ap.a9 (t2.extBut _ _ ap.a8 (t1.extBut _ _ ap.a2 zo)))⟩ (D1.frame _ m2 _ s12 fun c hc o e=>up _ _ (t4.extBut _ _ (fun y=>ap.b7 (y ▸ hc)) e)) (D2.frame _ m4 _ s24 fun c hc o e=>up _ _ e) nw fun c o c1 c2 c3 c4 e=>up _ _ (t4.extBut _ _ c4 (t2.extBut _ _ c3 (t1.extBut _ _ c1 e)))
theorem Zay {Q:Fin→Shared→Prop} (D1:Draws prog w A p f n1 P1 S1) (D2:Draws prog w A q g n2 P2 S2) (ap:Eu z TI TO p q f g)
 (zz:ZipN s.heap z TI TO) (zi:IsPair s.heap TI (.ref p) (.ref q)) (zo:IsPair s.heap TO a b) (s1:S1 k s.heap) (s2:S2 k s.heap) (hk:k=n1∨(k<n1∧k=n2))
 (hE:∀h' tk e,(∀c o,c≠z→c≠TO→c≠p→c≠q→s.heap.get? c=some o→h'.get? c=some o)→(∃o,h'.get? e=some o∧o.cls=.type "StopIteration")→E (.ref e) {s with heap:=h',toks:=tk}):
 wpAny (model prog w) A (Builtin.«zip.__next__» ⟨[.ref z],[]⟩) Q E s:=by
 have fl:∀i (x:Value),i=2∧x=.bool false∨i=3∧x=.ref TI→∀{Q:Value→Shared→Prop},Q x s→wpAny (model prog w) A (field (.ref z) i) Q E s:=fun i x h {Q} hq=>by
  cases zz with
  |none b e=>rcases h with ⟨rfl,rfl⟩ |⟨rfl,rfl⟩<;>exact wpAny_field e rfl rfl hq
  |held a t b e=>rcases h with ⟨rfl,rfl⟩ |⟨rfl,rfl⟩<;>exact wpAny_field e rfl rfl hq
 show wpAny _ _ (field (.ref z) 2 >>=_) _ _ _
 refine wpAny_bind (fl 2 (.bool false) (.inl ⟨rfl,rfl⟩) ?_)
 show wpAny _ _ (field (.ref z) 3 >>=_) _ _ _
 refine wpAny_bind (fl 3 (.ref TI) (.inr ⟨rfl,rfl⟩) ?_)
 refine wpAny_bind (wpAny_seqItems zi rfl ?_)
 show wpAny _ _ (Builtin.SmallTypes.ownedTupleIsFree (.ref z) >>=_) _ _ _
 refine wpAny_bind (Te zz (fun f0 b1 zz=>?_) fun m1 zz1 t1=>?_)
 ·simp only [if_true]
  refine wpAny_bind (wpAny_rule ?_)
  refine wpAny_bind (wpAny_field zz rfl (x:=.ref TO) rfl ?_)
  refine wpAny_bind (wpAny_setField_rec zz (by simp) fun m1 zz1 t1=>?_)
  replace zz1:E3 m1 z TI TO .ellipsis (.bool b1):=zz1
  refine wpAny_bind ?_
  simp only [KA,KC,GL,GM]
  refine wpAny_bind (wpAny_bind (wpAny_onRaise ?_))
  show wpAny _ _ (Builtin.SmallTypes.nextOf (.ref p) >>=_) _ _ _
  have s11:=D1.frame k _ m1 s1 fun c hc o e=>t1.extBut _ _ (fun y=>ap.b2 (y ▸ hc)) e
  rcases hk with hk |⟨hk,hk2⟩
  ·subst hk
   refine wpAny_bind (D1.done _ _ _ s11 fun m2 e t2 he=>?_)
   obtain ⟨oe,e1,e2⟩:=he
   have zz2:E3 m2 z TI TO .ellipsis (.bool b1):=t2 _ _ ap.a3.symm zz1
   have ne:e≠z:=fun y=>by subst y;rw [zz2] at e1;cases e1;simp at e2
   exact wpAny_setField_rec zz2 (by simp) fun m3 _ t3=>hE m3 _ e (fun c o c1 _ c3 _ y=>t3.extBut _ _ c1 (t2 _ _ c3 (t1.extBut _ _ c1 y))) ⟨oe,t3.extBut _ _ ne e1,e2⟩
  ·subst hk2
   refine wpAny_bind (D1.item k _ _ _ hk s11 fun x m2 tk2 px s12 t2=>wpAny_pure ?_)
   have zo2:IsPair m2 TO a b:=t2.extBut _ _ ap.a8 (t1.extBut _ _ ap.a2 zo)
   refine wpAny_bind (wpAny_seqItems zo2 rfl ?_)
   refine wpAny_bind (wpAny_updateSeq_pair zo2 fun m3 zo3 t3=>?_)
   refine wpAny_bind (wpAny_letGo (wpAny_pure ?_))
   refine wpAny_bind (wpAny_bind (wpAny_onRaise ?_))
   show wpAny _ _ (Builtin.SmallTypes.nextOf (.ref q) >>=_) _ _ _
   have s23:S2 k m3:=D2.frame k _ _ s2 fun c hc o e=>t3.extBut _ _ (fun y=>ap.b5 (y ▸ hc)) (t2.extBut _ _ (fun y=>ap.b6 (y ▸ hc)) (t1.extBut _ _ (fun y=>ap.b3 (y ▸ hc)) e))
   refine wpAny_bind (D2.done _ _ _ s23 fun m4 e t4 he=>?_)
   obtain ⟨oe,e1,e2⟩:=he
   have zz4:E3 m4 z TI TO .ellipsis (.bool b1):=t4 _ _ ap.a4.symm (t3.extBut _ _ ap.a2.symm (t2.extBut _ _ ap.a3.symm zz1))
   have ne:e≠z:=fun y=>by subst y;rw [zz4] at e1;cases e1;simp at e2
   exact wpAny_setField_rec zz4 (by simp) fun m5 _ t5=>hE m5 _ e (fun c o c1 c2 c3 c4 y=>t5.extBut _ _ c1 (t4 _ _ c4 (t3.extBut _ _ c2 (t2.extBut _ _ c3 (t1.extBut _ _ c1 y))))) ⟨oe,t5.extBut _ _ ne e1,e2⟩
 ·simp only [Dv,if_false]
  refine wpAny_bind ?_
  simp only [List.forIn_toArray,GL,GM]
  refine wpAny_bind (wpAny_bind (wpAny_holding ?_))
  show wpAny _ _ (Builtin.SmallTypes.nextOf (.ref p) >>=_) _ _ _
  have s11:=D1.frame k _ m1 s1 fun c hc o e=>t1.extBut _ _ (fun y=>ap.b2 (y ▸ hc)) e
  rcases hk with hk |⟨hk,hk2⟩
  ·subst hk
   refine wpAny_bind (D1.done _ _ _ s11 fun m2 e t2 he=>?_)
   exact hE m2 _ e (fun c o c1 _ c3 _ y=>t2 _ _ c3 (t1.extBut _ _ c1 y)) he
  ·subst hk2
   refine wpAny_bind (D1.item k _ _ _ hk s11 fun x m2 tk2 px s12 t2=>wpAny_pure ?_)
   refine wpAny_pure ?_
   refine wpAny_bind (wpAny_bind (wpAny_holding ?_))
   show wpAny _ _ (Builtin.SmallTypes.nextOf (.ref q) >>=_) _ _ _
   have s23:S2 k m2:=D2.frame k _ _ s2 fun c hc o e=>t2.extBut _ _ (fun y=>ap.b6 (y ▸ hc)) (t1.extBut _ _ (fun y=>ap.b3 (y ▸ hc)) e)
   refine wpAny_bind (D2.done _ _ _ s23 fun m4 e t4 he=>?_)
   exact hE m4 _ e (fun c o c1 c2 c3 c4 y=>t4 _ _ c4 (t2.extBut _ _ c3 (t1.extBut _ _ c1 y))) he
theorem Zaz {Q:Option Value→Shared→Prop} (D1:Draws prog w A.in1 p f n1 P1 S1) (D2:Draws prog w A.in1 q g n2 P2 S2) (ap:Eu z TI TO p q f g)
 (zz:ZipN s.heap z TI TO) (zi:IsPair s.heap TI (.ref p) (.ref q)) (zo:IsPair s.heap TO a b) (s1:S1 k s.heap) (s2:S2 k s.heap) (l1:k<n1) (l2:k<n2)
 (hQ:∀h' tk x y,P1 k x→P2 k y→ZipN h' z TI TO→(∃a b,IsPair h' TO a b)→S1 (k+1) h'→S2 (k+1) h'→IsPair h' s.heap.objs.size x y→
  (∀c o,c≠z→c≠TO→c≠p→c≠q→s.heap.get? c=some o→h'.get? c=some o)→Q (some (.ref s.heap.objs.size)) {s with heap:=h',toks:=tk}):
 wpAny (model prog w) A (pyNext (.ref z)) Q E s:=by
 have hT:s.TypeIs (.ref z) "zip":=by cases zz with |none b e=>exact ⟨_,e,rfl⟩ |held a t b e=>exact ⟨_,e,rfl⟩
 unfold pyNext
 exact wpAny_bind (wpAny_attempt (wpAny_callSpecial?_slot (name:=Str.ofString "__next__") hT F.slot_zip_next (wpAny_call_entry F.slot_zip_next hT F.entry_zip_next
  (Zax D1 D2 ap zz zi zo s1 s2 l1 l2 fun h' tk x y c1 c2 c3 c4 c5 c6 c7 c8=>wpAny_pure (hQ h' tk x y c1 c2 c3 c4 c5 c6 c7 c8)) (F.args_zip_next_1 _))))
theorem ZaA {Q:Option Value→Shared→Prop} (D1:Draws prog w A.in1 p f n1 P1 S1) (D2:Draws prog w A.in1 q g n2 P2 S2) (ap:Eu z TI TO p q f g)
 (zz:ZipN s.heap z TI TO) (zi:IsPair s.heap TI (.ref p) (.ref q)) (zo:IsPair s.heap TO a b) (s1:S1 k s.heap) (s2:S2 k s.heap) (hk:k=n1∨(k<n1∧k=n2))
 (hQ:∀h' tk,(∀c o,c≠z→c≠TO→c≠p→c≠q→s.heap.get? c=some o→h'.get? c=some o)→Q none {s with heap:=h',toks:=tk}):wpAny (model prog w) A (pyNext (.ref z)) Q E s:=by
 have hT:s.TypeIs (.ref z) "zip":=by cases zz with |none b e=>exact ⟨_,e,rfl⟩ |held a t b e=>exact ⟨_,e,rfl⟩
 unfold pyNext
 refine wpAny_bind (wpAny_attempt (wpAny_callSpecial?_slot (name:=Str.ofString "__next__") hT F.slot_zip_next (wpAny_call_entry F.slot_zip_next hT F.entry_zip_next
  (Zay D1 D2 ap zz zi zo s1 s2 hk fun h' tk e kp he=>?_) (F.args_zip_next_1 _))))
 obtain ⟨o,ho,hc⟩:=he
 refine wpAny_bind (wpAny_isInstance (T:="StopIteration") (b:=true) ⟨o,ho,hc⟩ isSubtype_stop ?_)
 exact wpAny_pure (hQ _ _ kp)
theorem ZipN.at {h h':Heap} (x:ZipN h z TI TO) (f:∀o,h.get? z=some o→h'.get? z=some o):ZipN h' z TI TO:=by
 cases x with
 |none b e=>exact .none b (f _ e)
 |held a t b e=>exact .held a t b (f _ e)
theorem ZipN.get {h:Heap} (x:ZipN h z TI TO):∃o,h.get? z=some o:=by
 cases x with
 |none b e=>exact ⟨_,e⟩
 |held a t b e=>exact ⟨_,e⟩
theorem ZaB {Q:Value→Shared→Prop} (x:ZipN s.heap z TI TO) (hQ:Q (.ref z) s):wpAny (model prog w) A (pyIter (.ref z)) Q E s:=by
 have hT:s.TypeIs (.ref z) "zip":=by cases x with |none b e=>exact ⟨_,e,rfl⟩ |held a t b e=>exact ⟨_,e,rfl⟩
 exact wpAny_pyIter_slot hT F.slot_zip_iter (wpAny_call_entry F.slot_zip_iter hT F.entry_zip_iter (wpAny_pure ⟨_,rfl,"zip",_,hT,F.slot_zip_next.lookup,hQ⟩) (F.args_zip_iter_1 _))
end
inductive Tf (k1 k2:Bool) (z TI TO p q t u:Addr) (i:Nat) (h:Heap):Prop where
 |mk (zz:ZipN h z TI TO) (zi:IsPair h TI (.ref p) (.ref q)) (zo:∃a b,IsPair h TO a b) (x1:ItAt k1 h p t i) (x2:ItAt k2 h q u i):Tf k1 k2 z TI TO p q t u i h
theorem ZaC {P:Program} {w:World} {K:PySem.W.Frag} {nm:Str} {tpos:Pos} (k1 k2:Bool) (z TI TO p q t u:Addr) (ap:Eu z TI TO p q [p,t] [q,u]) (n1:t≠p) (n2:u≠q):
 Ik P w K (.Name nm tpos) (Ly K k1 k2 t u) [z,TI,TO,p,q] z (Tf k1 k2 z TI TO p q t u) where
 mem:=by simp
 obj:=fun i h st c hc=>by
  obtain ⟨zz,zi,⟨a,b,zo⟩,x1,x2⟩:=st
  simp only [qa5,Cg,or_false] at hc
  rcases hc with rfl |rfl |rfl |rfl |rfl
  ·cases zz with
   |none b e=>exact ⟨_,e,fun v y=>by cases y⟩
   |held a t b e=>exact ⟨_,e,fun v y=>by cases y⟩
  ·exact ⟨_,zi,fun v y=>by cases y⟩
  ·exact ⟨_,zo,fun v y=>by cases y⟩
  ·exact x1.obj
  ·exact x2.obj
 keep:=fun i h h' st kp=>by
  obtain ⟨zz,zi,⟨a,b,zo⟩,x1,x2⟩:=st
  exact ⟨zz.at fun o e=>kp z (by simp) o e,kp TI (by simp) _ zi,⟨a,b,kp TO (by simp) _ zo⟩,x1.at fun o e=>kp p (by simp) o e,x2.at fun o e=>kp q (by simp) o e⟩
 item:=by
  intro X hP hw hK hc i pins s σ H E I hf st hg
  subst hP hw hK
  obtain ⟨zz,zi,⟨a,b,zo⟩,x1,x2⟩:=st
  obtain ⟨xs,ys,hq1,hq2,l1,l2⟩:=hg
  obtain ⟨it1,rv1,sq1,lt1⟩:=Ew I hq1
  obtain ⟨it2,rv2,sq2,lt2⟩:=Ew I hq2
  have e1:=rv1.length
  have e2:=rv2.length
  have hh:X.A.in1.handled=none:=I.ok.hd hc
  refine Zaz (Gr k1 hh p t n1 it1.toArray) (Gr k2 hh q u n2 it2.toArray) ap zz zi zo ⟨x1,sq1⟩ ⟨x2,sq2⟩ (by rw [A7];omega) (by rw [A7];omega) fun h1 tk x y px py zz1 zo1 Ku DA nw kp=>?_
  obtain ⟨a1,b1,zo1⟩:=zo1
  refine ⟨.ref s.heap.objs.size,rfl,(show wpAny _ _ (pure ()) _ _ _ from wpAny_pure ?_)⟩
  have hx:xs[i]?=some xs[i]:=Ba l1
  have hy:ys[i]?=some ys[i]:=Ba l2
  obtain ⟨u1,hu1,ru1⟩:=rv1.get hx
  obtain ⟨u2,hu2,ru2⟩:=rv2.get hy
  have hux:u1=x:=by
   have:it1[i]?=some x:=by simpa using px
   rw [hu1] at this
   exact Option.some.inj this
  have huy:u2=y:=by
   have:it2[i]?=some y:=by simpa using py
   rw [hu2] at this
   exact Option.some.inj this
  subst hux huy
  have hfr:H s.heap.objs.size=none:=I.hok.fresh (AG _)
  have kk:∀c o,c∉[z,TI,TO,p,q]→s.heap.get? c=some o→h1.get? c=some o:=fun c o hc e=>by
   simp only [qa5,Cg,or_false,not_or] at hc
   exact kp c o hc.1 hc.2.2.1 hc.2.2.2.1 hc.2.2.2.2 e
  have nal:∀c o,s.heap.get? c=some o→c≠s.heap.objs.size:=fun c o e=>Cs (AO e)
  have na:s.heap.objs.size≠z:=Ne.symm (let ⟨_,ez⟩:=zz.get;nal z _ ez)
  have hnew:h1.get? s.heap.objs.size=some {cls:=.type "tuple",data:=.seq #[u1,u2]}:=nw
  have ntr:∀c o,H c=some o→c∉[z,TI,TO,p,q]:=fun c o e hc=>by
   rw [(hf c hc).1] at e;cases e
  refine ⟨.ref s.heap.objs.size,Av H s.heap.objs.size (.tup [xs[i],ys[i]]),?_,rfl,⟨s.heap.objs.size,xs[i],ys[i],hfr,rfl,fun zs hz=>by rw [Lx I hz hq1];exact hx,fun zs hz=>by rw [Lx I hz hq2];exact hy,rfl⟩,
   ⟨zz1,kp TI _ ap.a1 ap.a5 ap.a6 ap.a7 zi,⟨a1,b1,zo1⟩,Ku.1,DA.1⟩,fun c hc=>?_⟩
  ·show Inv X pins σ _ {s with heap:=h1,gens:=s.gens,drawn:=s.drawn,toks:=tk}
   refine I.step (g':=s.gens) (d':=s.drawn) (t':=tk) (h':=h1) (ch:=[z,TI,TO,p,q]) (fun c hc=>?_) (fun c o _ _ hc e _=>kk c o hc e) (fun c o _ _ hc e _=>⟨o.slots,kk c o hc e⟩) (fun c o _ e n=>by rw [AF (nal c o e)];exact n)
    (fun c o hc e=>⟨o,kk c o hc e⟩) (fun c zs e=>by rw [AF (Cr e hfr)];exact e) (fun c o v e=>by rw [AF (Cr e hfr)];exact e) (fun c ps e=>⟨#[],by rw [AF (Cr e hfr),e];simp⟩) (fun m hm=>?_) (fun c o e=>?_) I.bare
   ·obtain ⟨_,c1,_,c3,c4,c5⟩:=hf c hc
    exact ⟨c3,c1,c4,c5⟩
   ·obtain ⟨o,es,ep,e,r⟩:=hm
    exact ⟨o,es,ep,kk _ o (fun hc=>(hf _ hc).2.1 rfl) e,r⟩
   ·by_cases hb:c=s.heap.objs.size
    ·subst hb
     rw [B9] at e
     cases e
     exact ⟨by simp only [GH,GK];rw [sizeLine_eq];decide,[u1,u2],.cons ru1 (.cons ru2 .nil),⟨_,hnew,rfl,0,rfl⟩,fun o e=>by rw [hnew] at e;cases e;rfl⟩
    ·rw [AF hb] at e
     refine (I.hok c o e).stay (fun d v hd e'=>kk d v ?_ e') (fun d e'=>by rw [AF (Cr e' hfr)];exact e') fun d zs e'=>by rw [AF (Cr e' hfr)];exact e'
     rcases hd with rfl |hd
     ·exact ntr d _ e
     ·exact ntr d _ hd
  ·have nc:c≠s.heap.objs.size:=by
    simp only [qa5,Cg,or_false] at hc
    rcases hc with rfl |rfl |rfl |rfl |rfl
    ·obtain ⟨_,ez⟩:=zz.get;exact nal _ _ ez
    ·exact nal _ _ zi
    ·exact nal _ _ zo
    ·obtain ⟨o,e,_⟩:=x1.obj;exact nal _ _ e
    ·obtain ⟨o,e,_⟩:=x2.obj;exact nal _ _ e
   rw [AF nc]
   exact (hf c hc).1
 done:=by
  intro X hP hw hK hc i pins s σ H E I hf st hg
  subst hP hw hK
  obtain ⟨zz,zi,⟨a,b,zo⟩,x1,x2⟩:=st
  obtain ⟨xs,ys,hq1,hq2,hl⟩:=hg
  obtain ⟨it1,rv1,sq1,lt1⟩:=Ew I hq1
  obtain ⟨it2,rv2,sq2,lt2⟩:=Ew I hq2
  have e1:=rv1.length
  have e2:=rv2.length
  have hh:X.A.in1.handled=none:=I.ok.hd hc
  refine ZaA (Gr k1 hh p t n1 it1.toArray) (Gr k2 hh q u n2 it2.toArray) ap zz zi zo ⟨x1,sq1⟩ ⟨x2,sq2⟩ (by simp only [A7];omega) fun h' tk kp=>⟨rfl,?_⟩
  have kk:∀c o,c∉[z,TI,TO,p,q]→s.heap.get? c=some o→h'.get? c=some o:=fun c o hc e=>by
   simp only [qa5,Cg,or_false,not_or] at hc
   exact kp c o hc.1 hc.2.2.1 hc.2.2.2.1 hc.2.2.2.2 e
  have ntr:∀c o,H c=some o→c∉[z,TI,TO,p,q]:=fun c o e hc=>by
   rw [(hf c hc).1] at e;cases e
  show Inv X pins σ _ {s with heap:=h',gens:=s.gens,drawn:=s.drawn,toks:=tk}
  refine I.step (g':=s.gens) (d':=s.drawn) (t':=tk) (h':=h') (ch:=[z,TI,TO,p,q]) (fun c hc=>?_) (fun c o _ _ hc e _=>kk c o hc e) (fun c o _ _ hc e _=>⟨o.slots,kk c o hc e⟩) (fun c o _ e n=>n)
   (fun c o hc e=>⟨o,kk c o hc e⟩) (fun c zs e=>e) (fun c o v e=>e) (fun c ps e=>⟨#[],by rw [e];simp⟩) (fun m hm=>?_) (fun c o e=>?_) I.bare
  ·obtain ⟨_,c1,_,c3,c4,c5⟩:=hf c hc
   exact ⟨c3,c1,c4,c5⟩
  ·obtain ⟨o,es,ep,e,r⟩:=hm
   exact ⟨o,es,ep,kk _ o (fun hc=>(hf _ hc).2.1 rfl) e,r⟩
  ·refine (I.hok c o e).stay (fun d v hd e'=>kk d v ?_ e') (fun d e'=>e') fun d zs e'=>e'
   rcases hd with rfl |hd
   ·exact ntr d _ e
   ·exact ntr d _ hd
 self:=fun A i s Q E st h=>by cases st with |mk zz zi zo x1 x2=>exact ZaB zz h
section
variable {X:Cx} {E:XK}
theorem ZaD {nm:Str} {tpos p pos:Pos} {a b:Expr} {ta:TA} (hg:Gl X "zip") (hm:X.mg "zip"=none) (ha:PA X [a,b] ta) (hs:starEach [a,b] X.env=[(false,eval a X.env),(false,eval b X.env)]:=by rfl) (hs2:starEach [b] X.env=[(false,eval b X.env)]:=by rfl):
 PI X (.Name nm tpos) (.Call (.Name "zip" p) [a,b] [] pos) (fun σ H R=>ta σ H fun vs H1=>∃k1 k2 t u xs ys,vs=[.ref t,.ref u]∧DK k1 X.K H1 t xs∧DK k2 X.K H1 u ys∧R (Ly X.K k1 k2 t u) H1):=by
 intro pins s σ H R I h
 refine Call_ (GN I hg hm PyProof.Rows.boot_zip (PyProof.Rows.callWith_type1 (AA (ha pos pins s σ H _ I h) fun us s1 ⟨vs,H1,I1,r1,q1⟩=>?_) (by rw [hs,hs2]) (by rw [hs2];rfl)))
 obtain ⟨k1,k2,t,u,xs,ys,e,hq1,hq2,q⟩:=q1
 subst e
 cases r1 with
 |cons r rr=>
  cases rr with
  |cons r' rr=>
   cases rr
   cases r
   cases r'
   obtain ⟨it1,rv1,sq1,lt1⟩:=Ew I1 hq1
   obtain ⟨it2,rv2,sq2,lt2⟩:=Ew I1 hq2
   refine RB sq1 sq2 fun h' zz zi zo x1 x2 kp=>wpAny_pyIter_zip (s:={s1 with heap:=h'}) zz ?_
   have I2:Inv X pins σ H1 {s1 with heap:=h'}:=I1.kept (t':=s1.toks) kp
   have fr:∀c,s1.heap.objs.size≤c→EK X pins H1 c:=fun c hc=>I1.fpOk hc (I1.hok.fresh hc)
   have m0:s1.heap.objs.size≠s1.heap.objs.size+4:=By (by omega)
   have ap:Eu (s1.heap.objs.size+4) (s1.heap.objs.size+2) (s1.heap.objs.size+3) s1.heap.objs.size (s1.heap.objs.size+1) [s1.heap.objs.size,t] [s1.heap.objs.size+1,u]:=by
    generalize s1.heap.objs.size=n at lt1 lt2
    exact ⟨By (by omega),By (by omega),By (by omega),By (by omega),By (by omega),Bj (by omega),Bj (by omega),Bj (by omega),Bj (by omega),By (by omega),
     fun z=>by simp only [qa5,Cg,or_false] at z;rcases z with z |z;exact absurd z (Bj (by omega));exact absurd z (Bj (A1 lt1 (CQ _ _))),
     fun z=>by simp only [qa5,Cg,or_false] at z;rcases z with z |z;exact absurd z (Bj (by omega));exact absurd z (Bj (A1 lt2 (CQ _ _))),
     fun z=>by simp only [qa5,Cg,or_false] at z;rcases z with z |z;exact absurd z (Bj (by omega));exact absurd z (Bj (A1 lt1 (CQ _ _))),
     fun z=>by simp only [qa5,Cg,or_false] at z;rcases z with z |z;exact absurd z (Bj (by omega));exact absurd z (Bj (A1 lt2 (CQ _ _))),
     fun z=>by simp only [qa5,Cg,or_false] at z;rcases z with z |z;exact absurd z (By (by omega));exact absurd z (Bj lt2),
     fun z=>by simp only [qa5,Cg,or_false] at z;rcases z with z |z;exact absurd z (Bj (by omega));exact absurd z (Bj (A1 lt1 (CQ _ _)))⟩
   refine ⟨s1.heap.objs.size+4,[s1.heap.objs.size+4,s1.heap.objs.size+2,s1.heap.objs.size+3,s1.heap.objs.size,s1.heap.objs.size+1],_,_,H1,rfl,I2,ZaC k1 k2 _ _ _ _ _ t u ap (Cs lt1) (Cs (Jo lt2)),⟨.none _ zz,zi,⟨_,_,zo⟩,x1,x2⟩,fun c hc=>?_,q⟩
   simp only [qa5,Cg,or_false] at hc
   rcases hc with rfl |rfl |rfl |rfl |rfl
   ·exact fr _ (CQ _ _)
   ·exact fr _ (CQ _ _)
   ·exact fr _ (CQ _ _)
   ·exact fr _ (AG _)
   ·exact fr _ (CQ _ _)
theorem ZaE {nm:Str} {tpos p pos:Pos} {a b:Expr} {fa:MA} (hg:Gl X "zip") (hm:X.mg "zip"=none) (ha:Dj X E [a,b] fa) (hs:starEach [a,b] X.env=[(false,eval a X.env),(false,eval b X.env)]:=by rfl) (hs2:starEach [b] X.env=[(false,eval b X.env)]:=by rfl):
 Gk X E (.Name nm tpos) (.Call (.Name "zip" p) [a,b] [] pos) (Hd fa):=
 JN (ZaD hg hm ha hs hs2) fun σ H R ⟨m,ρ,h,hr,er,p⟩=>⟨m,ρ,h,hr,er,Post.bind p fun x h1 v m1 H1 eo p1 k1 hr1 r1 q1=>by
  clear eo
  unfold Hc at q1
  split at q1
  ·rename_i d1 d2
   split at q1
   ·rename_i xs s1 ys s2 e1 e2
    simp only [Fg,DVs] at r1
    obtain ⟨v1,w1,rfl,rv1,v2,w2,rfl,rv2,rfl⟩:=r1
    obtain ⟨kd1,t,rfl,f1⟩:=Lz hr1 rv1 e1
    obtain ⟨kd2,u,rfl,f2⟩:=Lz hr1 rv2 e2
    obtain ⟨vs1,sq1,_⟩:=f1 m1 h1 H1 (AC _) (.refl _) hr1 (LA e1)
    obtain ⟨vs2,sq2,_⟩:=f2 m1 h1 H1 (AC _) (.refl _) hr1 (LA e2)
    refine ⟨kd1,kd2,t,u,vs1,vs2,rfl,sq1,sq2,q1 _ m1 H1 (AC _) (.refl _) hr1 fun i m2 h2 H2 p2 k2 hr2 hsr=>?_⟩
    obtain ⟨ws1,sw1,dw1⟩:=f1 m2 h2 H2 p2 k2 hr2 fun p hp=>hsr p (CG _ hp)
    obtain ⟨ws2,sw2,dw2⟩:=f2 m2 h2 H2 p2 k2 hr2 fun p hp=>hsr p (BI _ hp)
    have n1:=dw1.len
    have n2:=dw2.len
    have nl:(Dy xs ys).length=min xs.length ys.length:=by simp [Dy]
    refine ⟨fun hi=>?_,fun hi=>⟨ws1,ws2,sw1,sw2,by dsimp only at hi;omega⟩⟩
    dsimp only at hi
    have i1:i<xs.length:=by omega
    have i2:i<ys.length:=by omega
    refine ⟨⟨ws1,ws2,sw1,sw2,by omega,by omega⟩,fun y H3 z3_=>?_⟩
    obtain ⟨pp,vv,vv',hp,ey,ev,ev',eH⟩:=z3_
    subst ey eH
    have g1:xs[i]?=some xs[i]:=Ba i1
    have g2:ys[i]?=some ys[i]:=Ba i2
    obtain ⟨c1,z1,r1'⟩:=dw1.get g1
    obtain ⟨c2,z2,r2'⟩:=dw2.get g2
    rw [ev ws1 sw1] at z1
    rw [ev' ws2 sw2] at z2
    cases z1
    cases z2
    refine ⟨.new hp,hr2.new hp,.tup [xs[i],ys[i]],?_,?_⟩
    ·simp [Dy,List.getElem?_zipWith,g1,g2]
    ·simp only [DV]
     exact ⟨pp,_,rfl,B9,.cons (DV.keep (AC _) (.new hp) r1') (.cons (DV.keep (AC _) (.new hp) r2') .nil)⟩
   ·exact q1.elim
  ·exact q1.elim⟩
end
section
variable {X:Cx} {E:XK}
inductive Tg (vs:List V) (H:Hp) (Q:VK):Prop where
 |mk (r:Addr) (n:Nat) (e:vs=[.ref r]) (hr:H r=some (.ext (Ja r n))) (hn:n≤1000) (q:∀p,H p=none→Q (.ref p) (Av H p (.lst ((List.range n).map fun i=>V.int ((i:Nat):Int))))):Tg vs H Q
theorem ZaF (hc:X.calm=true):DD X (.type "list") Tg:=by
 intro pins s σ H vs us Q I r h
 obtain ⟨a,n,rfl,hr,hn,q⟩:=h
 obtain ⟨u,rfl,ru⟩:=Vals.one r
 cases (show u=Value.ref a from ru)
 obtain ⟨⟨t,u,v,ho⟩,_⟩:=(show ObjOk X.prog X.w H s.heap a (.ext (Ja a n)) from I.hok a _ hr)
 have hf:H s.heap.objs.size=none:=I.hok.fresh (AG _)
 refine call_list_range (n:=n) (I.ok.hd hc) ho (small_one (by omega) (by omega) (by omega) (by omega)) ?_ (by omega) fun h' tk acc c' hk hS hacc=>?_
 ·unfold Builtin.Range.rangeSize
  rw [if_pos (by decide)]
  by_cases h0:(0:Int)<(n:Int)
  ·rw [if_pos h0,Int.ediv_one];omega
  ·rw [if_neg h0];omega
 have hv:Vals ((List.range n).map fun i=>V.int ((i:Nat):Int)) acc.toList:=by
  rw [List.range_eq_range']
  refine R9 n 0 acc.toList (by rw [Array.length_toList];exact hacc.1) fun j v e=>?_
  obtain ⟨t,e'⟩:=hacc.2 j v (by simpa using e)
  exact ⟨t,by rw [e'];congr 1;simp⟩
 refine ⟨.ref s.heap.objs.size,Av H s.heap.objs.size (.lst ((List.range n).map fun i=>V.int ((i:Nat):Int))),I.laid (t':=tk) hk (AG _) ?_,rfl,q _ hf⟩
 exact ⟨by simp;rw [sizeLine_eq];omega,acc.toList,c',hv,by simpa using hS⟩
noncomputable def Me:D→HD→Out D:=fun d h=>match d with
 |.int i=>@ite _ (0≤i∧i≤1000) (Classical.propDecidable _) (CH ((List.range i.toNat).map fun k=>D.int ((k:Nat):Int)) h) .stuck
 |_=>.stuck
noncomputable def Mf (f:ME):ME:=fun ρ h=>(f ρ h).bind Me
theorem ZaG {e:Expr} {f:ME} {p q pos pos':Pos} (hc:X.calm=true) (hg1:Gl X "list") (hm1:X.mg "list"=none) (hg2:Gl X "range") (hm2:X.mg "range"=none) (hv1:bootBuiltins "list"=some (.type "list")) (he:Ev X E e f)
 (h1:starEach [e] X.env=(false,eval e X.env)::starEach [] X.env:=by rfl) (h2:(backTo pos' (starEach [] X.env)).any (·.1)=false:=by rfl)
 (h3:starEach [.Call (.Name "range" q) [e] [] pos'] X.env=(false,eval (.Call (.Name "range" q) [e] [] pos') X.env)::starEach [] X.env:=by rfl) (h4:(backTo pos (starEach [] X.env)).any (·.1)=false:=by rfl):
 Ev X E (.Call (.Name "list" p) [.Call (.Name "range" q) [e] [] pos'] [] pos) (Mf f):=by
 refine Ca (Ng (ZaF hc) hg1 hm1 hv1 (Nb (Ng ZA hg2 hm2 boot_range (Nb he Na h1) (by decide) (by decide) h1 h2) Na h3) (by decide) (by decide) h3 h4) fun σ H Q z=>?_
 obtain ⟨m,ρ,h,hr,er,pp⟩:=z
 refine ⟨m,ρ,h,hr,er,Post.bind pp fun d h1 v m1 H1 eo p1 k1 hr1 r1 q1=>?_⟩
 unfold Me at q1
 split at q1
 ·rename_i i
  split at q1
  ·rename_i hi
   simp only [rD,DV] at r1
   obtain ⟨n,rfl⟩:∃n:Nat,i=(n:Int):=⟨i.toNat,by omega⟩
   subst r1
   refine ⟨n,rfl,by omega,fun a ha=>⟨a,n,rfl,B9,by omega,?_⟩⟩
   exact (Iz (X:=X) (E:=E) (H:=Av H1 a (.ext (Ja a n))) (hr1.new ha) (Sb (List.range n)) (Post.ahead (AC _) (.new ha) (by simpa using q1))).2
  ·exact q1.elim
 ·exact q1.elim
theorem ZaH {f:ME} {ρ:Ai} {h:HD} {Q:D→HD→Prop}:Wp (Mf f ρ h) Q=Wp (f ρ h) fun d h1=>Wp (Me d h1) Q:=by unfold Mf;rw [AE]
theorem ZaI {n:Nat} {h:HD} (hn:n≤1000):Me (.int (n:Int)) h=CH ((List.range n).map fun k=>D.int ((k:Nat):Int)) h:=by
 show @ite _ (0≤(n:Int)∧(n:Int)≤1000) (Classical.propDecidable _) (CH ((List.range (n:Int).toNat).map fun k=>D.int ((k:Nat):Int)) h) Out.stuck=_
 rw [if_pos ⟨by omega,by omega⟩]
 simp
end
end LS
set_option maxHeartbeats 0
namespace LK
open PySem PySem.Spec PyProof.Rows L2 LS
def BM (i:Nat):Stmt:=PySem.Challenge.pw_lineswitch_k72_nets_alike.main.body.getD i (.Pass ⟨0,0,0,0⟩)
structure Bl (mg:Str→Option Value):Prop where
 n_ValueError:mg "ValueError"=none
 n_all:mg "all"=none
 n_bool:mg "bool"=none
 n_divmod:mg "divmod"=none
 n_int:mg "int"=none
 n_isinstance:mg "isinstance"=none
 n_len:mg "len"=none
 n_list:mg "list"=none
 n_max:mg "max"=none
 n_min:mg "min"=none
 n_range:mg "range"=none
 n_repr:mg "repr"=none
 n_sum:mg "sum"=none
 n_tuple:mg "tuple"=none
 n_zip:mg "zip"=none
theorem ZaJ:bootBuiltins "ValueError"=some (.type "ValueError"):=by decide +kernel
theorem Th:bootBuiltins "all"=some (.builtin "all"):=by decide +kernel
theorem ZaK:bootBuiltins "bool"=some (.type "bool"):=by decide +kernel
theorem ZaL:bootBuiltins "divmod"=some (.builtin "divmod"):=by decide +kernel
theorem Mg:bootBuiltins "int"=some (.type "int"):=by decide +kernel
theorem Dg:bootBuiltins "isinstance"=some (.builtin "isinstance"):=by decide +kernel
theorem FW:bootBuiltins "len"=some (.builtin "len"):=by decide +kernel
theorem OJ:bootBuiltins "list"=some (.type "list"):=by decide +kernel
theorem ZaM:bootBuiltins "max"=some (.builtin "max"):=by decide +kernel
theorem Ti:bootBuiltins "min"=some (.builtin "min"):=by decide +kernel
theorem Mh:bootBuiltins "repr"=some (.builtin "repr"):=by decide +kernel
theorem ZaN:bootBuiltins "sum"=some (.builtin "sum"):=by decide +kernel
theorem ED:bootBuiltins "tuple"=some (.type "tuple"):=by decide +kernel
abbrev Ka:Stmt:=BM 36
theorem Tj:RY Ka:=⟨⟨rfl,rfl,rfl,by decide +kernel,rfl,by decide +kernel,by decide +kernel⟩,rfl,rfl,rfl,rfl,rfl,⟨_,_,_,_,_,_,_,_,_,_,_,_,_,_,_,_,_,rfl⟩⟩
abbrev Hj:Stmt:=BM 13
theorem ZaO:Bo ["thing"] ["thing"] (defScope Hj):=⟨rfl,rfl,rfl,by decide +kernel,rfl,by decide +kernel,by decide +kernel⟩
noncomputable abbrev OK:MS:=AN (Iw (Ah (BB AX) (Aa (Ab 0) (Aa (mC (.ty "int")) (Ae)))) (K5 (Ah (BB AX) (Aa (Ab 0) (Aa (mC (.ty "bool")) (Ae))))))
abbrev Hk:Stmt:=BM 23
theorem sc_lights_of:Bo ["ties","lights","a","b","light"] ["ties"] (defScope Hk):=⟨rfl,rfl,rfl,by decide +kernel,rfl,by decide +kernel,by decide +kernel⟩
noncomputable abbrev OL:MS:=Ak (Ay 1 (Mb)) (Ak (Cb (B1 (Ab 0)) (Ez [2,3,4]) (Ak (J7 (Ab 1) (Aw (Aa (Ab 2) (Aa (Ab 3) (Ae)))) (Ab 4)) (J7 (Ab 1) (Aw (Aa (Ab 3) (Aa (Ab 2) (Ae)))) (Ab 4)))) (AN (Ab 1)))
abbrev Hl:Stmt:=BM 24
theorem sc_paths_of:Bo ["many","lights","paths","least","waiting","path","end"] ["many","lights"] (defScope Hl):=⟨rfl,rfl,rfl,by decide +kernel,rfl,by decide +kernel,by decide +kernel⟩
noncomputable abbrev OM:MS:=Ak (Ay 2 (Mb)) (Ak (Cb (CJ (Aa (Ab 0) (Ae))) (Bq 3) (Ak (Ay 4 (BG (Aa (Aw (Aa (Ab 3) (Ae))) (Ae)))) (LC (CW (Ab 4)) (Ak (Ay 5 (J9 (Ab 4))) (Ak (Ay 6 (Af As (Ab 5) (JR (mC (.int 1))))) (Bg (AW (Af (Eb true) (Ab 6) (Ab 2))) (Ak (Mc (Ab 2) (Ab 6) (Ab 5)) (DZ (J3 (Ab 4) (A5 [none,some 5,some 6,some 1] (CJ (Aa (Ab 0) (Ae))) (Bq 0) (AW (Af (Eb false) (Aw (Aa (Ab 2) (Aa (Ab 0) (Ae)))) (Ab 3))) (Af Ax (Ab 1) (Aw (Aa (Ab 0) (Ae)))))))) (Bp))))))) (AN (Ab 2)))
abbrev Hm:Stmt:=BM 25
theorem ZaP:Bo ["lights","path"] ["lights","path"] (defScope Hm):=⟨rfl,rfl,rfl,by decide +kernel,rfl,by decide +kernel,by decide +kernel⟩
noncomputable abbrev ON:MS:=AN (Ah (AB IF) (Aa (A5 [none,some 0] (Hd (Aa (Ab 1) (Aa (Be (Ab 1) (Bd (mC (.int 1))) (Bh)) (Ae)))) (Bq 0) (BX) (Af EB (Ab 1) (Ab 0))) (Ae)))
abbrev Hn:Stmt:=BM 26
theorem ZaQ:Bo ["net"] ["net"] (defScope Hn):=⟨rfl,rfl,rfl,by decide +kernel,rfl,by decide +kernel,by decide +kernel⟩
noncomputable abbrev OO:MS:=AN (A5 [none] (B1 (Af As (Ab 0) (mC (.int 1)))) (Bq 0) (BX) (Be (Ab 0) (Bh) (Bd (mC (.int 2)))))
abbrev Ho:Stmt:=BM 30
theorem ZaR:Bo ["_law_script","_law_k"] ["_law_script","_law_k"] (defScope Ho):=⟨rfl,rfl,rfl,by decide +kernel,rfl,by decide +kernel,by decide +kernel⟩
noncomputable abbrev Mi:MS:=Ak (Bg (AW (Af IA (Ab 1) (Ah (AB CB) (Aa (Ab 0) (Ae))))) (AN (Af As (Ab 0) (Ab 1))) (Bp)) (AN (Af Ax (Af Ey (mC (.int 6151)) (Ab 1)) (mC (.int 29))))
abbrev Hq:Stmt:=BM 31
theorem sc__law_mix:Bo ["_law_cell_here","_law_k","_law_number"] ["_law_cell_here","_law_k"] (defScope Hq):=⟨rfl,rfl,rfl,by decide +kernel,rfl,by decide +kernel,by decide +kernel⟩
noncomputable abbrev OP:MS:=Ak (Ay 2 (Af Ax (Af Ey (Af Ax (Ab 0) (mC (.int 1))) (mC (.int 40692))) (Af Ey (mC (.int 104729)) (Ab 1)))) (Ak (Ay 2 (Af Ax (Af CI (Af Ey (Ab 2) (Ab 2)) (mC (.int 2147483399))) (Ab 1))) (AN (Af CI (Af Ey (Ab 2) (Af Ax (Ab 2) (mC (.int 31)))) (mC (.int 2147483563)))))
abbrev Hr:Stmt:=BM 33
theorem sc__law_take:Bo ["_law_box_here","_law_many","_law_left","_law_digit"] ["_law_box_here","_law_many"] (defScope Hr):=⟨rfl,rfl,rfl,by decide +kernel,rfl,by decide +kernel,by decide +kernel⟩
noncomputable abbrev OQ:MS:=Ak (FR (Dw 2 3) (Ah (BB JK) (Aa (Af As (Ab 0) (mC (.int 0))) (Aa (Ab 1) (Ae))))) (Ak (IJ (Ab 0) (mC (.int 0)) (Ab 2)) (AN (Ab 3)))
abbrev Hs:Stmt:=BM 35
theorem sc__law_kind:Bo ["_law_e","_law_kinds","_law_words"] ["_law_e"] (defScope Hs):=⟨rfl,rfl,rfl,by decide +kernel,rfl,by decide +kernel,by decide +kernel⟩
noncomputable abbrev OR:MS:=Ak (Ay 1 (BG (Aa (Ah (BB AX) (Aa (Ab 0) (Aa (mC (.glo "NoBoard")) (Ae)))) (Aa (Ah (BB AX) (Aa (Ab 0) (Aa (mC (.glo "NoLine")) (Ae)))) (Aa (Ah (BB AX) (Aa (Ab 0) (Aa (mC (.glo "NoSwitching")) (Ae)))) (Aa (Ah (BB AX) (Aa (Ab 0) (Aa (mC (.glo "NoNumber")) (Ae)))) (Ae))))))) (Ak (Ay 1 (Af Ax (Ab 1) (BG (Aa (Ah (BB AX) (Aa (Ab 0) (Aa (mC (.glo "Unlike")) (Ae)))) (Aa (Ah (BB AX) (Aa (Ab 0) (Aa (mC (.glo "NoNet")) (Ae)))) (Aa (Ah (BB AX) (Aa (Ab 0) (Aa (mC (.glo "NoPlace")) (Ae)))) (Aa (Ah (BB AX) (Aa (Ab 0) (Aa (mC (.glo "NoText")) (Ae)))) (Ae)))))))) (Ak (Ay 1 (Af Ax (Ab 1) (BG (Aa (Ah (BB AX) (Aa (Ab 0) (Aa (mC (.glo "NoRow")) (Ae)))) (Aa (Ah (BB AX) (Aa (Ab 0) (Aa (mC (.glo "TooMany")) (Ae)))) (Ae)))))) (Ak (Bg (Dk (Dl (CW (Ah (BB AX) (Aa (Ab 0) (Aa (mC (.ty "ValueError")) (Ae)))))) (AW (Af BU (IW Cj He (Ab 1) (mC (.bl true))) (mC (.int 1))))) (AN (mC (.str "! other"))) (Bp)) (Ak (Bg (CW (Af As (Ab 1) (mC (.int 9)))) Qz Bp) (Ak (Ay 2 (BG (Aa (mC (.str "board")) (Aa (mC (.str "line")) (Aa (mC (.str "switching")) (Aa (mC (.str "number")) (Aa (mC (.str "unlike")) (Aa (mC (.str "net")) (Aa (mC (.str "place")) (Aa (mC (.str "text")) (Aa (mC (.str "row")) (Ae)))))))))))) (AN (Af Ax (mC (.str "! ")) (Af As (Ab 2) (IW Cj Hf (Ab 1) (mC (.bl true)))))))))))
abbrev Ht:Stmt:=BM 38
theorem sc__law_lots:Bo ["_law_size","_law_found","_law_number"] ["_law_size"] (defScope Ht):=⟨rfl,rfl,rfl,by decide +kernel,rfl,by decide +kernel,by decide +kernel⟩
noncomputable abbrev OT:MS:=Ak (Ay 1 (BG (Aa (Aw (Ae)) (Ae)))) (Ak (Cb (CJ (Aa (Ab 0) (Ae))) (Bq 2) (Ay 1 (Af Ax (Ab 1) (A5 [none,some 2] (B1 (Ab 1)) (Bq 0) (BX) (Af Ax (Ab 0) (Aw (Aa (Ab 1) (Ae)))))))) (AN (Ab 1)))
abbrev Hu:Stmt:=BM 41
theorem sc__law_net_switched:Bo ["_law_net_here","_law_lot_here","_law_ties","_law_a","_law_b","_law_light"] ["_law_net_here","_law_lot_here"] (defScope Hu):=⟨rfl,rfl,rfl,by decide +kernel,rfl,by decide +kernel,by decide +kernel⟩
noncomputable abbrev OU:MS:=Ak (Ay 2 (BG (Ae))) (Ak (Cb (B1 (Af As (Ab 0) (mC (.int 1)))) (Ez [3,4,5]) (DZ (G4 (Ab 2) (Aw (Aa (Ab 3) (Aa (Ab 4) (Aa (Af CI (Af Ax (Af Ax (Ab 5) (Ah (AB Gi) (Aa (Af (DH false) (Ab 3) (Ab 1)) (Ae)))) (Ah (AB Gi) (Aa (Af (DH false) (Ab 4) (Ab 1)) (Ae)))) (mC (.int 2))) (Ae)))))))) (AN (Aw (Aa (Af As (Ab 0) (mC (.int 0))) (Aa (Ah (AB Ci) (Aa (Ab 2) (Ae))) (Ae))))))
abbrev Hv:Stmt:=BM 42
theorem sc__law_firsts:Bo ["_law_net_here","_law_marks","_law_turn","_law_a","_law_b","_law_light"] ["_law_net_here"] (defScope Hv):=⟨rfl,rfl,rfl,by decide +kernel,rfl,by decide +kernel,by decide +kernel⟩
noncomputable abbrev OV:MS:=Ak (Ay 1 (Mf (Af As (Ab 0) (mC (.int 0))))) (Ak (Cb (CJ (Aa (Af As (Ab 0) (mC (.int 0))) (Ae))) (Bq 2) (Cb (B1 (Af As (Ab 0) (mC (.int 1)))) (Ez [3,4,5]) (Ak (IJ (Ab 1) (Ab 3) (Ah (BB GV) (Aa (Af As (Ab 1) (Ab 3)) (Aa (Af As (Ab 1) (Ab 4)) (Ae))))) (IJ (Ab 1) (Ab 4) (Af As (Ab 1) (Ab 3)))))) (AN (A5 [none,some 1] (CJ (Aa (Af As (Ab 0) (mC (.int 0))) (Ae))) (Bq 0) (AW (Af Ct (Af As (Ab 1) (Ab 0)) (Ab 0))) (Ab 0))))
abbrev Hw:Stmt:=BM 14
theorem ZaS:Bo ["thing","least","most"] ["thing","least","most"] (defScope Hw):=⟨rfl,rfl,rfl,by decide +kernel,rfl,by decide +kernel,by decide +kernel⟩
noncomputable abbrev Mj (Co:List D→HD→Out D):MS:=AN (Iw (Ah Co (Aa (Ab 0) (Ae))) (FN JH JH (Ab 1) (Ab 0) (Ab 2)))
abbrev Hx:Stmt:=BM 16
theorem sc_is_lot:Bo ["thing","size","last","number"] ["thing","size"] (defScope Hx):=⟨rfl,rfl,rfl,by decide +kernel,rfl,by decide +kernel,by decide +kernel⟩
noncomputable abbrev OW (Co:List D→HD→Out D):MS:=Ak (Bg (Dl (CW (Ah (BB AX) (Aa (Ab 0) (Aa (mC (.ty "tuple")) (Ae)))))) (AN (mC (.bl false))) (Bp)) (Ak (Ay 2 (JR (mC (.int 1)))) (Ak (Cb (B1 (Ab 0)) (Bq 3) (Ak (Bg (Dk (Dl (CW (Ah Co (Aa (Ab 3) (Ae))))) (Dl (AW (FN IA IA (Ab 2) (Ab 3) (Ab 1))))) (AN (mC (.bl false))) (Bp)) (Ay 2 (Ab 3)))) (AN (mC (.bl true)))))
abbrev Hz:Stmt:=BM 32
theorem sc__law_box:Bo ["_law_script","_law_k","_law_here","_law_number","_law_j"] ["_law_script","_law_k"] (defScope Hz):=⟨rfl,rfl,rfl,by decide +kernel,rfl,by decide +kernel,by decide +kernel⟩
noncomputable abbrev OX (Fu:List D→HD→Out D) (Fv:List D→HD→Out D):MS:=Ak (Ay 2 (Ah Fu (Aa (Ab 0) (Aa (Ab 1) (Ae))))) (Ak (Bg (AW (Af Ct (Af CI (Ab 2) (mC (.int 2))) (mC (.int 0)))) (AN (BG (Aa (Af Ld (Ab 2) (mC (.int 2))) (Ae)))) (Bp)) (Ak (Ay 3 (mC (.int 0))) (Ak (Cb (CJ (Aa (mC (.int 24)) (Ae))) (Bq 4) (Ay 3 (Af Ax (Af Ey (Ab 3) (mC (.int 2147483647))) (Ah Fv (Aa (Ab 2) (Aa (Ab 4) (Ae))))))) (AN (BG (Aa (Ab 3) (Ae)))))))
abbrev HA:Stmt:=BM 34
theorem sc__law_wide_box:Bo ["_law_box_here","_law_number","_law_many","_law_j"] ["_law_box_here"] (defScope HA):=⟨rfl,rfl,rfl,by decide +kernel,rfl,by decide +kernel,by decide +kernel⟩
noncomputable abbrev OY (AL:List D→HD→Out D):MS:=Ak (GX 1 2 (Aa (Ah AL (Aa (Ab 0) (Aa (mC (.int 2147483647)) (Ae)))) (Aa (mC (.int 0)) (Ae)))) (Ak (Cb (CJ (Aa (mC (.int 24)) (Ae))) (Bq 3) (Ak (Ay 1 (Af CI (Af Ax (Af Ax (Af Ey (Ab 1) (mC (.int 48271))) (mC (.int 11))) (Ab 3)) (mC (.int 2147483647)))) (Ay 2 (Af Ax (Af Ey (Ab 2) (mC (.int 2147483647))) (Ab 1))))) (AN (BG (Aa (Ab 2) (Ae)))))
abbrev HB:Stmt:=BM 37
theorem ZaT:Bo ["_law_box_here","_law_size"] ["_law_box_here","_law_size"] (defScope HB):=⟨rfl,rfl,rfl,by decide +kernel,rfl,by decide +kernel,by decide +kernel⟩
noncomputable abbrev OZ (AL:List D→HD→Out D):MS:=AN (Ah (AB Ci) (Aa (A5 [none,some 0] (CJ (Aa (Ab 1) (Ae))) (Bq 0) (AW (Af Ct (Ah AL (Aa (Ab 1) (Aa (mC (.int 2)) (Ae)))) (mC (.int 1)))) (Ab 0)) (Ae)))
abbrev HC:Stmt:=BM 40
theorem sc__law_no_net:Bo ["_law_box_here","_law_net_here","_law_many","_law_ties","_law_at","_law_spot","_law_odd","_law_tie","_law_bent","_law_some"] ["_law_box_here","_law_net_here"] (defScope HC):=⟨rfl,rfl,rfl,by decide +kernel,rfl,by decide +kernel,by decide +kernel⟩
noncomputable abbrev O0 (AL:List D→HD→Out D):MS:=Ak (FR (Dw 2 3) (Ab 1)) (Ak (FR (Ez [4,5]) (Aw (Aa (Ah AL (Aa (Ab 0) (Aa (Af Ax (Ah (AB CB) (Aa (Ab 3) (Ae))) (mC (.int 1))) (Ae)))) (Aa (Ah AL (Aa (Ab 0) (Aa (mC (.int 3)) (Ae)))) (Ae))))) (Ak (Ay 6 (Af As (BG (Aa (Ab 2) (Aa (JR (mC (.int 1))) (Aa (mC (.bl true)) (Aa (mC (.bl false)) (Aa (mC .non) (Aa (mC (.str "0")) (Aa (Aw (Aa (mC (.int 0)) (Ae))) (Aa (Af K9 (mC (.int 10)) (mC (.int 29))) (Aa (mC (.int 2)) (Aa (BG (Aa (mC (.int 0)) (Ae))) (Aa (mC .edic) (Ae))))))))))))) (Ah AL (Aa (Ab 0) (Aa (mC (.int 11)) (Ae)))))) (Ak (Ay 7 (Af As (Af Ax (Ab 3) (Aw (Aa (Aw (Aa (mC (.int 0)) (Aa (mC (.int 1)) (Aa (mC (.int 1)) (Ae))))) (Ae)))) (Ab 4))) (Ak (Ay 8 (Af Ax (Af Ax (Be (Ab 7) (Bh) (Bd (Ab 5))) (Aw (Aa (Ab 6) (Ae)))) (Be (Ab 7) (Bd (Af Ax (Ab 5) (mC (.int 1)))) (Bh)))) (Ak (Ay 9 (BG (Aa (Ab 8) (Aa (Ab 8) (Aa (Ab 8) (Aa (Be (Ab 7) (Bh) (Bd (mC (.int 2)))) (Aa (Af Ax (Ab 7) (Aw (Aa (mC (.int 0)) (Ae)))) (Aa (Ah (AB Hg) (Aa (Ab 7) (Ae))) (Aa (mC .non) (Aa (Aw (Aa (Af As (Ab 7) (mC (.int 1))) (Aa (Af As (Ab 7) (mC (.int 0))) (Aa (Af As (Ab 7) (mC (.int 2))) (Ae))))) (Aa (Aw (Aa (Af As (Ab 7) (mC (.int 0))) (Aa (Af As (Ab 7) (mC (.int 0))) (Aa (mC (.int 0)) (Ae))))) (Aa (Aw (Ae)) (Ae))))))))))))) (Ak (Ay 9 (A5 [none,some 2,some 3,some 4] (B1 (Ab 9)) (Bq 0) (BX) (Aw (Aa (Ab 1) (Aa (Af Ax (Af Ax (Be (Ab 2) (Bh) (Bd (Ab 3))) (Aw (Aa (Ab 0) (Ae)))) (Be (Ab 2) (Bd (Af Ax (Ab 3) (mC (.int 1)))) (Bh))) (Ae)))))) (Ak (Ay 9 (Af Ax (Ab 9) (BG (Aa (Aw (Aa (Ab 2) (Aa (Ah (AB Hg) (Aa (Ab 3) (Ae))) (Ae)))) (Aa (BG (Aa (Ab 2) (Aa (Ab 3) (Ae)))) (Aa (Aw (Aa (mC (.int 9)) (Aa (Ab 3) (Ae)))) (Aa (Aw (Aa (mC (.int 0)) (Aa (Aw (Ae)) (Ae)))) (Aa (Aw (Aa (mC (.bl true)) (Aa (Aw (Ae)) (Ae)))) (Aa (Aw (Aa (Ab 2) (Ae))) (Aa (Aw (Aa (Ab 2) (Aa (Ab 3) (Aa (Aw (Ae)) (Ae))))) (Ae))))))))))) (Ak (Ay 9 (Af Ax (Ab 9) (BG (Aa (mC .non) (Aa (mC (.int 1)) (Aa (mC .edic) (Aa (Ab 3) (Aa (Aw (Aa (Ab 2) (Aa (JY (Ab 3)) (Ae)))) (Aa (Aw (Aa (Ab 2) (Aa (Af Ax (Af Ax (Be (Ab 3) (Bh) (Bd (Ab 4))) (Be (Ab 3) (Bh) (Bd (mC (.int 1))))) (Be (Ab 3) (Bd (Ab 4)) (Bh))) (Ae)))) (Ae)))))))))) (AN (Af As (Ab 9) (Ah AL (Aa (Ab 0) (Aa (Ah (AB CB) (Aa (Ab 9) (Ae))) (Ae))))))))))))))
abbrev HE:Stmt:=BM 43
theorem sc__law_due:Bo ["_law_one","_law_other","_law_firsts_here","_law_free","_law_picked","_law_lot_here"] ["_law_one","_law_other"] (defScope HE):=⟨rfl,rfl,rfl,by decide +kernel,rfl,by decide +kernel,by decide +kernel⟩
noncomputable abbrev Mk (E5:List D→HD→Out D) (E4:List D→HD→Out D) (CD:List D→HD→Out D):MS:=Ak (Bg (Dk (AW (Af BU (Af As (Ab 0) (mC (.int 0))) (Af As (Ab 1) (mC (.int 0))))) (AW (Af BU (A5 [none] (B1 (Af As (Ab 0) (mC (.int 1)))) (Bq 0) (BX) (Be (Ab 0) (Bh) (Bd (mC (.int 2))))) (A5 [none] (B1 (Af As (Ab 1) (mC (.int 1)))) (Bq 0) (BX) (Be (Ab 0) (Bh) (Bd (mC (.int 2)))))))) (AN (mC .non)) (Bp)) (Ak (Ay 2 (Ah E5 (Aa (Ab 0) (Ae)))) (Ak (Ay 3 (A5 [none,some 2] (CJ (Aa (Af As (Ab 0) (mC (.int 0))) (Ae))) (Bq 0) (AW (Af (DH true) (Ab 0) (Ab 1))) (Ab 0))) (Ak (Cb (B1 (Ah E4 (Aa (Ah (AB CB) (Aa (Ab 3) (Ae))) (Ae)))) (Bq 4) (Ak (Ay 5 (Ah (AB Ci) (Aa (A5 [none,some 3] (B1 (Ab 4)) (Bq 0) (BX) (Af As (Ab 1) (Ab 0))) (Ae)))) (Bg (AW (Af Ct (Ah CD (Aa (Ab 0) (Aa (Ab 5) (Ae)))) (Ab 1))) (AN (Ab 5)) (Bp)))) (AN (mC .non)))))
abbrev HF:Stmt:=BM 15
theorem ZaU:Bo ["thing"] ["thing"] (defScope HF):=⟨rfl,rfl,rfl,by decide +kernel,rfl,by decide +kernel,by decide +kernel⟩
noncomputable abbrev O1 (CF:List D→HD→Out D):MS:=AN (Ah CF (Aa (Ab 0) (Aa (mC (.int 0)) (Aa (mC (.int 1)) (Ae)))))
abbrev HG:Stmt:=BM 39
theorem sc__law_net:Bo ["_law_box_here","_law_many","_law_way","_law_digits","_law_some","_law_ties","_law_a","_law_b","_law_light"] ["_law_box_here"] (defScope HG):=⟨rfl,rfl,rfl,by decide +kernel,rfl,by decide +kernel,by decide +kernel⟩
noncomputable abbrev O2 (AL:List D→HD→Out D) (Fw:List D→HD→Out D):MS:=Ak (GX 1 2 (Aa (Af Ax (mC (.int 1)) (Ah AL (Aa (Ab 0) (Aa (mC (.int 8)) (Ae))))) (Aa (Ah AL (Aa (Ab 0) (Aa (mC (.int 4)) (Ae)))) (Ae)))) (Ak (Ay 3 (Ah Fw (Aa (Ab 0) (Ae)))) (Ak (Ay 4 (A5 [none,some 3] (CJ (Aa (Ab 1) (Ae))) (Bq 0) (BX) (Ah AL (Aa (Ab 1) (Aa (mC (.int 2)) (Ae)))))) (Ak (Ay 5 (BG (Ae))) (Ak (Cb (CJ (Aa (Ab 1) (Ae))) (Bq 6) (Cb (Lf (Aa (Af Ax (Ab 6) (mC (.int 1))) (Aa (Ab 1) (Ae)))) (Bq 7) (Ak (Ay 8 (Ah AL (Aa (Ab 3) (Aa (mC (.int 2)) (Ae))))) (Ak (Bg (AW (Af Ct (Ab 2) (mC (.int 0)))) (Ay 8 (Af CI (Af Ax (Af As (Ab 4) (Ab 6)) (Af As (Ab 4) (Ab 7))) (mC (.int 2)))) (Bp)) (Bg (FK (AW (Af Nv (Ah AL (Aa (Ab 3) (Aa (mC (.int 3)) (Ae)))) (mC (.int 0)))) (Dk (AW (Af BU (Ab 2) (mC (.int 1)))) (AW (FN IA JH (Ab 6) (mC (.int 3)) (Ab 7))))) (DZ (G4 (Ab 5) (Aw (Aa (Ab 6) (Aa (Ab 7) (Aa (Ab 8) (Ae))))))) (Bp)))))) (AN (Aw (Aa (Ab 1) (Aa (Ah (AB Ci) (Aa (Ab 5) (Ae))) (Ae)))))))))
abbrev HH:Stmt:=BM 19
theorem ZaV:Bo ["thing","many"] ["thing","many"] (defScope HH):=⟨rfl,rfl,rfl,by decide +kernel,rfl,by decide +kernel,by decide +kernel⟩
noncomputable abbrev O3 (CL:List D→HD→Out D) (Fx:List D→HD→Out D):MS:=Ak (Bg (Dk (Dl (CW (Ah (BB AX) (Aa (Ab 0) (Aa (mC (.ty "tuple")) (Ae)))))) (AW (Af BU (Ah (AB CB) (Aa (Ab 0) (Ae))) (mC (.int 3))))) (AN (mC (.bl false))) (Bp)) (AN (Iw (Ah CL (Aa (Be (Ab 0) (Bh) (Bd (mC (.int 2)))) (Aa (Ab 1) (Ae)))) (Ah Fx (Aa (Af As (Ab 0) (mC (.int 2))) (Ae)))))
abbrev HI:Stmt:=BM 20
theorem sc_is_net:Bo ["thing","many","ties"] ["thing"] (defScope HI):=⟨rfl,rfl,rfl,by decide +kernel,rfl,by decide +kernel,by decide +kernel⟩
noncomputable abbrev O4 (CF:List D→HD→Out D) (Fy:List D→HD→Out D):MS:=Ak (Bg (Dk (Dl (CW (Ah (BB AX) (Aa (Ab 0) (Aa (mC (.ty "tuple")) (Ae)))))) (AW (Af BU (Ah (AB CB) (Aa (Ab 0) (Ae))) (mC (.int 2))))) (AN (mC (.bl false))) (Bp)) (Ak (FR (Dw 1 2) (Ab 0)) (Ak (Bg (Dk (Dl (CW (Ah CF (Aa (Ab 1) (Aa (mC (.int 1)) (Aa (mC (.int 8)) (Ae))))))) (Dl (CW (Ah (BB AX) (Aa (Ab 2) (Aa (mC (.ty "tuple")) (Ae))))))) (AN (mC (.bl false))) (Bp)) (Ak (Bg (Dl (CW (Ah (AB Fi) (Aa (A5 [none,some 1] (B1 (Ab 2)) (Bq 0) (BX) (Ah Fy (Aa (Ab 0) (Aa (Ab 1) (Ae))))) (Ae))))) (AN (mC (.bl false))) (Bp)) (AN (Ah (AB Fi) (Aa (A5 [none,none] (Hd (Aa (Ab 2) (Aa (Be (Ab 2) (Bd (mC (.int 1))) (Bh)) (Ae)))) (Dw 0 1) (BX) (Af (LQ HT.lexLt) (Be (Ab 0) (Bh) (Bd (mC (.int 2)))) (Be (Ab 1) (Bh) (Bd (mC (.int 2)))))) (Ae)))))))
abbrev HJ:Stmt:=BM 21
theorem ZaW:Bo ["thing"] ["thing"] (defScope HJ):=⟨rfl,rfl,rfl,by decide +kernel,rfl,by decide +kernel,by decide +kernel⟩
noncomputable abbrev Ml (Cu:List D→HD→Out D):MS:=Bg (Dl (CW (Ah Cu (Aa (Ab 0) (Ae))))) (IU "NoNet" (Aa (mC (.str "this is no net")) (Ae))) (Bp)
abbrev HK:Stmt:=BM 22
theorem sc_net_switched:Bo ["net","lot","many","ties"] ["net","lot"] (defScope HK):=⟨rfl,rfl,rfl,by decide +kernel,rfl,by decide +kernel,by decide +kernel⟩
noncomputable abbrev O5 (Bv:List D→HD→Out D) (CL:List D→HD→Out D):MS:=Ak (DZ (Ah Bv (Aa (Ab 0) (Ae)))) (Ak (FR (Dw 2 3) (Ab 0)) (Ak (Bg (Dl (CW (Ah CL (Aa (Ab 1) (Aa (Ab 2) (Ae)))))) (IU "NoPlace" (Aa (mC (.str "this is no lot of the net's places")) (Ae))) (Bp)) (AN (Aw (Aa (Ab 2) (Aa (Ah (AB Ci) (Aa (A5 [none,none,none,some 1] (B1 (Ab 3)) (Ez [0,1,2]) (BX) (Aw (Aa (Ab 0) (Aa (Ab 1) (Aa (JF (AW (Af Ct (Af (DH false) (Ab 0) (Ab 3)) (Af (DH false) (Ab 1) (Ab 3)))) (Ab 2) (Af JG (mC (.int 1)) (Ab 2))) (Ae)))))) (Ae))) (Ae)))))))
abbrev HL:Stmt:=BM 27
theorem sc_net_lot:Bo ["one","other","many","turns","paths","lot"] ["one","other"] (defScope HL):=⟨rfl,rfl,rfl,by decide +kernel,rfl,by decide +kernel,by decide +kernel⟩
noncomputable abbrev Je (Bv:List D→HD→Out D) (DN:List D→HD→Out D) (Ec:List D→HD→Out D) (Ed:List D→HD→Out D) (DM:List D→HD→Out D) (Ef:List D→HD→Out D):MS:=Ak (DZ (Ah Bv (Aa (Ab 0) (Ae)))) (Ak (DZ (Ah Bv (Aa (Ab 1) (Ae)))) (Ak (Ay 2 (Af As (Ab 0) (mC (.int 0)))) (Ak (Bg (Dk (AW (Af BU (Ab 2) (Af As (Ab 1) (mC (.int 0))))) (AW (Af BU (Ah DN (Aa (Ab 0) (Ae))) (Ah DN (Aa (Ab 1) (Ae)))))) (AN (mC .non)) (Bp)) (Ak (Ay 3 (Ah Ec (Aa (A5 [none,none,none,none] (Hd (Aa (Af As (Ab 0) (mC (.int 1))) (Aa (Af As (Ab 1) (mC (.int 1))) (Ae)))) (OI 1 2 3 0) (BX) (Aw (Aa (Ab 1) (Aa (Ab 2) (Aa (Af CI (Af Ax (Ab 3) (Af As (Ab 0) (mC (.int 2)))) (mC (.int 2))) (Ae)))))) (Ae)))) (Ak (Ay 4 (Ah Ed (Aa (Ab 2) (Aa (Ab 3) (Ae))))) (Ak (Ay 5 (Ah (AB Ci) (Aa (A5 [none,some 3,some 4] (CJ (Aa (Ab 2) (Ae))) (Bq 0) (AW (Af Ct (Af CI (Ah DM (Aa (Ab 1) (Aa (Af EB (Ab 2) (Ab 0)) (Ae)))) (mC (.int 2))) (mC (.int 1)))) (Ab 0)) (Ae)))) (AN (JF (AW (Af Ct (Ah Ef (Aa (Ab 0) (Aa (Ab 5) (Ae)))) (Ab 1))) (Ab 5) (mC .non)))))))))
abbrev HM:Stmt:=BM 28
theorem sc_is_quiet:Bo ["net","many","ties"] ["net"] (defScope HM):=⟨rfl,rfl,rfl,by decide +kernel,rfl,by decide +kernel,by decide +kernel⟩
noncomputable abbrev Mm (Bv:List D→HD→Out D) (BN:List D→HD→Out D):MS:=Ak (DZ (Ah Bv (Aa (Ab 0) (Ae)))) (Ak (FR (Dw 1 2) (Ab 0)) (AN (Af EV (Ah BN (Aa (Ab 0) (Aa (Aw (Aa (Ab 1) (Aa (Ah (AB Ci) (Aa (A5 [none,none,none] (B1 (Ab 2)) (Ez [0,1,2]) (BX) (Aw (Aa (Ab 0) (Aa (Ab 1) (Aa (mC (.int 0)) (Ae)))))) (Ae))) (Ae)))) (Ae)))) (mC .non))))
abbrev s_law:Stmt:=BM 44
theorem sc_law:Bo ["_law_script","_law_k","_law_box_here","_law_net_here","_law_other","_law_way","_law_at","_law_ties","_law_one","_law_two","_law_dark","_law_turn","_law_none","_law_told"] ["_law_script"] (defScope s_law):=⟨rfl,rfl,rfl,by decide +kernel,rfl,by decide +kernel,by decide +kernel⟩
noncomputable abbrev Mn (E6:List D→HD→Out D) (Ee:List D→HD→Out D) (E7:List D→HD→Out D) (CD:List D→HD→Out D) (AL:List D→HD→Out D) (BN:List D→HD→Out D) (Dh:List D→HD→Out D) (Ds:List D→HD→Out D) (E8:List D→HD→Out D) (Cu:List D→HD→Out D) (Dr:List D→HD→Out D):MS:=Ak (Cb (CJ (Aa (Ah (BB JL) (Aa (mC (.int 1)) (Aa (Ah (BB GV) (Aa (Ah (AB CB) (Aa (Ab 0) (Ae))) (Aa (mC (.int 4)) (Ae)))) (Ae)))) (Ae))) (Bq 1) (Ak (Ay 2 (Ah E6 (Aa (Ab 0) (Aa (Ab 1) (Ae))))) (Ak (Ay 3 (Ah Ee (Aa (Ab 2) (Ae)))) (Ak (Ay 4 (Ah CD (Aa (Ab 3) (Aa (Ah E7 (Aa (Ab 2) (Aa (Af As (Ab 3) (mC (.int 0))) (Ae)))) (Ae))))) (Ak (GX 5 6 (Aa (Ah AL (Aa (Ab 2) (Aa (mC (.int 4)) (Ae)))) (Aa (Ah AL (Aa (Ab 2) (Aa (Af Ax (Ah (AB CB) (Aa (Af As (Ab 3) (mC (.int 1))) (Ae))) (mC (.int 1))) (Ae)))) (Ae)))) (Ak (Ay 7 (Af As (Ab 4) (mC (.int 1)))) (Ak (Bg (FK (AW (Af Ct (Ab 5) (mC (.int 0)))) (AW (Af BU (Ab 7) (Aw (Ae))))) (Ak (Ay 6 (Af CI (Ab 6) (Ah (AB CB) (Aa (Ab 7) (Ae))))) (Ay 4 (Aw (Aa (Af As (Ab 4) (mC (.int 0))) (Aa (Af Ax (Af Ax (Be (Ab 7) (Bh) (Bd (Ab 6))) (Aw (Aa (Af Ax (Be (Af As (Ab 7) (Ab 6)) (Bh) (Bd (mC (.int 2)))) (Aw (Aa (Af JG (mC (.int 1)) (Af As (Af As (Ab 7) (Ab 6)) (mC (.int 2)))) (Ae)))) (Ae)))) (Be (Ab 7) (Bd (Af Ax (Ab 6) (mC (.int 1)))) (Bh))) (Ae)))))) (Bp)) (Ak (Bg (AW (Af Ct (Ab 5) (mC (.int 1)))) (Ay 4 (Aw (Aa (Af As (Ab 4) (mC (.int 0))) (Aa (Af Ax (Be (Ab 7) (Bh) (Bd (Ab 6))) (Be (Ab 7) (Bd (Af Ax (Ab 6) (mC (.int 1)))) (Bh))) (Ae))))) (Bp)) (Ak (Cb (B1 (BG (Aa (Aw (Aa (Ab 3) (Aa (Ab 4) (Ae)))) (Aa (Aw (Aa (Ab 4) (Aa (Ab 3) (Ae)))) (Aa (Aw (Aa (Ab 3) (Aa (Ab 3) (Ae)))) (Aa (Aw (Aa (Ab 3) (Aa (Ah Ee (Aa (Ab 2) (Ae))) (Ae)))) (Ae))))))) (Dw 8 9) (Bg (AW (Af BU (Ah (AB Dp) (Aa (Ah BN (Aa (Ab 8) (Aa (Ab 9) (Ae)))) (Ae))) (Ah (AB Dp) (Aa (Ah Dh (Aa (Ab 8) (Aa (Ab 9) (Ae)))) (Ae))))) (AN (mC (.bl false))) (Bp))) (Ak (Ay 10 (Aw (Aa (Af As (Ab 3) (mC (.int 0))) (Aa (Ah (AB Ci) (Aa (A5 [none] (B1 (Af As (Ab 3) (mC (.int 1)))) (Bq 0) (BX) (Af Ax (Be (Ab 0) (Bh) (Bd (mC (.int 2)))) (Aw (Aa (mC (.int 0)) (Ae))))) (Ae))) (Ae))))) (Ak (Bg (Dk (AW (Af BU (Ah (AB Dp) (Aa (Ah Ds (Aa (Ab 3) (Ae))) (Ae))) (Ah (AB Dp) (Aa (Af EV (Ah Dh (Aa (Ab 3) (Aa (Ab 10) (Ae)))) (mC .non)) (Ae))))) (AW (Af EV (Ah Ds (Aa (Ab 10) (Ae))) (mC (.bl true))))) (AN (mC (.bl false))) (Bp)) (Cb (CJ (Aa (mC (.int 3)) (Ae))) (Bq 11) (Ak (Ay 12 (Ah E8 (Aa (Ab 2) (Aa (Ab 3) (Ae))))) (Ak (Ay 13 (E1 [12] Dr (Ah Ds (Aa (Ab 0) (Ae))))) (Ak (Bg (AW (Af BU (Ab 13) (Af As (BG (Aa (mC (.str "! net")) (Aa (mC (.str "told")) (Ae)))) (Ah (AB Gi) (Aa (Ah Cu (Aa (Ab 12) (Ae))) (Ae)))))) (AN (mC (.bl false))) (Bp)) (Cb (B1 (BG (Aa (Aw (Aa (Ab 12) (Aa (Ab 3) (Ae)))) (Aa (Aw (Aa (Ab 3) (Aa (Ab 12) (Ae)))) (Aa (Aw (Aa (Ab 12) (Aa (Ab 12) (Ae)))) (Ae)))))) (Dw 8 9) (Bg (AW (Af BU (E1 [8,9] Dr (Ah BN (Aa (Ab 0) (Aa (Ab 1) (Ae))))) (Ab 13))) (AN (mC (.bl false))) (Bp)))))))))))))))))) (AN (mC (.bl true)))
section
variable {P:Program} {w:World} {K:PySem.W.Frag} {mg:Str→Option Value} {base:Heap} (B:Bl mg) (et:etOk K=true)
include B et
theorem ZaX (f:Addr) (cdv:Value) (A:Around) (outer:List Env) (s:Shared) (H:Hp) (E:XK) (hr:Room 0 (A.deeper (envOfC "is_whole" (defScope Hj) s.heap.objs.size f cdv))):
 A8 (AZ (AK P w K) P w K mg base ["thing"] "is_whole" (defScope Hj) f cdv A outer s H E) E (defBody Hj) (OK):=
 AD (A4 (Nt (Bk (Df et) rfl B.n_isinstance Dg (Ad (Ac (pv 0)) (Ad (G2 rfl B.n_int Mg) (Ag)))) (Nr (W2 (Bk (Df et) rfl B.n_isinstance Dg (Ad (Ac (pv 0)) (Ad (G2 rfl B.n_bool ZaK) (Ag))))))))
theorem ZaY (f:Addr) (cdv:Value) (A:Around) (outer:List Env) (s:Shared) (H:Hp) (E:XK) (hr:Room 0 (A.deeper (envOfC "lights_of" (defScope Hk) s.heap.objs.size f cdv))):
 A8 (AZ (AK P w K) P w K mg base ["ties","lights","a","b","light"] "lights_of" (defScope Hk) f cdv A outer s H E) E (defBody Hk) (OL):=
 Au (AV (i:=1) sc_lights_of.nd rfl (SL)) (Au (Dm De rfl (CZ (Ac (pv 0))) (LO (is:=[2,3,4]) (FH rfl (B6 (AI (i:=2) (sc_lights_of.nd) rfl) (B6 (AI (i:=3) (sc_lights_of.nd) rfl) (B6 (AI (i:=4) (sc_lights_of.nd) rfl) (FG)))))) (Au (Tb hr.units (Ac (pv 1)) (AR (Ad (Ac (pv 2)) (Ad (Ac (pv 3)) (Ag)))) (Ac (pv 4))) (AD (Tb hr.units (Ac (pv 1)) (AR (Ad (Ac (pv 3)) (Ad (Ac (pv 2)) (Ag)))) (Ac (pv 4)))))) (AD (A4 (Ac (pv 1)))))
theorem ZaZ (f:Addr) (cdv:Value) (A:Around) (outer:List Env) (s:Shared) (H:Hp) (E:XK) (hr:Room 0 (A.deeper (envOfC "paths_of" (defScope Hl) s.heap.objs.size f cdv))):
 A8 (AZ (AK P w K) P w K mg base ["many","lights","paths","least","waiting","path","end"] "paths_of" (defScope Hl) f cdv A outer s H E) E (defBody Hl) (OM):=
 Au (AV (i:=2) sc_paths_of.nd rfl (SL)) (Au (Dm De rfl (DI rfl B.n_range (Ad (Ac (pv 0)) (Ag))) (EW (AI (i:=3) (sc_paths_of.nd) rfl)) (Au (AV (i:=4) sc_paths_of.nd rfl (CA (Ad (AR (Ad (Ac (pv 3)) (Ag))) (Ag)))) (AD (Yv De (Es (Ac (pv 4))) (Au (AV (i:=5) sc_paths_of.nd rfl (Zat (Ac (pv 4)))) (Au (AV (i:=6) sc_paths_of.nd rfl (AY (Ac (pv 5)) (NM (Al)) (fun _ _=>rfl))) (AD (B8 (BL (Zap hr.units) (Ac (pv 6)) (Ac (pv 2)) (by with_unfolding_all rfl)) (Au (Zaf (Ac (pv 2)) (Ac (pv 6)) (Ac (pv 5))) (AD (GW (Z4 (Ac (pv 4)) (Dc (Nc:=["place","path","end","lights"]) (cs:=[none,some 5,some 6,some 1]) rfl (CSc.ok ⟨rfl,by decide +kernel,by kernel_rfl,by decide +kernel,rfl,by kernel_rfl⟩) (DI rfl B.n_range (Ad (Ac (pv 0)) (Ag))) (Dx rfl) (fun C D cells fp s₀ H₀ pins=>⟨AI (i:=0) (show (["place","path","end","lights"]:List Str).Nodup from by decide +kernel) rfl,JQ (BL (Zao hr.units) (AR (Ad (Ac (pv 2)) (Ad (Ac (pv 0)) (Ag)))) (Ac (pv 3)) (by with_unfolding_all rfl)),AJ A9 (Ac (pv 1)) (AR (Ad (Ac (pv 0)) (Ag)))⟩)))))) (B7))))))))) (AD (A4 (Ac (pv 2)))))
theorem Za0 (f:Addr) (cdv:Value) (A:Around) (outer:List Env) (s:Shared) (H:Hp) (E:XK) (hr:Room 0 (A.deeper (envOfC "lit_along" (defScope Hm) s.heap.objs.size f cdv))):
 A8 (AZ (AK P w K) P w K mg base ["lights","path"] "lit_along" (defScope Hm) f cdv A outer s H E) E (defBody Hm) (ON):=
 AD (A4 (Bk (XB rfl) rfl B.n_sum ZaN (Ad (Dc (Nc:=["pair","lights"]) (cs:=[none,some 0]) rfl (CSc.ok ⟨rfl,by decide +kernel,by kernel_rfl,by decide +kernel,rfl,by kernel_rfl⟩) (ZaE rfl B.n_zip (Ad (Ac (pv 1)) (Ad (Cn (Ac (pv 1)) (Cm (Al)) (Ck)) (Ag)))) (Dx rfl) (fun C D cells fp s₀ H₀ pins=>⟨AI (i:=0) (show (["pair","lights"]:List Str).Nodup from by decide +kernel) rfl,DJ,Td hr.units (Ac (pv 1)) (Ac (pv 0)) (fun _ _=>rfl)⟩)) (Ag))))
theorem Za1 (f:Addr) (cdv:Value) (A:Around) (outer:List Env) (s:Shared) (H:Hp) (E:XK) (hr:Room 0 (A.deeper (envOfC "pairs_of" (defScope Hn) s.heap.objs.size f cdv))):
 A8 (AZ (AK P w K) P w K mg base ["net"] "pairs_of" (defScope Hn) f cdv A outer s H E) E (defBody Hn) (OO):=
 AD (A4 (Dc (Nc:=["tie"]) (cs:=[none]) rfl (CSc.ok ⟨rfl,by decide +kernel,by kernel_rfl,by decide +kernel,rfl,by kernel_rfl⟩) (CZ (AY (Ac (pv 0)) (Al) (fun _ _=>rfl))) (Dx rfl) (fun C D cells fp s₀ H₀ pins=>⟨AI (i:=0) (show (["tie"]:List Str).Nodup from by decide +kernel) rfl,DJ,Cn (Ac (pv 0)) (Ck) (Cm (Al))⟩)))
theorem Za2 (f:Addr) (cdv:Value) (A:Around) (outer:List Env) (s:Shared) (H:Hp) (E:XK) (hr:Room 0 (A.deeper (envOfC "_law_cell" (defScope Ho) s.heap.objs.size f cdv))):
 A8 (AZ (AK P w K) P w K mg base ["_law_script","_law_k"] "_law_cell" (defScope Ho) f cdv A outer s H E) E (defBody Ho) (Mi):=
 Au (B8 (BL K8 (Ac (pv 1)) (Bk FQ rfl B.n_len FW (Ad (Ac (pv 0)) (Ag))) (BK _)) (AD (A4 (AY (Ac (pv 0)) (Ac (pv 1)) (fun _ _=>rfl)))) (B7)) (AD (A4 (AJ A9 (AJ Gw (Al) (Ac (pv 1))) (Al))))
theorem Za3 (f:Addr) (cdv:Value) (A:Around) (outer:List Env) (s:Shared) (H:Hp) (E:XK) (hr:Room 0 (A.deeper (envOfC "_law_mix" (defScope Hq) s.heap.objs.size f cdv))):
 A8 (AZ (AK P w K) P w K mg base ["_law_cell_here","_law_k","_law_number"] "_law_mix" (defScope Hq) f cdv A outer s H E) E (defBody Hq) (OP):=
 Au (AV (i:=2) sc__law_mix.nd rfl (AJ A9 (AJ Gw (AJ A9 (Ac (pv 0)) (Al)) (Al)) (AJ Gw (Al) (Ac (pv 1))))) (Au (AV (i:=2) sc__law_mix.nd rfl (AJ A9 (AJ FO (AJ Gw (Ac (pv 2)) (Ac (pv 2))) (Al)) (Ac (pv 1)))) (AD (A4 (AJ FO (AJ Gw (Ac (pv 2)) (AJ A9 (Ac (pv 2)) (Al))) (Al)))))
theorem Za4 (f:Addr) (cdv:Value) (A:Around) (outer:List Env) (s:Shared) (H:Hp) (E:XK) (hr:Room 0 (A.deeper (envOfC "_law_take" (defScope Hr) s.heap.objs.size f cdv))):
 A8 (AZ (AK P w K) P w K mg base ["_law_box_here","_law_many","_law_left","_law_digit"] "_law_take" (defScope Hr) f cdv A outer s H E) E (defBody Hr) (OQ):=
 Au (IB (Bk Xf rfl B.n_divmod ZaL (Ad (AY (Ac (pv 0)) (Al) (fun _ _=>rfl)) (Ad (Ac (pv 1)) (Ag)))) (GY (Gn rfl (AI (i:=2) (sc__law_take.nd) rfl) (AI (i:=3) (sc__law_take.nd) rfl)))) (Au (NJ (Ac (pv 0)) (Al) (Ac (pv 2))) (AD (A4 (Ac (pv 3)))))
theorem Za5 (f:Addr) (cdv:Value) (A:Around) (outer:List Env) (s:Shared) (H:Hp) (hr:RoomM 0 (A.deeper (envOfC "_law_kind" (defScope Hs) s.heap.objs.size f cdv))):
 A8 (IZ P w K mg base ["_law_e","_law_kinds","_law_words"] "_law_kind" (defScope Hs) f cdv A outer s H) E0 (defBody Hs) (OR):=
 Au (AV (i:=1) sc__law_kind.nd rfl (CA (Ad (Bk (Df et) rfl B.n_isinstance Dg (Ad (Ac (pv 0)) (Ad (Fq et (by decide +kernel)) (Ag)))) (Ad (Bk (Df et) rfl B.n_isinstance Dg (Ad (Ac (pv 0)) (Ad (Fq et (by decide +kernel)) (Ag)))) (Ad (Bk (Df et) rfl B.n_isinstance Dg (Ad (Ac (pv 0)) (Ad (Fq et (by decide +kernel)) (Ag)))) (Ad (Bk (Df et) rfl B.n_isinstance Dg (Ad (Ac (pv 0)) (Ad (Fq et (by decide +kernel)) (Ag)))) (Ag))))))) (Au (AV (i:=1) sc__law_kind.nd rfl (AJ A9 (Ac (pv 1)) (CA (Ad (Bk (Df et) rfl B.n_isinstance Dg (Ad (Ac (pv 0)) (Ad (Fq et (by decide +kernel)) (Ag)))) (Ad (Bk (Df et) rfl B.n_isinstance Dg (Ad (Ac (pv 0)) (Ad (Fq et (by decide +kernel)) (Ag)))) (Ad (Bk (Df et) rfl B.n_isinstance Dg (Ad (Ac (pv 0)) (Ad (Fq et (by decide +kernel)) (Ag)))) (Ad (Bk (Df et) rfl B.n_isinstance Dg (Ad (Ac (pv 0)) (Ad (Fq et (by decide +kernel)) (Ag)))) (Ag)))))))) (Au (AV (i:=1) sc__law_kind.nd rfl (AJ A9 (Ac (pv 1)) (CA (Ad (Bk (Df et) rfl B.n_isinstance Dg (Ad (Ac (pv 0)) (Ad (Fq et (by decide +kernel)) (Ag)))) (Ad (Bk (Df et) rfl B.n_isinstance Dg (Ad (Ac (pv 0)) (Ad (Fq et (by decide +kernel)) (Ag)))) (Ag)))))) (Au (B8 (ES (FM (EU (Es (Bk (Df et) rfl B.n_isinstance Dg (Ad (Ac (pv 0)) (Ad (G2 rfl B.n_ValueError ZaJ) (Ag)))))) (FL (BL (D8 hr.units) (RL PySem.F.plainAttrs_list PySem.F.slot_list_count PySem.F.type_list_count Od YQ YN (Ac (pv 1)) (CS)) (Al) (BK _))))) (AD (A4 (CV))) (B7)) (Au (B8 (Es (AY (Ac (pv 1)) (Al) (fun _ _=>rfl))) Xj B7) (Au (AV (i:=2) sc__law_kind.nd rfl (CA (Ad (CV) (Ad (CV) (Ad (CV) (Ad (CV) (Ad (CV) (Ad (CV) (Ad (CV) (Ad (CV) (Ad (CV) (Ag)))))))))))) (AD (A4 (AJ A9 (CV) (AY (Ac (pv 2)) (RL PySem.F.plainAttrs_list PySem.F.slot_list_index PySem.F.type_list_index Od YO YR (Ac (pv 1)) (CS)) (fun _ _=>rfl))))))))))
theorem Za6 (f:Addr) (cdv:Value) (A:Around) (outer:List Env) (s:Shared) (H:Hp) (E:XK) (hr:Room 0 (A.deeper (envOfC "_law_lots" (defScope Ht) s.heap.objs.size f cdv))):
 A8 (AZ (AK P w K) P w K mg base ["_law_size","_law_found","_law_number"] "_law_lots" (defScope Ht) f cdv A outer s H E) E (defBody Ht) (OT):=
 Au (AV (i:=1) sc__law_lots.nd rfl (CA (Ad (AR (Ag)) (Ag)))) (Au (Dm De rfl (DI rfl B.n_range (Ad (Ac (pv 0)) (Ag))) (EW (AI (i:=2) (sc__law_lots.nd) rfl)) (AD (AV (i:=1) sc__law_lots.nd rfl (AJ A9 (Ac (pv 1)) (Dc (Nc:=["_law_lot_here","_law_number"]) (cs:=[none,some 2]) rfl (CSc.ok ⟨rfl,by decide +kernel,by kernel_rfl,by decide +kernel,rfl,by kernel_rfl⟩) (CZ (Ac (pv 1))) (Dx rfl) (fun C D cells fp s₀ H₀ pins=>⟨AI (i:=0) (show (["_law_lot_here","_law_number"]:List Str).Nodup from by decide +kernel) rfl,DJ,AJ A9 (Ac (pv 0)) (AR (Ad (Ac (pv 1)) (Ag)))⟩)))))) (AD (A4 (Ac (pv 1)))))
theorem Za7 (f:Addr) (cdv:Value) (A:Around) (outer:List Env) (s:Shared) (H:Hp) (E:XK) (hr:Room 0 (A.deeper (envOfC "_law_net_switched" (defScope Hu) s.heap.objs.size f cdv))):
 A8 (AZ (AK P w K) P w K mg base ["_law_net_here","_law_lot_here","_law_ties","_law_a","_law_b","_law_light"] "_law_net_switched" (defScope Hu) f cdv A outer s H E) E (defBody Hu) (OU):=
 Au (AV (i:=2) sc__law_net_switched.nd rfl (CA (Ag))) (Au (Dm De rfl (CZ (AY (Ac (pv 0)) (Al) (fun _ _=>rfl))) (LO (is:=[3,4,5]) (FH rfl (B6 (AI (i:=3) (sc__law_net_switched.nd) rfl) (B6 (AI (i:=4) (sc__law_net_switched.nd) rfl) (B6 (AI (i:=5) (sc__law_net_switched.nd) rfl) (FG)))))) (AD (GW (QZ (Ac (pv 2)) (AR (Ad (Ac (pv 3)) (Ad (Ac (pv 4)) (Ad (AJ FO (AJ A9 (AJ A9 (Ac (pv 5)) (DX NA rfl B.n_int Mg (Ad (GQ Lc (Ac (pv 3)) (Ac (pv 1)) (by with_unfolding_all rfl)) (Ag)))) (DX NA rfl B.n_int Mg (Ad (GQ Lc (Ac (pv 4)) (Ac (pv 1)) (by with_unfolding_all rfl)) (Ag)))) (Al)) (Ag))))))))) (AD (A4 (AR (Ad (AY (Ac (pv 0)) (Al) (fun _ _=>rfl)) (Ad (DX Gj rfl B.n_tuple ED (Ad (Ac (pv 2)) (Ag))) (Ag)))))))
theorem Za8 (f:Addr) (cdv:Value) (A:Around) (outer:List Env) (s:Shared) (H:Hp) (E:XK) (hr:Room 0 (A.deeper (envOfC "_law_firsts" (defScope Hv) s.heap.objs.size f cdv))):
 A8 (AZ (AK P w K) P w K mg base ["_law_net_here","_law_marks","_law_turn","_law_a","_law_b","_law_light"] "_law_firsts" (defScope Hv) f cdv A outer s H E) E (defBody Hv) (OV):=
 Au (AV (i:=1) sc__law_firsts.nd rfl (ZaG rfl rfl B.n_list rfl B.n_range OJ (AY (Ac (pv 0)) (Al) (fun _ _=>rfl)))) (Au (Dm De rfl (DI rfl B.n_range (Ad (AY (Ac (pv 0)) (Al) (fun _ _=>rfl)) (Ag))) (EW (AI (i:=2) (sc__law_firsts.nd) rfl)) (AD (Dm De rfl (CZ (AY (Ac (pv 0)) (Al) (fun _ _=>rfl))) (LO (is:=[3,4,5]) (FH rfl (B6 (AI (i:=3) (sc__law_firsts.nd) rfl) (B6 (AI (i:=4) (sc__law_firsts.nd) rfl) (B6 (AI (i:=5) (sc__law_firsts.nd) rfl) (FG)))))) (Au (NJ (Ac (pv 1)) (Ac (pv 3)) (Bk (Qy rfl) rfl B.n_min Ti (Ad (AY (Ac (pv 1)) (Ac (pv 3)) (fun _ _=>rfl)) (Ad (AY (Ac (pv 1)) (Ac (pv 4)) (fun _ _=>rfl)) (Ag))))) (AD (NJ (Ac (pv 1)) (Ac (pv 4)) (AY (Ac (pv 1)) (Ac (pv 3)) (fun _ _=>rfl)))))))) (AD (A4 (Dc (Nc:=["_law_place","_law_marks"]) (cs:=[none,some 1]) rfl (CSc.ok ⟨rfl,by decide +kernel,by kernel_rfl,by decide +kernel,rfl,by kernel_rfl⟩) (DI rfl B.n_range (Ad (AY (Ac (pv 0)) (Al) (fun _ _=>rfl)) (Ag))) (Dx rfl) (fun C D cells fp s₀ H₀ pins=>⟨AI (i:=0) (show (["_law_place","_law_marks"]:List Str).Nodup from by decide +kernel) rfl,JQ (BL (Fp hr.units) (AY (Ac (pv 1)) (Ac (pv 0)) (fun _ _=>rfl)) (Ac (pv 0)) (BK _)),Ac (pv 0)⟩)))))
theorem Za9 {Co:List D→HD→Out D} (c_is_whole:CaE P w K mg base "is_whole" 1 Co) (f:Addr) (cdv:Value) (A:Around) (outer:List Env) (s:Shared) (H:Hp) (E:XK) (hr:Room 1 (A.deeper (envOfC "is_between" (defScope Hw) s.heap.objs.size f cdv))):
 A8 (AZ (AK P w K) P w K mg base ["thing","least","most"] "is_between" (defScope Hw) f cdv A outer s H E) E (defBody Hw) (Mj Co):=
 AD (A4 (Nt (AQ c_is_whole hr A0 (Ad (Ac (pv 0)) (Ag))) (Nr (W3 Nw Nw (Ac (pv 1)) (Ac (pv 0)) (Ac (pv 2))))))
theorem Zba {Co:List D→HD→Out D} (c_is_whole:CaE P w K mg base "is_whole" 1 Co) (f:Addr) (cdv:Value) (A:Around) (outer:List Env) (s:Shared) (H:Hp) (E:XK) (hr:Room 1 (A.deeper (envOfC "is_lot" (defScope Hx) s.heap.objs.size f cdv))):
 A8 (AZ (AK P w K) P w K mg base ["thing","size","last","number"] "is_lot" (defScope Hx) f cdv A outer s H E) E (defBody Hx) (OW Co):=
 Au (B8 (EU (Es (Bk (Df et) rfl B.n_isinstance Dg (Ad (Ac (pv 0)) (Ad (G2 rfl B.n_tuple ED) (Ag)))))) (AD (A4 (CS))) (B7)) (Au (AV (i:=2) sc_is_lot.nd rfl (NM (Al))) (Au (Dm De rfl (CZ (Ac (pv 0))) (EW (AI (i:=3) (sc_is_lot.nd) rfl)) (Au (B8 (ES (FM (EU (Es (AQ c_is_whole hr A0 (Ad (Ac (pv 3)) (Ag))))) (FL (EU (Qt K8 K8 (Ac (pv 2)) (Ac (pv 3)) (Ac (pv 1))))))) (AD (A4 (CS))) (B7)) (AD (AV (i:=2) sc_is_lot.nd rfl (Ac (pv 3)))))) (AD (A4 (CS)))))
theorem Zbb {Fu:List D→HD→Out D} {Fv:List D→HD→Out D} (c__law_cell:CaE P w K mg base "_law_cell" 1 Fu) (c__law_mix:CaE P w K mg base "_law_mix" 1 Fv) (f:Addr) (cdv:Value) (A:Around) (outer:List Env) (s:Shared) (H:Hp) (E:XK) (hr:Room 1 (A.deeper (envOfC "_law_box" (defScope Hz) s.heap.objs.size f cdv))):
 A8 (AZ (AK P w K) P w K mg base ["_law_script","_law_k","_law_here","_law_number","_law_j"] "_law_box" (defScope Hz) f cdv A outer s H E) E (defBody Hz) (OX Fu Fv):=
 Au (AV (i:=2) sc__law_box.nd rfl (AQ c__law_cell hr A0 (Ad (Ac (pv 0)) (Ad (Ac (pv 1)) (Ag))))) (Au (B8 (BL (Fp hr.units) (AJ FO (Ac (pv 2)) (Al)) (Al) (BK _)) (AD (A4 (CA (Ad (AJ Xh (Ac (pv 2)) (Al)) (Ag))))) (B7)) (Au (AV (i:=3) sc__law_box.nd rfl (Al)) (Au (Dm De rfl (DI rfl B.n_range (Ad (Al) (Ag))) (EW (AI (i:=4) (sc__law_box.nd) rfl)) (AD (AV (i:=3) sc__law_box.nd rfl (AJ A9 (AJ Gw (Ac (pv 3)) (Al)) (AQ c__law_mix hr A0 (Ad (Ac (pv 2)) (Ad (Ac (pv 4)) (Ag)))))))) (AD (A4 (CA (Ad (Ac (pv 3)) (Ag))))))))
theorem Zbc {AL:List D→HD→Out D} (c__law_take:CaE P w K mg base "_law_take" 1 AL) (f:Addr) (cdv:Value) (A:Around) (outer:List Env) (s:Shared) (H:Hp) (E:XK) (hr:Room 1 (A.deeper (envOfC "_law_wide_box" (defScope HA) s.heap.objs.size f cdv))):
 A8 (AZ (AK P w K) P w K mg base ["_law_box_here","_law_number","_law_many","_law_j"] "_law_wide_box" (defScope HA) f cdv A outer s H E) E (defBody HA) (OY AL):=
 Au (NB (i:=1) (j:=2) rfl sc__law_wide_box.nd rfl rfl (by decide) rfl rfl (Ad (AQ c__law_take hr A0 (Ad (Ac (pv 0)) (Ad (Al) (Ag)))) (Ad (Al) (Ag))) (by first |rfl |with_unfolding_all rfl)) (Au (Dm De rfl (DI rfl B.n_range (Ad (Al) (Ag))) (EW (AI (i:=3) (sc__law_wide_box.nd) rfl)) (Au (AV (i:=1) sc__law_wide_box.nd rfl (AJ FO (AJ A9 (AJ A9 (AJ Gw (Ac (pv 1)) (Al)) (Al)) (Ac (pv 3))) (Al))) (AD (AV (i:=2) sc__law_wide_box.nd rfl (AJ A9 (AJ Gw (Ac (pv 2)) (Al)) (Ac (pv 1))))))) (AD (A4 (CA (Ad (Ac (pv 2)) (Ag))))))
theorem Zbd {AL:List D→HD→Out D} (c__law_take:CaE P w K mg base "_law_take" 1 AL) (f:Addr) (cdv:Value) (A:Around) (outer:List Env) (s:Shared) (H:Hp) (E:XK) (hr:Room 1 (A.deeper (envOfC "_law_lot" (defScope HB) s.heap.objs.size f cdv))):
 A8 (AZ (AK P w K) P w K mg base ["_law_box_here","_law_size"] "_law_lot" (defScope HB) f cdv A outer s H E) E (defBody HB) (OZ AL):=
 AD (A4 (DX Gj rfl B.n_tuple ED (Ad (Dc (Nc:=["_law_number","_law_box_here"]) (cs:=[none,some 0]) rfl (CSc.ok ⟨rfl,by decide +kernel,by kernel_rfl,by decide +kernel,rfl,by kernel_rfl⟩) (DI rfl B.n_range (Ad (Ac (pv 1)) (Ag))) (Dx rfl) (fun C D cells fp s₀ H₀ pins=>⟨AI (i:=0) (show (["_law_number","_law_box_here"]:List Str).Nodup from by decide +kernel) rfl,JQ (BL (Fp hr.units) (AQ c__law_take hr Ls (Ad (Ac (pv 1)) (Ad (Al) (Ag)))) (Al) (BK _)),Ac (pv 0)⟩)) (Ag))))
theorem Zbe {AL:List D→HD→Out D} (c__law_take:CaE P w K mg base "_law_take" 1 AL) (f:Addr) (cdv:Value) (A:Around) (outer:List Env) (s:Shared) (H:Hp) (E:XK) (hr:Room 1 (A.deeper (envOfC "_law_no_net" (defScope HC) s.heap.objs.size f cdv))):
 A8 (AZ (AK P w K) P w K mg base ["_law_box_here","_law_net_here","_law_many","_law_ties","_law_at","_law_spot","_law_odd","_law_tie","_law_bent","_law_some"] "_law_no_net" (defScope HC) f cdv A outer s H E) E (defBody HC) (O0 AL):=
 Au (IB (Ac (pv 1)) (GY (Gn rfl (AI (i:=2) (sc__law_no_net.nd) rfl) (AI (i:=3) (sc__law_no_net.nd) rfl)))) (Au (IB (AR (Ad (AQ c__law_take hr A0 (Ad (Ac (pv 0)) (Ad (AJ A9 (Bk FQ rfl B.n_len FW (Ad (Ac (pv 3)) (Ag))) (Al)) (Ag)))) (Ad (AQ c__law_take hr A0 (Ad (Ac (pv 0)) (Ad (Al) (Ag)))) (Ag)))) (LO (is:=[4,5]) (FH rfl (B6 (AI (i:=4) (sc__law_no_net.nd) rfl) (B6 (AI (i:=5) (sc__law_no_net.nd) rfl) (FG)))))) (Au (AV (i:=6) sc__law_no_net.nd rfl (AY (CA (Ad (Ac (pv 2)) (Ad (NM (Al)) (Ad (CS) (Ad (CS) (Ad (FJ) (Ad (CV) (Ad (AR (Ad (Al) (Ag))) (Ad (AJ W6 (Al) (Al)) (Ad (Al) (Ad (CA (Ad (Al) (Ag))) (Ad (R6) (Ag))))))))))))) (AQ c__law_take hr A0 (Ad (Ac (pv 0)) (Ad (Al) (Ag)))) (fun _ _=>rfl))) (Au (AV (i:=7) sc__law_no_net.nd rfl (AY (AJ A9 (Ac (pv 3)) (AR (Ad (AR (Ad (Al) (Ad (Al) (Ad (Al) (Ag))))) (Ag)))) (Ac (pv 4)) (fun _ _=>rfl))) (Au (AV (i:=8) sc__law_no_net.nd rfl (AJ A9 (AJ A9 (Cn (Ac (pv 7)) (Ck) (Cm (Ac (pv 5)))) (AR (Ad (Ac (pv 6)) (Ag)))) (Cn (Ac (pv 7)) (Cm (AJ A9 (Ac (pv 5)) (Al))) (Ck)))) (Au (AV (i:=9) sc__law_no_net.nd rfl (CA (Ad (Ac (pv 8)) (Ad (Ac (pv 8)) (Ad (Ac (pv 8)) (Ad (Cn (Ac (pv 7)) (Ck) (Cm (Al))) (Ad (AJ A9 (Ac (pv 7)) (AR (Ad (Al) (Ag)))) (Ad (DX R5 rfl B.n_list OJ (Ad (Ac (pv 7)) (Ag))) (Ad (FJ) (Ad (AR (Ad (AY (Ac (pv 7)) (Al) (fun _ _=>rfl)) (Ad (AY (Ac (pv 7)) (Al) (fun _ _=>rfl)) (Ad (AY (Ac (pv 7)) (Al) (fun _ _=>rfl)) (Ag))))) (Ad (AR (Ad (AY (Ac (pv 7)) (Al) (fun _ _=>rfl)) (Ad (AY (Ac (pv 7)) (Al) (fun _ _=>rfl)) (Ad (Al) (Ag))))) (Ad (AR (Ag)) (Ag))))))))))))) (Au (QU (i:=9) (Nc:=["_law_other","_law_many","_law_ties","_law_at"]) (cs:=[none,some 2,some 3,some 4]) rfl sc__law_no_net.nd rfl (by first|exact .inl rfl|exact .inr rfl) (CSc.ok ⟨rfl,by decide +kernel,by kernel_rfl,by decide +kernel,rfl,by kernel_rfl⟩) (CZ (Ac (pv 9))) (Dx rfl) (fun C D cells fp s₀ H₀ pins=>⟨AI (i:=0) (show (["_law_other","_law_many","_law_ties","_law_at"]:List Str).Nodup from by decide +kernel) rfl,DJ,AR (Ad (Ac (pv 1)) (Ad (AJ A9 (AJ A9 (Cn (Ac (pv 2)) (Ck) (Cm (Ac (pv 3)))) (AR (Ad (Ac (pv 0)) (Ag)))) (Cn (Ac (pv 2)) (Cm (AJ A9 (Ac (pv 3)) (Al))) (Ck))) (Ag)))⟩)) (Au (AV (i:=9) sc__law_no_net.nd rfl (AJ A9 (Ac (pv 9)) (CA (Ad (AR (Ad (Ac (pv 2)) (Ad (DX R5 rfl B.n_list OJ (Ad (Ac (pv 3)) (Ag))) (Ag)))) (Ad (CA (Ad (Ac (pv 2)) (Ad (Ac (pv 3)) (Ag)))) (Ad (AR (Ad (Al) (Ad (Ac (pv 3)) (Ag)))) (Ad (AR (Ad (Al) (Ad (AR (Ag)) (Ag)))) (Ad (AR (Ad (CS) (Ad (AR (Ag)) (Ag)))) (Ad (AR (Ad (Ac (pv 2)) (Ag))) (Ad (AR (Ad (Ac (pv 2)) (Ad (Ac (pv 3)) (Ad (AR (Ag)) (Ag))))) (Ag))))))))))) (Au (AV (i:=9) sc__law_no_net.nd rfl (AJ A9 (Ac (pv 9)) (CA (Ad (FJ) (Ad (Al) (Ad (R6) (Ad (Ac (pv 3)) (Ad (AR (Ad (Ac (pv 2)) (Ad (ZK (Ac (pv 3))) (Ag)))) (Ad (AR (Ad (Ac (pv 2)) (Ad (AJ A9 (AJ A9 (Cn (Ac (pv 3)) (Ck) (Cm (Ac (pv 4)))) (Cn (Ac (pv 3)) (Ck) (Cm (Al)))) (Cn (Ac (pv 3)) (Cm (Ac (pv 4))) (Ck))) (Ag)))) (Ag)))))))))) (AD (A4 (AY (Ac (pv 9)) (AQ c__law_take hr A0 (Ad (Ac (pv 0)) (Ad (Bk FQ rfl B.n_len FW (Ad (Ac (pv 9)) (Ag))) (Ag)))) (fun _ _=>rfl))))))))))))
theorem Zbf {E5:List D→HD→Out D} {E4:List D→HD→Out D} {CD:List D→HD→Out D} (c__law_firsts:CaE P w K mg base "_law_firsts" 1 E5) (c__law_lots:CaE P w K mg base "_law_lots" 1 E4) (c__law_net_switched:CaE P w K mg base "_law_net_switched" 1 CD) (f:Addr) (cdv:Value) (A:Around) (outer:List Env) (s:Shared) (H:Hp) (E:XK) (hr:Room 1 (A.deeper (envOfC "_law_due" (defScope HE) s.heap.objs.size f cdv))):
 A8 (AZ (AK P w K) P w K mg base ["_law_one","_law_other","_law_firsts_here","_law_free","_law_picked","_law_lot_here"] "_law_due" (defScope HE) f cdv A outer s H E) E (defBody HE) (Mk E5 E4 CD):=
 Au (B8 (ES (FM (BL (D8 hr.units) (AY (Ac (pv 0)) (Al) (fun _ _=>rfl)) (AY (Ac (pv 1)) (Al) (fun _ _=>rfl)) (BK _)) (FL (BL (D8 hr.units) (Dc (Nc:=["_law_tie"]) (cs:=[none]) rfl (CSc.ok ⟨rfl,by decide +kernel,by kernel_rfl,by decide +kernel,rfl,by kernel_rfl⟩) (CZ (AY (Ac (pv 0)) (Al) (fun _ _=>rfl))) (Dx rfl) (fun C D cells fp s₀ H₀ pins=>⟨AI (i:=0) (show (["_law_tie"]:List Str).Nodup from by decide +kernel) rfl,DJ,Cn (Ac (pv 0)) (Ck) (Cm (Al))⟩)) (Dc (Nc:=["_law_tie"]) (cs:=[none]) rfl (CSc.ok ⟨rfl,by decide +kernel,by kernel_rfl,by decide +kernel,rfl,by kernel_rfl⟩) (CZ (AY (Ac (pv 1)) (Al) (fun _ _=>rfl))) (Dx rfl) (fun C D cells fp s₀ H₀ pins=>⟨AI (i:=0) (show (["_law_tie"]:List Str).Nodup from by decide +kernel) rfl,DJ,Cn (Ac (pv 0)) (Ck) (Cm (Al))⟩)) (BK _))))) (AD (A4 (FJ))) (B7)) (Au (AV (i:=2) sc__law_due.nd rfl (AQ c__law_firsts hr A0 (Ad (Ac (pv 0)) (Ag)))) (Au (AV (i:=3) sc__law_due.nd rfl (Dc (Nc:=["_law_place","_law_firsts_here"]) (cs:=[none,some 2]) rfl (CSc.ok ⟨rfl,by decide +kernel,by kernel_rfl,by decide +kernel,rfl,by kernel_rfl⟩) (DI rfl B.n_range (Ad (AY (Ac (pv 0)) (Al) (fun _ _=>rfl)) (Ag))) (Dx rfl) (fun C D cells fp s₀ H₀ pins=>⟨AI (i:=0) (show (["_law_place","_law_firsts_here"]:List Str).Nodup from by decide +kernel) rfl,JQ (BL Xb (Ac (pv 0)) (Ac (pv 1)) (by with_unfolding_all rfl)),Ac (pv 0)⟩))) (Au (Dm De rfl (CZ (AQ c__law_lots hr A0 (Ad (Bk FQ rfl B.n_len FW (Ad (Ac (pv 3)) (Ag))) (Ag)))) (EW (AI (i:=4) (sc__law_due.nd) rfl)) (Au (AV (i:=5) sc__law_due.nd rfl (DX Gj rfl B.n_tuple ED (Ad (Dc (Nc:=["_law_number","_law_free"]) (cs:=[none,some 3]) rfl (CSc.ok ⟨rfl,by decide +kernel,by kernel_rfl,by decide +kernel,rfl,by kernel_rfl⟩) (CZ (Ac (pv 4))) (Dx rfl) (fun C D cells fp s₀ H₀ pins=>⟨AI (i:=0) (show (["_law_number","_law_free"]:List Str).Nodup from by decide +kernel) rfl,DJ,AY (Ac (pv 1)) (Ac (pv 0)) (fun _ _=>rfl)⟩)) (Ag)))) (AD (B8 (BL (Fp hr.units) (AQ c__law_net_switched hr A0 (Ad (Ac (pv 0)) (Ad (Ac (pv 5)) (Ag)))) (Ac (pv 1)) (BK _)) (AD (A4 (Ac (pv 5)))) (B7))))) (AD (A4 (FJ))))))
theorem Zbg {CF:List D→HD→Out D} (c_is_between:CaE P w K mg base "is_between" 2 CF) (f:Addr) (cdv:Value) (A:Around) (outer:List Env) (s:Shared) (H:Hp) (E:XK) (hr:Room 2 (A.deeper (envOfC "is_light" (defScope HF) s.heap.objs.size f cdv))):
 A8 (AZ (AK P w K) P w K mg base ["thing"] "is_light" (defScope HF) f cdv A outer s H E) E (defBody HF) (O1 CF):=
 AD (A4 (AQ c_is_between hr A0 (Ad (Ac (pv 0)) (Ad (Al) (Ad (Al) (Ag))))))
theorem Zbh {AL:List D→HD→Out D} {Fw:List D→HD→Out D} (c__law_take:CaE P w K mg base "_law_take" 1 AL) (c__law_wide_box:CaE P w K mg base "_law_wide_box" 2 Fw) (f:Addr) (cdv:Value) (A:Around) (outer:List Env) (s:Shared) (H:Hp) (E:XK) (hr:Room 2 (A.deeper (envOfC "_law_net" (defScope HG) s.heap.objs.size f cdv))):
 A8 (AZ (AK P w K) P w K mg base ["_law_box_here","_law_many","_law_way","_law_digits","_law_some","_law_ties","_law_a","_law_b","_law_light"] "_law_net" (defScope HG) f cdv A outer s H E) E (defBody HG) (O2 AL Fw):=
 Au (NB (i:=1) (j:=2) rfl sc__law_net.nd rfl rfl (by decide) rfl rfl (Ad (AJ A9 (Al) (AQ c__law_take hr A0 (Ad (Ac (pv 0)) (Ad (Al) (Ag))))) (Ad (AQ c__law_take hr A0 (Ad (Ac (pv 0)) (Ad (Al) (Ag)))) (Ag))) (by first |rfl |with_unfolding_all rfl)) (Au (AV (i:=3) sc__law_net.nd rfl (AQ c__law_wide_box hr A0 (Ad (Ac (pv 0)) (Ag)))) (Au (QU (i:=4) (Nc:=["_law_place","_law_digits"]) (cs:=[none,some 3]) rfl sc__law_net.nd rfl (by first|exact .inl rfl|exact .inr rfl) (CSc.ok ⟨rfl,by decide +kernel,by kernel_rfl,by decide +kernel,rfl,by kernel_rfl⟩) (DI rfl B.n_range (Ad (Ac (pv 1)) (Ag))) (Dx rfl) (fun C D cells fp s₀ H₀ pins=>⟨AI (i:=0) (show (["_law_place","_law_digits"]:List Str).Nodup from by decide +kernel) rfl,DJ,AQ c__law_take hr Ls (Ad (Ac (pv 1)) (Ad (Al) (Ag)))⟩)) (Au (AV (i:=5) sc__law_net.nd rfl (CA (Ag))) (Au (Dm De rfl (DI rfl B.n_range (Ad (Ac (pv 1)) (Ag))) (EW (AI (i:=6) (sc__law_net.nd) rfl)) (AD (Dm De rfl (Xm rfl B.n_range (Ad (AJ A9 (Ac (pv 6)) (Al)) (Ad (Ac (pv 1)) (Ag)))) (EW (AI (i:=7) (sc__law_net.nd) rfl)) (Au (AV (i:=8) sc__law_net.nd rfl (AQ c__law_take hr A0 (Ad (Ac (pv 3)) (Ad (Al) (Ag))))) (Au (B8 (BL (Fp hr.units) (Ac (pv 2)) (Al) (BK _)) (AD (AV (i:=8) sc__law_net.nd rfl (AJ FO (AJ A9 (AY (Ac (pv 4)) (Ac (pv 6)) (fun _ _=>rfl)) (AY (Ac (pv 4)) (Ac (pv 7)) (fun _ _=>rfl))) (Al)))) (B7)) (AD (B8 (ES (Qp (BL W5 (AQ c__law_take hr A0 (Ad (Ac (pv 3)) (Ad (Al) (Ag)))) (Al) (BK _)) (Qo (ES (FM (BL (D8 hr.units) (Ac (pv 2)) (Al) (BK _)) (FL (Qt K8 Nw (Ac (pv 6)) (Al) (Ac (pv 7))))))))) (AD (GW (QZ (Ac (pv 5)) (AR (Ad (Ac (pv 6)) (Ad (Ac (pv 7)) (Ad (Ac (pv 8)) (Ag)))))))) (B7)))))))) (AD (A4 (AR (Ad (Ac (pv 1)) (Ad (DX Gj rfl B.n_tuple ED (Ad (Ac (pv 5)) (Ag))) (Ag))))))))))
theorem Zbi {CL:List D→HD→Out D} {Fx:List D→HD→Out D} (c_is_lot:CaE P w K mg base "is_lot" 2 CL) (c_is_light:CaE P w K mg base "is_light" 3 Fx) (f:Addr) (cdv:Value) (A:Around) (outer:List Env) (s:Shared) (H:Hp) (E:XK) (hr:Room 3 (A.deeper (envOfC "is_tie" (defScope HH) s.heap.objs.size f cdv))):
 A8 (AZ (AK P w K) P w K mg base ["thing","many"] "is_tie" (defScope HH) f cdv A outer s H E) E (defBody HH) (O3 CL Fx):=
 Au (B8 (ES (FM (EU (Es (Bk (Df et) rfl B.n_isinstance Dg (Ad (Ac (pv 0)) (Ad (G2 rfl B.n_tuple ED) (Ag)))))) (FL (BL (D8 hr.units) (Bk FQ rfl B.n_len FW (Ad (Ac (pv 0)) (Ag))) (Al) (BK _))))) (AD (A4 (CS))) (B7)) (AD (A4 (Nt (AQ c_is_lot hr A0 (Ad (Cn (Ac (pv 0)) (Ck) (Cm (Al))) (Ad (Ac (pv 1)) (Ag)))) (Nr (AQ c_is_light hr A0 (Ad (AY (Ac (pv 0)) (Al) (fun _ _=>rfl)) (Ag)))))))
theorem Zbj {CF:List D→HD→Out D} {Fy:List D→HD→Out D} (c_is_between:CaE P w K mg base "is_between" 2 CF) (c_is_tie:CaE P w K mg base "is_tie" 4 Fy) {t_MOST_PLACES:Tok} (m_MOST_PLACES:mg "MOST_PLACES"=some (.int 8 t_MOST_PLACES)) (f:Addr) (cdv:Value) (A:Around) (outer:List Env) (s:Shared) (H:Hp) (E:XK) (hr:Room 4 (A.deeper (envOfC "is_net" (defScope HI) s.heap.objs.size f cdv))):
 A8 (AZ (AK P w K) P w K mg base ["thing","many","ties"] "is_net" (defScope HI) f cdv A outer s H E) E (defBody HI) (O4 CF Fy):=
 Au (B8 (ES (FM (EU (Es (Bk (Df et) rfl B.n_isinstance Dg (Ad (Ac (pv 0)) (Ad (G2 rfl B.n_tuple ED) (Ag)))))) (FL (BL (D8 hr.units) (Bk FQ rfl B.n_len FW (Ad (Ac (pv 0)) (Ag))) (Al) (BK _))))) (AD (A4 (CS))) (B7)) (Au (IB (Ac (pv 0)) (GY (Gn rfl (AI (i:=1) (sc_is_net.nd) rfl) (AI (i:=2) (sc_is_net.nd) rfl)))) (Au (B8 (ES (FM (EU (Es (AQ c_is_between hr A0 (Ad (Ac (pv 1)) (Ad (Al) (Ad (W0 rfl m_MOST_PLACES) (Ag))))))) (FL (EU (Es (Bk (Df et) rfl B.n_isinstance Dg (Ad (Ac (pv 2)) (Ad (G2 rfl B.n_tuple ED) (Ag))))))))) (AD (A4 (CS))) (B7)) (Au (B8 (EU (Es (Bk (QY rfl) rfl B.n_all Th (Ad (Dc (Nc:=["tie","many"]) (cs:=[none,some 1]) rfl (CSc.ok ⟨rfl,by decide +kernel,by kernel_rfl,by decide +kernel,rfl,by kernel_rfl⟩) (CZ (Ac (pv 2))) (Dx rfl) (fun C D cells fp s₀ H₀ pins=>⟨AI (i:=0) (show (["tie","many"]:List Str).Nodup from by decide +kernel) rfl,DJ,AQ c_is_tie hr Ls (Ad (Ac (pv 0)) (Ad (Ac (pv 1)) (Ag)))⟩)) (Ag))))) (AD (A4 (CS))) (B7)) (AD (A4 (Bk (QY rfl) rfl B.n_all Th (Ad (Dc (Nc:=["ahead","tie"]) (cs:=[none,none]) rfl (CSc.ok ⟨rfl,by decide +kernel,by kernel_rfl,by decide +kernel,rfl,by kernel_rfl⟩) (RC rfl B.n_zip (Ad (Ac (pv 2)) (Ad (Cn (Ac (pv 2)) (Cm (Al)) (Ck)) (Ag)))) (Xx rfl rfl) (fun C D cells fp s₀ H₀ pins=>⟨Gn rfl (AI (i:=0) (show (["ahead","tie"]:List Str).Nodup from by decide +kernel) rfl) (AI (i:=1) (show (["ahead","tie"]:List Str).Nodup from by decide +kernel) rfl),DJ,GQ (ZG hr.units) (Cn (Ac (pv 0)) (Ck) (Cm (Al))) (Cn (Ac (pv 1)) (Ck) (Cm (Al))) (BK _)⟩)) (Ag))))))))
theorem Zbk {Cu:List D→HD→Out D} (c_is_net:CaE P w K mg base "is_net" 5 Cu) (f:Addr) (cdv:Value) (A:Around) (outer:List Env) (s:Shared) (H:Hp) (E:XK) (hr:Room 5 (A.deeper (envOfC "need_net" (defScope HJ) s.heap.objs.size f cdv))):
 A8 (AZ (AK P w K) P w K mg base ["thing"] "need_net" (defScope HJ) f cdv A outer s H E) E (defBody HJ) (Ml Cu):=
 AD (B8 (EU (Es (AQ c_is_net hr A0 (Ad (Ac (pv 0)) (Ag))))) (AD (RX et (by decide +kernel) (by decide +kernel) rfl rfl Rn (Ad (CV) (Ag)))) (B7))
theorem Zbl {Bv:List D→HD→Out D} {CL:List D→HD→Out D} (c_need_net:CaE P w K mg base "need_net" 6 Bv) (c_is_lot:CaE P w K mg base "is_lot" 2 CL) (f:Addr) (cdv:Value) (A:Around) (outer:List Env) (s:Shared) (H:Hp) (E:XK) (hr:Room 6 (A.deeper (envOfC "net_switched" (defScope HK) s.heap.objs.size f cdv))):
 A8 (AZ (AK P w K) P w K mg base ["net","lot","many","ties"] "net_switched" (defScope HK) f cdv A outer s H E) E (defBody HK) (O5 Bv CL):=
 Au (GW (AQ c_need_net hr A0 (Ad (Ac (pv 0)) (Ag)))) (Au (IB (Ac (pv 0)) (GY (Gn rfl (AI (i:=2) (sc_net_switched.nd) rfl) (AI (i:=3) (sc_net_switched.nd) rfl)))) (Au (B8 (EU (Es (AQ c_is_lot hr A0 (Ad (Ac (pv 1)) (Ad (Ac (pv 2)) (Ag)))))) (AD (RX et (by decide +kernel) (by decide +kernel) rfl rfl Rn (Ad (CV) (Ag)))) (B7)) (AD (A4 (AR (Ad (Ac (pv 2)) (Ad (DX Gj rfl B.n_tuple ED (Ad (Dc (Nc:=["a","b","light","lot"]) (cs:=[none,none,none,some 1]) rfl (CSc.ok ⟨rfl,by decide +kernel,by kernel_rfl,by decide +kernel,rfl,by kernel_rfl⟩) (CZ (Ac (pv 3))) (Se rfl rfl rfl) (fun C D cells fp s₀ H₀ pins=>⟨FH rfl (B6 (AI (i:=0) (show (["a","b","light","lot"]:List Str).Nodup from by decide +kernel) rfl) (B6 (AI (i:=1) (show (["a","b","light","lot"]:List Str).Nodup from by decide +kernel) rfl) (B6 (AI (i:=2) (show (["a","b","light","lot"]:List Str).Nodup from by decide +kernel) rfl) (FG)))),DJ,AR (Ad (Ac (pv 0)) (Ad (Ac (pv 1)) (Ad (Qr (BL (Fp hr.units) (GQ Lc (Ac (pv 0)) (Ac (pv 3)) (by with_unfolding_all rfl)) (GQ Lc (Ac (pv 1)) (Ac (pv 3)) (by with_unfolding_all rfl)) (BK _)) (Ac (pv 2)) (AJ Qu (Al) (Ac (pv 2)))) (Ag))))⟩)) (Ag))) (Ag))))))))
theorem Zbm {Bv:List D→HD→Out D} {DN:List D→HD→Out D} {Ec:List D→HD→Out D} {Ed:List D→HD→Out D} {DM:List D→HD→Out D} {Ef:List D→HD→Out D} (c_need_net:CaE P w K mg base "need_net" 6 Bv) (c_pairs_of:CaE P w K mg base "pairs_of" 1 DN) (c_lights_of:CaE P w K mg base "lights_of" 1 Ec) (c_paths_of:CaE P w K mg base "paths_of" 1 Ed) (c_lit_along:CaE P w K mg base "lit_along" 1 DM) (c_net_switched:CaE P w K mg base "net_switched" 7 Ef) (f:Addr) (cdv:Value) (A:Around) (outer:List Env) (s:Shared) (H:Hp) (E:XK) (hr:Room 7 (A.deeper (envOfC "net_lot" (defScope HL) s.heap.objs.size f cdv))):
 A8 (AZ (AK P w K) P w K mg base ["one","other","many","turns","paths","lot"] "net_lot" (defScope HL) f cdv A outer s H E) E (defBody HL) (Je Bv DN Ec Ed DM Ef):=
 Au (GW (AQ c_need_net hr A0 (Ad (Ac (pv 0)) (Ag)))) (Au (GW (AQ c_need_net hr A0 (Ad (Ac (pv 1)) (Ag)))) (Au (AV (i:=2) sc_net_lot.nd rfl (AY (Ac (pv 0)) (Al) (fun _ _=>rfl))) (Au (B8 (ES (FM (BL (D8 hr.units) (Ac (pv 2)) (AY (Ac (pv 1)) (Al) (fun _ _=>rfl)) (BK _)) (FL (BL (D8 hr.units) (AQ c_pairs_of hr A0 (Ad (Ac (pv 0)) (Ag))) (AQ c_pairs_of hr A0 (Ad (Ac (pv 1)) (Ag))) (BK _))))) (AD (A4 (FJ))) (B7)) (Au (AV (i:=3) sc_net_lot.nd rfl (AQ c_lights_of hr A0 (Ad (Dc (Nc:=["tie","a","b","light"]) (cs:=[none,none,none,none]) rfl (CSc.ok ⟨rfl,by decide +kernel,by kernel_rfl,by decide +kernel,rfl,by kernel_rfl⟩) (RC rfl B.n_zip (Ad (AY (Ac (pv 0)) (Al) (fun _ _=>rfl)) (Ad (AY (Ac (pv 1)) (Al) (fun _ _=>rfl)) (Ag)))) (Zav rfl rfl rfl rfl) (fun C D cells fp s₀ H₀ pins=>⟨FH rfl (B6 (FH rfl (B6 (AI (i:=1) (show (["tie","a","b","light"]:List Str).Nodup from by decide +kernel) rfl) (B6 (AI (i:=2) (show (["tie","a","b","light"]:List Str).Nodup from by decide +kernel) rfl) (B6 (AI (i:=3) (show (["tie","a","b","light"]:List Str).Nodup from by decide +kernel) rfl) (FG))))) (B6 (AI (i:=0) (show (["tie","a","b","light"]:List Str).Nodup from by decide +kernel) rfl) (FG))),DJ,AR (Ad (Ac (pv 1)) (Ad (Ac (pv 2)) (Ad (AJ FO (AJ A9 (Ac (pv 3)) (AY (Ac (pv 0)) (Al) (fun _ _=>rfl))) (Al)) (Ag))))⟩)) (Ag)))) (Au (AV (i:=4) sc_net_lot.nd rfl (AQ c_paths_of hr A0 (Ad (Ac (pv 2)) (Ad (Ac (pv 3)) (Ag))))) (Au (AV (i:=5) sc_net_lot.nd rfl (DX Gj rfl B.n_tuple ED (Ad (Dc (Nc:=["place","turns","paths"]) (cs:=[none,some 3,some 4]) rfl (CSc.ok ⟨rfl,by decide +kernel,by kernel_rfl,by decide +kernel,rfl,by kernel_rfl⟩) (DI rfl B.n_range (Ad (Ac (pv 2)) (Ag))) (Dx rfl) (fun C D cells fp s₀ H₀ pins=>⟨AI (i:=0) (show (["place","turns","paths"]:List Str).Nodup from by decide +kernel) rfl,JQ (BL (Fp hr.units) (AJ FO (AQ c_lit_along hr Ls (Ad (Ac (pv 1)) (Ad (Td hr.units (Ac (pv 2)) (Ac (pv 0)) (fun _ _=>rfl)) (Ag)))) (Al)) (Al) (BK _)),Ac (pv 0)⟩)) (Ag)))) (AD (A4 (Qr (BL (Fp hr.units) (AQ c_net_switched hr A0 (Ad (Ac (pv 0)) (Ad (Ac (pv 5)) (Ag)))) (Ac (pv 1)) (BK _)) (Ac (pv 5)) (FJ))))))))))
theorem Zbn {Bv:List D→HD→Out D} {BN:List D→HD→Out D} (c_need_net:CaE P w K mg base "need_net" 6 Bv) (c_net_lot:CaE P w K mg base "net_lot" 8 BN) (f:Addr) (cdv:Value) (A:Around) (outer:List Env) (s:Shared) (H:Hp) (E:XK) (hr:Room 8 (A.deeper (envOfC "is_quiet" (defScope HM) s.heap.objs.size f cdv))):
 A8 (AZ (AK P w K) P w K mg base ["net","many","ties"] "is_quiet" (defScope HM) f cdv A outer s H E) E (defBody HM) (Mm Bv BN):=
 Au (GW (AQ c_need_net hr A0 (Ad (Ac (pv 0)) (Ag)))) (Au (IB (Ac (pv 0)) (GY (Gn rfl (AI (i:=1) (sc_is_quiet.nd) rfl) (AI (i:=2) (sc_is_quiet.nd) rfl)))) (AD (A4 (GQ Nx (AQ c_net_lot hr A0 (Ad (Ac (pv 0)) (Ad (AR (Ad (Ac (pv 1)) (Ad (DX Gj rfl B.n_tuple ED (Ad (Dc (Nc:=["a","b","light"]) (cs:=[none,none,none]) rfl (CSc.ok ⟨rfl,by decide +kernel,by kernel_rfl,by decide +kernel,rfl,by kernel_rfl⟩) (CZ (Ac (pv 2))) (Se rfl rfl rfl) (fun C D cells fp s₀ H₀ pins=>⟨FH rfl (B6 (AI (i:=0) (show (["a","b","light"]:List Str).Nodup from by decide +kernel) rfl) (B6 (AI (i:=1) (show (["a","b","light"]:List Str).Nodup from by decide +kernel) rfl) (B6 (AI (i:=2) (show (["a","b","light"]:List Str).Nodup from by decide +kernel) rfl) (FG)))),DJ,AR (Ad (Ac (pv 0)) (Ad (Ac (pv 1)) (Ad (Al) (Ag))))⟩)) (Ag))) (Ag)))) (Ag)))) (FJ) (BK _)))))
theorem Zbo {E6:List D→HD→Out D} {Ee:List D→HD→Out D} {E7:List D→HD→Out D} {CD:List D→HD→Out D} {AL:List D→HD→Out D} {BN:List D→HD→Out D} {Dh:List D→HD→Out D} {Ds:List D→HD→Out D} {E8:List D→HD→Out D} {Cu:List D→HD→Out D} {Dr:List D→HD→Out D} (c__law_box:CaE P w K mg base "_law_box" 2 E6) (c__law_net:CaE P w K mg base "_law_net" 3 Ee) (c__law_lot:CaE P w K mg base "_law_lot" 2 E7) (c__law_net_switched:CaE P w K mg base "_law_net_switched" 1 CD) (c__law_take:CaE P w K mg base "_law_take" 1 AL) (c_net_lot:CaE P w K mg base "net_lot" 8 BN) (c__law_due:CaE P w K mg base "_law_due" 2 Dh) (c_is_quiet:CaE P w K mg base "is_quiet" 9 Ds) (c__law_no_net:CaE P w K mg base "_law_no_net" 2 E8) (c_is_net:CaE P w K mg base "is_net" 5 Cu) (c__law_kind:CaM P w K mg base "_law_kind" 1 Dr) {cT T fsd:Addr} {fdd:FuncData} (htp:tabP K=some (cT,T)) (hcd:PySem.W.codeHdIn K cT T=true) (hbm:I0 mg base) (Sd:SaidD K mg Ka fsd fdd) (f:Addr) (A:Around) (outer:List Env) (s:Shared) (H:Hp) (E:XK) (hr:Room 11 (A.deeper (envOfC "law" (defScope s_law) s.heap.objs.size f (.ref cT)))):
 A8 (AZ (AK P w K) P w K mg base ["_law_script","_law_k","_law_box_here","_law_net_here","_law_other","_law_way","_law_at","_law_ties","_law_one","_law_two","_law_dark","_law_turn","_law_none","_law_told"] "law" (defScope s_law) f (.ref cT) A outer s H E) E (defBody s_law) (Mn E6 Ee E7 CD AL BN Dh Ds E8 Cu Dr):=
 have LX:LamX (AZ (AK P w K) P w K mg base ["_law_script","_law_k","_law_box_here","_law_net_here","_law_other","_law_way","_law_at","_law_ties","_law_one","_law_two","_law_dark","_law_turn","_law_none","_law_told"] "law" (defScope s_law) f (.ref cT) A outer s H E) cT T:=⟨rfl,htp,hcd,(show ("law":Str)++".<locals>."=("law.<locals>.":Str) by decide +kernel),hbm⟩
 Au (Dm De rfl (DI rfl B.n_range (Ad (Bk (Xi rfl) rfl B.n_max ZaM (Ad (Al) (Ad (Bk (Qy rfl) rfl B.n_min Ti (Ad (Bk FQ rfl B.n_len FW (Ad (Ac (pv 0)) (Ag))) (Ad (Al) (Ag)))) (Ag)))) (Ag))) (EW (AI (i:=1) (sc_law.nd) rfl)) (Au (AV (i:=2) sc_law.nd rfl (AQ c__law_box hr A0 (Ad (Ac (pv 0)) (Ad (Ac (pv 1)) (Ag))))) (Au (AV (i:=3) sc_law.nd rfl (AQ c__law_net hr A0 (Ad (Ac (pv 2)) (Ag)))) (Au (AV (i:=4) sc_law.nd rfl (AQ c__law_net_switched hr A0 (Ad (Ac (pv 3)) (Ad (AQ c__law_lot hr A0 (Ad (Ac (pv 2)) (Ad (AY (Ac (pv 3)) (Al) (fun _ _=>rfl)) (Ag)))) (Ag))))) (Au (NB (i:=5) (j:=6) rfl sc_law.nd rfl rfl (by decide) rfl rfl (Ad (AQ c__law_take hr A0 (Ad (Ac (pv 2)) (Ad (Al) (Ag)))) (Ad (AQ c__law_take hr A0 (Ad (Ac (pv 2)) (Ad (AJ A9 (Bk FQ rfl B.n_len FW (Ad (AY (Ac (pv 3)) (Al) (fun _ _=>rfl)) (Ag))) (Al)) (Ag)))) (Ag))) (by first |rfl |with_unfolding_all rfl)) (Au (AV (i:=7) sc_law.nd rfl (AY (Ac (pv 4)) (Al) (fun _ _=>rfl))) (Au (B8 (ES (Qp (BL (Fp hr.units) (Ac (pv 5)) (Al) (BK _)) (Qo (BL (D8 hr.units) (Ac (pv 7)) (AR (Ag)) (BK _))))) (Au (AV (i:=6) sc_law.nd rfl (AJ FO (Ac (pv 6)) (Bk FQ rfl B.n_len FW (Ad (Ac (pv 7)) (Ag))))) (AD (AV (i:=4) sc_law.nd rfl (AR (Ad (AY (Ac (pv 4)) (Al) (fun _ _=>rfl)) (Ad (AJ A9 (AJ A9 (Cn (Ac (pv 7)) (Ck) (Cm (Ac (pv 6)))) (AR (Ad (AJ A9 (Cn (AY (Ac (pv 7)) (Ac (pv 6)) (fun _ _=>rfl)) (Ck) (Cm (Al))) (AR (Ad (AJ Qu (Al) (AY (AY (Ac (pv 7)) (Ac (pv 6)) (fun _ _=>rfl)) (Al) (fun _ _=>rfl))) (Ag)))) (Ag)))) (Cn (Ac (pv 7)) (Cm (AJ A9 (Ac (pv 6)) (Al))) (Ck))) (Ag))))))) (B7)) (Au (B8 (BL (Fp hr.units) (Ac (pv 5)) (Al) (BK _)) (AD (AV (i:=4) sc_law.nd rfl (AR (Ad (AY (Ac (pv 4)) (Al) (fun _ _=>rfl)) (Ad (AJ A9 (Cn (Ac (pv 7)) (Ck) (Cm (Ac (pv 6)))) (Cn (Ac (pv 7)) (Cm (AJ A9 (Ac (pv 6)) (Al))) (Ck))) (Ag)))))) (B7)) (Au (Dm De rfl (CZ (CA (Ad (AR (Ad (Ac (pv 3)) (Ad (Ac (pv 4)) (Ag)))) (Ad (AR (Ad (Ac (pv 4)) (Ad (Ac (pv 3)) (Ag)))) (Ad (AR (Ad (Ac (pv 3)) (Ad (Ac (pv 3)) (Ag)))) (Ad (AR (Ad (Ac (pv 3)) (Ad (AQ c__law_net hr A0 (Ad (Ac (pv 2)) (Ag))) (Ag)))) (Ag))))))) (GY (Gn rfl (AI (i:=8) (sc_law.nd) rfl) (AI (i:=9) (sc_law.nd) rfl))) (AD (B8 (BL (D8 hr.units) (Bk (LJ hr.units hr.gd) rfl B.n_repr Mh (Ad (AQ c_net_lot hr A0 (Ad (Ac (pv 8)) (Ad (Ac (pv 9)) (Ag)))) (Ag))) (Bk (LJ hr.units hr.gd) rfl B.n_repr Mh (Ad (AQ c__law_due hr A0 (Ad (Ac (pv 8)) (Ad (Ac (pv 9)) (Ag)))) (Ag))) (BK _)) (AD (A4 (CS))) (B7)))) (Au (AV (i:=10) sc_law.nd rfl (AR (Ad (AY (Ac (pv 3)) (Al) (fun _ _=>rfl)) (Ad (DX Gj rfl B.n_tuple ED (Ad (Dc (Nc:=["_law_tie"]) (cs:=[none]) rfl (CSc.ok ⟨rfl,by decide +kernel,by kernel_rfl,by decide +kernel,rfl,by kernel_rfl⟩) (CZ (AY (Ac (pv 3)) (Al) (fun _ _=>rfl))) (Dx rfl) (fun C D cells fp s₀ H₀ pins=>⟨AI (i:=0) (show (["_law_tie"]:List Str).Nodup from by decide +kernel) rfl,DJ,AJ A9 (Cn (Ac (pv 0)) (Ck) (Cm (Al))) (AR (Ad (Al) (Ag)))⟩)) (Ag))) (Ag))))) (Au (B8 (ES (FM (BL (D8 hr.units) (Bk (LJ hr.units hr.gd) rfl B.n_repr Mh (Ad (AQ c_is_quiet hr A0 (Ad (Ac (pv 3)) (Ag))) (Ag))) (Bk (LJ hr.units hr.gd) rfl B.n_repr Mh (Ad (GQ Nx (AQ c__law_due hr A0 (Ad (Ac (pv 3)) (Ad (Ac (pv 10)) (Ag)))) (FJ) (BK _)) (Ag))) (BK _)) (FL (BL Nx (AQ c_is_quiet hr A0 (Ad (Ac (pv 10)) (Ag))) (CS) (BK _))))) (AD (A4 (CS))) (B7)) (AD (Dm De rfl (DI rfl B.n_range (Ad (Al) (Ag))) (EW (AI (i:=11) (sc_law.nd) rfl)) (Au (AV (i:=12) sc_law.nd rfl (AQ c__law_no_net hr A0 (Ad (Ac (pv 2)) (Ad (Ac (pv 3)) (Ag))))) (Au (AV (i:=13) sc_law.nd rfl (RZ (Nc:=["_law_none"]) (cs:=[12]) LX (fun _=>rfl) hr JU et Sd Tj (CaM.mono (k:=9) c__law_kind (by decide)) ⟨⟨rfl,rfl,rfl,by kernel_rfl⟩,by decide +kernel,by kernel_rfl,rfl,by kernel_rfl⟩ (fun a cd cl A outer s H E' hr=>AQ c_is_quiet hr RP (Ad (Ac (pv 0)) (Ag))) rfl)) (Au (B8 (BL (D8 hr.units) (Ac (pv 13)) (AY (CA (Ad (CV) (Ad (CV) (Ag)))) (DX NA rfl B.n_int Mg (Ad (AQ c_is_net hr A0 (Ad (Ac (pv 12)) (Ag))) (Ag))) (fun _ _=>rfl)) (BK _)) (AD (A4 (CS))) (B7)) (AD (Dm De rfl (CZ (CA (Ad (AR (Ad (Ac (pv 12)) (Ad (Ac (pv 3)) (Ag)))) (Ad (AR (Ad (Ac (pv 3)) (Ad (Ac (pv 12)) (Ag)))) (Ad (AR (Ad (Ac (pv 12)) (Ad (Ac (pv 12)) (Ag)))) (Ag)))))) (GY (Gn rfl (AI (i:=8) (sc_law.nd) rfl) (AI (i:=9) (sc_law.nd) rfl))) (AD (B8 (BL (D8 hr.units) (RZ (Nc:=["_law_one","_law_two"]) (cs:=[8,9]) LX (fun _=>rfl) hr JU et Sd Tj (CaM.mono (k:=9) c__law_kind (by decide)) ⟨⟨rfl,rfl,rfl,by kernel_rfl⟩,by decide +kernel,by kernel_rfl,rfl,by kernel_rfl⟩ (fun a cd cl A outer s H E' hr=>AQ c_net_lot hr RP (Ad (Ac (pv 0)) (Ad (Ac (pv 1)) (Ag)))) rfl) (Ac (pv 13)) (BK _)) (AD (A4 (CS))) (B7))))))))))))))))))))) (AD (A4 (CS)))
noncomputable def Co:List D→HD→Out D:=fun ds h=>if ds.length=1 then Az 1 (OK) ds h else .stuck
theorem Zbp {f:Addr} {fd:FuncData} (D:Dn K mg "is_whole" ["thing"] Hj f fd):CaE P w K mg base "is_whole" 1 Co:=
 ⟨f,fd,_,BZ D.fn ZaO (fun ds h e=>if_neg e) (fun ds h e=>if_pos e) (fun cdv A outer s H E hr=>ZaX B et f cdv A outer s H E hr),D.bd,D.mg,D.fn.kp⟩
noncomputable def Ec:List D→HD→Out D:=fun ds h=>if ds.length=1 then Az 5 (OL) ds h else .stuck
theorem Zbq {f:Addr} {fd:FuncData} (D:Dn K mg "lights_of" ["ties"] Hk f fd):CaE P w K mg base "lights_of" 1 Ec:=
 ⟨f,fd,_,BZ D.fn sc_lights_of (fun ds h e=>if_neg e) (fun ds h e=>if_pos e) (fun cdv A outer s H E hr=>ZaY B et f cdv A outer s H E hr),D.bd,D.mg,D.fn.kp⟩
noncomputable def Ed:List D→HD→Out D:=fun ds h=>if ds.length=2 then Az 7 (OM) ds h else .stuck
theorem Zbr {f:Addr} {fd:FuncData} (D:Dn K mg "paths_of" ["many","lights"] Hl f fd):CaE P w K mg base "paths_of" 1 Ed:=
 ⟨f,fd,_,BZ D.fn sc_paths_of (fun ds h e=>if_neg e) (fun ds h e=>if_pos e) (fun cdv A outer s H E hr=>ZaZ B et f cdv A outer s H E hr),D.bd,D.mg,D.fn.kp⟩
noncomputable def DM:List D→HD→Out D:=fun ds h=>if ds.length=2 then Az 2 (ON) ds h else .stuck
theorem Zbs {f:Addr} {fd:FuncData} (D:Dn K mg "lit_along" ["lights","path"] Hm f fd):CaE P w K mg base "lit_along" 1 DM:=
 ⟨f,fd,_,BZ D.fn ZaP (fun ds h e=>if_neg e) (fun ds h e=>if_pos e) (fun cdv A outer s H E hr=>Za0 B et f cdv A outer s H E hr),D.bd,D.mg,D.fn.kp⟩
noncomputable def DN:List D→HD→Out D:=fun ds h=>if ds.length=1 then Az 1 (OO) ds h else .stuck
theorem Zbt {f:Addr} {fd:FuncData} (D:Dn K mg "pairs_of" ["net"] Hn f fd):CaE P w K mg base "pairs_of" 1 DN:=
 ⟨f,fd,_,BZ D.fn ZaQ (fun ds h e=>if_neg e) (fun ds h e=>if_pos e) (fun cdv A outer s H E hr=>Za1 B et f cdv A outer s H E hr),D.bd,D.mg,D.fn.kp⟩
noncomputable def Fu:List D→HD→Out D:=fun ds h=>if ds.length=2 then Az 2 (Mi) ds h else .stuck
theorem Zbu {f:Addr} {fd:FuncData} (D:Dn K mg "_law_cell" ["_law_script","_law_k"] Ho f fd):CaE P w K mg base "_law_cell" 1 Fu:=
 ⟨f,fd,_,BZ D.fn ZaR (fun ds h e=>if_neg e) (fun ds h e=>if_pos e) (fun cdv A outer s H E hr=>Za2 B et f cdv A outer s H E hr),D.bd,D.mg,D.fn.kp⟩
noncomputable def Fv:List D→HD→Out D:=fun ds h=>if ds.length=2 then Az 3 (OP) ds h else .stuck
theorem Zbv {f:Addr} {fd:FuncData} (D:Dn K mg "_law_mix" ["_law_cell_here","_law_k"] Hq f fd):CaE P w K mg base "_law_mix" 1 Fv:=
 ⟨f,fd,_,BZ D.fn sc__law_mix (fun ds h e=>if_neg e) (fun ds h e=>if_pos e) (fun cdv A outer s H E hr=>Za3 B et f cdv A outer s H E hr),D.bd,D.mg,D.fn.kp⟩
noncomputable def AL:List D→HD→Out D:=fun ds h=>if ds.length=2 then Az 4 (OQ) ds h else .stuck
theorem Zbw {f:Addr} {fd:FuncData} (D:Dn K mg "_law_take" ["_law_box_here","_law_many"] Hr f fd):CaE P w K mg base "_law_take" 1 AL:=
 ⟨f,fd,_,BZ D.fn sc__law_take (fun ds h e=>if_neg e) (fun ds h e=>if_pos e) (fun cdv A outer s H E hr=>Za4 B et f cdv A outer s H E hr),D.bd,D.mg,D.fn.kp⟩
noncomputable def Dr:List D→HD→Out D:=fun ds h=>if ds.length=1 then Az 3 (OR) ds h else .stuck
theorem Zbx {f:Addr} {fd:FuncData} (D:Dn K mg "_law_kind" ["_law_e"] Hs f fd):CaM P w K mg base "_law_kind" 1 Dr:=
 ⟨f,fd,_,YY D.fn sc__law_kind (fun ds h e=>if_neg e) (fun ds h e=>if_pos e) (fun cdv A outer s H hr=>Za5 B et f cdv A outer s H hr),D.bd,D.mg,D.fn.kp,fun ds h e=>if_neg e⟩
noncomputable def E4:List D→HD→Out D:=fun ds h=>if ds.length=1 then Az 3 (OT) ds h else .stuck
theorem Zby {f:Addr} {fd:FuncData} (D:Dn K mg "_law_lots" ["_law_size"] Ht f fd):CaE P w K mg base "_law_lots" 1 E4:=
 ⟨f,fd,_,BZ D.fn sc__law_lots (fun ds h e=>if_neg e) (fun ds h e=>if_pos e) (fun cdv A outer s H E hr=>Za6 B et f cdv A outer s H E hr),D.bd,D.mg,D.fn.kp⟩
noncomputable def CD:List D→HD→Out D:=fun ds h=>if ds.length=2 then Az 6 (OU) ds h else .stuck
theorem Zbz {f:Addr} {fd:FuncData} (D:Dn K mg "_law_net_switched" ["_law_net_here","_law_lot_here"] Hu f fd):CaE P w K mg base "_law_net_switched" 1 CD:=
 ⟨f,fd,_,BZ D.fn sc__law_net_switched (fun ds h e=>if_neg e) (fun ds h e=>if_pos e) (fun cdv A outer s H E hr=>Za7 B et f cdv A outer s H E hr),D.bd,D.mg,D.fn.kp⟩
noncomputable def E5:List D→HD→Out D:=fun ds h=>if ds.length=1 then Az 6 (OV) ds h else .stuck
theorem ZbA {f:Addr} {fd:FuncData} (D:Dn K mg "_law_firsts" ["_law_net_here"] Hv f fd):CaE P w K mg base "_law_firsts" 1 E5:=
 ⟨f,fd,_,BZ D.fn sc__law_firsts (fun ds h e=>if_neg e) (fun ds h e=>if_pos e) (fun cdv A outer s H E hr=>Za8 B et f cdv A outer s H E hr),D.bd,D.mg,D.fn.kp⟩
noncomputable def CF:List D→HD→Out D:=fun ds h=>if ds.length=3 then Az 3 (Mj Co) ds h else .stuck
theorem ZbB (c_is_whole:CaE P w K mg base "is_whole" 1 Co) {f:Addr} {fd:FuncData} (D:Dn K mg "is_between" ["thing","least","most"] Hw f fd):CaE P w K mg base "is_between" 2 CF:=
 ⟨f,fd,_,BZ D.fn ZaS (fun ds h e=>if_neg e) (fun ds h e=>if_pos e) (fun cdv A outer s H E hr=>Za9 B et c_is_whole f cdv A outer s H E hr),D.bd,D.mg,D.fn.kp⟩
noncomputable def CL:List D→HD→Out D:=fun ds h=>if ds.length=2 then Az 4 (OW Co) ds h else .stuck
theorem ZbC (c_is_whole:CaE P w K mg base "is_whole" 1 Co) {f:Addr} {fd:FuncData} (D:Dn K mg "is_lot" ["thing","size"] Hx f fd):CaE P w K mg base "is_lot" 2 CL:=
 ⟨f,fd,_,BZ D.fn sc_is_lot (fun ds h e=>if_neg e) (fun ds h e=>if_pos e) (fun cdv A outer s H E hr=>Zba B et c_is_whole f cdv A outer s H E hr),D.bd,D.mg,D.fn.kp⟩
noncomputable def E6:List D→HD→Out D:=fun ds h=>if ds.length=2 then Az 5 (OX Fu Fv) ds h else .stuck
theorem ZbD (c__law_cell:CaE P w K mg base "_law_cell" 1 Fu) (c__law_mix:CaE P w K mg base "_law_mix" 1 Fv) {f:Addr} {fd:FuncData} (D:Dn K mg "_law_box" ["_law_script","_law_k"] Hz f fd):CaE P w K mg base "_law_box" 2 E6:=
 ⟨f,fd,_,BZ D.fn sc__law_box (fun ds h e=>if_neg e) (fun ds h e=>if_pos e) (fun cdv A outer s H E hr=>Zbb B et c__law_cell c__law_mix f cdv A outer s H E hr),D.bd,D.mg,D.fn.kp⟩
noncomputable def Fw:List D→HD→Out D:=fun ds h=>if ds.length=1 then Az 4 (OY AL) ds h else .stuck
theorem ZbE (c__law_take:CaE P w K mg base "_law_take" 1 AL) {f:Addr} {fd:FuncData} (D:Dn K mg "_law_wide_box" ["_law_box_here"] HA f fd):CaE P w K mg base "_law_wide_box" 2 Fw:=
 ⟨f,fd,_,BZ D.fn sc__law_wide_box (fun ds h e=>if_neg e) (fun ds h e=>if_pos e) (fun cdv A outer s H E hr=>Zbc B et c__law_take f cdv A outer s H E hr),D.bd,D.mg,D.fn.kp⟩
noncomputable def E7:List D→HD→Out D:=fun ds h=>if ds.length=2 then Az 2 (OZ AL) ds h else .stuck
theorem ZbF (c__law_take:CaE P w K mg base "_law_take" 1 AL) {f:Addr} {fd:FuncData} (D:Dn K mg "_law_lot" ["_law_box_here","_law_size"] HB f fd):CaE P w K mg base "_law_lot" 2 E7:=
 ⟨f,fd,_,BZ D.fn ZaT (fun ds h e=>if_neg e) (fun ds h e=>if_pos e) (fun cdv A outer s H E hr=>Zbd B et c__law_take f cdv A outer s H E hr),D.bd,D.mg,D.fn.kp⟩
noncomputable def E8:List D→HD→Out D:=fun ds h=>if ds.length=2 then Az 10 (O0 AL) ds h else .stuck
theorem ZbG (c__law_take:CaE P w K mg base "_law_take" 1 AL) {f:Addr} {fd:FuncData} (D:Dn K mg "_law_no_net" ["_law_box_here","_law_net_here"] HC f fd):CaE P w K mg base "_law_no_net" 2 E8:=
 ⟨f,fd,_,BZ D.fn sc__law_no_net (fun ds h e=>if_neg e) (fun ds h e=>if_pos e) (fun cdv A outer s H E hr=>Zbe B et c__law_take f cdv A outer s H E hr),D.bd,D.mg,D.fn.kp⟩
noncomputable def Dh:List D→HD→Out D:=fun ds h=>if ds.length=2 then Az 6 (Mk E5 E4 CD) ds h else .stuck
theorem ZbH (c__law_firsts:CaE P w K mg base "_law_firsts" 1 E5) (c__law_lots:CaE P w K mg base "_law_lots" 1 E4) (c__law_net_switched:CaE P w K mg base "_law_net_switched" 1 CD) {f:Addr} {fd:FuncData} (D:Dn K mg "_law_due" ["_law_one","_law_other"] HE f fd):CaE P w K mg base "_law_due" 2 Dh:=
 ⟨f,fd,_,BZ D.fn sc__law_due (fun ds h e=>if_neg e) (fun ds h e=>if_pos e) (fun cdv A outer s H E hr=>Zbf B et c__law_firsts c__law_lots c__law_net_switched f cdv A outer s H E hr),D.bd,D.mg,D.fn.kp⟩
noncomputable def Fx:List D→HD→Out D:=fun ds h=>if ds.length=1 then Az 1 (O1 CF) ds h else .stuck
theorem ZbI (c_is_between:CaE P w K mg base "is_between" 2 CF) {f:Addr} {fd:FuncData} (D:Dn K mg "is_light" ["thing"] HF f fd):CaE P w K mg base "is_light" 3 Fx:=
 ⟨f,fd,_,BZ D.fn ZaU (fun ds h e=>if_neg e) (fun ds h e=>if_pos e) (fun cdv A outer s H E hr=>Zbg B et c_is_between f cdv A outer s H E hr),D.bd,D.mg,D.fn.kp⟩
noncomputable def Ee:List D→HD→Out D:=fun ds h=>if ds.length=1 then Az 9 (O2 AL Fw) ds h else .stuck
theorem ZbJ (c__law_take:CaE P w K mg base "_law_take" 1 AL) (c__law_wide_box:CaE P w K mg base "_law_wide_box" 2 Fw) {f:Addr} {fd:FuncData} (D:Dn K mg "_law_net" ["_law_box_here"] HG f fd):CaE P w K mg base "_law_net" 3 Ee:=
 ⟨f,fd,_,BZ D.fn sc__law_net (fun ds h e=>if_neg e) (fun ds h e=>if_pos e) (fun cdv A outer s H E hr=>Zbh B et c__law_take c__law_wide_box f cdv A outer s H E hr),D.bd,D.mg,D.fn.kp⟩
noncomputable def Fy:List D→HD→Out D:=fun ds h=>if ds.length=2 then Az 2 (O3 CL Fx) ds h else .stuck
theorem ZbK (c_is_lot:CaE P w K mg base "is_lot" 2 CL) (c_is_light:CaE P w K mg base "is_light" 3 Fx) {f:Addr} {fd:FuncData} (D:Dn K mg "is_tie" ["thing","many"] HH f fd):CaE P w K mg base "is_tie" 4 Fy:=
 ⟨f,fd,_,BZ D.fn ZaV (fun ds h e=>if_neg e) (fun ds h e=>if_pos e) (fun cdv A outer s H E hr=>Zbi B et c_is_lot c_is_light f cdv A outer s H E hr),D.bd,D.mg,D.fn.kp⟩
noncomputable def Cu:List D→HD→Out D:=fun ds h=>if ds.length=1 then Az 3 (O4 CF Fy) ds h else .stuck
theorem ZbL (c_is_between:CaE P w K mg base "is_between" 2 CF) (c_is_tie:CaE P w K mg base "is_tie" 4 Fy) {t_MOST_PLACES:Tok} (m_MOST_PLACES:mg "MOST_PLACES"=some (.int 8 t_MOST_PLACES)) {f:Addr} {fd:FuncData} (D:Dn K mg "is_net" ["thing"] HI f fd):CaE P w K mg base "is_net" 5 Cu:=
 ⟨f,fd,_,BZ D.fn sc_is_net (fun ds h e=>if_neg e) (fun ds h e=>if_pos e) (fun cdv A outer s H E hr=>Zbj B et c_is_between c_is_tie m_MOST_PLACES f cdv A outer s H E hr),D.bd,D.mg,D.fn.kp⟩
noncomputable def Bv:List D→HD→Out D:=fun ds h=>if ds.length=1 then Az 1 (Ml Cu) ds h else .stuck
theorem ZbM (c_is_net:CaE P w K mg base "is_net" 5 Cu) {f:Addr} {fd:FuncData} (D:Dn K mg "need_net" ["thing"] HJ f fd):CaE P w K mg base "need_net" 6 Bv:=
 ⟨f,fd,_,BZ D.fn ZaW (fun ds h e=>if_neg e) (fun ds h e=>if_pos e) (fun cdv A outer s H E hr=>Zbk B et c_is_net f cdv A outer s H E hr),D.bd,D.mg,D.fn.kp⟩
noncomputable def Ef:List D→HD→Out D:=fun ds h=>if ds.length=2 then Az 4 (O5 Bv CL) ds h else .stuck
theorem ZbN (c_need_net:CaE P w K mg base "need_net" 6 Bv) (c_is_lot:CaE P w K mg base "is_lot" 2 CL) {f:Addr} {fd:FuncData} (D:Dn K mg "net_switched" ["net","lot"] HK f fd):CaE P w K mg base "net_switched" 7 Ef:=
 ⟨f,fd,_,BZ D.fn sc_net_switched (fun ds h e=>if_neg e) (fun ds h e=>if_pos e) (fun cdv A outer s H E hr=>Zbl B et c_need_net c_is_lot f cdv A outer s H E hr),D.bd,D.mg,D.fn.kp⟩
noncomputable def BN:List D→HD→Out D:=fun ds h=>if ds.length=2 then Az 6 (Je Bv DN Ec Ed DM Ef) ds h else .stuck
theorem ZbO (c_need_net:CaE P w K mg base "need_net" 6 Bv) (c_pairs_of:CaE P w K mg base "pairs_of" 1 DN) (c_lights_of:CaE P w K mg base "lights_of" 1 Ec) (c_paths_of:CaE P w K mg base "paths_of" 1 Ed) (c_lit_along:CaE P w K mg base "lit_along" 1 DM) (c_net_switched:CaE P w K mg base "net_switched" 7 Ef) {f:Addr} {fd:FuncData} (D:Dn K mg "net_lot" ["one","other"] HL f fd):CaE P w K mg base "net_lot" 8 BN:=
 ⟨f,fd,_,BZ D.fn sc_net_lot (fun ds h e=>if_neg e) (fun ds h e=>if_pos e) (fun cdv A outer s H E hr=>Zbm B et c_need_net c_pairs_of c_lights_of c_paths_of c_lit_along c_net_switched f cdv A outer s H E hr),D.bd,D.mg,D.fn.kp⟩
noncomputable def Ds:List D→HD→Out D:=fun ds h=>if ds.length=1 then Az 3 (Mm Bv BN) ds h else .stuck
theorem ZbP (c_need_net:CaE P w K mg base "need_net" 6 Bv) (c_net_lot:CaE P w K mg base "net_lot" 8 BN) {f:Addr} {fd:FuncData} (D:Dn K mg "is_quiet" ["net"] HM f fd):CaE P w K mg base "is_quiet" 9 Ds:=
 ⟨f,fd,_,BZ D.fn sc_is_quiet (fun ds h e=>if_neg e) (fun ds h e=>if_pos e) (fun cdv A outer s H E hr=>Zbn B et c_need_net c_net_lot f cdv A outer s H E hr),D.bd,D.mg,D.fn.kp⟩
noncomputable def F_law:List D→HD→Out D:=fun ds h=>if ds.length=1 then Az 14 (Mn E6 Ee E7 CD AL BN Dh Ds E8 Cu Dr) ds h else .stuck
end
end LK
namespace LK
abbrev Br:=Nat×List Nat
def HN (A:List Br) (e:Nat):Option (List Nat):=(A.find? fun x=>decide (x.1=e)).map (·.2)
def has (A:List Br) (e:Nat):Bool:=A.any fun x=>decide (x.1=e)
def Gx (n:Nat) (adj:Nat→Nat→Bool) (e:Nat) (p:List Nat):List (List Nat):=((List.range n).filter (adj e)).map fun v=>p++[v]
theorem has_iff {A:List Br} {e:Nat}:has A e=true↔∃p,(e,p)∈A:=by
 unfold has
 rw [qbF]
 constructor
 ·rintro ⟨⟨e',p⟩,hm,h⟩
  have:=of_decide_eq_true h
  simp only at this
  subst this
  exact ⟨p,hm⟩
 ·rintro ⟨p,hm⟩
  exact ⟨(e,p),hm,decide_eq_true rfl⟩
structure Forest (n:Nat) (adj:Nat→Nat→Bool) (A:List Br):Prop where
 lt:∀e p,(e,p)∈A→e<n
 tr:∀e p,(e,p)∈A→p=[e]∨∃r q,(r,q)∈A∧adj r e=true∧p=q++[e]
 nd:∀e p,(e,p)∈A→p.Nodup
 pf:∀e p,(e,p)∈A→∀x∈p,∃q,(x,q)∈A∧q <+:p
 ky:(A.map (·.1)).Nodup
theorem Forest.one {n:Nat} {adj:Nat→Nat→Bool} {A:List Br} (F:Forest n adj A) {e:Nat} {p q:List Nat} (h1:(e,p)∈A) (h2:(e,q)∈A):p=q:=by
 have key:∀(l:List Br),(l.map (·.1)).Nodup→(e,p)∈l→(e,q)∈l→p=q:=fun l=>by
  induction l with
  |nil=>intro _ h;cases h
  |cons x l ih=>
   intro nd h1 h2
   rw [Bx,qbQ] at nd
   rcases qa5.mp h1 with z1 |z1
   ·rcases qa5.mp h2 with z2 |z2
    ·rw [←z1] at z2;cases z2;rfl
    ·subst z1;exact absurd (qaL.mpr ⟨_,z2,rfl⟩) nd.1
   ·rcases qa5.mp h2 with z2 |z2
    ·subst z2;exact absurd (qaL.mpr ⟨_,z1,rfl⟩) nd.1
    ·exact ih nd.2 z1 z2
 exact key A F.ky h1 h2
theorem Forest.last {n:Nat} {adj:Nat→Nat→Bool} {A:List Br} (F:Forest n adj A) {e:Nat} {p:List Nat} (h:(e,p)∈A):∃q,p=q++[e]:=by
 rcases F.tr e p h with rfl |⟨r,q,_,_,rfl⟩
 ·exact ⟨[],rfl⟩
 ·exact ⟨q,rfl⟩
theorem Forest.nil {n:Nat} {adj:Nat→Nat→Bool}:Forest n adj []:=⟨fun _ _ h=>(nomatch h),fun _ _ h=>(nomatch h),fun _ _ h=>(nomatch h),fun _ _ h=>(nomatch h),List.nodup_nil⟩
theorem Forest.add {n:Nat} {adj:Nat→Nat→Bool} {A:List Br} (F:Forest n adj A) {e:Nat} {p:List Nat} (he:e<n) (hn:has A e=false) (hp:p=[e]∨∃r q,(r,q)∈A∧adj r e=true∧p=q++[e]):Forest n adj (A++[(e,p)]):=by
 have hno:∀q,(e,q)∉A:=fun q z=>by
  have:=has_iff.mpr ⟨q,z⟩
  rw [hn] at this
  cases this
 refine ⟨fun e' p' h=>?_,fun e' p' h=>?_,fun e' p' h=>?_,fun e' p' h x hx=>?_,?_⟩
 ·rcases qaK.mp h with z |z
  ·exact F.lt _ _ z
  ·rw [qaA] at z;cases z;exact he
 ·rcases qaK.mp h with z |z
  ·rcases F.tr _ _ z with w |⟨r,q,h1,h2,h3⟩
   ·exact .inl w
   ·exact .inr ⟨r,q,CG _ h1,h2,h3⟩
  ·rw [qaA] at z
   cases z
   rcases hp with w |⟨r,q,h1,h2,h3⟩
   ·exact .inl w
   ·exact .inr ⟨r,q,CG _ h1,h2,h3⟩
 ·rcases qaK.mp h with z |z
  ·exact F.nd _ _ z
  ·rw [qaA] at z
   cases z
   rcases hp with rfl |⟨r,q,h1,h2,rfl⟩
   ·simp
   ·rw [Jn]
    refine ⟨F.nd _ _ h1,by simp,fun a ha b hb=>?_⟩
    rw [qaA] at hb
    subst hb
    rintro rfl
    obtain ⟨q',hq,_⟩:=F.pf _ _ h1 _ ha
    exact hno _ hq
 ·rcases qaK.mp h with z |z
  ·obtain ⟨q,h1,h2⟩:=F.pf _ _ z x hx
   exact ⟨q,CG _ h1,h2⟩
  ·rw [qaA] at z
   cases z
   rcases hp with rfl |⟨r,q,h1,h2,rfl⟩
   ·rw [qaA] at hx
    subst hx
    exact ⟨_,BI _ (qaA.mpr rfl),AC _⟩
   ·rcases qaK.mp hx with y |y
    ·obtain ⟨q',h3,h4⟩:=F.pf _ _ h1 x y
     exact ⟨q',CG _ h3,h4.trans (GG _ _)⟩
    ·rw [qaA] at y
     subst y
     exact ⟨_,BI _ (qaA.mpr rfl),AC _⟩
 ·rw [Em,Jn]
  refine ⟨F.ky,by simp,fun a ha b hb=>?_⟩
  simp at hb
  subst hb
  rintro rfl
  obtain ⟨⟨e',q⟩,h1,h2⟩:=qaL.mp ha
  simp only at h2
  subst h2
  exact hno _ h1
def EF (n:Nat) (adj:Nat→Nat→Bool) (A:List Br):Prop:=∀a pa,(a,pa)∈A→∀b,b<n→adj a b=true→∃pb,(b,pb)∈A∧pb.head?=pa.head?
structure Walk (n:Nat) (adj:Nat→Nat→Bool) (r:Nat) (O N:List Br) (S:List (List Nat)):Prop where
 F:Forest n adj (O++N)
 ro:∀e p,(e,p)∈N→p.head?=some r
 nb:∀a pa,(a,pa)∈N→∀b,b<n→adj a b=true→(∃pb,(b,pb)∈O++N)∨∃q,q++[b]∈S
 st:∀w∈S,w=[r]∨∃a q v,(a,q)∈N∧adj a v=true∧v<n∧w=q++[v]
 at':(∃p,(r,p)∈O++N)∨[r]∈S
section
variable {n r:Nat} {adj:Nat→Nat→Bool} {O N:List Br} {S:List (List Nat)}
theorem Walk.start (F:Forest n adj O):Walk n adj r O [] [[r]]:=⟨by rwa [El],fun _ _ h=>(nomatch h),fun _ _ h=>(nomatch h),fun w hw=>.inl (qaA.mp hw),.inr (qaA.mpr rfl)⟩
theorem Walk.skip {q:List Nat} {e:Nat} (W:Walk n adj r O N (S++[q++[e]])) (h:has (O++N) e=true):Walk n adj r O N S:=by
 have hin:∀(b:Nat) (q':List Nat),q'++[b]∈S++[q++[e]]→(∃pb,(b,pb)∈O++N)∨q'++[b]∈S:=fun b q' z=>by
  rcases qaK.mp z with z |z
  ·exact .inr z
  ·rw [qaA] at z
   have:=(GJ z rfl).2
   cases this
   exact .inl (has_iff.mp h)
 refine ⟨W.F,W.ro,fun a pa ha b hb hab=>?_,fun w hw=>W.st w (CG _ hw),?_⟩
 ·rcases W.nb a pa ha b hb hab with z |⟨q',z⟩
  ·exact .inl z
  ·rcases hin b q' z with y |y
   ·exact .inl y
   ·exact .inr ⟨q',y⟩
 ·rcases W.at' with z |z
  ·exact .inl z
  ·rcases hin r [] z with y |y
   ·exact .inl y
   ·exact .inr y
theorem Walk.take {q:List Nat} {e:Nat} (hr:r<n) (W:Walk n adj r O N (S++[q++[e]])) (h:has (O++N) e=false):e<n∧Walk n adj r O (N++[(e,q++[e])]) (S++Gx n adj e (q++[e])):=by
 have hw:=W.st (q++[e]) (BI _ (qaA.mpr rfl))
 have hp:q++[e]=[e]∨∃a q',(a,q')∈O++N∧adj a e=true∧q++[e]=q'++[e]:=by
  rcases hw with z |⟨a,q',v,h1,h2,h3,h4⟩
  ·have:=(GJ (s₁:=q) (s₂:=[]) z rfl)
   rw [this.1]
   exact .inl rfl
  ·have:=GJ h4 rfl
   have e2:e=v:=by have:=this.2;cases this;rfl
   subst e2
   exact .inr ⟨a,q',BI _ h1,h2,h4⟩
 have he:e<n:=by
  rcases hw with z |⟨a,q',v,h1,h2,h3,h4⟩
  ·have:=(GJ (s₁:=q) (s₂:=[]) z rfl).2
   cases this
   exact hr
  ·have:=(GJ h4 rfl).2
   cases this
   exact h3
 have hro:(q++[e]).head?=some r:=by
  rcases hw with z |⟨a,q',v,h1,h2,h3,h4⟩
  ·rw [z];rfl
  ·have hq:=W.ro _ _ h1
   rw [h4]
   cases q' with
   |nil=>cases hq
   |cons x xs=>exact hq
 refine ⟨he,?_,fun e' p h'=>?_,fun a pa ha b hb hab=>?_,fun w hw'=>?_,?_⟩
 ·rw [←Jm]
  exact W.F.add he h hp
 ·rcases qaK.mp h' with z |z
  ·exact W.ro _ _ z
  ·rw [qaA] at z;cases z;exact hro
 ·rcases qaK.mp ha with z |z
  ·rcases W.nb a pa z b hb hab with ⟨pb,y⟩ |⟨q',y⟩
   ·exact .inl ⟨pb,by rw [←Jm];exact CG _ y⟩
   ·rcases qaK.mp y with y |y
    ·exact .inr ⟨q',CG _ y⟩
    ·rw [qaA] at y
     have:=(GJ y rfl).2
     cases this
     exact .inl ⟨_,BI _ (BI _ (qaA.mpr rfl))⟩
  ·rw [qaA] at z
   cases z
   refine .inr ⟨q++[e],BI _ ?_⟩
   unfold Gx
   exact qaL.mpr ⟨b,qb8.mpr ⟨qaY.mpr hb,hab⟩,rfl⟩
 ·rcases qaK.mp hw' with z |z
  ·rcases W.st w (CG _ z) with y |⟨a,q',v,h1,h2,h3,h4⟩
   ·exact .inl y
   ·exact .inr ⟨a,q',v,CG _ h1,h2,h3,h4⟩
  ·unfold Gx at z
   obtain ⟨v,hv,rfl⟩:=qaL.mp z
   have:=qb8.mp hv
   exact .inr ⟨e,q++[e],v,BI _ (qaA.mpr rfl),this.2,qaY.mp this.1,rfl⟩
 ·rcases W.at' with ⟨p,z⟩ |z
  ·exact .inl ⟨p,by rw [←Jm];exact CG _ z⟩
  ·rcases qaK.mp z with z |z
   ·exact .inr (CG _ z)
   ·rw [qaA] at z
    have:=(GJ (s₁:=([]:List Nat)) (s₂:=q) z rfl)
    have e2:r=e:=by have:=this.2;cases this;rfl
    subst e2
    exact .inl ⟨_,BI _ (BI _ (qaA.mpr rfl))⟩
theorem Walk.done (sy:∀a b,adj a b=adj b a) (C:EF n adj O) (W:Walk n adj r O N []):EF n adj (O++N)∧∃p,(r,p)∈O++N:=by
 refine ⟨fun a pa ha b hb hab=>?_,?_⟩
 ·rcases qaK.mp ha with z |z
  ·obtain ⟨pb,h1,h2⟩:=C a pa z b hb hab
   exact ⟨pb,CG _ h1,h2⟩
  ·rcases W.nb a pa z b hb hab with ⟨pb,y⟩ |⟨q,y⟩
   ·rcases qaK.mp y with y |y
    ·obtain ⟨pa',h1,_⟩:=C b pb y a (W.F.lt _ _ ha) (by rw [sy];exact hab)
     have nd:=W.F.ky
     rw [Em,Jn] at nd
     exact absurd rfl (nd.2.2 a (qaL.mpr ⟨_,h1,rfl⟩) a (qaL.mpr ⟨_,z,rfl⟩))
    ·exact ⟨pb,BI _ y,by rw [W.ro _ _ y,W.ro _ _ z]⟩
   ·cases y
 ·rcases W.at' with z |z
  ·exact z
  ·cases z
end
end LK
namespace LK
open PySem PySem.Spec PyProof.Rows L2 LS
theorem _root_.LS.Sm.len {h h':HD} (s:Sm h h'):h.length≤h'.length:=by
 cases e:h.length with
 |zero=>exact B5 _
 |succ n=>
  have hn:n<h.length:=by omega
  have:=s n h[n] (Ba hn)
  have:=(qa3.mp this).1
  omega
theorem sz {n:Nat} (hn:n≤8):(List.range n).length≤sizeLine:=by
 rw [Ga];unfold sizeLine;omega
open PySem.Builtin.Int in
theorem ZbQ {ns:List Int} {k:Nat} (hb:∀i∈ns,Builtin.Int.intBits i≤2^20) (hk:k≤1000):∃c:Int,Builtin.Int.intBits c≤2^20∧∀h,Pu (Fu [.scr ns,.int (k:Nat)] h) h (.int c):=by
 by_cases hl:k<ns.length
 ·refine ⟨ns[k],hb _ (Ib hl),fun h=>?_⟩
  change Wp (Az 2 Mi [.scr ns,.int (k:Nat)] h) _
  refine Eq.mpr (Bu) ?_
  have:(k:Int)<ns.length:=by omega
  simp [this]
  refine Ao (XY (Ba hl)) ?_
  simp [Sm.refl]
 ·refine ⟨6151*(k:Int)+29,?_,fun h=>?_⟩
  ·rw [intBits_le_iff]
   have h1:(6151*(k:Int)+29).natAbs<2^30:=by omega
   exact A1 h1 (Nat.pow_le_pow_right (by decide) (by omega))
  ·change Wp (Az 2 Mi [.scr ns,.int (k:Nat)] h) _
   refine Eq.mpr (Bu) ?_
   have:¬(k:Int)<ns.length:=by omega
   simp [this]
   rw [NV (by decide) (by decide)]
   simp [Sm.refl]
def Tn (c:Int) (k:Nat):Int:=(((c+1)*40692+104729*(k:Int))*((c+1)*40692+104729*(k:Int))) % 2147483399+(k:Int)
theorem To {h:HD}:G0 [.int 24] h=.ok ((List.range 24).map fun k=>D.int ((k:Nat):Int),[]) h:=D3 (n:=24) (by decide)
theorem ZbR {c:Int} {k:Nat} (hc:Builtin.Int.intBits c≤2^20) (hk:k≤1000):∃r:Int,∀h,Pu (Fv [.int c,.int (k:Nat)] h) h (.int r):=by
 refine ⟨Tn c k*(Tn c k+31) % 2147483563,fun h=>?_⟩
 change Wp (Az 3 OP [.int c,.int (k:Nat)] h) _
 refine Eq.mpr (Bu) ?_
 have bX:Builtin.Int.intBits ((c+1)*40692+104729*(k:Int))≤16777216:=by
  have hk':Builtin.Int.intBits ((k:Nat):Int)≤10:=PySem.intBits_le_iff.mpr (by omega)
  have:=PySem.intBits_add_le (PySem.intBits_mul_le (PySem.intBits_add_le hc (show Builtin.Int.intBits 1≤1 by decide)) (show Builtin.Int.intBits 40692≤16 by decide)) (PySem.intBits_mul_le (show Builtin.Int.intBits 104729≤17 by decide) hk')
  exact BP this (by decide)
 have h1:=Int.emod_nonneg (((c+1)*40692+104729*(k:Int))*((c+1)*40692+104729*(k:Int))) (show (2147483399:Int)≠0 by decide)
 have h2:=Int.emod_lt_of_pos (((c+1)*40692+104729*(k:Int))*((c+1)*40692+104729*(k:Int))) (show (0:Int)<2147483399 by decide)
 simp
 rw [Lm (by decide) (by decide)]
 simp
 rw [NV (by decide) (by decide)]
 simp
 rw [XZ bX bX]
 simp
 rw [FS (by decide)]
 simp
 rw [NV (by omega) (by omega)]
 simp
 rw [FS (by decide)]
 simp
 exact ⟨rfl,.refl _⟩
def BoxAt (h:HD) (b:Nat):Prop:=∃n:Int,h[b]?=some (.lst [.int n])
inductive Tq (ns:List Int) (k:Nat) (c:Int) (h:HD) (xs:List Nat) (ρ:Ai) (h':HD):Prop where
 |mk (N:Int) (x:Option D) (f0:ρ=[some (.scr ns),some (.int (k:Nat)),some (.int c),some (.int N),x]) (f1:Sm h h') (f2:∀j∈xs,j<24):Tq ns k c h xs ρ h'
theorem ZbS {ns:List Int} {k:Nat} {h:HD} {Q:D→HD→Prop} (hb:∀i∈ns,Builtin.Int.intBits i≤2^20) (hk:k≤1000) (q:∀l h',BoxAt h' l→h.length≤l→Sm h h'→Q (.loc l) h'):Wp (E6 [.scr ns,.int (k:Nat)] h) Q:=by
 change Wp (Az 5 (OX Fu Fv) [.scr ns,.int (k:Nat)] h) _
 refine Eq.mpr (Bu) ?_
 obtain ⟨c,bc,pc⟩:=ZbQ (k:=k) hb hk
 simp
 refine (pc h).wp fun h1 s1=>?_
 rw [FS (by decide)]
 simp
 by_cases hz:c % 2=0
 ·simp [hz]
  rw [X0 (by decide) (by decide)]
  simp
  exact BC (by simp) fun l h' s e el _=>q l h' ⟨_,e⟩ (by have:=s1.len;omega) (s1.trans s)
 ·simp [hz]
  refine Do (src:=[]) (xs:=List.range 24) (fun i=>.int ((i:Nat):Int)) (Tq ns k c h) ?_ (fun ys ρ h' _=>CC) ?_ ?_
  ·simp [To]
   exact ⟨_,_,rfl,s1,fun j hj=>qaY.mp hj⟩
  ·rintro x xs ρ h' ⟨N,y,rfl,sh,hx⟩
   refine ⟨_,rfl,?_⟩
   obtain ⟨m,pm⟩:=ZbR (k:=x) bc (by have:=hx x Bf;omega)
   simp
   rw [Lm (by decide) (by decide)]
   simp
   refine (pm h').wp fun h2 s2=>?_
   simp [B2]
   exact ⟨_,_,rfl,sh.trans s2,fun j hj=>hx j (Bn _ hj)⟩
  ·rintro ρ h' ⟨N,y,rfl,sh,_⟩
   simp
   exact BC (by simp) fun l h' s e el _=>q l h' ⟨_,e⟩ (by have:=sh.len;omega) (sh.trans s)
def Smx (b:Nat) (h h':HD):Prop:=∀(l:Nat) (c:DE),l≠b→h[l]?=some c→h'[l]?=some c
theorem Smx.refl (b:Nat) (h:HD):Smx b h h:=fun _ _ _ e=>e
theorem Smx.trans {b:Nat} {h h1 h2:HD} (a:Smx b h h1) (c:Smx b h1 h2):Smx b h h2:=fun l x n e=>c l x n (a l x n e)
theorem Fz {b:Nat} {h h':HD} (s:Sm h h'):Smx b h h':=fun l c _ e=>s l c e
theorem HP {b:Nat} {m:Int} {h:HD} {Q:D→HD→Prop} (hx:BoxAt h b) (h1:0<m) (h2:m<18446744073709551616) (q:∀d h',0≤d→d<m→BoxAt h' b→Smx b h h'→Q (.int d) h'):Wp (AL [.loc b,.int m] h) Q:=by
 change Wp (Az 4 OQ [.loc b,.int m] h) _
 refine Eq.mpr (Bu) ?_
 obtain ⟨N,e⟩:=hx
 simp
 rw [show (0:Int)=((0:Nat):Int) from rfl]
 refine Ao (D7 e (k:=0) rfl) ?_
 simp
 refine Ao (X3 h1 h2) ?_
 simp
 rw [show (0:Int)=((0:Nat):Int) from rfl]
 refine Ao (NU e (by simp)) ?_
 simp
 have hl:b<h.length:=(qa3.mp e).1
 refine q _ _ (Int.emod_nonneg _ (by omega)) (Int.emod_lt_of_pos _ h1) ⟨_,by rw [Cf hl]⟩ fun l c ne el=>?_
 rw [B4 (Ne.symm ne)]
 exact el
theorem BoxAt.sm {b:Nat} {h h':HD} (x:BoxAt h b) (s:Sm h h'):BoxAt h' b:=let ⟨n,e⟩:=x;⟨n,s _ _ e⟩
theorem BoxAt.smx {a b:Nat} {h h':HD} (x:BoxAt h b) (s:Smx a h h') (ne:b≠a):BoxAt h' b:=let ⟨n,e⟩:=x;⟨n,s _ _ ne e⟩
theorem BoxAt.new {b:Nat} {h:HD} {c:DE} (x:BoxAt h b):BoxAt (h++[c]) b:=x.sm (.app _ _)
def Plain (h:HD):D→Prop
 |.int _=>True
 |.bl _=>True
 |.non=>True
 |.str _=>True
 |.tup _=>True
 |.edic=>True
 |.loc l=>∃ds,h[l]?=some (.lst ds)
 |_=>False
theorem Plain.sm {h h':HD} {d:D} (p:Plain h d) (s:Sm h h'):Plain h' d:=by
 cases d with
 |loc l=>obtain ⟨ds,e⟩:=p;exact ⟨ds,s _ _ e⟩
 |_=>exact p
def Bw:D→List D
 |.tup ds=>ds
 |_=>[]
def Plain2 (h:HD) (d:D):Prop:=Plain h d∧∀x∈Bw d,Plain h x
def Plain3 (h:HD) (d:D):Prop:=Plain h d∧∀x∈Bw d,Plain2 h x
theorem Plain2.sm {h h':HD} {d:D} (p:Plain2 h d) (s:Sm h h'):Plain2 h' d:=⟨p.1.sm s,fun x hx=>(p.2 x hx).sm s⟩
theorem Plain3.sm {h h':HD} {d:D} (p:Plain3 h d) (s:Sm h h'):Plain3 h' d:=⟨p.1.sm s,fun x hx=>(p.2 x hx).sm s⟩
def HQ:D→Bool
 |.int i=>decide (0≤i)&&decide (i≤1)
 |_=>false
def Tr:D→Bool
 |.tup ds=>decide (1≤ds.length)&&decide (ds.length≤8)
 |_=>false
def Ts (d:D):Bool:=Tr d&&(Bw d).all HQ
def O6 (d:D):Nat:=(Bw d).length
def ZbT (d:D):Bool:=Tr d&&(Bw d).all Ts&&(Bw d).all fun x=>O6 x==O6 ((Bw d).getD 0 .non)
theorem p_is_between_int {i a b:Int} {h:HD}:Pu (CF [.int i,.int a,.int b] h) h (.bl (decide (a≤i)&&decide (i≤b))):=by
 change Wp (Az 3 (Mj Co) [.int i,.int a,.int b] h) _
 refine Eq.mpr (Bu) ?_
 have e:Co [.int i] h=.ok (.bl true) h:=rfl
 simp [e]
 by_cases h1:a≤i<;>simp [h1,AE,Sm.refl]
theorem Tt {d:D} {a b:Int} {h:HD} (e:Co [d] h=.ok (.bl false) h):Pu (CF [d,.int a,.int b] h) h (.bl false):=by
 change Wp (Az 3 (Mj Co) [d,.int a,.int b] h) _
 refine Eq.mpr (Bu) ?_
 simp [e,Sm.refl]
def E9:D→Bool
 |.int _=>true
 |_=>false
theorem O7 {d:D} {h:HD} (p:Plain h d):Co [d] h=.ok (.bl (E9 d)) h:=by
 cases d with
 |loc l=>
  obtain ⟨ds,e⟩:=p
  have i1:AX (.loc l) (.ty "int") h=.ok (.bl false) h:=Zo e
  have w:Wp (Az 1 OK [.loc l] h) fun d h'=>d=.bl false∧h'=h:=by
   refine Eq.mpr Bu ?_
   simp [-Zn,i1]
  obtain ⟨a,h',e',rfl,rfl⟩:=Wp.ex w
  exact e'
 |tup ds=>rfl
 |int i=>rfl
 |bl b=>rfl
 |non=>rfl
 |str x=>rfl
 |edic=>rfl
 |_=>exact p.elim
theorem HU {d:D} (h:E9 d=true):∃i,d=.int i:=by cases d<;>first |exact ⟨_,rfl⟩ |cases h
theorem ZbU {d:D} {h:HD} (p:Plain h d):Pu (Fx [d] h) h (.bl (HQ d)):=by
 change Wp (Az 1 (O1 CF) [d] h) _
 refine Eq.mpr Bu ?_
 simp
 cases hw:E9 d with
 |true=>
  obtain ⟨i,rfl⟩:=HU hw
  exact p_is_between_int.wp fun h' s=>⟨rfl,s⟩
 |false=>
  have e:=O7 p
  rw [hw] at e
  have e2:HQ d=false:=by cases d<;>first |rfl |cases hw
  exact (Tt e).wp fun h' s=>⟨by rw [e2],s⟩
def EG:D→Bool
 |.tup _=>true
 |_=>false
theorem Mo {d:D} {h:HD} (p:Plain h d):AX d (.ty "tuple") h=.ok (.bl (EG d)) h:=by
 cases d with
 |loc l=>obtain ⟨ds,e⟩:=p;exact Zp e
 |tup ds=>rfl
 |int i=>rfl
 |bl b=>rfl
 |non=>rfl
 |str x=>rfl
 |edic=>rfl
 |_=>exact p.elim
theorem HV {d:D} (h:EG d=true):∃ds,d=.tup ds:=by cases d<;>first |exact ⟨_,rfl⟩ |cases h
def lit (x:Bool):D:=.int (if x then 1 else 0)
def O8 (w:Nat) (f:Nat→Bool):D:=.tup ((List.range w).map fun j=>lit (f j))
def bD (h w:Nat) (f:Nat→Nat→Bool):D:=.tup ((List.range h).map fun i=>O8 w (f i))
section
variable {H W:Nat} {h:HD} {f:Nat→Nat→Bool} {r:Nat→Bool}
theorem ZbV {x:Bool}:HQ (lit x)=true:=by cases x<;>rfl
end
section
variable {h:HD}
theorem ZbW:K9 (.int 10) (.int 29) h=.ok (.int (10^29)) h:=by
 simp only [K9,LS.intD]
 rw [if_pos (by decide)]
 rfl
variable {H W:Nat} {f:Nat→Nat→Bool} {r:Nat→Bool}
def ZgF (h:HD) (H W:Nat) (x:D):Prop:=Plain2 h x∧(Ts x=false∨(1<H∧O6 x≠W))
def ZgG (H W:Nat) (f:Nat→Nat→Bool) (A:Nat) (x:D):D:=.tup (((List.range H).map fun i=>O8 W (f i)).take A++[x]++((List.range H).map fun i=>O8 W (f i)).drop (A+1))
def NoB (h:HD) (d:D):Prop:=Plain3 h d∧ZbT d=false
theorem NoB.sm {h':HD} {d:D} (n:NoB h d) (s:Sm h h'):NoB h' d:=⟨n.1.sm s,n.2⟩
end
theorem Plain.smx {b:Nat} {h h':HD} {d:D} (p:Plain h d) (s:Smx b h h') (x:BoxAt h' b):Plain h' d:=by
 cases d with
 |loc l=>
  obtain ⟨ds,e⟩:=p
  by_cases hl:l=b
  ·obtain ⟨n,e'⟩:=x
   exact ⟨_,hl ▸ e'⟩
  ·exact ⟨ds,s _ _ hl e⟩
 |_=>exact p
theorem Plain2.smx {b:Nat} {h h':HD} {d:D} (p:Plain2 h d) (s:Smx b h h') (x:BoxAt h' b):Plain2 h' d:=⟨p.1.smx s x,fun y hy=>(p.2 y hy).smx s x⟩
theorem Plain3.smx {b:Nat} {h h':HD} {d:D} (p:Plain3 h d) (s:Smx b h h') (x:BoxAt h' b):Plain3 h' d:=⟨p.1.smx s x,fun y hy=>(p.2 y hy).smx s x⟩
theorem NoB.smx {b:Nat} {h h':HD} {d:D} (n:NoB h d) (s:Smx b h h') (x:BoxAt h' b):NoB h' d:=⟨n.1.smx s x,n.2⟩
def TabAt (h:HD):Prop:=h[0]?=some .tab
theorem TabAt.sm {h h':HD} (t:TabAt h) (s:Sm h h'):TabAt h':=s _ _ t
theorem TabAt.smx {b:Nat} {h h':HD} (t:TabAt h) (s:Smx b h h') (hb:0<b):TabAt h':=s _ _ (by omega) t
theorem TabAt.pos {h:HD} (t:TabAt h):0<h.length:=(qa3.mp t).1
theorem HW {b:Nat} {m:Int} {h:HD} {Q:D→HD→Prop} (hx:BoxAt h b) (hb:0<b) (ht:TabAt h) (h1:0<m) (h2:m≤1000) (q:∀(d:Nat) h',(d:Int)<m→BoxAt h' b→TabAt h'→Smx b h h'→Q (.int (d:Nat)) h'):Wp (AL [.loc b,.int m] h) Q:=
 HP hx (by omega) (by omega) fun d h' d0 d1 x s=>by
  obtain ⟨k,rfl⟩:∃k:Nat,d=(k:Int):=⟨d.toNat,by omega⟩
  exact q k h' (by omega) x (ht.smx s hb) s
theorem BoxAt.lt {b:Nat} {h:HD} (x:BoxAt h b):b<h.length:=let ⟨_,e⟩:=x;(qa3.mp e).1
@[simp] theorem ZgH {ρ:Ai} {a b:D} {i j:Nat}:Ez [i,j] (.tup [a,b]) ρ=some ((ρ.set i (some a)).set j (some b)):=id rfl
theorem EH {xs ys:List D} {h:HD} (hz:xs.length+ys.length≤1000):Ax (.tup xs) (.tup ys) h=.ok (.tup (xs++ys)) h:=by
 simp only [Ax]
 rw [if_pos (by unfold sizeLine;omega)]
theorem A6 {P:D→Prop}:∀d∈([]:List D),P d:=fun d hd=>by cases hd
theorem all_cons {P:D→Prop} {a:D} {l:List D} (h:P a) (t:∀d∈l,P d):∀d∈a::l,P d:=fun d hd=>by
 rcases qa5.mp hd with rfl |hd
 ·exact h
 ·exact t d hd
theorem DO {P:D→Prop} {l r:List D} (h:∀d∈l,P d) (t:∀d∈r,P d):∀d∈l++r,P d:=fun d hd=>by
 rcases qaK.mp hd with hd |hd
 ·exact h d hd
 ·exact t d hd
theorem ZbX (P:D→Prop) {l o:Nat} {ds:List D} {h:HD} (e:h[l]?=some (.lst ds)) (ho:o<ds.length) (hp:∀d∈ds,P d):∃y,As (.loc l) (.int (o:Nat)) h=.ok y h∧P y:=
 ⟨ds[o],D7 e (Ba ho),hp _ (Ib ho)⟩
theorem Jf {h:HD} {d:D} (p:Plain h d) (e:Bw d=[]):Plain2 h d:=⟨p,fun x hx=>by rw [e] at hx;cases hx⟩
theorem Gy {h:HD} {d:D} (p:Plain h d) (e:Bw d=[]):Plain3 h d:=⟨p,fun x hx=>by rw [e] at hx;cases hx⟩
theorem ZbY {R:List D} {h:HD}:Hg (.tup R) h=CH R h:=rfl
theorem Smx.over {a b:Nat} {h h1 h2:HD} (s:Smx b h h1) (s2:Smx a h1 h2) (hl:h.length≤a):Smx b h h2:=fun l c n e=>s2 l c (by have:=(qa3.mp e).1;omega) (s l c n e)
theorem Smx.put {a b:Nat} {c:DE} {h h1:HD} (s:Smx b h h1) (hl:h.length≤a):Smx b h (h1.set a c):=fun l x n e=>by
 rw [B4 (by have:=(qa3.mp e).1;omega)]
 exact s l x n e
theorem Smx.new {b:Nat} {c:DE} {h h1:HD} (s:Smx b h h1):Smx b h (h1++[c]):=s.trans (Fz (.app _ _))
theorem Smx.len {b:Nat} {h h':HD} (s:Smx b h h') (hb:b<h'.length):h.length≤h'.length:=by
 cases e:h.length with
 |zero=>exact B5 _
 |succ n=>
  have hn:n<h.length:=by omega
  by_cases hz:n=b
  ·omega
  ·have:=s n h[n] hz (Ba hn)
   have:=(qa3.mp this).1
   omega
inductive Tu (b:Nat) (h1:HD) (xs:List Nat) (ρ:Ai) (h':HD):Prop where
 |mk (N M:Int) (x:Option D) (f0:ρ=[some (.loc b),some (.int N),some (.int M),x]) (f1:h'=h1):Tu b h1 xs ρ h'
theorem ZbZ {b:Nat} {h:HD} {Q:D→HD→Prop} (hx:BoxAt h b) (q:∀l h',BoxAt h' b→BoxAt h' l→l≠b→h.length≤l→Smx b h h'→Q (.loc l) h'):Wp (Fw [.loc b] h) Q:=by
 change Wp (Az 4 (OY AL) [.loc b] h) _
 refine Eq.mpr (Bu) ?_
 simp
 refine HP hx (by decide) (by decide) fun d h1 d0 d1 x1 s1=>?_
 refine Do (src:=[]) (xs:=List.range 24) (fun i=>.int ((i:Nat):Int)) (Tu b h1) ?_ (fun ys ρ h' _=>CC) ?_ ?_
 ·simp [To]
  exact ⟨_,_,_,rfl,rfl⟩
 ·rintro x xs ρ h' ⟨N,M,y,rfl,rfl⟩
  refine ⟨_,rfl,?_⟩
  simp
  rw [Lm (by decide) (by decide)]
  simp
  rw [FS (by decide)]
  simp
  rw [Lm (by decide) (by decide)]
  simp [B2]
  exact ⟨_,_,_,rfl,rfl⟩
 ·rintro ρ h' ⟨N,M,y,rfl,rfl⟩
  simp
  refine BC (by simp) fun l h2 s e el _=>?_
  exact q l h2 (x1.sm s) ⟨_,e⟩ (by have:=x1.lt;omega) (by have:=s1.len x1.lt;omega) (s1.trans (Fz s))
def O9 (c:Str):List V:=[.bl (B3 c "NoBoard"),.bl (B3 c "NoLine"),.bl (B3 c "NoSwitching"),.bl (B3 c "NoNumber"),.bl (B3 c "Unlike"),.bl (B3 c "NoNet"),.bl (B3 c "NoPlace"),.bl (B3 c "NoText"),.bl (B3 c "NoRow"),.bl (B3 c "TooMany")]
def Zb0:List D:=[.str "board",.str "line",.str "switching",.str "number",.str "unlike",.str "net",.str "place",.str "text",.str "row"]
theorem Zb1 {c w t:Str} {j:Nat} {h:HD} (hc:c∈excNames) (hn:IX (.bl true) (O9 c)=1) (h9:B3 c "TooMany"=false) (hj:LH (.bl true) (O9 c)=some j) (hw:Zb0[j]?=some (.str w)) (hz:((("! ":String):Str)).length+w.length≤1000) (ht:((("! ":String):Str))++w=t):Pu (Dr [.exc c []] h) h (.str t):=by
 have i0:∀h,AX (.exc c []) (.glo "NoBoard") h=.ok (.bl (B3 c "NoBoard")) h:=fun h=>Fs hc (by decide +kernel)
 have i1:∀h,AX (.exc c []) (.glo "NoLine") h=.ok (.bl (B3 c "NoLine")) h:=fun h=>Fs hc (by decide +kernel)
 have i2:∀h,AX (.exc c []) (.glo "NoSwitching") h=.ok (.bl (B3 c "NoSwitching")) h:=fun h=>Fs hc (by decide +kernel)
 have i3:∀h,AX (.exc c []) (.glo "NoNumber") h=.ok (.bl (B3 c "NoNumber")) h:=fun h=>Fs hc (by decide +kernel)
 have i4:∀h,AX (.exc c []) (.glo "Unlike") h=.ok (.bl (B3 c "Unlike")) h:=fun h=>Fs hc (by decide +kernel)
 have i5:∀h,AX (.exc c []) (.glo "NoNet") h=.ok (.bl (B3 c "NoNet")) h:=fun h=>Fs hc (by decide +kernel)
 have i6:∀h,AX (.exc c []) (.glo "NoPlace") h=.ok (.bl (B3 c "NoPlace")) h:=fun h=>Fs hc (by decide +kernel)
 have i7:∀h,AX (.exc c []) (.glo "NoText") h=.ok (.bl (B3 c "NoText")) h:=fun h=>Fs hc (by decide +kernel)
 have i8:∀h,AX (.exc c []) (.glo "NoRow") h=.ok (.bl (B3 c "NoRow")) h:=fun h=>Fs hc (by decide +kernel)
 have i9:∀h,AX (.exc c []) (.glo "TooMany") h=.ok (.bl (B3 c "TooMany")) h:=fun h=>Fs hc (by decide +kernel)
 have iv:∀h,AX (.exc c []) (.ty "ValueError") h=.ok (.bl true) h:=fun h=>Zq hc
 change Wp (Az 3 OR [.exc c []] h) _
 refine Eq.mpr Bu ?_
 simp [-Am,i0,i1,i2,i3]
 refine BC (by simp) fun l1 h1 s1 e1 _ _=>?_
 refine Eq.mpr Am ?_
 simp [-Am,i4,i5,i6,i7]
 refine BC (by simp) fun l2 h2 s2 e2 _ _=>?_
 refine Ao (JX (s2 _ _ e1) e2) ?_
 refine BC (by simp) fun l3 h3 s3 e3 _ _=>?_
 refine Eq.mpr Am ?_
 simp [-Am,i8,i9]
 refine BC (by simp) fun l4 h4 s4 e4 _ _=>?_
 refine Ao (JX (s4 _ _ e3) e4) ?_
 refine BC (by simp) fun l5 h5 s5 e5 _ _=>?_
 refine Eq.mpr Am ?_
 simp [-Am,iv,G7 e5]
 refine Ao ((Zs (vs:=O9 c) e5 rfl rfl).trans (by rw [hn])) ?_
 simp [-Am]
 refine Eq.mpr Am ?_
 simp [-Am]
 rw [show (9:Int)=((9:Nat):Int) from rfl]
 refine Ao (D7 e5 (k:=9) rfl) ?_
 simp [-Am,h9]
 refine Eq.mpr Am ?_
 simp [-Am]
 refine BC (by simp) fun l6 h6 s6 e6 _ _=>?_
 refine Eq.mpr Am ?_
 simp [G7 (s6 _ _ e5)]
 refine Ao (Zt (s6 _ _ e5) rfl rfl hj) ?_
 simp only [AH]
 refine Ao (D7 e6 hw) ?_
 simp only [AH]
 refine Ao (Zr hz) ?_
 exact ⟨congrArg D.str ht,((((s1.trans s2).trans s3).trans s4).trans s5).trans s6⟩
theorem p_kind_net {h:HD}:Pu (Dr [.exc "NoNet" []] h) h (.str "! net"):=Zb1 (w:="net") (j:=5) (by decide +kernel) (by decide +kernel) (by decide +kernel) (by decide +kernel) rfl (by decide +kernel) (by decide +kernel)
theorem Tv {cs:List Nat} {f:ME} {ρ:Ai} {h:HD} {ds:List D} {Q:D→HD→Prop} (ht:TabAt h) (hd:AS (cs.map fun j=>(ρ[j]?).join)=some ds) (he:Er (f (ds.map some) h) h "NoNet")
 (q:∀h',Sm h h'→Q (.str "! net") h'):Wp (E1 cs Dr f ρ h) Q:=
 Oi ht hd (he.we fun h' s=>⟨by decide +kernel,[],rfl,p_kind_net.wp fun h2 s2=>q h2 (s.trans s2)⟩)
theorem Pa {i:Int} {h:HD}:Co [.int i] h=.ok (.bl true) h:=rfl
def Eg (n:Nat):Int→List D→Bool
 |_,[]=>true
 |last,.int i::ds=>decide (last<i∧i<(n:Int))&&Eg n i ds
 |_,_::_=>false
def Eh (n:Nat) (d:D):Bool:=match d with
 |.tup ds=>Eg n (-1) ds
 |_=>false
theorem Pb {n:Nat} {last:Int} {x:D} {xs:List D} (h:E9 x=false):Eg n last (x::xs)=false:=by
 cases x<;>first |rfl |(cases h)
inductive Tw (ds:List D) (n:Nat) (h:HD) (xs:List D) (ρ:Ai) (h':HD):Prop where
 |mk (last:Int) (x:Option D) (f0:ρ=[some (.tup ds),some (.int (n:Nat)),some (.int last),x]) (f1:h'=h) (f2:Eg n last xs=Eg n (-1) ds) (f3:∀y∈xs,Plain h y):Tw ds n h xs ρ h'
theorem Tx {d:D} {n:Nat} {h:HD} (p:Plain2 h d):Pu (CL [d,.int (n:Nat)] h) h (.bl (Eh n d)):=by
 change Wp (Az 4 (OW Co) [d,.int (n:Nat)] h) _
 refine Eq.mpr Bu ?_
 cases hT:EG d with
 |true=>
  obtain ⟨ds,rfl⟩:=HV hT
  simp
  refine Do (src:=[]) (xs:=ds) (fun x=>x) (Tw ds n h) ?_ (fun ys ρ h' _=>CC) ?_ ?_
  ·simp
   exact ⟨-1,_,rfl,rfl,rfl,p.2⟩
  ·rintro x xs ρ h' ⟨last,y,rfl,rfl,e,pl⟩
   refine ⟨_,rfl,?_⟩
   have px:=pl x Bf
   cases hx:E9 x with
   |false=>
    simp [O7 px,hx,B2,Sm.refl]
    rw [Pb hx] at e
    simp [Eh,←e]
   |true=>
    obtain ⟨i,rfl⟩:=HU hx
    by_cases h1:last<i
    ·by_cases h2:i<(n:Int)
     ·simp [Pa,h1,h2,AE,B2]
      exact ⟨i,_,rfl,rfl,by rw [←e];simp [Eg,h1,h2],fun y hy=>pl y (Bn _ hy)⟩
     ·simp [Pa,h1,h2,AE,B2,Sm.refl]
      simp [Eh,←e,Eg,h1,h2]
    ·simp [Pa,h1,AE,B2,Sm.refl]
     simp [Eh,←e,Eg,h1]
  ·rintro ρ h' ⟨last,y,rfl,rfl,e,_⟩
   simp [Sm.refl,Eh,←e,Eg]
 |false=>
  have e:Eh n d=false:=by cases d<;>first |rfl |cases hT
  simp [Mo p.1,hT,e,Sm.refl]
def A2 (n:Nat) (p:Nat→Bool):D:=.tup (((List.range n).filter p).map fun i=>.int ((i:Nat):Int))
section
variable {H W n:Nat} {h:HD} {f:Nat→Nat→Bool} {r p q p' q':Nat→Bool}
theorem Tz:∀{ks:List Nat} {last:Int},ks.Pairwise (·< ·)→(∀k∈ks,last<(k:Int)∧k<n)→Eg n last (ks.map fun i=>.int ((i:Nat):Int))=true
 |[],_,_,_=>rfl
 |k::ks,last,hp,hb=>by
  rw [qcG] at hp
  have h0:=hb k Bf
  rw [Bx,Eg,Tz hp.2 fun j hj=>⟨Int.ofNat_lt.mpr (hp.1 j hj),(hb j (Bn _ hj)).2⟩,decide_eq_true ⟨h0.1,Int.ofNat_lt.mpr h0.2⟩]
  rfl
theorem Zb2:Eh n (A2 n p)=true:=Tz (List.Pairwise.filter _ List.pairwise_lt_range) fun k hk=>⟨by omega,qaY.mp (qb8.mp hk).1⟩
theorem Zb3:Plain2 h (A2 n p):=⟨trivial,fun x hx=>by
 obtain ⟨k,_,rfl⟩:=qaL.mp hx
 exact trivial⟩
theorem TB {k:Nat} (hk:k<n):((List.range n).filter p).contains k=p k:=by
 rw [qaW]
 simp [hk]
theorem Mp {neg:Bool} {k:Nat} (hk:k<n):DH neg (.int (k:Nat)) (A2 n p) h=.ok (.bl (if neg then !p k else p k)) h:=by
 unfold A2
 rw [Ra,TB hk]
end
def RpX (b:Nat) (h:HD) (c:Bool) (n L:Nat) (d:D):Prop:=True
section
variable {b:Nat} {h h':HD} {c:Bool} {n n' L L':Nat} {d:D} {i:Int}
theorem Ei (k:Nat) {ds:List D} (hd:∀d∈ds,RpX b h c n L d) (hk:ds.length≤k):RpX b h c (n+1) (k*(L+2)+3) (.tup ds):=trivial
theorem Mq {l:Nat} (k:Nat) {ds:List D} (hl:l≠b) (el:h[l]?=some (.lst ds)) (hd:∀d∈ds,RpX b h false n L d) (hk:ds.length≤k):RpX b h false (n+1) (k*(L+2)+3) (.loc l):=trivial
theorem Bb (x:RpX b h c n L d) (hn:n≤n') (hl:L≤L'):RpX b h c n' L' d:=trivial
theorem RpX.smx (x:RpX b h c n L d) (s:Smx b h h'):RpX b h' c n L d:=trivial
theorem CM (h1:0≤i) (h2:i<100):RpX b h c 0 3 (.int i):=trivial
theorem Pc {v:Bool}:RpX b h c 0 5 (.bl v):=trivial
theorem Pd:RpX b h c 0 5 .non:=trivial
theorem Zb4 {x:Str} (hx:(PyData.shown (.str x)).length≤L):RpX b h c 0 L (.str x):=trivial
theorem TC (h1:PyData.showable (.int i)=true) (hx:(PyData.shown (.int i)).length≤L):RpX b h c 0 L (.int i):=trivial
theorem TF:RpX b h true 1 5 .edic:=trivial
theorem Kb {x:Bool}:RpX b h c 0 3 (lit x):=trivial
end
theorem Gz {xs:List D} {k:Nat} {h:HD}:D9 (.tup xs) none (some (k:Int)) h=.ok (.tup (xs.take k)) h:=by
 simp only [D9]
 unfold LS.cutD
 rw [HT.sIx_nat,HT.sIx_none,List.drop_zero,Nat.sub_zero]
 congr 2
 rcases Nat.le_total k xs.length with z |z
 ·rw [Nat.min_eq_left z]
 ·rw [Nat.min_eq_right z,MR z,MR (AG _)]
theorem Jg {xs:List D} {k:Nat} {h:HD}:D9 (.tup xs) (some (k:Int)) none h=.ok (.tup (xs.drop k)) h:=by
 simp only [D9]
 unfold LS.cutD
 rw [HT.sIx_nat,HT.sIx_none]
 congr 2
 rcases Nat.le_total k xs.length with z |z
 ·rw [Nat.min_eq_left z,MR (by simp)]
 ·rw [Nat.min_eq_right z,Nat.sub_self,List.take_zero,List.drop_eq_nil_of_le z]
theorem Kc {xs:List D} {h:HD}:D9 (.tup xs) none (some 2) h=.ok (.tup (xs.take 2)) h:=Gz (k:=2)
theorem Zb5 {xs:List D} {h:HD}:D9 (.tup xs) none (some 1) h=.ok (.tup (xs.take 1)) h:=Gz (k:=1)
theorem Zb6 {xs:List D} {h:HD}:D9 (.tup xs) (some 1) none h=.ok (.tup (xs.drop 1)) h:=Jg (k:=1)
def Plain4 (h:HD) (d:D):Prop:=Plain h d∧∀x∈Bw d,Plain3 h x
theorem Plain4.sm {h h':HD} {d:D} (p:Plain4 h d) (s:Sm h h'):Plain4 h' d:=⟨p.1.sm s,fun x hx=>(p.2 x hx).sm s⟩
theorem Plain4.smx {b:Nat} {h h':HD} {d:D} (p:Plain4 h d) (s:Smx b h h') (x:BoxAt h' b):Plain4 h' d:=⟨p.1.smx s x,fun y hy=>(p.2 y hy).smx s x⟩
def Fb (a b:Int):D→Bool
 |.int i=>decide (a≤i)&&decide (i≤b)
 |_=>false
theorem TH {a b:Int} {d:D} (h:E9 d=false):Fb a b d=false:=by cases d<;>first |rfl |cases h
theorem Zb7 {d:D} {a b:Int} {h:HD} (p:Plain h d):Pu (CF [d,.int a,.int b] h) h (.bl (Fb a b d)):=by
 cases hw:E9 d with
 |true=>
  obtain ⟨i,rfl⟩:=HU hw
  exact p_is_between_int
 |false=>
  have e:=O7 p
  rw [hw] at e
  rw [TH hw]
  exact Tt e
def Du (n:Nat):D→Bool
 |.tup [a,b,c]=>Eh n (.tup [a,b])&&HQ c
 |_=>false
def DP:D→List Int
 |.tup (.int a::.int b::_)=>[a,b]
 |_=>[]
theorem TJ {n:Nat} {ds:List D} (h:ds.length≠3):Du n (.tup ds)=false:=by
 match ds,h with
 |[],_=>rfl
 |[_],_=>rfl
 |[_,_],_=>rfl
 |_::_::_::_::_,_=>rfl
theorem TK {n:Nat} {d:D} (h:EG d=false):Du n d=false:=by cases d<;>first |rfl |cases h
theorem TL {ds:List D} (h:ds.length=3):∃a b c,ds=[a,b,c]:=by
 match ds,h with
 |[a,b,c],_=>exact ⟨a,b,c,rfl⟩
theorem Zb8 {d:D} {n:Nat} {h:HD} (p:Plain2 h d):Pu (Fy [d,.int (n:Nat)] h) h (.bl (Du n d)):=by
 change Wp (Az 2 (O3 CL Fx) [d,.int (n:Nat)] h) _
 refine Eq.mpr Bu ?_
 cases hT:EG d with
 |false=>simp [Mo p.1,hT,TK hT,Sm.refl]
 |true=>
  obtain ⟨ds,rfl⟩:=HV hT
  by_cases h3:ds.length=3
  ·obtain ⟨a,b,c,rfl⟩:=TL h3
   have pa:=p.2 a (by simp [Bw])
   have pb:=p.2 b (by simp [Bw])
   have pc:=p.2 c (by simp [Bw])
   simp
   refine Ao Kc ?_
   simp
   refine (Tx (d:=.tup [a,b]) ⟨trivial,all_cons pa (all_cons pb A6)⟩).wp fun h1 s1=>?_
   cases hl:Eh n (.tup [a,b]) with
   |false=>simp [Du,hl,s1]
   |true=>
    simp
    refine Ao (show As (.tup [a,b,c]) (.int 2) h1=.ok c h1 from rfl) ?_
    simp
    refine (ZbU (pc.sm s1)).wp fun h2 s2=>?_
    simp [Du,hl,s1.trans s2]
  ·have e3:¬((ds.length:Int)=3):=by omega
   simp [e3,TJ h3,Sm.refl]
inductive TM (n:Nat) (t:D):Prop where
 |mk (a b c:Int) (f0:t=.tup [.int a,.int b,.int c]) (f1:0≤a) (f2:a<b) (f3:b<n) (f4:0≤c) (f5:c≤1):TM n t
theorem Pe {n:Nat} {t:D} (h:Du n t=true):TM n t:=by
 cases hT:EG t with
 |false=>rw [TK hT] at h;cases h
 |true=>
  obtain ⟨ds,rfl⟩:=HV hT
  by_cases h3:ds.length=3
  ·obtain ⟨a,b,c,rfl⟩:=TL h3
   rw [Du,Cp] at h
   obtain ⟨h1,h2⟩:=h
   cases ha:E9 a with
   |false=>rw [show Eh n (.tup [a,b])=false from Pb ha] at h1;cases h1
   |true=>
    obtain ⟨i,rfl⟩:=HU ha
    unfold Eh Eg at h1
    rw [Cp,decide_eq_true_eq] at h1
    obtain ⟨h3,h4⟩:=h1
    cases hb:E9 b with
    |false=>rw [Pb hb] at h4;cases h4
    |true=>
     obtain ⟨j,rfl⟩:=HU hb
     unfold Eg at h4
     rw [Cp,decide_eq_true_eq] at h4
     have h5:=h4.1
     cases hc:E9 c with
     |false=>rw [show HQ c=false by cases c<;>first |rfl |cases hc] at h2;cases h2
     |true=>
      obtain ⟨k,rfl⟩:=HU hc
      have h6:(decide (0≤k)&&decide (k≤1))=true:=h2
      rw [Cp,decide_eq_true_eq,decide_eq_true_eq] at h6
      exact ⟨i,j,k,rfl,by omega,h5.1,h5.2,h6.1,h6.2⟩
  ·rw [TJ h3] at h;cases h
def Fc:List D→Bool
 |x::y::r=>HT.lexLt (DP x) (DP y)&&Fc (y::r)
 |_=>true
theorem TN:∀{ts:List D},((ts.zip (ts.drop 1)).all fun p=>HT.lexLt (DP p.1) (DP p.2))=Fc ts
 |[]=>rfl
 |[_]=>rfl
 |x::y::r=>by
  have ih:=TN (ts:=y::r)
  rw [List.drop_succ_cons,List.drop_zero] at ih ⊢
  rw [Ky,Ie,ih]
  rfl
def Mr:D→Nat
 |.int m=>m.toNat
 |_=>0
def Zb9 (a b:D):Bool:=match b with
 |.tup ts=>Fb 1 8 a&&(ts.all (Du (Mr a))&&Fc ts)
 |_=>false
def Zca:List D→Bool
 |[a,b]=>Zb9 a b
 |_=>false
def CN (d:D):Bool:=match d with
 |.tup ds=>Zca ds
 |_=>false
theorem TQ {ds:List D} (h:ds.length≠2):CN (.tup ds)=false:=by
 match ds,h with
 |[],_=>rfl
 |[_],_=>rfl
 |_::_::_::_,_=>rfl
theorem TU {d:D} (h:EG d=false):CN d=false:=by cases d<;>first |rfl |cases h
theorem Zcb {a b:D} (h:Fb 1 8 a=false):CN (.tup [a,b])=false:=by
 cases b with
 |tup ts=>
  show (Fb 1 8 a&&_)=false
  rw [h,Jt]
 |_=>rfl
theorem TV {a b:D} (h:EG b=false):CN (.tup [a,b])=false:=by cases b<;>first |rfl |cases h
theorem two_of {ds:List D} (h:ds.length=2):∃a b,ds=[a,b]:=by
 match ds,h with
 |[a,b],_=>exact ⟨a,b,rfl⟩
theorem TX {a:D} (h:Fb 1 8 a=true):∃n:Nat,a=.int (n:Nat)∧1≤n∧n≤8:=by
 cases hw:E9 a with
 |false=>rw [TH hw] at h;cases h
 |true=>
  obtain ⟨m,rfl⟩:=HU hw
  have h6:(decide (1≤m)&&decide (m≤8))=true:=h
  rw [Cp,decide_eq_true_eq,decide_eq_true_eq] at h6
  exact ⟨m.toNat,by congr 1;omega,by omega,by omega⟩
theorem Zcc {f:List Int→List Int→Bool} {a b c d:Int} {h:HD}:LQ f (.tup [.int a,.int b]) (.tup [.int c,.int d]) h=.ok (.bl (f [a,b] [c,d])) h:=rfl
theorem Pf {d:D} {h:HD} (p:Plain4 h d) (hz:∀x∈Bw d,(Bw x).length≤1000):Pu (Cu [d] h) h (.bl (CN d)):=by
 change Wp (Az 3 (O4 CF Fy) [d] h) _
 refine Eq.mpr Bu ?_
 cases hT:EG d with
 |false=>simp [Mo p.1,hT,TU hT,Sm.refl]
 |true=>
  obtain ⟨ds,rfl⟩:=HV hT
  by_cases h2:ds.length=2
  ·obtain ⟨a,b,rfl⟩:=two_of h2
   have pa:=p.2 a (by simp [Bw])
   have pb:=p.2 b (by simp [Bw])
   simp
   refine (Zb7 pa.1).wp fun h1 s1=>?_
   cases hb:Fb 1 8 a with
   |false=>simp [Zcb hb,s1]
   |true=>
    obtain ⟨n,rfl,n1,n2⟩:=TX hb
    cases hU:EG b with
    |false=>simp [Mo (pb.1.sm s1),hU,TV hU,s1]
    |true=>
     obtain ⟨ts,rfl⟩:=HV hU
     have lz:ts.length≤1000:=hz (.tup ts) (by simp [Bw])
     have lz':ts.length≤sizeLine:=by unfold sizeLine;omega
     have en:CN (.tup [.int (n:Nat),.tup ts])=(ts.all (Du n)&&Fc ts):=by
      show (Fb 1 8 (.int (n:Nat))&&(ts.all (Du (((n:Nat):Int)).toNat)&&Fc ts))=_
      rw [hb,Jk,Bool.true_and]
     simp
     refine Pu.wp (Re (src:=[]) (xs:=ts) (φ:=fun x=>x) (Du n) (fun x=>[some x,some (.int (n:Nat))]) (by rw [List.map_id'];exact ⟨rfl,.refl _,fun h2 s2=>CC⟩) (fun x _=>rfl) (fun x hx h' s'=>?_) lz') fun h2 s2=>?_
     ·simp [Pu]
      exact Zb8 ((pb.2 x hx).sm (s1.trans s'))
     cases ha:ts.all (Du n) with
     |false=>simp [en,ha,s1.trans s2]
     |true=>
      simp
      refine Pu.wp (Re (src:=[]) (xs:=ts.zip (ts.drop 1)) (φ:=fun p=>.tup [p.1,p.2]) (fun p=>HT.lexLt (DP p.1) (DP p.2)) (fun p=>[some p.1,some p.2]) ?_ (fun x _=>rfl) (fun x hx h' s'=>?_) (by rw [KG];exact BP (Nat.min_le_left _ _) lz')) fun h3 s3=>?_
      ·simp [G8]
       refine Ao Zb6 ?_
       simp [-List.drop_one]
       refine Ao (show Hc [.tup ts,.tup (ts.drop 1)] h2=.ok ((ts.zip (ts.drop 1)).map fun p=>.tup [p.1,p.2],[]) h2 from ?_) ?_
       ·show Out.ok (Dy ts (ts.drop 1),[]) h2=_
        congr 2
        unfold Dy
        rw [List.zip,List.map_zipWith]
       ·exact ⟨by rw [List.drop_one],.refl _,fun h2 s2=>CC⟩
      ·have m:=Jr (show (x.1,x.2)∈ts.zip (ts.drop 1) from hx)
       obtain ⟨a1,b1,c1,e1,_⟩:=Pe (qaT.mp ha _ m.1)
       obtain ⟨a2,b2,c2,e2,_⟩:=Pe (qaT.mp ha _ (GE m.2))
       simp [Pu]
       rw [e1,e2]
       refine Ao Kc ?_
       simp
       refine Ao Kc ?_
       simp
       refine Ao Zcc ?_
       exact ⟨rfl,.refl _⟩
      ·rw [TN,en,ha,Bool.true_and]
       exact ⟨rfl,(s1.trans s2).trans s3⟩
  ·have e2:¬((ds.length:Int)=2):=by omega
   simp [e2,TQ h2,Sm.refl]
theorem Zcd {n:Nat} {i j:Int}:Eh n (.tup [.int i,.int j])=(decide (-1<i∧i<(n:Int))&&decide (i<j∧j<(n:Int))):=by
 show (decide (-1<i∧i<(n:Int))&&(decide (i<j∧j<(n:Int))&&true))=_
 rw [Bool.and_true]
abbrev Aj:=Nat×Nat×Bool
def An (t:Aj):D:=.tup [.int ((t.1:Nat):Int),.int ((t.2.1:Nat):Int),lit t.2.2]
def Aq (n:Nat) (L:List Aj):D:=.tup [.int (n:Nat),.tup (L.map An)]
def EI (s t:Aj):Prop:=s.1<t.1∨(s.1=t.1∧s.2.1<t.2.1)
structure NetOk (n:Nat) (L:List Aj):Prop where
 n1:1≤n
 n8:n≤8
 ok:∀t∈L,t.1<t.2.1∧t.2.1<n
 so:L.Pairwise EI
 le:L.length≤100
theorem Zce {s t:Aj} (h:EI s t):HT.lexLt (DP (An s)) (DP (An t))=true:=by
 show HT.lexLt [((s.1:Nat):Int),((s.2.1:Nat):Int)] [((t.1:Nat):Int),((t.2.1:Nat):Int)]=true
 rw [HT.lexLt_cons]
 rcases h with h |⟨h1,h2⟩
 ·rw [if_neg (by omega)]
  exact decide_eq_true (by omega)
 ·rw [if_pos (by omega),HT.lexLt_cons,if_neg (by omega)]
  exact decide_eq_true (by omega)
theorem TY:∀{L:List Aj},L.Pairwise EI→Fc (L.map An)=true
 |[],_=>rfl
 |[_],_=>rfl
 |s::t::r,h=>by
  rw [qcG] at h
  show (HT.lexLt (DP (An s)) (DP (An t))&&Fc ((t::r).map An))=true
  rw [Zce (h.1 t Bf),TY h.2]
  rfl
theorem Zcf {n:Nat} {t:Aj} (h:t.1<t.2.1∧t.2.1<n):Du n (An t)=true:=by
 show (Eh n (.tup [.int ((t.1:Nat):Int),.int ((t.2.1:Nat):Int)])&&HQ (lit t.2.2))=true
 rw [Zcd,ZbV,decide_eq_true (by omega),decide_eq_true (by omega)]
 rfl
theorem Zcg {n:Nat} {L:List Aj} (k:NetOk n L):CN (Aq n L)=true:=by
 show (Fb 1 8 (.int (n:Nat))&&((L.map An).all (Du (((n:Nat):Int)).toNat)&&Fc (L.map An)))=true
 rw [TY k.so,Jk]
 have e1:Fb 1 8 (.int (n:Nat))=true:=by
  have:=k.n1;have:=k.n8
  show (decide ((1:Int)≤(n:Int))&&decide ((n:Int)≤8))=true
  rw [decide_eq_true (by omega),decide_eq_true (by omega)]
  rfl
 have e2:(L.map An).all (Du n)=true:=by
  rw [qaT]
  intro d hd
  obtain ⟨t,ht,rfl⟩:=qaL.mp hd
  exact Zcf (k.ok t ht)
 rw [e1,e2]
 rfl
theorem TZ {t:Aj} {h:HD}:Plain2 h (An t):=⟨trivial,all_cons trivial (all_cons trivial (all_cons trivial A6))⟩
theorem T1 {L:List Aj} {h:HD}:Plain3 h (.tup (L.map An)):=⟨trivial,fun x hx=>by
 obtain ⟨t,_,rfl⟩:=qaL.mp hx
 exact TZ⟩
theorem Zch {n:Nat} {L:List Aj} {h:HD}:Plain4 h (Aq n L):=⟨trivial,all_cons (Gy trivial rfl) (all_cons T1 A6)⟩
theorem Zci {n:Nat} {L:List Aj} (k:NetOk n L):∀x∈Bw (Aq n L),(Bw x).length≤1000:=all_cons (B5 _) (all_cons (by show (L.map An).length≤1000;rw [BJ];have:=k.le;omega) A6)
theorem Zcj {n:Nat} {L:List Aj} {h:HD} (k:NetOk n L):Pu (Cu [Aq n L] h) h (.bl true):=Zcg k ▸ Pf Zch (Zci k)
theorem HX {n:Nat} {L:List Aj} {h:HD} (k:NetOk n L):Pu (Bv [Aq n L] h) h .non:=by
 change Wp (Az 1 (Ml Cu) [Aq n L] h) _
 refine Eq.mpr Bu ?_
 simp
 refine (Zcj k).wp fun h1 s1=>?_
 simp [s1]
theorem Pg {d:D} {h:HD} (p:Plain4 h d) (hz:∀x∈Bw d,(Bw x).length≤1000) (hb:CN d=false):Er (Bv [d] h) h "NoNet":=by
 change We (Az 1 (Ml Cu) [d] h) _ _
 refine Eq.mpr LP ?_
 simp
 refine (Pf p hz).we fun h1 s1=>?_
 simp [hb,s1,Fj]
def BH (p:Nat→Bool) (t:Aj):Aj:=(t.1,t.2.1,Bool.xor t.2.2 (Bool.xor (p t.1) (p t.2.1)))
theorem p_is_lot {n:Nat} {p:Nat→Bool} {h:HD}:Pu (CL [A2 n p,.int (n:Nat)] h) h (.bl true):=Zb2 (n:=n) (p:=p) ▸ Tx Zb3
inductive T3 (n:Nat) (L:List Aj) (p:Nat→Bool) (h:HD) (l:Nat) (xs:List Aj) (ρ:Ai) (h':HD):Prop where
 |mk (done:List Aj) (d3 d4 d5:Option D) (f0:ρ=[some (Aq n L),some (A2 n p),some (.loc l),d3,d4,d5]) (f1:L=done++xs) (f2:Sm h h') (f3:h'[l]?=some (.lst (done.map fun t=>An (BH p t)))):T3 n L p h l xs ρ h'
theorem Sm.put {h h':HD} {l:Nat} {c:DE} (s:Sm h h') (hl:h.length≤l):Sm h (h'.set l c):=fun k d ek=>by
 have:=(qa3.mp ek).1
 rw [B4 (by omega)]
 exact s k d ek
theorem T4 {n:Nat} {L:List Aj} {p:Nat→Bool} {h:HD} (k:NetOk n L):Pu (CD [Aq n L,A2 n p] h) h (Aq n (L.map (BH p))):=by
 change Wp (Az 6 OU [Aq n L,A2 n p] h) _
 refine Eq.mpr Bu ?_
 simp [-Am]
 refine BC (by simp) fun l h1 s1 e1 el _=>?_
 refine Eq.mpr Am ?_
 refine Eq.mpr Bt ?_
 have ix1:∀h,As (Aq n L) (.int 1) h=.ok (.tup (L.map An)) h:=fun h=>rfl
 have ix0:∀h,As (Aq n L) (.int 0) h=.ok (.int (n:Nat)) h:=fun h=>rfl
 refine Do (src:=[]) (xs:=L) An (T3 n L p h l) ?_ (fun ys ρ h' _=>CC) ?_ ?_
 ·simp [ix1]
  exact ⟨[],_,_,_,rfl,rfl,s1,e1⟩
 ·rintro t xs ρ h' ⟨done,d3,d4,d5,rfl,eL,s,e⟩
  refine ⟨_,rfl,?_⟩
  have hk:=k.ok t (by rw [eL];simp)
  have ld:done.length≤100:=by have:=k.le;rw [eL,EJ] at this;omega
  simp [G7 e,Mp (show t.1<n by omega),Mp hk.2]
  have ev:∀(Q:D→HD→Prop),Q (lit (Bool.xor t.2.2 (Bool.xor (p t.1) (p t.2.1)))) h'→Wp (Ax (lit t.2.2) (D.int (if p t.1=true then 1 else 0)) h') fun a h1=>Wp (Ax a (D.int (if p t.2.1=true then 1 else 0)) h1) fun a h1=>Wp (CI a (D.int 2) h1) Q:=by
   intro Q hQ
   have key:∀a b c:Bool,((if a then 1 else 0:Int)+(if b=true then 1 else 0)+(if c=true then 1 else 0)) % 2=if Bool.xor a (Bool.xor b c) then 1 else 0:=by decide
   have e:=FS (i:=(if t.2.2 then 1 else 0:Int)+(if p t.1=true then 1 else 0)+(if p t.2.1=true then 1 else 0)) (j:=2) (h:=h') (by decide)
   rw [key] at e
   exact (show Wp (CI (.int ((if t.2.2 then 1 else 0:Int)+(if p t.1=true then 1 else 0)+(if p t.2.1=true then 1 else 0))) (.int 2) h') Q from e ▸ hQ)
  refine ev _ ?_
  try simp
  refine Ao (NT e (by rw [BJ];unfold sizeLine;omega)) ?_
  have lm:=(qa3.mp e).1
  simp [B2]
  refine ⟨done++[t],_,_,_,rfl,by rw [eL];simp,Sm.put s (by omega),?_⟩
  rw [Cf lm,Em]
  rfl
 ·rintro ρ h' ⟨done,d3,d4,d5,rfl,eL,s,e⟩
  rw [El] at eL
  subst eL
  simp [ix0,Q9 e]
  refine ⟨?_,s⟩
  unfold Aq
  rw [Cq]
  rfl
theorem Zck {cs:List (Option Nat)} {it:MI} {sg:MG} {f:ME} {ρ:Ai} {h:HD} {src:Bc} {xs:List Nat} {Q:D→HD→Prop} (φ:Nat→D) (I:HD→Prop) (R:Nat→D→Prop) (ρ1:Nat→Ai) (hi:Wp (it ρ h) fun x h'=>x=(xs.map φ,src)∧I h') (hs:∀h,I h→BR src (xs.map φ) h)
 (hnew:∀h c,I h→I (h++[c])) (hd:xs.Nodup) (hn:xs.length≤sizeLine) (hg:∀x∈xs,sg (φ x) (CK cs ρ)=some (ρ1 x)) (ht:∀x∈xs,∀h,I h→Wp (f (ρ1 x) h) fun y h2=>I h2∧R x y)
 (q:∀l h2 h' (e:Nat→D),I h2→I h'→(∀x∈xs,R x (e x))→h'[l]?=some (.lst (xs.map e))→l=h2.length→Q (.loc l) h'):Wp (A5 cs it sg BX f ρ h) Q:=by
 unfold A5
 rw [AE]
 refine Wp.mono hi fun x h1 z5_=>?_
 obtain ⟨ex,i1⟩:=z5_
 subst ex
 rw [if_pos (by simpa using hn),AE]
 refine Wp.mono (NW φ I (fun _ b=>b=true) R ρ1 hs xs h1 hd i1 hg fun x hx h i=>⟨rfl,ht x hx h i⟩) fun ys h2 z6_=>?_
 obtain ⟨i2,g,e,ey,hr,tr⟩:=z6_
 subst ey
 rw [List.filter_eq_self.mpr tr]
 refine BC (by simpa using hn) fun l h3 s3 e3 el eh=>?_
 exact q l h2 h3 e i2 (by rw [eh];exact hnew _ _ i2) (fun x hx=>hr x hx (tr x hx)) e3 el
theorem Zcl {a n:Nat} {h:HD} (ha:a≤1000) (hn:n≤1000):JO [.int (a:Int),.int (n:Int)] h=.ok ((List.range (n - a)).map fun k=>D.int ((a:Int)+((k:Nat):Int)),[]) h:=by
 have:((-(2^62):Int)≤(a:Int)∧(a:Int)<2^62)∧(-(2^62):Int)≤(n:Int)∧(n:Int)<2^62:=by omega
 unfold JO
 simp only
 rw [if_pos this]
 have e:((n:Int) - (a:Int)).toNat=n - a:=by omega
 rw [e]
 simp [Gm]
theorem Kd {n k x:Nat} {xs:List Nat} (h:(List.range n).drop k=x::xs):x=k∧k<n∧xs=(List.range n).drop (k+1):=by
 have hk:k<n:=by
  have:=congrArg List.length h
  simp at this
  omega
 rw [MN (by simpa using hk)] at h
 simp at h
 exact ⟨h.1.symm,hk,h.2.symm⟩
theorem Ms {n k:Nat} (hk:k≤n) (h:(List.range n).drop k=[]):k=n:=by
 have:=congrArg List.length h
 simp at this
 omega
structure TiesTo (n k j:Nat) (L:List Aj):Prop where
 ok:∀t∈L,t.1<t.2.1∧t.2.1<n∧(t.1<k∨(t.1=k∧t.2.1<j))
 so:L.Pairwise EI
 le:L.length≤8*k+j
theorem TiesTo.skip {n k j:Nat} {L:List Aj} (x:TiesTo n k j L):TiesTo n k (j+1) L:=⟨fun t ht=>by have:=x.ok t ht;omega,x.so,by have:=x.le;omega⟩
theorem TiesTo.add {n k j:Nat} {c:Bool} {L:List Aj} (x:TiesTo n k j L) (h1:k<j) (h2:j<n):TiesTo n k (j+1) (L++[(k,j,c)]):=by
 refine ⟨fun t ht=>?_,?_,?_⟩
 ·rcases qaK.mp ht with ht |ht
  ·have:=x.ok t ht;omega
  ·rw [qaA.mp ht]
   exact ⟨h1,h2,.inr ⟨rfl,Jq _⟩⟩
 ·rw [List.pairwise_append]
  refine ⟨x.so,List.pairwise_singleton _ _,fun s hs t ht=>?_⟩
  rw [qaA.mp ht]
  have:=x.ok s hs
  unfold EI
  show s.1<k∨(s.1=k∧s.2.1<j)
  omega
 ·rw [EJ]
  have:=x.le
  simp
  omega
theorem TiesTo.next {n k j:Nat} {L:List Aj} (x:TiesTo n k j L) (hj:j≤8):TiesTo n (k+1) 0 L:=⟨fun t ht=>by have:=x.ok t ht;omega,x.so,by have:=x.le;omega⟩
theorem TiesTo.up {n k j:Nat} {L:List Aj} (x:TiesTo n k 0 L):TiesTo n k j L:=⟨fun t ht=>by have:=x.ok t ht;omega,x.so,by have:=x.le;omega⟩
inductive NtS (b l2 l4 l5:Nat) (zs:List Int) (h:HD) (L:List Aj) (h':HD):Prop where
 |mk (f3:BoxAt h' b) (f4:BoxAt h' l2) (f5:h'[l4]?=some (.lst (zs.map D.int))) (f6:h'[l5]?=some (.lst (L.map An))) (f7:Smx b h h'):NtS b l2 l4 l5 zs h L h'
inductive T6 (b n l2 l4 l5:Nat) (way:Int) (zs:List Int) (h:HD) (xs:List Nat) (ρ:Ai) (h':HD):Prop where
 |mk (k:Nat) (L:List Aj) (d6 d7 d8:Option D) (f0:xs=(List.range n).drop k) (f1:k≤n) (f2:ρ=[some (.loc b),some (.int (n:Nat)),some (.int way),some (.loc l2),some (.loc l4),some (.loc l5),d6,d7,d8]) (f3:NtS b l2 l4 l5 zs h L h') (f4:TiesTo n k 0 L):T6 b n l2 l4 l5 way zs h xs ρ h'
inductive T7 (b n l2 l4 l5:Nat) (way:Int) (zs:List Int) (h:HD) (k:Nat) (xs:List Nat) (ρ:Ai) (h':HD):Prop where
 |mk (m:Nat) (L:List Aj) (d7 d8:Option D) (f0:xs=(List.range (n - (k+1))).drop m) (f1:m≤n - (k+1)) (f2:ρ=[some (.loc b),some (.int (n:Nat)),some (.int way),some (.loc l2),some (.loc l4),some (.loc l5),some (.int (k:Nat)),d7,d8]) (f3:NtS b l2 l4 l5 zs h L h') (f4:TiesTo n k (k+1+m) L):T7 b n l2 l4 l5 way zs h k xs ρ h'
structure Ap (b l2 l4 l5:Nat) (h:HD):Prop where
 a1:l2≠b
 a2:l4≠b
 a3:l5≠b
 a4:l4≠l2
 a5:l5≠l2
 a6:l5≠l4
 k2:h.length≤l2
 k5:h.length≤l5
theorem NtS.take {b l2 l4 l5:Nat} {zs:List Int} {h h1 h2:HD} {L:List Aj} (ap:Ap b l2 l4 l5 h) (x:NtS b l2 l4 l5 zs h L h1) (y:BoxAt h2 l2) (s:Smx l2 h1 h2):NtS b l2 l4 l5 zs h L h2:=by
 obtain ⟨a1,a2,a3,a4,a5⟩:=x
 exact ⟨a1.smx s (Ne.symm ap.a1),y,s _ _ ap.a4 a3,s _ _ ap.a5 a4,a5.over s ap.k2⟩
theorem NtS.put {b l2 l4 l5:Nat} {zs:List Int} {h h1:HD} {L:List Aj} {t:Aj} (ap:Ap b l2 l4 l5 h) (x:NtS b l2 l4 l5 zs h L h1):NtS b l2 l4 l5 zs h (L++[t]) (h1.set l5 (.lst (L.map An++[An t]))):=by
 obtain ⟨⟨n1,a1⟩,⟨n2,a2⟩,a3,a4,a5⟩:=x
 have lt:=(qa3.mp a4).1
 refine ⟨⟨n1,?_⟩,⟨n2,?_⟩,?_,?_,a5.put ap.k5⟩
 ·rw [B4 ap.a3];exact a1
 ·rw [B4 ap.a5];exact a2
 ·rw [B4 ap.a6];exact a3
 ·rw [Cf lt,Em];rfl
theorem Zcm {z:Int}:∃c:Bool,D.int (z % 2)=lit c:=by
 rcases Int.emod_two_eq z with e |e
 ·exact ⟨false,by rw [e];rfl⟩
 ·exact ⟨true,by rw [e];rfl⟩
theorem Zcn {z:Int} (h1:0≤z) (h2:z<2):∃c:Bool,D.int z=lit c:=by
 rcases (show z=0∨z=1 by omega) with e |e
 ·exact ⟨false,by rw [e];rfl⟩
 ·exact ⟨true,by rw [e];rfl⟩
theorem Zco {b n l2 l4 l5 k j:Nat} {way:Int} {zs:List Int} {h h':HD} {L:List Aj} {d8:Option D} {Q:Fl×Ai→HD→Prop} (ap:Ap b l2 l4 l5 h) (x:NtS b l2 l4 l5 zs h L h') (t:TiesTo n k j L) (hz:zs.length=n) (hn:n≤8) (hk:k<j) (hj:j<n)
 (q:∀L' c h2,NtS b l2 l4 l5 zs h L' h2→TiesTo n k (j+1) L'→Q (.nx,[some (.loc b),some (.int (n:Nat)),some (.int way),some (.loc l2),some (.loc l4),some (.loc l5),some (.int (k:Nat)),some (.int ((j:Nat):Int)),some (lit c)]) h2):
 Wp ((Ak (Ay 8 (Ah AL (Aa (Ab 3) (Aa (mC (.int 2)) (Ae))))) (Ak (Bg (AW (Af Ct (Ab 2) (mC (.int 0)))) (Ay 8 (Af CI (Af Ax (Af As (Ab 4) (Ab 6)) (Af As (Ab 4) (Ab 7))) (mC (.int 2)))) (Bp)) (Bg (FK (AW (Af Nv (Ah AL (Aa (Ab 3) (Aa (mC (.int 3)) (Ae)))) (mC (.int 0)))) (Dk (AW (Af BU (Ab 2) (mC (.int 1)))) (AW (FN IA JH (Ab 6) (mC (.int 3)) (Ab 7))))) (DZ (G4 (Ab 5) (Aw (Aa (Ab 6) (Aa (Ab 7) (Aa (Ab 8) (Ae))))))) (Bp)))) [some (.loc b),some (.int (n:Nat)),some (.int way),some (.loc l2),some (.loc l4),some (.loc l5),some (.int (k:Nat)),some (.int ((j:Nat):Int)),d8] h') Q:=by
 simp [-Am]
 have y2:BoxAt h' l2:=by cases x;assumption
 refine HP y2 (by decide) (by decide) fun z h1 z0 z1 x1 s1=>?_
 have X1:=x.take ap x1 s1
 refine Eq.mpr Am ?_
 refine Eq.mpr Bt ?_
 have two:∀(Q:Fl×Ai→HD→Prop),(∀c:Bool,Q (.nx,[some (.loc b),some (.int (n:Nat)),some (.int way),some (.loc l2),some (.loc l4),some (.loc l5),some (.int (k:Nat)),some (.int ((j:Nat):Int)),some (lit c)]) h1)→
  Wp ((Bg (AW (Af Ct (Ab 2) (mC (.int 0)))) (Ay 8 (Af CI (Af Ax (Af As (Ab 4) (Ab 6)) (Af As (Ab 4) (Ab 7))) (mC (.int 2)))) (Bp)) [some (.loc b),some (.int (n:Nat)),some (.int way),some (.loc l2),some (.loc l4),some (.loc l5),some (.int (k:Nat)),some (.int ((j:Nat):Int)),some (.int z)] h1) Q:=by
  intro Q hQ
  by_cases hw:way=0
  ·subst hw
   have e4:h1[l4]?=some (.lst (zs.map D.int)):=by cases X1;assumption
   have i1:As (.loc l4) (.int (k:Nat)) h1=.ok (.int (zs[k]'(by omega))) h1:=D7 e4 (by rw [CP,Ba (by omega)];rfl)
   have i2:As (.loc l4) (.int ((j:Nat):Int)) h1=.ok (.int (zs[j]'(by omega))) h1:=D7 e4 (by rw [CP,Ba (by omega)];rfl)
   simp [i1,i2]
   refine Ao (FS (by decide)) ?_
   obtain ⟨c,ec⟩:=Zcm (z:=zs[k]'(by omega)+zs[j]'(by omega))
   simp [ec]
   exact hQ c
  ·obtain ⟨c,ec⟩:=Zcn z0 z1
   simp [hw,ec]
   exact hQ c
 refine two _ fun c=>?_
 refine Eq.mpr Am ?_
 simp
 refine HP (by cases X1;assumption) (by decide) (by decide) fun w h2 w0 w1 x2 s2=>?_
 have X2:=X1.take ap x2 s2
 have e5:h2[l5]?=some (.lst (L.map An)):=by cases X2;assumption
 have ll:(L.map An).length<sizeLine:=by
  have:=t.le
  rw [BJ]
  unfold sizeLine
  omega
 have app:=q (L++[(k,j,c)]) c _ (X2.put ap) (t.add hk hj)
 have skp:=q L c h2 X2 t.skip
 have et:D.tup [.int (k:Nat),.int ((j:Nat):Int),lit c]=An (k,j,c):=rfl
 by_cases hw:0<w
 ·by_cases hy:way=1
  ·by_cases h3:(k:Int)<3
   ·by_cases h4:(3:Int)≤(j:Int)
    ·simp [hw,hy,h3,h4,AE,G7 e5]
     rw [et]
     refine Ao (NT e5 ll) ?_
     simp
     rw [hy] at app
     exact app
    ·simp [hw,hy,h3,h4,AE]
     rw [hy] at skp
     exact skp
   ·simp [hw,hy,h3,AE]
    rw [hy] at skp
    exact skp
  ·simp [hw,hy,AE,G7 e5]
   rw [et]
   refine Ao (NT e5 ll) ?_
   simp
   exact app
 ·simp [hw]
  exact skp
inductive T8 (b l2:Nat) (h h':HD):Prop where
 |mk (f1:BoxAt h' b) (f2:BoxAt h' l2) (f3:Smx b h h'):T8 b l2 h h'
theorem T9 {b:Nat} {h:HD} {Q:D→HD→Prop} (hx:BoxAt h b) (hb:0<b) (ht:TabAt h) (q:∀n L h',NetOk n L→BoxAt h' b→TabAt h'→Smx b h h'→Q (Aq n L) h'):Wp (Ee [.loc b] h) Q:=by
 change Wp (Az 9 (O2 AL Fw) [.loc b] h) _
 refine Eq.mpr Bu ?_
 simp [-Am]
 refine HW hx hb ht (by decide) (by decide) fun d1 h1 l1 x1 t1 s1=>?_
 try simp [-Am]
 refine HP x1 (by decide) (by decide) fun way h2 w0 w1 x2 s2=>?_
 try simp [-Am]
 obtain ⟨n,en,hn⟩:∃n:Nat,(1:Int)+(d1:Int)=(n:Int)∧1≤n∧n≤8:=⟨1+d1,by omega,by omega,by omega⟩
 rw [en]
 refine Eq.mpr Am ?_
 simp [-Am]
 refine ZbZ x2 fun l2 h3 x3 y3 n2 k2 z3=>?_
 have z03:=(s1.trans s2).trans z3
 have kl2:h.length≤l2:=by have:=(s1.trans s2).len x2.lt;omega
 refine Eq.mpr Am ?_
 refine Eq.mpr Bt ?_
 refine Eq.mpr G5 ?_
 refine Zck (src:=[]) (xs:=List.range n) (fun i=>.int ((i:Nat):Int)) (T8 b l2 h) (fun _ d=>∃z:Int,d=.int z) (fun i=>[some (.int ((i:Nat):Int)),some (.loc l2)]) ?_ (fun _ _=>CC) (fun h c x=>by obtain ⟨a1,a2,a3⟩:=x;exact ⟨a1.new,a2.new,a3.new⟩) List.nodup_range (sz hn.2) (fun x _=>rfl) ?_ fun l4 h4 h5 e i4 i5 hr e4 el4=>?_
 ·simp
  refine Ao (D3 (by omega)) ?_
  exact ⟨rfl,x3,y3,z03⟩
 ·intro x hx h' i
  obtain ⟨a1,a2,a3⟩:=i
  simp
  refine HP a2 (by decide) (by decide) fun d h6 d0 d1 x6 s6=>?_
  exact ⟨⟨a1.smx s6 (Ne.symm n2),x6,a3.over s6 kl2⟩,d,rfl⟩
 obtain ⟨zs,lz,ez⟩:∃zs:List Int,zs.length=n∧(List.range n).map e=zs.map D.int:=by
  have hr':∃r:Nat→Int,∀x∈List.range n,e x=.int (r x):=⟨fun x=>if h:x∈List.range n then (hr x h).choose else 0,fun x hx=>by simp only [dif_pos hx];exact (hr x hx).choose_spec⟩
  obtain ⟨r,er⟩:=hr'
  exact ⟨(List.range n).map r,by simp,by rw [Cq];exact F9 er⟩
 rw [ez] at e4
 obtain ⟨a41,a42,a43⟩:=i4
 obtain ⟨a51,a52,a53⟩:=i5
 have n42:l4≠l2:=by have:=a42.lt;omega
 have n4b:l4≠b:=by have:=a41.lt;omega
 refine Eq.mpr Am ?_
 simp [-Am]
 refine BC (by simp) fun l5 h6 s6 e6 el5 _=>?_
 have n5b:l5≠b:=by have:=a51.lt;omega
 have n52:l5≠l2:=by have:=a52.lt;omega
 have n54:l5≠l4:=by have:=(qa3.mp e4).1;omega
 have ap:Ap b l2 l4 l5 h:=⟨n2,n4b,n5b,n42,n52,n54,kl2,by have:=a53.len a51.lt;omega⟩
 refine Eq.mpr Am ?_
 refine Eq.mpr Bt ?_
 refine Do (src:=[]) (xs:=List.range n) (fun i=>.int ((i:Nat):Int)) (T6 b n l2 l4 l5 way zs h) ?_ (fun ys ρ h' _=>CC) ?_ ?_
 ·simp
  refine Ao (D3 (by omega)) ?_
  exact ⟨rfl,0,[],_,_,_,by simp,by omega,rfl,⟨a51.sm s6,a52.sm s6,s6 _ _ e4,e6,a53.trans (Fz s6)⟩,⟨(fun t ht=>nomatch ht),List.Pairwise.nil,B5 _⟩⟩
 ·rintro x xs ρ h' ⟨k,L,d6,d7,d8,ex,hk,rfl,st,ti⟩
  obtain ⟨rfl,hk',rfl⟩:=Kd ex.symm
  refine ⟨_,rfl,?_⟩
  refine Do (src:=[]) (xs:=List.range (n - (x+1))) (fun i=>.int (((x+1:Nat):Int)+((i:Nat):Int))) (T7 b n l2 l4 l5 way zs h x) ?_ (fun ys ρ h' _=>CC) ?_ ?_
  ·simp
   refine Ao (Zcl (a:=x+1) (by omega) (by omega)) ?_
   exact ⟨by simp,0,L,_,_,by simp,by omega,rfl,st,ti.up⟩
  ·rintro y ys ρ h2 ⟨m,L',d7,d8,ey,hm,rfl,DA,ti2⟩
   obtain ⟨rfl,hm',rfl⟩:=Kd ey.symm
   refine ⟨_,rfl,?_⟩
   have ej:((x+1:Nat):Int)+((y:Nat):Int)=((x+1+y:Nat):Int):=by omega
   simp only [List.set_cons_succ,List.set_cons_zero]
   rw [ej]
   refine Zco ap DA ti2 lz hn.2 (by omega) (by omega) fun L2 c h3 Ji ti3=>?_
   simp only [B2]
   exact ⟨y+1,L2,_,_,rfl,by omega,rfl,Ji,by rw [←Nat.add_assoc];exact ti3⟩
  ·rintro ρ h2 ⟨m,L',d7,d8,ey,hm,rfl,DA,ti2⟩
   simp only [B2]
   exact ⟨x+1,L',_,_,_,rfl,by omega,rfl,DA,ti2.next (by omega)⟩
 ·rintro ρ h' ⟨k,L,d6,d7,d8,ex,hk,rfl,st,ti⟩
  have:=Ms hk ex.symm
  subst this
  obtain ⟨b1,b2,b3,b4,b5⟩:=st
  simp [Q9 b4]
  refine q k L h' ⟨hn.1,hn.2,fun t ht=>by have:=ti.ok t ht;omega,ti.so,by have:=ti.le;omega⟩ b1 (ht.smx b5 hb) b5
def XOk (b:Nat) (h:HD) (x:D):Prop:=Plain2 h x∧∃c,RpX b h c 2 300 x
def ThN (b:Nat) (h:HD) (d:D):Prop:=Plain4 h d∧(∀x∈Bw d,(Bw x).length≤1000)∧∃c,RpX b h c 5 1000000 d
theorem XOk.sm {b:Nat} {h h':HD} {x:D} (z:XOk b h x) (s:Sm h h'):XOk b h' x:=⟨z.1.sm s,let ⟨c,y⟩:=z.2;⟨c,y.smx (Fz s)⟩⟩
theorem ThN.smx {b:Nat} {h h':HD} {x:D} (z:ThN b h x) (s:Smx b h h') (y:BoxAt h' b):ThN b h' x:=⟨z.1.smx s y,z.2.1,let ⟨c,y⟩:=z.2.2;⟨c,y.smx s⟩⟩
theorem Zcp {b:Nat} {h:HD} {c:Bool} {t:Aj} (h1:t.1<100) (h2:t.2.1<100):RpX b h c 1 18 (An t):=
 Ei 3 (all_cons (CM (by omega) (by omega)) (all_cons (CM (by omega) (by omega)) (all_cons Kb A6))) (by simp)
section
variable {b n:Nat} {h:HD} {L:List Aj}
theorem FX (k:NetOk n L) (c:Bool):∀d∈L.map An,RpX b h c 2 300 d:=fun d hd=>by
 obtain ⟨t,ht,rfl⟩:=qaL.mp hd
 have:=k.ok t ht
 have:=k.n8
 exact Bb (Zcp (by omega) (by omega)) (by decide) (by decide)
theorem HY:∀d∈L.map An,Plain2 h d:=fun d hd=>by
 obtain ⟨t,_,rfl⟩:=qaL.mp hd
 exact TZ
theorem Mt {a:D} {ts:List D} (pa:Plain3 h a) (la:(Bw a).length≤1000) (c:Bool) (ra:RpX b h c 4 400000 a) (pt:∀x∈ts,Plain2 h x) (lt:ts.length≤1000) (rt:∀x∈ts,RpX b h c 2 300 x):ThN b h (.tup [a,.tup ts]):=
 ⟨⟨trivial,all_cons pa (all_cons ⟨trivial,pt⟩ A6)⟩,all_cons la (all_cons lt A6),c,Bb (Ei 2 (all_cons ra (all_cons (Bb (Ei 1000 rt lt) (by decide) (by decide)) A6)) (by simp)) (by decide) (by decide)⟩
theorem Ph {c:Bool} {m:Nat} (hm:m<100):RpX b h c 4 400000 (.int (m:Nat)):=Bb (CM (by omega) (by omega)) (by decide) (by decide)
theorem Pi {ts:List D} (k:NetOk n L) (c:Bool) (pt:∀x∈ts,Plain2 h x) (lt:ts.length≤1000) (rt:∀x∈ts,RpX b h c 2 300 x):ThN b h (.tup [.int (n:Nat),.tup ts]):=
 Mt (Gy trivial rfl) (B5 _) c (Ph (by have:=k.n8;omega)) pt lt rt
theorem Mu {d:D} (p:Plain h d) (e:Bw d=[]) (c:Bool) (r:RpX b h c 5 1000000 d):ThN b h d:=⟨⟨p,(fun x hx=>by rw [e] at hx;cases hx)⟩,(fun x hx=>by rw [e] at hx;cases hx),c,r⟩
theorem Ua {c:Bool}:RpX b h c 1 3 (.tup []):=Ei (n:=0) (L:=0) 0 A6 (by simp)
end
theorem Zcq {f:ME} {ρ:Ai} {h:HD} {Q:D→HD→Prop}:Wp (JY f ρ h) Q=Wp (f ρ h) fun x h1=>Wp (LU x h1) Q:=by unfold JY;rw [AE]
noncomputable abbrev Pj:MS:=Ak (Ay 9 (Af Ax (Ab 9) (BG (Aa (Aw (Aa (Ab 2) (Aa (Ah (AB Hg) (Aa (Ab 3) (Ae))) (Ae)))) (Aa (BG (Aa (Ab 2) (Aa (Ab 3) (Ae)))) (Aa (Aw (Aa (mC (.int 9)) (Aa (Ab 3) (Ae)))) (Aa (Aw (Aa (mC (.int 0)) (Aa (Aw (Ae)) (Ae)))) (Aa (Aw (Aa (mC (.bl true)) (Aa (Aw (Ae)) (Ae)))) (Aa (Aw (Aa (Ab 2) (Ae))) (Aa (Aw (Aa (Ab 2) (Aa (Ab 3) (Aa (Aw (Ae)) (Ae))))) (Ae))))))))))) (Ak (Ay 9 (Af Ax (Ab 9) (BG (Aa (mC .non) (Aa (mC (.int 1)) (Aa (mC .edic) (Aa (Ab 3) (Aa (Aw (Aa (Ab 2) (Aa (JY (Ab 3)) (Ae)))) (Aa (Aw (Aa (Ab 2) (Aa (Af Ax (Af Ax (Be (Ab 3) (Bh) (Bd (Ab 4))) (Be (Ab 3) (Bh) (Bd (mC (.int 1))))) (Be (Ab 3) (Bd (Ab 4)) (Bh))) (Ae)))) (Ae)))))))))) (AN (Af As (Ab 9) (Ah AL (Aa (Ab 0) (Aa (Ah (AB CB) (Aa (Ab 9) (Ae))) (Ae)))))))
noncomputable abbrev Ub:MS:=Ak (Ay 9 (BG (Aa (Ab 8) (Aa (Ab 8) (Aa (Ab 8) (Aa (Be (Ab 7) (Bh) (Bd (mC (.int 2)))) (Aa (Af Ax (Ab 7) (Aw (Aa (mC (.int 0)) (Ae)))) (Aa (Ah (AB Hg) (Aa (Ab 7) (Ae))) (Aa (mC .non) (Aa (Aw (Aa (Af As (Ab 7) (mC (.int 1))) (Aa (Af As (Ab 7) (mC (.int 0))) (Aa (Af As (Ab 7) (mC (.int 2))) (Ae))))) (Aa (Aw (Aa (Af As (Ab 7) (mC (.int 0))) (Aa (Af As (Ab 7) (mC (.int 0))) (Aa (mC (.int 0)) (Ae))))) (Aa (Aw (Ae)) (Ae))))))))))))) (Ak (Ay 9 (A5 [none,some 2,some 3,some 4] (B1 (Ab 9)) (Bq 0) (BX) (Aw (Aa (Ab 1) (Aa (Af Ax (Af Ax (Be (Ab 2) (Bh) (Bd (Ab 3))) (Aw (Aa (Ab 0) (Ae)))) (Be (Ab 2) (Bd (Af Ax (Ab 3) (mC (.int 1)))) (Bh))) (Ae)))))) Pj)
def Mv (b n A B:Nat) (T:List D) (y tie bent:D) (c9:Option D):Ai:=[some (.loc b),some (.tup [.int (n:Nat),.tup T]),some (.int (n:Nat)),some (.tup T),some (.int (A:Nat)),some (.int (B:Nat)),some y,some tie,some bent,c9]
theorem Zcr {b n A B l8:Nat} {L:List Aj} {y tie bent:D} {ds:List D} {h:HD} {Q:D→HD→Prop} (hx:BoxAt h b) (hb:0<b) (ht:TabAt h) (k:NetOk n L) (e8:h[l8]?=some (.lst ds)) (lds:ds.length=10) (hds:∀d∈ds,ThN b h d)
 (q:∀d h',ThN b h' d→BoxAt h' b→TabAt h'→Smx b h h'→Q d h'):Wp (Pj (Mv b n A B (L.map An) y tie bent (some (.loc l8))) h) (IK Q):=by
 have lL:=k.le
 have hn1:=k.n1
 have hn8:=k.n8
 have lT:(L.map An).length=L.length:=BJ ..
 unfold Pj Mv
 simp [-Am]
 refine Ao ZbY ?_
 refine BC (by rw [lT];unfold sizeLine;omega) fun l9 h9 s9 e9 el9 _=>?_
 try simp [-Am]
 refine BC (by simp) fun l10 h10 s10 e10 el10 _=>?_
 try simp [-Am]
 refine BC (by simp) fun l11 h11 s11 e11 el11 _=>?_
 try simp [-Am]
 refine Ao (JX (((s9.trans s10).trans s11) _ _ e8) e11) ?_
 refine BC (by simp;unfold sizeLine;omega) fun l12 h12 s12 e12 el12 _=>?_
 refine Eq.mpr Am ?_
 try simp [-Am,Zcq]
 refine Ao (show LU (.tup (L.map An)) h12=.ok (.tup (L.map An).reverse) h12 from rfl) ?_
 try simp [-Am]
 refine Ao Gz ?_
 try simp [-Am]
 refine Ao Zb5 ?_
 try simp [-Am]
 refine Ao (EH (by simp;omega)) ?_
 try simp [-Am]
 refine Ao Jg ?_
 try simp [-Am]
 refine Ao (EH (by simp;omega)) ?_
 try simp [-Am]
 refine BC (by simp) fun l13 h13 s13 e13 el13 _=>?_
 try simp [-Am]
 refine Ao (JX (s13 _ _ e12) e13) ?_
 refine BC (by simp;unfold sizeLine;omega) fun l14 h14 s14 e14 el14 _=>?_
 refine Eq.mpr Am ?_
 have s0e:=((((s9.trans s10).trans s11).trans s12).trans s13).trans s14
 have xE:=hx.sm s0e
 have tE:=ht.sm s0e
 have nE:l14≠b:=by have:=(((((hx.sm s9).sm s10).sm s11).sm s12).sm s13).lt;omega
 have n9:l9≠b:=by have:=hx.lt;omega
 have n10:l10≠b:=by have:=(hx.sm s9).lt;omega
 have s9e:=(((s10.trans s11).trans s12).trans s13).trans s14
 have s10e:=((s11.trans s12).trans s13).trans s14
 obtain ⟨M,eM,lM,hM⟩:∃M:List D,h14[l14]?=some (.lst M)∧M.length=23∧∀d∈M,ThN b h14 d:=by
  have c9:=s9e _ _ e9
  have c10:=s10e _ _ e10
  have pT:Plain3 h14 (.tup (L.map An)):=T1
  have rT:∀c,RpX b h14 c 3 40000 (.tup (L.map An)):=fun c=>Bb (Ei 100 (FX k c) (by omega)) (by decide) (by decide)
  have rn:∀c,RpX b h14 c 3 40000 (.int (n:Nat)):=fun c=>Bb (CM (by omega) (by omega)) (by decide) (by decide)
  have pn:Plain3 h14 (.int (n:Nat)):=Gy trivial rfl
  have r9:RpX b h14 false 3 40000 (.loc l9):=Bb (Mq 100 n9 c9 (FX k false) (by omega)) (by decide) (by decide)
  have r10:RpX b h14 false 5 1000000 (.loc l10):=Bb (Mq 2 n10 c10 (all_cons (rn false) (all_cons (rT false) A6)) (by simp)) (by decide) (by decide)
  have e0:RpX b h14 false 3 40000 (.tup []):=Bb Ua (by decide) (by decide)
  have p0:Plain3 h14 (.tup []):=Gy trivial rfl
  refine ⟨_,e14,by simp [lds],DO (DO (fun d hd=>(hds d hd).smx (Fz s0e) xE) <|
   all_cons ⟨⟨trivial,all_cons pn (all_cons (Gy ⟨_,c9⟩ rfl) A6)⟩,all_cons (B5 _) (all_cons (B5 _) A6),false,Bb (Ei 2 (all_cons (rn false) (all_cons r9 A6)) (by simp)) (by decide) (by decide)⟩ <|
   all_cons (Mu ⟨_,c10⟩ rfl false r10) <|
   all_cons (Mt (Gy trivial rfl) (B5 _) false (Ph (m:=9) (by decide)) HY (by omega) (FX k false)) <|
   all_cons (Mt (Gy trivial rfl) (B5 _) false (Ph (m:=0) (by decide)) A6 (B5 _) A6) <|
   all_cons (Mt (Gy trivial rfl) (B5 _) false (Bb Pc (by decide) (by decide)) A6 (B5 _) A6) <|
   all_cons ⟨⟨trivial,all_cons pn A6⟩,all_cons (B5 _) A6,false,Bb (Ei 1 (all_cons (rn false) A6) (by simp)) (by decide) (by decide)⟩ <|
   all_cons ⟨⟨trivial,all_cons pn (all_cons pT (all_cons p0 A6))⟩,all_cons (B5 _) (all_cons (by show (L.map An).length≤1000;omega) (all_cons (B5 _) A6)),false,Bb (Ei 3 (all_cons (rn false) (all_cons (rT false) (all_cons e0 A6))) (by simp)) (by decide) (by decide)⟩ A6) <|
   all_cons (Mu trivial rfl false (Bb Pd (by decide) (by decide))) <| all_cons (Mu trivial rfl false (Bb (CM (by decide) (by decide)) (by decide) (by decide))) <| all_cons (Mu trivial rfl true (Bb TF (by decide) (by decide))) <|
   all_cons ⟨⟨trivial,fun x hx=>?_⟩,fun x hx=>?_,false,Bb (rT false) (by decide) (by decide)⟩ <|
   all_cons (Pi k false (fun z hz=>HY z (List.mem_reverse.mp hz)) (by rw [List.length_reverse];omega) fun z hz=>FX k false z (List.mem_reverse.mp hz)) <|
   all_cons (Pi k false (DO (fun z hz=>HY z (F7 hz)) (DO (fun z hz=>HY z (F7 hz)) fun z hz=>HY z (GE hz))) (by simp;omega) (DO (fun z hz=>FX k false z (F7 hz)) (DO (fun z hz=>FX k false z (F7 hz)) fun z hz=>FX k false z (GE hz)))) A6⟩
  ·obtain ⟨t,_,rfl⟩:=qaL.mp hx
   exact ⟨trivial,all_cons (Jf trivial rfl) (all_cons (Jf trivial rfl) (all_cons (Jf trivial rfl) A6))⟩
  ·obtain ⟨t,_,rfl⟩:=qaL.mp hx
   show 3≤1000
   decide
 clear e14
 simp [-Am]
 refine Ao (RD eM) ?_
 simp [-Am]
 refine HW xE hb tE (by omega) (by omega) fun o h15 lo x15 t15 s15=>?_
 have ho:o<M.length:=by omega
 refine Ao (D7 (s15 _ _ nE eM) (Ba ho)) ?_
 exact q _ _ ((hM _ (Ib ho)).smx s15 x15) x15 t15 ((Fz s0e).trans s15)
theorem FY {f:ME} {fa:MA} {ρ:Ai} {h h':HD} {x:D} {Q:List D→HD→Prop} (e:f ρ h=.ok x h') (q:Wp (fa ρ h') fun xs h2=>Q (x::xs) h2):Wp (Aa f fa ρ h) Q:=by
 rw [G6,e]
 exact q
theorem Zcs {b n A B ta tb:Nat} {tc:Bool} {L:List Aj} {y bent:D} {c9:Option D} {h5:HD} {Q:D→HD→Prop} (x5:BoxAt h5 b) (hb:0<b) (t5:TabAt h5) (k:NetOk n L) (hA:A≤L.length) (ha7:ta<100) (hb7:tb<100) (xbent:XOk b h5 bent)
 (q:∀d h',ThN b h' d→BoxAt h' b→TabAt h'→Smx b h5 h'→Q d h'):Wp (Ub (Mv b n A B (L.map An) y (.tup [D.int ((ta:Nat):Int),.int ((tb:Nat):Int),lit tc]) bent c9) h5) (IK Q):=by
 have lL:=k.le
 have hn1:=k.n1
 have hn8:=k.n8
 have lT:(L.map An).length=L.length:=BJ ..
 have tl:∀(c:Bool) {h':HD},∀x∈[D.int ((ta:Nat):Int),.int ((tb:Nat):Int),lit tc],RpX b h' c 1 60 x:=fun c h'=>all_cons (Bb (CM (by omega) (by omega)) (by decide) (by decide)) (all_cons (Bb (CM (by omega) (by omega)) (by decide) (by decide)) (all_cons (Bb Kb (by decide) (by decide)) A6))
 unfold Ub Mv
 have ix0:∀h,As (.tup [D.int ((ta:Nat):Int),.int ((tb:Nat):Int),lit tc]) (.int 0) h=.ok (.int ((ta:Nat):Int)) h:=fun h=>rfl
 have ix1:∀h,As (.tup [D.int ((ta:Nat):Int),.int ((tb:Nat):Int),lit tc]) (.int 1) h=.ok (.int ((tb:Nat):Int)) h:=fun h=>rfl
 have ix2:∀h,As (.tup [D.int ((ta:Nat):Int),.int ((tb:Nat):Int),lit tc]) (.int 2) h=.ok (lit tc) h:=fun h=>rfl
 refine Eq.mpr Bt ?_
 refine Eq.mpr G5 ?_
 refine Eq.mpr XQ ?_
 have e4:Be (Ab 7) Bh (Bd (mC (.int 2))) [some (.loc b),some (.tup [.int (n:Nat),.tup (L.map An)]),some (.int (n:Nat)),some (.tup (L.map An)),some (.int (A:Nat)),some (.int (B:Nat)),some y,some (.tup [D.int ((ta:Nat):Int),.int ((tb:Nat):Int),lit tc]),some bent,c9] h5=.ok (.tup [D.int ((ta:Nat):Int),.int ((tb:Nat):Int)]) h5:=Kc (xs:=[D.int ((ta:Nat):Int),.int ((tb:Nat):Int),lit tc])
 have e5:Af Ax (Ab 7) (Aw (Aa (mC (.int 0)) Ae)) [some (.loc b),some (.tup [.int (n:Nat),.tup (L.map An)]),some (.int (n:Nat)),some (.tup (L.map An)),some (.int (A:Nat)),some (.int (B:Nat)),some y,some (.tup [D.int ((ta:Nat):Int),.int ((tb:Nat):Int),lit tc]),some bent,c9] h5=.ok (.tup [D.int ((ta:Nat):Int),.int ((tb:Nat):Int),lit tc,.int 0]) h5:=EH (xs:=[D.int ((ta:Nat):Int),.int ((tb:Nat):Int),lit tc]) (ys:=[.int 0]) (by simp)
 refine FY rfl <| FY rfl <| FY rfl <| FY e4 <| FY e5 ?_
 refine Eq.mpr G6 ?_
 refine BC (xs:=[D.int ((ta:Nat):Int),.int ((tb:Nat):Int),lit tc]) (by simp) fun l6 h6 s6 e6 el6 _=>?_
 refine FY rfl <| FY (x:=.tup [.int ((tb:Nat):Int),.int ((ta:Nat):Int),lit tc]) rfl <| FY (x:=.tup [.int ((ta:Nat):Int),.int ((ta:Nat):Int),.int 0]) rfl <| FY rfl ?_
 refine Eq.mpr IP ?_
 refine BC (by simp) fun l7 h7 s7 e7 el7 _=>?_
 have n6:l6≠b:=by have:=x5.lt;omega
 obtain ⟨ds,eds,lds,xds⟩:∃ds:List D,h7[l7]?=some (.lst ds)∧ds.length=10∧∀x∈ds,XOk b h7 x:=by
  have xb:=(xbent.sm s6).sm s7
  have nums:∀{i j:Int} {c:Bool},0≤i→i<100→0≤j→j<100→XOk b h7 (.tup [.int i,.int j,lit c]):=fun h1 h2 h3 h4=>⟨⟨trivial,all_cons trivial (all_cons trivial (all_cons trivial A6))⟩,false,Bb (Ei 3 (all_cons (CM h1 h2) (all_cons (CM h3 h4) (all_cons Kb A6))) (by simp)) (by decide) (by decide)⟩
  refine ⟨_,e7,by simp,all_cons xb <| all_cons xb <| all_cons xb <| all_cons ⟨⟨trivial,all_cons trivial (all_cons trivial A6)⟩,false,Bb (Ei 2 (all_cons (CM (by omega) (by omega)) (all_cons (CM (by omega) (by omega)) A6)) (by simp)) (by decide) (by decide)⟩ <|
   all_cons ⟨⟨trivial,all_cons trivial (all_cons trivial (all_cons trivial (all_cons trivial A6)))⟩,false,Bb (Ei 4 (all_cons (CM (by omega) (by omega)) (all_cons (CM (by omega) (by omega)) (all_cons Kb (all_cons (CM (by omega) (by omega)) A6)))) (by simp)) (by decide) (by decide)⟩ <|
   all_cons ⟨Jf ⟨_,s7 _ _ e6⟩ rfl,false,Bb (Mq 3 n6 (s7 _ _ e6) (tl false) (by simp)) (by decide) (by decide)⟩ <| all_cons ⟨Jf trivial rfl,false,Bb Pd (by decide) (by decide)⟩ <|
   all_cons (nums (by omega) (by omega) (by omega) (by omega)) <| all_cons (nums (c:=false) (by omega) (by omega) (by omega) (by omega)) <| all_cons ⟨Jf trivial rfl,false,Bb Ua (by decide) (by decide)⟩ A6⟩
 clear e7 xbent
 refine Eq.mpr Am ?_
 refine Eq.mpr Bt ?_
 refine Eq.mpr G5 ?_
 refine EZ (src:=[(l7,ds)]) (xs:=ds) (φ:=fun x=>x) (fun _=>true) (fun x=>.tup [.int (n:Nat),.tup ((L.map An).take A++[x]++(L.map An).drop (A+1))]) (fun x=>[some x,some (.int (n:Nat)),some (.tup (L.map An)),some (.int (A:Nat))]) ?_ (by unfold sizeLine;omega) (fun x _=>rfl) (fun x hx h' s'=>.ok) (fun x hx _ h' s'=>?_) fun l8 h8 s8 e8=>?_
 ·simp
  refine Ao (IV eds) ?_
  simp [Sm.refl]
  exact fun h2 s2=>IC (s2 _ _ eds)
 ·have eA1:((A:Int)+1)=((A+1:Nat):Int):=by omega
  simp [Pu]
  refine Ao Gz ?_
  simp
  refine Ao (EH (by simp;omega)) ?_
  simp
  rw [eA1]
  refine Ao Jg ?_
  simp
  refine Ao (EH (by simp;omega)) ?_
  simp [Sm.refl]
 rw [Gp] at e8
 refine Eq.mpr Am ?_
 have s58:=(s6.trans s7).trans s8
 refine Zcr (x5.sm s58) hb (t5.sm s58) k e8 (by rw [BJ];exact lds) (fun d hd=>?_) fun d h' th x t s=>q d h' th x t ((Fz s58).trans s)
 obtain ⟨x,hx1,rfl⟩:=qaL.mp hd
 obtain ⟨px,c,rx⟩:=(xds x hx1).sm s8
 refine Pi k c (DO (DO (fun z hz=>HY z (F7 hz)) (all_cons px A6)) fun z hz=>HY z (GE hz)) (by simp;omega) (DO (DO (fun z hz=>FX k c z (F7 hz)) (all_cons rx A6)) fun z hz=>FX k c z (GE hz))
theorem Zct {b n:Nat} {L:List Aj} {h:HD} {Q:D→HD→Prop} (hx:BoxAt h b) (hb:0<b) (ht:TabAt h) (k:NetOk n L) (q:∀d h',ThN b h' d→BoxAt h' b→TabAt h'→Smx b h h'→Q d h'):Wp (E8 [.loc b,Aq n L] h) Q:=by
 have lL:=k.le
 have hn1:=k.n1
 have hn8:=k.n8
 have lT:(L.map An).length=L.length:=BJ ..
 change Wp (Az 10 (O0 AL) [.loc b,Aq n L] h) _
 refine Eq.mpr Bu ?_
 simp [-Am,Aq]
 refine Eq.mpr Am ?_
 simp [-Am]
 refine HW hx hb ht (by omega) (by omega) fun A h1 lA x1 t1 s1=>?_
 try simp [-Am]
 refine HW x1 hb t1 (by decide) (by decide) fun B h2 lB x2 t2 s2=>?_
 try simp [-Am]
 refine Eq.mpr Am ?_
 try simp [-Am,ZbW]
 refine BC (by simp) fun l3 h3 s3 e3 el3 _=>?_
 try simp [-Am]
 refine BC (by simp;unfold sizeLine;omega) fun l4 h4 s4 e4 el4 _=>?_
 have x4:BoxAt h4 b:=(x2.sm s3).sm s4
 have t4:TabAt h4:=(t2.sm s3).sm s4
 have n3:l3≠b:=by have:=x2.lt;omega
 have n4:l4≠b:=by have:=(x2.sm s3).lt;omega
 try simp [-Am]
 refine HW x4 hb t4 (by decide) (by decide) fun o h5 lo x5 t5 s5=>?_
 have e4':=s5 _ _ n4 e4
 have e3':=s5 _ _ n3 (s4 _ _ e3)
 have i100:∀{c:Bool} {i:Int},0≤i→i<100→RpX b h5 c 1 60 (.int i):=fun h1 h2=>Bb (CM h1 h2) (by decide) (by decide)
 obtain ⟨y,ey,py,cy,sy⟩:=ZbX (fun y=>Plain h5 y∧∃c,RpX b h5 c 1 60 y) (o:=o) e4' (by simp;omega) <| all_cons ⟨trivial,false,i100 (by omega) (by omega)⟩ <| all_cons ⟨trivial,false,Bb (TC (L:=3) (by decide) (by decide)) (by decide) (by decide)⟩ <|
  all_cons ⟨trivial,false,Bb Pc (by decide) (by decide)⟩ <| all_cons ⟨trivial,false,Bb Pc (by decide) (by decide)⟩ <| all_cons ⟨trivial,false,Bb Pd (by decide) (by decide)⟩ <| all_cons ⟨trivial,false,Bb (Zb4 (L:=5) (by decide +kernel)) (by decide) (by decide)⟩ <|
  all_cons ⟨trivial,false,Bb (Ei 1 (all_cons (CM (by decide) (by decide)) A6) (by simp)) (by decide) (by decide)⟩ <| all_cons ⟨trivial,false,Bb (TC (L:=40) (by decide +kernel) (by decide +kernel)) (by decide) (by decide)⟩ <| all_cons ⟨trivial,false,i100 (by decide) (by decide)⟩ <|
  all_cons ⟨⟨_,e3'⟩,false,Bb (Mq 1 n3 e3' (all_cons (CM (by decide) (by decide)) A6) (by simp)) (by decide) (by decide)⟩ <| all_cons ⟨trivial,true,Bb TF (by decide) (by decide)⟩ A6
 refine Ao ey ?_
 refine Eq.mpr (AH _ _) ?_
 refine Eq.mpr Am ?_
 have S:Smx b h h5:=(((s1.trans s2).trans (Fz s3)).trans (Fz s4)).trans s5
 clear ey
 simp [-Am]
 refine Ao (EH (by rw [lT];simp;omega)) ?_
 have eT:L.map An++[.tup [.int 0,.int 1,.int 1]]=(L++[(0,1,true)]).map An:=by rw [Em];rfl
 rw [eT]
 have hA:A<(L++[(0,1,true)]).length:=by rw [EJ];simp;omega
 refine Eq.mpr (AH _ _) ?_
 refine Ao (ix_tup (k:=A) (show ((L++[(0,1,true)]).map An)[A]?=some (An (L++[(0,1,true)])[A]) by rw [CP,Ba hA];rfl)) ?_
 have ht7:(L++[(0,1,true)])[A].1<100∧(L++[(0,1,true)])[A].2.1<100:=by
  rcases qaK.mp (Ib hA) with z |z
  ·have:=k.ok _ z;omega
  ·rw [qaA.mp z];decide
 generalize (L++[(0,1,true)])[A]=t7 at ht7
 obtain ⟨ta,tb,tc⟩:=t7
 have ha7:ta<100:=ht7.1
 have hb7:tb<100:=ht7.2
 refine Eq.mpr (AH _ _) ?_
 refine Eq.mpr Am ?_
 have eB1:((B:Int)+1)=((B+1:Nat):Int):=by omega
 simp [-Am,An]
 refine Ao Gz ?_
 try simp [-Am]
 refine Ao (EH (by simp;omega)) ?_
 try simp [-Am]
 rw [eB1]
 refine Ao Jg ?_
 try simp [-Am]
 refine Ao (EH (by simp;omega)) ?_
 refine Eq.mpr (AH _ _) ?_
 refine Eq.mpr Am ?_
 have tl:∀(c:Bool) {h':HD},∀x∈[D.int ((ta:Nat):Int),.int ((tb:Nat):Int),lit tc],RpX b h' c 1 60 x:=fun c h'=>all_cons (Bb (CM (by omega) (by omega)) (by decide) (by decide)) (all_cons (Bb (CM (by omega) (by omega)) (by decide) (by decide)) (all_cons (Bb Kb (by decide) (by decide)) A6))
 have tp:∀{h':HD},∀x∈[D.int ((ta:Nat):Int),.int ((tb:Nat):Int),lit tc],Plain h' x:=fun {h'}=>all_cons trivial (all_cons trivial (all_cons trivial A6))
 generalize hbent:D.tup (List.take B [D.int ((ta:Nat):Int),.int ((tb:Nat):Int),lit tc]++[y]++List.drop B [D.int ((tb:Nat):Int),lit tc])=bent
 have xbent:XOk b h5 bent:=by
  rw [←hbent]
  refine ⟨⟨trivial,DO (DO (fun x hx=>tp x (F7 hx)) (all_cons py A6)) fun x hx=>tp x (Bn _ (GE hx))⟩,cy,Bb (Ei 4 (DO (DO (fun x hx=>tl cy x (F7 hx)) (all_cons sy A6)) fun x hx=>tl cy x (Bn _ (GE hx))) (by simp;omega)) (by decide) (by decide)⟩
 exact Zcs (n:=n) (L:=L) (tc:=tc) x5 hb t5 k (by omega) ha7 hb7 xbent fun d h' th x t s=>q d h' th x t (S.trans s)
theorem Ke:∀{n:Nat} {l:List Nat},l.Nodup→(∀x∈l,x<n)→l.length≤n
 |0,l,_,h=>by
  cases l with
  |nil=>exact AG _
  |cons x l=>exact absurd (h x Bf) (by omega)
 |n+1,l,nd,h=>by
  by_cases z:n∈l
  ·have h1:=Ke (n:=n) (nd.erase n) fun x hx=>by
    have:=(List.Nodup.mem_erase_iff nd).mp hx
    have:=h x this.2
    omega
   rw [List.length_erase_of_mem z] at h1
   omega
  ·exact Nat.le_succ_of_le (Ke (n:=n) nd fun x hx=>by
    have:=h x hx
    have:x≠n:=fun e=>z (e ▸ hx)
    omega)
theorem Forest.len {n:Nat} {adj:Nat→Nat→Bool} {A:List Br} (F:Forest n adj A):A.length≤n:=by
 have:=Ke (n:=n) F.ky fun x hx=>by
  obtain ⟨⟨e,p⟩,hm,rfl⟩:=qaL.mp hx
  exact F.lt _ _ hm
 simpa using this
theorem Forest.plen {n:Nat} {adj:Nat→Nat→Bool} {A:List Br} (F:Forest n adj A) {e:Nat} {p:List Nat} (h:(e,p)∈A):p.length≤n:=Ke (F.nd _ _ h) fun x hx=>by
 obtain ⟨q,h1,_⟩:=F.pf _ _ h x hx
 exact F.lt _ _ h1
def BO (p:List Nat):D:=.tup (p.map fun i=>.int ((i:Nat):Int))
def B0 (A:List Br):List (Kyd×D):=A.map fun x=>(Kyd.i ((x.1:Nat):Int),BO x.2)
theorem Zcu {A:List Br} {e:Nat} {p:List Nat}:B0 (A++[(e,p)])=B0 A++[(Kyd.i ((e:Nat):Int),BO p)]:=by unfold B0;rw [Em];rfl
theorem Pk {A:List Br}:E2 (B0 A)=true:=by
 unfold E2 B0
 rw [qaT]
 intro p hp
 obtain ⟨x,_,rfl⟩:=qaL.mp hp
 rfl
theorem Uc {A:List Br} {e:Nat}:((B0 A).any fun p=>decide (p.1=.i ((e:Nat):Int)))=has A e:=by
 unfold B0 has
 rw [Jv]
 congr 1
 funext x
 show decide (Kyd.i ((x.1:Nat):Int)=.i ((e:Nat):Int))=decide (x.1=e)
 rw [qaW,decide_eq_true_iff,decide_eq_true_iff]
 constructor
 ·intro z;injection z with z;omega
 ·intro z;rw [z]
section
variable {h:HD} {l:Nat} {fz:Bool} {A:List Br} {e:Nat}
theorem Zcv (el:h[l]?=some (.dic fz (B0 A))):Eb true (.int ((e:Nat):Int)) (.loc l) h=.ok (.bl (!has A e)) h:=by
 simp only [Eb,el]
 rw [if_pos Pk,←Zal,Uc,Bool.true_xor]
theorem Zcw {p:D} {F:HD→Out (Fl×Ai)} (el:h[l]?=some (.dic false (B0 A))) (hn:has A e=false) (hz:A.length≤1000):J5 (.loc l) (.int ((e:Nat):Int)) p h F=F (h.set l (.dic false (B0 A++[(Kyd.i ((e:Nat):Int),p)]))):=by
 simp only [J5,el]
 rw [if_pos ⟨Pk,by unfold B0;rw [BJ];unfold sizeLine;omega⟩]
 unfold Cd
 rw [Uc,hn]
 rfl
theorem Zcx {q:List Nat}:As (BO (q++[e])) (.int (-1)) h=.ok (.int ((e:Nat):Int)) h:=by
 have e1:Di ((q++[e]).map fun i=>D.int ((i:Nat):Int)) (-1)=some (.int ((e:Nat):Int)):=by
  unfold Di DW
  simp
  rw [if_pos (by omega)]
  simp
  rw [show (-1+((q.length:Int)+1)).toNat=q.length by omega]
  simp
 simp only [As,BO,BQ,e1]
theorem Zcy {ds:List D} (el:h[l]?=some (.lst ds)):Ep (.loc l) h=.ok (!ds.isEmpty) h:=by simp only [Ep,el]
theorem Zcz {ds:List D} {d:D} (el:h[l]?=some (.lst (ds++[d]))):J8 (.loc l) h=.ok d (h.set l (.lst ds)):=by
 simp only [J8,el]
 simp
theorem ZcA {p:List Nat} {v:Nat} (hz:p.length≤1000):Ax (BO p) (.tup [.int ((v:Nat):Int)]) h=.ok (BO (p++[v])) h:=by
 unfold BO
 simp only [Ax]
 rw [if_pos (by simp;unfold sizeLine;omega),Em]
 rfl
end
structure LiAt (n:Nat) (adj:Nat→Nat→Bool) (ll:Nat) (h:HD):Prop where
 ex:∃fz kvs,h[ll]?=some (.dic fz kvs)∧Dq kvs=true∧∀a b,a<n→b<n→(Bi kvs (.t [((a:Nat):Int),((b:Nat):Int)])).isSome=adj a b
theorem LiAt.has {n ll a b:Nat} {adj:Nat→Nat→Bool} {h:HD} (x:LiAt n adj ll h) (ha:a<n) (hb:b<n):Eb false (.tup [.int ((a:Nat):Int),.int ((b:Nat):Int)]) (.loc ll) h=.ok (.bl (adj a b)) h:=by
 obtain ⟨fz,kvs,e,h1,h2⟩:=x.ex
 simp only [Eb,e,LS.keyT,Hi,Gb]
 rw [if_pos h1,h2 a b ha hb,Ju]
theorem LiAt.sm {n ll:Nat} {adj:Nat→Nat→Bool} {h h':HD} (x:LiAt n adj ll h) (s:Sm h h'):LiAt n adj ll h':=let ⟨fz,kvs,e,r⟩:=x.ex;⟨⟨fz,kvs,s _ _ e,r⟩⟩
section
variable {n ll:Nat} {adj:Nat→Nat→Bool} {h:HD}
def Lr (A:List Br):Prop:=∀e p r,(e,p)∈A→p.head?=some r→r≤e
theorem Lr.grow {n r:Nat} {adj:Nat→Nat→Bool} {O N:List Br} (W:Walk n adj r O N []) (al:∀i,i<r→∃p,(i,p)∈O) (l:Lr O):Lr (O++N):=fun e p r' hm hr=>by
 rcases qaK.mp hm with z |z
 ·exact l e p r' z hr
 ·rw [W.ro e p z] at hr
  cases hr
  by_cases he:e<r
  ·obtain ⟨p',h'⟩:=al e he
   have nd:=W.F.ky
   rw [Em,Jn] at nd
   exact absurd rfl (nd.2.2 e (qaL.mpr ⟨_,h',rfl⟩) e (qaL.mpr ⟨_,z,rfl⟩))
  ·omega
inductive Ud (n ll ld lw r:Nat) (adj:Nat→Nat→Bool) (O:List Br) (h:HD) (m:Nat) (ρ:Ai) (h':HD):Prop where
 |mk (N:List Br) (S:List (List Nat)) (y5 y6:Option D) (er:ρ=[some (.int ((n:Nat):Int)),some (.loc ll),some (.loc ld),some (.int ((r:Nat):Int)),some (.loc lw),y5,y6]) (W:Walk n adj r O N S) (s:Sm h h') (ed:h'[ld]?=some (.dic false (B0 (O++N)))) (ew:h'[lw]?=some (.lst (S.map BO))) (em:m=(n - (O++N).length)*9+S.length) (hb:m≤100):Ud n ll ld lw r adj O h m ρ h'
inductive Ue (n ll ld:Nat) (adj:Nat→Nat→Bool) (h:HD) (xs:List Nat) (ρ:Ai) (h':HD):Prop where
 |mk (k:Nat) (O:List Br) (y3 y4 y5 y6:Option D) (ex:xs=(List.range n).drop k) (hk:k≤n) (er:ρ=[some (.int ((n:Nat):Int)),some (.loc ll),some (.loc ld),y3,y4,y5,y6]) (F:Forest n adj O) (C:EF n adj O) (al:∀i,i<k→∃p,(i,p)∈O) (lr:Lr O) (s:Sm h h') (ed:h'[ld]?=some (.dic false (B0 O))):Ue n ll ld adj h xs ρ h'
theorem ZcB {Q:D→HD→Prop} (hn:n≤8) (sy:∀a b,adj a b=adj b a) (li:LiAt n adj ll h) (q:∀l h' A,Sm h h'→h'[l]?=some (.dic false (B0 A))→Forest n adj A→EF n adj A→(∀i,i<n→∃p,(i,p)∈A)→Lr A→Q (.loc l) h'):Wp (Ed [.int ((n:Nat):Int),.loc ll] h) Q:=by
 change Wp (Az 7 OM [.int ((n:Nat):Int),.loc ll] h) _
 refine Eq.mpr Bu ?_
 simp [-Am]
 refine Eq.mpr Am ?_
 refine Eq.mpr Bt ?_
 refine Do (src:=[]) (xs:=List.range n) (fun i=>.int ((i:Nat):Int)) (Ue n ll h.length adj h) ?_ (fun ys ρ h' _=>CC) ?_ ?_
 ·simp [D3 (show n≤1000 by omega)]
  exact ⟨0,[],_,_,_,_,by simp,by omega,rfl,.nil,fun a pa ha=>(nomatch ha),fun i hi=>absurd hi (by omega),fun _ _ _ z=>(nomatch z),.app _ _,by simp [B0]⟩
 ·rintro r xs ρ h1 ⟨k,O,y3,y4,y5,y6,ex,hk,rfl,F,C,al,lr,s1,ed1⟩
  obtain ⟨rfl,hr,rfl⟩:=Kd ex.symm
  refine ⟨_,rfl,?_⟩
  refine Eq.mpr Bt ?_
  simp [-Am]
  refine BC (by simp) fun lw h2 s2 e2 elw _=>?_
  refine Eq.mpr Am ?_
  have ld0:h.length≠lw:=fun z=>by
   have:=(qa3.mp ed1).1
   omega
  have lw0:h.length≤lw:=by have:=s1.len;omega
  refine Yw (Ud n ll h.length lw r adj O h) _ ?_ ⟨[],[[r]],_,_,rfl,.start F,s1.trans s2,by rw [El];exact s2 _ _ ed1,e2,rfl,by simp;omega⟩ ?_
  ·have:=F.len
   simp
   omega
  ·rintro m ρ h3 ⟨N,S,y5,y6,rfl,W,s3,ed3,ew3,rfl,hb⟩
   have li3:=li.sm s3
   simp
   refine Ao (Zcy ew3) ?_
   rw [AH]
   rcases List.eq_nil_or_concat S with rfl |⟨S',w,rfl⟩
   ·obtain ⟨C2,ar⟩:=W.done sy C
    simp [B2]
    exact ⟨r+1,O++N,_,_,_,_,rfl,by omega,rfl,W.F,C2,fun i hi=>by
     by_cases z:i=r
     ·subst z;exact ar
     ·obtain ⟨p,hp⟩:=al i (by omega)
      exact ⟨p,CG _ hp⟩,.grow W al lr,s3,ed3⟩
   ·rw [List.concat_eq_append] at *
    obtain ⟨q0,e,rfl⟩:∃q0 e,w=q0++[e]:=by
     rcases W.st w (BI _ (qaA.mpr rfl)) with z |⟨a,q',v,_,_,_,z⟩
     ·exact ⟨[],r,z⟩
     ·exact ⟨q',v,z⟩
    have lwl:=(qa3.mp ew3).1
    have ldl:=(qa3.mp ed3).1
    rw [Em] at ew3
    simp [G7 ew3,-Am]
    refine Ao (Zcz ew3) ?_
    rw [AH]
    have ed4:(h3.set lw (.lst (S'.map BO)))[h.length]?=some (.dic false (B0 (O++N))):=by rw [B4 (Ne.symm ld0)];exact ed3
    have ew4:(h3.set lw (.lst (S'.map BO)))[lw]?=some (.lst (S'.map BO)):=Cf lwl
    have s4:Sm h (h3.set lw (.lst (S'.map BO))):=Sm.put s3 lw0
    generalize (h3.set lw (.lst (S'.map BO)))=h4 at *
    refine Ao Zcx ?_
    rw [AH]
    refine Ao (Zcv ed4) ?_
    rw [AH]
    cases hc:has (O++N) e with
    |true=>
     simp [B2]
     exact ⟨_,by first |omega |(simp;done) |(simp at hb ⊢;omega),N,S',_,_,rfl,W.skip hc,s4,ed4,ew4,rfl,by simp at hb ⊢;omega⟩
    |false=>
     obtain ⟨he,W'⟩:=W.take hr hc
     have fl:=W'.F.len
     have pl:=W'.F.plen (BI _ (BI _ (qaA.mpr rfl)))
     have al4:=W.F.len
     simp [-Am]
     refine Ao (Zcw ed4 hc (by omega)) ?_
     rw [AH]
     have ldl4:=(qa3.mp ed4).1
     have ed5:(h4.set h.length (.dic false (B0 (O++N)++[(Kyd.i ((e:Nat):Int),BO (q0++[e]))])))[h.length]?=some (.dic false (B0 (O++(N++[(e,q0++[e])])))):=by
      rw [Cf ldl4,←Zcu,Jm]
     have ew5:(h4.set h.length (.dic false (B0 (O++N)++[(Kyd.i ((e:Nat):Int),BO (q0++[e]))])))[lw]?=some (.lst (S'.map BO)):=by rw [B4 ld0];exact ew4
     have s5:Sm h (h4.set h.length (.dic false (B0 (O++N)++[(Kyd.i ((e:Nat):Int),BO (q0++[e]))]))):=Sm.put s4 (AG _)
     generalize (h4.set h.length (.dic false (B0 (O++N)++[(Kyd.i ((e:Nat):Int),BO (q0++[e]))])))=h5 at *
     refine Eq.mpr Am ?_
     simp [G7 ew5]
     refine EZ (src:=[]) (xs:=List.range n) (φ:=fun v=>.int ((v:Nat):Int)) (adj e) (fun v=>BO (q0++[e]++[v])) (fun v=>[some (.int ((v:Nat):Int)),some (BO (q0++[e])),some (.int ((e:Nat):Int)),some (.loc ll)]) ?_ (by rw [Ga];unfold sizeLine;omega) (fun x _=>rfl) (fun x hx h' s'=>?_) (fun x hx _ h' s'=>?_) fun lc h6 s6 e6=>?_
     ·simp [D3 (show n≤1000 by omega),Sm.refl,BR]
     ·have hx:=qaY.mp hx
      have:=(li.sm (s5.trans s')).has he hx
      simp [Pu]
      refine Ao this ?_
      rw [AH]
      simp [Sm.refl]
     ·simp [Pu]
      refine Ao (ZcA (by omega)) ?_
      rw [AH]
      simp [Sm.refl]
     ·have ew6:=s6 _ _ ew5
      have lwl6:=(qa3.mp ew6).1
      have ef:((List.range n).filter (adj e)).map (fun v=>BO (q0++[e]++[v]))=(Gx n adj e (q0++[e])).map BO:=by
       unfold Gx
       rw [Cq]
       rfl
      rw [ef] at e6
      have pz:(Gx n adj e (q0++[e])).length≤n:=by
       unfold Gx
       rw [BJ]
       have:=GC (adj e) (List.range n)
       rwa [Ga] at this
      have sz:S'.length≤1000:=by simp at hb;omega
      refine Ao (Z5 ew6 e6 (by rw [BJ,BJ];unfold sizeLine;omega)) ?_
      rw [AH]
      simp only [B2]
      refine ⟨_,?_,N++[(e,q0++[e])],S'++Gx n adj e (q0++[e]),_,_,rfl,W',Sm.put (s5.trans s6) lw0,?_,?_,rfl,?_⟩
      ·simp at fl al4 ⊢
       omega
      ·rw [B4 (Ne.symm ld0)]
       exact s6 _ _ ed5
      ·rw [Cf lwl6,Em]
      ·simp at fl al4 hb ⊢
       omega
 ·rintro ρ h1 ⟨k,O,y3,y4,y5,y6,ex,hk,rfl,F,C,al,lr,s1,ed1⟩
  have:=Ms hk ex.symm
  subst this
  simp
  exact q _ h1 O s1 ed1 F C al lr
end
def mt (x y:Nat) (t:Aj):Bool:=decide (t.1=x∧t.2.1=y∨t.1=y∧t.2.1=x)
theorem ZcC {x y:Nat}:mt x y=mt y x:=by
 funext t
 unfold mt
 rw [qaW,decide_eq_true_iff,decide_eq_true_iff]
 exact Or.comm
def ad (L:List Aj) (x y:Nat):Bool:=L.any (mt x y)
def li (L:List Aj) (x y:Nat):Bool:=((L.reverse.find? (mt x y)).map (·.2.2)).getD false
theorem ZcD {L:List Aj} (x y:Nat):ad L x y=ad L y x:=by unfold ad;rw [ZcC]
theorem Pl {k k':Kyd} {v:D}:∀{acc:List (Kyd×D)},(acc.any fun p=>decide (p.1=k))=true→Bi (acc.map fun p=>if p.1=k then (p.1,v) else p) k'=if k=k' then some v else Bi acc k'
 |[],z=>by simp at z
 |x::acc,z=>by
  rw [Bx]
  unfold Bi
  rw [DS,DS]
  by_cases e:x.1=k
  ·rw [if_pos e]
   by_cases e2:k=k'
   ·simp [e,e2]
   ·have e3:¬x.1=k':=fun y=>e2 (e ▸ y)
    simp only [e3,e2,decide_false,if_false]
    by_cases z2:(acc.any fun p=>decide (p.1=k))=true
    ·have:=Pl (k':=k') (v:=v) z2
     rw [if_neg e2] at this
     exact this
    ·have:(acc.map fun p=>if p.1=k then (p.1,v) else p)=acc:=by
      conv=>rhs;rw [←List.map_id acc]
      refine F9 fun p hp=>?_
      rw [if_neg]
      ·rfl
      ·intro y
       exact z2 (qbF.mpr ⟨p,hp,decide_eq_true y⟩)
     rw [this]
  ·rw [if_neg e]
   by_cases e2:x.1=k'
   ·have:¬k=k':=fun y=>e (by rw [e2,y])
    simp [e2,this]
   ·simp only [e2,decide_false]
    have z2:(acc.any fun p=>decide (p.1=k))=true:=by
     rw [Ig] at z
     simpa [e] using z
    exact Pl z2
theorem Ug {acc:List (Kyd×D)} {k k':Kyd} {v:D}:Bi (Cd acc k v) k'=if k=k' then some v else Bi acc k':=by
 unfold Cd
 by_cases z:(acc.any fun p=>decide (p.1=k))=true
 ·rw [if_pos z]
  exact Pl z
 ·rw [if_neg z]
  unfold Bi
  rw [List.find?_append]
  by_cases e2:k=k'
  ·subst e2
   have:acc.find? (fun p=>decide (p.1=k))=none:=qcH.mpr fun p hp y=>z (qbF.mpr ⟨p,hp,y⟩)
   rw [this]
   simp
  ·simp [e2]
def kT (x y:Nat):Kyd:=.t [((x:Nat):Int),((y:Nat):Int)]
theorem kT_inj {x y a b:Nat}:kT x y=kT a b↔x=a∧y=b:=by
 unfold kT
 constructor
 ·intro z
  injection z with z
  injection z with z1 z2
  injection z2 with z2
  exact ⟨by omega,by omega⟩
 ·rintro ⟨rfl,rfl⟩;rfl
def FA (acc:List (Kyd×D)) (t:Aj):List (Kyd×D):=Cd (Cd acc (kT t.1 t.2.1) (lit t.2.2)) (kT t.2.1 t.1) (lit t.2.2)
def Cw (L:List Aj):List (Kyd×D):=L.foldl FA []
theorem ZcE {L:List Aj} {t:Aj}:Cw (L++[t])=FA (Cw L) t:=by unfold Cw;rw [List.foldl_append];rfl
theorem ZcF {acc:List (Kyd×D)} {t:Aj} {x y:Nat}:Bi (FA acc t) (kT x y)=if mt x y t=true then some (lit t.2.2) else Bi acc (kT x y):=by
 unfold FA
 rw [Ug,Ug]
 unfold mt
 by_cases h1:t.2.1=x∧t.1=y
 ·rw [if_pos (kT_inj.mpr h1),if_pos (decide_eq_true (.inr ⟨h1.2,h1.1⟩))]
 ·rw [if_neg fun z=>h1 (kT_inj.mp z)]
  by_cases h2:t.1=x∧t.2.1=y
  ·rw [if_pos (kT_inj.mpr h2),if_pos (decide_eq_true (.inl h2))]
  ·rw [if_neg fun z=>h2 (kT_inj.mp z),if_neg]
   intro z
   rcases of_decide_eq_true z with w |w
   ·exact h2 w
   ·exact h1 ⟨w.2,w.1⟩
theorem Uh {x y:Nat}:∀{L:List Aj} {acc:List (Kyd×D)},Bi (L.foldl FA acc) (kT x y)=(match L.reverse.find? (mt x y) with |some t=>some (lit t.2.2) |none=>Bi acc (kT x y))
 |[],acc=>rfl
 |t::L,acc=>by
  rw [Js,Uh,Jl,List.find?_append]
  cases h:L.reverse.find? (mt x y) with
  |some t'=>rfl
  |none=>
   simp only [Option.none_or,DS,List.find?_nil]
   rw [ZcF]
   cases h2:mt x y t<;>simp
theorem Ui {L:List Aj} {x y:Nat}:Bi (Cw L) (kT x y)=if ad L x y=true then some (lit (li L x y)) else none:=by
 unfold Cw
 rw [Uh]
 unfold ad li
 cases h:L.reverse.find? (mt x y) with
 |some t=>
  have:L.any (mt x y)=true:=qbF.mpr ⟨t,by have:=Kw h;simpa using this,KB h⟩
  rw [if_pos this]
  rfl
 |none=>
  have:¬L.any (mt x y)=true:=fun z=>by
   obtain ⟨t,ht,hm⟩:=qbF.mp z
   exact qcH.mp h t (by simpa using ht) hm
  rw [if_neg this]
  rfl
theorem Pm {acc:List (Kyd×D)} {ns:List Int} {v:D} (h:Dq acc=true):Dq (Cd acc (.t ns) v)=true:=by
 unfold Dq Cd at *
 rw [qaT] at *
 split
 ·intro p hp
  obtain ⟨q,hq,rfl⟩:=qaL.mp hp
  have:=h q hq
  split
  ·exact this
  ·exact this
 ·intro p hp
  rcases qaK.mp hp with z |z
  ·exact h p z
  ·rw [qaA] at z;subst z;rfl
theorem Pn {L:List Aj}:∀{acc:List (Kyd×D)},Dq acc=true→Dq (L.foldl FA acc)=true:=by
 induction L with
 |nil=>intro acc h;exact h
 |cons t L ih=>intro acc h;exact ih (Pm (Pm h))
theorem ZcG {L:List Aj}:(Cw L).length≤2*L.length:=by
 have key:∀(L:List Aj) (acc:List (Kyd×D)),(L.foldl FA acc).length≤acc.length+2*L.length:=fun L=>by
  induction L with
  |nil=>intro acc;simp
  |cons t L ih=>
   intro acc
   have h1:=ih (FA acc t)
   have h2:(FA acc t).length≤acc.length+2:=by
    unfold FA
    have a:=J4 (kvs:=acc) (k:=kT t.1 t.2.1) (d:=lit t.2.2)
    have b:=J4 (kvs:=Cd acc (kT t.1 t.2.1) (lit t.2.2)) (k:=kT t.2.1 t.1) (d:=lit t.2.2)
    omega
   simp
   omega
 have:=key L []
 simpa [Cw] using this
theorem ZcH {n ll:Nat} {L:List Aj} {h:HD} {fz:Bool} (e:h[ll]?=some (.dic fz (Cw L))):LiAt n (ad L) ll h:=⟨⟨fz,Cw L,e,Pn rfl,fun a b _ _=>by
 show (Bi (Cw L) (kT a b)).isSome=_
 rw [Ui]
 cases ad L a b<;>rfl⟩⟩
section
variable {h:HD} {x:D} {src:Bc} {L:List Aj}
theorem Uj {l:Nat} {kvs:List (Kyd×D)} {a b:Nat} {v:D} {F:HD→Out (Fl×Ai)} (e:h[l]?=some (.dic false kvs)) (ha:Dq kvs=true) (hz:kvs.length<sizeLine):J6 (.loc l) (.tup [.int ((a:Nat):Int),.int ((b:Nat):Int)]) v h F=F (h.set l (.dic false (Cd kvs (kT a b) v))):=by
 simp only [J6,LS.keyT,Hi,Gb,e]
 rw [if_pos ⟨ha,hz⟩]
 rfl
inductive Uk (L:List Aj) (x:D) (ld:Nat) (h:HD) (xs:List Aj) (ρ:Ai) (h':HD):Prop where
 |mk (dn:List Aj) (y2 y3 y4:Option D) (ex:dn++xs=L) (er:ρ=[some x,some (.loc ld),y2,y3,y4]) (s:Sm h h') (ed:h'[ld]?=some (.dic false (Cw dn))):Uk L x ld h xs ρ h'
theorem ZcI {Q:D→HD→Prop} (hz:L.length≤1000) (it:∀h',Sm h h'→GZ x h'=.ok (L.map An,src) h') (so:∀h',Sm h h'→BR src (L.map An) h') (q:∀l h',Sm h h'→h'[l]?=some (.dic false (Cw L))→Q (.loc l) h'):Wp (Ec [x] h) Q:=by
 change Wp (Az 5 OL [x] h) _
 refine Eq.mpr Bu ?_
 simp [-Am]
 refine Eq.mpr Am ?_
 refine Eq.mpr Bt ?_
 refine Do (src:=src) (xs:=L) An (Uk L x h.length h) ?_ (fun ys ρ h' ⟨_,_,_,_,_,_,s,_⟩=>so h' s) ?_ ?_
 ·simp
  refine Ao (it _ (.app _ _)) ?_
  rw [AH]
  exact ⟨rfl,[],_,_,_,rfl,rfl,.app _ _,by simp [Cw]⟩
 ·rintro t xs ρ h1 ⟨dn,y2,y3,y4,ex,rfl,s,ed⟩
  refine ⟨_,rfl,?_⟩
  have hl:dn.length≤L.length:=by rw [←ex];simp
  have ha:Dq (Cw dn)=true:=Pn rfl
  have hk:=ZcG (L:=dn)
  have l1:=(qa3.mp ed).1
  simp [-Am]
  refine Ao (Uj ed ha (by unfold sizeLine;omega)) ?_
  rw [AH]
  refine Eq.mpr Am ?_
  simp
  have ed2:(h1.set h.length (.dic false (Cd (Cw dn) (kT t.1 t.2.1) (lit t.2.2))))[h.length]?=some (.dic false (Cd (Cw dn) (kT t.1 t.2.1) (lit t.2.2))):=Cf l1
  have hk2:=J4 (kvs:=Cw dn) (k:=kT t.1 t.2.1) (d:=lit t.2.2)
  refine Ao (Uj ed2 (Pm ha) (by unfold sizeLine;omega)) ?_
  rw [AH]
  simp only [B2]
  refine ⟨dn++[t],_,_,_,by simpa using ex,rfl,Sm.put (Sm.put s (AG _)) (AG _),?_⟩
  rw [Cf (by simpa using l1),ZcE]
  rfl
 ·rintro ρ h1 ⟨dn,y2,y3,y4,ex,rfl,s,ed⟩
  rw [El] at ex
  subst ex
  simp
  exact q _ h1 s ed
def bi (b:Bool):Int:=if b then 1 else 0
def GA (L:List Aj) (p:List Nat):Int:=((p.zip p.tail).map fun z=>bi (li L z.1 z.2)).sum
def Kf (L:List Aj) (p:List Nat):Prop:=∀z∈p.zip p.tail,ad L z.1 z.2=true
theorem ZcJ {xs:List D}:D9 (.tup xs) (some 1) none h=.ok (.tup (xs.drop 1)) h:=by
 simp only [D9]
 unfold LS.cutD
 rw [show (1:Int)=((1:Nat):Int) from rfl,HT.sIx_nat,HT.sIx_none]
 cases xs with
 |nil=>rfl
 |cons a xs=>simp
theorem ZcK {l:Nat} {fz:Bool} {p:List Nat} (e:h[l]?=some (.dic fz (Cw L))) (al:Kf L p) (hz:p.length≤1000):Pu (DM [.loc l,BO p] h) h (.int (GA L p)):=by
 change Wp (Az 2 ON [.loc l,BO p] h) _
 refine Eq.mpr Bu ?_
 simp
 refine Pu.wp (Yu (src:=[]) (xs:=p.zip p.tail) (φ:=fun z=>.tup [.int ((z.1:Nat):Int),.int ((z.2:Nat):Int)]) (fun z=>bi (li L z.1 z.2)) (fun z=>[some (.tup [.int ((z.1:Nat):Int),.int ((z.2:Nat):Int)]),some (.loc l)]) ?_ (fun x _=>rfl) (fun z hz h' s'=>?_) ?_) fun h2 s2=>?_
 ·simp [G8,BO]
  refine Ao ZcJ ?_
  rw [AH]
  have ez:Dy (p.map fun i=>D.int ((i:Nat):Int)) ((p.map fun i=>D.int ((i:Nat):Int)).drop 1)=(p.zip p.tail).map fun z=>.tup [.int ((z.1:Nat):Int),.int ((z.2:Nat):Int)]:=by
   unfold Dy
   rw [←List.map_drop,List.drop_one,List.zipWith_map,List.zip,List.map_zipWith]
  refine Ao (show Hc [.tup (p.map fun i=>D.int ((i:Nat):Int)),.tup ((p.map fun i=>D.int ((i:Nat):Int)).drop 1)] h=.ok (Dy (p.map fun i=>D.int ((i:Nat):Int)) ((p.map fun i=>D.int ((i:Nat):Int)).drop 1),[]) h from rfl) ?_
  rw [AH,ez]
  exact ⟨rfl,.refl _,fun h' s'=>CC⟩
 ·have:=al z hz
  simp [Pu]
  have eg:Bi (Cw L) (.t [((z.1:Nat):Int),((z.2:Nat):Int)])=some (lit (li L z.1 z.2)):=by
   have:=Ui (L:=L) (x:=z.1) (y:=z.2)
   rw [al z hz,if_pos rfl] at this
   exact this
  have ek:LS.keyT (.tup [.int ((z.1:Nat):Int),.int ((z.2:Nat):Int)])=some [((z.1:Nat):Int),((z.2:Nat):Int)]:=rfl
  refine Ao (show EB (.loc l) (.tup [.int ((z.1:Nat):Int),.int ((z.2:Nat):Int)]) h'=.ok (lit (li L z.1 z.2)) h' from ?_) ?_
  ·simp only [EB,s' _ _ e,ek,eg]
   exact if_pos (show Dq (Cw L)=true from Pn rfl)
  ·rw [AH]
   exact ⟨rfl,.refl _⟩
 ·rw [KG]
  unfold sizeLine
  omega
 ·exact ⟨rfl,s2⟩
end
theorem ZcL {n:Nat} {L:List Aj} {p:Nat→Bool} {h:HD} (k:NetOk n L):Pu (Ef [Aq n L,A2 n p] h) h (Aq n (L.map (BH p))):=by
 change Wp (Az 4 (O5 Bv CL) [Aq n L,A2 n p] h) _
 refine Eq.mpr Bu ?_
 simp
 refine (HX k).wp fun h1 s1=>?_
 simp [Aq]
 refine p_is_lot.wp fun h2 s2=>?_
 simp
 refine Pu.wp (NR (src:=[]) (xs:=L) (φ:=An) (fun t=>An (BH p t)) (fun t=>[some (.int ((t.1:Nat):Int)),some (.int ((t.2.1:Nat):Int)),some (lit t.2.2),some (A2 n p)]) ⟨rfl,.refl _,fun h2 s2=>CC⟩ (by have:=k.le;unfold sizeLine;omega) (fun x _=>rfl) (fun t ht h' s'=>?_)) fun h3 s3=>?_
 ·have hk:=k.ok t ht
  simp [Pu,Mp (show t.1<n by omega),Mp hk.2]
  have key:∀a b c:Bool,Bool.xor a (Bool.xor b c)=if b=c then a else !a:=by decide
  by_cases hq:p t.1=p t.2.1
  ·simp [hq,Sm.refl,An,BH]
  ·have k2:∀a:Bool,(1:Int) - (if a=true then 1 else 0)=if (!a)=true then 1 else 0:=by decide
   have k3:Bool.xor t.2.2 (Bool.xor (p t.1) (p t.2.1))=!t.2.2:=by rw [key,if_neg hq]
   simp [hq,Sm.refl,An,BH,lit,k2,k3]
 ·exact ⟨rfl,(s1.trans s2).trans s3⟩
theorem Ul:∀xs ys:List Int,PyData.eqvAll (xs.map fun i=>.int i) (ys.map fun i=>.int i)=decide (xs=ys)
 |[],[]=>rfl
 |[],_::_=>rfl
 |_::_,[]=>rfl
 |x::xs,y::ys=>by
  rw [Bx,Bx,PyData.eqvAll,Ul xs ys,qaW]
  simp [PyData.eqv]
theorem Po:∀xs ys:List (List Int),PyData.eqvAll (xs.map fun r=>.tuple (r.map fun i=>.int i)) (ys.map fun r=>.tuple (r.map fun i=>.int i))=decide (xs=ys)
 |[],[]=>rfl
 |[],_::_=>rfl
 |_::_,[]=>rfl
 |x::xs,y::ys=>by
  rw [Bx,Bx,PyData.eqvAll,Po xs ys,PyData.eqv,Ul,qaW]
  simp
def Ej (t:Aj):List Int:=[((t.1:Nat):Int),((t.2.1:Nat):Int),bi t.2.2]
theorem ZcM {a b:Bool} (h:bi a=bi b):a=b:=by cases a<;>cases b<;>first |rfl |cases h
theorem ZcN {s t:Aj} (e:Ej s=Ej t):s=t:=by
 obtain ⟨a,b,c⟩:=s
 obtain ⟨a',b',c'⟩:=t
 simp [Ej] at e
 obtain ⟨e1,e2,e3⟩:=e
 rw [Int.ofNat.inj e1,Int.ofNat.inj e2,ZcM e3]
theorem Um {n:Nat} {L:List Aj}:Py (Aq n L) (.tuple [.int ((n:Nat):Int),.tuple (L.map fun t=>.tuple ((Ej t).map fun i=>.int i))]):=
 (X5 (n:=2) (pyn_int.mono (by decide)) (IT (n:=1) (e:=An) fun t _=>IT (n:=0) (xs:=Ej t) (e:=D.int) (g:=PyData.int) fun _ _=>pyn_int)).py (by decide)
section
variable {n n':Nat} {L L':List Aj} {h:HD}
theorem ZcO:PyData.eqv (.tuple [.int ((n:Nat):Int),.tuple (L.map fun t=>.tuple ((Ej t).map fun i=>.int i))]) (.tuple [.int ((n':Nat):Int),.tuple (L'.map fun t=>.tuple ((Ej t).map fun i=>.int i))])=decide (n=n'∧L=L'):=by
 have er:=Po (L.map Ej) (L'.map Ej)
 rw [Cq,Cq] at er
 have ev:PyData.eqvAll (L.map fun t=>PyData.tuple ((Ej t).map fun i=>.int i)) (L'.map fun t=>PyData.tuple ((Ej t).map fun i=>.int i))=decide (L=L'):=by
  refine Eq.trans er ?_
  rw [qaW,decide_eq_true_iff,decide_eq_true_iff]
  exact ⟨fun z=>(List.map_inj_right fun _ _ e=>ZcN e).mp z,fun z=>by rw [z]⟩
 rw [PyData.eqv,PyData.eqvAll,PyData.eqvAll,PyData.eqvAll,PyData.eqv,PyData.eqv,ev,qaW,decide_eq_true_iff]
 simp
 exact fun _=>⟨fun z=>by omega,fun z=>by omega⟩
theorem Uo:Ct (Aq n L) (Aq n' L') h=.ok (.bl (decide (n=n'∧L=L'))) h:=by
 have:=XU (h:=h) (Um (n:=n) (L:=L)) (Um (n:=n') (L:=L'))
 rw [ZcO] at this
 exact this
end
theorem NetOk.sw {n:Nat} {L:List Aj} {p:Nat→Bool} (k:NetOk n L):NetOk n (L.map (BH p)):=⟨k.n1,k.n8,fun t ht=>by
 obtain ⟨s,hs,rfl⟩:=qaL.mp ht
 exact k.ok s hs,by
 rw [FC]
 exact k.so.imp fun h=>h,by rw [BJ];exact k.le⟩
def DQ (t:Aj):D:=.tup [.int ((t.1:Nat):Int),.int ((t.2.1:Nat):Int)]
def Bs (t:Aj):List Int:=[((t.1:Nat):Int),((t.2.1:Nat):Int)]
section
variable {n:Nat} {L L':List Aj} {h:HD}
theorem Mw {Q:D→HD→Prop} (le:L.length≤1000) (q:∀l h',Sm h h'→h'[l]?=some (.lst (L.map DQ))→Q (.loc l) h'):Wp (DN [Aq n L] h) Q:=by
 change Wp (Az 1 OO [Aq n L] h) _
 refine Eq.mpr Bu ?_
 simp
 refine EZ (src:=[]) (xs:=L) (φ:=An) (fun _=>true) DQ (fun t=>[some (An t)]) ?_ (by unfold sizeLine;omega) (fun x _=>rfl) (fun x _ h' s'=>(.ok:Pu (.ok true h') h' true)) (fun t _ _ h' s'=>?_) fun l h' s' e'=>?_
 ·simp [Aq]
  exact ⟨.refl _,fun h' s'=>CC⟩
 ·simp [Pu,An]
  refine Ao Kc ?_
  rw [AH]
  exact ⟨rfl,.refl _⟩
 ·rw [Gp] at e'
  exact q l h' s' e'
theorem Mx {l k:Nat} (e1:h[l]?=some (.lst (L.map DQ))) (e2:h[k]?=some (.lst (L'.map DQ))):BU (.loc l) (.loc k) h=.ok (.bl (!decide (L.map Bs=L'.map Bs))) h:=by
 have py:∀t,PyN 1 (DQ t) (.tuple ((Bs t).map fun i=>.int i)):=fun t=>IT (n:=0) (xs:=Bs t) (e:=D.int) (g:=PyData.int) fun _ _=>pyn_int
 have a:∀(j:Nat) (zs:List Aj),h[j]?=some (.lst (zs.map DQ))→AU h 8 (.loc j)=some (.list (zs.map fun x=>.tuple ((Bs x).map fun i=>.int i))):=fun j zs e=>by
  have:AS ((zs.map DQ).map (AU h 7))=some (zs.map fun x=>.tuple ((Bs x).map fun i=>.int i)):=by
   rw [Cq]
   exact IQ fun x hx'=>IS ((py x).rd 7 (by omega))
  simp only [AU,e,this,Gb]
 have sh:∀zs:List Aj,SeqAt.shaped (.list (zs.map fun x=>PyData.tuple ((Bs x).map fun i=>.int i)))=true:=fun zs=>by
  unfold SeqAt.shaped
  have l0:(PyData.list (zs.map fun x=>PyData.tuple ((Bs x).map fun i=>.int i))).canLay0=true:=by
   rw [PyData.canLay0];exact NX fun x h=>(py x).ly
  have d0:(PyData.list (zs.map fun x=>PyData.tuple ((Bs x).map fun i=>.int i))).depth≤1+1:=by
   rw [PyData.depth]
   exact Nat.succ_le_succ (NY fun x h=>(py x).dp)
  rw [l0]
  simp
  omega
 change DY (.loc l) (.loc k) h=_
 simp only [DY,FP,a l L e1,a k L' e2]
 rw [if_pos ⟨sh L,sh L'⟩,PyData.eqv]
 have er:=Po (L.map Bs) (L'.map Bs)
 rw [Cq,Cq] at er
 have ev:PyData.eqvAll (L.map fun x=>PyData.tuple ((Bs x).map fun i=>.int i)) (L'.map fun x=>PyData.tuple ((Bs x).map fun i=>.int i))=decide (L.map Bs=L'.map Bs):=er
 rw [ev]
end
def Ce (L L':List Aj):List Aj:=(L.zip L').map fun z=>(z.1.1,z.1.2.1,Bool.xor z.1.2.2 z.2.2.2)
def par (T:List Aj) (A:List Br) (i:Nat):Bool:=decide (GA T ((HN A i).getD []) % 2=1)
theorem Jh {n:Nat} {adj:Nat→Nat→Bool} {A:List Br} (F:Forest n adj A) {e:Nat} {p:List Nat} (h:(e,p)∈A):HN A e=some p:=by
 unfold HN
 cases hf:A.find? fun x=>decide (x.1=e) with
 |none=>exact absurd (decide_eq_true (show (e,p).1=e from rfl)) (qcH.mp hf _ h)
 |some x=>
  have h0:decide (x.1=e)=true:=KB (p:=fun x:Br=>decide (x.1=e)) hf
  have h1:=of_decide_eq_true h0
  have h2:=Kw hf
  obtain ⟨e',p'⟩:=x
  simp only at h1
  subst h1
  rw [F.one h h2]
  rfl
theorem ZcP {A:List Br} {e:Nat}:Bi (B0 A) (.i ((e:Nat):Int))=(HN A e).map BO:=by
 unfold Bi B0 HN
 rw [List.find?_map,Option.map_map,Option.map_map]
 have:((fun p:Kyd×D=>decide (p.1=Kyd.i ((e:Nat):Int)))∘fun x:Br=>(Kyd.i ((x.1:Nat):Int),BO x.2))=fun x:Br=>decide (x.1=e):=by
  funext x
  show decide (Kyd.i ((x.1:Nat):Int)=.i ((e:Nat):Int))=decide (x.1=e)
  rw [qaW,decide_eq_true_iff,decide_eq_true_iff]
  exact ⟨fun z=>by injection z with z;omega,fun z=>by rw [z]⟩
 rw [this]
 rfl
theorem Up {p:List Nat} {e:Nat}:∀{q:List Nat},q≠[]→(q++[e]).zip (q++[e]).tail=q.zip q.tail++[(q.getLastD 0,e)]
 |[],h=>absurd rfl h
 |[a],_=>rfl
 |a::b::q,_=>by
  have:=Up (p:=p) (e:=e) (q:=b::q) (by simp)
  show (a,b)::((b::q++[e]).zip (b::q++[e]).tail)=_
  rw [this]
  rfl
theorem My {n:Nat} {L:List Aj} {A:List Br} (F:Forest n (ad L) A):∀(m:Nat) (e:Nat) (p:List Nat),p.length≤m→(e,p)∈A→Kf L p
 |0,e,p,hm,h=>by
  obtain ⟨q,rfl⟩:=F.last h
  simp at hm
 |m+1,e,p,hm,h=>by
  rcases F.tr e p h with rfl |⟨r,q,h1,h2,rfl⟩
  ·intro z hz;cases hz
  ·have ih:=My F m r q (by simp at hm;omega) h1
   obtain ⟨q',rfl⟩:=F.last h1
   intro z hz
   rw [Up (p:=[]) (by simp)] at hz
   rcases qaK.mp hz with w |w
   ·exact ih z w
   ·rw [qaA] at w
    subst w
    simpa using h2
section
variable {n:Nat} {L L':List Aj} {h:HD}
theorem ZcQ {l:Nat} {fz:Bool} {A:List Br} {adj:Nat→Nat→Bool} {e:Nat} {p:List Nat} (F:Forest n adj A) (hp:(e,p)∈A) (el:h[l]?=some (.dic fz (B0 A))):EB (.loc l) (.int ((e:Nat):Int)) h=.ok (BO p) h:=by
 have eg:Bi (B0 A) (.i ((e:Nat):Int))=some (BO p):=by rw [ZcP,Jh F hp];rfl
 simp only [EB,el,eg]
 exact if_pos Pk
theorem ZcR {a b:Bool} {Q:D→HD→Prop} (q:Q (lit (Bool.xor a b)) h):Wp (Ax (lit a) (lit b) h) fun x h1=>Wp (CI x (.int 2) h1) Q:=by
 have key:∀a b:Bool,((if a then 1 else 0:Int)+(if b then 1 else 0)) % 2=if Bool.xor a b then 1 else 0:=by decide
 refine Ao (show Ax (lit a) (lit b) h=.ok (.int ((if a then 1 else 0)+(if b then 1 else 0))) h from rfl) ?_
 rw [AH]
 refine Ao (FS (by decide)) ?_
 rw [AH,key]
 exact q
theorem ZcS {lt lp:Nat} {T:List Aj} {A:List Br} {i:Nat} {f1 f2:Bool} {Q:D→HD→Prop} (n8:n≤8) (F:Forest n (ad T) A) (et:h[lt]?=some (.dic f1 (Cw T))) (ep:h[lp]?=some (.dic f2 (B0 A))) (hi:∃p,(i,p)∈A) (q:∀h',Sm h h'→Q (.int (GA T ((HN A i).getD []))) h'):
 Wp (EB (.loc lp) (.int ((i:Nat):Int)) h) fun d h1=>Wp (DM [.loc lt,d] h1) Q:=by
 obtain ⟨p,hp⟩:=hi
 refine Ao (ZcQ F hp ep) ?_
 rw [AH]
 have hl:=F.plen hp
 refine (ZcK et (My F _ i p (AG _) hp) (by omega)).wp fun h1 s1=>?_
 have:=q h1 s1
 rw [Jh F hp] at this
 exact this
theorem Uq {Q:D→HD→Prop} (k:NetOk n L) (k':NetOk n L') (pr:L.map Bs=L'.map Bs)
 (q:∀A h',Sm h h'→Forest n (ad (Ce L L')) A→EF n (ad (Ce L L')) A→(∀i,i<n→∃p,(i,p)∈A)→Lr A→Q (if L.map (BH (par (Ce L L') A))=L' then A2 n (par (Ce L L') A) else .non) h'):Wp (BN [Aq n L,Aq n L'] h) Q:=by
 have kl:=k.le
 have kl':=k'.le
 have k8:=k.n8
 change Wp (Az 6 (Je Bv DN Ec Ed DM Ef) [Aq n L,Aq n L'] h) _
 refine Eq.mpr Bu ?_
 simp [-Am]
 refine (HX k).wp fun h1 s1=>?_
 refine Eq.mpr Am ?_
 simp [-Am]
 refine (HX k').wp fun h2 s2=>?_
 refine Eq.mpr Am ?_
 have ix0:∀h (L:List Aj),As (Aq n L) (.int 0) h=.ok (.int ((n:Nat):Int)) h:=fun h L=>rfl
 have ix1:∀h (L:List Aj),As (Aq n L) (.int 1) h=.ok (.tup (L.map An)) h:=fun h L=>rfl
 simp [-Am,ix0]
 refine Eq.mpr Am ?_
 simp [-Am,ix0]
 refine Mw (by omega) fun l3 h3 s3 e3=>?_
 refine Mw (by omega) fun l4 h4 s4 e4=>?_
 refine Ao (Mx (s4 _ _ e3) e4) ?_
 rw [AH,decide_eq_true pr]
 simp [-Am]
 refine Eq.mpr Am ?_
 simp [-Am]
 refine EZ (src:=[]) (xs:=L.zip L') (φ:=fun z=>.tup [An z.1,An z.2]) (fun _=>true) (fun z=>An (z.1.1,z.1.2.1,Bool.xor z.1.2.2 z.2.2.2)) (fun z=>[some (An z.2),some (.int ((z.1.1:Nat):Int)),some (.int ((z.1.2.1:Nat):Int)),some (lit z.1.2.2)]) ?_ (by rw [KG];unfold sizeLine;omega) (fun x _=>rfl) (fun x _ h' s'=>(.ok:Pu (.ok true h') h' true)) (fun z _ _ h' s'=>?_) fun l5 h5 s5 e5=>?_
 ·simp [ix1]
  refine Ao (show Hc [.tup (L.map An),.tup (L'.map An)] h4=.ok (Dy (L.map An) (L'.map An),[]) h4 from rfl) ?_
  rw [AH]
  have ez:Dy (L.map An) (L'.map An)=(L.zip L').map fun z=>.tup [An z.1,An z.2]:=by
   unfold Dy
   rw [List.zipWith_map,List.zip,List.map_zipWith]
  rw [ez]
  exact ⟨rfl,.refl _,fun h' s'=>CC⟩
 ·have i2:As (An z.2) (.int 2) h'=.ok (lit z.2.2.2) h':=rfl
  simp [Pu,i2]
  exact ZcR ⟨rfl,.refl _⟩
 rw [Gp] at e5
 have e5:h5[l5]?=some (.lst ((Ce L L').map An)):=by rw [e5];unfold Ce;rw [Cq];rfl
 refine ZcI (L:=Ce L L') (src:=[(l5,(Ce L L').map An)]) (by unfold Ce;rw [BJ,KG];omega) (fun h' s'=>IV (s' _ _ e5)) (fun h' s'=>IC (s' _ _ e5)) fun l6 h6 s6 e6=>?_
 refine Eq.mpr Am ?_
 simp [-Am]
 refine ZcB (n:=n) (adj:=ad (Ce L L')) k8 ZcD (ZcH e6) fun l7 h7 A s7 e7 F C al lr=>?_
 refine Eq.mpr Am ?_
 refine Eq.mpr Bt ?_
 refine Eq.mpr G5 ?_
 have e67:=s7 _ _ e6
 refine Pu.wp (Q8 (src:=[]) (xs:=List.range n) (φ:=fun i=>.int ((i:Nat):Int)) (par (Ce L L') A) (fun i=>.int ((i:Nat):Int)) (fun i=>[some (.int ((i:Nat):Int)),some (.loc l6),some (.loc l7)]) ?_ (by rw [Ga];unfold sizeLine;omega) (fun x _=>rfl) (fun x hx h' s'=>?_) (fun x hx _ h' s'=>?_)) fun h8 s8=>?_
 ·simp [D3 (show n≤1000 by omega),Sm.refl,BR]
 ·have hx:=qaY.mp hx
  simp only [Pu,XR,XO,XM,XJ,JS,G6,IP,XN,AH]
  refine ZcS k8 F (s' _ _ e67) (s' _ _ e7) (al x hx) fun h9 s9=>?_
  refine Ao (FS (by decide)) ?_
  rw [AH]
  refine Ao R4 ?_
  rw [AH]
  exact ⟨rfl,s9⟩
 ·simp [Pu,Sm.refl]
 refine Eq.mpr Am ?_
 simp
 refine (ZcL (p:=par (Ce L L') A) k).wp fun h9 s9=>?_
 refine Ao Uo ?_
 rw [AH]
 have S:Sm h h9:=(((((((s1.trans s2).trans s3).trans s4).trans s5).trans s6).trans s7).trans s8).trans s9
 have:=q A h9 S F C al lr
 by_cases z:L.map (BH (par (Ce L L') A))=L'
 ·rw [if_pos z] at this
  simp [z]
  exact this
 ·rw [if_neg z] at this
  simp [z]
  exact this
end
theorem ZcT {L:List Aj} {a b:Nat} {r:List Nat}:GA L (a::b::r)=bi (li L a b)+GA L (b::r):=rfl
theorem ZcU {x:Bool}:bi x % 2=bi x:=by cases x<;>rfl
theorem ZcV {x y:Bool}:(bi x+bi y) % 2=bi (Bool.xor x y):=by cases x<;>cases y<;>rfl
theorem Mz {x:Bool}:decide (bi x=1)=x:=by cases x<;>rfl
theorem ZcW {L:List Aj} {a b:Nat} {r:List Nat} (h:Kf L (a::b::r)):ad L a b=true∧Kf L (b::r):=⟨h (a,b) Bf,fun z hz=>h z (Bn _ hz)⟩
theorem Kg {L:List Aj} {S:Nat→Bool} (hS:∀x y,ad L x y=true→li L x y=Bool.xor (S x) (S y)):∀(r:List Nat) (a:Nat),Kf L (a::r)→GA L (a::r) % 2=bi (Bool.xor (S a) (S ((a::r).getLastD 0)))
 |[],a,_=>by
  show (0:Int) % 2=bi (Bool.xor (S a) (S a))
  rw [Bool.xor_self]
  rfl
 |b::r,a,h=>by
  obtain ⟨h1,h2⟩:=ZcW h
  rw [ZcT,hS a b h1]
  have ih:=Kg hS r b h2
  have e:(b::r).getLastD 0=(a::b::r).getLastD 0:=rfl
  rw [e] at ih
  rw [Int.add_emod,ih,ZcU,ZcV]
  congr 1
  generalize S ((a::b::r).getLastD 0)=x
  cases S a<;>cases S b<;>cases x<;>rfl
theorem MB {T:List Aj} {S:Nat→Bool} (h:∀t∈T,t.2.2=Bool.xor (S t.1) (S t.2.1)) {x y:Nat} (ha:ad T x y=true):li T x y=Bool.xor (S x) (S y):=by
 unfold li
 cases hf:T.reverse.find? (mt x y) with
 |none=>
  obtain ⟨t,ht,hm⟩:=qbF.mp ha
  exact absurd hm (qcH.mp hf t (by simpa using ht))
 |some t=>
  have ht:t∈T:=by have:=Kw hf;simpa using this
  have hm:mt x y t=true:=KB hf
  show t.2.2=_
  rw [h t ht]
  rcases of_decide_eq_true hm with ⟨h1,h2⟩ |⟨h1,h2⟩
  ·rw [h1,h2]
  ·rw [h1,h2,Bool.xor_comm]
section
variable {n:Nat} {L:List Aj} {S:Nat→Bool} {A:List Br}
theorem Ur:Ce L (L.map (BH S))=L.map fun t=>(t.1,t.2.1,Bool.xor (S t.1) (S t.2.1)):=by
 unfold Ce
 induction L with
 |nil=>rfl
 |cons t L ih=>
  rw [Bx,Ky,Bx,Bx,ih]
  congr 1
  show (t.1,t.2.1,Bool.xor t.2.2 (Bool.xor t.2.2 (Bool.xor (S t.1) (S t.2.1))))=_
  rw [←Bool.xor_assoc,Bool.xor_self,Ju]
theorem ZcX {g:Aj→Bool} {x y:Nat}:ad (L.map fun t=>(t.1,t.2.1,g t)) x y=ad L x y:=by
 unfold ad
 rw [Jv]
 rfl
theorem Us {t:Aj} (ht:t∈L):ad L t.1 t.2.1=true:=qbF.mpr ⟨t,ht,decide_eq_true (.inl ⟨rfl,rfl⟩)⟩
theorem Pp (k:NetOk n L) (F:Forest n (ad (Ce L (L.map (BH S)))) A) (C:EF n (ad (Ce L (L.map (BH S)))) A) (al:∀i,i<n→∃p,(i,p)∈A):L.map (BH (par (Ce L (L.map (BH S))) A))=L.map (BH S):=by
 rw [Ur] at *
 have hS:∀t∈L.map (fun t:Aj=>((t.1,t.2.1,Bool.xor (S t.1) (S t.2.1)):Aj)),t.2.2=Bool.xor (S t.1) (S t.2.1):=fun t ht=>by
  obtain ⟨s,_,rfl⟩:=qaL.mp ht
  rfl
 generalize eT:L.map (fun t:Aj=>((t.1,t.2.1,Bool.xor (S t.1) (S t.2.1)):Aj))=T at *
 have pot:∀i,i<n→∃p,(i,p)∈A∧par T A i=Bool.xor (S (p.headD 0)) (S i):=fun i hi=>by
  obtain ⟨p,hp⟩:=al i hi
  refine ⟨p,hp,?_⟩
  obtain ⟨q,rfl⟩:=F.last hp
  have al':=My F _ i _ (AG _) hp
  unfold par
  rw [Jh F hp]
  show decide (GA T (q++[i]) % 2=1)=_
  cases q with
  |nil=>
   rw [Ic] at al' ⊢
   rw [Kg (S:=S) (fun x y=>MB hS) [] i al',Mz]
   rfl
  |cons a r=>
   rw [show a::r++[i]=a::(r++[i]) from rfl] at al' ⊢
   rw [Kg (S:=S) (fun x y=>MB hS) (r++[i]) a al',Mz]
   have el:(a::(r++[i])).getLastD 0=i:=by
    rw [←FD,List.getLastD_concat]
   rw [el]
   rfl
 refine F9 fun t ht=>?_
 obtain ⟨o1,o2⟩:=k.ok t ht
 obtain ⟨p1,m1,e1⟩:=pot t.1 (by omega)
 obtain ⟨p2,m2,e2⟩:=pot t.2.1 o2
 have had:ad T t.1 t.2.1=true:=by rw [←eT,ZcX];exact Us ht
 obtain ⟨p2',m2',hd⟩:=C t.1 p1 m1 t.2.1 o2 had
 have:=F.one m2 m2'
 subst this
 have hh:p2.headD 0=p1.headD 0:=by rw [Kx,Kx,hd]
 unfold BH
 rw [e1,e2,hh]
 generalize S (p1.headD 0)=x
 cases t.2.2<;>cases S t.1<;>cases S t.2.1<;>cases x<;>rfl
def CO (L:List Aj):List Aj:=L.map fun t=>(t.1,t.2.1,false)
def HZ (L:List Aj):Prop:=∃S,L.map (BH S)=CO L
theorem Ut {g:Aj→Bool}:L.map Bs=(L.map fun t=>((t.1,t.2.1,g t):Aj)).map Bs:=by rw [Cq];rfl
theorem Pq (k:NetOk n L):NetOk n (CO L):=⟨k.n1,k.n8,fun t ht=>by
 obtain ⟨s,hs,rfl⟩:=qaL.mp ht
 exact k.ok s hs,by
 unfold CO
 rw [FC]
 exact k.so.imp fun h=>h,by unfold CO;rw [BJ];exact k.le⟩
open Classical in
theorem Pr {h:HD} {Q:D→HD→Prop} (k:NetOk n L) (q:∀h',Sm h h'→Q (.bl (decide (HZ L))) h'):Wp (Ds [Aq n L] h) Q:=by
 change Wp (Az 3 (Mm Bv BN) [Aq n L] h) _
 refine Eq.mpr Bu ?_
 simp
 refine (HX k).wp fun h1 s1=>?_
 have kl:=k.le
 simp [Aq]
 refine Pu.wp (Rc (src:=[]) (xs:=L) (φ:=An) (fun t=>An (t.1,t.2.1,false)) (fun t=>[some (.int ((t.1:Nat):Int)),some (.int ((t.2.1:Nat):Int)),some (lit t.2.2)]) (Rf rfl) (fun x _=>rfl) (fun t _ h' s'=>?_) (by unfold sizeLine;omega)) fun h2 s2=>?_
 ·simp [Pu,An,lit,Sm.refl]
 have ed:D.tup [.int (n:Nat),.tup (L.map fun t=>An (t.1,t.2.1,false))]=Aq n (CO L):=by unfold Aq CO;rw [Cq];rfl
 refine Eq.mpr (congrArg (fun d=>Wp (BN [Aq n L,d] h2) _) ed) ?_
 refine Uq k (Pq k) Ut fun A h3 s3 F C al _=>?_
 have S3:=(s1.trans s2).trans s3
 by_cases z:L.map (BH (par (Ce L (CO L)) A))=CO L
 ·rw [if_pos z]
  have:=q h3 S3
  rw [decide_eq_true (show HZ L from ⟨_,z⟩)] at this
  simp [A2,EV,JI]
  exact this
 ·have nq:¬HZ L:=fun ⟨S,hS⟩=>by
   rw [←hS] at F C z
   exact z (Pp k F C al)
  rw [if_neg z]
  have:=q h3 S3
  rw [decide_eq_false nq] at this
  simp [EV,JI]
  exact this
end
def m1 (m:Nat→Nat) (t:Aj):Nat→Nat:=fun i=>if i=t.1∨i=t.2.1 then min (m t.1) (m t.2.1) else m i
def FZ (L:List Aj):Nat→Nat→Nat
 |0=>id
 |k+1=>L.foldl m1 (FZ L k)
def DR (A:List Br) (i:Nat):Nat:=((HN A i).getD []).headD 0
section
variable {n:Nat} {L:List Aj} {A:List Br} {r:Nat→Nat}
structure MkOk (n:Nat) (r m:Nat→Nat):Prop where
 lo:∀i,i<n→r i≤m i
 same:∀i,i<n→m i<n∧r (m i)=r i
theorem MkOk.step {m:Nat→Nat} {t:Aj} (x:MkOk n r m) (h1:t.1<n) (h2:t.2.1<n) (e:r t.1=r t.2.1):MkOk n r (m1 m t):=by
 have a1:=x.lo _ h1
 have a2:=x.lo _ h2
 have b1:=x.same _ h1
 have b2:=x.same _ h2
 have c:r t.1≤min (m t.1) (m t.2.1)∧min (m t.1) (m t.2.1)<n∧r (min (m t.1) (m t.2.1))=r t.1:=by
  rcases Nat.le_total (m t.1) (m t.2.1) with z |z
  ·rw [Nat.min_eq_left z];exact ⟨a1,b1.1,b1.2⟩
  ·rw [Nat.min_eq_right z];exact ⟨by omega,b2.1,by rw [b2.2,e]⟩
 refine ⟨fun i hi=>?_,fun i hi=>?_⟩
 ·unfold m1
  split
  ·rename_i z
   rcases z with rfl |rfl
   ·exact c.1
   ·rw [←e];exact c.1
  ·exact x.lo i hi
 ·unfold m1
  split
  ·rename_i z
   rcases z with rfl |rfl
   ·exact c.2
   ·rw [←e];exact c.2
  ·exact x.same i hi
theorem Pt {m:Nat→Nat} {t:Aj} {i:Nat}:m1 m t i≤m i:=by
 unfold m1
 split
 ·rename_i z
  rcases z with rfl |rfl
  ·exact Nat.min_le_left _ _
  ·exact Nat.min_le_right _ _
 ·exact AG _
theorem Uu:∀{L:List Aj} {m:Nat→Nat},(∀t∈L,t.1<n∧t.2.1<n∧r t.1=r t.2.1)→MkOk n r m→MkOk n r (L.foldl m1 m)
 |[],_,_,x=>x
 |t::L,m,h,x=>by
  rw [Js]
  obtain ⟨h1,h2,h3⟩:=h t Bf
  exact Uu (fun s hs=>h s (Bn _ hs)) (x.step h1 h2 h3)
theorem MC:∀{L:List Aj} {m:Nat→Nat} {i:Nat},L.foldl m1 m i≤m i
 |[],_,_=>AG _
 |t::L,m,i=>by
  rw [Js]
  exact BP MC Pt
theorem Uv:∀{L:List Aj} {m:Nat→Nat} {t:Aj},t∈L→L.foldl m1 m t.1≤m t.2.1∧L.foldl m1 m t.2.1≤m t.1
 |t'::L,m,t,h=>by
  rw [Js]
  rcases qa5.mp h with rfl |h
  ·have e1:m1 m t t.1=min (m t.1) (m t.2.1):=by unfold m1;rw [if_pos (.inl rfl)]
   have e2:m1 m t t.2.1=min (m t.1) (m t.2.1):=by unfold m1;rw [if_pos (.inr rfl)]
   have q1:=MC (L:=L) (m:=m1 m t) (i:=t.1)
   have q2:=MC (L:=L) (m:=m1 m t) (i:=t.2.1)
   omega
  ·obtain ⟨a,b⟩:=Uv (m:=m1 m t') h
   exact ⟨BP a Pt,BP b Pt⟩
theorem Uw (h:∀t∈L,t.1<n∧t.2.1<n∧r t.1=r t.2.1) (hr:∀i,i<n→r i≤i):∀k,MkOk n r (FZ L k)
 |0=>⟨hr,fun i hi=>⟨hi,rfl⟩⟩
 |k+1=>Uu h (Uw h hr k)
theorem F0 (F:Forest n (ad L) A) {e:Nat} {p:List Nat} (h:(e,p)∈A):DR A e=p.headD 0:=by unfold DR;rw [Jh F h];rfl
theorem ZcY {x y:Nat} (h:ad L x y=true):∃t∈L,t.1=x∧t.2.1=y∨t.1=y∧t.2.1=x:=by
 obtain ⟨t,ht,hm⟩:=qbF.mp h
 exact ⟨t,by rcases of_decide_eq_true hm with z |z<;>simp [ht,z]⟩
theorem ZcZ (k:NetOk n L) (F:Forest n (ad L) A) (C:EF n (ad L) A) (al:∀i,i<n→∃p,(i,p)∈A):∀t∈L,t.1<n∧t.2.1<n∧DR A t.1=DR A t.2.1:=fun t ht=>by
 obtain ⟨o1,o2⟩:=k.ok t ht
 obtain ⟨p,hp⟩:=al t.1 (by omega)
 obtain ⟨p2,h2,e⟩:=C t.1 p hp t.2.1 o2 (Us ht)
 refine ⟨by omega,o2,?_⟩
 rw [F0 F hp,F0 F h2,Kx,Kx,e]
theorem Zc0 (F:Forest n (ad L) A) (lr:Lr A) (al:∀i,i<n→∃p,(i,p)∈A):∀i,i<n→DR A i≤i:=fun i hi=>by
 obtain ⟨p,hp⟩:=al i hi
 rw [F0 F hp]
 obtain ⟨q,rfl⟩:=F.last hp
 refine lr i _ _ hp ?_
 cases q<;>rfl
theorem Pv (k:NetOk n L) (F:Forest n (ad L) A) (C:EF n (ad L) A) (lr:Lr A) (al:∀i,i<n→∃p,(i,p)∈A):∀(j:Nat) (e:Nat) (p:List Nat),(e,p)∈A→p.length≤j+1→FZ L j e=DR A e
 |0,e,p,h,hl=>by
  rcases F.tr e p h with rfl |⟨r,q,hq,_,rfl⟩
  ·rw [F0 F h];rfl
  ·obtain ⟨q',rfl⟩:=F.last hq
   simp at hl
 |j+1,e,p,h,hl=>by
  have lo:=(Uw (ZcZ k F C al) (Zc0 F lr al) (j+1)).lo e (F.lt _ _ h)
  refine Nat.le_antisymm ?_ lo
  rcases F.tr e p h with rfl |⟨r,q,hq,ha,rfl⟩
  ·have:=Pv k F C lr al j e [e] h (by simp)
   rw [←this]
   exact MC
  ·have ih:=Pv k F C lr al j r q hq (by simp at hl;omega)
   obtain ⟨q',eq⟩:=F.last hq
   have er:DR A e=DR A r:=by
    rw [F0 F h,F0 F hq,eq]
    cases q'<;>rfl
   rw [er,←ih]
   obtain ⟨t,ht,z⟩:=ZcY ha
   have:=Uv (m:=FZ L j) ht
   rcases z with ⟨z1,z2⟩ |⟨z1,z2⟩
   ·rw [z1,z2] at this;exact this.2
   ·rw [z1,z2] at this;exact this.1
theorem Ux (k:NetOk n L) (F:Forest n (ad L) A) (C:EF n (ad L) A) (lr:Lr A) (al:∀i,i<n→∃p,(i,p)∈A) {i:Nat} (hi:i<n):FZ L n i=DR A i:=by
 obtain ⟨p,hp⟩:=al i hi
 exact Pv k F C lr al n i p hp (by have:=F.plen hp;omega)
theorem Pw (F:Forest n (ad L) A) {e:Nat} {p:List Nat} (h:(e,p)∈A):(DR A e,[DR A e])∈A:=by
 rw [F0 F h]
 obtain ⟨q,eq⟩:=F.last h
 have hx:p.headD 0∈p:=by rw [eq];cases q<;>simp
 obtain ⟨q2,h2,pre⟩:=F.pf e p h _ hx
 obtain ⟨q3,e3⟩:=F.last h2
 have nd:=F.nd _ _ h
 have n2:=F.nd _ _ h2
 have hd:q2.headD 0=p.headD 0:=by
  obtain ⟨t,rfl⟩:=pre
  rw [e3]
  cases q3<;>rfl
 cases q3 with
 |nil=>rw [e3] at h2;exact h2
 |cons a q3=>
  rw [e3] at hd n2
  have ha:a=p.headD 0:=hd
  rw [←ha] at n2
  simp at n2
theorem Zc1 (F:Forest n (ad L) A) {e:Nat} {p:List Nat} (h:(e,p)∈A):DR A (DR A e)=DR A e:=by rw [F0 F (Pw F h)];rfl
end
def BV (n:Nat) (L:List Aj) (i:Nat):Bool:=decide (FZ L n i=i)
def ml (n:Nat) (m:Nat→Nat):List D:=(List.range n).map fun i=>.int ((m i:Nat):Int)
theorem MD {n i:Nat} {m:Nat→Nat} (hi:i<n):(ml n m)[i]?=some (.int ((m i:Nat):Int)):=by unfold ml;simp [hi]
theorem Uy {n a v:Nat} {m:Nat→Nat}:(ml n m).set a (.int ((v:Nat):Int))=ml n fun i=>if i=a then v else m i:=by
 unfold ml
 apply List.ext_getElem
 ·simp
 ·intro i h1 h2
  simp at h1 h2
  rw [List.getElem_set]
  by_cases z:a=i
  ·subst z;simp
  ·rw [if_neg z]
   simp [Ne.symm z]
section
variable {n:Nat} {L:List Aj} {h:HD}
inductive Uz (n:Nat) (L:List Aj) (l:Nat) (h:HD) (xs:List Nat) (ρ:Ai) (h':HD):Prop where
 |mk (k:Nat) (y2 y3 y4 y5:Option D) (ex:xs=(List.range n).drop k) (hk:k≤n) (er:ρ=[some (Aq n L),some (.loc l),y2,y3,y4,y5]) (s:Sm h h') (e:h'[l]?=some (.lst (ml n (FZ L k)))):Uz n L l h xs ρ h'
inductive UA (n:Nat) (L:List Aj) (l k:Nat) (h:HD) (xs:List Aj) (ρ:Ai) (h':HD):Prop where
 |mk (dn:List Aj) (y2 y3 y4 y5:Option D) (ex:L=dn++xs) (er:ρ=[some (Aq n L),some (.loc l),y2,y3,y4,y5]) (s:Sm h h') (e:h'[l]?=some (.lst (ml n (dn.foldl m1 (FZ L k))))):UA n L l k h xs ρ h'
theorem Zc2 {a b:Nat} {h:HD}:GV (.int ((a:Nat):Int)) (.int ((b:Nat):Int)) h=.ok (.int ((min a b:Nat):Int)) h:=by
 rw [XX]
 congr 2
 split<;>omega
theorem Zc3 {Q:D→HD→Prop} (k:NetOk n L) (q:∀l h',Sm h h'→h'[l]?=some (.lst (((List.range n).filter (BV n L)).map fun i=>.int ((i:Nat):Int)))→Q (.loc l) h'):Wp (E5 [Aq n L] h) Q:=by
 have kl:=k.le
 have k8:=k.n8
 have ix0:∀h,As (Aq n L) (.int 0) h=.ok (.int ((n:Nat):Int)) h:=fun h=>rfl
 have ix1:∀h,As (Aq n L) (.int 1) h=.ok (.tup (L.map An)) h:=fun h=>rfl
 change Wp (Az 6 OV [Aq n L] h) _
 refine Eq.mpr Bu ?_
 refine Eq.mpr Bt ?_
 refine Eq.mpr G5 ?_
 refine Eq.mpr ZaH ?_
 simp [-Am,ix0]
 refine Ao (ZaI (by omega)) ?_
 refine BC (by simp;unfold sizeLine;omega) fun l h1 s1 e1 el _=>?_
 refine Eq.mpr Am ?_
 refine Eq.mpr Bt ?_
 refine Do (src:=[]) (xs:=List.range n) (fun i=>.int ((i:Nat):Int)) (Uz n L l h) ?_ (fun ys ρ h' _=>CC) ?_ ?_
 ·simp [ix0,D3 (show n≤1000 by omega)]
  exact ⟨0,_,_,_,_,by simp,by omega,rfl,s1,e1⟩
 ·rintro x xs ρ h2 ⟨j,y2,y3,y4,y5,ex,hj,rfl,s2,e2⟩
  obtain ⟨rfl,hx,rfl⟩:=Kd ex.symm
  refine ⟨_,rfl,?_⟩
  refine Do (src:=[]) (xs:=L) An (UA n L l x h) ?_ (fun ys ρ h' _=>CC) ?_ ?_
  ·simp [ix1]
   exact ⟨[],_,_,_,_,rfl,rfl,s2,e2⟩
  ·rintro t xs ρ h3 ⟨dn,y2,y3,y4,y5,exx,rfl,s3,e3⟩
   refine ⟨_,rfl,?_⟩
   have hk:=k.ok t (by rw [exx];simp)
   have h1n:t.1<n:=by omega
   generalize em:dn.foldl m1 (FZ L x)=m at e3
   simp [-Am]
   refine Ao (D7 e3 (MD h1n)) ?_
   rw [AH]
   refine Ao (D7 e3 (MD hk.2)) ?_
   rw [AH]
   refine Ao Zc2 ?_
   rw [AH]
   refine Ao (NU e3 (by unfold ml;simp;exact h1n)) ?_
   rw [Uy,AH]
   have ll:=(qa3.mp e3).1
   have e4:(h3.set l (.lst (ml n fun i=>if i=t.1 then min (m t.1) (m t.2.1) else m i)))[l]?=some (.lst (ml n fun i=>if i=t.1 then min (m t.1) (m t.2.1) else m i)):=Cf ll
   have s4:Sm h (h3.set l (.lst (ml n fun i=>if i=t.1 then min (m t.1) (m t.2.1) else m i))):=Sm.put s3 (by omega)
   generalize h3.set l (.lst (ml n fun i=>if i=t.1 then min (m t.1) (m t.2.1) else m i))=h4 at *
   refine Eq.mpr Am ?_
   simp
   refine Ao (D7 e4 (MD h1n)) ?_
   rw [AH,if_pos rfl]
   refine Ao (NU e4 (by unfold ml;simp;exact hk.2)) ?_
   rw [Uy,AH]
   have ll:=(qa3.mp e4).1
   simp only [B2]
   refine ⟨dn++[t],_,_,_,_,by rw [exx];simp,rfl,Sm.put s4 (by omega),?_⟩
   rw [Cf ll,List.foldl_append,em]
   congr 3
   funext i
   show _=m1 m t i
   unfold m1
   by_cases z1:i=t.1<;>by_cases z2:i=t.2.1<;>simp [z1,z2]
  ·rintro ρ h3 ⟨dn,y2,y3,y4,y5,exx,rfl,s3,e3⟩
   rw [El] at exx
   subst exx
   simp only [B2]
   exact ⟨x+1,_,_,_,_,rfl,by omega,rfl,s3,e3⟩
 ·rintro ρ h2 ⟨j,y2,y3,y4,y5,ex,hj,rfl,s2,e2⟩
  have:=Ms hj ex.symm
  subst this
  simp
  refine EZ (src:=[]) (xs:=List.range j) (φ:=fun i=>.int ((i:Nat):Int)) (BV j L) (fun i=>.int ((i:Nat):Int)) (fun i=>[some (.int ((i:Nat):Int)),some (.loc l)]) ?_ (by rw [Ga];unfold sizeLine;omega) (fun x _=>rfl) (fun x hx h' s'=>?_) (fun x hx _ h' s'=>?_) fun l3 h3 s3 e3=>?_
  ·simp [ix0,D3 (show j≤1000 by omega),Sm.refl,BR]
  ·have hx:=qaY.mp hx
   simp [Pu]
   refine Ao (D7 (s' _ _ e2) (MD hx)) ?_
   rw [AH]
   refine Ao R4 ?_
   simp [Sm.refl]
   unfold BV
   rw [qaW]
   simp
   exact Int.ofNat_inj
  ·simp [Pu,Sm.refl]
  ·exact q l3 h3 (s2.trans s3) e3
end
def Fr (n:Nat) (F:Nat→Bool):List Nat:=(List.range n).filter fun i=>!F i
theorem Zc4 {n:Nat} {F:Nat→Bool}:(Fr n F).Nodup:=List.Pairwise.filter _ List.nodup_range
theorem Zc5 {n:Nat} {F:Nat→Bool}:(Fr n F).length≤n:=by
 have:=GC (fun i=>!F i) (List.range n)
 rwa [Ga] at this
def Ek (n:Nat) (F p:Nat→Bool):Nat→Bool:=fun i=>!F i&&p ((Fr n F).idxOf i)
theorem Zc6 {n:Nat} {F p:Nat→Bool}:(((List.range (Fr n F).length).filter p).map fun j=>(Fr n F).getD j 0)=(List.range n).filter (Ek n F p):=by
 have e1:(List.range n).filter (Ek n F p)=(Fr n F).filter fun i=>p ((Fr n F).idxOf i):=by
  unfold Fr
  rw [List.filter_filter]
  refine Ia fun i _=>?_
  show Ek n F p i=_
  unfold Ek Fr
  rw [Bool.and_comm]
 rw [e1]
 have nd:=Zc4 (n:=n) (F:=F)
 generalize Fr n F=X at nd
 have e2:X=(List.range X.length).map fun j=>X.getD j 0:=by
  apply List.ext_getElem
  ·simp
  ·intro i h1 h2
   simp [FB,Ba h1]
 conv=>rhs;rw [e2]
 rw [List.filter_map]
 congr 1
 refine Ia fun j hj=>?_
 have hj:=qaY.mp hj
 rw [←e2]
 show p j=p (X.idxOf (X.getD j 0))
 rw [FB,Ba hj,Option.getD_some,List.Nodup.idxOf_getElem nd]
theorem Zc7 {n:Nat} {F P:Nat→Bool} (hP:∀i,i<n→F i=true→P i=false):∃p∈LL 0 (Fr n F).length,∀i,i<n→Ek n F p i=P i:=by
 obtain ⟨p,hp,he⟩:=YC (n:=(Fr n F).length) fun j=>P ((Fr n F).getD j 0)
 refine ⟨p,hp,fun i hi=>?_⟩
 unfold Ek
 cases hF:F i with
 |true=>rw [hP i hi hF];rfl
 |false=>
  have hm:i∈Fr n F:=qb8.mpr ⟨qaY.mpr hi,by simp [hF]⟩
  have hl:=List.idxOf_lt_length_of_mem hm
  rw [he _ hl,FB,Ba hl,Option.getD_some,List.getElem_idxOf]
  rfl
theorem Zc8 {n:Nat} {L:List Aj} {P P':Nat→Bool} (k:NetOk n L) (h:∀i,i<n→P i=P' i):L.map (BH P)=L.map (BH P'):=F9 fun t ht=>by
 obtain ⟨a,b⟩:=k.ok t ht
 unfold BH
 rw [h t.1 (by omega),h t.2.1 b]
theorem Kh {n:Nat} (hn:n≤1000):n≤sizeLine:=by unfold sizeLine;omega
theorem Zc9 {n:Nat} {R:Nat→Bool}:A2 (n+1) (ext n R)=.tup (((List.range n).filter R).map (fun i=>D.int ((i:Nat):Int))++[.int ((n:Nat):Int)]):=by
 unfold A2
 rw [List.range_succ,List.filter_append]
 have e1:(List.range n).filter (ext n R)=(List.range n).filter R:=Ia fun i hi=>by
  have:i<n:=by simpa using hi
  simp [ext,show i≠n by omega]
 have e2:[n].filter (ext n R)=[n]:=by simp [ext]
 rw [e1,e2]
 simp
theorem Zda {n:Nat} {R:Nat→Bool} (h:R n=false):A2 (n+1) R=A2 n R:=by
 unfold A2
 rw [List.range_succ,List.filter_append]
 simp [h]
def Zdb (n:Nat) (h:HD) (xs:List Nat) (ρ:Ai) (h':HD):Prop:=∃(j l:Nat) (y:Option D),xs=(List.range n).drop j∧j≤n∧ρ=[some (.int (n:Nat)),some (.loc l),y]∧Sm h h'∧h'[l]?=some (.lst ((LL 0 j).map (A2 j)))
theorem Zdc {n:Nat} {h:HD} {Q:D→HD→Prop} (hn:n≤8) (q:∀l h',Sm h h'→h'[l]?=some (.lst ((LL 0 n).map (A2 n)))→Q (.loc l) h'):Wp (E4 [.int (n:Nat)] h) Q:=by
 change Wp (Az 3 OT [.int (n:Nat)] h) _
 refine Eq.mpr Bu ?_
 simp [-Am]
 refine BC (by simp) fun l h1 s1 e1 _ _=>?_
 refine Eq.mpr Am ?_
 refine Eq.mpr Bt ?_
 have pw:∀k,k≤8→(LL 0 k).length≤256:=fun k hk=>by
  rw [RG]
  exact Nat.pow_le_pow_right (n:=2) (by decide) hk
 refine Do (src:=[]) (xs:=List.range n) (fun i=>.int ((i:Nat):Int)) (Zdb n h) ?_ (fun ys ρ h' _=>CC) ?_ ?_
 ·simp [D3 (show n≤1000 by omega)]
  exact ⟨0,l,_,by simp,by omega,rfl,s1,e1⟩
 ·rintro x xs ρ h2 ⟨j,l2,y,ex,hj,rfl,s2,e2⟩
  obtain ⟨rfl,hk',rfl⟩:=Kd ex.symm
  refine ⟨_,rfl,?_⟩
  simp
  refine EZ (src:=[(l2,(LL 0 x).map (A2 x))]) (xs:=LL 0 x) (φ:=A2 x) (fun _=>true) (fun R=>A2 (x+1) (ext x R)) (fun R=>[some (A2 x R),some (.int ((x:Nat):Int))]) ?_ (Kh (by have:=pw x (by omega);omega)) (fun R _=>rfl) (fun R _ h2 s2=>(.ok:Pu (.ok true h2) h2 true)) (fun R hR _ h3 s3=>?_) fun l3 h3 s3 e3=>?_
  ·simp [IV e2]
   exact ⟨.refl _,fun h2 s2=>IC (s2 _ _ e2)⟩
  ·simp [Pu]
   rw [Zc9]
   unfold A2
   rw [EH (by
    have:=GC R (List.range x)
    simp at this ⊢
    omega)]
   exact ⟨rfl,.refl _⟩
  ·rw [Gp] at e3
   refine Ao (JX (s3 _ _ e2) e3) ?_
   have:=pw x (by omega)
   refine BC (Kh (by simp;omega)) fun l4 h4 s4 e4 _ _=>?_
   simp only [B2]
   refine ⟨x+1,l4,_,rfl,by omega,rfl,s2.trans (s3.trans s4),?_⟩
   rw [e4,LL,Em,Cq]
   have ea:(LL 0 x).map (A2 x)=(LL 0 x).map (A2 (x+1)):=F9 fun R hR=>by rw [Zda (n:=x) (LD hR _ (by omega))]
   rw [ea,Nat.zero_add]
   rfl
 ·rintro ρ h2 ⟨j,l2,y,ex,hj,rfl,s2,e2⟩
  have:j=n:=Ms hj ex.symm
  subst this
  simp
  exact q _ _ s2 e2
section
variable {n n':Nat} {L L':List Aj} {h:HD}
theorem Px {t:Aj} {h:HD}:D9 (An t) none (some 2) h=.ok (DQ t) h:=Gz (k:=2)
theorem MF {cs:List (Option Nat)} {f:ME} {ρ:Ai} {Q:D→HD→Prop} (le:L.length≤1000) (ef:∀h,f ρ h=.ok (.tup (L.map An)) h) (hc:CK cs ρ=[none]) (q:∀l h',Sm h h'→h'[l]?=some (.lst (L.map DQ))→Q (.loc l) h'):Wp (A5 cs (B1 f) (Bq 0) (BX) (Be (Ab 0) (Bh) (Bd (mC (.int 2)))) ρ h) Q:=by
 refine EZ (src:=[]) (xs:=L) (φ:=An) (fun _=>true) DQ (fun t=>[some (An t)]) ?_ (Kh le) (fun x _=>by rw [hc];rfl) (fun x _ h' s'=>(.ok:Pu (.ok true h') h' true)) (fun t _ _ h' s'=>?_) fun l h' s' e'=>?_
 ·simp [ef,Sm.refl,BR]
 ·simp [Pu]
  refine Ao Px ?_
  exact ⟨rfl,.refl _⟩
 ·rw [Gp] at e'
  exact q l h' s' e'
theorem F4 {h:HD}:As (Aq n L) (.int 0) h=.ok (.int ((n:Nat):Int)) h:=rfl
theorem UB {h:HD}:As (Aq n L) (.int 1) h=.ok (.tup (L.map An)) h:=rfl
theorem Pz {a b:Nat} {h:HD}:BU (.int ((a:Nat):Int)) (.int ((b:Nat):Int)) h=.ok (.bl (!decide (a=b))) h:=by
 rw [Zm]
 congr 3
 rw [qaW]
 simp
 exact Int.ofNat_inj
theorem Zdd {Q:D→HD→Prop} (k:NetOk n L) (k':NetOk n' L') (no:¬(n=n'∧L.map Bs=L'.map Bs)) (q:∀h',Sm h h'→Q .non h'):Wp (Dh [Aq n L,Aq n' L'] h) Q:=by
 have kl:=k.le
 have kl':=k'.le
 change Wp (Az 6 (Mk E5 E4 CD) [Aq n L,Aq n' L'] h) _
 refine Eq.mpr Bu ?_
 refine Eq.mpr Bt ?_
 simp [-Am,F4,Pz]
 by_cases z:n=n'
 ·subst z
  simp [-Am]
  refine MF (L:=L) (by omega) (fun h=>by rfl) rfl fun l1 h1 s1 e1=>?_
  refine MF (L:=L') (by omega) (fun h=>by rfl) rfl fun l2 h2 s2 e2=>?_
  refine Ao (Mx (s2 _ _ e1) e2) ?_
  rw [AH,decide_eq_false (fun z=>no ⟨rfl,z⟩)]
  simp
  exact q h2 (s1.trans s2)
 ·have zi:¬((n:Nat):Int)=((n':Nat):Int):=fun y=>z (Int.ofNat_inj.mp y)
  rw [if_neg zi];simp
  exact q h (.refl _)
theorem Zde {Q:D→HD→Prop} (k:NetOk n L) (k':NetOk n' L') (no:¬(n=n'∧L.map Bs=L'.map Bs)) (q:∀h',Sm h h'→Q .non h'):Wp (BN [Aq n L,Aq n' L'] h) Q:=by
 have kl:=k.le
 have kl':=k'.le
 change Wp (Az 6 (Je Bv DN Ec Ed DM Ef) [Aq n L,Aq n' L'] h) _
 refine Eq.mpr Bu ?_
 simp [-Am]
 refine (HX k).wp fun h1 s1=>?_
 refine Eq.mpr Am ?_
 simp [-Am]
 refine (HX k').wp fun h2 s2=>?_
 refine Eq.mpr Am ?_
 simp [-Am,F4]
 refine Eq.mpr Am ?_
 simp [-Am,F4,Pz]
 by_cases z:n=n'
 ·subst z
  simp [-Am]
  refine Mw (by omega) fun l3 h3 s3 e3=>?_
  refine Mw (by omega) fun l4 h4 s4 e4=>?_
  refine Ao (Mx (s4 _ _ e3) e4) ?_
  rw [AH,decide_eq_false (fun z=>no ⟨rfl,z⟩)]
  simp
  exact q h4 (((s1.trans s2).trans s3).trans s4)
 ·have zi:¬((n:Nat):Int)=((n':Nat):Int):=fun y=>z (Int.ofNat_inj.mp y)
  rw [if_neg zi];simp
  exact q h2 (s1.trans s2)
inductive UC (n:Nat) (L L':List Aj) (l3 l:Nat) (h:HD) (xs:List (Nat→Bool)) (ρ:Ai) (h':HD):Prop where
 |mk (dn:List (Nat→Bool)) (y2 y4 y5:Option D) (ex:LL 0 (Fr n (BV n L)).length=dn++xs) (er:ρ=[some (Aq n L),some (Aq n L'),y2,some (.loc l3),y4,y5]) (s:Sm h h') (e3:h'[l3]?=some (.lst ((Fr n (BV n L)).map fun i=>.int ((i:Nat):Int)))) (e:h'[l]?=some (.lst ((LL 0 (Fr n (BV n L)).length).map (A2 (Fr n (BV n L)).length)))) (no:∀p∈dn,L.map (BH (Ek n (BV n L) p))≠L'):UC n L L' l3 l h xs ρ h'
theorem Zdf {l x:Nat} {ks:List Nat} (e:h[l]?=some (.lst (ks.map fun i=>.int ((i:Nat):Int)))):DH true (.int (x:Nat)) (.loc l) h=.ok (.bl (!ks.contains x)) h:=by
 have:=Ra (neg:=true) (k:=x) (ks:=ks) (h:=h)
 simp only [DH,BQ,e] at this ⊢
 exact this
theorem Zdg {Q:D→HD→Prop} (k:NetOk n L) (k':NetOk n L') (pr:L.map Bs=L'.map Bs)
 (q1:∀P h',Sm h h'→(∀i,i<n→BV n L i=true→P i=false)→L.map (BH P)=L'→Q (A2 n P) h')
 (q2:∀h',Sm h h'→(∀P:Nat→Bool,(∀i,i<n→BV n L i=true→P i=false)→L.map (BH P)≠L')→Q .non h'):Wp (Dh [Aq n L,Aq n L'] h) Q:=by
 have kl:=k.le
 have kl':=k'.le
 have k8:=k.n8
 change Wp (Az 6 (Mk E5 E4 CD) [Aq n L,Aq n L'] h) _
 refine Eq.mpr Bu ?_
 refine Eq.mpr Bt ?_
 simp [-Am,F4,Pz]
 refine MF (L:=L) (by omega) (fun h=>by rfl) rfl fun l1 h1 s1 e1=>?_
 refine MF (L:=L') (by omega) (fun h=>by rfl) rfl fun l2 h2 s2 e2=>?_
 refine Ao (Mx (s2 _ _ e1) e2) ?_
 rw [AH,decide_eq_true pr]
 simp [-Am]
 refine Eq.mpr Am ?_
 simp [-Am]
 refine Zc3 k fun l3 h3 s3 e3=>?_
 refine Eq.mpr Am ?_
 refine Eq.mpr Bt ?_
 refine Eq.mpr G5 ?_
 refine EZ (src:=[]) (xs:=List.range n) (φ:=fun i=>.int ((i:Nat):Int)) (fun i=>!BV n L i) (fun i=>.int ((i:Nat):Int)) (fun i=>[some (.int ((i:Nat):Int)),some (.loc l3)]) ?_ (by rw [Ga];unfold sizeLine;omega) (fun x _=>rfl) (fun x hx h' s'=>?_) (fun x hx _ h' s'=>?_) fun l4 h4 s4 e4=>?_
 ·simp [F4,D3 (show n≤1000 by omega),Sm.refl,BR]
 ·have hx:=qaY.mp hx
  simp [Pu]
  refine Ao (Zdf (s' _ _ e3)) ?_
  rw [AH,TB hx]
  simp [Sm.refl]
 ·simp [Pu,Sm.refl]
 refine Eq.mpr Am ?_
 refine Eq.mpr Bt ?_
 have e4:h4[l4]?=some (.lst ((Fr n (BV n L)).map fun i=>.int ((i:Nat):Int))):=e4
 have fl:=Zc5 (n:=n) (F:=BV n L)
 generalize eM:(Fr n (BV n L)).length=M at fl
 obtain ⟨d,h5,e5,l,rfl,s5,f5⟩:=(Zdc (n:=M) (h:=h4) (Q:=fun d h'=>∃l,d=.loc l∧Sm h4 h'∧h'[l]?=some (.lst ((LL 0 M).map (A2 M)))) (by omega) fun l h' s e=>⟨l,rfl,s,e⟩).ex
 have S5:=(((s1.trans s2).trans s3).trans s4).trans s5
 subst eM
 refine Do (src:=[(l,(LL 0 (Fr n (BV n L)).length).map (A2 (Fr n (BV n L)).length))]) (xs:=LL 0 (Fr n (BV n L)).length) (A2 (Fr n (BV n L)).length) (UC n L L' l4 l h) ?_ (fun ys ρ h' z=>?_) ?_ ?_
 ·simp [RD e4]
  refine Ao e5 ?_
  rw [AH,IV f5]
  exact ⟨rfl,[],_,_,_,rfl,rfl,S5,s5 _ _ e4,f5,fun _ z=>(nomatch z)⟩
 ·obtain ⟨_,_,_,_,_,_,_,_,e,_⟩:=z
  exact IC e
 ·rintro p xs ρ h6 ⟨dn,y2,y4,y5,ex,rfl,s6,e6,f6,no⟩
  refine ⟨_,rfl,?_⟩
  refine Eq.mpr Bt ?_
  refine Eq.mpr G5 ?_
  refine Pu.wp (NR (src:=[]) (xs:=(List.range (Fr n (BV n L)).length).filter p) (φ:=fun i=>.int ((i:Nat):Int)) (fun j=>.int (((Fr n (BV n L)).getD j 0:Nat):Int)) (fun j=>[some (.int ((j:Nat):Int)),some (.loc l4)]) ?_ ?_ (fun x _=>rfl) (fun x hx h' s'=>?_)) fun h7 s7=>?_
  ·simp [A2,Sm.refl,BR]
  ·exact Kh (BP (GC _ _) (by rw [Ga];omega))
  ·have hx:=qaY.mp (qb8.mp hx).1
   simp [Pu]
   refine Ao (D7 (a:=.int (((Fr n (BV n L)).getD x 0:Nat):Int)) (s' _ _ e6) (by simp [hx])) ?_
   exact ⟨by simp [FB],.refl _⟩
  have el:D.tup (((List.range (Fr n (BV n L)).length).filter p).map fun j=>.int (((Fr n (BV n L)).getD j 0:Nat):Int))=A2 n (Ek n (BV n L) p):=by
   unfold A2
   rw [←Zc6,Cq]
   rfl
  rw [el]
  refine Eq.mpr Am ?_
  simp
  refine (T4 k).wp fun h8 s8=>?_
  refine Ao Uo ?_
  rw [AH]
  by_cases z:L.map (BH (Ek n (BV n L) p))=L'
  ·simp [z,B2]
   refine q1 _ _ ((s6.trans s7).trans s8) (fun i _ hF=>?_) z
   unfold Ek
   rw [hF]
   rfl
  ·simp [z,B2]
   refine ⟨dn++[p],_,_,_,by rw [ex];simp,rfl,(s6.trans s7).trans s8,s8 _ _ (s7 _ _ e6),s8 _ _ (s7 _ _ f6),fun p' hp'=>?_⟩
   rcases qaK.mp hp' with w |w
   ·exact no _ w
   ·rw [qaA] at w
    subst w
    exact z
 ·rintro ρ h6 ⟨dn,y2,y4,y5,ex,rfl,s6,e6,f6,no⟩
  simp
  refine q2 _ s6 fun P hP z=>?_
  obtain ⟨p,hp,he⟩:=Zc7 hP
  rw [El] at ex
  rw [ex] at hp
  exact no p hp ((Zc8 k he).trans z)
end
section
variable {n n':Nat} {L L':List Aj} {h:HD} {A:List Br}
theorem Zdh (pr:L.map Bs=L'.map Bs):ad (Ce L L')=ad L:=by
 funext x y
 unfold ad Ce
 rw [Jv]
 have hl:L.length≤L'.length:=by have:=congrArg List.length pr;simp at this;omega
 have e:L=(L.zip L').map Prod.fst:=(List.map_fst_zip hl).symm
 conv=>rhs;rw [e,Jv]
 rfl
theorem Zdi {S:Nat→Bool} (F:Forest n (ad (Ce L (L.map (BH S)))) A) {i:Nat} {p:List Nat} (hp:(i,p)∈A):par (Ce L (L.map (BH S))) A i=Bool.xor (S (p.headD 0)) (S i):=by
 rw [Ur] at *
 have hS:∀t∈L.map (fun t:Aj=>((t.1,t.2.1,Bool.xor (S t.1) (S t.2.1)):Aj)),t.2.2=Bool.xor (S t.1) (S t.2.1):=fun t ht=>by
  obtain ⟨s,_,rfl⟩:=qaL.mp ht
  rfl
 generalize eT:L.map (fun t:Aj=>((t.1,t.2.1,Bool.xor (S t.1) (S t.2.1)):Aj))=T at *
 obtain ⟨q,rfl⟩:=F.last hp
 have al':=My F _ i _ (AG _) hp
 unfold par
 rw [Jh F hp]
 show decide (GA T (q++[i]) % 2=1)=_
 cases q with
 |nil=>
  rw [Ic] at al' ⊢
  rw [Kg (S:=S) (fun x y=>MB hS) [] i al',Mz]
  rfl
 |cons a r=>
  rw [show a::r++[i]=a::(r++[i]) from rfl] at al' ⊢
  rw [Kg (S:=S) (fun x y=>MB hS) (r++[i]) a al',Mz]
  have el:(a::(r++[i])).getLastD 0=i:=by
   rw [←FD,List.getLastD_concat]
  rw [el]
  rfl
theorem Zdj {P P':Nat→Bool} (h:∀i,i<n→P i=P' i):A2 n P=A2 n P':=by
 unfold A2
 congr 2
 exact Ia fun i hi=>h i (qaY.mp hi)
theorem Zdk (k:NetOk n L) (F:Forest n (ad L) A) (C:EF n (ad L) A) (lr:Lr A) (al:∀i,i<n→∃p,(i,p)∈A) {i:Nat} (hi:i<n) (hf:BV n L i=true):(i,[i])∈A:=by
 obtain ⟨p,hp⟩:=al i hi
 have e:=of_decide_eq_true hf
 rw [Ux k F C lr al hi] at e
 have:=Pw F hp
 rwa [e] at this
theorem Zdl (k:NetOk n L) (F:Forest n (ad L) A) (C:EF n (ad L) A) (lr:Lr A) (al:∀i,i<n→∃p,(i,p)∈A) {i:Nat} {p:List Nat} (hp:(i,p)∈A):p.headD 0<n∧BV n L (p.headD 0)=true:=by
 have e:=F0 F hp
 have h1:=Pw F hp
 have h2:=Zc1 F hp
 rw [e] at h1 h2
 have hn:=F.lt _ _ h1
 refine ⟨hn,decide_eq_true ?_⟩
 rw [Ux k F C lr al hn]
 exact h2
theorem PB {Q:D→HD→Prop} (k:NetOk n L) (k':NetOk n' L') (q:∀d h',Sm h h'→(d=.non∨∃P,d=A2 n P)→(n=n'∧L.map Bs=L'.map Bs→(d≠.non↔∃S,L.map (BH S)=L'))→(∀h2,Pu (Dh [Aq n L,Aq n' L'] h2) h2 d)→Q d h'):Wp (BN [Aq n L,Aq n' L'] h) Q:=by
 by_cases pr:n=n'∧L.map Bs=L'.map Bs
 ·obtain ⟨rfl,pr⟩:=pr
  refine Uq k k' pr fun A h1 s1 F C al lr=>?_
  have adj:=Zdh pr
  refine q _ h1 s1 ?_ (fun _=>?_) fun h2=>?_
  ·split
   ·exact .inr ⟨_,rfl⟩
   ·exact .inl rfl
  ·split
   ·rename_i z
    exact ⟨fun _=>⟨_,z⟩,fun _ y=>by unfold A2 at y;cases y⟩
   ·rename_i z
    refine ⟨fun y=>absurd rfl y,fun ⟨S,e⟩=>?_⟩
    subst e
    exact absurd (Pp k F C al) z
  have F':Forest n (ad L) A:=adj ▸ F
  have C':EF n (ad L) A:=adj ▸ C
  refine Zdg k k' pr (fun P h3 s3 hP e=>⟨?_,s3⟩) fun h3 s3 no=>⟨?_,s3⟩
  ·subst e
   rw [if_pos (Pp k F C al)]
   refine Zdj fun i hi=>?_
   obtain ⟨p,hp⟩:=al i hi
   obtain ⟨a,b⟩:=Zdl k F' C' lr al hp
   rw [Zdi F hp,hP _ a b,Ju]
  ·rw [if_neg]
   refine no _ fun i hi hf=>?_
   have hp:=Zdk k F' C' lr al hi hf
   unfold par
   rw [Jh F hp]
   rfl
 ·exact Zde k k' pr fun h1 s1=>q _ h1 s1 (.inl rfl) (fun z=>absurd z pr) fun h2=>Zdd k k' pr fun h3 s3=>⟨rfl,s3⟩
end
theorem Zdm {s t:Aj} (h:HT.lexLt (DP (An s)) (DP (An t))=true):EI s t:=by
 have e:∀a b c d:Int,HT.lexLt [a,b] [c,d]=true→a<c∨(a=c∧b<d):=fun a b c d h=>by
  simp [HT.lexLt] at h
  split at h
  ·exact .inr ⟨by assumption,h.2⟩
  ·exact .inl h
 have:=e ((s.1:Nat):Int) ((s.2.1:Nat):Int) ((t.1:Nat):Int) ((t.2.1:Nat):Int) h
 unfold EI
 omega
theorem UD:∀{L:List Aj},Fc (L.map An)=true→L.Pairwise EI
 |[],_=>.nil
 |[_],_=>List.pairwise_singleton _ _
 |s::t::r,h=>by
  have h2:(HT.lexLt (DP (An s)) (DP (An t))&&Fc ((t::r).map An))=true:=h
  rw [Cp] at h2
  have hp:=UD h2.2
  have hs:=Zdm h2.1
  refine qcG.mpr ⟨fun x hx=>?_,hp⟩
  rcases qa5.mp hx with rfl |hx
  ·exact hs
  ·have:=(qcG.mp hp).1 x hx
   unfold EI at *
   omega
theorem Zdn {n:Nat} {L:List Aj} (n8:n≤8) (ok:∀t∈L,t.1<t.2.1∧t.2.1<n) (so:L.Pairwise EI):L.length≤100:=by
 have nd:(L.map fun t:Aj=>t.1*8+t.2.1).Nodup:=by
  unfold List.Nodup
  rw [FC]
  refine so.imp_of_mem fun {a b} ha hb h=>?_
  have:=ok a ha
  have:=ok b hb
  unfold EI at h
  omega
 have:=Ke (n:=64) nd fun x hx=>by
  obtain ⟨t,ht,rfl⟩:=qaL.mp hx
  have:=ok t ht
  omega
 rw [BJ] at this
 omega
def F5:D→Aj
 |.tup [.int a,.int b,.int c]=>(a.toNat,b.toNat,decide (c=1))
 |_=>(0,0,false)
theorem UE {d:D} (hb:CN d=true):∃n L,d=Aq n L∧NetOk n L:=by
 cases hT:EG d with
 |false=>rw [TU hT] at hb;cases hb
 |true=>
  obtain ⟨ds,rfl⟩:=HV hT
  by_cases h2:ds.length=2
  ·obtain ⟨a,b,rfl⟩:=two_of h2
   cases hbT:EG b with
   |false=>rw [TV hbT] at hb;cases hb
   |true=>
    obtain ⟨ts,rfl⟩:=HV hbT
    have h3:(Fb 1 8 a&&(ts.all (Du (Mr a))&&Fc ts))=true:=hb
    rw [Cp,Cp,qaT] at h3
    obtain ⟨hn,ht,hz⟩:=h3
    obtain ⟨n,rfl,n1,n8⟩:=TX hn
    have en:Mr (.int (n:Nat))=n:=by simp [Mr]
    rw [en] at ht
    have key:∀t∈ts,An (F5 t)=t∧(F5 t).1<(F5 t).2.1∧(F5 t).2.1<n:=fun t hm=>by
     obtain ⟨a,b,c,rfl,f1,f2,f3,f4,f5⟩:=Pe (ht t hm)
     refine ⟨?_,?_,?_⟩
     ·have hc:c=0∨c=1:=by omega
      unfold F5 An lit
      simp only
      rw [show ((a.toNat:Nat):Int)=a by omega,show ((b.toNat:Nat):Int)=b by omega]
      rcases hc with rfl |rfl<;>rfl
     ·show a.toNat<b.toNat
      omega
     ·show b.toNat<n
      omega
    have ee:(ts.map F5).map An=ts:=by
     rw [Cq]
     conv=>rhs;rw [←List.map_id ts]
     exact F9 fun t hm=>(key t hm).1
    have ok:∀t∈ts.map F5,t.1<t.2.1∧t.2.1<n:=fun t hm=>by
     obtain ⟨x,hx,rfl⟩:=qaL.mp hm
     exact (key x hx).2
    have so:(ts.map F5).Pairwise EI:=UD (by rw [ee];exact hz)
    exact ⟨n,ts.map F5,by unfold Aq;rw [ee],n1,n8,ok,so,Zdn n8 ok so⟩
  ·rw [TQ h2] at hb;cases hb
theorem Zdo {d:D} {h:HD} (p:Plain4 h d) (hz:∀x∈Bw d,(Bw x).length≤1000) (hb:CN d=false):Er (Ds [d] h) h "NoNet":=by
 change We (Az 3 (Mm Bv BN) [d] h) _ _
 refine Eq.mpr LP ?_
 simp
 exact (Pg p hz hb).we fun h' s=>⟨rfl,rfl,s⟩
theorem UF {d e:D} {h:HD} (p:Plain4 h d) (hz:∀x∈Bw d,(Bw x).length≤1000) (hb:CN d=false):Er (BN [d,e] h) h "NoNet":=by
 change We (Az 6 (Je Bv DN Ec Ed DM Ef) [d,e] h) _ _
 refine Eq.mpr LP ?_
 simp
 exact (Pg p hz hb).we fun h' s=>⟨rfl,rfl,s⟩
theorem Zdp {d:D} {n:Nat} {L:List Aj} {h:HD} (k:NetOk n L) (p:Plain4 h d) (hz:∀x∈Bw d,(Bw x).length≤1000) (hb:CN d=false):Er (BN [Aq n L,d] h) h "NoNet":=by
 change We (Az 6 (Je Bv DN Ec Ed DM Ef) [Aq n L,d] h) _ _
 refine Eq.mpr LP ?_
 simp
 refine (HX k).we fun h1 s1=>?_
 exact (Pg (p.sm s1) hz hb).we fun h' s=>⟨rfl,rfl,s1.trans s⟩
theorem Zdq {b n:Nat} {h:HD} {Q:D→HD→Prop} (hx:BoxAt h b) (hn:n≤8) (q:∀p h',BoxAt h' b→Smx b h h'→Q (A2 n p) h'):Wp (E7 [.loc b,.int (n:Nat)] h) Q:=by
 change Wp (Az 2 (OZ AL) [.loc b,.int (n:Nat)] h) _
 refine Eq.mpr (Bu) ?_
 simp
 refine X4 (src:=[]) (xs:=List.range n) (fun i=>.int ((i:Nat):Int)) (fun h'=>BoxAt h' b∧Smx b h h') (fun _ _=>True) (fun i d=>d=.int ((i:Nat):Int)) (fun i=>[some (.int ((i:Nat):Int)),some (.loc b)]) ?_ (fun _ _=>CC) (fun h c x=>⟨x.1.new,x.2.new⟩) List.nodup_range (sz hn) (fun x _=>rfl) ?_ ?_
 ·simp [D3 (show n≤1000 by omega),hx,Smx.refl]
 ·intro x hx h i
  simp
  refine HP i.1 (by decide) (by decide) fun d h1 d0 d1 x1 s1=>?_
  simp [x1,i.2.trans s1]
 ·intro h' g e x1 hr _
  have:((List.range n).filter g).map e=((List.range n).filter g).map fun i=>D.int ((i:Nat):Int):=F9 fun x hx=>hr x (qb8.mp hx).1 (qb8.mp hx).2
  rw [this]
  exact q g h' x1.1 x1.2
theorem Zdr {n:Nat} {p:Nat→Bool} (hn:n≤8):∃x:Str,∀h,Dp (A2 n p) h=.ok (.str x) h:=Zk (Zj (n:=0) (k:=8) (L:=2) (fun d hd=>by
 obtain ⟨i,hi,rfl⟩:=qaL.mp hd
 have:=qaY.mp (qb8.mp hi).1
 exact Zl (by omega) (by omega)) (by
 rw [BJ]
 exact BP (GC _ _) (by simpa using hn))) (by decide) (by unfold sizeLine;decide)
theorem Zds {b:Bool}:∃x:Str,∀h,Dp (.bl b) h=.ok (.str x) h:=by cases b<;>exact ⟨_,fun h=>rfl⟩
@[irreducible] noncomputable def Ki:MS:=Ay 2 (Ah E6 (Aa (Ab 0) (Aa (Ab 1) (Ae))))
@[irreducible] noncomputable def Kj:MS:=Ay 3 (Ah Ee (Aa (Ab 2) (Ae)))
@[irreducible] noncomputable def Kk:MS:=Ay 4 (Ah CD (Aa (Ab 3) (Aa (Ah E7 (Aa (Ab 2) (Aa (Af As (Ab 3) (mC (.int 0))) (Ae)))) (Ae))))
@[irreducible] noncomputable def Kl:MS:=GX 5 6 (Aa (Ah AL (Aa (Ab 2) (Aa (mC (.int 4)) (Ae)))) (Aa (Ah AL (Aa (Ab 2) (Aa (Af Ax (Ah (AB CB) (Aa (Af As (Ab 3) (mC (.int 1))) (Ae))) (mC (.int 1))) (Ae)))) (Ae)))
@[irreducible] noncomputable def Km:MS:=Ay 7 (Af As (Ab 4) (mC (.int 1)))
@[irreducible] noncomputable def Kn:MS:=Bg (FK (AW (Af Ct (Ab 5) (mC (.int 0)))) (AW (Af BU (Ab 7) (Aw (Ae))))) (Ak (Ay 6 (Af CI (Ab 6) (Ah (AB CB) (Aa (Ab 7) (Ae))))) (Ay 4 (Aw (Aa (Af As (Ab 4) (mC (.int 0))) (Aa (Af Ax (Af Ax (Be (Ab 7) (Bh) (Bd (Ab 6))) (Aw (Aa (Af Ax (Be (Af As (Ab 7) (Ab 6)) (Bh) (Bd (mC (.int 2)))) (Aw (Aa (Af JG (mC (.int 1)) (Af As (Af As (Ab 7) (Ab 6)) (mC (.int 2)))) (Ae)))) (Ae)))) (Be (Ab 7) (Bd (Af Ax (Ab 6) (mC (.int 1)))) (Bh))) (Ae)))))) (Bp)
@[irreducible] noncomputable def Ko:MS:=Bg (AW (Af Ct (Ab 5) (mC (.int 1)))) (Ay 4 (Aw (Aa (Af As (Ab 4) (mC (.int 0))) (Aa (Af Ax (Be (Ab 7) (Bh) (Bd (Ab 6))) (Be (Ab 7) (Bd (Af Ax (Ab 6) (mC (.int 1)))) (Bh))) (Ae))))) (Bp)
@[irreducible] noncomputable def Kq:MS:=Cb (B1 (BG (Aa (Aw (Aa (Ab 3) (Aa (Ab 4) (Ae)))) (Aa (Aw (Aa (Ab 4) (Aa (Ab 3) (Ae)))) (Aa (Aw (Aa (Ab 3) (Aa (Ab 3) (Ae)))) (Aa (Aw (Aa (Ab 3) (Aa (Ah Ee (Aa (Ab 2) (Ae))) (Ae)))) (Ae))))))) (Dw 8 9) (Bg (AW (Af BU (Ah (AB Dp) (Aa (Ah BN (Aa (Ab 8) (Aa (Ab 9) (Ae)))) (Ae))) (Ah (AB Dp) (Aa (Ah Dh (Aa (Ab 8) (Aa (Ab 9) (Ae)))) (Ae))))) (AN (mC (.bl false))) (Bp))
@[irreducible] noncomputable def Kr:MS:=Ay 10 (Aw (Aa (Af As (Ab 3) (mC (.int 0))) (Aa (Ah (AB Ci) (Aa (A5 [none] (B1 (Af As (Ab 3) (mC (.int 1)))) (Bq 0) (BX) (Af Ax (Be (Ab 0) (Bh) (Bd (mC (.int 2)))) (Aw (Aa (mC (.int 0)) (Ae))))) (Ae))) (Ae))))
@[irreducible] noncomputable def Ks:MS:=Bg (Dk (AW (Af BU (Ah (AB Dp) (Aa (Ah Ds (Aa (Ab 3) (Ae))) (Ae))) (Ah (AB Dp) (Aa (Af EV (Ah Dh (Aa (Ab 3) (Aa (Ab 10) (Ae)))) (mC .non)) (Ae))))) (AW (Af EV (Ah Ds (Aa (Ab 10) (Ae))) (mC (.bl true))))) (AN (mC (.bl false))) (Bp)
@[irreducible] noncomputable def MH:MS:=Ay 13 (E1 [12] Dr (Ah Ds (Aa (Ab 0) (Ae))))
@[irreducible] noncomputable def MK:MS:=Bg (AW (Af BU (Ab 13) (Af As (BG (Aa (mC (.str "! net")) (Aa (mC (.str "told")) (Ae)))) (Ah (AB Gi) (Aa (Ah Cu (Aa (Ab 12) (Ae))) (Ae)))))) (AN (mC (.bl false))) (Bp)
@[irreducible] noncomputable def ML:MS:=Cb (B1 (BG (Aa (Aw (Aa (Ab 12) (Aa (Ab 3) (Ae)))) (Aa (Aw (Aa (Ab 3) (Aa (Ab 12) (Ae)))) (Aa (Aw (Aa (Ab 12) (Aa (Ab 12) (Ae)))) (Ae)))))) (Dw 8 9) (Bg (AW (Af BU (E1 [8,9] Dr (Ah BN (Aa (Ab 0) (Aa (Ab 1) (Ae))))) (Ab 13))) (AN (mC (.bl false))) (Bp))
@[irreducible] noncomputable def Kt:MS:=Cb (CJ (Aa (mC (.int 3)) (Ae))) (Bq 11) (Ak (Ay 12 (Ah E8 (Aa (Ab 2) (Aa (Ab 3) (Ae))))) (Ak MH (Ak MK ML)))
def A3 (ns:List Int) (k b n:Nat) (L:List Aj) (c4 c5 c6 c7 c8 c9 c10 c11 c12 c13:Option D):Ai:=[some (.scr ns),some (.int (k:Nat)),some (.loc b),some (Aq n L),c4,c5,c6,c7,c8,c9,c10,c11,c12,c13]
section
variable {ns:List Int} {k b n:Nat} {L:List Aj} {h:HD} {c2 c3 c4 c5 c6 c7 c8 c9 c10 c11 c12 c13:Option D} {Q:Fl×Ai→HD→Prop}
theorem st0 (hb:∀i∈ns,Builtin.Int.intBits i≤2^20) (hk:k≤1000) (ht:TabAt h) (q:∀b h',0<b→BoxAt h' b→TabAt h'→Q (.nx,[some (.scr ns),some (.int (k:Nat)),some (.loc b),c3,c4,c5,c6,c7,c8,c9,c10,c11,c12,c13]) h'):Wp (Ki [some (.scr ns),some (.int (k:Nat)),c2,c3,c4,c5,c6,c7,c8,c9,c10,c11,c12,c13] h) Q:=by
 unfold Ki
 simp
 refine ZbS hb hk fun b h1 x1 lb s1=>q b h1 (by have:=ht.pos;omega) x1 (ht.sm s1)
theorem Ku (hb:0<b) (bx:BoxAt h b) (ht:TabAt h) (q:∀n L h',NetOk n L→BoxAt h' b→TabAt h'→Q (.nx,A3 ns k b n L c4 c5 c6 c7 c8 c9 c10 c11 c12 c13) h'):Wp (Kj [some (.scr ns),some (.int (k:Nat)),some (.loc b),c3,c4,c5,c6,c7,c8,c9,c10,c11,c12,c13] h) Q:=by
 unfold Kj
 simp
 exact T9 bx hb ht fun n L h1 ko x1 t1 s1=>q n L h1 ko x1 t1
theorem DA (ko:NetOk n L) (hb:0<b) (bx:BoxAt h b) (ht:TabAt h) (q:∀S h',BoxAt h' b→TabAt h'→Q (.nx,A3 ns k b n L (some (Aq n (L.map (BH S)))) c5 c6 c7 c8 c9 c10 c11 c12 c13) h'):Wp (Kk (A3 ns k b n L c4 c5 c6 c7 c8 c9 c10 c11 c12 c13) h) Q:=by
 unfold Kk
 simp [A3,F4]
 refine Zdq bx ko.n8 fun S h1 x1 s1=>?_
 refine (T4 ko).wp fun h2 s2=>?_
 exact q S h2 (x1.sm s2) ((ht.smx s1 hb).sm s2)
theorem Ji (ko:NetOk n L) (hb:0<b) (bx:BoxAt h b) (ht:TabAt h) (q:∀(w a:Nat) h',w<4→a≤L.length→BoxAt h' b→TabAt h'→Q (.nx,A3 ns k b n L c4 (some (.int (w:Nat))) (some (.int (a:Nat))) c7 c8 c9 c10 c11 c12 c13) h'):Wp (Kl (A3 ns k b n L c4 c5 c6 c7 c8 c9 c10 c11 c12 c13) h) Q:=by
 unfold Kl
 have:=ko.le
 simp [A3,UB]
 refine HW bx hb ht (by decide) (by decide) fun w h1 l1 x1 t1 s1=>?_
 refine HW x1 hb t1 (by omega) (by omega) fun a h2 l2 x2 t2 s2=>?_
 try simp
 exact q w a h2 (by omega) (by omega) x2 t2
theorem st4 {n':Nat} {L':List Aj} (q:Q (.nx,A3 ns k b n L (some (Aq n' L')) c5 c6 (some (.tup (L'.map An))) c8 c9 c10 c11 c12 c13) h):Wp (Km (A3 ns k b n L (some (Aq n' L')) c5 c6 c7 c8 c9 c10 c11 c12 c13) h) Q:=by
 unfold Km
 simp [A3,UB]
 exact q
theorem Zdt {L:List Aj} {h:HD}:DY (.tup (L.map An)) (.tup []) h=.ok (.bl (!decide (L=[]))) h:=by
 have p1:Py (.tup (L.map An)) (.tuple (L.map fun t=>.tuple ((Ej t).map fun i=>.int i))):=(IT (n:=1) (e:=An) fun t _=>IT (n:=0) (xs:=Ej t) (e:=D.int) (g:=PyData.int) fun _ _=>pyn_int).py (by decide)
 have p2:Py (.tup []) (.tuple []):=⟨rfl,rfl⟩
 rw [XW p1 p2]
 cases L<;>rfl
theorem NetOk.turn {t:Aj} {a:Nat} (ko:NetOk n L) (e:L[a]?=some t):NetOk n (L.take a++[(t.1,t.2.1,!t.2.2)]++L.drop (a+1)):=by
 obtain ⟨ha,et⟩:=qa3.mp e
 have eL:L=L.take a++[t]++L.drop (a+1):=by
  rw [←et]
  simp
 have key:(L.take a++[((t.1,t.2.1,!t.2.2):Aj)]++L.drop (a+1)).map (fun t:Aj=>(t.1,t.2.1))=L.map fun t:Aj=>(t.1,t.2.1):=by
  conv=>rhs;rw [eL]
  simp
 refine ⟨ko.n1,ko.n8,fun s hs=>?_,?_,?_⟩
 ·have hm:(s.1,s.2.1)∈L.map fun t:Aj=>(t.1,t.2.1):=by rw [←key];exact qaL.mpr ⟨s,hs,rfl⟩
  obtain ⟨s',h1,h2⟩:=qaL.mp hm
  have:=ko.ok s' h1
  have e1:s'.1=s.1:=(Prod.mk.inj h2).1
  have e2:s'.2.1=s.2.1:=(Prod.mk.inj h2).2
  omega
 ·have h1:(L.map fun t:Aj=>(t.1,t.2.1)).Pairwise fun s t:Nat×Nat=>s.1<t.1∨(s.1=t.1∧s.2<t.2):=by
   rw [FC]
   exact ko.so
  rw [←key,FC] at h1
  exact h1
 ·have:=congrArg List.length key
  rw [BJ,BJ] at this
  rw [this]
  exact ko.le
theorem NetOk.without {a:Nat} (ko:NetOk n L):NetOk n (L.take a++L.drop (a+1)):=by
 have sub:(L.take a++L.drop (a+1)).Sublist L:=by
  conv=>rhs;rw [←List.take_append_drop a L]
  refine List.Sublist.append (List.Sublist.refl _) ?_
  rw [←List.drop_drop]
  exact List.drop_sublist _ _
 exact ⟨ko.n1,ko.n8,fun t ht=>ko.ok t (sub.subset ht),ko.so.sublist sub,BP sub.length_le ko.le⟩
theorem PC {xs ys:List Aj} {h:HD} (hz:xs.length+ys.length≤1000):Ax (.tup (xs.map An)) (.tup (ys.map An)) h=.ok (.tup ((xs++ys).map An)) h:=by
 rw [EH (by simp;omega),Em]
theorem GB {L':List Aj} {w a:Nat} (ko:NetOk n L') (q:∀L2 c6' h',NetOk n L2→Sm h h'→(w=1→L2=L'∧c6'=some (.int (a:Nat)))→Q (.nx,A3 ns k b n L (some (Aq n L2)) (some (.int (w:Nat))) c6' (some (.tup (L'.map An))) c8 c9 c10 c11 c12 c13) h'):Wp (Kn (A3 ns k b n L (some (Aq n L')) (some (.int (w:Nat))) (some (.int (a:Nat))) (some (.tup (L'.map An))) c8 c9 c10 c11 c12 c13) h) Q:=by
 unfold Kn
 have kl:=ko.le
 simp [A3]
 by_cases hw:w=0
 ·subst hw
  simp
  refine Ao Zdt ?_
  rw [AH]
  cases L' with
  |nil=>
   simp
   exact q _ _ h ko (.refl _) fun z=>absurd z (by decide)
  |cons t0 L0=>
   generalize eL:t0::L0=L' at *
   have hl:0<L'.length:=by rw [←eL];simp
   have hne:¬L'=[]:=fun z=>by rw [z] at hl;simp at hl
   have hm:a % L'.length<L'.length:=Nat.mod_lt _ hl
   simp [hne]
   have em:CI (.int ((a:Nat):Int)) (.int ((L'.length:Nat):Int)) h=.ok (.int (((a % L'.length:Nat):Nat):Int)) h:=by
    rw [FS (by omega)]
    rfl
   refine Ao em ?_
   rw [AH]
   generalize a % L'.length=m at hm
   obtain ⟨t,et⟩:∃t,L'[m]?=some t:=⟨L'[m],Ba hm⟩
   simp [F4]
   refine Ao Gz ?_
   rw [AH]
   have ei:As (.tup (L'.map An)) (.int ((m:Nat):Int)) h=.ok (An t) h:=ix_tup (by rw [CP,et];rfl)
   refine Ao ei ?_
   rw [AH]
   refine Ao Px ?_
   rw [AH]
   refine Ao ei ?_
   rw [AH]
   refine Ao (show As (An t) (.int 2) h=.ok (lit t.2.2) h from rfl) ?_
   rw [AH]
   have es:JG (.int 1) (lit t.2.2) h=.ok (lit (!t.2.2)) h:=by
    cases t.2.2<;>rfl
   refine Ao es ?_
   rw [AH]
   try simp
   refine Ao (show Ax (DQ t) (.tup [lit (!t.2.2)]) h=.ok (An (t.1,t.2.1,!t.2.2)) h from by unfold DQ;rw [EH (by simp)];rfl) ?_
   rw [AH]
   try simp
   have lt:(L'.take m).length≤100:=by simp;omega
   have ld:(L'.drop (m+1)).length≤100:=by simp;omega
   refine Ao (show Ax (.tup ((L'.map An).take m)) (.tup [An (t.1,t.2.1,!t.2.2)]) h=.ok (.tup ((L'.take m++[(t.1,t.2.1,!t.2.2)]).map An)) h from by
    rw [←List.map_take]
    exact PC (ys:=[(t.1,t.2.1,!t.2.2)]) (by simp at *;omega)) ?_
   rw [AH]
   have e1:((m:Nat):Int)+1=((m+1:Nat):Int):=by omega
   rw [e1]
   refine Ao Jg ?_
   rw [AH]
   rw [←List.map_drop]
   refine Ao (PC (by simp at *;omega)) ?_
   rw [AH]
   have:=q _ (some (.int ((m:Nat):Int))) h (ko.turn et) (.refl _) fun z=>absurd z (by decide)
   simpa [A3,Aq] using this
 ·have hw':¬((w:Nat):Int)=0:=by omega
  simp [hw]
  exact q L' _ h ko (.refl _) fun _=>⟨rfl,rfl⟩
theorem st6 {L' L2:List Aj} {w a:Nat} (ko:NetOk n L') (k2:NetOk n L2) (c6e:w=1→L2=L'∧c6=some (.int (a:Nat))) (q:∀L3 h',NetOk n L3→Sm h h'→Q (.nx,A3 ns k b n L (some (Aq n L3)) (some (.int (w:Nat))) c6 (some (.tup (L'.map An))) c8 c9 c10 c11 c12 c13) h'):Wp (Ko (A3 ns k b n L (some (Aq n L2)) (some (.int (w:Nat))) c6 (some (.tup (L'.map An))) c8 c9 c10 c11 c12 c13) h) Q:=by
 unfold Ko
 have kl:=ko.le
 by_cases hw:w=1
 ·obtain ⟨rfl,rfl⟩:=c6e hw
  subst hw
  simp [A3,F4]
  refine Ao Gz ?_
  rw [AH]
  have e1:((a:Nat):Int)+1=((a+1:Nat):Int):=by omega
  rw [e1]
  refine Ao Jg ?_
  rw [AH,←List.map_drop,←List.map_take]
  refine Ao (PC (by simp;omega)) ?_
  rw [AH]
  have:=q _ h (ko.without (a:=a)) (.refl _)
  simpa [A3,Aq] using this
 ·have hw':¬((w:Nat):Int)=1:=by omega
  simp [A3,hw']
  exact q L2 h k2 (.refl _)
theorem Zdu {d:D} {m:Nat} (m8:m≤8) (hd:d=.non∨∃P,d=A2 m P):∃x:Str,∀h,Dp d h=.ok (.str x) h:=by
 rcases hd with rfl |⟨P,rfl⟩
 ·exact ⟨_,fun h=>rfl⟩
 ·exact Zdr m8
structure NP where
 n:Nat
 L:List Aj
 n':Nat
 L':List Aj
 k:NetOk n L
 k':NetOk n' L'
def NP.d (z:NP):D:=.tup [Aq z.n z.L,Aq z.n' z.L']
def L7 (ns:List Int) (k b n:Nat) (L:List Aj) (c4 c5 c6 c7 c10 c11 c12 c13:Option D) (l:Nat) (zs:List D) (xs:List NP) (ρ:Ai) (h':HD):Prop:=∃c8 c9,ρ=A3 ns k b n L c4 c5 c6 c7 c8 c9 c10 c11 c12 c13∧h'[l]?=some (.lst zs)∧BoxAt h' b∧TabAt h'
theorem Kv {L2:List Aj} (ko:NetOk n L) (k2:NetOk n L2) (hb:0<b) (bx:BoxAt h b) (ht:TabAt h) (q:∀c8 c9 h',BoxAt h' b→TabAt h'→Q (.nx,A3 ns k b n L (some (Aq n L2)) c5 c6 c7 c8 c9 c10 c11 c12 c13) h'):Wp (Kq (A3 ns k b n L (some (Aq n L2)) c5 c6 c7 c8 c9 c10 c11 c12 c13) h) Q:=by
 unfold Kq
 obtain ⟨d,h1,e1,n',L',rfl,k',x1,t1⟩:=(T9 (Q:=fun d h'=>∃n' L',d=Aq n' L'∧NetOk n' L'∧BoxAt h' b∧TabAt h') bx hb ht fun n' L' h1 k' x1 t1 _=>⟨n',L',rfl,k',x1,t1⟩).ex
 have zs:∃zs:List NP,zs.map NP.d=[.tup [Aq n L,Aq n L2],.tup [Aq n L2,Aq n L],.tup [Aq n L,Aq n L],.tup [Aq n L,Aq n' L']]∧zs.length=4:=⟨[⟨n,L,n,L2,ko,k2⟩,⟨n,L2,n,L,k2,ko⟩,⟨n,L,n,L,ko,ko⟩,⟨n,L,n',L',ko,k'⟩],rfl,rfl⟩
 obtain ⟨zs,ez,lz⟩:=zs
 refine Do (src:=[(h1.length,zs.map NP.d)]) (xs:=zs) NP.d (L7 ns k b n L (some (Aq n L2)) c5 c6 c7 c10 c11 c12 c13 h1.length (zs.map NP.d)) ?_ (fun ys ρ h' z=>?_) ?_ ?_
 ·simp [A3]
  refine Ao e1 ?_
  simp
  refine BC (by simp) fun l h2 s2 e2 el _=>?_
  subst el
  rw [←ez] at e2
  rw [IV e2]
  exact ⟨rfl,_,_,rfl,e2,x1.sm s2,t1.sm s2⟩
 ·obtain ⟨_,_,_,e,_⟩:=z
  exact IC e
 ·rintro z xs ρ h2 ⟨d8,d9,rfl,e2,x2,t2⟩
  refine ⟨_,rfl,?_⟩
  simp
  refine PB z.k z.k' fun d h3 s3 hd _ du=>?_
  obtain ⟨x,rx⟩:=Zdu z.k.n8 hd
  refine Ao (rx h3) ?_
  rw [AH]
  refine (du h3).wp fun h4 s4=>?_
  refine Ao (rx h4) ?_
  rw [AH]
  simp [B2]
  have S:=s3.trans s4
  exact ⟨_,_,rfl,S _ _ e2,x2.sm S,t2.sm S⟩
 ·rintro ρ h2 ⟨d8,d9,rfl,e2,x2,t2⟩
  exact q _ _ h2 x2 t2
theorem st8 (ko:NetOk n L) (q:∀h',Sm h h'→Q (.nx,A3 ns k b n L c4 c5 c6 c7 c8 c9 (some (Aq n (CO L))) c11 c12 c13) h'):Wp (Kr (A3 ns k b n L c4 c5 c6 c7 c8 c9 c10 c11 c12 c13) h) Q:=by
 unfold Kr
 have kl:=ko.le
 simp [A3,F4]
 refine Pu.wp (Rc (src:=[]) (xs:=L) (φ:=An) (fun t=>An (t.1,t.2.1,false)) (fun t=>[some (An t)]) (Rf rfl) (fun x _=>rfl) (fun t _ h' s'=>?_) (Kh (by omega))) fun h2 s2=>?_
 ·simp [Pu]
  refine Ao Px ?_
  rw [AH]
  refine Ao (show Ax (DQ t) (.tup [.int 0]) h'=.ok (An (t.1,t.2.1,false)) h' from by unfold DQ;rw [EH (by simp)];rfl) ?_
  exact ⟨rfl,.refl _⟩
 have ed:D.tup [.int (n:Nat),.tup (L.map fun t=>An (t.1,t.2.1,false))]=Aq n (CO L):=by unfold Aq CO;rw [Cq];rfl
 rw [ed]
 exact q h2 s2
open Classical in
theorem Zdv (ko:NetOk n L):∃d,(∀h2,Pu (Dh [Aq n L,Aq n (CO L)] h2) h2 d)∧∀h,EV d .non h=.ok (.bl (decide (HZ L))) h:=by
 obtain ⟨_,_,_,d,hd,hq,du⟩:=(PB (h:=[]) (Q:=fun _ _=>∃d,(d=.non∨∃P,d=A2 n P)∧(n=n∧L.map Bs=(CO L).map Bs→(d≠.non↔∃S,L.map (BH S)=CO L))∧∀h2,Pu (Dh [Aq n L,Aq n (CO L)] h2) h2 d) ko (Pq ko) fun d h' _ hd hq du=>⟨d,hd,hq,du⟩).ex
 refine ⟨d,du,fun h=>?_⟩
 have this:d≠.non↔HZ L:=hq ⟨rfl,Ut⟩
 rcases hd with rfl |⟨P,rfl⟩
 ·rw [decide_eq_false (fun z=>(this.mpr z) rfl)]
  rfl
 ·rw [decide_eq_true (this.mp fun z=>by unfold A2 at z;cases z)]
  rfl
theorem Zdw:HZ (CO L):=⟨fun _=>false,by
 unfold CO
 rw [Cq,Cq]
 rfl⟩
open Classical in
theorem st9 (ko:NetOk n L) (q:∀h',Sm h h'→Q (.nx,A3 ns k b n L c4 c5 c6 c7 c8 c9 (some (Aq n (CO L))) c11 c12 c13) h'):Wp (Ks (A3 ns k b n L c4 c5 c6 c7 c8 c9 (some (Aq n (CO L))) c11 c12 c13) h) Q:=by
 unfold Ks
 obtain ⟨d,du,hd⟩:=Zdv ko
 simp [A3]
 refine Pr ko fun h1 s1=>?_
 generalize decide (HZ L)=v at hd ⊢
 obtain ⟨x,rx⟩:=Zds (b:=v)
 refine Ao (rx h1) ?_
 rw [AH]
 refine (du h1).wp fun h2 s2=>?_
 refine Ao (hd h2) ?_
 rw [AH]
 refine Ao (rx h2) ?_
 rw [AH]
 simp
 refine Pr (Pq ko) fun h3 s3=>?_
 rw [decide_eq_true Zdw]
 simp
 exact q h3 ((s1.trans s2).trans s3)
def tw (d:D):Str:=if CN d then "told" else "! net"
theorem u1 {d:D} (ht:TabAt h) (th:ThN b h d) (q:∀h',Sm h h'→Q (.nx,A3 ns k b n L c4 c5 c6 c7 c8 c9 c10 c11 (some d) (some (.str (tw d)))) h'):Wp (MH (A3 ns k b n L c4 c5 c6 c7 c8 c9 c10 c11 (some d) c13) h) Q:=by
 unfold MH tw at *
 simp [A3]
 cases hb:CN d with
 |true=>
  obtain ⟨n',L',rfl,k'⟩:=UE hb
  refine Oi (ds:=[Aq n' L']) ht rfl ?_
  simp
  refine Wp.we (Pr k' fun h1 s1=>?_)
  simp [hb] at q
  exact q h1 s1
 |false=>
  refine Tv (ds:=[d]) ht rfl ?_ fun h1 s1=>?_
  ·unfold Er
   simp
   exact Zdo th.1 th.2.1 hb
  ·simp [hb] at q
   exact q h1 s1
theorem u2 {d:D} (th:ThN b h d) (q:∀h',Sm h h'→Q (.nx,A3 ns k b n L c4 c5 c6 c7 c8 c9 c10 c11 (some d) (some (.str (tw d)))) h'):Wp (MK (A3 ns k b n L c4 c5 c6 c7 c8 c9 c10 c11 (some d) (some (.str (tw d)))) h) Q:=by
 unfold MK
 simp [A3]
 refine BC (by simp) fun l h2 s2 e2 _ _=>?_
 refine (Pf (th.1.sm s2) th.2.1).wp fun h3 s3=>?_
 simp
 have hi:As (.loc l) (.int (if CN d=true then 1 else 0)) h3=.ok (.str (tw d)) h3:=by
  have:=D7 (s3 _ _ e2) (k:=if CN d then 1 else 0) (a:=.str (tw d)) (by unfold tw;cases CN d<;>rfl)
  rw [←this]
  cases CN d<;>rfl
 refine Ao hi ?_
 simp
 exact q h3 (s2.trans s3)
def pk (d e:D) (x:Bool):D:=if x then d else e
theorem Zdx {d:D} {x y:Bool} {ρ:Ai} {QD:D→HD→Prop} (ht:TabAt h) (ko:NetOk n L) (th:ThN b h d) (hxy:(x||y)=true) (hd:AS ([8,9].map fun j=>(ρ[j]?).join)=some [pk d (Aq n L) x,pk d (Aq n L) y]) (q:∀h',Sm h h'→QD (.str (tw d)) h'):Wp (E1 [8,9] Dr (Ah BN (Aa (Ab 0) (Aa (Ab 1) (Ae)))) ρ h) QD:=by
 unfold tw at q
 cases hb:CN d with
 |true=>
  obtain ⟨n',L',rfl,k'⟩:=UE hb
  refine Oi ht hd ?_
  simp
  simp [hb] at q
  have key:∀{n1 n2 L1 L2} {R:Str→List (Str×D)→HD→Prop},NetOk n1 L1→NetOk n2 L2→We (BN [Aq n1 L1,Aq n2 L2] h) (fun _ h1=>QD (.str "told") h1) R:=fun k1 k2=>Wp.we (PB k1 k2 fun d h1 s1 _ _ _=>q h1 s1)
  cases x<;>cases y
  ·cases hxy
  ·exact key ko k'
  ·exact key k' ko
  ·exact key k' k'
 |false=>
  simp [hb] at q
  refine Tv ht hd ?_ fun h1 s1=>q h1 s1
  unfold Er
  simp
  cases x<;>cases y
  ·cases hxy
  ·exact Zdp ko th.1 th.2.1 hb
  ·exact UF th.1 th.2.1 hb
  ·exact UF th.1 th.2.1 hb
def L3 (ns:List Int) (k b n:Nat) (L:List Aj) (c4 c5 c6 c7 c10 c11:Option D) (d:D) (l:Nat) (zs:List D) (xs:List (Bool×Bool)) (ρ:Ai) (h':HD):Prop:=∃c8 c9,ρ=A3 ns k b n L c4 c5 c6 c7 c8 c9 c10 c11 (some d) (some (.str (tw d)))∧h'[l]?=some (.lst zs)∧BoxAt h' b∧TabAt h'∧ThN b h' d∧∀z∈xs,(z.1||z.2)=true
theorem MM {d:D} {h h':HD} (z:ThN b h d) (s:Sm h h') (y:BoxAt h' b):ThN b h' d:=z.smx (Fz s) y
def pd (n:Nat) (L:List Aj) (d:D) (z:Bool×Bool):D:=.tup [pk d (Aq n L) z.1,pk d (Aq n L) z.2]
theorem u3 {d:D} (ko:NetOk n L) (bx:BoxAt h b) (ht:TabAt h) (th:ThN b h d) (q:∀c8 c9 h',BoxAt h' b→TabAt h'→Q (.nx,A3 ns k b n L c4 c5 c6 c7 c8 c9 c10 c11 (some d) (some (.str (tw d)))) h'):Wp (ML (A3 ns k b n L c4 c5 c6 c7 c8 c9 c10 c11 (some d) (some (.str (tw d)))) h) Q:=by
 unfold ML
 refine Do (src:=[(h.length,[(true,false),(false,true),(true,true)].map (pd n L d))]) (xs:=[(true,false),(false,true),(true,true)]) (pd n L d) (L3 ns k b n L c4 c5 c6 c7 c10 c11 d h.length ([(true,false),(false,true),(true,true)].map (pd n L d))) ?_ (fun ys ρ h' z=>?_) ?_ ?_
 ·simp [A3]
  refine BC (by simp) fun l h2 s2 e2 el _=>?_
  subst el
  have e3:h2[h.length]?=some (.lst ([(true,false),(false,true),(true,true)].map (pd n L d))):=e2
  rw [IV e3]
  exact ⟨rfl,_,_,rfl,e3,bx.sm s2,ht.sm s2,MM th s2 (bx.sm s2),by decide⟩
 ·obtain ⟨_,_,_,e,_⟩:=z
  exact IC e
 ·rintro z xs ρ h2 ⟨d8,d9,rfl,e2,x2,t2,th2,hz⟩
  refine ⟨_,rfl,?_⟩
  simp
  refine Zdx (x:=z.1) (y:=z.2) t2 ko th2 (hz z Bf) rfl fun h3 s3=>?_
  simp [B2,A3]
  exact ⟨_,_,rfl,s3 _ _ e2,x2.sm s3,t2.sm s3,MM th2 s3 (x2.sm s3),fun y hy=>hz y (Bn _ hy)⟩
 ·rintro ρ h2 ⟨d8,d9,rfl,e2,x2,t2,th2,hz⟩
  exact q _ _ h2 x2 t2
def L10 (ns:List Int) (k b n:Nat) (L:List Aj) (c4 c5 c6 c7 c10:Option D) (xs:List Nat) (ρ:Ai) (h':HD):Prop:=∃c8 c9 c11 c12 c13,ρ=A3 ns k b n L c4 c5 c6 c7 c8 c9 c10 c11 c12 c13∧BoxAt h' b∧TabAt h'
theorem Zdy (ko:NetOk n L) (hb:0<b) (bx:BoxAt h b) (ht:TabAt h) (q:∀c8 c9 c11 c12 c13 h',TabAt h'→Q (.nx,A3 ns k b n L c4 c5 c6 c7 c8 c9 c10 c11 c12 c13) h'):Wp (Kt (A3 ns k b n L c4 c5 c6 c7 c8 c9 c10 c11 c12 c13) h) Q:=by
 unfold Kt
 refine Do (src:=[]) (xs:=List.range 3) (fun i=>.int ((i:Nat):Int)) (L10 ns k b n L c4 c5 c6 c7 c10) ?_ (fun ys ρ h' _=>CC) ?_ ?_
 ·simp [A3,show G0 [.int 3] h=.ok ((List.range 3).map fun k=>D.int ((k:Nat):Int),[]) h from D3 (n:=3) (by decide)]
  exact ⟨_,_,_,_,_,rfl,bx,ht⟩
 ·rintro x xs ρ h1 ⟨d8,d9,d11,d12,d13,rfl,x1,t1⟩
  refine ⟨_,rfl,?_⟩
  refine Eq.mpr Bt ?_
  simp [-Am,A3]
  refine Zct x1 hb t1 ko fun d h2 th x2 t2 s2=>?_
  refine Eq.mpr Am ?_
  refine Eq.mpr Bt ?_
  refine u1 t2 th fun h3 s3=>?_
  have x3:=x2.sm s3
  refine Eq.mpr Am ?_
  refine Eq.mpr Bt ?_
  refine u2 (MM th s3 x3) fun h4 s4=>?_
  refine Eq.mpr Am ?_
  have x4:=x3.sm s4
  refine u3 ko x4 ((t2.sm s3).sm s4) (MM th (s3.trans s4) x4) fun e8 e9 h5 x5 t5=>?_
  simp only [B2]
  exact ⟨_,_,_,_,_,rfl,x5,t5⟩
 ·rintro ρ h1 ⟨d8,d9,d11,d12,d13,rfl,x1,t1⟩
  exact q _ _ _ _ _ h1 t1
theorem Zdz {a2 a3 a4 a5 a6 a7 a8 a9 a10 a11 a12 a13:Option D} (hb:∀i∈ns,Builtin.Int.intBits i≤2^20) (hk:k≤1000) (ht:TabAt h)
 (q:∀(b2 b3 b4 b5 b6 b7 b8 b9 b10 b11 b12 b13:Option D) h',TabAt h'→Q (.nx,[some (.scr ns),some (.int (k:Nat)),b2,b3,b4,b5,b6,b7,b8,b9,b10,b11,b12,b13]) h'):
 Wp (Ak Ki (Ak Kj (Ak Kk (Ak Kl (Ak Km (Ak Kn (Ak Ko (Ak Kq (Ak Kr (Ak Ks Kt))))))))) [some (.scr ns),some (.int (k:Nat)),a2,a3,a4,a5,a6,a7,a8,a9,a10,a11,a12,a13] h) Q:=by
 rw [Bt]
 refine st0 hb hk ht fun b h1 hb0 x1 t1=>?_
 rw [Am,Bt]
 refine Ku hb0 x1 t1 fun n L h2 ko x2 t2=>?_
 rw [Am,Bt]
 refine DA ko hb0 x2 t2 fun S h3 x3 t3=>?_
 rw [Am,Bt]
 refine Ji ko hb0 x3 t3 fun w a h4 hw ha x4 t4=>?_
 rw [Am,Bt]
 refine st4 ?_
 rw [Am,Bt]
 refine GB (ko.sw (p:=S)) fun L2 c6 h5 k2 s5 hc=>?_
 rw [Am,Bt]
 refine st6 (ko.sw (p:=S)) k2 hc fun L3 h6 k3 s6=>?_
 have s56:=s5.trans s6
 rw [Am,Bt]
 refine Kv ko k3 hb0 (x4.sm s56) (t4.sm s56) fun c8 c9 h7 x7 t7=>?_
 rw [Am,Bt]
 refine st8 ko fun h8 s8=>?_
 rw [Am,Bt]
 refine st9 ko fun h9 s9=>?_
 rw [Am]
 have s89:=s8.trans s9
 exact Zdy ko hb0 (x7.sm s89) (t7.sm s89) fun _ _ _ _ _ h10 t10=>q _ _ _ _ _ _ _ _ _ _ _ _ h10 t10
end
def IL (ns:List Int) (xs:List Nat) (ρ:Ai) (h':HD):Prop:=∃d1 d2 d3 d4 d5 d6 d7 d8 d9 d10 d11 d12 d13,ρ=[some (.scr ns),d1,d2,d3,d4,d5,d6,d7,d8,d9,d10,d11,d12,d13]∧TabAt h'∧∀k∈xs,k≤1000
theorem ZdA:Mn E6 Ee E7 CD AL BN Dh Ds E8 Cu Dr=Ak (Cb (CJ (Aa (Ah (BB JL) (Aa (mC (.int 1)) (Aa (Ah (BB GV) (Aa (Ah (AB CB) (Aa (Ab 0) (Ae))) (Aa (mC (.int 4)) (Ae)))) (Ae)))) (Ae))) (Bq 1) (Ak Ki (Ak Kj (Ak Kk (Ak Kl (Ak Km (Ak Kn (Ak Ko (Ak Kq (Ak Kr (Ak Ks (Kt)))))))))))) (AN (mC (.bl true))):=by
 unfold Ki Kj Kk Kl Km Kn Ko Kq Kr Ks Kt MH MK ML
 rfl
theorem law_true (ns:List Int) (hl:ns.length≤63) (hb:∀i∈ns,Builtin.Int.intBits i≤2^20):∃h',F_law [.scr ns] [.tab]=.ok (.bl true) h':=by
 have main:Wp (F_law [.scr ns] [.tab]) fun d _=>d=.bl true:=by
  change Wp (Az 14 (Mn E6 Ee E7 CD AL BN Dh Ds E8 Cu Dr) [.scr ns] [.tab]) _
  rw [ZdA,Bu,Bt]
  obtain ⟨n,en,hn⟩:∃n:Nat,(if (if (4:Int)<(ns.length:Int) then (4:Int) else (ns.length:Int))>1 then (if (4:Int)<(ns.length:Int) then (4:Int) else (ns.length:Int)) else 1)=(n:Int)∧n≤99:=by
   have h0:0≤(if (if (4:Int)<(ns.length:Int) then (4:Int) else (ns.length:Int))>1 then (if (4:Int)<(ns.length:Int) then (4:Int) else (ns.length:Int)) else 1)∧(if (if (4:Int)<(ns.length:Int) then (4:Int) else (ns.length:Int))>1 then (if (4:Int)<(ns.length:Int) then (4:Int) else (ns.length:Int)) else 1)≤99:=by
    constructor<;>(split<;>split<;>omega)
   generalize (if (if (4:Int)<(ns.length:Int) then (4:Int) else (ns.length:Int))>1 then (if (4:Int)<(ns.length:Int) then (4:Int) else (ns.length:Int)) else 1)=E at h0
   exact ⟨E.toNat,by omega,by omega⟩
  refine Do (src:=[]) (xs:=List.range n) (fun i=>.int ((i:Nat):Int)) (IL ns) ?_ (fun ys ρ h' _=>CC) ?_ ?_
  ·simp
   rw [en,D3 (by omega)]
   exact ⟨rfl,_,_,_,_,_,_,_,_,_,_,_,_,_,rfl,rfl,fun k hk=>by have:=qaY.mp hk;omega⟩
  ·rintro x xs ρ h' ⟨d1,d2,d3,d4,d5,d6,d7,d8,d9,d10,d11,d12,d13,rfl,t,hx⟩
   refine ⟨_,rfl,?_⟩
   exact Zdz hb (hx x Bf) t fun _ _ _ _ _ _ _ _ _ _ _ _ h2 t2=>
    ⟨_,_,_,_,_,_,_,_,_,_,_,_,_,rfl,t2,fun k hk=>hx k (Bn _ hk)⟩
  ·rintro ρ h' ⟨d1,d2,d3,d4,d5,d6,d7,d8,d9,d10,d11,d12,d13,rfl,t,hx⟩
   simp
 obtain ⟨a,h',e,rfl⟩:=Wp.ex main
 exact ⟨h',e⟩
end LK
set_option maxHeartbeats 0
namespace LK
open PySem PySem.Spec PyProof.Rows L2 LS
def PD:Tp.Want:=⟨[(("is_whole":Str),Hj),(("lights_of":Str),Hk),(("paths_of":Str),Hl),(("lit_along":Str),Hm),(("pairs_of":Str),Hn),(("_law_cell":Str),Ho),(("_law_mix":Str),Hq),(("_law_take":Str),Hr),(("_law_kind":Str),Hs),(("_law_lots":Str),Ht),(("_law_net_switched":Str),Hu),(("_law_firsts":Str),Hv),(("is_between":Str),Hw),(("is_lot":Str),Hx),(("_law_box":Str),Hz),(("_law_wide_box":Str),HA),(("_law_lot":Str),HB),(("_law_no_net":Str),HC),(("_law_due":Str),HE),(("is_light":Str),HF),(("_law_net":Str),HG),(("is_tie":Str),HH),(("is_net":Str),HI),(("need_net":Str),HJ),(("net_switched":Str),HK),(("net_lot":Str),HL),(("is_quiet":Str),HM),(("law":Str),s_law),(("_law_said":Str),Ka)],[(("MOST_PLACES":Str),(8:Int))],["ValueError","all","bool","divmod","int","isinstance","len","list","max","min","range","repr","sum","tuple","zip"]⟩
theorem all_mk {l:PySem.W.OpenLaw} {w:World} {K:PySem.W.Frag} {h:Heap} {mg:Str→Option Value} {fa c T:Addr} (HS:Tp.Has PD K c T) (X:K.In h) (G:h.Ns mainGlobals mg) (hfa:mg "law"=some (.ref fa)):
 ∃fd:FuncData,(∀(s:Shared) (v:Value),BindsTo s fd ⟨[v],[]⟩ [("_law_script",v)])∧∀base:Heap,K.In base→base.Ns mainGlobals mg→I0 mg base→FnOk l.prog w K mg base (AK l.prog w K) 12 fa fd ["_law_script"] (FT K F_law):=by
 obtain ⟨fs,cs,bs,et,tb,hd,no⟩:=HS
 obtain ⟨_,_,_,_,_,_,_,_,_,_,a0,l0,c0,k0⟩:=fs 0 "is_whole" Hj rfl
 obtain ⟨_,_,_,_,_,_,_,_,_,_,a1,l1,c1,k1⟩:=fs 1 "lights_of" Hk rfl
 obtain ⟨_,_,_,_,_,_,_,_,_,_,a2,l2,c2,k2⟩:=fs 2 "paths_of" Hl rfl
 obtain ⟨_,_,_,_,_,_,_,_,_,_,a3,l3,c3,k3⟩:=fs 3 "lit_along" Hm rfl
 obtain ⟨_,_,_,_,_,_,_,_,_,_,a4,l4,c4,k4⟩:=fs 4 "pairs_of" Hn rfl
 obtain ⟨_,_,_,_,_,_,_,_,_,_,a5,l5,c5,k5⟩:=fs 5 "_law_cell" Ho rfl
 obtain ⟨_,_,_,_,_,_,_,_,_,_,a6,l6,c6,k6⟩:=fs 6 "_law_mix" Hq rfl
 obtain ⟨_,_,_,_,_,_,_,_,_,_,a7,l7,c7,k7⟩:=fs 7 "_law_take" Hr rfl
 obtain ⟨_,_,_,_,_,_,_,_,_,_,a8,l8,c8,k8⟩:=fs 8 "_law_kind" Hs rfl
 obtain ⟨_,_,_,_,_,_,_,_,_,_,a9,l9,c9,k9⟩:=fs 9 "_law_lots" Ht rfl
 obtain ⟨_,_,_,_,_,_,_,_,_,_,a10,l10,c10,k10⟩:=fs 10 "_law_net_switched" Hu rfl
 obtain ⟨_,_,_,_,_,_,_,_,_,_,a11,l11,c11,k11⟩:=fs 11 "_law_firsts" Hv rfl
 obtain ⟨_,_,_,_,_,_,_,_,_,_,a12,l12,c12,k12⟩:=fs 12 "is_between" Hw rfl
 obtain ⟨_,_,_,_,_,_,_,_,_,_,a13,l13,c13,k13⟩:=fs 13 "is_lot" Hx rfl
 obtain ⟨_,_,_,_,_,_,_,_,_,_,a14,l14,c14,k14⟩:=fs 14 "_law_box" Hz rfl
 obtain ⟨_,_,_,_,_,_,_,_,_,_,a15,l15,c15,k15⟩:=fs 15 "_law_wide_box" HA rfl
 obtain ⟨_,_,_,_,_,_,_,_,_,_,a16,l16,c16,k16⟩:=fs 16 "_law_lot" HB rfl
 obtain ⟨_,_,_,_,_,_,_,_,_,_,a17,l17,c17,k17⟩:=fs 17 "_law_no_net" HC rfl
 obtain ⟨_,_,_,_,_,_,_,_,_,_,a18,l18,c18,k18⟩:=fs 18 "_law_due" HE rfl
 obtain ⟨_,_,_,_,_,_,_,_,_,_,a19,l19,c19,k19⟩:=fs 19 "is_light" HF rfl
 obtain ⟨_,_,_,_,_,_,_,_,_,_,a20,l20,c20,k20⟩:=fs 20 "_law_net" HG rfl
 obtain ⟨_,_,_,_,_,_,_,_,_,_,a21,l21,c21,k21⟩:=fs 21 "is_tie" HH rfl
 obtain ⟨_,_,_,_,_,_,_,_,_,_,a22,l22,c22,k22⟩:=fs 22 "is_net" HI rfl
 obtain ⟨_,_,_,_,_,_,_,_,_,_,a23,l23,c23,k23⟩:=fs 23 "need_net" HJ rfl
 obtain ⟨_,_,_,_,_,_,_,_,_,_,a24,l24,c24,k24⟩:=fs 24 "net_switched" HK rfl
 obtain ⟨_,_,_,_,_,_,_,_,_,_,a25,l25,c25,k25⟩:=fs 25 "net_lot" HL rfl
 obtain ⟨_,_,_,_,_,_,_,_,_,_,a26,l26,c26,k26⟩:=fs 26 "is_quiet" HM rfl
 obtain ⟨f_law,_,an_law,_,_,kV_law,dc_law,pm_law,cd_law,ct_law,a_law,l_law,c_law,k_law⟩:=fs 27 "law" s_law rfl
 obtain ⟨_,_,_,_,_,_,_,_,_,_,a28,l28,c28,k28⟩:=fs 28 "_law_said" Ka rfl
 cases Tp.tab_cd tb a_law l_law
 have e:=hfa.symm.trans (PySem.W.mg_of X G a_law)
 cases e
 have S_D:SaidD K mg Ka _ _:=SaidD.of (Ea X G l28 c28 k28 a28 (fun _ _ _ _ _ _ _=>rfl))
 have B:Bl mg:=⟨PySem.W.mg_none_of X G (bs 0 "ValueError" rfl),PySem.W.mg_none_of X G (bs 1 "all" rfl),PySem.W.mg_none_of X G (bs 2 "bool" rfl),PySem.W.mg_none_of X G (bs 3 "divmod" rfl),PySem.W.mg_none_of X G (bs 4 "int" rfl),PySem.W.mg_none_of X G (bs 5 "isinstance" rfl),PySem.W.mg_none_of X G (bs 6 "len" rfl),PySem.W.mg_none_of X G (bs 7 "list" rfl),PySem.W.mg_none_of X G (bs 8 "max" rfl),PySem.W.mg_none_of X G (bs 9 "min" rfl),PySem.W.mg_none_of X G (bs 10 "range" rfl),PySem.W.mg_none_of X G (bs 11 "repr" rfl),PySem.W.mg_none_of X G (bs 12 "sum" rfl),PySem.W.mg_none_of X G (bs 13 "tuple" rfl),PySem.W.mg_none_of X G (bs 14 "zip" rfl)⟩
 obtain ⟨t_MOST_PLACES,v_MOST_PLACES⟩:=cs 0 "MOST_PLACES" 8 rfl
 have M_MOST_PLACES:=PySem.W.mg_of X G v_MOST_PLACES
 refine ⟨PySem.W.fnOf "law" "law" (defArgs s_law) (defBody s_law) (defScope s_law) .none kV_law dc_law pm_law an_law (.ref c) ct_law,fun s v=>.of_eq rfl,fun base _ _ hbm=>?_⟩
 have C0:=Zbp (P:=l.prog) (w:=w) (base:=base) B et (Ea X G l0 c0 k0 a0 fun _ _ _ _ _ _ _=>rfl)
 have C1:=Zbq (P:=l.prog) (w:=w) (base:=base) B et (Ea X G l1 c1 k1 a1 fun _ _ _ _ _ _ _=>rfl)
 have C2:=Zbr (P:=l.prog) (w:=w) (base:=base) B et (DL X G l2 c2 k2 a2 fun _ _ _ _ _ _ _ _=>rfl)
 have C3:=Zbs (P:=l.prog) (w:=w) (base:=base) B et (DL X G l3 c3 k3 a3 fun _ _ _ _ _ _ _ _=>rfl)
 have C4:=Zbt (P:=l.prog) (w:=w) (base:=base) B et (Ea X G l4 c4 k4 a4 fun _ _ _ _ _ _ _=>rfl)
 have C5:=Zbu (P:=l.prog) (w:=w) (base:=base) B et (DL X G l5 c5 k5 a5 fun _ _ _ _ _ _ _ _=>rfl)
 have C6:=Zbv (P:=l.prog) (w:=w) (base:=base) B et (DL X G l6 c6 k6 a6 fun _ _ _ _ _ _ _ _=>rfl)
 have C7:=Zbw (P:=l.prog) (w:=w) (base:=base) B et (DL X G l7 c7 k7 a7 fun _ _ _ _ _ _ _ _=>rfl)
 have C8:=Zbx (P:=l.prog) (w:=w) (base:=base) B et (Ea X G l8 c8 k8 a8 fun _ _ _ _ _ _ _=>rfl)
 have C9:=Zby (P:=l.prog) (w:=w) (base:=base) B et (Ea X G l9 c9 k9 a9 fun _ _ _ _ _ _ _=>rfl)
 have C10:=Zbz (P:=l.prog) (w:=w) (base:=base) B et (DL X G l10 c10 k10 a10 fun _ _ _ _ _ _ _ _=>rfl)
 have C11:=ZbA (P:=l.prog) (w:=w) (base:=base) B et (Ea X G l11 c11 k11 a11 fun _ _ _ _ _ _ _=>rfl)
 have C12:=ZbB (P:=l.prog) (w:=w) (base:=base) B et C0 (Zy X G l12 c12 k12 a12 fun _ _ _ _ _ _ _ _ _=>rfl)
 have C13:=ZbC (P:=l.prog) (w:=w) (base:=base) B et C0 (DL X G l13 c13 k13 a13 fun _ _ _ _ _ _ _ _=>rfl)
 have C14:=ZbD (P:=l.prog) (w:=w) (base:=base) B et C5 C6 (DL X G l14 c14 k14 a14 fun _ _ _ _ _ _ _ _=>rfl)
 have C15:=ZbE (P:=l.prog) (w:=w) (base:=base) B et C7 (Ea X G l15 c15 k15 a15 fun _ _ _ _ _ _ _=>rfl)
 have C16:=ZbF (P:=l.prog) (w:=w) (base:=base) B et C7 (DL X G l16 c16 k16 a16 fun _ _ _ _ _ _ _ _=>rfl)
 have C17:=ZbG (P:=l.prog) (w:=w) (base:=base) B et C7 (DL X G l17 c17 k17 a17 fun _ _ _ _ _ _ _ _=>rfl)
 have C18:=ZbH (P:=l.prog) (w:=w) (base:=base) B et C11 C9 C10 (DL X G l18 c18 k18 a18 fun _ _ _ _ _ _ _ _=>rfl)
 have C19:=ZbI (P:=l.prog) (w:=w) (base:=base) B et C12 (Ea X G l19 c19 k19 a19 fun _ _ _ _ _ _ _=>rfl)
 have C20:=ZbJ (P:=l.prog) (w:=w) (base:=base) B et C7 C15 (Ea X G l20 c20 k20 a20 fun _ _ _ _ _ _ _=>rfl)
 have C21:=ZbK (P:=l.prog) (w:=w) (base:=base) B et C13 C19 (DL X G l21 c21 k21 a21 fun _ _ _ _ _ _ _ _=>rfl)
 have C22:=ZbL (P:=l.prog) (w:=w) (base:=base) B et C12 C21 M_MOST_PLACES (Ea X G l22 c22 k22 a22 fun _ _ _ _ _ _ _=>rfl)
 have C23:=ZbM (P:=l.prog) (w:=w) (base:=base) B et C22 (Ea X G l23 c23 k23 a23 fun _ _ _ _ _ _ _=>rfl)
 have C24:=ZbN (P:=l.prog) (w:=w) (base:=base) B et C23 C13 (DL X G l24 c24 k24 a24 fun _ _ _ _ _ _ _ _=>rfl)
 have C25:=ZbO (P:=l.prog) (w:=w) (base:=base) B et C23 C4 C1 C2 C3 C24 (DL X G l25 c25 k25 a25 fun _ _ _ _ _ _ _ _=>rfl)
 have C26:=ZbP (P:=l.prog) (w:=w) (base:=base) B et C23 C25 (Ea X G l26 c26 k26 a26 fun _ _ _ _ _ _ _=>rfl)
 exact Zi l_law c_law sc_law (fun ds h e=>if_neg e) (fun ds h e=>if_pos e) (fun A outer s H E hr=>Zbo B et C14 C20 C16 C10 C7 C25 C18 C26 C17 C22 C8 tb hd hbm S_D _ A outer s H E hr)
end LK
namespace LK
open PySem PySem.W
abbrev top_q:Program:=view PySem.Challenge.pw_lineswitch_k72_nets_alike [44]
abbrev top_loose:List Str:=(PySem.Challenge.pw_lineswitch_k72_nets_alike.main.scope.names.map (·.1)).filter fun x=>!(x=="law")
set_option maxHeartbeats 0 in
theorem top_left:LeftO PySem.Challenge.pw_lineswitch_k72_nets_alike top_q top_loose (fun _=>true) (Tp.obsK PD) (fun _=>Tp.valK PD) 1000000:=
 Tp.left_of (n:=46) (by kernel_rfl) (fun s=>by kernel_rfl) (fun w=>by kernel_rfl) (fun w os=>by
  rw [PySem.W.Fast.te10156331382660048174,PySem.W.Fast.te11892475500146522536,PySem.W.Fast.te14364793385576792824,PySem.W.Fast.te10110043849684766642,PySem.W.Fast.te6613529449190102663,PySem.W.Fast.te4187177175401517315,PySem.W.Fast.te5923862056798008813]
  kernel_rfl)
end LK
open PySem PySem.W PyProof.Rows
set_option maxRecDepth 100000 in
set_option maxHeartbeats 0 in
theorem PySem.Challenge.cw_lineswitch_k72_nets_alike_holds : PySem.Challenge.rw_lineswitch_k72_nets_alike.Holds := by
 w_on;o_law
 refine PySem.W.holds_open (q:=LK.top_q) (loose:=LK.top_loose) (d:=⟨"law",L2.defArgs LK.s_law,L2.defBody LK.s_law,L2.defScope LK.s_law,_⟩) (kwd:=[]) (Xt:=fun _=>true) (XP:=fun _ _=>True) (N:=1000000) LK.top_left Tp.says_of Tp.Says.keeps (fun _ _=>trivial) (fun _ _ _ _ _=>trivial) (by rfl) (by kernel_rfl) (by kernel_rfl) (fun s _=>recFacts_nil (by rfl)) (by rfl) (by assumption) (by kernel_rfl) ⟨rfl,rfl,rfl,rfl,rfl,by decide +kernel⟩ ?hw ?hc
 case hw=>w_witness2
 case hc=>exact LS.walk_hd (n:=63) (k:=12) (x:="_law_script") (F:=LK.F_law) rfl (by decide) rfl ⟨rfl,by decide,by decide,rfl⟩ (fun w K c T mg fa h HS X G hfa=>LK.all_mk HS X G hfa) LK.law_true
