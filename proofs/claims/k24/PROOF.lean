import PyProof.Rows.All
import Wide.All
import OpenK.AllK
import Wide.FinOn
import Lean
import PyProof.EqAt
import PyProof.EqKinds
import PyProof.TupleCall
import PyProof.ExcBaseAll.ValueError
import PyProof.ZipIter
import KE.KIsAll
import KE.KTryMore
import PyProof.ExcArgsOwn
import PyProof.ExcAttrAll.ValueError
import KE.KLam
import KE.KNestM
import PyProof.NsDelKeeps
import PyProof.Rows.CatchPack
import PyProof.ReprRoads
import PyProof.Rows.FStr
import PyProof.ListRange
import PyProof.CollectIter
import KE.KRevSl
import PyProof.ExcInit
import PyProof.ExcClass2
import PyProof.InstStore
import PyProof.InstStoreFacts
import PyProof.InstLoad
import OpenK.KMore
import PyProof.Rows.StrKeys3
import PyProof.DictItemsLoops
import PyProof.DictTable
import PyProof.MeetsDictList
import PyProof.DictStraight
import PyProof.DictUpdate
import PyProof.DictRoadsH
import PyProof.DictTruth
import PyProof.DictWalks
import PySem.Challenge.RW_lineswitch_k24_whole_alike_boards
set_option Elab.async false
set_option linter.all false
set_option maxRecDepth 100000
abbrev Aw:=@List.prefix_refl
abbrev AU:=@List.mem_cons_of_mem
abbrev AI:=@List.mem_cons_self
abbrev qa3:=@List.getElem?_eq_some_iff
abbrev Br:=@List.getElem?_eq_getElem
abbrev Bn:=@PySem.Heap.get?_push_of_some
abbrev AA:=@PySem.Heap.lt_size
abbrev A7:=@List.size_toArray
abbrev Bi:=@Bool.false_ne_true
abbrev qa9:=@List.mem_cons
abbrev Bo:=@Nat.lt_of_lt_of_le
abbrev By:=@List.mem_append_right
abbrev AJ:=@Nat.le_refl
abbrev qaD:=@List.mem_singleton
abbrev BI:=@PySem.Heap.get?_push_size
abbrev Bj:=@List.map_cons
abbrev BK:=@Bool.false_eq_true
abbrev Cd:=@List.getElem?_set_ne
abbrev qaI:=@Bool.eq_iff_iff
abbrev DQ:=@List.getElem?_set_self
abbrev BU:=@Nat.le_trans
abbrev qaL:=@List.mem_append
abbrev Cp:=@List.length_map
abbrev Dc:=@List.getElem?_map
abbrev Ce:=@Nat.ne_of_lt
abbrev DR:=@List.length_append
abbrev Du:=@Bool.and_eq_true
abbrev qaR:=@Option.map_eq_some_iff
abbrev qaS:=@List.all_eq_true
abbrev E7:=@List.getElem?_append_left
abbrev qaU:=@List.mem_map
abbrev Cq:=@List.map_map
abbrev Dd:=@Nat.lt_irrefl
abbrev qaX:=@List.mem_range
abbrev EI:=@List.replicate_succ
abbrev DS:=@PySem.Heap.size_push
abbrev GW:=@List.getD_eq_getElem?_getD
abbrev EJ:=@List.append_nil
abbrev F5:=@List.mem_of_getElem?
abbrev F6:=@Nat.pow_le_pow_right
abbrev E8:=@List.flatten_cons
abbrev F7:=@List.filterMap_cons
abbrev F8:=@List.map_congr_left
abbrev DT:=@Nat.zero_le
abbrev Ej:=@List.map_nil
abbrev F9:=@List.prefix_append
abbrev qbA:=@List.mem_filter
abbrev Ih:=@List.getElem?_append_right
abbrev GX:=@List.mem_append_left
abbrev Ii:=@List.drop_eq_getElem_cons
abbrev Ga:=@Nat.le_of_not_lt
abbrev Gb:=@List.lookup_cons
abbrev qbG:=@List.nodup_cons
abbrev Gc:=@Option.map_some
abbrev GY:=@Int.toNat_natCast
abbrev Ij:=@PySem.Heap.get?_update_self
abbrev GZ:=@List.length_cons
abbrev Gd:=@Bool.not_true
abbrev G0:=@List.foldl_cons
abbrev JO:=@List.filter_cons_of_neg
abbrev JP:=@List.filter_cons_of_pos
abbrev Ik:=@List.filter_congr
abbrev JQ:=@PySem.Heap.get?_update_other
abbrev G1:=@Nat.add_assoc
abbrev Il:=@List.ext_getElem
abbrev JR:=@List.length_filter_le
abbrev Im:=@List.nil_append
abbrev Io:=@List.length_nil
abbrev Ip:=@List.map_append
namespace L2
open PySem PySem.Spec PyProof.Rows
abbrev Qe:=Sum Int Str
inductive V where
 |non |bl (b:Bool) |int (i:Int) |str (x:Str) |byt (b:Array UInt8) |flt (b:UInt64) |ref (a:Addr) |ty (n:String)
 deriving DecidableEq
def RelV:V→Value→Prop
 |.non,u=>u=Value.none
 |.bl b,u=>u=Value.bool b
 |.int i,u=>∃t,u=Value.int i t
 |.str x,u=>∃t,u=Value.str x t
 |.byt b,u=>∃t,u=Value.bytes b t
 |.flt b,u=>∃t,u=Value.float b t
 |.ref a,u=>u=Value.ref a
 |.ty n,u=>u=Value.type n
abbrev Vals:List V→List Value→Prop:=Paired RelV
theorem Vals.length {xs:List V} {us:List Value} (r:Vals xs us):xs.length=us.length:=Paired.length r
theorem Vals.get:∀{xs:List V} {us:List Value} {i:Nat} {x:V},Vals xs us→xs[i]?=some x→∃u,us[i]?=some u∧RelV x u
 |_,_,_,_,.nil,e=>by simp at e
 |_,_,0,_,.cons r _,e=>by simp at e;subst e;exact ⟨_,rfl,r⟩
 |_,_,i+1,x,.cons _ t,e=>by
  obtain ⟨u,h1,h2⟩:=Vals.get (i:=i) (x:=x) t (by simpa using e)
  exact ⟨u,by simpa using h1,h2⟩
theorem Vals.set {x:V} {u:Value} (r:RelV x u):∀{xs:List V} {us:List Value} (i:Nat),Vals xs us→Vals (xs.set i x) (us.set i u)
 |_,_,_,.nil=>.nil
 |_,_,0,.cons _ t=>.cons r t
 |_,_,i+1,.cons q t=>.cons q (Vals.set r i t)
theorem Vals.append:∀{xs ys:List V} {us ws:List Value},Vals xs us→Vals ys ws→Vals (xs++ys) (us++ws)
 |_,_,_,_,.nil,s=>s
 |_,_,_,_,.cons r t,s=>.cons r (Vals.append t s)
theorem Vals.take:∀{xs:List V} {us:List Value} (n:Nat),Vals xs us→Vals (xs.take n) (us.take n)
 |_,_,0,_=>.nil
 |_,_,_+1,.nil=>.nil
 |_,_,n+1,.cons r t=>.cons r (Vals.take n t)
theorem Vals.drop:∀{xs:List V} {us:List Value} (n:Nat),Vals xs us→Vals (xs.drop n) (us.drop n)
 |_,_,0,r=>r
 |_,_,_+1,.nil=>.nil
 |_,_,n+1,.cons _ t=>Vals.drop n t
def Qf:Option V→Option Value→Prop
 |some v,some u=>RelV v u
 |none,none=>True
 |_,_=>False
def KV {κ:Type}:List (κ×V)→List (κ×Value)→Prop:=Paired fun (p:κ×V) (q:κ×Value)=>p.1=q.1∧RelV p.2 q.2
def kV:Qe→V
 |.inl i=>.int i
 |.inr x=>.str x
inductive HO where
 |lst (xs:List V)
 |tup (xs:List V)
 |own (x:Addr)
 |xd (fs:List (Str×V))
 |frz (o:Obj) (u:HO)
 |tbl (ps:Array Value)
 |ext (φ:Heap→Prop)
 |mex (φ:Heap→Prop)
 |dct (φ:Heap→Prop)
abbrev Hp:=Addr→Option HO
def Am (H:Hp) (a:Addr) (o:HO):Hp:=fun b=>if b=a then some o else H b
theorem Cf {H:Hp} {a:Addr} {o:HO}:Am H a o a=some o:=by unfold Am;rw [if_pos rfl]
theorem AC {H:Hp} {a b:Addr} {o:HO} (h:b≠a):Am H a o b=H b:=by unfold Am;rw [if_neg h]
theorem BL {H:Hp} {a b:Addr} {o:HO} (h:H a=some o) (h':H b=none):a≠b:=by
 intro e;subst e;rw [h] at h';cases h'
section
variable (P:Program) (w:World)
inductive LZ (h:Heap) (a:Addr) (xs:List V):Prop where
 |mk (f1:xs.length≤sizeLine) (its:List Value) (n:Nat) (f2:Vals xs its) (f3:h.get? a=some {cls:=.type "list",data:=.seq its.toArray n}):LZ h a xs
def NoDict (h:Heap) (a:Addr):Prop:=∀o,h.get? a=some o→o.dict=none
inductive Iq (h:Heap) (a:Addr) (xs:List V):Prop where
 |mk (f1:xs.length≤sizeLine) (its:List Value) (f2:Vals xs its) (f3:IsTup h a its.toArray) (f4:NoDict h a):Iq h a xs
theorem NoDict.new {h:Heap} {o:Obj} (hd:o.dict=none:=by rfl) (hf:o.isFreed=false:=by rfl):NoDict (h.push o) h.objs.size:=fun u e=>by
 rw [BI _ hf] at e
 cases e
 exact hd
def ObjOk (P:Program) (w:World) (H:Hp) (h:Heap) (a:Addr):HO→Prop
 |.lst xs=>LZ h a xs
 |.tup xs=>Iq h a xs
 |.own _=>∃o,h.get? a=some o
 |.xd fs=>∃mA,h.Ns1 a mA∧∀f,Qf (fs.lookup f) (mA f)
 |.frz o u=>h.get? a=some o∧ObjOk P w H h a u
 |.tbl ps=>h.get? a=some {cls:=.none,data:=.fields ps}
 |.ext φ=>φ h∧(∃o,h.get? a=some o)∧∀h1 h2:Heap,φ h1→(∀o,h1.get? a=some o→h2.get? a=some o)→φ h2
 |.mex φ=>φ h∧(∃o,h.get? a=some o)∧∀h1 h2:Heap,φ h1→(∀o,h1.get? a=some o→h2.get? a=some o)→φ h2
 |.dct φ=>φ h∧(∃o,h.get? a=some o)∧∀h1 h2:Heap,φ h1→(∀o,h1.get? a=some o→h2.get? a=some o)→φ h2
def HOk (H:Hp) (h:Heap):Prop:=∀a o,H a=some o→ObjOk P w H h a o
end
section
variable {P:Program} {w:World} {H H':Hp} {h h':Heap} {a:Addr} {o:HO}
theorem ObjOk.lt (x:ObjOk P w H h a o):a<h.objs.size:=by
 cases o with
 |lst xs=>obtain ⟨_,_,_,_,e⟩:=x;exact AA e
 |tup xs=>obtain ⟨_,_,_,p,_⟩:=x;exact p.lt
 |own y=>obtain ⟨_,e⟩:=x;exact AA e
 |xd fs=>obtain ⟨_,⟨_,_,_,e,_⟩,_⟩:=x;exact AA e
 |frz ob u=>obtain ⟨e,_⟩:=x;exact AA e
 |tbl ps=>exact AA (show h.get? a=some _ from x)
 |ext φ=>obtain ⟨_,⟨_,e⟩,_⟩:=x;exact AA e
 |mex φ=>obtain ⟨_,⟨_,e⟩,_⟩:=x;exact AA e
 |dct φ=>obtain ⟨_,⟨_,e⟩,_⟩:=x;exact AA e
theorem ObjOk.stay (x:ObjOk P w H h a o) (k:∀b u,(b=a∨H b=some (.own a))→h.get? b=some u→h'.get? b=some u)
 (ho:∀b,H b=some (.own a)→H' b=some (.own a)) (ht:∀b xs,H b=some (.tup xs)→H' b=some (.tup xs)):ObjOk P w H' h' a o:=by
 induction o with
 |lst xs=>obtain ⟨z,its,n,r,e⟩:=x;exact ⟨z,its,n,r,k _ _ (.inl rfl) e⟩
 |tup xs=>obtain ⟨z,its,r,⟨ob,e,c⟩,nd⟩:=x;exact ⟨z,its,r,⟨ob,k _ _ (.inl rfl) e,c⟩,fun o e2=>by rw [k _ _ (.inl rfl) e] at e2;cases e2;exact nd _ e⟩
 |own y=>obtain ⟨ob,e⟩:=x;exact ⟨ob,k _ _ (.inl rfl) e⟩
 |xd fs=>obtain ⟨mA,⟨od,es,ep,e,c⟩,r⟩:=x;exact ⟨mA,⟨od,es,ep,k _ _ (.inl rfl) e,c⟩,r⟩
 |frz ob u ih=>obtain ⟨e,q⟩:=x;exact ⟨k _ _ (.inl rfl) e,ih q⟩
 |tbl ps=>
  have e:h.get? a=some {cls:=.none,data:=.fields ps}:=x
  show h'.get? a=some {cls:=.none,data:=.fields ps}
  exact k a _ (.inl rfl) e
 |ext φ=>obtain ⟨p,⟨o,e⟩,st⟩:=x;exact ⟨st _ _ p fun o q=>k _ _ (.inl rfl) q,⟨o,k _ _ (.inl rfl) e⟩,st⟩
 |mex φ=>obtain ⟨p,⟨o,e⟩,st⟩:=x;exact ⟨st _ _ p fun o q=>k _ _ (.inl rfl) q,⟨o,k _ _ (.inl rfl) e⟩,st⟩
 |dct φ=>obtain ⟨p,⟨o,e⟩,st⟩:=x;exact ⟨st _ _ p fun o q=>k _ _ (.inl rfl) q,⟨o,k _ _ (.inl rfl) e⟩,st⟩
theorem HOk.lt (x:HOk P w H h) (e:H a=some o):a<h.objs.size:=(x a o e).lt
theorem HOk.fresh (x:HOk P w H h) (e:h.objs.size≤a):H a=none:=by
 cases q:H a with
 |none=>rfl
 |some u=>exact absurd (Bo (x.lt q) e) (Dd _)
theorem HOk.kept (x:HOk P w H h) (k:∀b u,h.get? b=some u→h'.get? b=some u):HOk P w H h':=fun a o e=>
 (x a o e).stay (fun b u _ q=>k b u q) (fun _ q=>q) fun _ _ q=>q
theorem HOk.laid (x:HOk P w H h) (k:∀b u,h.get? b=some u→h'.get? b=some u) (hp:h.objs.size≤a) (new:ObjOk P w (Am H a o) h' a o):HOk P w (Am H a o) h':=fun b u e=>by
 have hn:=x.fresh hp
 by_cases hb:b=a
 ·subst hb;rw [Cf] at e;cases e;exact new
 ·rw [AC hb] at e
  exact (x b u e).stay (fun c v _ q=>k c v q) (fun c q=>by rw [AC (BL q hn)];exact q) fun c xs q=>by rw [AC (BL q hn)];exact q
end
def Rd (H:Hp) (a:Addr) (u:HO):Prop:=H a=some u∨∃o,H a=some (.frz o u)
theorem Rd.ok {P:Program} {w:World} {H:Hp} {h:Heap} {a:Addr} {u:HO} (r:Rd H a u) (x:HOk P w H h):ObjOk P w H h a u:=by
 rcases r with r |⟨o,r⟩
 ·exact x a u r
 ·obtain ⟨_,q⟩:=x a _ r
  exact q
def Ir:Option HO→Prop
 |some (.lst _)=>True
 |some (.ext _)=>True
 |some (.mex _)=>True
 |some (.dct _)=>True
 |_=>False
section
variable {P:Program} {w:World} {H:Hp} {h h':Heap} {x e:Addr} {o':HO}
theorem HOk.write (ok:HOk P w H h) (mu:Ir (H x)) (he:e=x∨H e=some (.own x)) (k:∀b u,b≠e→h.get? b=some u→h'.get? b=some u) (heo:∃u,h'.get? e=some u)
 (new:ObjOk P w (Am H x o') h' x o'):HOk P w (Am H x o') h':=fun b u q=>by
 have nown:∀c y,H c=some (.own y)→c≠x:=fun c y r z=>by subst z;rw [r] at mu;exact mu
 have ntup:∀c xs,H c=some (.tup xs)→c≠x:=fun c xs r z=>by subst z;rw [r] at mu;exact mu
 by_cases hb:b=x
 ·subst hb;rw [Cf] at q;cases q;exact new
 ·rw [AC hb] at q
  by_cases hbe:b=e
  ·have q':H b=some (.own x):=by
    rcases he with z |z
    ·exact absurd (hbe.trans z) hb
    ·rw [hbe];exact z
   rw [q] at q';cases q'
   obtain ⟨v,hv⟩:=heo
   exact ⟨v,by rw [hbe];exact hv⟩
  ·refine (ok b u q).stay (fun c v hc r=>k c v ?_ r) (fun c r=>by rw [AC (nown c b r)];exact r) fun c xs r=>by rw [AC (ntup c xs r)];exact r
   rcases hc with rfl |hc
   ·exact hbe
   ·rintro rfl
    rcases he with z |z
    ·exact nown c b hc z
    ·rw [hc] at z;cases z;exact hb rfl
end
structure Un (fs ex:List Addr) (H H':Hp) (h h':Heap):Prop where
 keep:∀b o,h.get? b=some o→H b=none→b∉fs→b∉ex→h'.get? b=some o
 slot:∀b o,h.get? b=some o→H b=none→b∈fs→b∉ex→∃sl,h'.get? b=some {o with slots:=sl}
 free:∀b o,h.get? b=some o→H b=none→b∉ex→H' b=none
 there:∀b o,h.get? b=some o→b∉ex→∃o',h'.get? b=some o'
 tups:∀b xs,H b=some (.tup xs)→H' b=some (.tup xs)
 frzs:∀b o u,H b=some (.frz o u)→H' b=some (.frz o u)
 tbls:∀b ps,H b=some (.tbl ps)→∃more,H' b=some (.tbl (ps++more))
section
variable {fs fs' ex ex':List Addr} {H H1 H2:Hp} {h h1 h2 h':Heap} {a x e:Addr} {o:HO}
theorem Un.any (u:Un fs ex H H1 h h1) {b:Addr} {ob:Obj} (q:h.get? b=some ob) (n:H b=none) (hx:b∉ex):∃sl,h1.get? b=some {ob with slots:=sl}:=by
 by_cases hb:b∈fs
 ·exact u.slot b ob q n hb hx
 ·exact ⟨ob.slots,u.keep b ob q n hb hx⟩
theorem Un.kept (k:∀b u,h.get? b=some u→h'.get? b=some u):Un fs ex H H h h':=
 ⟨fun b ob q _ _ _=>k b ob q,fun b ob q _ _ _=>⟨ob.slots,k b ob q⟩,fun _ _ _ n _=>n,fun b ob q _=>⟨ob,k b ob q⟩,fun _ _ q=>q,fun _ _ _ q=>q,fun _ ps q=>⟨#[],by rw [q];simp⟩⟩
theorem Un.refl:Un fs ex H H h h:=Un.kept fun _ _ q=>q
theorem Un.laid (k:∀b u,h.get? b=some u→h'.get? b=some u) (hp:h.objs.size≤a) (hn:H a=none):Un fs ex H (Am H a o) h h' where
 keep:=fun b u q _ _ _=>k b u q
 slot:=fun b u q _ _ _=>⟨u.slots,k b u q⟩
 free:=fun b u q n _=>by rw [AC (Ce (Bo (AA q) hp))];exact n
 there:=fun b u q _=>⟨u,k b u q⟩
 tups:=fun b xs q=>by rw [AC (BL q hn)];exact q
 frzs:=fun b u xs q=>by rw [AC (BL q hn)];exact q
 tbls:=fun b ps q=>⟨#[],by rw [AC (BL q hn),q];simp⟩
theorem Un.write (mu:Ir (H x)) (he:e=x∨H e=some (.own x)) (k:∀b u,b≠e→h.get? b=some u→h'.get? b=some u) (heo:∃u,h'.get? e=some u):Un fs ex H (Am H x o) h h':=by
 have hx:∀b,H b=none→b≠x:=fun b n z=>by subst z;rw [n] at mu;exact mu
 have hb:∀b,H b=none→b≠e:=fun b n z=>by
  subst z
  rcases he with r |r
  ·exact hx b n r
  ·rw [n] at r;cases r
 have hm:∀b u,H b=some u→¬Ir (some u)→b≠x:=fun b u q nm z=>by subst z;rw [q] at mu;exact nm mu
 refine ⟨fun b u q n _ _=>k b u (hb b n) q,fun b u q n _ _=>⟨u.slots,k b u (hb b n) q⟩,fun b u q n _=>by rw [AC (hx b n)];exact n,fun b u q _=>?_,
  fun b xs q=>by rw [AC (hm b _ q fun z=>z)];exact q,fun b u xs q=>by rw [AC (hm b _ q fun z=>z)];exact q,fun b ps q=>⟨#[],by rw [AC (hm b _ q fun z=>z),q];simp⟩⟩
 by_cases hbe:b=e
 ·subst hbe;exact heo
 ·exact ⟨u,k b u hbe q⟩
end
def Iu (h:Heap) (H:Hp):List Addr:=(List.range h.objs.size).filter fun a=>(H a).isSome
def DU (h:Heap) (H:Hp):Heap:=PySem.W.hideAll h (Iu h H)
theorem Qg (h:Heap) (H:Hp):(DU h H).objs.size=h.objs.size:=PySem.W.hideAll_size _ _
theorem Qh {h:Heap} {H:Hp} {b:Addr} {o:Obj} (e:h.get? b=some o) (n:H b=none):(DU h H).get? b=some o:=
 PySem.W.hideAll_get _ e fun hm=>by
  have q:(H b).isSome=true:=(qbA.mp hm).2
  rw [n] at q;simp at q
theorem Qi {h:Heap} {H:Hp} {b:Addr} {o:Obj} (e:(DU h H).get? b=some o):h.get? b=some o∧H b=none:=by
 have e':h.get? b=some o:=PySem.W.of_hideAll (Iu h H) e
 refine ⟨e',?_⟩
 cases q:H b with
 |none=>rfl
 |some x=>
  have hm:b∈Iu h H:=qbA.mpr ⟨qaX.mpr (AA e'),by simp [q]⟩
  have z:(DU h H).get? b=none:=PySem.W.hideAll_none (Iu h H) hm
  rw [z] at e;cases e
def Qj (g h:Heap) (L:Addr):List (Addr×Obj):=(List.range h.objs.size).filterMap fun a=>if a=L∨(g.get? a).isSome=true then none else (h.get? a).map fun o=>(a,o)
def rest (g h:Heap) (L d:Addr):List (Addr×Obj):=(Qj g h L).filter fun p=>decide (p.1≠d)
structure Mod (K:PySem.W.Frag) (mg:Str→Option Value) (base:Heap):Prop where
 kin:K.In base
 glob:base.Ns mainGlobals mg
 blt:∃mb,base.Ns builtinsNs mb∧∀x:Str,x≠"__name__"→mb x=bootBuiltins x
 nolimit:base.NoLimit
structure Cx where
 prog:Program
 w:World
 K:PySem.W.Frag
 mg:Str→Option Value
 base:Heap
 A:Around
 N:List Str
 s₀:Shared
 H₀:Hp
 env:Env
 outer:List Env
 stack:List Env
 ex:List Addr
 fn:Str→Bool
 calm:Bool
 pn:List (Addr×Obj)
 xe:Value→Shared→Prop
def frs (l:List Env):List Addr:=l.filterMap (·.frame)
abbrev Cx.fs (X:Cx):List Addr:=frs X.outer
def Iv (sc:Scope) (x:Str):Prop:=sc.names.lookup x=some .local∨sc.names.lookup x=some .cell∨sc.names.lookup x=some .free
def G2 (sc:Scope) (x:Str):Prop:=sc.names.lookup x=some .local∨sc.names.lookup x=some .cell
def L0 (env:Env) (h:Heap) (m:Str→Option Value) (x:Str) (u:Value):Prop:=
 (env.kindOf x=some .local∧m x=some u)∨((env.kindOf x=some .cell∨env.kindOf x=some .free)∧∃c,env.cells.lookup x=some c∧h.IsCell c (some u))
structure Cx.Ok (X:Cx):Prop where
 mod:Mod X.K X.mg X.base
 kind:X.env.scope.kind=.function
 glob:X.env.globals=mainGlobals
 blt:X.env.builtins=builtinsNs
 above:X.s₀.heap.objs.size≤X.env.locals
 inj:∀x y c,X.env.cells.lookup x=some c→X.env.cells.lookup y=some c→x=y
 has:∀x,(X.env.kindOf x=some .cell∨X.env.kindOf x=some .free)→∃c,X.env.cells.lookup x=some c
 cab:∀x c,X.fn x=true→X.env.cells.lookup x=some c→X.s₀.heap.objs.size≤c
 hd:X.calm=true→X.A.handled=none
 frames:X.A.frames=some X.stack
 stk:X.stack=X.outer∨(X.stack=X.env::X.outer∧X.env.frame=some X.env.locals)
 exf:∀b∈X.ex,b≠X.env.locals∧∀x c,X.env.cells.lookup x=some c→c≠b
 bs:∀b o,X.base.get? b=some o→X.s₀.heap.get? b=some o∧X.H₀ b=none
 bsz:X.base.objs.size≤X.s₀.heap.objs.size
 noex:∀b o,X.base.get? b=some o→b∉X.ex
 exfs:∀b∈X.ex,b∉X.fs
 funs:X.s₀.heap.FunFrames X.base X.outer
 frf:∀b∈X.fs,X.H₀ b=none
structure Inv (X:Cx) (pins:List (Addr×Obj)) (σ:List (Option V)) (H:Hp) (s:Shared):Prop where
 ok:X.Ok
 os:s.os=X.s₀.os
 bare:AllBare s.gens
 base:Un X.fs X.ex X.H₀ H X.s₀.heap s.heap
 loc:∃m,s.heap.Ns X.env.locals m∧∀(i:Nat) (x:Str) (v:V),X.N[i]?=some x→σ[i]?=some (some v)→Iv X.env.scope x→∃u,RelV v u∧L0 X.env s.heap m x u
 cell:∀x c,X.env.cells.lookup x=some c→∃v,s.heap.IsCell c v
 free:H X.env.locals=none
 freeC:∀x c,X.env.cells.lookup x=some c→H c=none
 pin:∀p∈X.pn++pins,s.heap.get? p.1=some p.2∧H p.1=none∧p.1≠X.env.locals∧p.1∉X.fs∧∀v,p.2.data≠.cell v
 hok:HOk X.prog X.w H s.heap
 len:σ.length=X.N.length
section
variable {X:Cx} {pins:List (Addr×Obj)} {σ:List (Option V)} {H H':Hp} {s:Shared} {h':Heap}
theorem Cx.Ok.nofr (ok:X.Ok) {b:Addr} {o:Obj} (e:X.base.get? b=some o):b∉X.fs:=fun hb=>by
 have:=(ok.funs.mem hb).1
 rw [e] at this;cases this
theorem Inv.bs (I:Inv X pins σ H s):∀b o,X.base.get? b=some o→s.heap.get? b=some o∧H b=none:=fun b o e=>
 ⟨I.base.keep b o (I.ok.bs b o e).1 (I.ok.bs b o e).2 (I.ok.nofr e) (I.ok.noex b o e),I.base.free b o (I.ok.bs b o e).1 (I.ok.bs b o e).2 (I.ok.noex b o e)⟩
theorem Inv.bk (I:Inv X pins σ H s):∀b o,X.base.get? b=some o→s.heap.get? b=some o:=fun b o e=>(I.bs b o e).1
theorem Inv.mod (I:Inv X pins σ H s):Mod X.K X.mg X.base:=I.ok.mod
theorem Inv.kIn (I:Inv X pins σ H s):X.K.In s.heap:=I.ok.mod.kin.keeps I.bk
theorem Inv.nolimit (I:Inv X pins σ H s):s.heap.NoLimit:=I.ok.mod.nolimit.keeps I.bk
theorem Inv.lt (I:Inv X pins σ H s):X.env.locals<s.heap.objs.size:=let ⟨_,hn,_⟩:=I.loc;hn.lt
theorem Inv.sz (I:Inv X pins σ H s):X.s₀.heap.objs.size≤s.heap.objs.size:=BU I.ok.above (Nat.le_of_lt I.lt)
theorem Inv.nofs (I:Inv X pins σ H s) {a:Addr} (h:s.heap.objs.size≤a):a∉X.fs:=fun hb=>by
 obtain ⟨_,o,ho,_⟩:=I.ok.funs.mem hb
 exact absurd (Bo (AA ho) (BU I.sz h)) (Dd _)
theorem Inv.cne (I:Inv X pins σ H s):∀x c,X.env.cells.lookup x=some c→c≠X.env.locals:=fun x c e z=>by
 obtain ⟨v,o,ho,hd⟩:=I.cell x c e
 obtain ⟨m,⟨o',es,ep,ho',hd',_⟩,_⟩:=I.loc
 rw [z,ho'] at ho;cases ho;rw [hd'] at hd;cases hd
theorem Inv.funs (I:Inv X pins σ H s):s.heap.FunFrames X.base X.outer:=by
 have all:∀(l:List Env),(∀b∈frs l,b∈X.fs)→X.s₀.heap.FunFrames X.base l→s.heap.FunFrames X.base l:=by
  intro l
  induction l with
  |nil=>intro _ _;trivial
  |cons env r ih=>
   intro hs hl
   obtain ⟨hk,⟨L,o,hf,hn,ho,hd⟩,hr⟩:=hl
   have hL:L∈X.fs:=hs L (by unfold frs;rw [F7,hf];exact AI)
   obtain ⟨sl,e⟩:=I.base.slot L o ho (I.ok.frf L hL) hL fun z=>I.ok.exfs L z hL
   exact ⟨hk,⟨L,_,hf,hn,e,hd⟩,ih (fun b hb=>hs b (by unfold frs;rw [F7,hf];exact AU _ hb)) hr⟩
 exact all X.outer (fun _ hb=>hb) I.ok.funs
theorem Inv.stack (I:Inv X pins σ H s):s.heap.FunFrames X.base X.stack:=by
 rcases I.ok.stk with e |⟨e,hf⟩
 ·rw [e];exact I.funs
 ·rw [e]
  obtain ⟨m,hn,_⟩:=I.loc
  refine .cons (by rw [I.ok.kind];decide) hf hn ?_ I.funs
  exact Heap.get?_none_of_le (BU I.ok.bsz I.ok.above)
theorem Inv.stkSub (I:Inv X pins σ H s):∀b∈frs X.stack,b∈X.env.locals::X.fs:=fun b hb=>by
 rcases I.ok.stk with e |⟨e,hf⟩
 ·rw [e] at hb;exact AU _ hb
 ·rw [e] at hb
  unfold frs at hb
  rw [F7,hf] at hb
  exact hb
theorem Inv.stkFree (I:Inv X pins σ H s):∀b∈frs X.stack,H b=none:=fun b hb=>by
 rcases qa9.mp (I.stkSub b hb) with e |hb
 ·rw [e];exact I.free
 ·obtain ⟨_,o,ho,_⟩:=I.ok.funs.mem hb
  exact I.base.free b o ho (I.ok.frf b hb) fun z=>I.ok.exfs b z hb
theorem Inv.step {g':Array GenState} {t':Nat} {d':Drawn} {ch:List Addr} (I:Inv X pins σ H s)
 (hch:∀b∈ch,(b∈X.ex∨X.s₀.heap.objs.size≤b)∧b≠X.env.locals∧(∀x c,X.env.cells.lookup x=some c→c≠b)∧∀p∈X.pn++pins,p.1≠b)
 (keep:∀b o,b≠X.env.locals→b∉X.fs→b∉ch→s.heap.get? b=some o→H b=none→h'.get? b=some o)
 (slot:∀b o,b≠X.env.locals→b∈X.fs→b∉ch→s.heap.get? b=some o→H b=none→∃sl,h'.get? b=some {o with slots:=sl}) (free:∀b o,b∉ch→s.heap.get? b=some o→H b=none→H' b=none)
 (there:∀b o,b∉ch→s.heap.get? b=some o→∃o',h'.get? b=some o')
 (tups:∀b xs,H b=some (.tup xs)→H' b=some (.tup xs)) (frzs:∀b o u,H b=some (.frz o u)→H' b=some (.frz o u)) (tbls:∀b ps,H b=some (.tbl ps)→∃more,H' b=some (.tbl (ps++more)))
 (ns:∀m,s.heap.Ns X.env.locals m→h'.Ns X.env.locals m) (hok:HOk X.prog X.w H' h') (hg:AllBare g'):
 Inv X pins σ H' {s with heap:=h',gens:=g',drawn:=d',toks:=t'}:=by
 have neL:∀b o,X.s₀.heap.get? b=some o→b≠X.env.locals:=fun b o e=>Ce (Bo (AA e) I.ok.above)
 have neC:∀b o,X.s₀.heap.get? b=some o→b∉X.ex→b∉ch:=fun b o e hx hb=>by
  rcases (hch b hb).1 with z |z
  ·exact hx z
  ·exact absurd (Bo (AA e) z) (Dd _)
 have cellK:∀x c,X.env.cells.lookup x=some c→∀v,s.heap.IsCell c v→h'.IsCell c v:=fun x c e v z1_=>by
  obtain ⟨o,ho,hd⟩:=z1_
  have nch:c∉ch:=fun z=>(hch c z).2.2.1 x c e rfl
  by_cases hc:c∈X.fs
  ·obtain ⟨sl,q⟩:=slot c o (I.cne x c e) hc nch ho (I.freeC x c e)
   exact ⟨_,q,hd⟩
  ·exact ⟨o,keep c o (I.cne x c e) hc nch ho (I.freeC x c e),hd⟩
 refine ⟨I.ok,I.os,hg,⟨fun b o e n hb hx=>?_,fun b o e n hb hx=>?_,fun b o e n hx=>?_,fun b o e hx=>?_,fun b xs e=>tups b xs (I.base.tups b xs e),fun b o xs e=>frzs b o xs (I.base.frzs b o xs e),fun b ps e=>?_⟩,?_,fun x c e=>?_,?_,fun x c e=>?_,fun p hp=>?_,hok,I.len⟩
 ·exact keep b o (neL b o e) hb (neC b o e hx) (I.base.keep b o e n hb hx) (I.base.free b o e n hx)
 ·obtain ⟨sl,e1⟩:=I.base.slot b o e n hb hx
  obtain ⟨sl',e2⟩:=slot b _ (neL b o e) hb (neC b o e hx) e1 (I.base.free b o e n hx)
  exact ⟨sl',e2⟩
 ·obtain ⟨o',e1⟩:=I.base.there b o e hx
  exact free b o' (neC b o e hx) e1 (I.base.free b o e n hx)
 ·obtain ⟨o',e1⟩:=I.base.there b o e hx
  exact there b o' (neC b o e hx) e1
 ·obtain ⟨m1,e1⟩:=I.base.tbls b ps e
  obtain ⟨m2,e2⟩:=tbls b _ e1
  exact ⟨m1++m2,by rw [e2,Array.append_assoc]⟩
 ·obtain ⟨m,hn,hl⟩:=I.loc
  refine ⟨m,ns m hn,fun i x v e1 e2 e3=>?_⟩
  obtain ⟨u,r,l⟩:=hl i x v e1 e2 e3
  refine ⟨u,r,?_⟩
  rcases l with l |⟨k,c,e,z⟩
  ·exact .inl l
  ·exact .inr ⟨k,c,e,cellK x c e _ z⟩
 ·obtain ⟨v,z⟩:=I.cell x c e
  exact ⟨v,cellK x c e v z⟩
 ·obtain ⟨m,⟨o,_,_,ho,_⟩,_⟩:=I.loc
  exact free _ o (fun z=>(hch _ z).2.1 rfl) ho I.free
 ·obtain ⟨v,o,ho,hd⟩:=I.cell x c e
  exact free c o (fun z=>(hch c z).2.2.1 x c e rfl) ho (I.freeC x c e)
 ·obtain ⟨e,n,ne,nf,d⟩:=I.pin p hp
  have nch:p.1∉ch:=fun z=>(hch p.1 z).2.2.2 p hp rfl
  exact ⟨keep p.1 p.2 ne nf nch e n,free p.1 p.2 nch e n,ne,nf,d⟩
theorem Inv.un {t':Nat} (I:Inv X pins σ H s) (u:Un X.fs [] H H' s.heap h') (hok:HOk X.prog X.w H' h'):Inv X pins σ H' {s with heap:=h',toks:=t'}:=by
 obtain ⟨m,⟨o,es,ep,ho,r⟩,_⟩:=id I.loc
 obtain ⟨sl,hL⟩:=u.any ho I.free (by simp)
 exact I.step (g':=s.gens) (d':=s.drawn) (ch:=[]) (fun _ z=>nomatch z) (fun b o _ hb _ e n=>u.keep b o e n hb (by simp)) (fun b o _ hb _ e n=>u.slot b o e n hb (by simp)) (fun b o _ e n=>u.free b o e n (by simp)) (fun b o _ e=>u.there b o e (by simp)) u.tups u.frzs u.tbls (fun m' hm=>by
  obtain ⟨o',es',ep',ho',r'⟩:=hm
  rw [ho] at ho';cases ho'
  exact ⟨_,es',ep',hL,r'⟩) hok I.bare
theorem Inv.call {g':Array GenState} {t':Nat} {d':Drawn} {ch:List Addr} (I:Inv X pins σ H s) (u:Un (frs X.stack) ch H H' s.heap h') (hok:HOk X.prog X.w H' h') (hg:AllBare g')
 (hch:∀b∈ch,(b∈X.ex∨X.s₀.heap.objs.size≤b)∧b≠X.env.locals∧(∀x c,X.env.cells.lookup x=some c→c≠b)∧∀p∈X.pn++pins,p.1≠b):
 Inv X pins σ H' {s with heap:=h',gens:=g',drawn:=d',toks:=t'}:=by
 obtain ⟨m,⟨o,es,ep,ho,r⟩,_⟩:=id I.loc
 obtain ⟨sl,hL⟩:=u.any ho I.free fun z=>(hch _ z).2.1 rfl
 exact I.step (ch:=ch) hch (fun b o hL hb hc e n=>u.keep b o e n (fun z=>(qa9.mp (I.stkSub b z)).elim hL hb) hc) (fun b o _ _ hc e n=>u.any e n hc) (fun b o hc e n=>u.free b o e n hc) (fun b o hc e=>u.there b o e hc) u.tups u.frzs u.tbls (fun m' hm=>by
  obtain ⟨o',es',ep',ho',r'⟩:=hm
  rw [ho] at ho';cases ho'
  exact ⟨_,es',ep',hL,r'⟩) hok hg
theorem Inv.turned {t':Nat} {it:Addr} (I:Inv X pins σ H s) (k:∀b o,b≠it→s.heap.get? b=some o→h'.get? b=some o) (hn:H it=none) (hL:it≠X.env.locals)
 (h1:it∈X.ex∨X.s₀.heap.objs.size≤it) (h2:∀x c,X.env.cells.lookup x=some c→c≠it) (h3:∀p∈X.pn++pins,p.1≠it):Inv X pins σ H {s with heap:=h',toks:=t'}:=by
 have nit:∀b u,H b=some u→b≠it:=fun b u e z=>by rw [z,hn] at e;cases e
 refine I.step (g':=s.gens) (d':=s.drawn) (ch:=[it]) (fun b hb=>?_) (fun b o _ _ hc e _=>k b o (fun z=>hc (by simp [z])) e) (fun b o _ _ hc e _=>⟨o.slots,k b o (fun z=>hc (by simp [z])) e⟩) (fun _ _ _ _ n=>n)
  (fun b o hc e=>⟨o,k b o (fun z=>hc (by simp [z])) e⟩) (fun _ _ e=>e) (fun _ _ _ e=>e) (fun b ps e=>⟨#[],by rw [e];simp⟩) (fun m hm=>?_) (fun b u e=>?_) I.bare
 ·have e:b=it:=by simpa using hb
  subst e
  exact ⟨h1,hL,h2,h3⟩
 ·obtain ⟨o,es,ep,ho,r⟩:=hm
  exact ⟨o,es,ep,k _ o (Ne.symm hL) ho,r⟩
 ·refine (I.hok b u e).stay (fun c v hc q=>k c v ?_ q) (fun _ q=>q) fun _ _ q=>q
  rcases hc with z |z
  ·rw [z];exact nit b u e
  ·exact nit c _ z
theorem Inv.tok (I:Inv X pins σ H s) (t:Nat):Inv X pins σ H {s with toks:=t}:=I.un (h':=s.heap) (t':=t) Un.refl I.hok
theorem Inv.kept {t':Nat} (I:Inv X pins σ H s) (k:∀b u,s.heap.get? b=some u→h'.get? b=some u):Inv X pins σ H {s with heap:=h',toks:=t'}:=I.un (Un.kept k) (I.hok.kept k)
theorem Inv.laid {a:Addr} {o:HO} {t':Nat} (I:Inv X pins σ H s) (k:∀b u,s.heap.get? b=some u→h'.get? b=some u) (hp:s.heap.objs.size≤a) (new:ObjOk X.prog X.w (Am H a o) h' a o):
 Inv X pins σ (Am H a o) {s with heap:=h',toks:=t'}:=I.un (Un.laid k hp (I.hok.fresh hp)) (I.hok.laid k hp new)
theorem Inv.write {x e:Addr} {o:HO} {t':Nat} (I:Inv X pins σ H s) (mu:Ir (H x)) (he:e=x∨H e=some (.own x)) (k:∀b u,b≠e→s.heap.get? b=some u→h'.get? b=some u) (heo:∃u,h'.get? e=some u)
 (new:ObjOk X.prog X.w (Am H x o) h' x o):Inv X pins σ (Am H x o) {s with heap:=h',toks:=t'}:=I.un (Un.write mu he k heo) (I.hok.write mu he k heo new)
theorem Inv.weak {σ':List (Option V)} (I:Inv X pins σ H s) (hl:σ'.length=σ.length) (w:∀(i:Nat) v,σ'[i]?=some (some v)→σ[i]?=some (some v)):Inv X pins σ' H s:=
 ⟨I.ok,I.os,I.bare,I.base,let ⟨m,hn,hl'⟩:=I.loc;⟨m,hn,fun i x v e1 e2 e3=>hl' i x v e1 (w i v e2) e3⟩,I.cell,I.free,I.freeC,I.pin,I.hok,hl.trans I.len⟩
theorem Inv.pins_of {pins':List (Addr×Obj)} (I:Inv X pins σ H s) (h:∀p∈pins',s.heap.get? p.1=some p.2∧H p.1=none∧p.1≠X.env.locals∧p.1∉X.fs∧∀v,p.2.data≠.cell v):Inv X pins' σ H s:=
 ⟨I.ok,I.os,I.bare,I.base,I.loc,I.cell,I.free,I.freeC,fun p hp=>(qaL.mp hp).elim (fun z=>I.pin p (GX _ z)) (h p),I.hok,I.len⟩
theorem L1 {N:List Str} (hN:N.Nodup) {i j:Nat} {x:Str} (a:N[i]?=some x) (b:N[j]?=some x):i=j:=by
 obtain ⟨h1,e1⟩:=qa3.mp a
 obtain ⟨h2,e2⟩:=qa3.mp b
 exact (List.getElem_inj hN).mp (e1.trans e2.symm)
theorem Qk {M:Model} {A:Around} {E:Value→Shared→Prop} {i:Nat} {x:Str} {v:V} {u:Value} {Q:Unit→Shared→Prop} (I:Inv X pins σ H s) (hN:X.N.Nodup) (hi:X.N[i]?=some x) (hx:G2 X.env.scope x) (r:RelV v u)
 (h:∀s',Inv X pins (σ.set i (some v)) H s'→(∃a,Heap.SameBut a s.heap s'.heap∧(a=X.env.locals∨X.env.cells.lookup x=some a))→Q () s') (hf:X.fn x=true∨X.env.scope.names.lookup x=some .local:=by first |exact .inl rfl |exact .inr rfl |assumption):wpAny M A (storeName X.env x u) Q E s:=by
 obtain ⟨m,hn,hl⟩:=id I.loc
 have hcls:(X.env.scope.kind==.class||(X.env.scope.kind==.module&&X.env.locals != X.env.globals))=false:=by rw [I.ok.kind];rfl
 have hiσ:i < σ.length:=by rw [I.len];exact (qa3.mp hi).1
 have cne:=I.cne
 have tracked:∀{a:Addr} {h':Heap},(∃o,s.heap.get? a=some o∧H a=none)→Heap.SameBut a s.heap h'→HOk X.prog X.w H h':=fun {a h'} ha hs b ob e=>by
  obtain ⟨_,_,hfree⟩:=ha
  refine (I.hok b ob e).stay (fun c w' hc q=>(hs.2 c ?_).trans q) (fun _ q=>q) fun _ _ q=>q
  rintro rfl
  rcases hc with rfl |hc
  ·rw [hfree] at e;cases e
  ·rw [hfree] at hc;cases hc
 rcases hx with hk |hk
 ·refine wpAny_storeName_local hk hn (fun h' hn' hs=>?_) hcls
  obtain ⟨oL,_,_,hoL,_⟩:=id hn
  refine h _ ⟨I.ok,I.os,I.bare,⟨fun b o e n hb hx=>?_,fun b o e n hb hx=>?_,I.base.free,fun b o e hx=>?_,I.base.tups,I.base.frzs,I.base.tbls⟩,⟨_,hn',fun j y v' e1 e2 e3=>?_⟩,fun y c e=>?_,I.free,I.freeC,fun p hp=>?_,tracked ⟨oL,hoL,I.free⟩ hs,by simpa using I.len⟩ ⟨_,hs,.inl rfl⟩
  ·exact (hs.2 b (Ce (Bo (AA e) I.ok.above))).trans (I.base.keep b o e n hb hx)
  ·obtain ⟨sl,e1⟩:=I.base.slot b o e n hb hx
   exact ⟨sl,(hs.2 b (Ce (Bo (AA e) I.ok.above))).trans e1⟩
  ·obtain ⟨o',e1⟩:=I.base.there b o e hx
   exact ⟨o',(hs.2 b (Ce (Bo (AA e) I.ok.above))).trans e1⟩
  ·by_cases hj:j=i
   ·subst hj
    rw [hi] at e1;cases e1
    rw [DQ hiσ] at e2
    cases e2
    exact ⟨u,r,.inl ⟨hk,by simp⟩⟩
   ·rw [Cd (Ne.symm hj)] at e2
    obtain ⟨u',r',q⟩:=hl j y v' e1 e2 e3
    refine ⟨u',r',?_⟩
    rcases q with ⟨k,e⟩ |⟨k,c,e,z⟩
    ·refine .inl ⟨k,?_⟩
     have:y≠x:=fun e=>hj (L1 hN e1 (e ▸ hi))
     simp [this,e]
    ·exact .inr ⟨k,c,e,z.sameBut hs (cne y c e)⟩
  ·obtain ⟨w',z⟩:=I.cell y c e
   exact ⟨w',z.sameBut hs (cne y c e)⟩
  ·obtain ⟨e,n,ne,nf,d⟩:=I.pin p hp
   exact ⟨(hs.2 p.1 ne).trans e,n,ne,nf,d⟩
 ·have hfn:X.fn x=true:=by
   rcases hf with z |z
   ·exact z
   ·rw [z] at hk;cases hk
  obtain ⟨c,hc⟩:=I.ok.has x (.inl hk)
  obtain ⟨w',z⟩:=I.cell x c hc
  refine wpAny_storeName_cell I.ok.kind hk hc z (fun h' hc' hs=>?_)
  obtain ⟨oc,hoc,hocd⟩:=id z
  refine h {s with heap:=h'} ⟨I.ok,I.os,I.bare,⟨fun b o e n hb hx=>?_,fun b o e n hb hx=>?_,I.base.free,fun b o e hx=>?_,I.base.tups,I.base.frzs,I.base.tbls⟩,⟨m,hn.sameBut hs (Ne.symm (cne x c hc)),fun j y v' e1 e2 e3=>?_⟩,fun y c' e=>?_,I.free,I.freeC,fun p hp=>?_,tracked ⟨oc,hoc,I.freeC x c hc⟩ hs,by simpa using I.len⟩ ⟨c,hs,.inr hc⟩
  ·exact (hs.2 b (Ce (Bo (AA e) (I.ok.cab x c hfn hc)))).trans (I.base.keep b o e n hb hx)
  ·obtain ⟨sl,e1⟩:=I.base.slot b o e n hb hx
   exact ⟨sl,(hs.2 b (Ce (Bo (AA e) (I.ok.cab x c hfn hc)))).trans e1⟩
  ·obtain ⟨o',e1⟩:=I.base.there b o e hx
   exact ⟨o',(hs.2 b (Ce (Bo (AA e) (I.ok.cab x c hfn hc)))).trans e1⟩
  ·by_cases hj:j=i
   ·subst hj
    rw [hi] at e1;cases e1
    rw [DQ hiσ] at e2
    cases e2
    exact ⟨u,r,.inr ⟨.inl hk,c,hc,hc'⟩⟩
   ·rw [Cd (Ne.symm hj)] at e2
    obtain ⟨u',r',q⟩:=hl j y v' e1 e2 e3
    refine ⟨u',r',?_⟩
    rcases q with q |⟨k,c',e,z'⟩
    ·exact .inl q
    ·refine .inr ⟨k,c',e,z'.sameBut hs ?_⟩
     rintro rfl
     exact hj (L1 hN e1 (I.ok.inj _ _ _ e hc ▸ hi))
  ·by_cases hcc:c'=c
   ·subst hcc;exact ⟨_,hc'⟩
   ·obtain ⟨w2,z2⟩:=I.cell y c' e
    exact ⟨w2,z2.sameBut hs hcc⟩
  ·obtain ⟨e,n,ne,nf,d⟩:=I.pin p hp
   refine ⟨(hs.2 p.1 ?_).trans e,n,ne,nf,d⟩
   intro q
   rw [q,hoc] at e
   have q':oc=p.2:=Option.some.inj e
   exact d w' (by rw [←q'];exact hocd)
theorem Iw {M:Model} {A:Around} {E:Value→Shared→Prop} {i:Nat} {x:Str} {v:V} {u:Value} {Q:Unit→Shared→Prop} (I:Inv X pins σ H s) (hN:X.N.Nodup) (hi:X.N[i]?=some x) (hx:G2 X.env.scope x) (r:RelV v u)
 (h:∀s',Inv X pins (σ.set i (some v)) H s'→Q () s') (hf:X.fn x=true∨X.env.scope.names.lookup x=some .local:=by first |exact .inl rfl |exact .inr rfl |assumption):wpAny M A (storeName X.env x u) Q E s:=
 Qk I hN hi hx r (fun s' I' _=>h s' I') hf
theorem Inv.call' {s':Shared} {ch:List Addr} (I:Inv X pins σ H s) (ho:s'.os=s.os) (u:Un (frs X.stack) ch H H' s.heap s'.heap) (hok:HOk X.prog X.w H' s'.heap) (hg:AllBare s'.gens)
 (hch:∀b∈ch,(b∈X.ex∨X.s₀.heap.objs.size≤b)∧b≠X.env.locals∧(∀x c,X.env.cells.lookup x=some c→c≠b)∧∀p∈X.pn++pins,p.1≠b):Inv X pins σ H' s':=by
 obtain ⟨h',g',d',t',o'⟩:=s'
 have e:o'=s.os:=ho
 subst e
 exact I.call (g':=g') (t':=t') (d':=d') u hok hg hch
end
abbrev XK:=Value→Option Addr→Hp→Prop
abbrev St:=List (Option V)
abbrev VK:=V→Hp→Prop
abbrev TE:=St→Hp→VK→Prop
abbrev TT:=St→Hp→(Bool→Hp→Prop)→Prop
abbrev TA:=St→Hp→(List V→Hp→Prop)→Prop
structure De where
 nx:St→Hp→Prop
 rt:VK
 bk:St→Hp→Prop:=fun _ _=>False
 ct:St→Hp→Prop:=fun _ _=>False
abbrev TS:=De→St→Hp→Prop
inductive EP (X:Cx) (pins:List (Addr×Obj)) (σ:St) (Q:VK) (u:Value) (s':Shared):Prop where
 |mk (v:V) (H':Hp) (i:Inv X pins σ H' s') (r:RelV v u) (q:Q v H'):EP X pins σ Q u s'
inductive TP (X:Cx) (pins:List (Addr×Obj)) (σ:St) (Q:Bool→Hp→Prop) (b:Bool) (s':Shared):Prop where
 |mk (H':Hp) (i:Inv X pins σ H' s') (q:Q b H'):TP X pins σ Q b s'
inductive AP (X:Cx) (pins:List (Addr×Obj)) (σ:St) (Q:List V→Hp→Prop) (us:List Value) (s':Shared):Prop where
 |mk (vs:List V) (H':Hp) (i:Inv X pins σ H' s') (r:Vals vs us) (q:Q vs H'):AP X pins σ Q us s'
inductive SN (X:Cx) (pins:List (Addr×Obj)) (q:St→Hp→Prop) (s':Shared):Prop where
 |mk (σ':St) (H':Hp) (i:Inv X pins σ' H' s') (p:q σ' H'):SN X pins q s'
inductive SR (X:Cx) (pins:List (Addr×Obj)) (q:V→Hp→Prop) (u:Value) (s':Shared):Prop where
 |mk (v:V) (σ':St) (H':Hp) (i:Inv X pins σ' H' s') (r:RelV v u) (p:q v H'):SR X pins q u s'
def SP (X:Cx) (pins:List (Addr×Obj)) (D:De) (f:Flow) (s':Shared):Prop:=
 match f with
 |.next=>SN X pins D.nx s'
 |.brk=>SN X pins D.bk s'
 |.cont=>SN X pins D.ct s'
 |.ret u=>SR X pins D.rt u s'
def PE (X:Cx) (e:Expr) (t:TE):Prop:=
 ∀(pins:List (Addr×Obj)) (s:Shared) (σ:St) (H:Hp) (Q:VK),Inv X pins σ H s→t σ H Q→wpAny (model X.prog X.w) X.A (eval e X.env) (EP X pins σ Q) X.xe s
def PT (X:Cx) (e:Expr) (t:TT):Prop:=
 ∀(pins:List (Addr×Obj)) (s:Shared) (σ:St) (H:Hp) (Q:Bool→Hp→Prop),Inv X pins σ H s→t σ H Q→wpAny (model X.prog X.w) X.A (isTrue e X.env (eval e X.env)) (TP X pins σ Q) X.xe s
def PW (X:Cx) (e:Expr) (t:TT):Prop:=
 ∀(D7:Sem Value) (pins:List (Addr×Obj)) (s:Shared) (σ:St) (H:Hp) (Q:Bool→Hp→Prop),Inv X pins σ H s→t σ H Q→wpAny (model X.prog X.w) X.A (isTrue e X.env D7) (TP X pins σ Q) X.xe s
theorem PW.pt {X:Cx} {e:Expr} {t:TT} (h:PW X e t):PT X e t:=h _
def PA (X:Cx) (es:List Expr) (t:TA):Prop:=
 ∀(pos:Pos) (pins:List (Addr×Obj)) (s:Shared) (σ:St) (H:Hp) (Q:List V→Hp→Prop),Inv X pins σ H s→t σ H Q→wpAny (model X.prog X.w) X.A (spliced (backTo pos (starEach es X.env))) (AP X pins σ Q) X.xe s
def PS (X:Cx) (st:Stmt) (t:TS):Prop:=
 ∀(pins:List (Addr×Obj)) (s:Shared) (σ:St) (H:Hp) (D:De),Inv X pins σ H s→t D σ H→wpAny (model X.prog X.w) X.A (exec st X.env) (SP X pins D) X.xe s
def Dv (X:Cx) (st:List Stmt) (t:TS):Prop:=
 ∀(pins:List (Addr×Obj)) (s:Shared) (σ:St) (H:Hp) (D:De),Inv X pins σ H s→t D σ H→wpAny (model X.prog X.w) X.A (execs st X.env) (SP X pins D) X.xe s
theorem An {α:Type} {t:Sem α} {Q Q':α→Shared→Prop} {M:Model} {A:Around} {E:Value→Shared→Prop} {s:Shared} (h:wpAny M A t Q E s) (hQ:∀a s,Q a s→Q' a s):wpAny M A t Q' E s:=wpAny_mono h hQ fun _ _ x=>x
section
variable {X:Cx}
def JS (i:Nat):TE:=fun σ H Q=>∃v,σ[i]?=some (some v)∧Q v H
def tC (v:V):TE:=fun _ H Q=>Q v H
theorem Ql {i:Nat} {x:Str} {pos:Pos} (hN:X.N[i]?=some x) (hv:Iv X.env.scope x) (hd:(x==("__debug__":Str))=false:=by decide) (hcd:(x==("__classdict__":Str))=false:=by decide):PE X (.Name x pos) (JS i):=by
 intro pins s σ H Q I h
 obtain ⟨v,e,h⟩:=h
 obtain ⟨m,hn,hl⟩:=I.loc
 obtain ⟨u,r,l⟩:=hl i x v hN e hv
 have A4:EP X pins σ Q u s:=⟨v,H,I,r,h⟩
 rcases l with ⟨hk,hm⟩ |⟨hk,c,hc,hcell⟩
 ·exact wpAny_Name (wpAny_loadName_local I.ok.kind hk hn hm A4) hd
 ·rcases hk with hk |hk
  ·exact wpAny_Name (wpAny_loadName_cell I.ok.kind hk hc hcell A4) hd
  ·exact wpAny_Name (wpAny_loadName_free I.ok.kind hk hc hcell A4 hcd) hd
theorem Qm {i j pos}:PE X (.Constant (.int i) j pos) (tC (.int i)):=fun _ _ _ H _ I h=>wpAny_Constant_int ⟨.int i,H,I.tok _,⟨_,rfl⟩,h⟩
theorem Qn {b j pos}:PE X (.Constant (.bool b) j pos) (tC (.bl b)):=fun _ _ _ H _ I h=>Constant_bool ⟨.bl b,H,I,rfl,h⟩
theorem Qo {j pos}:PE X (.Constant .none j pos) (tC .non):=fun _ _ _ H _ I h=>Constant_none ⟨.non,H,I,rfl,h⟩
def Gl (X:Cx) (x:Str):Prop:=X.env.kindOf x=some .globalImplicit
theorem L3 {E:Value→Shared→Prop} {pins:List (Addr×Obj)} {s:Shared} {σ:St} {H:Hp} {x:Str} {u:Value} {pos:Pos} {Q:Value→Shared→Prop} (I:Inv X pins σ H s) (hg:Gl X x) (hm:X.mg x=some u) (h:Q u s)
 (hd:(x==("__debug__":Str))=false:=by decide):wpAny (model X.prog X.w) X.A (eval (.Name x pos) X.env) Q E s:=
 Calls.Name_function_global I.ok.kind hg (Calls.loadGlobal_global (by rw [I.ok.glob];exact I.mod.glob.keeps I.bk) hm h) hd
theorem Ge {E:Value→Shared→Prop} {pins:List (Addr×Obj)} {s:Shared} {σ:St} {H:Hp} {x:Str} {u:Value} {pos:Pos} {Q:Value→Shared→Prop} (I:Inv X pins σ H s) (hg:Gl X x) (hm:X.mg x=none) (hv:bootBuiltins x=some u) (h:Q u s)
 (hn:x≠"__name__":=by decide) (hd:(x==("__debug__":Str))=false:=by decide):wpAny (model X.prog X.w) X.A (eval (.Name x pos) X.env) Q E s:=by
 obtain ⟨mb,h1,h2⟩:=I.mod.blt
 exact Calls.Name_function_global I.ok.kind hg (Calls.loadGlobal_builtin (by rw [I.ok.glob];exact I.mod.glob.keeps I.bk) hm (by rw [I.ok.blt];exact h1.keeps I.bk) ((h2 x hn).trans hv) h) hd
theorem Qp {x:Str} {v:V} {u:Value} {pos:Pos} (hg:Gl X x) (hm:X.mg x=some u) (r:RelV v u) (hd:(x==("__debug__":Str))=false:=by decide):PE X (.Name x pos) (tC v):=
 fun _ _ _ H _ I h=>L3 I hg hm ⟨v,H,I,r,h⟩ hd
theorem Qq {x:Str} {v:V} {u:Value} {pos:Pos} (hg:Gl X x) (hm:X.mg x=none) (hv:bootBuiltins x=some u) (r:RelV v u) (hn:x≠"__name__":=by decide) (hd:(x==("__debug__":Str))=false:=by decide):PE X (.Name x pos) (tC v):=
 fun _ _ _ H _ I h=>Ge I hg hm hv ⟨v,H,I,r,h⟩ hn hd
variable {a b:Expr} {ta tb:TE} {pos:Pos}
variable {tA tB':TT} {rest:List Expr}
def Qr (t u:TT):TT:=fun σ H Q=>t σ H fun c H1=>if c=true then u σ H1 Q else Q false H1
def Qs (t u:TT):TT:=fun σ H Q=>t σ H fun c H1=>if c=true then Q true H1 else u σ H1 Q
def Qt (t:TT):TT:=fun σ H Q=>t σ H fun c H1=>Q (!c) H1
theorem Qu (ha:PT X a tA):PW X (.BoolOp .And [a] pos) tA:=by
 intro wh pins s σ H Q I h
 refine isTrue_and (An (ha pins s σ H Q I h) fun c s1 e=>?_)
 cases c with
 |true=>exact isTrue_and_nil e
 |false=>exact e
theorem Qv (ha:PT X a tA):PW X (.BoolOp .Or [a] pos) tA:=by
 intro wh pins s σ H Q I h
 refine isTrue_or (An (ha pins s σ H Q I h) fun c s1 e=>?_)
 cases c with
 |false=>exact isTrue_or_nil e
 |true=>exact e
theorem Qw (ha:PT X a tA) (hb:PW X (.BoolOp .And (b::rest) pos) tB'):PW X (.BoolOp .And (a::b::rest) pos) (Qr tA tB'):=by
 intro wh pins s σ H Q I h
 refine isTrue_and (An (ha pins s σ H _ I h) fun c s1 z8_=>?_)
 obtain ⟨H1,I1,q1⟩:=z8_
 cases c with
 |true=>exact hb wh pins s1 σ H1 Q I1 q1
 |false=>exact ⟨H1,I1,q1⟩
theorem Qx (ha:PT X a tA) (hb:PW X (.BoolOp .Or (b::rest) pos) tB'):PW X (.BoolOp .Or (a::b::rest) pos) (Qs tA tB'):=by
 intro wh pins s σ H Q I h
 refine isTrue_or (An (ha pins s σ H _ I h) fun c s1 z9_=>?_)
 obtain ⟨H1,I1,q1⟩:=z9_
 cases c with
 |true=>exact ⟨H1,I1,q1⟩
 |false=>exact hb wh pins s1 σ H1 Q I1 q1
theorem Qy (ha:PT X a tA):PT X (.UnaryOp .Not a pos) (Qt tA):=by
 intro pins s σ H Q I h
 exact isTrue_not (An (ha pins s σ H (fun c H1=>Q (!c) H1) I h) fun c s1 z=>by cases z with |mk H1 I1 q=>exact ⟨H1,I1,q⟩)
def Qz (ta tb:TE):TE:=fun σ H Q=>ta σ H fun x H1=>∃c,x=.bl c∧if c=true then tb σ H1 Q else Q (.bl false) H1
def YU (ta tb:TE):TE:=fun σ H Q=>ta σ H fun x H1=>∃c,x=.bl c∧if c=true then Q (.bl true) H1 else tb σ H1 Q
def QC (ta:TE):TE:=fun σ H Q=>ta σ H fun x H1=>∃c,x=.bl c∧Q (.bl (!c)) H1
theorem QE {op} {t:TE} (h:PE X a t):PE X (.BoolOp op [a] pos) t:=fun pins s σ H Q I hw=>BoolOp_one (h pins s σ H Q I hw)
theorem QF (ha:PE X a ta) (hb:PE X (.BoolOp .And (b::rest) pos) tb):PE X (.BoolOp .And (a::b::rest) pos) (Qz ta tb):=by
 intro pins s σ H Q I h
 refine BoolOp_and (An (ha pins s σ H _ I h) fun v s1 z10_=>?_)
 obtain ⟨x,H1,I1,r1,q1⟩:=z10_
 obtain ⟨c,rfl,q1⟩:=q1
 cases r1
 refine wpAny_truthy_bool ?_
 cases c with
 |true=>exact hb pins s1 σ H1 Q I1 q1
 |false=>exact ⟨.bl false,H1,I1,rfl,q1⟩
theorem QG (ha:PE X a ta):PE X (.UnaryOp .Not a pos) (QC ta):=by
 intro pins s σ H Q I h
 refine UnaryOp_ (An (ha pins s σ H _ I h) fun v s1 z12_=>?_)
 obtain ⟨x,H1,I1,r1,q1⟩:=z12_
 obtain ⟨c,rfl,q1⟩:=q1
 cases r1
 exact not_of (wpAny_truthy_bool ⟨.bl (!c),H1,I1,rfl,q1⟩)
def QH (t:TT) (ta tb:TE):TE:=fun σ H Q=>t σ H fun c H1=>if c=true then ta σ H1 Q else tb σ H1 Q
theorem QJ {c:Expr} (hc:PT X c tA) (ha:PE X a ta) (hb:PE X b tb):PE X (.IfExp c a b pos) (QH tA ta tb):=by
 intro pins s σ H Q I h
 refine wpAny_IfExp (An (hc pins s σ H _ I h) fun d s1 z13_=>?_)
 obtain ⟨H1,I1,q1⟩:=z13_
 cases d with
 |true=>exact ha pins s1 σ H1 Q I1 q1
 |false=>exact hb pins s1 σ H1 Q I1 q1
end
def SqL (K:PySem.W.Frag) (H:Hp) (a:Addr) (xs:List V):Prop:=
 Rd H a (.lst xs)∨
  ∃(o:Obj) (its:Array Value) (n:Nat),K.lookup a=some o∧o.cls=.type "list"∧o.dict=none∧o.data=.seq its n∧its.size≤sizeLine∧Vals xs its.toList
def SqT (K:PySem.W.Frag) (H:Hp) (a:Addr) (xs:List V):Prop:=
 Rd H a (.tup xs)∨
  ∃(o:Obj) (its:Array Value) (n:Nat),K.lookup a=some o∧o.cls=.type "tuple"∧o.data=.seq its n∧its.size≤sizeLine∧Vals xs its.toList
def QK:Value→Option V
 |.none=>some .non
 |.bool b=>some (.bl b)
 |.int i _=>some (.int i)
 |.str x _=>some (.str x)
 |.bytes b _=>some (.byt b)
 |.float b _=>some (.flt b)
 |.ref a=>some (.ref a)
 |.type n=>some (.ty n)
 |_=>none
theorem RelV.abs {x:V} {u:Value} (r:RelV x u):QK u=some x:=by
 cases x with
 |non=>cases r;rfl
 |bl _=>cases r;rfl
 |int _=>obtain ⟨t,rfl⟩:=r;rfl
 |str _=>obtain ⟨t,rfl⟩:=r;rfl
 |byt _=>obtain ⟨t,rfl⟩:=r;rfl
 |flt _=>obtain ⟨t,rfl⟩:=r;rfl
 |ref _=>cases r;rfl
 |ty _=>cases r;rfl
theorem RelV.inj {x y:V} {u:Value} (r:RelV x u) (q:RelV y u):x=y:=Option.some.inj (r.abs.symm.trans q.abs)
theorem Vals.inj {xs ys:List V} {us:List Value} (h:Vals xs us) (g:Vals ys us):xs=ys:=by
 induction h generalizing ys with
 |nil=>cases g;rfl
 |cons r t ih=>cases g with |cons r' t'=>rw [r.inj r',ih t']
section
variable {X:Cx} {pins:List (Addr×Obj)} {σ:St} {H:Hp} {s:Shared} {a:Addr} {xs ys:List V}
theorem SqL.of {K:PySem.W.Frag} (h:H a=some (.lst xs)):SqL K H a xs:=.inl (.inl h)
theorem SqT.of {K:PySem.W.Frag} (h:H a=some (.tup xs)):SqT K H a xs:=.inl (.inl h)
theorem Inv.list (I:Inv X pins σ H s) (h:SqL X.K H a xs):∃its:List Value,Vals xs its∧PlainL s.heap a its.toArray∧xs.length≤sizeLine:=by
 rcases h with h |⟨o,its,n,hk,hc,hd,hs,hz,r⟩
 ·obtain ⟨z,its,n,r,e⟩:=h.ok I.hok
  exact ⟨its,r,⟨_,n,e,rfl,rfl,rfl⟩,z⟩
 ·refine ⟨its.toList,r,⟨o,n,I.kIn a o hk,hc,hd,by simpa using hs⟩,?_⟩
  have e:=r.length
  simp only [Array.length_toList] at e
  omega
theorem Inv.tuple (I:Inv X pins σ H s) (h:SqT X.K H a xs):∃its:List Value,Vals xs its∧IsTup s.heap a its.toArray∧xs.length≤sizeLine:=by
 rcases h with h |⟨o,its,n,hk,hc,hs,hz,r⟩
 ·obtain ⟨z,its,r,p,_⟩:=h.ok I.hok
  exact ⟨its,r,p,z⟩
 ·refine ⟨its.toList,r,⟨o,I.kIn a o hk,hc,n,by simpa using hs⟩,?_⟩
  have e:=r.length
  simp only [Array.length_toList] at e
  omega
theorem Inv.list_inj (I:Inv X pins σ H s) (h:SqL X.K H a xs) (h':SqL X.K H a ys):xs=ys:=by
 obtain ⟨its,r,⟨o,n,e,_,_,d⟩,_⟩:=I.list h
 obtain ⟨its',r',⟨o',n',e',_,_,d'⟩,_⟩:=I.list h'
 rw [e] at e';cases e'
 rw [d] at d'
 injection d' with d1 _
 have:its=its':=by simpa using congrArg Array.toList d1
 subst this
 exact r.inj r'
theorem Inv.tuple_inj (I:Inv X pins σ H s) (h:SqT X.K H a xs) (h':SqT X.K H a ys):xs=ys:=by
 obtain ⟨its,r,⟨o,e,_,n,d⟩,_⟩:=I.tuple h
 obtain ⟨its',r',⟨o',e',_,n',d'⟩,_⟩:=I.tuple h'
 rw [e] at e';cases e'
 rw [d] at d'
 injection d' with d1 _
 have:its=its':=by simpa using congrArg Array.toList d1
 subst this
 exact r.inj r'
end
section
variable {X:Cx} {pins:List (Addr×Obj)} {σ:St} {H:Hp} {s:Shared} {E:Value→Shared→Prop}
end
section
variable {X:Cx} {st:Stmt} {rest:List Stmt} {t u:TS} {e:Expr} {te:TE} {pos:Pos}
def QL:TS:=fun D σ H=>D.nx σ H
def QM (t u:TS):TS:=fun D σ H=>t {D with nx:=u D} σ H
theorem QN:Dv X [] QL:=fun _ _ σ H _ I h=>wpAny_execs_nil ⟨σ,H,I,h⟩
theorem QP (h1:PS X st t) (h2:Dv X rest u):Dv X (st::rest) (QM t u):=by
 intro pins s σ H D I h
 refine wpAny_execs_cons (An (h1 pins s σ H {D with nx:=u D} I h) fun f s1 q=>?_)
 cases f with
 |next=>
  obtain ⟨σ',H',I',q⟩:=q
  exact h2 pins s1 σ' H' D I' q
 |ret v=>exact q
 |brk=>exact q
 |cont=>exact q
theorem QR (h1:PS X st t):Dv X [st] t:=by
 intro pins s σ H D I h
 refine wpAny_execs_cons (An (h1 pins s σ H D I h) fun f s1 q=>?_)
 cases f with
 |next=>exact wpAny_execs_nil q
 |ret v=>exact q
 |brk=>exact q
 |cont=>exact q
theorem Inv.quiet {pins:List (Addr×Obj)} {σ:St} {H:Hp} {s:Shared} (I:Inv X pins σ H s):interactive X.env=false:=by simp [interactive,I.ok.kind]
def QT (te:TE):TS:=fun D σ H=>te σ H fun _ H1=>D.nx σ H1
theorem QU (he:PE X e te) (hs:swapsWith e none pos.line X.env=pure false:=by rfl):PS X (.Expr e pos) (QT te):=by
 intro pins s σ H D I h
 exact wpAny_Expr_any (An (he pins s σ H _ I h) fun v s1 z16_=>by obtain ⟨x,H1,I1,r1,q1⟩:=z16_;exact (⟨σ,H1,I1,q1⟩)) I.quiet hs
def QV (te:TE):TS:=fun D σ H=>te σ H D.rt
theorem QW (he:PE X e te):PS X (.Return (some e) pos) (QV te):=by
 intro pins s σ H D I h
 exact wpAny_Return_some (An (he pins s σ H _ I h) fun v s1 z17_=>by obtain ⟨x,H1,I1,r1,q1⟩:=z17_;exact (⟨x,σ,H1,I1,r1,q1⟩))
def QX (c:TT) (t u:TS):TS:=fun D σ H=>c σ H fun b H1=>if b=true then t D σ H1 else u D σ H1
theorem QY {c:Expr} {a b:List Stmt} {tc:TT} (hc:PT X c tc) (ha:Dv X a t) (hb:Dv X b u):PS X (.If c a b pos) (QX tc t u):=by
 intro pins s σ H D I h
 refine wpAny_If (An (hc pins s σ H _ I h) fun d s1 z18_=>?_)
 obtain ⟨H1,I1,q1⟩:=z18_
 cases d with
 |true=>exact ha pins s1 σ H1 D I1 q1
 |false=>exact hb pins s1 σ H1 D I1 q1
def QZ:TS:=fun _ _ _=>False
theorem Q0:PS X st QZ:=fun _ _ _ _ _ _ h=>h.elim
end
abbrev TG:=V→St→Hp→(St→Hp→Prop)→Prop
abbrev EK:=List V→St→Hp→(St→Hp→Prop)→Prop
def PG (X:Cx) (target:Expr) (t:TG):Prop:=
 ∀(pins:List (Addr×Obj)) (s:Shared) (σ:St) (H:Hp) (v:V) (u:Value) (Q:St→Hp→Prop),Inv X pins σ H s→RelV v u→t v σ H Q→
  wpAny (model X.prog X.w) X.A (assign target X.env u) (fun _ s'=>SN X pins Q s') X.xe s
def Iz (X:Cx) (ts:List Expr) (t:EK):Prop:=
 ∀(pins:List (Addr×Obj)) (s:Shared) (σ:St) (H:Hp) (vs:List V) (us:List Value) (Q:St→Hp→Prop),Inv X pins σ H s→Vals vs us→t vs σ H Q→
  wpAny (model X.prog X.w) X.A (assignInOrder ((assignEach ts X.env).map (·.2)) us) (fun _ s'=>SN X pins Q s') X.xe s
abbrev JT:=V→V→V→Hp→(Hp→Prop)→Prop
def JU (X:Cx) (t:JT):Prop:=
 ∀(pins:List (Addr×Obj)) (s:Shared) (σ:St) (H:Hp) (o i v:V) (ov iv u:Value) (Q:Hp→Prop),Inv X pins σ H s→RelV o ov→RelV i iv→RelV v u→t o i v H Q→
  wpAny (model X.prog X.w) X.A (setItem ov iv u) (fun _ s'=>∃H',Inv X pins σ H' s'∧Q H') X.xe s
section
variable {X:Cx} {pos:Pos}
def BZ (i:Nat):TG:=fun v σ H Q=>Q (σ.set i (some v)) H
theorem AH {i:Nat} {x:Str} (hN:X.N.Nodup) (hi:X.N[i]?=some x) (hx:G2 X.env.scope x) (hf:X.fn x=true∨X.env.scope.names.lookup x=some .local:=by first |exact .inl rfl |exact .inr rfl |assumption):PG X (.Name x pos) (BZ i):=by
 intro pins s σ H v u Q I r h
 exact wpAny_assign_Name (Iw I hN hi hx r (fun s' I'=>⟨_,H,I',h⟩) hf)
def E9:EK:=fun vs σ H Q=>vs=[]∧Q σ H
def Df (t:TG) (u:EK):EK:=fun vs σ H Q=>∃v r,vs=v::r∧t v σ H fun σ' H'=>u r σ' H' Q
theorem L4:Iz X [] E9:=by
 intro pins s σ H vs us Q I r h
 obtain ⟨e,h⟩:=h
 subst e
 cases r
 exact assignInOrder_nil ⟨σ,H,I,h⟩
theorem Gf {e:Expr} {es:List Expr} {t:TG} {u:EK} (h1:PG X e t) (h2:Iz X es u)
 (hs:(assignEach (e::es) X.env).map (·.2)=assign e X.env::(assignEach es X.env).map (·.2):=by rfl):Iz X (e::es) (Df t u):=by
 intro pins s σ H vs us Q I r h
 obtain ⟨v,vr,e1,h⟩:=h
 subst e1
 cases r with
 |cons r rr=>
  rw [hs]
  refine assignInOrder_cons (An (h1 pins s σ H _ _ _ I r h) fun _ s1 z19_=>?_)
  obtain ⟨σ1,H1,I1,q1⟩:=z19_
  exact h2 pins s1 σ1 H1 _ _ Q I1 rr q1
def Fb (K:PySem.W.Frag) (n:Nat) (t:EK):TG:=fun v σ H Q=>∃a xs,v=.ref a∧SqT K H a xs∧xs.length=n∧t xs σ H Q
theorem L5 {es:List Expr} {k:Nat} {t:EK} {n:Nat} (hc:X.calm=true) (h:Iz X es t)
 (hn:(assignEach es X.env).length=n:=by rfl) (hst:(assignEach es X.env).findIdx? (·.1)=none:=by rfl):PG X (.Tuple es k pos) (Fb X.K n t):=by
 intro pins s σ H v u Q I r hw
 obtain ⟨a,xs,e1,hq,hl,hw⟩:=hw
 subst e1
 cases r
 obtain ⟨its,rv,ht,hz⟩:=I.tuple hq
 refine assign_Tuple_tuple (I.ok.hd hc) ht (by simp [hn,←hl,rv.length]) hst fun h' hx=>?_
 have I1:Inv X pins σ H {s with heap:=h'}:=I.kept (t':=s.toks) fun b o e=>hx b o (Ce (AA e)) e
 exact h pins _ σ H xs _ Q I1 (by simpa using rv) hw
def Q1 (to ti:TE) (t:JT):TG:=fun v σ H Q=>to σ H fun o H1=>ti σ H1 fun i H2=>t o i v H2 fun H3=>Q σ H3
theorem L6 {o i:Expr} {to ti:TE} {t:JT} (ho:PE X o to) (hi:PE X i ti) (hs:JU X t)
 (ha:∀v,assign (.Subscript o i pos) X.env v=(do
  let ov ←holding [v] (eval o X.env)
  let iv ←holding [v,ov] (eval i X.env)
  standAt pos
  holding [v,ov,iv] (setItem ov iv v)
  release [v,ov,iv] []):=by intro _;rfl):PG X (.Subscript o i pos) (Q1 to ti t):=by
 intro pins s σ H v u Q I r h
 rw [ha]
 refine wpAny_bind (wpAny_holding (An (ho pins s σ H _ I h) fun ov s1 z20_=>?_))
 obtain ⟨x,H1,I1,r1,q1⟩:=z20_
 refine wpAny_bind (wpAny_holding (An (hi pins s1 σ H1 _ I1 q1) fun iv s2 z21_=>?_))
 obtain ⟨y,H2,I2,r2,q2⟩:=z21_
 refine wpAny_bind (wpAny_standAt (wpAny_bind (wpAny_holding (An (hs pins s2 σ H2 x y v ov iv u _ I2 r1 r2 r q2) fun _ s3 z22_=>?_))))
 obtain ⟨H3,I3,q3⟩:=z22_
 exact wpAny_release ⟨σ,H3,I3,q3⟩
def L7 (te:TE) (g:TG):TS:=fun D σ H=>te σ H fun x H1=>g x σ H1 D.nx
theorem JV {tg e:Expr} {te:TE} {g:TG} (he:PE X e te) (hg:PG X tg g) (hs:swapsWithSole [tg] e pos.line X.env=pure false:=by rfl) (hw:swappedStores [tg] e X.env=pure none:=by rfl)
 (h1:(assignEach [tg] X.env).map (·.2)=[assign tg X.env]:=by rfl):PS X (.Assign [tg] e pos) (L7 te g):=by
 intro pins s σ H D I h
 refine wpAny_Assign_stores (An (he pins s σ H _ I h) fun v s1 z23_=>?_) hs hw
 obtain ⟨x,H1,I1,r1,q1⟩:=z23_
 rw [h1]
 exact An (hg pins s1 σ H1 x v _ I1 r1 q1) fun _ s2 q=>q
theorem Q2 {i:Nat} {x:Str} {e:Expr} {te:TE} {pos':Pos} (hN:X.N.Nodup) (hi:X.N[i]?=some x) (hx:G2 X.env.scope x) (he:PE X e te) (hs:swapsWith e (some (.Name x pos')) pos.line X.env=pure false:=by rfl) (hf:X.fn x=true∨X.env.scope.names.lookup x=some .local:=by first |exact .inl rfl |exact .inr rfl |assumption):
 PS X (.Assign [.Name x pos'] e pos) (L7 te (BZ i)):=by
 intro pins s σ H D I h
 refine wpAny_Assign_Name (An (he pins s σ H _ I h) fun v s1 z24_=>?_) hs
 obtain ⟨y,H1,I1,r1,q1⟩:=z24_
 exact Iw I1 hN hi hx r1 (fun s2 I2=>⟨_,H1,I2,q1⟩) hf
def Q3 (i j:Nat) (ta:TA):TS:=fun D σ H=>ta σ H fun vs H1=>∃v w,vs=[v,w]∧D.nx ((σ.set i (some v)).set j (some w)) H1
theorem Q4 {i j:Nat} {x y:Str} {a b:Expr} {ta:TA} {px py pt:Pos} {kt k2 pt2} (hc:X.calm=true) (hN:X.N.Nodup) (hi:X.N[i]?=some x) (hj:X.N[j]?=some y) (hij:i≠j)
 (hx:X.env.scope.names.lookup x=some .local) (hy:X.env.scope.names.lookup y=some .local) (ha:PA X [a,b] ta)
 (hw:swappedStores [.Tuple [.Name x px,.Name y py] kt pt] (.Tuple [a,b] k2 pt2) X.env=pure (some [x,y]))
 (hs:swapsWithSole [.Tuple [.Name x px,.Name y py] kt pt] (.Tuple [a,b] k2 pt2) pos.line X.env=pure false:=by rfl):
 PS X (.Assign [.Tuple [.Name x px,.Name y py] kt pt] (.Tuple [a,b] k2 pt2) pos) (Q3 i j ta):=by
 intro pins s σ H D I h
 rw [exec_Assign_arm]
 refine wpAny_bind (wpAny_standAt ?_)
 rw [hs]
 refine wpAny_bind (wpAny_pure ?_)
 rw [if_neg (by decide)]
 refine wpAny_bind (Tuple_ (An (ha _ pins s σ H _ I h) fun us s1 z25_=>?_))
 obtain ⟨vs,H1,I1,r1,q1⟩:=z25_
 obtain ⟨v,w,e1,q1⟩:=q1
 subst e1
 obtain ⟨u1,u2,rfl,rv,rw'⟩:∃u1 u2,us=[u1,u2]∧RelV v u1∧RelV w u2:=by
  cases r1 with
  |cons p q=>
   cases q with
   |cons p' q'=>
    cases q'
    exact ⟨_,_,rfl,p,p'⟩
 refine wpAny_newObj_type ?_ (by show 2≤sizeLine;decide)
 have I2:Inv X pins σ H1 {s1 with heap:=s1.heap.push {cls:=.type "tuple",data:=.seq [u1,u2].toArray}}:=I1.kept (t':=s1.toks) fun b o e=>Bn _ e
 rw [hw]
 refine wpAny_bind (wpAny_pure ?_)
 show wpAny (model X.prog X.w) X.A (do rule "assign.swapped-stores";let items ←unpackItems (.ref s1.heap.objs.size) 2 none;assignInOrder [fun v=>bindName X.env y v,fun v=>bindName X.env x v] items.reverse;pure Flow.next) _ _ _
 refine wpAny_bind (wpAny_rule (wpAny_bind (unpackItems_tuple (items:=#[u1,u2]) (I.ok.hd hc) (IsTup.new s1.heap _) fun h' hx'=>?_)))
 have I3:=I2.kept (h':=h') (t':=s1.toks) fun b o e=>hx' b o (Ce (AA e)) e
 show wpAny _ _ (assignInOrder [fun v=>bindName X.env y v,fun v=>bindName X.env x v] [u2,u1] >>=fun _=>pure Flow.next) _ _ _
 refine wpAny_bind (assignInOrder_cons (wpAny_bindName (Iw I3 hN hj (.inl hy) rw' (fun s2 I4=>?_) (.inr hy))))
 refine assignInOrder_cons (wpAny_bindName (Iw I4 hN hi (.inl hx) rv (fun s3 I5=>assignInOrder_nil (wpAny_pure ?_)) (.inr hx)))
 rw [List.set_comm _ _ (Ne.symm hij)] at I5
 exact ⟨_,H1,I5,q1⟩
end
section
variable {X:Cx} {pos:Pos}
end
structure It where
 go:Nat→Hp→Prop
 yld:Nat→Hp→V→Hp→Prop
 stop:Nat→Hp→Prop
def Cr (X:Cx) (pins:List (Addr×Obj)) (H:Hp) (b:Addr):Prop:=
 H b=none∧b≠X.env.locals∧b∉X.fs∧(b∈X.ex∨X.s₀.heap.objs.size≤b)∧(∀x c,X.env.cells.lookup x=some c→c≠b)∧∀p∈X.pn++pins,p.1≠b
theorem Inv.fpOk {X:Cx} {pins:List (Addr×Obj)} {σ:St} {H H':Hp} {s:Shared} {b:Addr} (I:Inv X pins σ H s) (hb:s.heap.objs.size≤b) (hn:H' b=none):Cr X pins H' b:=by
 refine ⟨hn,Nat.ne_of_gt (Bo I.lt hb),I.nofs hb,.inr (BU I.sz hb),fun x c e z=>?_,fun p hp z=>?_⟩
 ·obtain ⟨v,q⟩:=I.cell x c e
  exact absurd (Bo q.lt (by rw [z];exact hb)) (Dd _)
 ·exact absurd (Bo (AA (I.pin p hp).1) (by rw [z];exact hb)) (Dd _)
structure EL (P:Program) (w:World) (K:PySem.W.Frag) (tg:Expr) (J:It) (fp:List Addr) (it:Addr) (tn:Nat→Heap→Prop):Prop where
 mem:it∈fp
 obj:∀i h,tn i h→∀b∈fp,∃o,h.get? b=some o∧∀v,o.data≠.cell v
 keep:∀i h h',tn i h→(∀b∈fp,∀o,h.get? b=some o→h'.get? b=some o)→tn i h'
 item:∀(X:Cx),X.prog=P→X.w=w→X.K=K→X.calm=true→∀(i:Nat) (pins:List (Addr×Obj)) (s:Shared) (σ:St) (H:Hp) (E:Value→Shared→Prop),Inv X pins σ H s→(∀b∈fp,Cr X pins H b)→tn i s.heap→J.go i H→
  wpAny (model P w) X.A (pyNext (.ref it)) (fun r s1=>∃u,r=some u∧
   wpAny (model P w) X.A (letOwnedTupleGo tg (.ref it) u) (fun _ s2=>∃x H',Inv X pins σ H' s2∧RelV x u∧J.yld i H x H'∧tn (i+1) s2.heap∧∀b∈fp,H' b=none) E s1) E s
 done:∀(X:Cx),X.prog=P→X.w=w→X.K=K→X.calm=true→∀(i:Nat) (pins:List (Addr×Obj)) (s:Shared) (σ:St) (H:Hp) (E:Value→Shared→Prop),Inv X pins σ H s→(∀b∈fp,Cr X pins H b)→tn i s.heap→J.stop i H→
  wpAny (model P w) X.A (pyNext (.ref it)) (fun r s1=>r=none∧Inv X pins σ H s1) E s
 self:∀(A:Around) (i:Nat) (s:Shared) (Q:Value→Shared→Prop) (E:Value→Shared→Prop),tn i s.heap→Q (.ref it) s→wpAny (model P w) A (pyIter (.ref it)) Q E s
abbrev TI:=St→Hp→(It→Hp→Prop)→Prop
inductive JW (X:Cx) (pins:List (Addr×Obj)) (σ:St) (tg:Expr) (R:It→Hp→Prop) (itv:Value) (s2:Shared):Prop where
 |mk (it:Addr) (fp:List Addr) (tn:Nat→Heap→Prop) (J:It) (H':Hp) (e:itv=.ref it) (i:Inv X pins σ H' s2) (t:EL X.prog X.w X.K tg J fp it tn) (st:tn 0 s2.heap) (f:∀b∈fp,Cr X pins H' b) (r:R J H'):JW X pins σ tg R itv s2
def PI (X:Cx) (tg iter:Expr) (wi:TI):Prop:=
 ∀(pins:List (Addr×Obj)) (s:Shared) (σ:St) (H:Hp) (R:It→Hp→Prop),Inv X pins σ H s→wi σ H R→
  wpAny (model X.prog X.w) X.A (eval iter X.env) (fun v s1=>wpAny (model X.prog X.w) X.A (pyIter v) (JW X pins σ tg R) X.xe s1) X.xe s
theorem IA {M:Model} {A:Around} {E:Value→Shared→Prop} {s:Shared} {tg:Expr} {it:Addr} {u:Value} {o:Obj} {n:String} {vs:Array Value} {Q:Unit→Shared→Prop} (ho:s.heap.get? it=some o) (hc:o.cls=.type n) (hd:o.data=.fields vs)
 (hn:["enumerate","zip","dict_itemiterator","dict_reverseitemiterator","odict_iterator","itertools.zip_longest","itertools.pairwise"].contains n=false) (hQ:Q () s):wpAny M A (letOwnedTupleGo tg (.ref it) u) Q E s:=by
 unfold letOwnedTupleGo
 cases tg<;>first
  |exact wpAny_pure hQ
  |(cases u<;>first
   |exact wpAny_pure hQ
   |(refine wpAny_bind (wpAny_load ho ?_)
     rw [hc,hd]
     show wpAny M A (if (["enumerate","zip","dict_itemiterator","dict_reverseitemiterator","odict_iterator","itertools.zip_longest","itertools.pairwise"].contains n&&vs[0]?==some (rawInt _))=true then _ else _) Q E s
     rw [if_neg (by intro h;rw [hn,Bool.false_and] at h;cases h)]
     exact wpAny_pure hQ))
def G3 (K:PySem.W.Frag) (a:Addr):It:=
 ⟨fun i H=>∃xs x,SqL K H a xs∧xs[i]?=some x,fun i H x H'=>H'=H∧∀xs,SqL K H a xs→xs[i]?=some x,fun i H=>∃xs,SqL K H a xs∧xs.length≤i⟩
def G4 (K:PySem.W.Frag) (a:Addr):It:=
 ⟨fun i H=>∃xs x,SqT K H a xs∧xs[i]?=some x,fun i H x H'=>H'=H∧∀xs,SqT K H a xs→xs[i]?=some x,fun i H=>∃xs,SqT K H a xs∧xs.length≤i⟩
def G5 (lo:Int) (n:Nat):It:=⟨fun i _=>i<n,fun i H x H'=>H'=H∧x=.int (lo+i),fun i _=>n≤i⟩
theorem Q5 {P:Program} {w:World} {K:PySem.W.Frag} {tg:Expr} (a it:Addr):EL P w K tg (G3 K a) [it] it (fun i h=>h.IsListIter it a i) where
 mem:=by simp
 obj:=fun i h st b hb=>by
  have e:b=it:=by simpa using hb
  subst e
  obtain ⟨o,e,c,d⟩:=st
  exact ⟨o,e,fun v z=>by rw [d] at z;cases z⟩
 keep:=fun i h h' st k=>st.at fun o e=>k it (by simp) o e
 item:=by
  intro X hP hw hK hc i pins s σ H E I hf st hg
  subst hP hw hK
  obtain ⟨xs,x,hq,hx⟩:=hg
  obtain ⟨its,rv,p,hz⟩:=I.list hq
  obtain ⟨u,hu,ru⟩:=rv.get hx
  obtain ⟨f0,f1,f2,f3,f4,f5⟩:=hf it (by simp)
  refine wpAny_pyNext_list_item st p.isList (x:=u) (by simpa using hu) fun h' st' sb=>?_
  have I1:Inv X pins σ H {s with heap:=h'}:=I.turned (t':=s.toks) (fun b o hb e=>(sb.2 b hb).trans e) f0 f1 f3 f4 f5
  obtain ⟨o,e,c,d⟩:=id st'
  exact ⟨u,rfl,IA (s:={s with heap:=h'}) e c d (by decide) ⟨x,H,I1,ru,⟨rfl,fun ys hy=>by rw [I.list_inj hy hq];exact hx⟩,st',fun b hb=>(hf b hb).1⟩⟩
 done:=by
  intro X hP hw hK hc i pins s σ H E I hf st hg
  subst hP hw hK
  obtain ⟨xs,hq,hx⟩:=hg
  obtain ⟨its,rv,p,hz⟩:=I.list hq
  obtain ⟨f0,f1,f2,f3,f4,f5⟩:=hf it (by simp)
  have hl:=rv.length
  exact wpAny_pyNext_list_end (I.ok.hd hc) st p.isList (by simp;omega) fun h' eb=>⟨rfl,I.turned (t':=s.toks) (fun b o hb e=>eb b o hb e) f0 f1 f3 f4 f5⟩
 self:=fun _ _ _ _ _ st h=>wpAny_pyIter_listiter st h
theorem Q6 {P:Program} {w:World} {K:PySem.W.Frag} {tg:Expr} (a it:Addr):EL P w K tg (G4 K a) [it] it (fun i h=>h.IsTupleIter it a i) where
 mem:=by simp
 obj:=fun i h st b hb=>by
  have e:b=it:=by simpa using hb
  subst e
  obtain ⟨o,e,c,d⟩:=st
  exact ⟨o,e,fun v z=>by rw [d] at z;cases z⟩
 keep:=fun i h h' st k=>st.at fun o e=>k it (by simp) o e
 item:=by
  intro X hP hw hK hc i pins s σ H E I hf st hg
  subst hP hw hK
  obtain ⟨xs,x,hq,hx⟩:=hg
  obtain ⟨its,rv,p,hz⟩:=I.tuple hq
  obtain ⟨u,hu,ru⟩:=rv.get hx
  obtain ⟨f0,f1,f2,f3,f4,f5⟩:=hf it (by simp)
  refine wpAny_pyNext_tuple_item st (show s.heap.IsTuple a its.toArray from p) (x:=u) (by simpa using hu) fun h' st' sb=>?_
  have I1:Inv X pins σ H {s with heap:=h'}:=I.turned (t':=s.toks) (fun b o hb e=>(sb.2 b hb).trans e) f0 f1 f3 f4 f5
  obtain ⟨o,e,c,d⟩:=id st'
  exact ⟨u,rfl,IA (s:={s with heap:=h'}) e c d (by decide) ⟨x,H,I1,ru,⟨rfl,fun ys hy=>by rw [I.tuple_inj hy hq];exact hx⟩,st',fun b hb=>(hf b hb).1⟩⟩
 done:=by
  intro X hP hw hK hc i pins s σ H E I hf st hg
  subst hP hw hK
  obtain ⟨xs,hq,hx⟩:=hg
  obtain ⟨its,rv,p,hz⟩:=I.tuple hq
  obtain ⟨f0,f1,f2,f3,f4,f5⟩:=hf it (by simp)
  have hl:=rv.length
  exact wpAny_pyNext_tuple_end (I.ok.hd hc) st (show s.heap.IsTuple a its.toArray from p) (by simp;omega) fun h' eb=>⟨rfl,I.turned (t':=s.toks) (fun b o hb e=>eb b o hb e) f0 f1 f3 f4 f5⟩
 self:=fun _ _ _ _ _ st h=>wpAny_pyIter_tupleiter st h
theorem Q7 {P:Program} {w:World} {K:PySem.W.Frag} {tg:Expr} (it:Addr) (lo:Int) (n:Nat):EL P w K tg (G5 lo n) [it] it (fun i h=>IsRangeIter h it (lo+(i:Nat)*1) ((n:Int) - (i:Nat)) 1) where
 mem:=by simp
 obj:=fun i h st b hb=>by
  have e:b=it:=by simpa using hb
  subst e
  exact ⟨_,st,fun v z=>by
   have z':Data.fields _=Data.cell v:=z
   cases z'⟩
 keep:=fun i h h' st k=>k it (by simp) _ st
 item:=by
  intro X hP hw hK hc i pins s σ H E I hf st hg
  subst hP hw hK
  obtain ⟨f0,f1,f2,f3,f4,f5⟩:=hf it (by simp)
  have W:=Walks.range (prog:=X.prog) (w:=X.w) (I.ok.hd hc) it lo 1 n
  refine W.item i s _ _ hg st fun v h' tk hv st' kk=>?_
  obtain ⟨t,rfl⟩:=hv
  have I1:Inv X pins σ H {s with heap:=h',toks:=tk}:=I.turned (fun b o hb e=>kk b o (by simpa using hb) e) f0 f1 f3 f4 f5
  refine ⟨_,rfl,IA (s:={s with heap:=h',toks:=tk}) (n:="range_iterator") st' rfl rfl (by decide) ⟨.int (lo+i),H,I1,⟨t,?_⟩,⟨rfl,rfl⟩,st',fun b hb=>(hf b hb).1⟩⟩
  rw [Int.mul_one]
 done:=by
  intro X hP hw hK hc i pins s σ H E I hf st hg
  subst hP hw hK
  obtain ⟨f0,f1,f2,f3,f4,f5⟩:=hf it (by simp)
  exact wpAny_pyNext_range_end (I.ok.hd hc) st (by have:n≤i:=hg;omega) fun h' eb=>⟨rfl,I.turned (t':=s.toks) (fun b o hb e=>eb b o hb e) f0 f1 f3 f4 f5⟩
 self:=fun _ _ _ _ _ st h=>wpAny_pyIter_rangeiter st h
section
variable {X:Cx} {tg:Expr}
theorem L8 {pins:List (Addr×Obj)} {σ:St} {H:Hp} {s:Shared} {R:It→Hp→Prop} {E:Value→Shared→Prop} {lo hi:Int} {t u v:Tok} {tk:Nat} (I:Inv X pins σ H s) (h1:-(2^62)≤lo) (h2:lo<2^62) (h3:-(2^62)≤hi) (h4:hi<2^62)
 (q:R (G5 lo (hi - lo).toNat) H):wpAny (model X.prog X.w) X.A (pyIter (.ref s.heap.objs.size)) (JW X pins σ tg R) E {s with heap:=s.heap.push {cls:=.type "range",data:=.fields #[.int lo t,.int hi u,.int 1 v]},toks:=tk}:=by
 refine wpAny_pyIter_range (IsRange.new ..) (small_one h1 h2 h3 h4) ?_
 have I1:Inv X pins σ H {s with heap:=s.heap.push {cls:=.type "range",data:=.fields #[.int lo t,.int hi u,.int 1 v]},toks:=tk}:=I.kept fun b o e=>Bn _ e
 refine ⟨(s.heap.push {cls:=.type "range",data:=.fields #[.int lo t,.int hi u,.int 1 v]}).objs.size,[(s.heap.push {cls:=.type "range",data:=.fields #[.int lo t,.int hi u,.int 1 v]}).objs.size],_,_,H,rfl,
  I1.kept (t':=tk) fun b o e=>Bn _ e,Q7 _ lo (hi - lo).toNat,?_,fun b hb=>?_,q⟩
 ·have e1:lo+((0:Nat):Int)*1=lo:=by simp
  have e2:(((hi - lo).toNat:Nat):Int) - ((0:Nat):Int)=Builtin.Range.rangeSize lo hi 1:=by rw [rangeSize_one];split<;>omega
  show IsRangeIter _ _ (lo+((0:Nat):Int)*1) ((((hi - lo).toNat:Nat):Int) - ((0:Nat):Int)) 1
  rw [e1,e2]
  exact BI _ rfl
 ·have e:b=(s.heap.push {cls:=.type "range",data:=.fields #[.int lo t,.int hi u,.int 1 v]}).objs.size:=by simpa using hb
  subst e
  exact I1.fpOk (AJ _) (I1.hok.fresh (AJ _))
def Q8 (ta:TA):TI:=fun σ H R=>ta σ H fun vs H1=>∃j:Int,vs=[.int j]∧-(2^62)≤j∧j<2^62∧R (G5 0 j.toNat) H1
def Q9 (ta:TA):TI:=fun σ H R=>ta σ H fun vs H1=>∃i j:Int,vs=[.int i,.int j]∧(-(2^62)≤i∧i<2^62∧-(2^62)≤j∧j<2^62)∧R (G5 i (j - i).toNat) H1
theorem Ra {a:Expr} {ta:TA} {p pos:Pos} (hg:Gl X "range") (hm:X.mg "range"=none) (ha:PA X [a] ta) (hs:starEach [a] X.env=[(false,eval a X.env)]:=by rfl):PI X tg (.Call (.Name "range" p) [a] [] pos) (Q8 ta):=by
 intro pins s σ H R I h
 refine Call_ (Ge I hg hm boot_range (PyProof.Rows.callWith_type1 (An (ha pos pins s σ H _ I h) fun us s1 z37_=>?_) hs rfl))
 obtain ⟨vs,H1,I1,r1,q1⟩:=z37_
 obtain ⟨j,e,q1,q2,q⟩:=q1
 subst e
 cases r1 with
 |cons r rr=>
  cases rr
  obtain ⟨t,rfl⟩:=r
  exact call_range_1 (L8 I1 (by omega) (by omega) q1 q2 (by simpa using q))
theorem Rb {a b:Expr} {ta:TA} {p pos:Pos} (hg:Gl X "range") (hm:X.mg "range"=none) (ha:PA X [a,b] ta) (hs:starEach [a,b] X.env=[(false,eval a X.env),(false,eval b X.env)]:=by rfl) (hs2:starEach [b] X.env=[(false,eval b X.env)]:=by rfl):
 PI X tg (.Call (.Name "range" p) [a,b] [] pos) (Q9 ta):=by
 intro pins s σ H R I h
 refine Call_ (Ge I hg hm boot_range (PyProof.Rows.callWith_type1 (An (ha pos pins s σ H _ I h) fun us s1 ⟨vs,H1,I1,r1,q1⟩=>?_) (by rw [hs,hs2]) (by rw [hs2];rfl)))
 obtain ⟨i,j,e,⟨q1,q2,q3,q4⟩,q⟩:=q1
 subst e
 cases r1 with
 |cons r rr=>
  cases rr with
  |cons r' rr=>
   cases rr
   obtain ⟨t,rfl⟩:=r
   obtain ⟨t',rfl⟩:=r'
   exact call_range_2 (L8 I1 q1 q2 q3 q4 q)
def Rc (wi:TI) (g:TG) (tb:TS):TS:=fun D σ H=>wi σ H fun J H1=>∃W:Nat→Nat→St→Hp→Prop,(∃m,W 0 m σ H1)∧∀i m σ H,W i m σ H→
 (J.stop i H∧D.nx σ H)∨(J.go i H∧∃N:St→Hp→Prop,(∀σ' H',N σ' H'→∃m',m' < m∧W (i+1) m' σ' H')∧∀x H',J.yld i H x H'→g x σ H' fun σ2 H2=>tb {D with nx:=N,ct:=N,bk:=D.nx} σ2 H2)
def EN (fp:List Addr) (h:Heap):List (Addr×Obj):=fp.filterMap fun b=>(h.get? b).map fun o=>(b,o)
theorem G6 {fp:List Addr} {h:Heap} {b:Addr} {o:Obj} (hb:b∈fp) (e:h.get? b=some o):(b,o)∈EN fp h:=List.mem_filterMap.mpr ⟨b,hb,by rw [e];rfl⟩
theorem L9 {fp:List Addr} {h:Heap} {p:Addr×Obj} (hp:p∈EN fp h):p.1∈fp∧h.get? p.1=some p.2:=by
 obtain ⟨b,hb,e⟩:=List.mem_filterMap.mp hp
 cases q:h.get? b with
 |none=>rw [q] at e;cases e
 |some o=>
  rw [q] at e
  have e':(b,o)=p:=Option.some.inj e
  subst e'
  exact ⟨hb,q⟩
theorem Inv.pinned {pins:List (Addr×Obj)} {σ:St} {H:Hp} {s:Shared} {fp:List Addr} (I:Inv X pins σ H s) (hf:∀b∈fp,Cr X pins H b) (ho:∀b∈fp,∃o,s.heap.get? b=some o∧∀v,o.data≠.cell v):Inv X (pins++EN fp s.heap) σ H s:=
 I.pins_of fun p hp=>(qaL.mp hp).elim (fun z=>I.pin p (By _ z)) fun z=>by
  obtain ⟨hb,e⟩:=L9 z
  obtain ⟨f0,f1,f2,_⟩:=hf p.1 hb
  obtain ⟨o,e',d⟩:=ho p.1 hb
  rw [e] at e';cases e'
  exact ⟨e,f0,f1,f2,d⟩
theorem Inv.unpinned {pins pl:List (Addr×Obj)} {σ:St} {H:Hp} {s:Shared} (I:Inv X (pins++pl) σ H s):Inv X pins σ H s:=I.pins_of fun p hp=>I.pin p (By _ (GX _ hp))
inductive JX (X:Cx) (pins:List (Addr×Obj)) (tn:Nat→Heap→Prop) (fp:List Addr) (W:Nat→Nat→St→Hp→Prop) (n:Nat) (s':Shared):Prop where
 |mk (i:Nat) (σ':St) (H':Hp) (ii:Inv X pins σ' H' s') (st:tn i s'.heap) (fr:∀b∈fp,H' b=none) (w:W i n σ' H'):JX X pins tn fp W n s'
theorem Re {iter:Expr} {body:List Stmt} {wi:TI} {g:TG} {tb:TS} {pos:Pos} (hp:PassesOwn (model X.prog X.w) X.A X.env X.xe) (hc:X.calm=true) (hi:PI X tg iter wi) (hg:PG X tg g) (hb:Dv X body tb)
 (hs:∀x,foldedSetIterable iter X.env x=pure x:=by intro _;rfl):PS X (.For tg iter body [] pos) (Rc wi g tb):=by
 intro pins s σ H D I h
 refine wpAny_For (An (hi pins s σ H _ I h) fun v s1 h1=>An h1 fun itv s2 h2=>?_) hs
 obtain ⟨it,fp,tn,J,H2,e,I2,T,CZ,f2,W,⟨m0,w0⟩,turn⟩:=h2
 subst e
 have stat:∀{H':Hp},(∀b∈fp,H' b=none)→∀b∈fp,Cr X pins H' b:=fun hn b hb=>⟨hn b hb,(f2 b hb).2⟩
 refine codeAny_forLoop_any (JX X pins tn fp W) ?_ m0 ⟨0,σ,H2,I2,CZ,fun b hb=>(f2 b hb).1,w0⟩
 rintro n s3 ⟨i,σ3,H3,I3,JM,fr3,w3⟩
 rcases turn i n σ3 H3 w3 with ⟨stop,qn⟩ |⟨go,N,hN,step⟩
 ·refine wpAny_passesOwn hp (An (T.done X rfl rfl rfl hc i pins s3 σ3 H3 X.xe I3 (stat fr3) JM stop) fun r s4 z39_=>?_)
  obtain ⟨hr,I4⟩:=z39_
  subst hr
  exact wpAny_execs_nil ⟨σ3,H3,I4,qn⟩
 ·refine wpAny_passesOwn hp (An (T.item X rfl rfl rfl hc i pins s3 σ3 H3 X.xe I3 (stat fr3) JM go) fun r s4 z40_=>?_)
  obtain ⟨u,hr,h4⟩:=z40_
  subst hr
  refine wpAny_passesOwn hp (An h4 fun _ s5 z41_=>?_)
  obtain ⟨x,H5,I5,r5,y5,DP,fr5⟩:=z41_
  have I5':=I5.pinned (stat fr5) (T.obj _ _ DP)
  refine wpAny_passesOwn hp (An (hg _ s5 σ3 H5 x u _ I5' r5 (step x H5 y5)) fun _ s6 z42_=>?_)
  obtain ⟨σ6,H6,I6,q6⟩:=z42_
  refine wpAny_passesOwn hp (An (hb _ s6 σ6 H6 _ I6 q6) fun f s7 q7=>?_)
  have again:∀{σ7:St} {H7:Hp},Inv X (pins++EN fp s5.heap) σ7 H7 s7→N σ7 H7→∃m,m<n∧JX X pins tn fp W m s7:=fun {σ7 H7} I7 n7=>by
   obtain ⟨m',hm,w7⟩:=hN σ7 H7 n7
   refine ⟨m',hm,i+1,σ7,H7,I7.unpinned,T.keep _ _ _ DP fun b hb o e=>(I7.pin (b,o) (By _ (By _ (G6 hb e)))).1,fun b hb=>?_,w7⟩
   obtain ⟨o,e,d⟩:=T.obj _ _ DP b hb
   exact (I7.pin (b,o) (By _ (By _ (G6 hb e)))).2.1
  cases f with
  |next=>obtain ⟨σ7,H7,I7,n7⟩:=q7;exact again I7 n7
  |cont=>obtain ⟨σ7,H7,I7,n7⟩:=q7;exact again I7 n7
  |brk=>obtain ⟨σ7,H7,I7,q7⟩:=q7;exact ⟨σ7,H7,I7.unpinned,q7⟩
  |ret v=>obtain ⟨x7,σ7,H7,I7,r7,q7⟩:=q7;exact ⟨x7,σ7,H7,I7.unpinned,r7,q7⟩
end
abbrev R2:=V→V→Hp→VK→Prop
def OpR (X:Cx) (f:Value→Value→Sem Value) (r:R2):Prop:=
 ∀(pins:List (Addr×Obj)) (s:Shared) (σ:St) (H:Hp) (x y:V) (v u:Value) (Q:VK),Inv X pins σ H s→RelV x v→RelV y u→r x y H Q→
  wpAny (model X.prog X.w) X.A (f v u) (EP X pins σ Q) X.xe s
def JY (X:Cx) (f:Value→Sem Value) (r:V→Hp→VK→Prop):Prop:=
 ∀(pins:List (Addr×Obj)) (s:Shared) (σ:St) (H:Hp) (x:V) (v:Value) (Q:VK),Inv X pins σ H s→RelV x v→r x H Q→
  wpAny (model X.prog X.w) X.A (f v) (EP X pins σ Q) X.xe s
def Dw (X:Cx) (f:Value) (r:List V→Hp→VK→Prop):Prop:=
 ∀(pins:List (Addr×Obj)) (s:Shared) (σ:St) (H:Hp) (xs:List V) (us:List Value) (Q:VK),Inv X pins σ H s→Vals xs us→r xs H Q→
  wpAny (model X.prog X.w) X.A (call f us) (EP X pins σ Q) X.xe s
def Rf (X:Cx) (r:V→Hp→(Bool→Hp→Prop)→Prop):Prop:=
 ∀(pins:List (Addr×Obj)) (s:Shared) (σ:St) (H:Hp) (x:V) (v:Value) (Q:Bool→Hp→Prop),Inv X pins σ H s→RelV x v→r x H Q→
  wpAny (model X.prog X.w) X.A (truthy v) (TP X pins σ Q) X.xe s
def IB (r:R2) (ta tb:TE):TE:=fun σ H Q=>ta σ H fun x H1=>tb σ H1 fun y H2=>r x y H2 Q
def Rg (r:V→Hp→VK→Prop) (ta:TE):TE:=fun σ H Q=>ta σ H fun x H1=>r x H1 Q
def rI (C:Int→Int→Prop) (g:Int→Int→V):R2:=fun x y H Q=>∃i j,x=.int i∧y=.int j∧C i j∧Q (g i j) H
def Fc (g:Int→Int→V):R2:=fun x y H Q=>∃i j,x=.int i∧y=.int j∧Q (g i j) H
def rU (g:Int→V):V→Hp→VK→Prop:=fun x H Q=>∃i,x=.int i∧Q (g i) H
section
variable {X:Cx} {a b c:Expr} {ta tb tc:TE} {pos:Pos}
theorem JZ (ha:PE X a ta) (hb:PE X b tb) {pins:List (Addr×Obj)} {s:Shared} {σ:St} {H:Hp} {R:V→V→Hp→Prop} (I:Inv X pins σ H s)
 (h:ta σ H fun x H1=>tb σ H1 fun y H2=>R x y H2) {Q:Value→Shared→Prop} {f:Value→Value→Sem Value}
 (hf:∀v u s2 x y H2,Inv X pins σ H2 s2→RelV x v→RelV y u→R x y H2→wpAny (model X.prog X.w) X.A (f v u) Q X.xe s2):
 wpAny (model X.prog X.w) X.A (eval a X.env) (fun v s₁=>wpAny (model X.prog X.w) X.A (eval b X.env) (fun u s₂=>wpAny (model X.prog X.w) X.A (f v u) Q X.xe s₂) X.xe s₁) X.xe s:=by
 refine An (ha pins s σ H _ I h) fun v s1 z44_=>?_
 obtain ⟨x,H1,I1,r1,q1⟩:=z44_
 refine An (hb pins s1 σ H1 _ I1 q1) fun u s2 z45_=>?_
 obtain ⟨y,H2,I2,r2,q2⟩:=z45_
 exact hf v u s2 x y H2 I2 r1 r2 q2
theorem Rh {op:Operator} {r:R2} (ho:OpR X (binaryOp op) r) (ha:PE X a ta) (hb:PE X b tb):PE X (.BinOp a op b pos) (IB r ta tb):=by
 intro pins s σ H Q I h
 exact wpAny_BinOp (JZ ha hb I h fun v u s2 x y H2 I2 rx ry q=>ho pins s2 σ H2 x y v u Q I2 rx ry q)
theorem Ri {op:UnaryOp} {r:V→Hp→VK→Prop} (ho:JY X (unaryOp op) r) (ha:PE X a ta):PE X (.UnaryOp op a pos) (Rg r ta):=by
 intro pins s σ H Q I h
 exact UnaryOp_ (An (ha pins s σ H _ I h) fun v s1 z46_=>by obtain ⟨x,H1,I1,r1,q1⟩:=z46_;exact (ho pins s1 σ H1 x v Q I1 r1 q1))
theorem IC {f:Value→Value→Sem Value} {C:Int→Int→Prop} {g:Int→Int→Int}
 (rule:∀(i j:Int) (t u:Tok) (s:Shared) (Q:Value→Shared→Prop) (E:Value→Shared→Prop),C i j→Q (.int (g i j) s.toks) {s with toks:=s.toks+1}→wpAny (model X.prog X.w) X.A (f (.int i t) (.int j u)) Q E s):
 OpR X f (rI C fun i j=>.int (g i j)):=by
 intro pins s σ H x y v u Q I rx ry h
 obtain ⟨i,j,rfl,rfl,hc,q⟩:=h
 obtain ⟨t,rfl⟩:=rx
 obtain ⟨t',rfl⟩:=ry
 exact rule i j t t' s _ _ hc ⟨.int (g i j),H,I.tok _,⟨_,rfl⟩,q⟩
theorem Ma {f:Value→Value→Sem Value} {g:Int→Int→Int}
 (rule:∀(i j:Int) (t u:Tok) (s:Shared) (Q:Value→Shared→Prop) (E:Value→Shared→Prop),Q (.int (g i j) s.toks) {s with toks:=s.toks+1}→wpAny (model X.prog X.w) X.A (f (.int i t) (.int j u)) Q E s):
 OpR X f (Fc fun i j=>.int (g i j)):=by
 intro pins s σ H x y v u Q I rx ry h
 obtain ⟨i,j,rfl,rfl,q⟩:=h
 obtain ⟨t,rfl⟩:=rx
 obtain ⟨t',rfl⟩:=ry
 exact rule i j t t' s _ _ ⟨.int (g i j),H,I.tok _,⟨_,rfl⟩,q⟩
theorem Mb {f:Value→Value→Sem Value} {g:Int→Int→Bool}
 (rule:∀(i j:Int) (t u:Tok) (s:Shared) (Q:Value→Shared→Prop) (E:Value→Shared→Prop),Q (.bool (g i j)) s→wpAny (model X.prog X.w) X.A (f (.int i t) (.int j u)) Q E s):
 OpR X f (Fc fun i j=>.bl (g i j)):=by
 intro pins s σ H x y v u Q I rx ry h
 obtain ⟨i,j,rfl,rfl,q⟩:=h
 obtain ⟨t,rfl⟩:=rx
 obtain ⟨t',rfl⟩:=ry
 exact rule i j t t' s _ _ ⟨.bl (g i j),H,I,rfl,q⟩
def Mc (i j:Int):Prop:=0<j∧j<1073741824
def Gg (i j:Int):Prop:=0≤j∧j≤1000000∧i.natAbs<2^64
def CMul (i j:Int):Prop:=(-(2^64)<i∧i<2^64)∨(-(2^64)<j∧j<2^64)
theorem CMul.ok {i j:Int} (h:CMul i j):IntMulOk i j:=by
 rcases h with ⟨h1,h2⟩ |⟨h1,h2⟩
 ·exact .of_left (intBits_le_64 h1 h2)
 ·exact .of_right (intBits_le_64 h1 h2)
theorem op_add:OpR X (binaryOp .Add) (Fc fun i j=>.int (i+j)):=Ma fun _ _ _ _ _ _ _ q=>add_int q
theorem Rj:OpR X (binaryOp .Sub) (Fc fun i j=>.int (i - j)):=Ma fun _ _ _ _ _ _ _ q=>sub_int q
theorem Rk:OpR X (binaryOp .Mod) (rI (fun _ j=>0<j) fun i j=>.int (i % j)):=IC fun i j _ _ _ _ _ hc q=>by
 have h1:(0:Int)<j:=hc
 exact mod_int' (by omega) (by rw [Int.fmod_eq_emod_of_nonneg i (by omega)];exact q)
theorem Rl:OpR X (binaryOp .LShift) (rI Gg fun i j=>.int (i*2^j.toNat)):=IC fun _ _ _ _ _ _ _ hc q=>lshift_int_small hc.1 hc.2.1 hc.2.2 q
theorem Rm {f:Value→Sem Value} {g:Int→Int}
 (rule:∀(i:Int) (t:Tok) (s:Shared) (Q:Value→Shared→Prop) (E:Value→Shared→Prop),Q (.int (g i) s.toks) {s with toks:=s.toks+1}→wpAny (model X.prog X.w) X.A (f (.int i t)) Q E s):
 JY X f (rU fun i=>.int (g i)):=by
 intro pins s σ H x v Q I rx h
 obtain ⟨i,rfl,q⟩:=h
 obtain ⟨t,rfl⟩:=rx
 exact rule i t s _ _ ⟨.int (g i),H,I.tok _,⟨_,rfl⟩,q⟩
theorem Rn:JY X (unaryOp .USub) (rU fun i=>.int (-i)):=Rm fun _ _ _ _ _ q=>neg_int q
end
def Md:V→V→Bool
 |.non,.non=>true |.non,.int _=>true |.int _,.non=>true |.non,.bl _=>true |.bl _,.non=>true |.non,.str _=>true |.str _,.non=>true
 |.int _,.int _=>true |.bl _,.bl _=>true |.str _,.str _=>true |.byt _,.byt _=>true
 |.int _,.str _=>true |.str _,.int _=>true |.bl _,.str _=>true |.str _,.bl _=>true
 |_,_=>false
def Ro:R2:=fun x y H Q=>Md x y=true∧Q (.bl (decide (x=y))) H
def Rq:R2:=fun x y H Q=>Md x y=true∧Q (.bl (!decide (x=y))) H
theorem Me {i j:Int}:decide (V.int i=V.int j)=(i==j):=by
 rw [qaI]
 simp
theorem Mf {i j:Bool}:decide (V.bl i=V.bl j)=(i==j):=by
 rw [qaI]
 simp
theorem ID {i j:Str}:decide (V.str i=V.str j)=(i==j):=by
 rw [qaI]
 simp
theorem Mg {i j:Array UInt8}:decide (V.byt i=V.byt j)=(i.toList==j.toList):=by
 rw [qaI]
 cases i
 cases j
 simp
section
variable {X:Cx} {a b c:Expr} {ta tb tc:TE} {pos:Pos}
theorem A8 {pins:List (Addr×Obj)} {σ:St} {H:Hp} {s:Shared} {Q:VK} {k k':Bool} (I:Inv X pins σ H s) (q:Q (.bl k) H) (e:k=k'):EP X pins σ Q (.bool k') s:=by
 subst e
 exact ⟨.bl k,H,I,rfl,q⟩
theorem op_eq:OpR X (compareOp .Eq) Ro:=by
 intro pins s σ H x y v u Q I rx ry h
 obtain ⟨hs,q⟩:=h
 cases x with
 |non=>
  cases rx
  cases y with
  |non=>cases ry;exact PySem.EqNone.eq_none_none (A8 I q (by simp))
  |bl j=>cases ry;exact PySem.EqNone.eq_none_bool (A8 I q (by simp))
  |int j=>obtain ⟨t',rfl⟩:=ry;exact PySem.EqNone.eq_none_int (A8 I q (by simp))
  |str j=>obtain ⟨t',rfl⟩:=ry;exact PySem.EqNone.eq_none_str (A8 I q (by simp))
  |_=>exact absurd (show false=true from hs) Bi
 |bl i=>
  cases rx
  cases y with
  |non=>cases ry;exact PySem.EqNone.eq_bool_none (A8 I q (by simp))
  |bl j=>cases ry;exact eq_bool (A8 I q Mf)
  |str j=>obtain ⟨t',rfl⟩:=ry;exact PySem.EqMixed.eq_bool_str (A8 I q (by simp))
  |_=>exact absurd (show false=true from hs) Bi
 |int i=>
  obtain ⟨t,rfl⟩:=rx
  cases y with
  |non=>cases ry;exact PySem.EqNone.eq_int_none (A8 I q (by simp))
  |int j=>obtain ⟨t',rfl⟩:=ry;exact eq_int (A8 I q Me)
  |str j=>obtain ⟨t',rfl⟩:=ry;exact PySem.EqMixed.eq_int_str (A8 I q (by simp))
  |_=>exact absurd (show false=true from hs) Bi
 |str i=>
  obtain ⟨t,rfl⟩:=rx
  cases y with
  |non=>cases ry;exact PySem.EqNone.eq_str_none (A8 I q (by simp))
  |bl j=>cases ry;exact PySem.EqMixed.eq_str_bool (A8 I q (by simp))
  |int j=>obtain ⟨t',rfl⟩:=ry;exact PySem.EqMixed.eq_str_int (A8 I q (by simp))
  |str j=>obtain ⟨t',rfl⟩:=ry;exact eq_str (A8 I q ID)
  |_=>exact absurd (show false=true from hs) Bi
 |byt i=>
  obtain ⟨t,rfl⟩:=rx
  cases y with
  |byt j=>obtain ⟨t',rfl⟩:=ry;exact PySem.W.eq_bytes (A8 I q Mg)
  |_=>exact absurd (show false=true from hs) Bi
 |_=>cases y<;>exact absurd (show false=true from hs) Bi
theorem op_ne:OpR X (compareOp .NotEq) Rq:=by
 intro pins s σ H x y v u Q I rx ry h
 obtain ⟨hs,q⟩:=h
 cases x with
 |non=>
  cases rx
  cases y with
  |non=>cases ry;exact PySem.EqNone.ne_none_none (A8 I q (by simp))
  |bl j=>cases ry;exact PySem.EqNone.ne_none_bool (A8 I q (by simp))
  |int j=>obtain ⟨t',rfl⟩:=ry;exact PySem.EqNone.ne_none_int (A8 I q (by simp))
  |str j=>obtain ⟨t',rfl⟩:=ry;exact PySem.EqNone.ne_none_str (A8 I q (by simp))
  |_=>exact absurd (show false=true from hs) Bi
 |bl i=>
  cases rx
  cases y with
  |non=>cases ry;exact PySem.EqNone.ne_bool_none (A8 I q (by simp))
  |bl j=>cases ry;exact ne_bool (A8 I q (congrArg not Mf))
  |str j=>obtain ⟨t',rfl⟩:=ry;exact PySem.EqMixed.ne_bool_str (A8 I q (by simp))
  |_=>exact absurd (show false=true from hs) Bi
 |int i=>
  obtain ⟨t,rfl⟩:=rx
  cases y with
  |non=>cases ry;exact PySem.EqNone.ne_int_none (A8 I q (by simp))
  |int j=>obtain ⟨t',rfl⟩:=ry;exact ne_int (A8 I q (congrArg not Me))
  |str j=>obtain ⟨t',rfl⟩:=ry;exact PySem.EqMixed.ne_int_str (A8 I q (by simp))
  |_=>exact absurd (show false=true from hs) Bi
 |str i=>
  obtain ⟨t,rfl⟩:=rx
  cases y with
  |non=>cases ry;exact PySem.EqNone.ne_str_none (A8 I q (by simp))
  |bl j=>cases ry;exact PySem.EqMixed.ne_str_bool (A8 I q (by simp))
  |int j=>obtain ⟨t',rfl⟩:=ry;exact PySem.EqMixed.ne_str_int (A8 I q (by simp))
  |str j=>obtain ⟨t',rfl⟩:=ry;exact ne_str (A8 I q (congrArg not ID))
  |_=>exact absurd (show false=true from hs) Bi
 |byt i=>
  obtain ⟨t,rfl⟩:=rx
  cases y with
  |byt j=>obtain ⟨t',rfl⟩:=ry;exact PySem.W.ne_bytes (A8 I q (congrArg not Mg))
  |_=>exact absurd (show false=true from hs) Bi
 |_=>cases y<;>exact absurd (show false=true from hs) Bi
theorem Rr:OpR X (compareOp .Lt) (Fc fun i j=>.bl (decide (i<j))):=Mb fun _ _ _ _ _ _ _ q=>lt_int q
theorem Rt:OpR X (compareOp .LtE) (Fc fun i j=>.bl (decide (i≤j))):=Mb fun _ _ _ _ _ _ _ q=>le_int q
theorem Ru:OpR X (compareOp .Is) (fun x y H Q=>y=.non∧Q (.bl (decide (x=.non))) H):=by
 intro pins s σ H x y v u Q I rx ry h
 obtain ⟨rfl,q⟩:=h
 cases ry
 refine is_none_gen (A8 I q ?_)
 cases x<;>first
  |(cases rx;rfl)
  |(obtain ⟨t,rfl⟩:=rx;rfl)
theorem Rv:OpR X (compareOp .IsNot) (fun x y H Q=>y=.non∧Q (.bl (!decide (x=.non))) H):=by
 intro pins s σ H x y v u Q I rx ry h
 obtain ⟨rfl,q⟩:=h
 cases ry
 refine isnot_none_gen (A8 I q ?_)
 cases x<;>first
  |(cases rx;rfl)
  |(obtain ⟨t,rfl⟩:=rx;rfl)
theorem OpR.or {f:Value→Value→Sem Value} {r r':R2} (h:OpR X f r) (h':OpR X f r'):OpR X f (fun x y H Q=>r x y H Q∨r' x y H Q):=by
 intro pins s σ H x y v u Q I rx ry q
 rcases q with q |q
 ·exact h pins s σ H x y v u Q I rx ry q
 ·exact h' pins s σ H x y v u Q I rx ry q
theorem Bf (b:Expr) {op:CmpOp} (h:op≠.In:=by decide) (h2:op≠.NotIn:=by decide):behindInMarks op b=false:=by
 have e1:(op==CmpOp.In)=false:=by cases op<;>first |rfl |exact absurd rfl h
 have e2:(op==CmpOp.NotIn)=false:=by cases op<;>first |rfl |exact absurd rfl h2
 cases b with
 |Set elts k p=>
  show (k==0&&(op==.In||op==.NotIn)&&elts.all (constantsAlone 8))=false
  rw [e1,e2,Bool.or_self,Bool.and_false,Bool.false_and]
 |_=>rfl
theorem Rw {op:CmpOp} {r:R2} (ho:OpR X (compareOp op) r) (ha:PE X a ta) (hb:PE X b tb) (hm:behindInMarks op b=false):PE X (.Compare a [op] [b] pos) (IB r ta tb):=by
 intro pins s σ H Q I h
 exact wpAny_Compare1 (JZ ha hb I h fun v u s2 x y H2 I2 rx ry q=>ho pins s2 σ H2 x y v u Q I2 rx ry q) hm
def Mh (t:TE):TT:=fun σ H Q=>t σ H fun x H'=>∃k,x=.bl k∧Q k H'
theorem Rx {op:CmpOp} {r:R2} (ho:OpR X (compareOp op) r) (ha:PE X a ta) (hb:PE X b tb) (hm:behindInMarks op b=false):PT X (.Compare a [op] [b] pos) (Mh (IB r ta tb)):=by
 intro pins s σ H Q I h
 refine wpAny_isTrue_Compare1 (An (ha pins s σ H _ I h) fun v s1 ⟨x,H1,I1,r1,q1⟩=>An (hb pins s1 σ H1 _ I1 q1) ?_) hm
 rintro u s2 ⟨y,H2,I2,r2,q2⟩
 refine An (ho pins s2 σ H2 x y v u _ I2 r1 r2 q2) fun c s3 z49_=>?_
 obtain ⟨z,H3,I3,r3,k,e,q3⟩:=z49_
 subst e
 cases r3
 exact wpAny_truthy_bool ⟨H3,I3,q3⟩
def J0 (r r':R2) (ta tb tc:TE):TE:=fun σ H Q=>ta σ H fun x H1=>tb σ H1 fun y H2=>r x y H2 fun z H3=>∃k,z=.bl k∧
 (if k=true then tc σ H3 fun w' H4=>r' y w' H4 Q else Q (.bl false) H3)
theorem Ry {op op':CmpOp} {r r':R2} (ho:OpR X (compareOp op) r) (ho':OpR X (compareOp op') r') (ha:PE X a ta) (hb:PE X b tb) (hc:PE X c tc)
 (hm:lastMarks [op,op'] [b,c]=false:=by with_unfolding_all rfl):PE X (.Compare a [op,op'] [b,c] pos) (J0 r r' ta tb tc):=by
 intro pins s σ H Q I h
 refine Compare_chain (An (ha pins s σ H _ I h) fun v s1 ⟨x,H1,I1,r1,q1⟩=>chain_link (An (hb pins s1 σ H1 _ I1 q1) ?_)) hm
 rintro u s2 ⟨y,H2,I2,r2,q2⟩
 refine An (ho pins s2 σ H2 x y v u _ I2 r1 r2 q2) fun d s3 z52_=>?_
 obtain ⟨z,H3,I3,r3,k,e,q3⟩:=z52_
 subst e
 cases r3
 refine wpAny_truthy_bool ?_
 cases k with
 |false=>exact ite_ff ⟨.bl false,H3,I3,rfl,q3⟩
 |true=>exact ite_tt (chain_last (An (hc pins s3 σ H3 _ I3 q3) fun w' s4 z53_=>by obtain ⟨z',H4,I4,r4,q4⟩:=z53_;exact (ho' pins s4 σ H4 y z' u w' Q I4 r2 r4 q4)))
theorem Rz {op op':CmpOp} {r r':R2} (ho:OpR X (compareOp op) r) (ho':OpR X (compareOp op') r') (ha:PE X a ta) (hb:PE X b tb) (hc:PE X c tc)
 (hm:lastMarks [op,op'] [b,c]=false:=by with_unfolding_all rfl):PT X (.Compare a [op,op'] [b,c] pos) (Mh (J0 r r' ta tb tc)):=by
 intro pins s σ H Q I h
 refine isTrue_chain (An (ha pins s σ H _ I h) fun v s1 ⟨x,H1,I1,r1,q1⟩=>test_link (An (hb pins s1 σ H1 _ I1 q1) ?_)) hm
 rintro u s2 ⟨y,H2,I2,r2,q2⟩
 refine An (ho pins s2 σ H2 x y v u _ I2 r1 r2 q2) fun d s3 z56_=>?_
 obtain ⟨z,H3,I3,r3,k,e,q3⟩:=z56_
 subst e
 cases r3
 refine wpAny_truthy_bool ?_
 cases k with
 |false=>
  obtain ⟨k',e',q'⟩:=q3
  cases e'
  exact ite_ff ⟨H3,I3,q'⟩
 |true=>
  refine ite_tt (test_last (An (hc pins s3 σ H3 _ I3 q3) ?_))
  rintro w' s4 ⟨z',H4,I4,r4,q4⟩
  refine An (ho' pins s4 σ H4 y z' u w' _ I4 r2 r4 q4) fun d' s5 z58_=>?_
  obtain ⟨z2,H5,I5,r5,k2,e2,q5⟩:=z58_
  subst e2
  cases r5
  exact wpAny_truthy_bool ⟨H5,I5,q5⟩
def J1 (K:PySem.W.Frag) (x:V) (H:Hp) (k:Bool):Prop:=
 match x with
 |.non=>k=false
 |.bl b=>k=b
 |.int i=>k=(i != 0)
 |.str y=>y.length≤sizeLine∧k=((y.length:Int) != 0)
 |.byt y=>y.size≤sizeLine∧k=((y.size:Int) != 0)
 |.ref p=>(∃xs,SqL K H p xs∧k=!xs.isEmpty)∨(∃xs,SqT K H p xs∧k=!xs.isEmpty)
 |_=>False
theorem Mi {xs:List V} {its:List Value} (r:Vals xs its):(!its.toArray.isEmpty)=!xs.isEmpty:=by
 cases r<;>simp
theorem G7:(sizeLine:Nat)<2^63:=by rw [sizeLine_eq];decide
theorem RA:Rf X (fun x H Q=>∃k,J1 X.K x H k∧Q k H):=by
 intro pins s σ H x v Q I rx h
 obtain ⟨k,e,q⟩:=h
 have hl:=G7
 have hs:sizeLine=16777216:=sizeLine_eq
 cases x with
 |non=>
  cases rx
  have e':k=false:=e
  subst e'
  exact truthy_none ⟨H,I,q⟩
 |bl b=>
  cases rx
  have e':k=b:=e
  subst e'
  exact wpAny_truthy_bool ⟨H,I,q⟩
 |int i=>
  obtain ⟨t,rfl⟩:=rx
  have e':k=(i != 0):=e
  subst e'
  exact PySem.P.truthy_int ⟨H,I,q⟩
 |str y=>
  obtain ⟨t,rfl⟩:=rx
  obtain ⟨hy,e'⟩:y.length≤sizeLine∧k=((y.length:Int) != 0):=e
  subst e'
  exact PySem.P.truthy_str (by omega) ⟨H,I.tok _,q⟩
 |byt y=>
  obtain ⟨t,rfl⟩:=rx
  obtain ⟨hy,e'⟩:y.size≤sizeLine∧k=((y.size:Int) != 0):=e
  subst e'
  exact PySem.W.truthy_bytes (by omega) ⟨H,I.tok _,q⟩
 |ref p=>
  cases rx
  have e':(∃xs,SqL X.K H p xs∧k=!xs.isEmpty)∨(∃xs,SqT X.K H p xs∧k=!xs.isEmpty):=e
  rcases e' with ⟨xs,hx,e'⟩ |⟨xs,hx,e'⟩
  ·subst e'
   obtain ⟨its,r,pl,hz⟩:=I.list hx
   have hlen:=r.length
   exact wpAny_truthy_list pl.isList (by simp only [A7];omega) ⟨H,I.tok _,by rw [Mi r];exact q⟩
  ·subst e'
   obtain ⟨its,r,pl,hz⟩:=I.tuple hx
   have hlen:=r.length
   exact truthy_tuple pl (by simp only [A7];omega) ⟨H,I.tok _,by rw [Mi r];exact q⟩
 |_=>exact (show False from e).elim
theorem RB (ha:PE X a ta) (he:∀D7,isTrue a X.env D7=(do let v ←D7;standAt a.pos;holding [v] (truthy v))):
 PT X a (fun σ H Q=>ta σ H fun x H'=>∃k,J1 X.K x H' k∧Q k H'):=by
 intro pins s σ H Q I h
 exact isTrue_plain (An (ha pins s σ H _ I h) fun v s1 z59_=>by obtain ⟨x,H1,I1,r1,q1⟩:=z59_;exact (RA pins s1 σ H1 x v Q I1 r1 q1)) (he _)
theorem RC:OpR X (binaryOp .Add) (fun x y H Q=>∃i j,x=.str i∧y=.str j∧i.length+j.length≤sizeLine∧Q (.str (i++j)) H):=by
 intro pins s σ H x y v u Q I rx ry h
 obtain ⟨i,j,rfl,rfl,hz,q⟩:=h
 obtain ⟨t,rfl⟩:=rx
 obtain ⟨t',rfl⟩:=ry
 exact add_str (fun t' tk=>⟨.str (i++j),H,I.tok _,⟨_,rfl⟩,q⟩) hz
theorem Gh {x:V} {us:List Value} (r:Vals [x] us):∃u,us=[u]∧RelV x u:=by
 cases r with
 |cons r1 r2=>cases r2;exact ⟨_,rfl,r1⟩
theorem IE {x y:V} {us:List Value} (r:Vals [x,y] us):∃u w',us=[u,w']∧RelV x u∧RelV y w':=by
 cases r with
 |cons r1 r2=>
  cases r2 with
  |cons r3 r4=>cases r4;exact ⟨_,_,rfl,r1,r3⟩
theorem RD (hc:X.calm=true):Dw X (.builtin "max") (fun xs H Q=>∃i j,xs=[.int i,.int j]∧Q (.int (if j>i then j else i)) H):=by
 intro pins s σ H xs us Q I r h
 obtain ⟨i,j,rfl,q⟩:=h
 obtain ⟨u,w',rfl,⟨t,rfl⟩,⟨t',rfl⟩⟩:=IE r
 refine max_two_ints (I.ok.hd hc) fun h' tk k=>⟨_,H,I.kept k,?_,q⟩
 by_cases hj:j>i
 ·rw [if_pos hj,if_pos hj];exact ⟨_,rfl⟩
 ·rw [if_neg hj,if_neg hj];exact ⟨_,rfl⟩
theorem RE (hc:X.calm=true):Dw X (.builtin "min") (fun xs H Q=>∃i j,xs=[.int i,.int j]∧Q (.int (if j<i then j else i)) H):=by
 intro pins s σ H xs us Q I r h
 obtain ⟨i,j,rfl,q⟩:=h
 obtain ⟨u,w',rfl,⟨t,rfl⟩,⟨t',rfl⟩⟩:=IE r
 refine min_two_ints (I.ok.hd hc) fun h' tk k=>⟨_,H,I.kept k,?_,q⟩
 by_cases hj:j<i
 ·rw [if_pos hj,if_pos hj];exact ⟨_,rfl⟩
 ·rw [if_neg hj,if_neg hj];exact ⟨_,rfl⟩
theorem RF:Dw X (.type "int") (fun xs H Q=>(∃i,xs=[.int i]∧Q (.int i) H)∨∃k,xs=[.bl k]∧Q (.int (if k then 1 else 0)) H):=by
 intro pins s σ H xs us Q I r h
 rcases h with ⟨i,rfl,q⟩ |⟨k,rfl,q⟩
 ·obtain ⟨u,rfl,t,rfl⟩:=Gh r
  exact call_int_int ⟨.int i,H,I,⟨_,rfl⟩,q⟩
 ·obtain ⟨u,rfl,r1⟩:=Gh r
  cases r1
  exact call_int_bool ⟨.int (if k then 1 else 0),H,I.tok _,⟨_,rfl⟩,q⟩
end
section
variable {prog:Program} {w:World} {A:Around} {E:Value→Shared→Prop} {s:Shared} {K:PySem.W.Frag} {x dx C f:Addr} {mA:Str→Option Value} {name:Str} {v:Value}
end
section
variable {P:Program} {w:World} {H H':Hp} {h h':Heap} {a C dx:Addr} {fs fs':List (Str×V)}
end
section
variable {X:Cx} {pins:List (Addr×Obj)} {σ:St} {H:Hp} {s:Shared} {a C dx:Addr} {fs:List (Str×V)} {f:Str} {v:V} {A:Around} {E:Value→Shared→Prop}
end
section
variable {X:Cx} {o e value:Expr} {f:Str} {pos pos' tpos:Pos} {ta tv:TE}
end
section
variable {X:Cx} {pins:List (Addr×Obj)} {σ:St} {H:Hp} {s:Shared} {A:Around} {E:Value→Shared→Prop} {Q:Value→Shared→Prop} {c:Value} {b:Bool}
inductive Dx (K:PySem.W.Frag) (H:Hp):V→Value→Prop where
 |non:Dx K H .non (.type "NoneType")
 |bl (x:Bool):Dx K H (.bl x) (.type "bool")
 |int (i:Int):Dx K H (.int i) (.type "int")
 |str (x:Str):Dx K H (.str x) (.type "str")
 |flt (x:UInt64):Dx K H (.flt x) (.type "float")
 |lst {a:Addr} {xs:List V} (e:H a=some (.lst xs)):Dx K H (.ref a) (.type "list")
 |frz {a:Addr} {o:Obj} {xs:List V} (e:H a=some (.frz o (.lst xs))):Dx K H (.ref a) (.type "list")
 |tup {a:Addr} {xs:List V} (e:H a=some (.tup xs)):Dx K H (.ref a) (.type "tuple")
theorem RG {x:V} {u t:Value} (I:Inv X pins σ H s) (rx:RelV x u) (ty:Dx X.K H x t) (e:PySem.W.kitOne X.K t c=some b) (h:∀tk,Q (.bool b) {s with toks:=tk}):
 wpAny (model X.prog X.w) A (call (.builtin "isinstance") [u,c]) Q E s:=by
 cases ty with
 |non=>cases (show u=Value.none from rx);exact PySem.W.kia_one PySem.W.kitx_none I.kIn True.intro e (fun z=>nomatch z) h
 |bl y=>cases (show u=Value.bool y from rx);exact PySem.W.kia_one PySem.W.kitx_bool I.kIn True.intro e (fun z=>nomatch z) h
 |int i=>obtain ⟨t,q⟩:=(show ∃t,u=Value.int i t from rx);cases q;exact PySem.W.kia_one PySem.W.kitx_int I.kIn True.intro e (fun z=>nomatch z) h
 |str y=>obtain ⟨t,q⟩:=(show ∃t,u=Value.str y t from rx);cases q;exact PySem.W.kia_one PySem.W.kitx_str I.kIn True.intro e (fun z=>nomatch z) h
 |flt y=>obtain ⟨t,q⟩:=(show ∃t,u=Value.float y t from rx);cases q;exact PySem.W.kia_one PySem.W.kitx_float I.kIn True.intro e (fun z=>nomatch z) h
 |@lst a xs ea=>
  cases (show u=Value.ref a from rx)
  obtain ⟨_,_,n,_,h1⟩:=(show ObjOk X.prog X.w H s.heap a (.lst xs) from I.hok a _ ea)
  exact PySem.W.kia_one PySem.W.kitx_list I.kIn ⟨_,h1,rfl⟩ e (fun z=>nomatch z) h
 |@frz a ob xs ea=>
  cases (show u=Value.ref a from rx)
  obtain ⟨_,_,_,n,_,h1⟩:=(show ObjOk X.prog X.w H s.heap a (.frz ob (.lst xs)) from I.hok a _ ea)
  exact PySem.W.kia_one PySem.W.kitx_list I.kIn ⟨_,h1,rfl⟩ e (fun z=>nomatch z) h
 |@tup a xs ea=>
  cases (show u=Value.ref a from rx)
  obtain ⟨_,_,_,p,_⟩:=(show ObjOk X.prog X.w H s.heap a (.tup xs) from I.hok a _ ea)
  obtain ⟨o,h1,h2,_⟩:=p
  exact PySem.W.kia_one PySem.W.kitx_tuple I.kIn ⟨o,h1,h2⟩ e (fun z=>nomatch z) h
end
structure Room (k:Nat) (A:Around):Prop where
 hd:A.handled=none
 dp:A.depth+3*k+5<recursionLimit
 un:A.units+16*k+200<cLine
 gd:A.guards=some []
theorem Room.mono {j k:Nat} {A:Around} (r:Room k A) (h:j≤k):Room j A:=⟨r.hd,by have:=r.dp;omega,by have:=r.un;omega,r.gd⟩
theorem Room.deeper {k:Nat} {A:Around} (r:Room (k+1) A) (env:Env):Room k (A.deeper env):=
 ⟨r.hd,by have:=r.dp;show A.depth+1+3*k+5<_;omega,by have:=r.un;show A.units+3+16*k+200<_;omega,r.gd⟩
theorem Room.depth {k:Nat} {A:Around} (r:Room k A):A.depth<recursionLimit:=by have:=r.dp;omega
theorem Room.units {k:Nat} {A:Around} (r:Room k A):A.units+64<cLine:=by have:=r.un;omega
def RH:TA:=fun _ H Q=>Q [] H
def RI (ta:TE) (tr:TA):TA:=fun σ H Q=>ta σ H fun x H1=>tr σ H1 fun xs H2=>Q (x::xs) H2
section
variable {X:Cx} {e:Expr} {es:List Expr} {te:TE} {t:TA} {pos:Pos}
theorem RJ:PA X [] RH:=fun _ _ _ _ H Q I h=>Calls.spliced_nil ⟨[],H,I,.nil,h⟩
theorem RK (ha:PE X e te) (hr:PA X es t) (hs:starEach (e::es) X.env=(false,eval e X.env)::starEach es X.env:=by rfl):PA X (e::es) (RI te t):=by
 intro pos pins s σ H Q I h
 rw [hs]
 show wpAny _ _ (spliced ((false,eval e X.env)::backTo pos (starEach es X.env))) _ _ s
 refine Calls.spliced_cons (An (ha pins s σ H _ I h) fun u s1 z68_=>?_)
 obtain ⟨x,H1,I1,r1,q1⟩:=z68_
 exact An (hr pos pins s1 σ H1 _ I1 q1) fun us s2 z69_=>by obtain ⟨xs,H2,I2,r2,q2⟩:=z69_;exact (⟨x::xs,H2,I2,.cons r1 r2,q2⟩)
def RL (t:TA):TE:=fun σ H Q=>t σ H fun xs H1=>xs.length≤sizeLine∧∀p,H1 p=none→Q (.ref p) (Am H1 p (.tup xs))
def RM (t:TA):TE:=fun σ H Q=>t σ H fun xs H1=>xs.length≤sizeLine∧∀p,H1 p=none→Q (.ref p) (Am H1 p (.lst xs))
theorem RN {x1} (h:PA X es t):PE X (.Tuple es x1 pos) (RL t):=by
 intro pins s σ H Q I hq
 refine wpAny_Tuple_spliced (An (h pos pins s σ H _ I hq) fun us s1 ⟨xs,H1,I1,r,z,q⟩=>⟨by rw [←r.length];exact z,?_⟩)
 have hf:H1 s1.heap.objs.size=none:=I1.hok.fresh (AJ _)
 refine ⟨.ref s1.heap.objs.size,Am H1 s1.heap.objs.size (.tup xs),I1.laid (t':=s1.toks) (fun b u e=>Bn _ e) (AJ _) ?_,rfl,q _ hf⟩
 exact ⟨z,us,r,⟨_,BI _ rfl,rfl,_,rfl⟩,NoDict.new⟩
theorem RO (h:PA X es t):PE X (.List es pos) (RM t):=by
 intro pins s σ H Q I hq
 refine wpAny_List_spliced (An (h pos pins s σ H _ I hq) fun us s1 ⟨xs,H1,I1,r,z,q⟩=>⟨by rw [←r.length];exact z,?_⟩)
 have hf:H1 s1.heap.objs.size=none:=I1.hok.fresh (AJ _)
 refine ⟨.ref s1.heap.objs.size,Am H1 s1.heap.objs.size (.lst xs),I1.laid (t':=s1.toks) (fun b u e=>Bn _ e) (AJ _) ?_,rfl,q _ hf⟩
 exact ⟨z,us,0,r,BI _ rfl⟩
end
abbrev Sp:=List V→Hp→VK→XK→Prop
abbrev Dy:=List Env→Hp→Shared→XK→Value→Shared→Prop
structure G8 (P:Program) (w:World) (K:PySem.W.Frag) (mg:Str→Option Value) (base:Heap) (A:Around) (outer:List Env) (s:Shared) (H:Hp):Prop where
 frames:A.frames=some outer
 mod:Mod K mg base
 bs:∀b o,base.get? b=some o→s.heap.get? b=some o∧H b=none
 bsz:base.objs.size≤s.heap.objs.size
 funs:s.heap.FunFrames base outer
 frf:∀b∈frs outer,H b=none
 hok:HOk P w H s.heap
 bare:AllBare s.gens
inductive CE (outer:List Env) (P:Program) (w:World) (H:Hp) (s:Shared) (Q:VK) (u:Value) (s':Shared):Prop where
 |mk (v:V) (H':Hp) (os:s'.os=s.os) (bare:AllBare s'.gens) (un:Un (frs outer) [] H H' s.heap s'.heap) (hok:HOk P w H' s'.heap) (r:RelV v u) (q:Q v H'):CE outer P w H s Q u s'
def CR (CX:Dy) (outer:List Env) (P:Program) (w:World) (H:Hp) (s:Shared) (Q:VK) (E:XK) (r:Result) (s':Shared):Prop:=
 match r with
 |.ok (.ret u)=>CE outer P w H s Q u s'
 |.ok _=>False
 |.error e=>CX outer H s E e s'
structure FnOk (P:Program) (w:World) (K:PySem.W.Frag) (mg:Str→Option Value) (base:Heap) (CX:Dy) (k:Nat) (f:Addr) (fd:FuncData) (ps:List Str) (sp:Sp):Prop where
 len:∀vs H Q E,sp vs H Q E→vs.length=ps.length
 run:∀(A:Around) (outer:List Env) (s:Shared) (H:Hp) (args:Args) (us:List Value) (vs:List V) (Q:VK) (E:XK),Room k A→G8 P w K mg base A outer s H→BindsTo s fd args (ps.zip us)→Vals vs us→sp vs H Q E→
  codeAny (model P w) A (.call (.ref f) args) (CR CX outer P w H s Q E) s
theorem FnOk.mono {P:Program} {w:World} {K:PySem.W.Frag} {mg:Str→Option Value} {base:Heap} {CX:Dy} {j k:Nat} {f:Addr} {fd:FuncData} {ps:List Str} {sp:Sp} (F:FnOk P w K mg base CX j f fd ps sp) (h:j≤k):
 FnOk P w K mg base CX k f fd ps sp:=⟨F.len,fun A outer s H args us vs Q E hr=>F.run A outer s H args us vs Q E (hr.mono h)⟩
theorem FnOk.imp {P:Program} {w:World} {K:PySem.W.Frag} {mg:Str→Option Value} {base:Heap} {CX:Dy} {k:Nat} {f:Addr} {fd:FuncData} {ps:List Str} {sp sp':Sp} (F:FnOk P w K mg base CX k f fd ps sp)
 (h:∀vs H Q E,sp' vs H Q E→sp vs H Q E):FnOk P w K mg base CX k f fd ps sp':=
 ⟨fun vs H Q E q=>F.len vs H Q E (h _ _ _ _ q),fun A outer s H args us vs Q E hr he hb hv hs=>F.run A outer s H args us vs Q E hr he hb hv (h _ _ _ _ hs)⟩
section
variable {X:Cx} {pins:List (Addr×Obj)} {σ:St} {H:Hp} {s s':Shared}
theorem Inv.env0 (I:Inv X pins σ H s):G8 X.prog X.w X.K X.mg X.base X.A X.stack s H:=
 ⟨I.ok.frames,I.ok.mod,I.bs,BU I.ok.bsz I.sz,I.stack,I.stkFree,I.hok,I.bare⟩
theorem Inv.after {Q:VK} {u:Value} (I:Inv X pins σ H s) (h:CE X.stack X.prog X.w H s Q u s'):EP X pins σ Q u s':=by
 obtain ⟨v,H',os,bare,un,hok,r,q⟩:=h
 obtain ⟨hh,g,d,t,os'⟩:=s'
 obtain rfl:os'=s.os:=os
 exact ⟨v,H',I.call (h':=hh) (g':=g) (d':=d) (t':=t) (ch:=[]) un hok bare (fun b z=>absurd z (by simp)),r,q⟩
end
def RP (sp:Sp) (dvs:List V) (E:XK) (t:TA):TE:=fun σ H Q=>t σ H fun vs H1=>sp (vs++dvs) H1 Q E
def Binds (K:PySem.W.Frag) (fd:FuncData) (ps:List Str) (ds:List Value):Prop:=
 ∀(s:Shared) (us:List Value),K.In s.heap→(us++ds).length=ps.length→BindsTo s fd ⟨us,[]⟩ (ps.zip (us++ds))
theorem Binds.all {K:PySem.W.Frag} {fd:FuncData} {ps:List Str} (h:∀us:List Value,us.length=ps.length→bindArgs fd ⟨us,[]⟩=pure (ps.zip us)):Binds K fd ps []:=fun s us _ hl=>by
 rw [EJ] at hl ⊢
 exact .of_eq (h us hl)
def Gi (CX:Dy) (X:Cx) (E:XK):Prop:=∀(pins:List (Addr×Obj)) (σ:St) (H:Hp) (s:Shared) (e:Value) (s':Shared),Inv X pins σ H s→CX X.stack H s E e s'→X.xe e s'
section
variable {X:Cx} {CX:Dy} {k:Nat} {f C:Addr} {fd:FuncData} {ps:List Str} {sp:Sp} {dvs:List V} {ds:List Value} {E:XK} {x m:Str} {p pos apos:Pos} {e o:Expr} {es:List Expr} {ta:TE} {t:TA}
theorem RQ {pins:List (Addr×Obj)} {σ:St} {H:Hp} {s:Shared} {Q:VK} {us:List Value} {vs:List V} (F:FnOk X.prog X.w X.K X.mg X.base CX k f fd ps sp) (hr:Room k X.A) (hb:Binds X.K fd ps ds) (hd:Vals dvs ds) (hx:Gi CX X E)
 (I:Inv X pins σ H s) (r:Vals vs us) (h:sp (vs++dvs) H Q E):wpAny (model X.prog X.w) X.A (call (.ref f) us) (EP X pins σ Q) X.xe s:=by
 have r2:Vals (vs++dvs) (us++ds):=r.append hd
 have hl:(us++ds).length=ps.length:=by rw [←r2.length];exact F.len _ _ _ _ h
 refine wpAny_call (codeAny_mono (F.run X.A X.stack s H ⟨us,[]⟩ (us++ds) (vs++dvs) Q E hr I.env0 (hb s us I.kIn hl) r2 h) fun r s' hq=>?_)
 cases r with
 |error e=>exact hx pins σ H s e s' I hq
 |ok fl=>
  cases fl with
  |ret u=>exact I.after hq
  |next=>exact False.elim hq
  |brk=>exact False.elim hq
  |cont=>exact False.elim hq
theorem RR (F:FnOk X.prog X.w X.K X.mg X.base CX k f fd ps sp) (hr:Room k X.A) (hg:Gl X x) (hm:X.mg x=some (.ref f)) (hk:PySem.W.keepIn X.K (.ref f)=true) (hb:Binds X.K fd ps ds) (hd:Vals dvs ds) (hx:Gi CX X E)
 (ha:PA X (e::es) t) (hdb:(x==("__debug__":Str))=false:=by decide) (he:starEach (e::es) X.env=(false,eval e X.env)::starEach es X.env:=by rfl) (hpl:(backTo pos (starEach es X.env)).any (·.1)=false:=by rfl):
 PE X (.Call (.Name x p) (e::es) [] pos) (RP sp dvs E t):=by
 intro pins s σ H Q I h
 refine wpAny_Call_Name_kw (L3 I hg hm ?_ hdb)
 refine PySem.W.callWith_K (h₀:=X.base) I.ok.mod.kin hk (An (ha pos pins s σ H _ I h) ?_) he hpl
 rintro us s1 ⟨vs,H1,I1,r,q⟩
 refine ⟨I1.kIn,?_⟩
 exact RQ F hr hb hd hx I1 r q
end
section
variable {X:Cx} {CX:Dy} {k:Nat} {f C:Addr} {fd:FuncData} {ps ks:List Str} {sp:Sp} {E:XK} {x m:Str} {p pos apos kpos:Pos} {e o:Expr} {es:List Expr} {kws:List Keyword} {te ta:TE} {t tk:TA} {nm:Option Str}
variable {g:List Value→List Value→List Value} {gV:List V→List V→List V}
end
structure A1 (N P:List Str) (sc:Scope):Prop where
 kind:sc.kind=.function
 co:sc.isCoroutine=false
 gen:sc.isGenerator=false
 nd:N.Nodup
 pre:N.take P.length=P
 par:∀x∈P,sc.names.lookup x=some .local∨sc.names.lookup x=some .cell
 nofree:∀y∈sc.names,y.2≠.free
theorem Mj {kindOf:Str→Option NameKind} {x:Str}:∀{binds:List (Str×Value)} {m:Str→Option Value},(∀v,(x,v)∉binds)→bindL kindOf binds m x=m x
 |[],_,_=>rfl
 |(n,v)::r,m,h=>by
  unfold bindL
  rw [Mj fun w hw=>h w (AU _ hw)]
  split
  ·have:x≠n:=by rintro rfl;exact h v AI
   simp [this]
  ·rfl
theorem Mk {kindOf:Str→Option NameKind} {x:Str}:∀{binds:List (Str×Value)} {m:Str→Option Value},(∀v,(x,v)∉binds)→bindC kindOf binds m x=m x
 |[],_,_=>rfl
 |(n,v)::r,m,h=>by
  unfold bindC
  rw [Mk fun w hw=>h w (AU _ hw)]
  split
  ·rfl
  ·have:x≠n:=by rintro rfl;exact h v AI
   simp [this]
theorem Ml {kindOf:Str→Option NameKind} {x:Str} {v:Value}:∀{P:List Str} {vs:List Value} {i:Nat} {m:Str→Option Value},P.Nodup→P[i]?=some x→vs[i]?=some v→kindOf x=some .local→
 bindL kindOf (P.zip vs) m x=some v
 |[],_,_,_,_,h,_,_=>by simp at h
 |_::_,[],_,_,_,_,h,_=>by simp at h
 |p::P,w::vs,0,m,nd,h1,h2,hk=>by
  simp at h1 h2;subst h1;subst h2
  show bindL kindOf ((p,w)::P.zip vs) m p=_
  unfold bindL
  rw [Mj fun v hv=>(qbG.mp nd).1 (List.of_mem_zip hv).1,if_pos hk]
  simp
 |p::P,w::vs,i+1,m,nd,h1,h2,hk=>by
  show bindL kindOf ((p,w)::P.zip vs) m x=_
  unfold bindL
  exact Ml (i:=i) (qbG.mp nd).2 (by simpa using h1) (by simpa using h2) hk
theorem Mm {kindOf:Str→Option NameKind} {x:Str} {v:Value}:∀{P:List Str} {vs:List Value} {i:Nat} {m:Str→Option Value},P.Nodup→P[i]?=some x→vs[i]?=some v→kindOf x≠some .local→
 bindC kindOf (P.zip vs) m x=some v
 |[],_,_,_,_,h,_,_=>by simp at h
 |_::_,[],_,_,_,_,h,_=>by simp at h
 |p::P,w::vs,0,m,nd,h1,h2,hk=>by
  simp at h1 h2;subst h1;subst h2
  show bindC kindOf ((p,w)::P.zip vs) m p=_
  unfold bindC
  rw [Mk fun v hv=>(qbG.mp nd).1 (List.of_mem_zip hv).1,if_neg hk]
  simp
 |p::P,w::vs,i+1,m,nd,h1,h2,hk=>by
  show bindC kindOf ((p,w)::P.zip vs) m x=_
  unfold bindC
  exact Mm (i:=i) (qbG.mp nd).2 (by simpa using h1) (by simpa using h2) hk
def start (N:List Str) (vs:List V):St:=vs.map some++List.replicate (N.length - vs.length) none
def AK (CX:Dy) (P:Program) (w:World) (K:PySem.W.Frag) (mg:Str→Option Value) (base:Heap) (N:List Str) (qual:Str) (scope:Scope) (f:Addr) (cd:Value) (A:Around) (outer:List Env) (s:Shared) (H:Hp) (E:XK):Cx where
 prog:=P
 w:=w
 K:=K
 mg:=mg
 base:=base
 A:=A.deeper (envOfC qual scope s.heap.objs.size f cd)
 N:=N
 s₀:=s
 H₀:=H
 env:=envOfC qual scope s.heap.objs.size f cd
 outer:=outer
 stack:=envOfC qual scope s.heap.objs.size f cd::outer
 ex:=[]
 calm:=true
 fn:=fun _=>true
 pn:=[]
 xe:=fun e s'=>wpAny (model P w) (A.deeper (envOfC qual scope s.heap.objs.size f cd)) (leaving (envOfC qual scope s.heap.objs.size f cd) e) (fun _ s''=>CX outer H s E e s'') (fun e' s''=>CX outer H s E e' s'') s'
theorem Mn {sc:Scope} {n:Nat} {x:Str} (h:sc.names.lookup x=some .cell):∃c,(cellsFrom n sc.names []).lookup x=some c:=by
 have q:=PySem.W.cellsFrom_some sc.names n [] (.inl h)
 exact Option.isSome_iff_exists.mp q
theorem RS {CX:Dy} {P:Program} {w:World} {K:PySem.W.Frag} {mg:Str→Option Value} {base:Heap} {N ps:List Str} {qual:Str} {scope:Scope} {f:Addr} {cd:Value} {A:Around} {outer:List Env} {s s1:Shared} {H:Hp} {E:XK} {us:List Value} {vs:List V}
 (S:A1 N ps scope) (hd:A.handled=none) (e0:G8 P w K mg base A outer s H) (hl:vs.length=ps.length) (r:Vals vs us)
 (x:InCallC s s.heap.objs.size (bindL (envOfC qual scope s.heap.objs.size f cd).kindOf (ps.zip us) fun _=>none) (cellsFrom (s.heap.objs.size+1) scope.names []) (bindC (envOfC qual scope s.heap.objs.size f cd).kindOf (ps.zip us) fun _=>none) s1):
 Inv (AK CX P w K mg base N qual scope f cd A outer s H E) [] (start N vs) H s1:=by
 have hpl:ps.length≤N.length:=by have:=congrArg List.length S.pre;rw [List.length_take] at this;omega
 obtain ⟨h1,tk,rfl,hk⟩:=x.done
 have noA:∀b:Addr,b∉(AK CX P w K mg base N qual scope f cd A outer s H E).ex:=fun b z=>absurd (show b∈([]:List Addr) from z) (by simp)
 refine ⟨⟨e0.mod,S.kind,rfl,rfl,AJ _,fun y z c h1 h2=>?_,fun y hy=>?_,fun y c _ h=>?_,fun _=>hd,Around.frames_deeper e0.frames,.inr ⟨rfl,rfl⟩,fun b z=>absurd z (noA b),e0.bs,e0.bsz,fun b _ _=>noA b,fun b z=>absurd z (noA b),e0.funs,e0.frf⟩,
  rfl,e0.bare,Un.kept hk,⟨_,x.toInCall.ns,fun i y v h1 h2 h3=>?_⟩,fun y c h=>⟨_,x.cell y c h⟩,e0.hok.fresh (AJ _),fun y c h=>?_,fun p hp=>absurd (show p∈([]:List (Addr×Obj)) from hp) (by simp),e0.hok.kept hk,?_⟩
 ·exact name_of_addr x.apart (PySem.mem_of_lookup h1) (PySem.mem_of_lookup h2)
 ·have hy:scope.names.lookup y=some .cell∨scope.names.lookup y=some .free:=hy
  rcases hy with hy |hy
  ·exact Mn hy
  ·exact absurd rfl (S.nofree _ (PySem.mem_of_lookup hy))
 ·exact Nat.le_of_lt (x.above y c (PySem.mem_of_lookup h))
 ·have hi:i<vs.length:=by
   unfold start at h2
   by_cases hi:i<vs.length
   ·exact hi
   ·rw [Ih (by simpa using hi)] at h2
    rw [List.getElem?_replicate] at h2
    split at h2<;>cases h2
  have ha:vs[i]?=some v:=by
   unfold start at h2
   rw [E7 (by simpa using hi),Dc] at h2
   cases e:vs[i]? with
   |none=>rw [e] at h2;cases h2
   |some a=>rw [e] at h2;cases h2;rfl
  obtain ⟨u,hu,rv⟩:=r.get ha
  have hp:ps[i]?=some y:=by
   rw [←S.pre,List.getElem?_take_of_lt (by omega)];exact h1
  have ndP:ps.Nodup:=by rw [←S.pre];exact S.nd.sublist (List.take_sublist _ _)
  refine ⟨u,rv,?_⟩
  rcases S.par y (F5 hp) with k |k
  ·exact .inl ⟨k,Ml ndP hp hu k⟩
  ·obtain ⟨c,e⟩:=Mn (n:=s.heap.objs.size+1) k
   refine .inr ⟨.inl k,c,e,?_⟩
   have q:=x.cell y c e
   rw [Mm ndP hp hu (by show scope.names.lookup y≠_;rw [k];decide)] at q
   exact q
 ·exact e0.hok.fresh (Nat.le_of_lt (x.above y c (PySem.mem_of_lookup h)))
 ·unfold start
  show _=N.length
  rw [DR,Cp,List.length_replicate]
  omega
theorem RT {CX:Dy} {P:Program} {w:World} {K:PySem.W.Frag} {mg:Str→Option Value} {base:Heap} {k:Nat} {f:Addr} {name qual:Str} {params:Arguments} {body:List Stmt} {scope:Scope} {dV kV doc pm cdv ct oc:Value} {an od:Option Addr}
 {osl:Array (Option Value)} {N ps:List Str} {sp:Sp} (lk:K.lookup f=some ⟨oc,od,.func (PySem.W.fnOf name qual params body scope dV kV doc pm an cdv ct),osl⟩) (hcd:PySem.W.codeIn K cdv qual=true) (S:A1 N ps scope)
 (len:∀vs H Q E,sp vs H Q E→vs.length=ps.length)
 (hbody:∀(A:Around) (outer:List Env) (s:Shared) (H:Hp) (vs:List V) (Q:VK) (E:XK),Room k (A.deeper (envOfC qual scope s.heap.objs.size f cdv))→sp vs H Q E→
  ∃t,Dv (AK CX P w K mg base N qual scope f cdv A outer s H E) body t∧t {nx:=fun _ H'=>Q .non H',rt:=Q} (start N vs) H):
 FnOk P w K mg base CX (k+1) f (PySem.W.fnOf name qual params body scope dV kV doc pm an cdv ct) ps sp:=by
 refine ⟨len,fun A outer s H args us vs Q E hr e0 hb r hsp=>?_⟩
 have hl:=len _ _ _ _ hsp
 have KX:K.In s.heap:=e0.mod.kin.keeps fun b o e=>(e0.bs b o e).1
 have lim:s.heap.NoLimit:=e0.mod.nolimit.keeps fun b o e=>(e0.bs b o e).1
 have hkind:∀y∈ps.zip us,scope.names.lookup y.1=some .local∨(scope.names.lookup y.1=some .cell∧((cellsFrom (s.heap.objs.size+1) scope.names []).lookup y.1).isSome=true):=fun z81_ hy=>by
  obtain ⟨n,v⟩:=z81_
  rcases S.par n (List.of_mem_zip hy).1 with q |q
  ·exact .inl q
  ·exact .inr ⟨q,PySem.W.cellsFrom_some _ _ _ (.inl q)⟩
 refine codeAny_call_function hr.depth (KX _ _ lk) rfl S.co S.gen rfl (PySem.W.codeRec_of KX hcd) (hb _ _ _ _ ?_)
 refine wpAny_newFunctionEnv_cells S.kind hkind fun env he s1 x=>?_
 subst he
 refine ⟨lim.keeps x.toInCall.keep,codeAny_func ?_⟩
 obtain ⟨t,ht,hq⟩:=hbody A outer s H vs Q E (hr.deeper _) hsp
 have I:Inv (AK CX P w K mg base N qual scope f cdv A outer s H E) [] (start N vs) H s1:=RS S hr.hd e0 hl r x
 refine wpAny_mono (ht [] s1 (start N vs) H _ I hq) (fun fl s' hs=>?_) fun e s' hs=>hs
 have A4:∀{σ':St} {H':Hp} {v:V} {u:Value},Inv (AK CX P w K mg base N qual scope f cdv A outer s H E) [] σ' H' s'→RelV v u→Q v H'→CE outer P w H s Q u s':=
  fun {σ' H' v u} J rv q=>⟨v,H',J.os,J.bare,J.base,J.hok,rv,q⟩
 cases fl with
 |ret u=>
  obtain ⟨v,σ',H',J,rv,q⟩:=hs
  exact A4 J rv q
 |next=>
  obtain ⟨σ',H',J,q⟩:=hs
  exact A4 (v:=V.non) (u:=Value.none) J rfl q
 |brk=>
  obtain ⟨_,_,_,q⟩:=hs
  exact False.elim q
 |cont=>
  obtain ⟨_,_,_,q⟩:=hs
  exact False.elim q
section
variable {X:Cx} {x:Str} {p pos:Pos} {e:Expr} {es:List Expr} {t:TA} {id T:String} {r:List V→Hp→VK→Prop}
def Mo (r:List V→Hp→VK→Prop) (t:TA):TE:=fun σ H Q=>t σ H fun vs H1=>r vs H1 Q
theorem RU (hc:Dw X (.builtin id) r) (hg:Gl X x) (hm:X.mg x=none) (hv:bootBuiltins x=some (.builtin id)) (ha:PA X (e::es) t) (hn:x≠"__name__":=by decide) (hdb:(x==("__debug__":Str))=false:=by decide)
 (he:starEach (e::es) X.env=(false,eval e X.env)::starEach es X.env:=by rfl) (hpl:(backTo pos (starEach es X.env)).any (·.1)=false:=by rfl):PE X (.Call (.Name x p) (e::es) [] pos) (Mo r t):=by
 intro pins s σ H Q I h
 refine wpAny_Call_Name_kw (Ge I hg hm hv ?_ hn hdb)
 exact PyProof.Rows.callWith_builtin1 (An (ha pos pins s σ H _ I h) fun us s1 z82_=>by obtain ⟨vs,H1,I1,r1,q1⟩:=z82_;exact (hc pins s1 σ H1 vs us Q I1 r1 q1)) he hpl
theorem RV (hc:Dw X (.type T) r) (hg:Gl X x) (hm:X.mg x=none) (hv:bootBuiltins x=some (.type T)) (ha:PA X (e::es) t) (hn:x≠"__name__":=by decide) (hdb:(x==("__debug__":Str))=false:=by decide)
 (he:starEach (e::es) X.env=(false,eval e X.env)::starEach es X.env:=by rfl) (hpl:(backTo pos (starEach es X.env)).any (·.1)=false:=by rfl):PE X (.Call (.Name x p) (e::es) [] pos) (Mo r t):=by
 intro pins s σ H Q I h
 refine wpAny_Call_Name_kw (Ge I hg hm hv ?_ hn hdb)
 exact PyProof.Rows.callWith_type1 (An (ha pos pins s σ H _ I h) fun us s1 z83_=>by obtain ⟨vs,H1,I1,r1,q1⟩:=z83_;exact (hc pins s1 σ H1 vs us Q I1 r1 q1)) he hpl
end
end L2
namespace HT
open PySem PyProof.Rows
section
open PySem.SeqAt
open PySem.AutoSeq1 (wpAny_loadPart')
open PySem.MeetsSeq PySem.MeetsSeq2 PySem.MeetsSeq3
end
section
variable {prog:Program} {w:World} {A:Around} {E:Value→Shared→Prop} {s:Shared}
theorem cat_tup {t b:Addr} {vs ws:List Value} {Q:Value→Shared→Prop} (ht:IsTup s.heap t vs.toArray) (hb:IsTup s.heap b ws.toArray) (hv:vs≠[])
 (h1:ws=[]→Q (.ref t) s) (h2:ws≠[]→Q (.ref s.heap.objs.size) {s with heap:=s.heap.push {cls:=.type "tuple",data:=.seq (vs++ws).toArray}})
 (hsz:vs.length+ws.length≤sizeLine):wpAny (model prog w) A (binaryOp .Add (.ref t) (.ref b)) Q E s:=by
 obtain ⟨⟨cls,dd,data,sl⟩,ho,hc,n,hd⟩:=id ht
 obtain ⟨⟨cls2,dd2,data2,sl2⟩,ho2,hc2,n2,hd2⟩:=id hb
 simp only at hc hd hc2 hd2
 subst hc hd hc2 hd2
 have e:vs.toArray++ws.toArray=(vs++ws).toArray:=by simp
 by_cases hw:ws=[]
 ·exact concat_meets ⟨_,ho,rfl⟩ ⟨_,ho2,rfl⟩ noFill_tuple_add seq_tuple_add PySem.F.slot_tuple_add PySem.F.entry_tuple_add (PySem.F.args_tuple_add_2 _ _)
   (tuple_addW1 t b vs.toArray ws.toArray n n2 dd dd2 sl sl2 (by simpa using hv) (by simp [hw])) ⟨ho,ho2,h1 hw⟩
 ·refine concat_meets ⟨_,ho,rfl⟩ ⟨_,ho2,rfl⟩ noFill_tuple_add seq_tuple_add PySem.F.slot_tuple_add PySem.F.entry_tuple_add (PySem.F.args_tuple_add_2 _ _)
   (tuple_addW2 t b vs.toArray ws.toArray n n2 dd dd2 sl sl2 (by simpa using hv) (by simpa using hw) (by rw [A7,A7];exact hsz)) ⟨ho,ho2,?_⟩
  rw [e]
  exact h2 hw
def sIx (n d:Nat):Option Int→Nat
 |none=>d
 |some v=>if v<0 then (v+(n:Int)).toNat else min v.toNat n
theorem sIx_none (n d:Nat):sIx n d none=d:=rfl
theorem sIx_nat (n d k:Nat):sIx n d (some (k:Int))=min k n:=by
 show (if (k:Int)<0 then ((k:Int)+(n:Int)).toNat else min (k:Int).toNat n)=min k n
 rw [if_neg (by omega),GY]
theorem RW (n d:Nat) (hd:d≤n) (o:Option Int):sIx n d o≤n:=by
 cases o with
 |none=>exact hd
 |some v=>
  show (if v<0 then (v+(n:Int)).toNat else min v.toNat n)≤n
  by_cases hv:v<0
  ·rw [if_pos hv];omega
  ·rw [if_neg hv];exact Nat.min_le_right _ _
theorem Mp (v:Int) (n d:Nat):(if v<0 then max (v+(n:Int)) 0 else min v (n:Int))=((sIx n d (some v):Nat):Int):=by
 show (if v<0 then max (v+(n:Int)) 0 else min v (n:Int))=(((if v<0 then (v+(n:Int)).toNat else min v.toNat n):Nat):Int)
 by_cases hv:v<0
 ·simp only [if_pos hv];omega
 ·simp only [if_neg hv];omega
theorem RX (lo hi:Option Int) (n:Nat):Builtin.Slice.sliceAdjust lo hi 1 (n:Int)=(((sIx n 0 lo:Nat):Int),((sIx n n hi:Nat):Int)):=by
 have h1:¬((1:Int)<0):=by omega
 unfold Builtin.Slice.sliceAdjust
 simp only [h1,if_false]
 refine Prod.ext ?_ ?_
 ·cases lo with
  |none=>rfl
  |some v=>exact Mp v n 0
 ·cases hi with
  |none=>rfl
  |some v=>exact Mp v n n
theorem RY (i j:Nat):Builtin.Slice.slicePlaces (i:Int) (j:Int) 1=j - i:=by
 unfold Builtin.Slice.slicePlaces
 have h1:(1:Int)>0:=by omega
 simp only [h1,if_true,Int.ediv_one]
 split<;>omega
theorem Mq {v:Value} {o:Option Int} {Q:Option Int→Shared→Prop} (p:IsPart v o) (h:Q o s):wpAny (model prog w) A (Builtin.Slice.slicePartIndex v) Q E s:=by
 cases p with
 |none=>exact slicePart_none h
 |int i t=>exact slicePart_int h
theorem sliceApplied_gen {sl:Addr} {vl vu:Value} {lo hi:Option Int} {n:Nat} {Q:Int×Int×Nat→Shared→Prop} (hs:s.heap.IsSliceOf sl vl vu .none) (pl:IsPart vl lo) (pu:IsPart vu hi)
 (h:Q (((sIx n 0 lo:Nat):Int),1,sIx n n hi - sIx n 0 lo) s):wpAny (model prog w) A (Builtin.Slice.sliceApplied (.ref sl) (pure (n:Int))) Q E s:=by
 obtain ⟨os,hos,hcs,hds⟩:=id hs
 unfold Builtin.Slice.sliceApplied Builtin.Slice.sliceFields
 refine wpAny_bind (wpAny_bind (wpAny_field hos hds (x:=vl) rfl (wpAny_bind (wpAny_field hos hds (x:=vu) rfl (wpAny_bind (wpAny_field hos hds (x:=.none) rfl (wpAny_pure ?_)))))))
 refine wpAny_bind (slicePart_none ?_)
 show wpAny _ _ (if ((1:Int)==0)=true then _ else _) _ _ s
 rw [if_neg (by decide)]
 refine wpAny_bind (Mq pl (wpAny_bind (Mq pu (wpAny_bind (wpAny_pure ?_)))))
 show wpAny _ _ (match Builtin.Slice.sliceAdjust lo hi 1 (n:Int) with |(lo,hi)=>pure (lo,(1:Int),Builtin.Slice.slicePlaces lo hi 1)) _ _ s
 rw [RX lo hi n]
 show wpAny _ _ (pure (((sIx n 0 lo:Nat):Int),(1:Int),Builtin.Slice.slicePlaces ((sIx n 0 lo:Nat):Int) ((sIx n n hi:Nat):Int) 1)) _ _ s
 rw [RY]
 exact wpAny_pure h
theorem RZ (xs:Array Value) (i k:Nat):((List.range k).filterMap fun (m:Nat)=>xs[((i:Int)+(m:Int)*1).toNat]?).toArray=((xs.toList.drop i).take k).toArray:=by
 have e:(fun (m:Nat)=>xs[((i:Int)+(m:Int)*1).toNat]?)=fun m=>xs[i+m]?:=by
  funext m
  have:((i:Int)+(m:Int)*1).toNat=i+m:=by omega
  rw [this]
 rw [e]
 have:=pick_run xs i k
 rw [List.filterMap_map] at this
 have e2:((fun x=>xs[x]?)∘fun x=>i+x)=fun m=>xs[i+m]?:=rfl
 rw [e2] at this
 rw [this]
theorem getItem_tuple_cut {t sl:Addr} {items:Array Value} {vl vu:Value} {lo hi:Option Int} {Q:Value→Shared→Prop} (ht:IsTup s.heap t items) (hs:s.heap.IsSliceOf sl vl vu .none) (pl:IsPart vl lo) (pu:IsPart vu hi)
 (hw:¬(sIx items.size 0 lo=0∧sIx items.size items.size hi=items.size))
 (h:Q (.ref s.heap.objs.size) {s with heap:=s.heap.push {cls:=.type "tuple",data:=.seq ((items.toList.drop (sIx items.size 0 lo)).take (sIx items.size items.size hi - sIx items.size 0 lo)).toArray}})
 (hsz:items.size≤sizeLine):wpAny (model prog w) A (getItem (.ref t) (.ref sl)) Q E s:=by
 have htake:sizeOk (.seq ((items.toList.drop (sIx items.size 0 lo)).take (sIx items.size items.size hi - sIx items.size 0 lo)).toArray):=by
  show ((items.toList.drop (sIx items.size 0 lo)).take (sIx items.size items.size hi - sIx items.size 0 lo)).toArray.size≤sizeLine
  rw [A7,List.length_take,List.length_drop,Array.length_toList]
  omega
 have hj:sIx items.size items.size hi≤items.size:=RW _ _ (AJ _) hi
 obtain ⟨os,hos,hcs,hds⟩:=id hs
 have hTs:s.TypeIs (.ref sl) "slice":=⟨os,hos,hcs⟩
 unfold getItem
 try with_reducible refine wpAny_holding ?_
 first |refine wpAny_bind (wpAny_pure ?_) |skip
 refine wpAny_bind (wpAny_sequenceKey ht.typeIs (by decide) ?_)
 refine wpAny_bind (wpAny_callSpecial?_slot (name:=Str.ofString "__getitem__") ht.typeIs PyProof.Rows.slot_tuple_getitem
  (wpAny_call_entry PyProof.Rows.slot_tuple_getitem ht.typeIs entry_tuple_getitem ?_ (args_tuple_getitem _ _)))
 show wpAny _ _ (Builtin.Tuple.tupleItemsOf (.ref t) >>=_) _ _ s
 refine wpAny_bind (tupleItemsOf_ ht ?_)
 refine wpAny_bind (wpAny_typeOf hTs ?_)
 rw [if_pos (by decide)]
 refine wpAny_bind (sliceApplied_gen hs pl pu ?_)
 have hno:¬((((sIx items.size 0 lo:Nat):Int)==0&&(1:Int)==1&&(sIx items.size items.size hi - sIx items.size 0 lo)==items.size)=true):=by
  intro q
  rw [Du,Du] at q
  have q1:((sIx items.size 0 lo:Nat):Int)=0:=eq_of_beq q.1.1
  have q2:sIx items.size items.size hi - sIx items.size 0 lo=items.size:=eq_of_beq q.2
  exact hw ⟨by omega,by omega⟩
 show wpAny _ _ (if (((sIx items.size 0 lo:Nat):Int)==0&&(1:Int)==1&&(sIx items.size items.size hi - sIx items.size 0 lo)==items.size)=true then _ else _) _ _ s
 rw [if_neg hno,RZ]
 first
  |exact wpAny_bind (m:=Builtin.Tuple.tupleExact _) (wpAny_newObj_type (wpAny_pure ⟨_,rfl,wpAny_pure h⟩) htake)
  |exact wpAny_bind (m:=Builtin.Tuple.tupleExact _) (wpAny_newObj_type (wpAny_bind (wpAny_pure (wpAny_pure ⟨_,rfl,wpAny_pure h⟩))) htake)
  |exact wpAny_bind (wpAny_bind (m:=Builtin.Tuple.tupleExact _) (wpAny_newObj_type (wpAny_pure (wpAny_pure ⟨_,rfl,wpAny_pure h⟩)) htake))
  |exact wpAny_bind (wpAny_bind (m:=Builtin.Tuple.tupleExact _) (wpAny_newObj_type (wpAny_pure ⟨_,rfl,wpAny_pure h⟩) htake))
end
end HT
namespace L2
open PySem PySem.Spec PyProof.Rows
abbrev TO:=St→Hp→(Option Int→Hp→Prop)→Prop
def PO (X:Cx) (e:Option Expr) (t:TO):Prop:=
 ∀(pins:List (Addr×Obj)) (s:Shared) (σ:St) (H:Hp) (Q:Option Int→Hp→Prop),Inv X pins σ H s→t σ H Q→
  wpAny (model X.prog X.w) X.A (evalPart e X.env) (fun u s'=>∃o H',Inv X pins σ H' s'∧IsPart u o∧Q o H') X.xe s
def R0:TO:=fun _ H Q=>Q none H
def R1 (t:TE):TO:=fun σ H Q=>t σ H fun x H1=>∃i,x=.int i∧Q (some i) H1
section
variable {X:Cx} {e:Expr} {te:TE} {lo hi:Option Expr} {tl th:TO} {pos p2:Pos}
theorem R3:PO X none R0:=by
 intro pins s σ H Q I h
 rw [evalPart_none]
 exact wpAny_pure ⟨none,H,I,.none,h⟩
theorem R4 (h:PE X e te):PO X (some e) (R1 te):=by
 intro pins s σ H Q I hw
 rw [evalPart_some]
 refine An (h pins s σ H _ I hw) fun u s1 z84_=>?_
 obtain ⟨x,H1,I1,r1,q1⟩:=z84_
 obtain ⟨i,rfl,q⟩:=q1
 obtain ⟨t,rfl⟩:=r1
 exact ⟨some i,H1,I1,.int i t,q⟩
def SlR (X:Cx) (r:V→Option Int→Option Int→Hp→VK→Prop):Prop:=
 ∀(pins:List (Addr×Obj)) (s:Shared) (σ:St) (H:Hp) (x:V) (v vl vu:Value) (lo hi:Option Int) (sl:Addr) (Q:VK),Inv X pins σ H s→RelV x v→s.heap.IsSliceOf sl vl vu .none→IsPart vl lo→IsPart vu hi→r x lo hi H Q→
  ∃T id,typeLookup (.type T) "__getitem__"=pure (some (.builtin id))∧s.TypeIs v T∧wpAny (model X.prog X.w) X.A (getItem v (.ref sl)) (EP X pins σ Q) X.xe s
theorem SlR.or {r r':V→Option Int→Option Int→Hp→VK→Prop} (h:SlR X r) (h':SlR X r'):SlR X (fun x lo hi H Q=>r x lo hi H Q∨r' x lo hi H Q):=by
 intro pins s σ H x v vl vu lo hi sl Q I rx hs pl pu q
 rcases q with q |q
 ·exact h pins s σ H x v vl vu lo hi sl Q I rx hs pl pu q
 ·exact h' pins s σ H x v vl vu lo hi sl Q I rx hs pl pu q
def R5 (r:V→Option Int→Option Int→Hp→VK→Prop) (te:TE) (tl th:TO):TE:=fun σ H Q=>te σ H fun x H1=>tl σ H1 fun l H2=>th σ H2 fun u H3=>r x l u H3 Q
theorem R6 {r:V→Option Int→Option Int→Hp→VK→Prop} (hr:SlR X r) (he:PE X e te) (hl:PO X lo tl) (hu:PO X hi th):PE X (.Subscript e (.Slice lo hi none p2) pos) (R5 r te tl th):=by
 intro pins s σ H Q I h
 refine Subscript_ (An (he pins s σ H _ I h) fun v s1 z85_=>?_)
 obtain ⟨x,H1,I1,r1,q1⟩:=z85_
 refine wpAny_Slice (An (hl pins s1 σ H1 _ I1 q1) ?_)
 rintro vl s2 ⟨l,H2,I2,pl,q2⟩
 refine An (hu pins s2 σ H2 _ I2 q2) fun vu s3 z87_=>?_
 obtain ⟨u,H3,I3,pu,q3⟩:=z87_
 rw [evalPart_none]
 refine wpAny_pure ?_
 have I4:Inv X pins σ H3 {s3 with heap:=s3.heap.push {cls:=.type "slice",data:=.fields #[vl,vu,.none]}}:=I3.kept (t':=s3.toks) fun b ob q=>Bn _ q
 obtain ⟨T,id,hT,ht,hg⟩:=hr pins {s3 with heap:=s3.heap.push {cls:=.type "slice",data:=.fields #[vl,vu,.none]}} σ H3 x v vl vu l u s3.heap.objs.size Q I4 r1 (Heap.IsSliceOf.new ..) pl pu q3
 show wpAny (model X.prog X.w) X.A (subscriptTail e (.Slice lo hi none p2) v (.ref s3.heap.objs.size)) (EP X pins σ Q) X.xe {s3 with heap:=s3.heap.push {cls:=.type "slice",data:=.fields #[vl,vu,.none]}}
 exact tail_any (ops:=[.ref s3.heap.objs.size,v]) ht hT hg (by with_unfolding_all rfl)
def Gj (xs:List V) (lo hi:Option Int):List V:=(xs.drop (HT.sIx xs.length 0 lo)).take (HT.sIx xs.length xs.length hi - HT.sIx xs.length 0 lo)
theorem R7 (xs:List V) (lo hi:Option Int):(Gj xs lo hi).length≤xs.length:=by
 unfold Gj
 rw [List.length_take,List.length_drop]
 omega
def R8 (K:PySem.W.Frag):V→Option Int→Option Int→Hp→VK→Prop:=fun x lo hi H Q=>∃a xs,x=.ref a∧SqT K H a xs∧
 ¬(HT.sIx xs.length 0 lo=0∧HT.sIx xs.length xs.length hi=xs.length)∧∀p,H p=none→Q (.ref p) (Am H p (.tup (Gj xs lo hi)))
theorem R9:SlR X (R8 X.K):=by
 intro pins s σ H x v vl vu lo hi sl Q I rx hs pl pu h
 obtain ⟨a,xs,rfl,hx,hw,q⟩:=h
 cases rx
 obtain ⟨its,r,ht,hz⟩:=I.tuple hx
 have hlen:its.toArray.size=xs.length:=by rw [A7];exact r.length.symm
 refine ⟨"tuple",_,PyProof.Rows.slot_tuple_getitem.lookup,ht.typeIs,?_⟩
 refine HT.getItem_tuple_cut ht hs pl pu (by rw [hlen];exact hw) ?_ (by rw [hlen];exact hz)
 rw [hlen]
 refine ⟨.ref s.heap.objs.size,_,I.laid (t':=s.toks) (o:=.tup (Gj xs lo hi)) (fun b ob q=>Bn _ q) (AJ _) ?_,rfl,q _ (I.hok.fresh (AJ _))⟩
 exact ⟨BU (R7 xs lo hi) hz,_,(r.drop (HT.sIx xs.length 0 lo)).take (HT.sIx xs.length xs.length hi - HT.sIx xs.length 0 lo),IsTup.new _ _,NoDict.new⟩
def Sa (K:PySem.W.Frag):R2:=fun x y H Q=>∃a b xs ys,x=.ref a∧y=.ref b∧SqT K H a xs∧SqT K H b ys∧xs≠[]∧xs.length+ys.length≤sizeLine∧
 (ys=[]→Q (.ref a) H)∧(ys≠[]→∀p,H p=none→Q (.ref p) (Am H p (.tup (xs++ys))))
theorem Vals.nil_iff {xs:List V} {us:List Value} (r:Vals xs us):us=[]↔xs=[]:=by
 cases r with
 |nil=>simp
 |cons _ _=>simp
theorem op_catT:OpR X (binaryOp .Add) (Sa X.K):=by
 intro pins s σ H x y v u Q I rx ry h
 obtain ⟨a,b,xs,ys,rfl,rfl,ha,hb,hx,hz,q1,q2⟩:=h
 cases rx
 cases ry
 obtain ⟨its,r1,p1,_⟩:=I.tuple ha
 obtain ⟨its2,r2,p2,_⟩:=I.tuple hb
 refine HT.cat_tup p1 p2 (fun z=>hx (r1.nil_iff.mp z)) (fun z=>⟨.ref a,H,I,rfl,q1 (r2.nil_iff.mp z)⟩) (fun z=>?_) (by rw [←r1.length,←r2.length];exact hz)
 refine ⟨.ref s.heap.objs.size,_,I.laid (t':=s.toks) (o:=.tup (xs++ys)) (fun b ob q=>Bn _ q) (AJ _) ?_,rfl,q2 (fun w=>z (r2.nil_iff.mpr w)) _ (I.hok.fresh (AJ _))⟩
 exact ⟨by rw [DR];exact hz,_,r1.append r2,IsTup.new _ _,NoDict.new⟩
end
def Dg (n:Nat) (i:Int):Option Nat:=if 0≤i then (if i<n then some i.toNat else none) else if -(n:Int)≤i then some (i+n).toNat else none
def Cs {α:Type} (xs:List α) (i:Int):Option α:=(Dg xs.length i).bind fun j=>xs[j]?
theorem Mr {n:Nat} {i:Int} {j:Nat} (h:Dg n i=some j):seqIndex? i n=some j∧j<n∧-(n:Int)≤i∧i<n:=by
 unfold Dg at h
 by_cases h0:0≤i
 ·rw [if_pos h0] at h
  by_cases h1:i<n
  ·rw [if_pos h1] at h
   have e:i.toNat=j:=Option.some.inj h
   exact ⟨by rw [seqIndex_of h0 h1,e],by omega,by omega,h1⟩
  ·rw [if_neg h1] at h;cases h
 ·rw [if_neg h0] at h
  by_cases h1:-(n:Int)≤i
  ·rw [if_pos h1] at h
   have e:(i+n).toNat=j:=Option.some.inj h
   exact ⟨by rw [seqIndex_neg (by omega) h1,e],by omega,h1,by omega⟩
  ·rw [if_neg h1] at h;cases h
theorem Ms {α:Type} {xs:List α} {i:Int} {v:α} (h:Cs xs i=some v):∃j,seqIndex? i xs.length=some j∧xs[j]?=some v∧j<xs.length∧-(xs.length:Int)≤i∧i<xs.length:=by
 unfold Cs at h
 cases e:Dg xs.length i with
 |none=>rw [e] at h;cases h
 |some j=>
  rw [e] at h
  obtain ⟨h1,h2,h3,h4⟩:=Mr e
  exact ⟨j,h1,h,h2,h3,h4⟩
def Mt (b:Expr):Prop:=∀o i,subscripted b false o i=operate [o,i] (getItem o i)
def IxR (X:Cx) (r:R2):Prop:=
 ∀(value slice:Expr) (pins:List (Addr×Obj)) (s:Shared) (σ:St) (H:Hp) (x y:V) (v u:Value) (Q:VK),Inv X pins σ H s→RelV x v→RelV y u→r x y H Q→
  subscripted slice false v u=operate [v,u] (getItem v u)→wpAny (model X.prog X.w) X.A (subscriptTail value slice v u) (EP X pins σ Q) X.xe s
def Sb (X:Cx) (id:String) (r:V→List V→Hp→VK→Prop):Prop:=
 ∀(pins:List (Addr×Obj)) (s:Shared) (σ:St) (H:Hp) (x:V) (xs:List V) (v:Value) (us:List Value) (Q:VK),Inv X pins σ H s→RelV x v→Vals xs us→r x xs H Q→
  wpAny (model X.prog X.w) X.A (call (.builtin id) (v::us)) (EP X pins σ Q) X.xe s
section
variable {X:Cx} {a b:Expr} {ta tb:TE} {pos:Pos}
theorem IxR.or {r r':R2} (h:IxR X r) (h':IxR X r'):IxR X (fun x y H Q=>r x y H Q∨r' x y H Q):=by
 intro value slice pins s σ H x y v u Q I rx ry q hs
 rcases q with q |q
 ·exact h value slice pins s σ H x y v u Q I rx ry q hs
 ·exact h' value slice pins s σ H x y v u Q I rx ry q hs
theorem Sd {r:R2} (hr:IxR X r) (ha:PE X a ta) (hb:PE X b tb) (hs:Mt b):PE X (.Subscript a b pos) (IB r ta tb):=by
 intro pins s σ H Q I h
 exact Subscript_ (JZ ha hb I h fun v u s2 x y H2 I2 rx ry q=>hr a b pins s2 σ H2 x y v u Q I2 rx ry q (hs _ _))
def Se (K:PySem.W.Frag):R2:=fun x y H Q=>∃p xs i v,x=.ref p∧y=.int i∧SqL K H p xs∧Cs xs i=some v∧Q v H
def Sf (K:PySem.W.Frag):R2:=fun x y H Q=>∃p xs i v,x=.ref p∧y=.int i∧SqT K H p xs∧Cs xs i=some v∧Q v H
theorem ix_list:IxR X (Se X.K):=by
 intro value slice pins s σ H x y v u Q I rx ry h hs
 obtain ⟨p,xs,i,z,rfl,rfl,hq,he,q⟩:=h
 cases rx
 obtain ⟨t,rfl⟩:=ry
 obtain ⟨its,r,pl,hz⟩:=I.list hq
 obtain ⟨j,h1,h2,h3,h4,h5⟩:=Ms he
 obtain ⟨w,ew,rw'⟩:=r.get h2
 have hl:=r.length
 have hn:=G7
 have A4:EP X pins σ Q w s:=⟨z,H,I,rw',q⟩
 by_cases h0:0≤i
 ·have hj:i.toNat=j:=by
   rw [seqIndex_of h0 h5] at h1
   exact Option.some.inj h1
  exact item_listR pl.isList h0 (by omega) (by rw [hj];simpa using ew) A4 hs
 ·have hj:(i+(its.toArray.size:Int)).toNat=j:=by
   rw [seqIndex_neg (by omega) h4] at h1
   rw [A7,←hl]
   exact Option.some.inj h1
  exact subscriptTail_builtinR (x:=w) pl.isList.typeIs slot_list_getitem.lookup
   (wpAny_getItem_list_neg (Q:=fun r s'=>r=w∧EP X pins σ Q r s') pl.isList (by omega) (by rw [A7]<;>omega) (by omega) (by rw [hj];simpa using ew) ⟨rfl,A4⟩) hs
theorem ix_tup:IxR X (Sf X.K):=by
 intro value slice pins s σ H x y v u Q I rx ry h hs
 obtain ⟨p,xs,i,z,rfl,rfl,hq,he,q⟩:=h
 cases rx
 obtain ⟨t,rfl⟩:=ry
 obtain ⟨its,r,pl,hz⟩:=I.tuple hq
 obtain ⟨j,h1,h2,h3,h4,h5⟩:=Ms he
 obtain ⟨w,ew,rw'⟩:=r.get h2
 have hl:=r.length
 have hn:=G7
 have A4:EP X pins σ Q w s:=⟨z,H,I,rw',q⟩
 exact subscriptTail_builtinR (x:=w) pl.typeIs slot_tuple_getitem.lookup
  (getItem_tuple (j:=j) (Q:=fun r s'=>r=w∧EP X pins σ Q r s') pl (by omega) (by omega) (by rw [A7,←hl];exact h1) (by simpa using ew) ⟨rfl,A4⟩) hs
theorem Sg (its:List Value) (n j:Nat) (u:Value):Obj.mapSeq (·.setIfInBounds j u) {cls:=.type "list",data:=.seq its.toArray n}={cls:=.type "list",data:=.seq (its.set j u).toArray n}:=by
 simp [Obj.mapSeq]
theorem Inv.lst {pins:List (Addr×Obj)} {σ:St} {H:Hp} {s:Shared} {p:Addr} {xs:List V} (I:Inv X pins σ H s) (h:H p=some (.lst xs)):
 ∃(its:List Value) (n:Nat),Vals xs its∧s.heap.get? p=some {cls:=.type "list",data:=.seq its.toArray n}∧xs.length≤sizeLine:=by
 obtain ⟨z,its,n,r,e⟩:=I.hok p _ h
 exact ⟨its,n,r,e,z⟩
theorem Inv.lstUpd {pins:List (Addr×Obj)} {σ:St} {H:Hp} {s:Shared} {p:Addr} {xs ys:List V} {its its':List Value} {n n':Nat} {f:Obj→Obj} (I:Inv X pins σ H s) (h:H p=some (.lst xs))
 (ho:s.heap.get? p=some {cls:=.type "list",data:=.seq its.toArray n}) (hf:f {cls:=.type "list",data:=.seq its.toArray n}={cls:=.type "list",data:=.seq its'.toArray n'}) (r:Vals ys its') (hz:ys.length≤sizeLine) (t:Nat):
 Inv X pins σ (Am H p (.lst ys)) {s with heap:=s.heap.update p f,toks:=t}:=by
 have e:(s.heap.update p f).get? p=some {cls:=.type "list",data:=.seq its'.toArray n'}:=by
  rw [Ij f ho (by rw [hf]<;>rfl),hf]
 refine I.write (x:=p) (e:=p) (by rw [h];trivial) (.inl rfl) (fun b u hb q=>(JQ _ _ (Ne.symm hb)).trans q) ⟨_,e⟩ ?_
 exact ⟨hz,its',n',r,e⟩
def Sh:V→V→V→Hp→(Hp→Prop)→Prop:=fun o i v H Q=>∃p xs k j,o=.ref p∧i=.int k∧H p=some (.lst xs)∧Dg xs.length k=some j∧Q (Am H p (.lst (xs.set j v)))
theorem Si:JU X Sh:=by
 intro pins s σ H o i v ov iv u Q I ro ri rv h
 obtain ⟨p,xs,k,j,rfl,rfl,hp,hj,q⟩:=h
 cases ro
 obtain ⟨t,rfl⟩:=ri
 obtain ⟨its,n,r,ho,hz⟩:=I.lst hp
 obtain ⟨h1,h2,h3,h4⟩:=Mr hj
 have hl:=r.length
 have hn:=G7
 have I':Inv X pins σ (Am H p (.lst (xs.set j v))) {s with heap:=s.heap.update p (Obj.mapSeq (·.setIfInBounds j u))}:=
  I.lstUpd hp ho (Sg its n j u) (r.set rv j) (by rw [List.length_set];exact hz) s.toks
 by_cases h0:0≤k
 ·have hk:k.toNat=j:=by
   rw [seqIndex_of h0 h4] at h1
   exact Option.some.inj h1
  exact PySem.W.ki_setAt ho h0 (by omega) (by rw [A7,←hl];exact h4) (by rw [hk];exact ⟨_,I',q⟩)
 ·have hk:(k+(its.toArray.size:Int)).toNat=j:=by
   rw [seqIndex_neg (by omega) h3] at h1
   rw [A7,←hl]
   exact Option.some.inj h1
  exact PySem.W.ki_setBack ho (by omega) (by rw [A7,←hl];exact h3) (by omega) (by rw [hk];exact ⟨_,I',q⟩)
def DW:V→Bool
 |.non=>true
 |.bl _=>true
 |.int _=>true
 |.str _=>true
 |_=>false
def DX:V→V→Bool
 |.non,.non=>true
 |.bl a,.bl b=>a==b
 |.bl a,.int b=>(if a then 1 else 0)==b
 |.int a,.bl b=>a==(if b then 1 else 0)
 |.int a,.int b=>a==b
 |.str a,.str b=>a==b
 |_,_=>false
theorem Sj {A:Around} {s:Shared} {y x:V} {u v:Value} (ry:RelV y u) (rx:RelV x v) (fy:DW y=true) (fx:DW x=true):SeqAt.EqAt A s u v (DX y x):=by
 cases y with
 |non=>
  cases ry
  cases x with
  |non=>cases rx;exact SeqAt.EqAt.same _
  |bl b=>cases rx;exact SeqAt.EqAt.none_bool b
  |int b=>obtain ⟨t,rfl⟩:=rx;exact SeqAt.EqAt.none_int b t
  |str b=>obtain ⟨t,rfl⟩:=rx;exact SeqAt.EqAt.none_str b t
  |_=>exact absurd (show false=true from fx) Bi
 |bl a=>
  cases ry
  cases x with
  |non=>cases rx;exact SeqAt.EqAt.bool_none a
  |bl b=>cases rx;exact SeqAt.EqAt.bool_bool a b
  |int b=>obtain ⟨t,rfl⟩:=rx;exact SeqAt.EqAt.bool_int a b t
  |str b=>obtain ⟨t,rfl⟩:=rx;exact SeqAt.EqAt.bool_str a b t
  |_=>exact absurd (show false=true from fx) Bi
 |int a=>
  obtain ⟨t',rfl⟩:=ry
  cases x with
  |non=>cases rx;exact SeqAt.EqAt.int_none a t'
  |bl b=>cases rx;exact SeqAt.EqAt.int_bool a t' b
  |int b=>obtain ⟨t,rfl⟩:=rx;exact SeqAt.EqAt.int_int a t' b t
  |str b=>obtain ⟨t,rfl⟩:=rx;exact SeqAt.EqAt.int_str a t' b t
  |_=>exact absurd (show false=true from fx) Bi
 |str a=>
  obtain ⟨t',rfl⟩:=ry
  cases x with
  |non=>cases rx;exact SeqAt.EqAt.str_none a t'
  |bl b=>cases rx;exact SeqAt.EqAt.str_bool a t' b
  |int b=>obtain ⟨t,rfl⟩:=rx;exact SeqAt.EqAt.str_int a t' b t
  |str b=>obtain ⟨t,rfl⟩:=rx;exact SeqAt.EqAt.str_str a t' b t
  |_=>exact absurd (show false=true from fx) Bi
 |_=>exact absurd (show false=true from fy) Bi
def Ek (x:V) (u:Value):Bool:=match u with
 |.none=>DX .non x
 |.bool b=>DX (.bl b) x
 |.int i _=>DX (.int i) x
 |.str z _=>DX (.str z) x
 |_=>false
theorem Mu {x y:V} {u:Value} (r:RelV y u) (f:DW y=true):Ek x u=DX y x:=by
 cases y with
 |non=>cases r;rfl
 |bl b=>cases r;rfl
 |int i=>obtain ⟨t,rfl⟩:=r;rfl
 |str z=>obtain ⟨t,rfl⟩:=r;rfl
 |_=>exact absurd (show false=true from f) Bi
theorem J2 {x:V}:∀{xs:List V} {us:List Value},Vals xs us→xs.all DW=true→us.any (Ek x)=xs.any fun y=>DX y x
 |_,_,.nil,_=>rfl
 |y::xs,u::us,.cons r t,f=>by
  rw [List.all_cons,Du] at f
  rw [List.any_cons,List.any_cons,Mu r f.1,J2 t f.2]
theorem J3 {A:Around} {s:Shared} {x:V} {v:Value} (rx:RelV x v) (fx:DW x=true):∀{xs:List V} {us:List Value},Vals xs us→xs.all DW=true→∀u∈us,SeqAt.EqAt A s u v (Ek x u)
 |_,_,.nil,_=>fun u hu=>by cases hu
 |y::xs,u::us,.cons r t,f=>fun u' hu=>by
  rw [List.all_cons,Du] at f
  rcases qa9.mp hu with rfl |hu
  ·rw [Mu r f.1];exact Sj r rx f.1 fx
  ·exact J3 rx fx t f.2 u' hu
def Gk (x:V) (xs:List V):Bool:=xs.any fun y=>DX y x
def Mv (K:PySem.W.Frag) (neg:Bool):R2:=fun x y H Q=>∃p xs,y=.ref p∧(SqL K H p xs∨SqT K H p xs)∧DW x=true∧xs.all DW=true∧Q (.bl (if neg then !Gk x xs else Gk x xs)) H
theorem Sk:OpR X (compareOp .In) (Mv X.K false):=by
 intro pins s σ H x y v u Q I rx ry h
 obtain ⟨p,xs,rfl,hq,fx,fs,q⟩:=h
 cases ry
 rcases hq with hq |hq
 ·obtain ⟨its,r,pl,hz⟩:=I.list hq
  refine SeqAt.in_listAt (Ek x) pl.isList (fun w hw=>J3 rx fx r fs w (by simpa using hw)) ⟨.bl _,H,I,rfl,?_⟩
  rw [show its.toArray.any (Ek x)=its.any (Ek x) by simp,J2 r fs]
  exact q
 ·obtain ⟨its,r,pl,hz⟩:=I.tuple hq
  refine SeqAt.in_tupleAt (Ek x) pl (fun w hw=>J3 rx fx r fs w (by simpa using hw)) ⟨.bl _,H,I,rfl,?_⟩
  rw [show its.toArray.any (Ek x)=its.any (Ek x) by simp,J2 r fs]
  exact q
theorem Sl:Dw X (.builtin "len") (fun xs H Q=>∃p ys,xs=[.ref p]∧(SqL X.K H p ys∨SqT X.K H p ys)∧Q (.int ys.length) H):=by
 intro pins s σ H xs us Q I r h
 obtain ⟨p,ys,rfl,hq,q⟩:=h
 obtain ⟨u,rfl,rx⟩:=Gh r
 cases rx
 have hn:=G7
 rcases hq with hq |hq
 ·obtain ⟨its,r',pl,hz⟩:=I.list hq
  have hlen:=r'.length
  exact Calls.call_len_list pl.isList (by simp only [A7]<;>omega) ⟨.int ys.length,H,I.tok _,⟨s.toks+1,by rw [A7,hlen]⟩,q⟩
 ·obtain ⟨its,r',pl,hz⟩:=I.tuple hq
  have hlen:=r'.length
  exact len_tuple pl (by simp only [A7]<;>omega) ⟨.int ys.length,H,I.tok _,⟨s.toks+1,by rw [A7,hlen]⟩,q⟩
theorem Sn:Dw X (.type "tuple") (fun xs H Q=>∃p ys,xs=[.ref p]∧((SqL X.K H p ys∧∀l,H l=none→Q (.ref l) (Am H l (.tup ys)))∨(SqT X.K H p ys∧Q (.ref p) H))):=by
 intro pins s σ H xs us Q I r h
 obtain ⟨p,ys,rfl,h⟩:=h
 obtain ⟨u,rfl,rx⟩:=Gh r
 cases rx
 rcases h with ⟨hq,q⟩ |⟨hq,q⟩
 ·obtain ⟨its,r',pl,hz⟩:=I.list hq
  have hlen:=r'.length
  refine call_tuple_list pl.isList (fun h' kp=>?_) (by simp only [A7]<;>omega)
  have I1:Inv X pins σ H {s with heap:=h'}:=I.kept (t':=s.toks) kp
  have I2:Inv X pins σ (Am H h'.objs.size (.tup ys)) {s with heap:=h'.push {cls:=.type "tuple",data:=.seq its.toArray}}:=
   I1.laid (t':=s.toks) (fun b o e=>Bn _ e) (AJ _) (show ObjOk X.prog X.w _ _ _ (.tup ys) from ⟨hz,its,r',IsTup.new _ _,NoDict.new⟩)
  exact ⟨.ref h'.objs.size,_,I2,rfl,q _ (I1.hok.fresh (AJ _))⟩
 ·obtain ⟨its,r',pl,hz⟩:=I.tuple hq
  exact call_tuple_same pl ⟨.ref p,H,I,rfl,q⟩
def Mw (K:PySem.W.Frag) (T:String) (x:V) (H:Hp):Prop:=match x with
 |.str _=>T="str"
 |.int _=>T="int"
 |.ref p=>(T="list"∧∃xs,SqL K H p xs)∨(T="tuple"∧∃o,K.lookup p=some o∧o.cls=.type "tuple"∧o.dict=none)
 |_=>False
theorem So {pins:List (Addr×Obj)} {σ:St} {H:Hp} {s:Shared} {T:String} {x:V} {v:Value} (I:Inv X pins σ H s) (r:RelV x v) (ty:Mw X.K T x H):
 s.TypeIs v T∧∀a,v=.ref a→∃ob,s.heap.get? a=some ob∧ob.dict=none:=by
 cases x with
 |str z=>
  obtain ⟨t,rfl⟩:=r
  cases (show T="str" from ty)
  exact ⟨typeIs_str s z t,fun _ e=>nomatch e⟩
 |int i=>
  obtain ⟨t,rfl⟩:=r
  cases (show T="int" from ty)
  exact ⟨typeIs_int s i t,fun _ e=>nomatch e⟩
 |ref p=>
  cases r
  rcases ty with ⟨rfl,xs,hq⟩ |⟨rfl,o,hk,hc,hd⟩
  ·obtain ⟨its,_,pl,_⟩:=I.list hq
   refine ⟨pl.isList.typeIs,fun a e=>?_⟩
   cases e
   obtain ⟨o,n,e,c,hd,_⟩:=pl
   exact ⟨o,e,hd⟩
  ·refine ⟨⟨o,I.kIn p o hk,hc⟩,fun a e=>?_⟩
   cases e
   exact ⟨o,I.kIn _ o hk,hd⟩
 |_=>exact False.elim ty
def Sq (K:PySem.W.Frag) (T:String) (r:V→List V→Hp→VK→Prop) (to:TE) (t:TA):TE:=fun σ H Q=>to σ H fun x H1=>Mw K T x H1∧t σ H1 fun xs H2=>r x xs H2 Q
variable {o e:Expr} {es:List Expr} {to:TE} {t:TA} {name:Str} {apos cpos:Pos} {T id:String} {r:V→List V→Hp→VK→Prop}
theorem Sr (pa:PlainAttrs T) (slot:Slot T name id) (hty:typeOf (.builtin id)=pure (.type "method_descriptor")) (hm:Sb X id r) (ho:PE X o to) (ha:PA X (e::es) t)
 (hbase:attributeBase o name X.env (eval o X.env)=eval o X.env:=by rfl)
 (hfew:((backTo cpos (starEach (e::es) X.env)).all (fun x=>!x.1)&&(backToKw cpos (keywordEach [] X.env)).all (fun x=>x.1.isSome)
  &&decide ((e::es).length+([]:List Keyword).length+(if ([]:List Keyword).isEmpty then 0 else 1)<30))=true:=by rfl)
 (hline:(apos.endLine==cpos.line)=true:=by rfl) (hs:starEach (e::es) X.env=(false,eval e X.env)::starEach es X.env:=by rfl) (hplain:(backTo cpos (starEach es X.env)).any (·.1)=false:=by rfl):
 PE X (.Call (.Attribute o name apos) (e::es) [] cpos) (Sq X.K T r to t):=by
 intro pins s σ H Q I h
 refine wpAny_Call_method_late hbase hfew hline rfl (An (ho pins s σ H _ I h) fun v s1 z89_=>?_)
 obtain ⟨x,H1,I1,r1,ty,q1⟩:=z89_
 obtain ⟨h1,h2⟩:=So I1 r1 ty
 refine ⟨T,id,pa,slot,hty,h1,h2,?_⟩
 have hA:=ha cpos pins s1 σ H1 _ I1 q1
 rw [hs] at hA ⊢
 refine Calls.callWith_builtin (by show (false||(backTo cpos (starEach es X.env)).any (·.1))=false;rw [hplain]<;>rfl) (Calls.evalArgs_plain ?_)
 exact An hA fun us s2 z90_=>by obtain ⟨vs,H2,I2,r2,q2⟩:=z90_;exact (hm pins s2 σ H2 x vs v us Q I2 r1 r2 q2)
end
def Ss (X:Cx) (id:String) (r:V→List V→Hp→VK→Prop):Prop:=
 ∀(pins:List (Addr×Obj)) (s:Shared) (σ:St) (H:Hp) (x:V) (xs:List V) (v:Value) (us:List Value) (Q:VK),Inv X pins σ H s→RelV x v→Vals xs us→r x xs H Q→
  wpAny (model X.prog X.w) X.A (call (.builtin id) (v::us)) (EP X pins σ Q) X.xe s
theorem Vals.one {x:V} {us:List Value} (h:Vals [x] us):∃u,us=[u]∧RelV x u:=by
 cases h with
 |cons r t=>cases t;exact ⟨_,rfl,r⟩
theorem Vals.reverse {xs:List V} {us:List Value} (h:Vals xs us):Vals xs.reverse us.reverse:=by
 induction h with
 |nil=>exact .nil
 |cons r t ih=>rw [List.reverse_cons,List.reverse_cons];exact Vals.append ih (.cons r .nil)
theorem Vals.rep {xs:List V} {us:List Value} (h:Vals xs us):∀k:Nat,Vals (List.replicate k xs).flatten (List.replicate k us).flatten
 |0=>.nil
 |k+1=>by
  rw [EI,EI,E8,E8]
  exact Vals.append h (Vals.rep h k)
theorem IF (its:List Value):∀(k:Nat) (acc:List Value),
 List.foldl (fun x1 x2=>x1++x2) acc.toArray (List.replicate k its.toArray)=(acc++(List.replicate k its).flatten).toArray
 |0,acc=>by simp
 |k+1,acc=>by
  have e:acc.toArray++its.toArray=(acc++its).toArray:=by simp
  have e2:(acc++its)++(List.replicate k its).flatten=acc++(List.replicate (k+1) its).flatten:=by
   rw [EI,E8,List.append_assoc]
  rw [←e2,←IF its k (acc++its),←e,EI,G0]
section
variable {X:Cx} {pins:List (Addr×Obj)} {σ:St} {H:Hp} {s:Shared} {l b:Addr} {xs ys zs:List V}
theorem Inv.lset {its its':List Value} {n:Nat} {f:Array Value→Array Value} {t':Nat} (I:Inv X pins σ H s) (hH:H l=some (.lst xs))
 (e:s.heap.get? l=some {cls:=.type "list",data:=.seq its.toArray n}) (hf:f its.toArray=its'.toArray) (hv:Vals ys its') (hz:ys.length≤sizeLine):
 Inv X pins σ (Am H l (.lst ys)) {s with heap:=s.heap.update l (Obj.mapSeq f),toks:=t'}:=by
 have q:=PySem.IsL.update e f
 rw [hf] at q
 refine I.write (x:=l) (e:=l) (by rw [hH];exact trivial) (.inl rfl) (fun b' u hb hu=>(JQ s.heap (Obj.mapSeq f) (Ne.symm hb)).trans hu) ⟨_,q⟩ ?_
 exact ⟨hz,its',_,hv,q⟩
theorem Inv.lnew {its:List Value} {t':Nat} (I:Inv X pins σ H s) (hv:Vals ys its) (hz:ys.length≤sizeLine):
 Inv X pins σ (Am H s.heap.objs.size (.lst ys)) {s with heap:=s.heap.push {cls:=.type "list",data:=.seq its.toArray},toks:=t'}:=
 I.laid (fun _ _ q=>Bn _ q) (AJ _) ⟨hz,its,0,hv,BI _ rfl⟩
theorem Inv.fresh (I:Inv X pins σ H s):H s.heap.objs.size=none:=I.hok.fresh (AJ _)
theorem Inv.lstM (I:Inv X pins σ H s) (hH:H l=some (.lst xs)):xs.length≤sizeLine∧∃(its:List Value) (n:Nat),Vals xs its∧xs.length=its.length∧s.heap.get? l=some {cls:=.type "list",data:=.seq its.toArray n}:=by
 obtain ⟨z,its,n,r,e⟩:=I.hok l _ hH
 exact ⟨z,its,n,r,r.length,e⟩
theorem Su {n:Nat} (h:n≤sizeLine):Builtin.List.listTooLong n=false:=by
 unfold Builtin.List.listTooLong
 exact decide_eq_false (by omega)
end
section
variable {X:Cx}
def Sv:V→List V→Hp→VK→Prop:=fun x vs H Q=>∃l xs y,x=.ref l∧vs=[y]∧H l=some (.lst xs)∧xs.length<sizeLine∧Q .non (Am H l (.lst (xs++[y])))
theorem Sw:Ss X "list.append" Sv:=by
 intro pins s σ H x vs v us Q I rx rv h
 obtain ⟨l,xs,y,rfl,rfl,hH,hz,q⟩:=h
 cases rx
 obtain ⟨u,rfl,ru⟩:=rv.one
 obtain ⟨z,its,n,r,hl,e⟩:=I.lstM hH
 refine call_meets F.slot_list_append ⟨_,e,rfl⟩ F.entry_list_append (F.args_list_append_2 _ _) (PySem.list_append l its.toArray n u (by rw [A7];omega)) ⟨e,?_⟩
 refine ⟨.non,_,I.lset (its':=its++[u]) hH e (by simp) (r.append (.cons ru .nil)) ?_,rfl,q⟩
 rw [DR,List.length_singleton]
 omega
def Sx:R2:=fun x y H Q=>∃l b xs zs,x=.ref l∧y=.ref b∧H l=some (.lst xs)∧H b=some (.lst zs)∧xs.length+zs.length≤sizeLine∧∀p,H p=none→Q (.ref p) (Am H p (.lst (xs++zs)))
theorem op_cat:OpR X (binaryOp .Add) Sx:=by
 intro pins s σ H x y v u Q I rx ry h
 obtain ⟨l,b,xs,zs,rfl,rfl,hH,hB,hz,q⟩:=h
 cases rx
 cases ry
 obtain ⟨z,its,n,r,hl,e⟩:=I.lstM hH
 obtain ⟨z2,its2,n2,r2,hl2,e2⟩:=I.lstM hB
 refine PySem.P.add_list e e2 ?_ (by rw [A7,A7];omega)
 have ea:its.toArray++its2.toArray=(its++its2).toArray:=by simp
 rw [ea]
 exact ⟨.ref _,_,I.lnew (t':=s.toks) (r.append r2) (by rw [DR];omega),rfl,q _ I.fresh⟩
def Sy:R2:=fun x y H Q=>∃l k xs,x=.ref l∧y=.int k∧H l=some (.lst xs)∧-(2^63)≤k∧k<2^63∧xs.length*k.toNat≤sizeLine∧
 ∀p,H p=none→Q (.ref p) (Am H p (.lst (List.replicate k.toNat xs).flatten))
theorem IG {α:Type} (xs:List α) (k:Nat):(List.replicate k xs).flatten.length=k*xs.length:=by
 induction k with
 |zero=>simp
 |succ k ih=>rw [EI,E8,DR,ih,Nat.succ_mul,Nat.add_comm]
theorem Sz:OpR X (binaryOp .Mult) Sy:=by
 intro pins s σ H x y v u Q I rx ry h
 obtain ⟨l,k,xs,rfl,rfl,hH,h1,h2,hz,q⟩:=h
 cases rx
 obtain ⟨t,rfl⟩:=ry
 obtain ⟨z,its,n,r,hl,e⟩:=I.lstM hH
 have hlen:its.toArray.size*k.toNat≤sizeLine:=by rw [A7,←hl];exact hz
 have hcap:¬its.toArray.size*k.toNat>(2^63 - 1) / 8:=by
  have:(sizeLine:Nat)≤(2^63 - 1) / 8:=by decide
  omega
 have hfit:¬(!Builtin.List.listFitsIndex k)=true:=by
  rw [fitsIndex_both h1 h2]
  exact Bi
 have hlong:¬Builtin.List.listTooLong (its.toArray.size*k.toNat)=true:=by
  rw [Su hlen]
  exact Bi
 have hnew:List.foldl (fun x1 x2=>x1++x2) #[] (List.replicate (if its.toArray.isEmpty=true then 0 else k.toNat) its.toArray)=(List.replicate k.toNat its).flatten.toArray:=by
  have f0:∀m:Nat,List.foldl (fun x1 x2=>x1++x2) #[] (List.replicate m its.toArray)=(List.replicate m its).flatten.toArray:=fun m=>by
   have:=IF its m []
   rw [Im] at this
   exact this
  rw [f0]
  cases its with
  |nil=>simp
  |cons a r'=>rw [if_neg (by simp)]
 refine wpAny_binaryOp_repeat_ref (T:="list") (U:="int") (by decide) ⟨_,e,rfl⟩ (fun s'=>typeIs_int s' k t) noFill_list_mul F.fills_int_mul F.slot_int_rmul repeat_list F.slot_int_index.lookup
  (call_meets F.slot_int_rmul (typeIs_int s k t) F.entry_int_rmul (F.args_int_rmul_2 _ _) (int___rmul___int_list k t l its.toArray n)
   ⟨e,rfl,⟨_,e,rfl⟩,call_meets F.slot_list_mul ⟨_,e,rfl⟩ F.entry_list_mul (F.args_list_mul_2 _ _) (AutoListH.list___mul___list_int_3 l its.toArray n k t hfit hcap hlong) ⟨e,?_⟩⟩)
 rw [hnew]
 exact ⟨.ref _,_,I.lnew (t':=s.toks) (r.rep k.toNat) (by rw [IG,Nat.mul_comm];exact hz),rfl,q _ I.fresh⟩
end
section
variable {prog:Program} {w:World} {A:Around} {E:Value→Shared→Prop} {s:Shared}
end
section
variable {X:Cx}
end
end L2
namespace Att
open PySem PySem.W PySem.Calls PyProof.Rows
theorem SA {P:Params} {h:Heap}:∀(ns:List Int) (vs:List Value),WellAll P h vs (ns.map WData.int)→IntsAre vs ns:=by
 intro ns
 induction ns with
 |nil=>
  intro vs w
  rw [Ej] at w
  cases w
  exact .nil
 |cons n ns ih=>
  intro vs w
  rw [Bj] at w
  cases w with
  |cons a b=>
   cases a
   exact .cons _ _ (ih _ b)
theorem SB {l:OpenLaw} {n:Nat} (hn:l.most=some n) {P:Params} {h:Heap} {args:List WData} {vals:List Value}
 (hpre:l.row.toRowW.claim.pre args=true) (hwl:WellAll P h vals args):
 ∃a vs ns,vals=[Value.ref a]∧args=[WData.list (ns.map WData.int)]∧h.get? a=some {cls:=.type "list",data:=.seq vs.toArray}∧IntsAre vs ns∧ns.length≤n:=by
 have hsh:WShape.hasAll [] args [.list .int]=true:=(pre_splitW hpre).1
 have hc:l.pre.holds [] {args:=args}=true:=(pre_splitW hpre).2
 obtain ⟨d,r,rfl,h1,h2⟩:=hasAllW_cons hsh
 obtain rfl:=hasAllW_nil h2
 obtain ⟨xs,rfl,h3⟩:=hasW_list h1
 obtain ⟨ns,rfl⟩:=items_int h3
 have hlen:ns.length≤n:=by
  unfold OpenLaw.pre at hc
  have h4:(WTm.not (.lt (.lit (.int (n:Int))) (.len (.arg 0)))).holds [] {args:=[.list (ns.map .int)]}=true:=by
   have h4:=(holds_andW hc).1
   rw [hn] at h4
   exact h4
  have h5:=condW_of h4 (w_not (w_lt w_lit (w_len_list (w_arg rfl))))
  rw [Cp] at h5
  refine Ga fun q=>?_
  have q':(n:Int)<((ns.length:Nat):Int):=by omega
  first
   |(rw [decide_eq_true q'] at h5;exact absurd h5 (by decide))
   |(simp at h5;omega)
 cases hwl with
 |cons w1 w2=>
  cases w2
  cases w1 with
  |list ho hall=>exact ⟨_,_,ns,rfl,rfl,ho,SA ns _ hall,hlen⟩
theorem SC (l:OpenLaw) (args:List WData):l.row.toRowW.claim.post args (.bool true) args=true:=
 postW_of (r:=l.row.toRowW) (X:=(true==true))
  (show WShape.has [] (.bool true) .bool=true by first |rfl |decide |simp [WShape.has,WShape.arms,WShape.armsAll])
  (show (WTm.eq .res (.lit (.bool true))).value [] {args:=args,res:=some (.bool true),after:=args}=some (.bool (true==true)) from w_eq_bool (w_res rfl) w_lit) rfl
section
variable {prog:Program} {w:World} {A:Around} {E:Value→Shared→Prop} {s:Shared} {K:Frag}
end
end Att
namespace L2
open PySem PySem.Spec PyProof.Rows
theorem vals_ints:∀{vs:List Value} {ns:List Int},IntsAre vs ns→Vals (ns.map V.int) vs
 |_,_,.nil=>.nil
 |_,_,.cons n t h=>.cons ⟨t,rfl⟩ (vals_ints h)
def defArgs (s:Stmt):Arguments:=match s with
 |.FunctionDef _ a _ _ _ _ _ _ _ _=>a
 |_=>{posonlyargs:=[],args:=[],vararg:=none,kwonlyargs:=[],kw_defaults:=[],kwarg:=none,defaults:=[]}
def defBody (s:Stmt):List Stmt:=match s with
 |.FunctionDef _ _ b _ _ _ _ _ _ _=>b
 |_=>[]
def defScope (s:Stmt):Scope:=match s with
 |.FunctionDef _ _ _ _ _ _ sc _ _ _=>sc
 |_=>{kind:=.function,names:=[],isGenerator:=false,isCoroutine:=false}
abbrev Mx:Dy:=fun _ _ _ _ _ _=>False
abbrev E0:XK:=fun _ _ _=>False
inductive My (K:PySem.W.Frag) (x qual:Str) (st:Stmt) (f:Addr) (fd:FuncData):Prop where
 |mk (oc:Value) (od:Option Addr) (kV doc pm:Value) (an:Option Addr) (cdv ct:Value) (osl:Array (Option Value)) (f1:fd=PySem.W.fnOf x qual (defArgs st) (defBody st) (defScope st) .none kV doc pm an cdv ct) (f2:K.lookup f=some ⟨oc,od,.func fd,osl⟩) (f3:PySem.W.codeIn K cdv qual=true):My K x qual st f fd
structure Fun (K:PySem.W.Frag) (x qual:Str) (st:Stmt) (f:Addr) (fd:FuncData):Prop where
 ex:My K x qual st f fd
 kp:PySem.W.keepIn K (.ref f)=true
section
variable {P:Program} {w:World} {K:PySem.W.Frag} {mg:Str→Option Value} {base:Heap}
theorem Fun.binds {x qual:Str} {st:Stmt} {f:Addr} {fd:FuncData} {ps:List Str} (F:Fun K x qual st f fd)
 (h:∀(kV doc pm:Value) (an:Option Addr) (cdv ct:Value) (us:List Value),us.length=ps.length→bindArgs (PySem.W.fnOf x qual (defArgs st) (defBody st) (defScope st) .none kV doc pm an cdv ct) ⟨us,[]⟩=pure (ps.zip us)):Binds K fd ps []:=by
 obtain ⟨oc,od,kV,doc,pm,an,cdv,ct,osl,rfl,lk,hcd⟩:=F.ex
 exact .all (h kV doc pm an cdv ct)
theorem Gm {x qual:Str} {st:Stmt} {f:Addr} {oc:Value} {od an:Option Addr} {osl:Array (Option Value)} {kV doc pm cdv ct:Value} (l:K.lookup f=some ⟨oc,od,.func (PySem.W.fnOf x qual (defArgs st) (defBody st) (defScope st) .none kV doc pm an cdv ct),osl⟩)
 (c:PySem.W.codeIn K cdv qual=true) (k:PySem.W.keepIn K (.ref f)=true):Fun K x qual st f (PySem.W.fnOf x qual (defArgs st) (defBody st) (defScope st) .none kV doc pm an cdv ct):=⟨⟨oc,od,kV,doc,pm,an,cdv,ct,osl,rfl,l,c⟩,k⟩
end
section
variable {X:Cx}
theorem pv (i:Nat) {x:Str} {pos:Pos} (hN:X.N[i]?=some x:=by rfl) (hv:Iv X.env.scope x:=by first |exact Or.inl rfl |exact Or.inr (Or.inl rfl) |exact Or.inr (Or.inr rfl)) (hd:(x==("__debug__":Str))=false:=by decide)
 (hcd:(x==("__classdict__":Str))=false:=by decide):PE X (.Name x pos) (JS i):=Ql hN hv hd hcd
end
end L2
namespace LS
open PySem PySem.Spec PyProof.Rows L2
inductive D where
 |non |bl (b:Bool) |int (i:Int) |str (x:Str) |tup (ds:List D) |loc (l:Nat) |scr (ns:List Int) |adr (a:Addr) |ty (n:String) |exc (n:Str) (fs:List (Str×Int)) |edic |glo (n:Str) |clo (a:Addr) (vs:List V) (ds:List D)
inductive Kyd where
 |i (n:Int) |t (ns:List Int) |b (rs:List (List Int))
 deriving DecidableEq
def kD:Kyd→D
 |.i n=>.int n
 |.t ns=>.tup (ns.map D.int)
 |.b rs=>.tup (rs.map fun r=>.tup (r.map D.int))
inductive CF where
 |lst (ds:List D) |tab |dic (fz:Bool) (kvs:List (Kyd×D))
abbrev HD:=List CF
abbrev Ai:=List (Option D)
inductive Out (α:Type) where
 |ok (a:α) (h:HD) |err (C:Value) (fs:List (Str×D)) (h:HD) |stuck
def Out.bind {α β:Type} (o:Out α) (k:α→HD→Out β):Out β:=match o with
 |.ok a h=>k a h
 |.err C fs h=>.err C fs h
 |.stuck=>.stuck
@[simp] theorem Out.bind_ok {α β:Type} (a:α) (h:HD) (k:α→HD→Out β):(Out.ok a h).bind k=k a h:=rfl
@[simp] theorem Out.bind_err {α β:Type} (C:Value) (fs:List (Str×D)) (h:HD) (k:α→HD→Out β):(Out.err C fs h:Out α).bind k=.err C fs h:=rfl
@[simp] theorem Out.bind_stuck {α β:Type} (k:α→HD→Out β):(Out.stuck:Out α).bind k=.stuck:=rfl
def J4:HO→Bool
 |.tup _=>true
 |.frz _ _=>true
 |.ext _=>true
 |.xd _=>true
 |_=>false
def Kp (H H':Hp):Prop:=∀b o,H b=some o→J4 o=true→H' b=some o
theorem Kp.refl (H:Hp):Kp H H:=fun _ _ e _=>e
theorem Kp.trans {H H1 H2:Hp} (a:Kp H H1) (b:Kp H1 H2):Kp H H2:=fun c o e i=>b c o (a c o e i) i
theorem Kp.new {H:Hp} {p:Addr} {o:HO} (h:H p=none):Kp H (Am H p o):=fun b u e _=>by rw [AC (BL e h)];exact e
theorem Kp.set {H:Hp} {p:Addr} {o u:HO} (h:H p=some o) (i:J4 o=false):Kp H (Am H p u):=fun b w e iw=>by
 rw [AC]
 ·exact e
 ·intro z
  rw [z,h] at e;cases e;rw [i] at iw;cases iw
def FzL (K:PySem.W.Frag) (H:Hp) (a:Addr) (xs:List V):Prop:=(∃o,H a=some (.frz o (.lst xs)))∨SqL K (fun _=>none) a xs
theorem Kp.fzL {K:PySem.W.Frag} {H H':Hp} {a:Addr} {xs:List V} (k:Kp H H') (h:FzL K H a xs):FzL K H' a xs:=by
 rcases h with ⟨o,h⟩ |h
 ·exact .inl ⟨o,k _ _ h rfl⟩
 ·exact .inr h
theorem FzL.sq {K:PySem.W.Frag} {H:Hp} {a:Addr} {xs:List V} (h:FzL K H a xs):SqL K H a xs:=by
 rcases h with ⟨o,h⟩ |(h |⟨o,h⟩) |h
 ·exact .inl (.inr ⟨o,h⟩)
 ·cases h
 ·cases h
 ·exact .inr h
def SD (C:Addr) (da:Option Addr) (a:Addr) (h:Heap):Prop:=∃o vs,h.get? a=some o∧o.cls=.ref C∧(∀d,da=some d→o.dict=some d)∧o.data=.fields vs
def SE (a:Addr) (h:Heap):Prop:=a≠sysModules∧∃o ep,h.get? a=some o∧o.ExactDict∧o.data=.dict #[] ep
mutual
def DV (K:PySem.W.Frag) (m:List Addr) (H:Hp):D→V→Prop
 |.non,v=>v=.non
 |.bl b,v=>v=.bl b
 |.int i,v=>v=.int i
 |.str x,v=>v=.str x
 |.tup ds,v=>∃a vs,v=.ref a∧H a=some (.tup vs)∧DVs K m H ds vs
 |.loc l,v=>∃a,v=.ref a∧m[l]?=some a
 |.scr ns,v=>∃a,v=.ref a∧FzL K H a (ns.map V.int)
 |.adr a,v=>v=.ref a
 |.ty n,v=>v=.ty n
 |.exc n fs,v=>∃a C da,v=.ref a∧PySem.W.nsIn K mainGlobals n=some (some (.ref C))∧H a=some (.ext (SD C da a))∧∀f i,fs.lookup f=some i→∃d fv,da=some d∧H d=some (.xd fv)∧fv.lookup f=some (.int i)
 |.edic,v=>∃a,v=.ref a∧H a=some (.ext (SE a))
 |.glo n,v=>∃a,v=.ref a∧PySem.W.nsIn K mainGlobals n=some (some (.ref a))
 |.clo a vs ds,v=>v=.ref a∧DVs K m H ds vs
def DVs (K:PySem.W.Frag) (m:List Addr) (H:Hp):List D→List V→Prop
 |[],vs=>vs=[]
 |d::ds,vs=>∃v r,vs=v::r∧DV K m H d v∧DVs K m H ds r
end
section
variable {K:PySem.W.Frag} {m m':List Addr} {H H':Hp}
theorem IH {l:Nat} {a:Addr} (p:m <+:m') (h:m[l]?=some a):m'[l]?=some a:=by
 obtain ⟨t,rfl⟩:=p
 have hl:l<m.length:=(qa3.mp h).1
 rw [E7 hl];exact h
mutual
theorem DV.keep (p:m <+:m') (k:Kp H H'):∀{d:D} {v:V},DV K m H d v→DV K m' H' d v
 |.non,_,h=>by simpa [DV] using h
 |.bl _,_,h=>by simpa [DV] using h
 |.int _,_,h=>by simpa [DV] using h
 |.str _,_,h=>by simpa [DV] using h
 |.tup ds,_,h=>by
  simp only [DV] at h ⊢
  obtain ⟨a,vs,e,q,r⟩:=h
  exact ⟨a,vs,e,k _ _ q rfl,DVs.keep p k r⟩
 |.loc l,_,h=>by
  simp only [DV] at h ⊢
  obtain ⟨a,e,q⟩:=h
  exact ⟨a,e,IH p q⟩
 |.scr ns,_,h=>by
  simp only [DV] at h ⊢
  obtain ⟨a,e,q⟩:=h
  exact ⟨a,e,k.fzL q⟩
 |.adr _,_,h=>by simpa [DV] using h
 |.ty _,_,h=>by simpa [DV] using h
 |.exc _ _,_,h=>by
  simp only [DV] at h ⊢
  obtain ⟨a,C,da,e,q,r,t⟩:=h
  exact ⟨a,C,da,e,q,k _ _ r rfl,fun f i z=>let ⟨d,fv,z1,z2,z3⟩:=t f i z;⟨d,fv,z1,k _ _ z2 rfl,z3⟩⟩
 |.edic,_,h=>by
  simp only [DV] at h ⊢
  obtain ⟨a,e,r⟩:=h
  exact ⟨a,e,k _ _ r rfl⟩
 |.glo _,_,h=>by simpa [DV] using h
 |.clo _ _ ds,_,h=>by
  simp only [DV] at h ⊢
  exact ⟨h.1,DVs.keep p k h.2⟩
theorem DVs.keep (p:m <+:m') (k:Kp H H'):∀{ds:List D} {vs:List V},DVs K m H ds vs→DVs K m' H' ds vs
 |[],_,h=>by simpa [DVs] using h
 |d::ds,_,h=>by
  simp only [DVs] at h ⊢
  obtain ⟨v,r,e,q,t⟩:=h
  exact ⟨v,r,e,DV.keep p k q,DVs.keep p k t⟩
end
theorem DVs.nil:DVs K m H [] []:=by simp [DVs]
theorem DVs.cons {d:D} {v:V} {ds:List D} {vs:List V} (h:DV K m H d v) (t:DVs K m H ds vs):DVs K m H (d::ds) (v::vs):=by
 simp only [DVs];exact ⟨v,vs,rfl,h,t⟩
theorem DVs.len:∀{ds:List D} {vs:List V},DVs K m H ds vs→ds.length=vs.length
 |[],_,h=>by simp only [DVs] at h;subst h;rfl
 |d::ds,_,h=>by
  simp only [DVs] at h
  obtain ⟨v,r,e,_,t⟩:=h
  subst e
  simp [DVs.len t]
theorem DVs.get:∀{ds:List D} {vs:List V} {i:Nat} {d:D},DVs K m H ds vs→ds[i]?=some d→∃v,vs[i]?=some v∧DV K m H d v
 |[],_,_,_,_,e=>by simp at e
 |d::ds,_,i,x,h,e=>by
  simp only [DVs] at h
  obtain ⟨v,r,rfl,q,t⟩:=h
  cases i with
  |zero=>simp at e;subst e;exact ⟨v,rfl,q⟩
  |succ i=>
   obtain ⟨w,h1,h2⟩:=DVs.get (i:=i) t (by simpa using e)
   exact ⟨w,by simpa using h1,h2⟩
theorem DVs.app:∀{ds es:List D} {vs ws:List V},DVs K m H ds vs→DVs K m H es ws→DVs K m H (ds++es) (vs++ws)
 |[],_,_,_,h,t=>by simp only [DVs] at h;subst h;exact t
 |d::ds,_,_,_,h,t=>by
  simp only [DVs] at h
  obtain ⟨v,r,rfl,q,u⟩:=h
  exact .cons q (DVs.app u t)
theorem DVs.set:∀{ds:List D} {vs:List V} {d:D} {v:V} (i:Nat),DVs K m H ds vs→DV K m H d v→DVs K m H (ds.set i d) (vs.set i v)
 |[],_,_,_,_,h,_=>by simp only [DVs] at h;subst h;exact .nil
 |d::ds,_,_,_,i,h,q'=>by
  simp only [DVs] at h
  obtain ⟨v,r,rfl,q,u⟩:=h
  cases i with
  |zero=>exact .cons q' u
  |succ i=>exact .cons q (DVs.set i u q')
theorem DVs.take:∀{ds:List D} {vs:List V} (n:Nat),DVs K m H ds vs→DVs K m H (ds.take n) (vs.take n)
 |_,_,0,_=>by simpa using (DVs.nil:DVs K m H [] [])
 |[],_,n+1,h=>by simp only [DVs] at h;subst h;exact .nil
 |d::ds,_,n+1,h=>by
  simp only [DVs] at h
  obtain ⟨v,r,rfl,q,u⟩:=h
  exact .cons q (DVs.take n u)
theorem DVs.drop:∀{ds:List D} {vs:List V} (n:Nat),DVs K m H ds vs→DVs K m H (ds.drop n) (vs.drop n)
 |_,_,0,h=>by simpa using h
 |[],_,n+1,h=>by simp only [DVs] at h;subst h;exact .nil
 |d::ds,_,n+1,h=>by
  simp only [DVs] at h
  obtain ⟨v,r,rfl,q,u⟩:=h
  simpa using DVs.drop n u
theorem DVs.rep {ds:List D} {vs:List V} (h:DVs K m H ds vs):∀n,DVs K m H (List.replicate n ds).flatten (List.replicate n vs).flatten
 |0=>by simpa using (DVs.nil:DVs K m H [] [])
 |n+1=>by
  rw [EI,E8,EI,E8]
  exact h.app (DVs.rep h n)
def SF (q:Str) (c:Addr) (h:Heap):Prop:=h.CodeRec (.ref c) q
def tabP (K:PySem.W.Frag):Option (Addr×Addr):=match PySem.W.nsIn K mainGlobals "law" with
 |some (some (.ref f))=>(match K.lookup f with
  |some ⟨_,_,.func fd,_⟩=>(match fd.code with
   |.ref c=>(match K.lookup c with
    |some ⟨_,_,.fields vs,_⟩=>(match (vs[11]?:Option Value) with
     |some (.ref P)=>some (c,P)
     |_=>none)
    |_=>none)
   |_=>none)
  |_=>none)
 |_=>none
def TabIs (K:PySem.W.Frag) (H:Hp) (a:Addr):Prop:=(∃c,tabP K=some (c,a))∧∃ps,H a=some (.tbl ps)∧TriplesOk ps.toList∧∀pos cv,codeAmong pos ps.toList=some cv→∃c,cv=.ref c∧H c=some (.ext (SF "law.<locals>.<lambda>" c))
theorem TabIs.keep {K:PySem.W.Frag} {H H':Hp} {a:Addr} (t:TabIs K H a) (k:Kp H H') (e:H' a=H a):TabIs K H' a:=by
 obtain ⟨z,ps,h1,h2,h3⟩:=t
 exact ⟨z,ps,e.trans h1,h2,fun pos cv q=>let ⟨c,q1,q2⟩:=h3 pos cv q;⟨c,q1,k _ _ q2 rfl⟩⟩
def J5 (hs:List Int):Int:=reduceHash (Builtin.Tuple.tupleHashOf hs)
def SG:Kyd→Int
 |.i n=>hashInt n
 |.t ns=>J5 (ns.map hashInt)
 |.b rs=>J5 (rs.map fun r=>J5 (r.map hashInt))
def G9 (p:Kyd×V×V) (e:DictEntry):Prop:=e.hash=SG p.1∧RelV p.2.1 e.key∧RelV p.2.2 e.val
def A9 (a:Addr) (es:List (Kyd×V×V)) (h:Heap):Prop:=(a==sysModules)=false∧es.length≤sizeLine∧(es.map (·.1)).Nodup∧∃o us ep,h.get? a=some o∧o.ExactDict∧o.data=.dict us ep∧Paired G9 es us.toList
def EntD (K:PySem.W.Frag) (m:List Addr) (H:Hp):List (Kyd×D)→List (Kyd×V×V)→Prop
 |[],es=>es=[]
 |p::r,es=>∃kv vv r',es=(p.1,kv,vv)::r'∧DV K m H (kD p.1) kv∧DV K m H p.2 vv∧EntD K m H r r'
theorem EntD.keep {K:PySem.W.Frag} {m m':List Addr} {H H':Hp} (p:m <+:m') (k:Kp H H'):∀{kvs:List (Kyd×D)} {es:List (Kyd×V×V)},EntD K m H kvs es→EntD K m' H' kvs es
 |[],_,h=>h
 |_::_,_,h=>by
  obtain ⟨kv,vv,r',e,d1,d2,t⟩:=h
  exact ⟨kv,vv,r',e,d1.keep p k,d2.keep p k,t.keep p k⟩
def DicH (fz:Bool) (H:Hp) (a:Addr) (es:List (Kyd×V×V)):Prop:=match fz with
 |true=>∃o,H a=some (.frz o (.dct (A9 a es)))
 |false=>H a=some (.dct (A9 a es))
theorem DicH.some {fz:Bool} {H:Hp} {a:Addr} {es:List (Kyd×V×V)} (d:DicH fz H a es):∃o,H a=some o:=by
 cases fz with
 |true=>obtain ⟨o,e⟩:=d;exact ⟨_,e⟩
 |false=>exact ⟨_,d⟩
theorem DicH.same {fz:Bool} {H H':Hp} {a:Addr} {es:List (Kyd×V×V)} (d:DicH fz H a es) (e:H' a=H a):DicH fz H' a es:=by
 cases fz with
 |true=>obtain ⟨o,z⟩:=d;exact ⟨o,e.trans z⟩
 |false=>exact e.trans d
theorem DicH.rd {fz:Bool} {H:Hp} {a:Addr} {es:List (Kyd×V×V)} (d:DicH fz H a es):Rd H a (.dct (A9 a es)):=by
 cases fz with
 |true=>obtain ⟨o,z⟩:=d;exact .inr ⟨o,z⟩
 |false=>exact .inl d
def II (K:PySem.W.Frag) (m:List Addr) (H:Hp):CF→Addr→Prop
 |.lst ds,a=>∃vs,H a=some (.lst vs)∧DVs K m H ds vs
 |.tab,a=>TabIs K H a
 |.dic fz kvs,a=>∃es,DicH fz H a es∧EntD K m H kvs es
structure HR (K:PySem.W.Frag) (m:List Addr) (h:HD) (H:Hp):Prop where
 len:m.length=h.length
 nd:m.Nodup
 cells:∀(l:Nat) (c:CF) (a:Addr),h[l]?=some c→m[l]?=some a→II K m H c a
theorem HR.at {h:HD} {l:Nat} {c:CF} (r:HR K m h H) (e:h[l]?=some c):∃a,m[l]?=some a∧II K m H c a:=by
 have hl:l<h.length:=(qa3.mp e).1
 have:l<m.length:=by rw [r.len];exact hl
 exact ⟨m[l],Br this,r.cells l c _ e (Br this)⟩
theorem HR.mem {h:HD} {a:Addr} (r:HR K m h H) (ha:a∈m):H a≠none:=by
 obtain ⟨l,hl,rfl⟩:=List.getElem_of_mem ha
 have hl':l<h.length:=by rw [←r.len];exact hl
 have:=r.cells l h[l] m[l] (Br hl') (Br hl)
 cases hc:h[l] with
 |lst ds=>
  rw [hc] at this
  obtain ⟨vs,e,_⟩:=this
  rw [e];simp
 |tab=>
  rw [hc] at this
  obtain ⟨_,ps,e,_⟩:=this
  rw [e];simp
 |dic fz kvs=>
  rw [hc] at this
  obtain ⟨es,e,_⟩:=this
  obtain ⟨o,e⟩:=e.some
  rw [e];simp
theorem HR.same {h:HD} (r:HR K m h H) (k:Kp H H') (s:∀a∈m,H' a=H a):HR K m h H':=by
 refine ⟨r.len,r.nd,fun l c a e q=>?_⟩
 have hm:a∈m:=F5 q
 have:=r.cells l c a e q
 cases c with
 |lst ds=>
  obtain ⟨vs,e1,e2⟩:=this
  exact ⟨vs,by rw [s a hm];exact e1,e2.keep (Aw _) k⟩
 |tab=>exact TabIs.keep this k (s a hm)
 |dic fz kvs=>
  obtain ⟨es,e1,e2⟩:=this
  exact ⟨es,e1.same (s a hm),e2.keep (Aw _) k⟩
theorem HR.new {h:HD} {p:Addr} {o:HO} (r:HR K m h H) (hp:H p=none):HR K m h (Am H p o):=
 r.same (.new hp) fun a ha=>AC fun z=>r.mem ha (z ▸ hp)
theorem HR.newCell {h:HD} {p:Addr} {o:HO} {c:CF} (r:HR K m h H) (hp:H p=none) (hc:II K (m++[p]) (Am H p o) c p):HR K (m++[p]) (h++[c]) (Am H p o):=by
 have hpm:p∉m:=fun z=>r.mem z hp
 refine ⟨by simp [r.len],?_,fun l c' a e q=>?_⟩
 ·rw [List.nodup_append]
  refine ⟨r.nd,by simp,fun a ha b hb=>?_⟩
  rw [qaD] at hb
  subst hb
  intro z;subst z;exact hpm ha
 ·by_cases hl:l<m.length
  ·rw [E7 hl] at q
   rw [E7 (by rw [←r.len];exact hl)] at e
   have:=r.cells l c' a e q
   have hne:a≠p:=fun z=>hpm (z ▸ F5 q)
   cases c' with
   |lst ds=>
    obtain ⟨vs,e1,e2⟩:=this
    exact ⟨vs,by rw [AC hne];exact e1,e2.keep (F9 _ _) (.new hp)⟩
   |tab=>exact TabIs.keep this (.new hp) (AC hne)
   |dic fz kvs=>
    obtain ⟨es,e1,e2⟩:=this
    exact ⟨es,e1.same (AC hne),e2.keep (F9 _ _) (.new hp)⟩
  ·have h1:m.length≤l:=Ga hl
   rw [Ih h1] at q
   rw [Ih (by rw [←r.len];exact h1)] at e
   have e0:l - m.length=0:=by
    cases hz:l - m.length with
    |zero=>rfl
    |succ n=>rw [hz] at q;simp at q
   rw [←r.len] at e
   rw [e0] at q e
   simp at q e
   subst q e
   exact hc
theorem HR.setCell {h:HD} {p:Addr} {l:Nat} {o u:HO} {c:CF} (r:HR K m h H) (hl:m[l]?=some p) (ho:H p=some o) (i:J4 o=false) (hc:II K m (Am H p u) c p):HR K m (h.set l c) (Am H p u):=by
 refine ⟨by simp [r.len],r.nd,fun j c' a e q=>?_⟩
 by_cases hj:j=l
 ·subst hj
  rw [hl] at q;cases q
  have hlt:j<h.length:=by rw [←r.len];exact (qa3.mp hl).1
  rw [DQ hlt] at e
  cases e
  exact hc
 ·rw [Cd (Ne.symm hj)] at e
  have:=r.cells j c' a e q
  have hne:a≠p:=by
   intro z
   subst z
   obtain ⟨h1,e1⟩:=qa3.mp q
   obtain ⟨h2,e2⟩:=qa3.mp hl
   exact hj ((List.getElem_inj r.nd).mp (e1.trans e2.symm))
  cases c' with
  |lst ds=>
   obtain ⟨vs,e1,e2⟩:=this
   exact ⟨vs,by rw [AC hne];exact e1,e2.keep (Aw _) (.set ho i)⟩
  |tab=>exact TabIs.keep this (.set ho i) (AC hne)
  |dic fz kvs=>
   obtain ⟨es,e1,e2⟩:=this
   exact ⟨es,e1.same (AC hne),e2.keep (Aw _) (.set ho i)⟩
def ER (K:PySem.W.Frag) (m:List Addr) (H:Hp) (ρ:Ai) (σ:L2.St):Prop:=ρ.length=σ.length∧∀(i:Nat) (d:D),ρ[i]?=some (some d)→∃v,σ[i]?=some (some v)∧DV K m H d v
theorem ER.keep {ρ:Ai} {σ:L2.St} (p:m <+:m') (k:Kp H H') (e:ER K m H ρ σ):ER K m' H' ρ σ:=⟨e.1,fun i d h=>let ⟨v,a,b⟩:=e.2 i d h;⟨v,a,b.keep p k⟩⟩
theorem ER.set {ρ:Ai} {σ:L2.St} {i:Nat} {d:D} {v:V} (e:ER K m H ρ σ) (r:DV K m H d v):ER K m H (ρ.set i (some d)) (σ.set i (some v)):=by
 refine ⟨by simp [e.1],fun j d' h=>?_⟩
 by_cases hj:i=j
 ·subst hj
  by_cases hl:i < ρ.length
  ·rw [DQ hl] at h
   cases h
   exact ⟨v,by rw [DQ (by rw [←e.1];exact hl)],r⟩
  ·rw [List.getElem?_eq_none (by simp;omega)] at h;cases h
 ·rw [Cd hj] at h
  obtain ⟨w,a,b⟩:=e.2 j d' h
  exact ⟨w,by rw [Cd hj];exact a,b⟩
theorem ER.start {N:List Str} {ds:List D} {vs:List V} (h:DVs K m H ds vs):ER K m H (ds.map some++List.replicate (N.length - ds.length) none) (L2.start N vs):=by
 refine ⟨by simp [L2.start,h.len],fun i d e=>?_⟩
 by_cases hl:i<ds.length
 ·rw [E7 (by simpa using hl),Dc] at e
  obtain ⟨d',e1⟩:∃d',ds[i]?=some d':=⟨ds[i],Br hl⟩
  rw [e1] at e
  simp at e
  subst e
  obtain ⟨v,q,r⟩:=h.get e1
  refine ⟨v,?_,r⟩
  unfold L2.start
  rw [E7 (by simpa [←h.len] using hl),Dc,q]
  rfl
 ·rw [Ih (by simpa using Ga hl)] at e
  rw [List.getElem?_replicate] at e
  split at e<;>cases e
def XD (K:PySem.W.Frag) (m:List Addr) (H:Hp) (fs:List (Str×D)) (da:Option Addr):Prop:=
 ∀f d,fs.lookup f=some d→∃a fv v,da=some a∧H a=some (.xd fv)∧fv.lookup f=some v∧DV K m H d v
def Post {α β:Type} (K:PySem.W.Frag) (R:List Addr→Hp→α→β→Prop) (m:List Addr) (H:Hp) (E:XK) (Q:β→Hp→Prop):Out α→Prop
 |.ok a h'=>∀v m' H',m <+:m'→Kp H H'→HR K m' h' H'→R m' H' a v→Q v H'
 |.err C fs h'=>∀da m' H',m <+:m'→Kp H H'→HR K m' h' H'→XD K m' H' fs da→E C da H'
 |.stuck=>False
theorem Post.ahead {α β:Type} {R:List Addr→Hp→α→β→Prop} {E:XK} {Q:β→Hp→Prop} {o:Out α} (p:m <+:m') (k:Kp H H') (h:Post K R m H E Q o):Post K R m' H' E Q o:=by
 cases o with
 |ok a h'=>exact fun v m2 H2 p2 k2=>h v m2 H2 (p.trans p2) (k.trans k2)
 |err C fs h'=>exact fun da m2 H2 p2 k2=>h da m2 H2 (p.trans p2) (k.trans k2)
 |stuck=>exact h
theorem Post.bind {α β γ δ:Type} {R:List Addr→Hp→α→β→Prop} {R':List Addr→Hp→γ→δ→Prop} {E:XK} {Q:δ→Hp→Prop} {Q':β→Hp→Prop} {o:Out α} {k:α→HD→Out γ}
 (h:Post K R' m H E Q (o.bind k)) (f:∀a h1 v m1 H1,o=.ok a h1→m <+:m1→Kp H H1→HR K m1 h1 H1→R m1 H1 a v→Post K R' m1 H1 E Q (k a h1)→Q' v H1):Post K R m H E Q' o:=by
 cases o with
 |ok a h1=>exact fun v m1 H1 p kk hr r=>f a h1 v m1 H1 rfl p kk hr r (h.ahead p kk)
 |err C fs h1=>exact h
 |stuck=>exact h
theorem Post.mono {α β:Type} {R:List Addr→Hp→α→β→Prop} {E:XK} {Q Q':β→Hp→Prop} {o:Out α} (h:Post K R m H E Q o) (f:∀v H',Q v H'→Q' v H'):Post K R m H E Q' o:=by
 cases o with
 |ok a h1=>exact fun v m1 H1 p k hr r=>f _ _ (h v m1 H1 p k hr r)
 |err C fs h1=>exact h
 |stuck=>exact h
end
abbrev ME:=Ai→HD→Out D
abbrev MT:=Ai→HD→Out Bool
abbrev MA:=Ai→HD→Out (List D)
inductive Fl where
 |nx |bk |ct |rt (d:D)
abbrev MS:=Ai→HD→Out (Fl×Ai)
def rD (K:PySem.W.Frag):List Addr→Hp→D→V→Prop:=fun m H d v=>DV K m H d v
def rB:List Addr→Hp→Bool→Bool→Prop:=fun _ _ a b=>a=b
def EO (K:PySem.W.Frag):List Addr→Hp→List D→List V→Prop:=fun m H d v=>DVs K m H d v
inductive tM {α β:Type} (K:PySem.W.Frag) (R:List Addr→Hp→α→β→Prop) (E:XK) (f:Ai→HD→Out α) (σ:L2.St) (H:Hp) (Q:β→Hp→Prop):Prop where
 |mk (m:List Addr) (ρ:Ai) (h:HD) (hr:HR K m h H) (er:ER K m H ρ σ) (p:Post K R m H E Q (f ρ h)):tM K R E f σ H Q
abbrev tD (K:PySem.W.Frag) (E:XK) (f:ME):TE:=tM K (rD K) E f
abbrev El (K:PySem.W.Frag) (E:XK) (f:MT):TT:=tM K rB E f
abbrev SH (K:PySem.W.Frag) (E:XK) (f:MA):TA:=tM K (EO K) E f
def Mz (K:PySem.W.Frag) (m:List Addr) (H:Hp) (D:De):Fl×Ai→Prop
 |(.nx,ρ)=>∀σ,ER K m H ρ σ→D.nx σ H
 |(.bk,ρ)=>∀σ,ER K m H ρ σ→D.bk σ H
 |(.ct,ρ)=>∀σ,ER K m H ρ σ→D.ct σ H
 |(.rt d,_)=>∀v,DV K m H d v→D.rt v H
def PostS (K:PySem.W.Frag) (m:List Addr) (H:Hp) (E:XK) (D:De):Out (Fl×Ai)→Prop
 |.ok a h'=>∀m' H',m <+:m'→Kp H H'→HR K m' h' H'→Mz K m' H' D a
 |.err C fs h'=>∀da m' H',m <+:m'→Kp H H'→HR K m' h' H'→XD K m' H' fs da→E C da H'
 |.stuck=>False
inductive J6 (K:PySem.W.Frag) (E:XK) (g:MS) (D:De) (σ:L2.St) (H:Hp):Prop where
 |mk (m:List Addr) (ρ:Ai) (h:HD) (hr:HR K m h H) (er:ER K m H ρ σ) (p:PostS K m H E D (g ρ h)):J6 K E g D σ H
theorem PostS.ahead {K:PySem.W.Frag} {m m':List Addr} {H H':Hp} {E:XK} {D:De} {o:Out (Fl×Ai)} (p:m <+:m') (k:Kp H H') (h:PostS K m H E D o):PostS K m' H' E D o:=by
 cases o with
 |ok a h'=>exact fun m2 H2 p2 k2=>h m2 H2 (p.trans p2) (k.trans k2)
 |err C fs h'=>exact fun da m2 H2 p2 k2=>h da m2 H2 (p.trans p2) (k.trans k2)
 |stuck=>exact h
abbrev Ev (X:Cx) (E:XK) (e:Expr) (f:ME):Prop:=PE X e (tD X.K E f)
abbrev CG (X:Cx) (E:XK) (e:Expr) (f:MT):Prop:=PT X e (El X.K E f)
abbrev Dh (X:Cx) (E:XK) (es:List Expr) (f:MA):Prop:=PA X es (SH X.K E f)
abbrev Ex (X:Cx) (E:XK) (st:Stmt) (g:MS):Prop:=PS X st (J6 X.K E g)
abbrev AR (X:Cx) (E:XK) (sts:List Stmt) (g:MS):Prop:=Dv X sts (J6 X.K E g)
section
variable {X:Cx}
theorem BM {e:Expr} {t t':TE} (h:PE X e t) (i:∀σ H Q,t' σ H Q→t σ H Q):PE X e t':=fun pins s σ H Q I q=>h pins s σ H Q I (i σ H Q q)
theorem IJ {e:Expr} {t t':TT} (h:PT X e t) (i:∀σ H Q,t' σ H Q→t σ H Q):PT X e t':=fun pins s σ H Q I q=>h pins s σ H Q I (i σ H Q q)
theorem MB {e:List Expr} {t t':TA} (h:PA X e t) (i:∀σ H Q,t' σ H Q→t σ H Q):PA X e t':=fun pos pins s σ H Q I q=>h pos pins s σ H Q I (i σ H Q q)
theorem DY {e:Stmt} {t t':TS} (h:PS X e t) (i:∀D σ H,t' D σ H→t D σ H):PS X e t':=fun pins s σ H D I q=>h pins s σ H D I (i D σ H q)
theorem MC {e:List Stmt} {t t':TS} (h:Dv X e t) (i:∀D σ H,t' D σ H→t D σ H):Dv X e t':=fun pins s σ H D I q=>h pins s σ H D I (i D σ H q)
end
end LS
namespace LS
open PySem PySem.Spec PyProof.Rows L2
section
variable {X:Cx} {E:XK} {a b c:Expr} {pos:Pos} {f g k:ME}
def Aa (i:Nat):ME:=fun ρ h=>match ρ[i]? with
 |some (some d)=>.ok d h
 |_=>.stuck
theorem Ac {i:Nat} (h:PE X a (JS i)):Ev X E a (Aa i):=BM h fun σ H Q z1_=>by
 obtain ⟨m,ρ,hd,hr,er,p⟩:=z1_
 unfold Aa at p
 split at p
 ·rename_i d e
  obtain ⟨v,e1,r⟩:=er.2 i d e
  exact ⟨v,e1,p v m H (Aw _) (.refl _) hr r⟩
 ·exact p.elim
def mC (d:D):ME:=fun _ h=>.ok d h
theorem Ha {d:D} {v:V} (h:PE X a (tC v)) (r:∀m H,DV X.K m H d v):Ev X E a (mC d):=BM h fun σ H Q z2_=>by obtain ⟨m,ρ,hd,hr,er,p⟩:=z2_;exact (p v m H (Aw _) (.refl _) hr (r m H))
theorem Ak {i:Int} {j:Nat}:Ev X E (.Constant (.int i) j pos) (mC (.int i)):=Ha Qm fun _ _=>by simp [DV]
theorem Dz {i:Bool} {j:Nat}:Ev X E (.Constant (.bool i) j pos) (mC (.bl i)):=Ha Qn fun _ _=>by simp [DV]
theorem Gn {j:Nat}:Ev X E (.Constant .none j pos) (mC .non):=Ha Qo fun _ _=>by simp [DV]
theorem SI {x:Str} {i:Int} {t:Tok} {pos:Pos} (hg:Gl X x) (hm:X.mg x=some (.int i t)) (hd:(x==("__debug__":Str))=false:=by decide):Ev X E (.Name x pos) (mC (.int i)):=
 Ha (Qp (v:=.int i) hg hm ⟨t,rfl⟩ hd) fun _ _=>by simp [DV]
def Ag (op:D→D→HD→Out D) (f g:ME):ME:=fun ρ h=>(f ρ h).bind fun x h1=>(g ρ h1).bind fun y h2=>op x y h2
theorem IK {op:D→D→HD→Out D} {Q:VK} {R:V→V→Hp→Prop} {σ:L2.St} {H:Hp} (h:tD X.K E (Ag op f g) σ H Q)
 (i:∀m H2 h2 x y v u,HR X.K m h2 H2→DV X.K m H2 x v→DV X.K m H2 y u→Post X.K (rD X.K) m H2 E Q (op x y h2)→R v u H2):tD X.K E f σ H fun v H1=>tD X.K E g σ H1 fun u H2=>R v u H2:=by
 obtain ⟨m,ρ,hd,hr,er,p⟩:=h
 refine ⟨m,ρ,hd,hr,er,Post.bind p fun x h1 v m1 H1 _ p1 k1 hr1 r1 q1=>?_⟩
 refine ⟨m1,ρ,h1,hr1,er.keep p1 k1,Post.bind q1 fun y h2 u m2 H2 _ p2 k2 hr2 r2 q2=>?_⟩
 exact i m2 H2 h2 x y v u hr2 (DV.keep p2 k2 r1) r2 q2
def Bs (X:Cx) (f:Value→Value→Sem Value) (op:D→D→HD→Out D):Prop:=
 ∃r:R2,OpR X f r∧∀m H h E x y v u Q,HR X.K m h H→DV X.K m H x v→DV X.K m H y u→Post X.K (rD X.K) m H E Q (op x y h)→r v u H Q
theorem AV {o:Operator} {op:D→D→HD→Out D} (ho:Bs X (binaryOp o) op) (ha:Ev X E a f) (hb:Ev X E b g):Ev X E (.BinOp a o b pos) (Ag op f g):=by
 obtain ⟨r,ho,i⟩:=ho
 exact BM (Rh ho ha hb) fun σ H Q h=>IK h fun m H2 h2 x y v u hr rx ry q=>i m H2 h2 E x y v u Q hr rx ry q
theorem Ct {o:CmpOp} {op:D→D→HD→Out D} (ho:Bs X (compareOp o) op) (ha:Ev X E a f) (hb:Ev X E b g) (hm:behindInMarks o b=false):Ev X E (.Compare a [o] [b] pos) (Ag op f g):=by
 obtain ⟨r,ho,i⟩:=ho
 exact BM (Rw ho ha hb hm) fun σ H Q h=>IK h fun m H2 h2 x y v u hr rx ry q=>i m H2 h2 E x y v u Q hr rx ry q
def Hb:D→HD→Out Bool
 |.bl b,h=>.ok b h
 |_,_=>.stuck
def A5 (f:ME):MT:=fun ρ h=>(f ρ h).bind Hb
theorem MD {m:List Addr} {H:Hp} {x:D} {v:V} {h:HD} {Q:Bool→Hp→Prop} (hr:HR X.K m h H) (r:DV X.K m H x v) (q:Post X.K rB m H E Q (Hb x h)):∃k,v=.bl k∧Q k H:=by
 cases x with
 |bl b=>
  simp only [DV] at r
  exact ⟨b,r,q b m H (Aw _) (.refl _) hr rfl⟩
 |_=>exact q.elim
theorem BN {o:CmpOp} {op:D→D→HD→Out D} (ho:Bs X (compareOp o) op) (ha:Ev X E a f) (hb:Ev X E b g) (hm:behindInMarks o b=false):CG X E (.Compare a [o] [b] pos) (A5 (Ag op f g)):=by
 obtain ⟨r,ho,i⟩:=ho
 refine IJ (Rx ho ha hb hm) fun σ H Q h=>?_
 obtain ⟨m,ρ,hd,hr,er,p⟩:=h
 have h':tD X.K E (Ag op f g) σ H fun x H'=>∃k,x=.bl k∧Q k H':=
  ⟨m,ρ,hd,hr,er,Post.bind p fun x h1 v m1 H1 _ p1 k1 hr1 r1 q1=>MD hr1 r1 q1⟩
 exact IK h' fun m H2 h2 x y v u hr rx ry q=>i m H2 h2 E x y v u _ hr rx ry q
def DZ:D→HD→Out Bool
 |.non,h=>.ok false h
 |.bl b,h=>.ok b h
 |.int i,h=>.ok (i != 0) h
 |.tup ds,h=>.ok (!ds.isEmpty) h
 |.loc l,h=>match h[l]? with
  |some (.lst ds)=>.ok (!ds.isEmpty) h
  |_=>.stuck
 |_,_=>.stuck
def BO (f:ME):MT:=fun ρ h=>(f ρ h).bind DZ
theorem MF {α β:Type} {xs:List α} {ys:List β} (h:xs.length=ys.length):xs.isEmpty=ys.isEmpty:=by
 cases xs<;>cases ys<;>simp_all
theorem SJ {m:List Addr} {H:Hp} {x:D} {v:V} {h:HD} {Q:Bool→Hp→Prop} (hr:HR X.K m h H) (r:DV X.K m H x v) (q:Post X.K rB m H E Q (DZ x h)):∃k,J1 X.K v H k∧Q k H:=by
 have go:∀k,DZ x h=.ok k h→Q k H:=fun k e=>by rw [e] at q;exact q k m H (Aw _) (.refl _) hr rfl
 cases x with
 |non=>simp only [DV] at r;subst r;exact ⟨false,rfl,go _ rfl⟩
 |bl b=>simp only [DV] at r;subst r;exact ⟨b,rfl,go _ rfl⟩
 |int i=>simp only [DV] at r;subst r;exact ⟨_,rfl,go _ rfl⟩
 |str x=>exact q.elim
 |tup ds=>
  simp only [DV] at r
  obtain ⟨p,vs,rfl,hp,dv⟩:=r
  exact ⟨_,.inr ⟨vs,SqT.of hp,rfl⟩,by rw [←MF dv.len];exact go _ rfl⟩
 |loc l=>
  simp only [DV] at r
  obtain ⟨p,rfl,hp⟩:=r
  simp only [DZ] at q
  split at q
  ·rename_i ds e
   obtain ⟨vs,e1,dv⟩:=hr.cells l _ p e hp
   exact ⟨_,.inl ⟨vs,SqL.of e1,rfl⟩,by rw [←MF dv.len];exact q _ m H (Aw _) (.refl _) hr rfl⟩
  ·exact q.elim
 |scr ns=>exact q.elim
 |adr a=>exact q.elim
 |ty a=>exact q.elim
 |exc n fs=>exact q.elim
 |edic=>exact q.elim
 |glo n=>exact q.elim
 |clo a vs ds=>exact q.elim
theorem Di (ha:Ev X E a f) (he:∀D7,isTrue a X.env D7=(do let v ←D7;standAt a.pos;holding [v] (truthy v)):=by intro _;rfl):CG X E a (BO f):=
 IJ (RB ha he) fun σ H Q z3_=>by obtain ⟨m,ρ,hd,hr,er,p⟩:=z3_;exact (⟨m,ρ,hd,hr,er,Post.bind p fun x h1 v m1 H1 _ p1 k1 hr1 r1 q1=>SJ hr1 r1 q1⟩)
variable {tf tg:MT} {rest:List Expr}
def Fd (f g:MT):MT:=fun ρ h=>(f ρ h).bind fun b h1=>if b=true then g ρ h1 else .ok false h1
def B9 (f g:MT):MT:=fun ρ h=>(f ρ h).bind fun b h1=>if b=true then .ok true h1 else g ρ h1
def B0 (f:MT):MT:=fun ρ h=>(f ρ h).bind fun b h1=>.ok (!b) h1
abbrev Fe (X:Cx) (E:XK) (e:Expr) (f:MT):Prop:=PW X e (El X.K E f)
theorem MH {e:Expr} {t t':TT} (h:PW X e t) (i:∀σ H Q,t' σ H Q→t σ H Q):PW X e t':=fun wh pins s σ H Q I q=>h wh pins s σ H Q I (i σ H Q q)
theorem SK (ha:CG X E a tf):Fe X E (.BoolOp .And [a] pos) tf:=Qu ha
theorem Ff (ha:CG X E a tf):Fe X E (.BoolOp .Or [a] pos) tf:=Qv ha
theorem SL (ha:CG X E a tf) (hb:Fe X E (.BoolOp .And (b::rest) pos) tg):Fe X E (.BoolOp .And (a::b::rest) pos) (Fd tf tg):=
 MH (Qw ha hb) fun σ H Q z4_=>by obtain ⟨m,ρ,hd,hr,er,p⟩:=z4_;exact (⟨m,ρ,hd,hr,er,Post.bind p fun x h1 v m1 H1 _ p1 k1 hr1 r1 q1=>by
  cases r1
  cases x with
  |true=>exact ⟨m1,ρ,h1,hr1,er.keep p1 k1,q1⟩
  |false=>exact q1 false m1 H1 (Aw _) (.refl _) hr1 rfl⟩)
theorem Fg (ha:CG X E a tf) (hb:Fe X E (.BoolOp .Or (b::rest) pos) tg):Fe X E (.BoolOp .Or (a::b::rest) pos) (B9 tf tg):=
 MH (Qx ha hb) fun σ H Q z5_=>by obtain ⟨m,ρ,hd,hr,er,p⟩:=z5_;exact (⟨m,ρ,hd,hr,er,Post.bind p fun x h1 v m1 H1 _ p1 k1 hr1 r1 q1=>by
  cases r1
  cases x with
  |false=>exact ⟨m1,ρ,h1,hr1,er.keep p1 k1,q1⟩
  |true=>exact q1 true m1 H1 (Aw _) (.refl _) hr1 rfl⟩)
theorem ES (h:Fe X E a tf):CG X E a tf:=PW.pt h
theorem DA (ha:CG X E a tf):CG X E (.UnaryOp .Not a pos) (B0 tf):=
 IJ (Qy ha) fun σ H Q z6_=>by obtain ⟨m,ρ,hd,hr,er,p⟩:=z6_;exact (⟨m,ρ,hd,hr,er,Post.bind p fun x h1 v m1 H1 _ p1 k1 hr1 r1 q1=>by
  cases r1
  exact q1 _ m1 H1 (Aw _) (.refl _) hr1 rfl⟩)
def Em (f g:ME):ME:=fun ρ h=>(f ρ h).bind fun x h1=>match x with
 |.bl true=>g ρ h1
 |.bl false=>.ok (.bl false) h1
 |_=>.stuck
def MK (f g:ME):ME:=fun ρ h=>(f ρ h).bind fun x h1=>match x with
 |.bl true=>.ok (.bl true) h1
 |.bl false=>g ρ h1
 |_=>.stuck
def IP (f:ME):ME:=fun ρ h=>(f ρ h).bind fun x h1=>match x with
 |.bl b=>.ok (.bl (!b)) h1
 |_=>.stuck
theorem Gp {o:BoolOp} (h:Ev X E a f):Ev X E (.BoolOp o [a] pos) f:=QE h
theorem Gq (ha:Ev X E a f) (hb:Ev X E (.BoolOp .And (b::rest) pos) g):Ev X E (.BoolOp .And (a::b::rest) pos) (Em f g):=
 BM (QF ha hb) fun σ H Q ⟨m,ρ,hd,hr,er,p⟩=>⟨m,ρ,hd,hr,er,Post.bind p fun x h1 v m1 H1 _ p1 k1 hr1 r1 q1=>by
  cases x with
  |bl b=>
   refine ⟨b,by simpa [rD,DV] using r1,?_⟩
   cases b with
   |true=>exact ⟨m1,ρ,h1,hr1,er.keep p1 k1,q1⟩
   |false=>exact q1 _ m1 H1 (Aw _) (.refl _) hr1 (by simp [rD,DV])
  |_=>exact q1.elim⟩
theorem SM (ha:Ev X E a f):Ev X E (.UnaryOp .Not a pos) (IP f):=
 BM (QG ha) fun σ H Q z9_=>by obtain ⟨m,ρ,hd,hr,er,p⟩:=z9_;exact (⟨m,ρ,hd,hr,er,Post.bind p fun x h1 v m1 H1 _ p1 k1 hr1 r1 q1=>by
  cases x with
  |bl b=>exact ⟨b,by simpa [rD,DV] using r1,q1 _ m1 H1 (Aw _) (.refl _) hr1 (by simp [rD,DV])⟩
  |_=>exact q1.elim⟩)
def IQ (t:MT) (f g:ME):ME:=fun ρ h=>(t ρ h).bind fun b h1=>if b=true then f ρ h1 else g ρ h1
theorem SO (hc:CG X E c tf) (ha:Ev X E a f) (hb:Ev X E b g):Ev X E (.IfExp c a b pos) (IQ tf f g):=
 BM (QJ hc ha hb) fun σ H Q z10_=>by obtain ⟨m,ρ,hd,hr,er,p⟩:=z10_;exact (⟨m,ρ,hd,hr,er,Post.bind p fun x h1 v m1 H1 _ p1 k1 hr1 r1 q1=>by
  cases r1
  cases x with
  |true=>exact ⟨m1,ρ,h1,hr1,er.keep p1 k1,q1⟩
  |false=>exact ⟨m1,ρ,h1,hr1,er.keep p1 k1,q1⟩⟩)
def EU (op op':D→D→HD→Out D) (f g k:ME):ME:=fun ρ h=>(f ρ h).bind fun x h1=>(g ρ h1).bind fun y h2=>(op x y h2).bind fun z h3=>match z with
 |.bl true=>(k ρ h3).bind fun w h4=>op' y w h4
 |.bl false=>.ok (.bl false) h3
 |_=>.stuck
theorem ML {r r':R2} {op op':D→D→HD→Out D} {o o':Value→Value→Sem Value} (i:∀m H h E x y v u Q,HR X.K m h H→DV X.K m H x v→DV X.K m H y u→Post X.K (rD X.K) m H E Q (op x y h)→r v u H Q)
 (i':∀m H h E x y v u Q,HR X.K m h H→DV X.K m H x v→DV X.K m H y u→Post X.K (rD X.K) m H E Q (op' x y h)→r' v u H Q) {σ:L2.St} {H:Hp} {Q:VK} (h:tD X.K E (EU op op' f g k) σ H Q):
 J0 r r' (tD X.K E f) (tD X.K E g) (tD X.K E k) σ H Q:=by
 obtain ⟨m,ρ,hd,hr,er,p⟩:=h
 refine ⟨m,ρ,hd,hr,er,Post.bind p fun x h1 v m1 H1 _ p1 k1 hr1 r1 q1=>?_⟩
 refine ⟨m1,ρ,h1,hr1,er.keep p1 k1,Post.bind q1 fun y h2 u m2 H2 _ p2 k2 hr2 r2 q2=>?_⟩
 refine i m2 H2 h2 E x y v u _ hr2 (DV.keep p2 k2 r1) r2 (Post.bind q2 fun z h3 w m3 H3 _ p3 k3 hr3 r3 q3=>?_)
 cases z with
 |bl b=>
  refine ⟨b,by simpa [rD,DV] using r3,?_⟩
  cases b with
  |false=>exact q3 _ m3 H3 (Aw _) (.refl _) hr3 (by simp [rD,DV])
  |true=>
   refine ⟨m3,ρ,h3,hr3,((er.keep p1 k1).keep p2 k2).keep p3 k3,Post.bind q3 fun z h4 w' m4 H4 _ p4 k4 hr4 r4 q4=>?_⟩
   exact i' m4 H4 h4 E y z u w' Q hr4 (DV.keep p4 k4 (DV.keep p3 k3 r2)) r4 q4
 |_=>exact q3.elim
theorem MM {o o':CmpOp} {op op':D→D→HD→Out D} (ho:Bs X (compareOp o) op) (ho':Bs X (compareOp o') op') (ha:Ev X E a f) (hb:Ev X E b g) (hc:Ev X E c k)
 (hm:lastMarks [o,o'] [b,c]=false:=by with_unfolding_all rfl):Ev X E (.Compare a [o,o'] [b,c] pos) (EU op op' f g k):=by
 obtain ⟨r,ho,i⟩:=ho
 obtain ⟨r',ho',i'⟩:=ho'
 exact BM (Ry ho ho' ha hb hc hm) fun σ H Q h=>ML (o:=compareOp o) (o':=compareOp o') i i' h
theorem SQ {o o':CmpOp} {op op':D→D→HD→Out D} (ho:Bs X (compareOp o) op) (ho':Bs X (compareOp o') op') (ha:Ev X E a f) (hb:Ev X E b g) (hc:Ev X E c k)
 (hm:lastMarks [o,o'] [b,c]=false:=by with_unfolding_all rfl):CG X E (.Compare a [o,o'] [b,c] pos) (A5 (EU op op' f g k)):=by
 obtain ⟨r,ho,i⟩:=ho
 obtain ⟨r',ho',i'⟩:=ho'
 refine IJ (Rz ho ho' ha hb hc hm) fun σ H Q h=>?_
 obtain ⟨m,ρ,hd,hr,er,p⟩:=h
 exact ML (o:=compareOp o) (o':=compareOp o') i i' ⟨m,ρ,hd,hr,er,Post.bind p fun x h1 v m1 H1 _ p1 k1 hr1 r1 q1=>MD hr1 r1 q1⟩
variable {es:List Expr} {fa:MA}
def Ad:MA:=fun _ h=>.ok [] h
def Ab (f:ME) (r:MA):MA:=fun ρ h=>(f ρ h).bind fun x h1=>(r ρ h1).bind fun xs h2=>.ok (x::xs) h2
theorem Ah:Dh X E [] Ad:=MB RJ fun σ H Q z11_=>by obtain ⟨m,ρ,hd,hr,er,p⟩:=z11_;exact (p [] m H (Aw _) (.refl _) hr .nil)
theorem Ae (ha:Ev X E a f) (hr:Dh X E es fa) (hs:starEach (a::es) X.env=(false,eval a X.env)::starEach es X.env:=by rfl):Dh X E (a::es) (Ab f fa):=
 MB (RK ha hr hs) fun σ H Q z12_=>by obtain ⟨m,ρ,hd,hr,er,p⟩:=z12_;exact (⟨m,ρ,hd,hr,er,Post.bind p fun x h1 v m1 H1 _ p1 k1 hr1 r1 q1=>
  ⟨m1,ρ,h1,hr1,er.keep p1 k1,Post.bind q1 fun xs h2 vs m2 H2 _ p2 k2 hr2 r2 q2=>q2 _ m2 H2 (Aw _) (.refl _) hr2 (DVs.cons (DV.keep p2 k2 r1) r2)⟩⟩)
def B1 (fa:MA):ME:=fun ρ h=>(fa ρ h).bind fun xs h1=>if xs.length≤sizeLine then .ok (.tup xs) h1 else .stuck
def Ca (xs:List D) (h:HD):Out D:=if xs.length≤sizeLine then .ok (.loc h.length) (h++[.lst xs]) else .stuck
def Cu (fa:MA):ME:=fun ρ h=>(fa ρ h).bind Ca
theorem Gr {m:List Addr} {H:Hp} {h:HD} {xs:List D} {vs:List V} {Q:VK} (hr:HR X.K m h H) (r:DVs X.K m H xs vs) (q:Post X.K (rD X.K) m H E Q (.ok (.tup xs) h)):∀p,H p=none→Q (.ref p) (Am H p (.tup vs)):=fun p hp=>
 q (.ref p) m _ (Aw _) (.new hp) (hr.new hp) (by simp only [rD,DV];exact ⟨p,vs,rfl,Cf,r.keep (Aw _) (.new hp)⟩)
theorem Hc {m:List Addr} {H:Hp} {h:HD} {xs:List D} {vs:List V} {Q:VK} (hr:HR X.K m h H) (r:DVs X.K m H xs vs) (q:Post X.K (rD X.K) m H E Q (Ca xs h)):vs.length≤sizeLine∧∀p,H p=none→Q (.ref p) (Am H p (.lst vs)):=by
 unfold Ca at q
 by_cases hz:xs.length≤sizeLine
 ·rw [if_pos hz] at q
  refine ⟨by rw [←r.len];exact hz,fun p hp=>?_⟩
  refine q (.ref p) (m++[p]) _ (F9 _ _) (.new hp) (hr.newCell hp ⟨vs,Cf,r.keep (F9 _ _) (.new hp)⟩) ?_
  simp only [rD,DV]
  exact ⟨p,rfl,by rw [←hr.len];simp⟩
 ·rw [if_neg hz] at q;exact q.elim
theorem EV {x1:Nat} (h:Dh X E es fa):Ev X E (.Tuple es x1 pos) (B1 fa):=
 BM (RN h) fun σ H Q z13_=>by obtain ⟨m,ρ,hd,hr,er,p⟩:=z13_;exact (⟨m,ρ,hd,hr,er,Post.bind p fun xs h1 vs m1 H1 _ p1 k1 hr1 r1 q1=>by
  by_cases hz:xs.length≤sizeLine
  ·rw [if_pos hz] at q1
   exact ⟨by rw [←DVs.len r1];exact hz,Gr hr1 r1 q1⟩
  ·rw [if_neg hz] at q1;exact q1.elim⟩)
theorem En (h:Dh X E es fa):Ev X E (.List es pos) (Cu fa):=
 BM (RO h) fun σ H Q z14_=>by obtain ⟨m,ρ,hd,hr,er,p⟩:=z14_;exact (⟨m,ρ,hd,hr,er,Post.bind p fun xs h1 vs m1 H1 _ p1 k1 hr1 r1 q1=>Hc hr1 r1 q1⟩)
inductive J7 (K:PySem.W.Frag) (F:List D→HD→Out D) (vs:List V) (H:Hp) (Q:VK) (E:XK):Prop where
 |mk (m:List Addr) (ds:List D) (h:HD) (hr:HR K m h H) (r:DVs K m H ds vs) (p:Post K (rD K) m H E0 Q (F ds h)):J7 K F vs H Q E
def Ar (n:Nat) (F:List D→HD→Out D):Prop:=∀ds h,ds.length≠n→F ds h=.stuck
theorem Ar.len {K:PySem.W.Frag} {n:Nat} {F:List D→HD→Out D} (ar:Ar n F) {vs:List V} {H:Hp} {Q:VK} {E':XK} (h:J7 K F vs H Q E'):vs.length=n:=by
 obtain ⟨m,ds,hd,hr,r,p⟩:=h
 rw [←r.len]
 by_cases e:ds.length=n
 ·exact e
 ·rw [ar ds hd e] at p;exact p.elim
def YV (F:HD→Out D):List D→HD→Out D:=fun ds h=>match ds with
 |[]=>F h
 |_=>.stuck
def Al (F:D→HD→Out D):List D→HD→Out D:=fun ds h=>match ds with
 |[a]=>F a h
 |_=>.stuck
def BV (F:D→D→HD→Out D):List D→HD→Out D:=fun ds h=>match ds with
 |[a,b]=>F a b h
 |_=>.stuck
def SS (F:D→D→D→HD→Out D):List D→HD→Out D:=fun ds h=>match ds with
 |[a,b,c]=>F a b c h
 |_=>.stuck
def Af (F:List D→HD→Out D) (fa:MA):ME:=fun ρ h=>(fa ρ h).bind F
def CH (X:Cx) (f:Value) (F:List D→HD→Out D):Prop:=
 ∃r:List V→Hp→VK→Prop,Dw X f r∧∀m H h E ds vs Q,HR X.K m h H→DVs X.K m H ds vs→Post X.K (rD X.K) m H E Q (F ds h)→r vs H Q
theorem A6 {id:String} {F:List D→HD→Out D} {x:Str} {p pos:Pos} {e:Expr} (hc:CH X (.builtin id) F) (hg:Gl X x) (hm:X.mg x=none) (hv:bootBuiltins x=some (.builtin id)) (ha:Dh X E (e::es) fa) (hn:x≠"__name__":=by decide) (hdb:(x==("__debug__":Str))=false:=by decide)
 (hs:starEach (e::es) X.env=(false,eval e X.env)::starEach es X.env:=by rfl) (hpl:(backTo pos (starEach es X.env)).any (·.1)=false:=by rfl):Ev X E (.Call (.Name x p) (e::es) [] pos) (Af F fa):=by
 obtain ⟨r,hc,i⟩:=hc
 exact BM (RU hc hg hm hv ha hn hdb hs hpl) fun σ H Q z17_=>by obtain ⟨m,ρ,hd,hr,er,p⟩:=z17_;exact (⟨m,ρ,hd,hr,er,Post.bind p fun xs h1 vs m1 H1 e1 p1 k1 hr1 r1 q1=>i m1 H1 h1 E xs vs Q hr1 r1 q1⟩)
theorem DB {id:String} {F:List D→HD→Out D} {x:Str} {p pos:Pos} {e:Expr} (hc:CH X (.type id) F) (hg:Gl X x) (hm:X.mg x=none) (hv:bootBuiltins x=some (.type id)) (ha:Dh X E (e::es) fa) (hn:x≠"__name__":=by decide) (hdb:(x==("__debug__":Str))=false:=by decide)
 (hs:starEach (e::es) X.env=(false,eval e X.env)::starEach es X.env:=by rfl) (hpl:(backTo pos (starEach es X.env)).any (·.1)=false:=by rfl):Ev X E (.Call (.Name x p) (e::es) [] pos) (Af F fa):=by
 obtain ⟨r,hc,i⟩:=hc
 exact BM (RV hc hg hm hv ha hn hdb hs hpl) fun σ H Q z18_=>by obtain ⟨m,ρ,hd,hr,er,p⟩:=z18_;exact (⟨m,ρ,hd,hr,er,Post.bind p fun xs h1 vs m1 H1 e1 p1 k1 hr1 r1 q1=>i m1 H1 h1 E xs vs Q hr1 r1 q1⟩)
end
section
variable {X:Cx} {E:XK}
theorem Bp {K:PySem.W.Frag} {m:List Addr} {H:Hp} {h:HD} {d:D} {v:V} {Q:VK} (hr:HR K m h H) (q:Post K (rD K) m H E Q (.ok d h)) (r:DV K m H d v):Q v H:=q v m H (Aw _) (.refl _) hr r
theorem op_catT0:OpR X (binaryOp .Add) (fun x y H Q=>∃a b ys,x=.ref a∧y=.ref b∧SqT X.K H a []∧SqT X.K H b ys∧Q (.ref b) H):=by
 intro pins s σ H x y v u Q I rx ry h
 obtain ⟨a,b,ys,rfl,rfl,ha,hb,q⟩:=h
 cases rx
 cases ry
 obtain ⟨its,r1,p1,_⟩:=I.tuple ha
 obtain ⟨its2,r2,p2,_⟩:=I.tuple hb
 cases r1
 obtain ⟨⟨cls,dd,data,sl⟩,ho,hc,n,hd⟩:=id p1
 obtain ⟨⟨cls2,dd2,data2,sl2⟩,ho2,hc2,n2,hd2⟩:=id p2
 simp only at hc hd hc2 hd2
 subst hc hd hc2 hd2
 exact concat_meets ⟨_,ho,rfl⟩ ⟨_,ho2,rfl⟩ noFill_tuple_add seq_tuple_add PySem.F.slot_tuple_add PySem.F.entry_tuple_add (PySem.F.args_tuple_add_2 _ _)
  (tuple_addW0 a b _ its2.toArray n n2 dd dd2 sl sl2 (by simp)) ⟨ho,ho2,⟨.ref b,H,I,rfl,q⟩⟩
def A2:D→D→HD→Out D
 |.int i,.int j,h=>.ok (.int (i+j)) h
 |.str x,.str y,h=>if x.length+y.length≤sizeLine then .ok (.str (x++y)) h else .stuck
 |.tup xs,.tup ys,h=>if xs.length+ys.length≤sizeLine then .ok (.tup (xs++ys)) h else .stuck
 |.loc l,.loc k,h=>match h[l]?,h[k]? with
  |some (.lst xs),some (.lst ys)=>Ca (xs++ys) h
  |_,_=>.stuck
 |_,_,_=>.stuck
theorem BP:Bs X (binaryOp .Add) A2:=by
 refine ⟨_,op_add.or (op_catT0.or (op_catT.or (op_cat.or RC))),fun m H h E x y v u Q hr rx ry q=>?_⟩
 unfold A2 at q
 split at q
 ·simp only [DV] at rx ry
  subst rx ry
  exact .inl ⟨_,_,rfl,rfl,Bp hr q (by simp [DV])⟩
 ·simp only [DV] at rx ry
  subst rx ry
  split at q
  ·rename_i hz
   exact .inr (.inr (.inr (.inr ⟨_,_,rfl,rfl,hz,Bp hr q (by simp [DV])⟩)))
  ·exact q.elim
 ·rename_i xs ys
  simp only [DV] at rx ry
  obtain ⟨a,vs,rfl,ha,dx⟩:=rx
  obtain ⟨b,ws,rfl,hb,dy⟩:=ry
  split at q
  ·rename_i hz
   cases xs with
   |nil=>
    simp only [DVs] at dx
    subst dx
    exact .inr (.inl ⟨a,b,ws,rfl,rfl,SqT.of ha,SqT.of hb,Bp hr q (by simp only [DV];exact ⟨b,ws,rfl,hb,dy⟩)⟩)
   |cons x xs=>
    refine .inr (.inr (.inl ⟨a,b,vs,ws,rfl,rfl,SqT.of ha,SqT.of hb,?_,by rw [←dx.len,←dy.len];exact hz,fun e=>?_,fun e=>?_⟩))
    ·intro e;have:=dx.len;rw [e] at this;simp at this
    ·subst e
     have:ys=[]:=by have:=dy.len;simpa using this
     subst this
     exact Bp hr q (by simp only [DV];exact ⟨a,vs,rfl,ha,by simpa using dx⟩)
    ·exact Gr hr (dx.app dy) q
  ·exact q.elim
 ·simp only [DV] at rx ry
  obtain ⟨a,rfl,ha⟩:=rx
  obtain ⟨b,rfl,hb⟩:=ry
  split at q
  ·rename_i xs ys e1 e2
   obtain ⟨vs,h1,d1⟩:=hr.cells _ _ a e1 ha
   obtain ⟨ws,h2,d2⟩:=hr.cells _ _ b e2 hb
   obtain ⟨z,q'⟩:=Hc hr (d1.app d2) q
   exact .inr (.inr (.inr (.inl ⟨a,b,vs,ws,rfl,rfl,h1,h2,by simpa using z,q'⟩)))
  ·exact q.elim
 ·exact q.elim
def intD (f:Int→Int→D) (c:Int→Int→Prop) [∀i j,Decidable (c i j)]:D→D→HD→Out D
 |.int i,.int j,h=>if c i j then .ok (f i j) h else .stuck
 |_,_,_=>.stuck
theorem J8 {o:Value→Value→Sem Value} {f:Int→Int→V} {g:Int→Int→D} {c c':Int→Int→Prop} [∀i j,Decidable (c' i j)] (h:OpR X o (rI c f)) (hc:∀i j,c' i j→c i j) (hg:∀m H i j,DV X.K m H (g i j) (f i j)):Bs X o (intD g c'):=by
 refine ⟨_,h,fun m H h E x y v u Q hr rx ry q=>?_⟩
 unfold intD at q
 split at q
 ·simp only [DV] at rx ry
  subst rx ry
  split at q
  ·rename_i hc'
   exact ⟨_,_,rfl,rfl,hc _ _ hc',Bp hr q (hg _ _ _ _)⟩
  ·exact q.elim
 ·exact q.elim
def EW (f:Int→Int→D):D→D→HD→Out D
 |.int i,.int j,h=>.ok (f i j) h
 |_,_,_=>.stuck
theorem J9 {o:Value→Value→Sem Value} {f:Int→Int→V} {g:Int→Int→D} (h:OpR X o (Fc f)) (hg:∀m H i j,DV X.K m H (g i j) (f i j)):Bs X o (EW g):=by
 refine ⟨_,h,fun m H h E x y v u Q hr rx ry q=>?_⟩
 unfold EW at q
 split at q
 ·simp only [DV] at rx ry
  subst rx ry
  exact ⟨_,_,rfl,rfl,Bp hr q (hg _ _ _ _)⟩
 ·exact q.elim
abbrev Ka:=EW fun i j=>.int (i - j)
theorem MN:Bs X (binaryOp .Sub) Ka:=J9 Rj fun _ _ _ _=>by simp [DV]
abbrev Hd:=EW fun i j=>.bl (decide (i<j))
abbrev He:=EW fun i j=>.bl (decide (i≤j))
abbrev YW:=EW fun i j=>.bl (decide (j<i))
theorem IS:Bs X (compareOp .Lt) Hd:=J9 Rr fun _ _ _ _=>by simp [DV]
theorem IT:Bs X (compareOp .LtE) He:=J9 Rt fun _ _ _ _=>by simp [DV]
instance (i j:Int):Decidable (CMul i j):=by unfold CMul;infer_instance
instance (i j:Int):Decidable (Mc i j):=by unfold Mc;infer_instance
instance (i j:Int):Decidable (Gg i j):=by unfold Gg;infer_instance
abbrev D0:=intD (fun i j=>.int (i % j)) fun _ j=>0<j
theorem Gs:Bs X (binaryOp .Mod) D0:=J8 Rk (fun _ _ h=>h) fun _ _ _ _=>by simp [DV]
abbrev YX:=intD (fun i j=>.int (i^j.toNat)) Gg
abbrev IU:=intD (fun i j=>.int (i*2^j.toNat)) Gg
theorem SU:Bs X (binaryOp .LShift) IU:=J8 Rl (fun _ _ h=>h) fun _ _ _ _=>by simp [DV]
def YY:D→D→HD→Out D
 |.int i,.int j,h=>if CMul i j then .ok (.int (i*j)) h else .stuck
 |.loc l,.int k,h=>match h[l]? with
  |some (.lst xs)=>if -(2^63)≤k∧k<2^63 then Ca (List.replicate k.toNat xs).flatten h else .stuck
  |_=>.stuck
 |_,_,_=>.stuck
theorem op_isB:OpR X (compareOp .Is) (fun x y H Q=>∃b c,x=.bl b∧y=.bl c∧Q (.bl (b==c)) H):=by
 intro pins s σ H x y v u Q I rx ry h
 obtain ⟨b,c,rfl,rfl,q⟩:=h
 cases rx
 cases ry
 exact wpAny_is_plain rfl ⟨.bl _,H,I,by cases b<;>cases c<;>rfl,q⟩
theorem op_isnotB:OpR X (compareOp .IsNot) (fun x y H Q=>∃b c,x=.bl b∧y=.bl c∧Q (.bl (!(b==c))) H):=by
 intro pins s σ H x y v u Q I rx ry h
 obtain ⟨b,c,rfl,rfl,q⟩:=h
 cases rx
 cases ry
 exact wpAny_isNot_plain rfl ⟨.bl _,H,I,by cases b<;>cases c<;>rfl,q⟩
def Kb:D→Bool
 |.non=>true
 |_=>false
def Gu:D→D→HD→Out D
 |.bl b,.bl c,h=>.ok (.bl (b==c)) h
 |x,.non,h=>.ok (.bl (Kb x)) h
 |_,_,_=>.stuck
def EX:D→D→HD→Out D
 |.bl b,.bl c,h=>.ok (.bl (!(b==c))) h
 |x,.non,h=>.ok (.bl (!Kb x)) h
 |_,_,_=>.stuck
theorem MP {m:List Addr} {H:Hp} {x:D} {v:V} (r:DV X.K m H x v):decide (v=.non)=Kb x:=by
 cases x<;>simp only [DV] at r<;>first |(subst r;rfl) |(obtain ⟨_,rfl,_⟩:=r;rfl) |(obtain ⟨_,_,rfl,_⟩:=r;rfl) |(obtain ⟨_,_,_,rfl,_⟩:=r;rfl) |(obtain ⟨rfl,_⟩:=r;rfl)
theorem SV:Bs X (compareOp .Is) Gu:=by
 refine ⟨_,op_isB.or Ru,fun m H h E x y v u Q hr rx ry q=>?_⟩
 unfold Gu at q
 split at q
 ·simp only [DV] at rx ry
  subst rx ry
  exact .inl ⟨_,_,rfl,rfl,Bp hr q (by simp [DV])⟩
 ·simp only [DV] at ry
  subst ry
  exact .inr ⟨rfl,Bp hr q (by simp [DV,MP rx])⟩
 ·exact q.elim
theorem MQ:Bs X (compareOp .IsNot) EX:=by
 refine ⟨_,op_isnotB.or Rv,fun m H h E x y v u Q hr rx ry q=>?_⟩
 unfold EX at q
 split at q
 ·simp only [DV] at rx ry
  subst rx ry
  exact .inl ⟨_,_,rfl,rfl,Bp hr q (by simp [DV])⟩
 ·simp only [DV] at ry
  subst ry
  exact .inr ⟨rfl,Bp hr q (by simp [DV,MP rx])⟩
 ·exact q.elim
end
def AZ {α:Type}:List (Option α)→Option (List α)
 |[]=>some []
 |none::_=>none
 |some a::r=>(AZ r).map (a::·)
def AB (h:HD):Nat→D→Option PyData
 |_,.non=>some .none
 |_,.bl b=>some (.bool b)
 |_,.int i=>some (.int i)
 |_,.str x=>some (.str x)
 |n+1,.tup ds=>(AZ (ds.map (AB h n))).map .tuple
 |n+1,.loc l=>match h[l]? with
  |some (.lst ds)=>(AZ (ds.map (AB h n))).map .list
  |_=>none
 |_,_=>none
section
variable {X:Cx} {E:XK} {pins:List (Addr×Obj)} {σ:L2.St} {H:Hp} {s:Shared} {m:List Addr} {h:HD}
theorem Kc {n:Nat} (ih:∀(d:D) (v:V) (u:Value) (p:PyData),DV X.K m H d v→RelV v u→AB h n d=some p→∃as,Reads s.heap u p as):
 ∀(ds:List D) (vs:List V) (us:List Value) (ps:List PyData),DVs X.K m H ds vs→Vals vs us→AZ (ds.map (AB h n))=some ps→∃as,ReadsAll s.heap us ps as
 |[],vs,us,ps,r,q,e=>by
  simp only [DVs] at r
  subst r
  cases q
  simp [AZ] at e
  subst e
  exact ⟨[],.nil⟩
 |d::ds,vs,us,ps,r,q,e=>by
  simp only [DVs] at r
  obtain ⟨v,w,rfl,rv,rw'⟩:=r
  cases q with
  |cons q1 q2=>
   rw [Bj] at e
   cases ed:AB h n d with
   |none=>rw [ed] at e;simp [AZ] at e
   |some p=>
    rw [ed] at e
    simp only [AZ,qaR] at e
    obtain ⟨ps',e1,rfl⟩:=e
    obtain ⟨as,h1⟩:=ih d v _ p rv q1 ed
    obtain ⟨bs,h2⟩:=Kc ih ds w _ ps' rw' q2 e1
    exact ⟨as++bs,.cons h1 h2⟩
theorem MR (hok:HOk X.prog X.w H s.heap) (hr:HR X.K m h H):∀(n:Nat) (d:D) (v:V) (u:Value) (p:PyData),DV X.K m H d v→RelV v u→AB h n d=some p→∃as,Reads s.heap u p as:=by
 intro n
 induction n with
 |zero=>
  intro d v u p r q e
  cases d<;>simp only [AB,DV,Option.some.injEq] at e r<;>try (cases e;done)
  ·subst e r;cases q;exact ⟨[],.none⟩
  ·subst e r;cases q;exact ⟨[],.bool _⟩
  ·subst e r;obtain ⟨t,rfl⟩:=q;exact ⟨[],.int _ _⟩
  ·subst e r;obtain ⟨t,rfl⟩:=q;exact ⟨[],.str _ _⟩
 |succ n ih=>
  intro d v u p r q e
  cases d with
  |non=>simp only [AB,DV,Option.some.injEq] at e r;subst e r;cases q;exact ⟨[],.none⟩
  |bl b=>simp only [AB,DV,Option.some.injEq] at e r;subst e r;cases q;exact ⟨[],.bool _⟩
  |int i=>simp only [AB,DV,Option.some.injEq] at e r;subst e r;obtain ⟨t,rfl⟩:=q;exact ⟨[],.int _ _⟩
  |str x=>simp only [AB,DV,Option.some.injEq] at e r;subst e r;obtain ⟨t,rfl⟩:=q;exact ⟨[],.str _ _⟩
  |tup ds=>
   simp only [AB,DV,qaR] at e r
   obtain ⟨a,vs,rfl,ha,dv⟩:=r
   obtain ⟨ps,e1,rfl⟩:=e
   cases q
   obtain ⟨_,its,rv,⟨o,ho,hc,k,hd⟩,_⟩:=hok a _ ha
   obtain ⟨as,h1⟩:=Kc ih ds vs its ps dv rv e1
   exact ⟨as,.tuple ho hc hd (by simpa using h1)⟩
  |loc l=>
   simp only [DV] at r
   obtain ⟨a,rfl,ha⟩:=r
   cases q
   simp only [AB] at e
   split at e
   ·rename_i ds el
    simp only [qaR] at e
    obtain ⟨ps,e1,rfl⟩:=e
    obtain ⟨vs,hv,dv⟩:=hr.cells l _ a el ha
    obtain ⟨_,its,k,rv,ho⟩:=hok a _ hv
    obtain ⟨as,h1⟩:=Kc ih ds vs its ps dv rv e1
    exact ⟨_,.list ho rfl rfl (by simpa using h1)⟩
   ·cases e
  |scr ns=>simp [AB] at e
  |adr a=>simp [AB] at e
  |ty a=>simp [AB] at e
  |exc n fs=>simp [AB] at e
  |edic=>simp [AB] at e
  |glo n=>simp [AB] at e
  |clo a vs ds=>simp [AB] at e
def Eo (f:PyData→PyData→Bool):D→D→HD→Out D:=fun x y h=>match AB h 8 x,AB h 8 y with
 |some p,some q=>if SeqAt.shaped p=true∧SeqAt.shaped q=true then .ok (.bl (f p q)) h else .stuck
 |_,_=>.stuck
abbrev Ep:=Eo PyData.eqv
abbrev D1:=Eo fun p q=>!PyData.eqv p q
theorem MU {o:CmpOp} {f:PyData→PyData→Bool}
 (rule:∀{s:Shared} {a b:Value} {p q:PyData} {as bs:List Addr} {Q:Value→Shared→Prop},Reads s.heap a p as→Reads s.heap b q bs→SeqAt.shaped p=true→SeqAt.shaped q=true→Q (.bool (f p q)) s→wpAny (model X.prog X.w) X.A (compareOp o a b) Q X.xe s):
 Bs X (compareOp o) (Eo f):=by
 refine ⟨fun v u H Q=>∃m h x y,HR X.K m h H∧DV X.K m H x v∧DV X.K m H y u∧Post X.K (rD X.K) m H E0 Q (Eo f x y h),?_,fun m H h E x y v u Q hr rx ry q=>⟨m,h,x,y,hr,rx,ry,?_⟩⟩
 ·intro pins s σ H x y v u Q I rx ry hq
  obtain ⟨m,h,dx,dy,hr,r1,r2,q⟩:=hq
  unfold Eo at q
  split at q
  ·rename_i p p' e1 e2
   split at q
   ·rename_i hs
    obtain ⟨as,h1⟩:=MR I.hok hr 8 dx x v p r1 rx e1
    obtain ⟨bs,h2⟩:=MR I.hok hr 8 dy y u p' r2 ry e2
    exact rule h1 h2 hs.1 hs.2 ⟨.bl _,H,I,rfl,Bp hr q (by simp [DV])⟩
   ·exact q.elim
  ·exact q.elim
 ·unfold Eo at q ⊢
  split
  ·split
   ·rename_i e1 e2 hs
    rw [e1,e2] at q
    simp only [hs] at q
    exact q
   ·rename_i e1 e2 hs
    rw [e1,e2] at q
    simp only [hs] at q
    exact q.elim
  ·rename_i hn
   split at q
   ·rename_i e1 e2
    exact (hn _ _ e1 e2).elim
   ·exact q.elim
theorem SW (hu:X.A.units+64<cLine):Bs X (compareOp .Eq) Ep:=MU fun ra rb ha hb h=>eq_dataH ra rb ha hb hu h
theorem SX (hu:X.A.units+64<cLine):Bs X (compareOp .NotEq) D1:=MU fun ra rb ha hb h=>ne_dataH ra rb ha hb hu h
def CI:D→Option V
 |.non=>some .non
 |.bl b=>some (.bl b)
 |.int i=>some (.int i)
 |.str x=>some (.str x)
 |_=>none
theorem MV {d:D} {v w:V} (r:DV X.K m H d v) (e:CI d=some w):v=w∧DW v=true:=by
 cases d<;>simp only [CI,Option.some.injEq,DV] at e r<;>first |(subst e r;exact ⟨rfl,rfl⟩) |cases e
theorem MW:∀{ds:List D} {vs ws:List V},DVs X.K m H ds vs→AZ (ds.map CI)=some ws→vs=ws∧vs.all DW=true
 |[],vs,ws,r,e=>by
  simp only [DVs] at r
  simp [AZ] at e
  subst r e
  exact ⟨rfl,rfl⟩
 |d::ds,vs,ws,r,e=>by
  simp only [DVs] at r
  obtain ⟨v,w,rfl,rv,rw'⟩:=r
  rw [Bj] at e
  cases ed:CI d with
  |none=>rw [ed] at e;simp [AZ] at e
  |some p=>
   rw [ed] at e
   simp only [AZ,qaR] at e
   obtain ⟨ps',e1,rfl⟩:=e
   obtain ⟨h1,h2⟩:=MV rv ed
   obtain ⟨h3,h4⟩:=MW rw' e1
   subst h1 h3
   exact ⟨rfl,by simp [h2,h4]⟩
def BA:D→HD→Option (List D)
 |.tup ds,_=>some ds
 |.loc l,h=>match h[l]? with
  |some (.lst ds)=>some ds
  |_=>none
 |.scr ns,_=>some (ns.map .int)
 |_,_=>none
theorem MX {ns:List Int}:DVs X.K m H (ns.map .int) (ns.map V.int):=by
 induction ns with
 |nil=>exact .nil
 |cons n ns ih=>exact .cons (by simp [DV]) ih
theorem Kd {d:D} {v:V} {ds:List D} (hr:HR X.K m h H) (r:DV X.K m H d v) (e:BA d h=some ds):∃p vs,v=.ref p∧(SqL X.K H p vs∨SqT X.K H p vs)∧DVs X.K m H ds vs:=by
 cases d with
 |tup xs=>
  simp only [DV,BA,Option.some.injEq] at r e
  subst e
  obtain ⟨a,vs,rfl,ha,dv⟩:=r
  exact ⟨a,vs,rfl,.inr (SqT.of ha),dv⟩
 |loc l=>
  simp only [DV] at r
  obtain ⟨a,rfl,ha⟩:=r
  simp only [BA] at e
  split at e
  ·rename_i xs el
   cases e
   obtain ⟨vs,hv,dv⟩:=hr.cells l _ a el ha
   exact ⟨a,vs,rfl,.inl (SqL.of hv),dv⟩
  ·cases e
 |scr ns=>
  simp only [DV,BA,Option.some.injEq] at r e
  subst e
  obtain ⟨a,rfl,ha⟩:=r
  exact ⟨a,_,rfl,.inl ha.sq,MX⟩
 |_=>simp [BA] at e
def D2 (neg:Bool):D→D→HD→Out D:=fun x y h=>match BA y h with
 |none=>.stuck
 |some ds=>match CI x,AZ (ds.map CI) with
  |some v,some vs=>.ok (.bl (if neg then !Gk v vs else Gk v vs)) h
  |_,_=>.stuck
theorem SY {neg:Bool}:∀m H h E x y v u Q,HR X.K m h H→DV X.K m H x v→DV X.K m H y u→Post X.K (rD X.K) m H E Q (D2 neg x y h)→Mv X.K neg v u H Q:=fun m H h E x y v u Q hr rx ry q=>by
 unfold D2 at q
 split at q
 ·exact q.elim
 ·rename_i ds e
  split at q
  ·rename_i w ws e1 e2
   obtain ⟨p,vs,rfl,hs,dv⟩:=Kd hr ry e
   obtain ⟨h1,h2⟩:=MV rx e1
   obtain ⟨h3,h4⟩:=MW dv e2
   subst h1 h3
   exact ⟨p,vs,rfl,hs,h2,h4,Bp hr q (by simp [DV])⟩
  ·exact q.elim
theorem Ke:Bs X (compareOp .In) (D2 false):=⟨_,Sk,SY⟩
def Aq:D→D→HD→Out D:=fun x y h=>match BA x h,y with
 |some ds,.int i=>match Cs ds i with
  |some d=>.ok d h
  |none=>.stuck
 |_,_=>.stuck
theorem SZ {ds:List D} {vs:List V} {i:Int} {d:D} (r:DVs X.K m H ds vs) (e:Cs ds i=some d):∃v,Cs vs i=some v∧DV X.K m H d v:=by
 unfold Cs at e ⊢
 rw [r.len] at e
 cases k:Dg vs.length i with
 |none=>rw [k] at e;cases e
 |some j=>
  rw [k] at e
  exact r.get e
theorem AO {a b:Expr} {pos:Pos} {f g:ME} (ha:Ev X E a f) (hb:Ev X E b g) (hs:Mt b):Ev X E (.Subscript a b pos) (Ag Aq f g):=
 BM (Sd (ix_list.or ix_tup) ha hb hs) fun σ H Q hq=>IK hq fun m H2 h2 x y v u hr rx ry q=>by
  unfold Aq at q
  split at q
  ·rename_i ds i e
   split at q
   ·rename_i d ed
    simp only [DV] at ry
    subst ry
    obtain ⟨p,vs,rfl,hsq,dv⟩:=Kd hr rx e
    obtain ⟨w,e1,r1⟩:=SZ dv ed
    rcases hsq with hsq |hsq
    ·exact .inl ⟨p,vs,i,w,rfl,rfl,hsq,e1,Bp hr q r1⟩
    ·exact .inr ⟨p,vs,i,w,rfl,rfl,hsq,e1,Bp hr q r1⟩
   ·exact q.elim
  ·exact q.elim
def Bc:D→HD→Out D:=fun x h=>match BA x h with
 |some ds=>.ok (.int ds.length) h
 |none=>.stuck
theorem Hf {F:D→HD→Out D} {ds:List D} {vs:List V} {Q:VK} {C:Prop} (r:DVs X.K m H ds vs) (q:Post X.K (rD X.K) m H E Q (Al F ds h)) (k:∀d v,vs=[v]→DV X.K m H d v→Post X.K (rD X.K) m H E Q (F d h)→C):C:=by
 unfold Al at q
 split at q
 ·simp only [DVs] at r
  obtain ⟨v,w,rfl,rv,rfl⟩:=r
  exact k _ v rfl rv q
 ·exact q.elim
theorem IV {F:D→D→HD→Out D} {ds:List D} {vs:List V} {Q:VK} {C:Prop} (r:DVs X.K m H ds vs) (q:Post X.K (rD X.K) m H E Q (BV F ds h)) (k:∀d d' v v',vs=[v,v']→DV X.K m H d v→DV X.K m H d' v'→Post X.K (rD X.K) m H E Q (F d d' h)→C):C:=by
 unfold BV at q
 split at q
 ·simp only [DVs] at r
  obtain ⟨v,w,rfl,rv,v',w',rfl,rv',rfl⟩:=r
  exact k _ _ v v' rfl rv rv' q
 ·exact q.elim
theorem BJ:CH X (.builtin "len") (Al Bc):=by
 refine ⟨_,Sl,fun m H h E ds vs Q hr r q=>Hf r q fun d v ev rv q=>?_⟩
 unfold Bc at q
 split at q
 ·rename_i xs e
  obtain ⟨p,ws,rfl,hs,dv⟩:=Kd hr rv e
  exact ⟨p,ws,ev,hs,by rw [←dv.len];exact Bp hr q (by simp [DV])⟩
 ·exact q.elim
def CDv (i j:Int):Prop:=0<j∧j<18446744073709551616
instance (i j:Int):Decidable (CDv i j):=by unfold CDv;infer_instance
theorem CDv.no {i j:Int} (h:CDv i j):Builtin.divisionGoesByPylong i j=false:=by
 refine PyProof.noPylong_of_log2 ?_
 have h0:j.natAbs≠0:=by have:=h.1;omega
 have h1:j.natAbs<2^64:=by have:=h.2;have:=h.1;omega
 exact Nat.lt_trans ((Nat.log2_lt h0).mpr h1) (by decide)
theorem S3:Dw X (.builtin "divmod") (fun xs H Q=>∃i j,xs=[.int i,.int j]∧CDv i j∧∀p,H p=none→Q (.ref p) (Am H p (.tup [.int (i / j),.int (i % j)]))):=by
 intro pins s σ H xs us Q I r h
 obtain ⟨i,j,rfl,hc,q⟩:=h
 obtain ⟨u,w',rfl,⟨t,rfl⟩,⟨t',rfl⟩⟩:=IE r
 have h1:=hc.1
 refine divmod_int (by omega) ?_ (.inl hc.no)
 rw [Int.fdiv_eq_ediv_of_nonneg i (by omega),Int.fmod_eq_emod_of_nonneg i (by omega)]
 have hn:H s.heap.objs.size=none:=I.hok.fresh (AJ _)
 refine ⟨.ref s.heap.objs.size,_,?_,rfl,q _ hn⟩
 refine I.laid (fun b o e=>Bn _ e) (AJ _) ⟨by simp only [GZ,Io];rw [sizeLine_eq];decide,[.int (i / j) s.toks,.int (i % j) (s.toks+1)],.cons ⟨_,rfl⟩ (.cons ⟨_,rfl⟩ .nil),?_,NoDict.new⟩
 exact ⟨_,BI s.heap rfl,rfl,0,rfl⟩
def Hg:D→D→HD→Out D
 |.int i,.int j,h=>if CDv i j then .ok (.tup [.int (i / j),.int (i % j)]) h else .stuck
 |_,_,_=>.stuck
theorem S4:CH X (.builtin "divmod") (BV Hg):=by
 refine ⟨_,S3,fun m H h E ds vs Q hr r q=>IV r q fun d d' v v' ev rv rv' q=>?_⟩
 unfold Hg at q
 split at q
 ·split at q
  ·rename_i i j hc
   simp only [DV] at rv rv'
   subst rv rv'
   exact ⟨i,j,ev,hc,Gr hr (.cons (by simp [DV]) (.cons (by simp [DV]) .nil)) q⟩
  ·exact q.elim
 ·exact q.elim
theorem S5:OpR X (binaryOp .FloorDiv) (rI CDv fun i j=>.int (i / j)):=IC fun i j _ _ _ _ _ hc q=>by
 have h1:=hc.1
 exact floordiv_int (by omega) (by rw [Int.fdiv_eq_ediv_of_nonneg i (by omega)];exact q) (.inl hc.no)
abbrev IW:=intD (fun i j=>.int (i / j)) CDv
theorem S6:Bs X (binaryOp .FloorDiv) IW:=J8 S5 (fun _ _ h=>h) fun _ _ _ _=>by simp [DV]
def Hh:D→D→HD→Out D
 |.int i,.int j,h=>.ok (.int (if j>i then j else i)) h
 |_,_,_=>.stuck
def Hi:D→D→HD→Out D
 |.int i,.int j,h=>.ok (.int (if j<i then j else i)) h
 |_,_,_=>.stuck
theorem S7 (hc:X.calm=true):CH X (.builtin "max") (BV Hh):=by
 refine ⟨_,RD hc,fun m H h E ds vs Q hr r q=>IV r q fun d d' v v' ev rv rv' q=>?_⟩
 unfold Hh at q
 split at q
 ·simp only [DV] at rv rv'
  subst rv rv'
  exact ⟨_,_,ev,Bp hr q (by simp [DV])⟩
 ·exact q.elim
theorem S8 (hc:X.calm=true):CH X (.builtin "min") (BV Hi):=by
 refine ⟨_,RE hc,fun m H h E ds vs Q hr r q=>IV r q fun d d' v v' ev rv rv' q=>?_⟩
 unfold Hi at q
 split at q
 ·simp only [DV] at rv rv'
  subst rv rv'
  exact ⟨_,_,ev,Bp hr q (by simp [DV])⟩
 ·exact q.elim
def Hj:D→HD→Out D
 |.int i,h=>.ok (.int i) h
 |.bl b,h=>.ok (.int (if b then 1 else 0)) h
 |_,_=>.stuck
theorem S9:CH X (.type "int") (Al Hj):=by
 refine ⟨_,RF,fun m H h E ds vs Q hr r q=>Hf r q fun d v ev rv q=>?_⟩
 unfold Hj at q
 split at q
 ·simp only [DV] at rv;subst rv
  exact .inl ⟨_,ev,Bp hr q (by simp [DV])⟩
 ·simp only [DV] at rv;subst rv
  exact .inr ⟨_,ev,Bp hr q (by simp [DV])⟩
 ·exact q.elim
def Bw:D→HD→Out D:=fun x h=>match x with
 |.tup ds=>.ok (.tup ds) h
 |.loc l=>match h[l]? with
  |some (.lst ds)=>.ok (.tup ds) h
  |_=>.stuck
 |_=>.stuck
theorem D3:CH X (.type "tuple") (Al Bw):=by
 refine ⟨_,Sn,fun m H h E ds vs Q hr r q=>Hf r q fun d v ev rv q=>?_⟩
 unfold Bw at q
 split at q
 ·simp only [DV] at rv
  obtain ⟨a,ws,rfl,ha,dv⟩:=rv
  exact ⟨a,ws,ev,.inr ⟨SqT.of ha,Bp hr q (by simp only [DV];exact ⟨a,ws,rfl,ha,dv⟩)⟩⟩
 ·split at q
  ·rename_i ds' el
   simp only [DV] at rv
   obtain ⟨a,rfl,ha⟩:=rv
   obtain ⟨ws,hv,dv⟩:=hr.cells _ _ a el ha
   exact ⟨a,ws,ev,.inl ⟨SqL.of hv,Gr hr dv q⟩⟩
  ·exact q.elim
 ·exact q.elim
end
theorem PostS.bind {α β:Type} {K:PySem.W.Frag} {m:List Addr} {H:Hp} {R:List Addr→Hp→α→β→Prop} {E:XK} {Q':β→Hp→Prop} {Dn:De} {o:Out α} {k:α→HD→Out (Fl×Ai)}
 (h:PostS K m H E Dn (o.bind k)) (f:∀a h1 v m1 H1,o=.ok a h1→m <+:m1→Kp H H1→HR K m1 h1 H1→R m1 H1 a v→PostS K m1 H1 E Dn (k a h1)→Q' v H1):Post K R m H E Q' o:=by
 cases o with
 |ok a h1=>exact fun v m1 H1 p kk hr r=>f a h1 v m1 H1 rfl p kk hr r (h.ahead p kk)
 |err C fs h1=>exact h
 |stuck=>exact h
theorem PostS.here {K:PySem.W.Frag} {m:List Addr} {H:Hp} {E:XK} {Dn:De} {a:Fl×Ai} {h:HD} (hr:HR K m h H) (p:PostS K m H E Dn (.ok a h)):Mz K m H Dn a:=p m H (Aw _) (.refl _) hr
section
variable {X:Cx} {E:XK} {st:Stmt} {sts b1 b2:List Stmt} {g g1 g2:MS} {e:Expr} {f:ME} {pos:Pos} {t:MT}
def Bx:MS:=fun ρ h=>.ok (.nx,ρ) h
def Aj (g1 g2:MS):MS:=fun ρ h=>(g1 ρ h).bind fun x h1=>match x with
 |(.nx,ρ1)=>g2 ρ1 h1
 |y=>.ok y h1
theorem B2:AR X E [] Bx:=MC QN fun Dn σ H z1_=>by obtain ⟨m,ρ,h,hr,er,p⟩:=z1_;exact ((p.here hr) σ er)
theorem Au (h:Ex X E st g):AR X E [st] g:=QR h
theorem As (h1:Ex X E st g1) (h2:AR X E sts g2):AR X E (st::sts) (Aj g1 g2):=
 MC (QP h1 h2) fun Dn σ H z2_=>by
  obtain ⟨m,ρ,h,hr,er,p⟩:=z2_
  refine ⟨m,ρ,h,hr,er,?_⟩
  unfold Aj at p
  cases o:g1 ρ h with
  |stuck=>rw [o] at p;exact p
  |err C fs h1=>rw [o] at p;exact p
  |ok x h1=>
   rw [o] at p
   obtain ⟨fl,ρ1⟩:=x
   intro m1 H1 p1 k1 hr1
   cases fl with
   |nx=>exact fun σ1 er1=>⟨m1,ρ1,h1,hr1,er1,PostS.ahead p1 k1 p⟩
   |bk=>exact p m1 H1 p1 k1 hr1
   |ct=>exact p m1 H1 p1 k1 hr1
   |rt d=>exact p m1 H1 p1 k1 hr1
def Cg (f:ME):MS:=fun ρ h=>(f ρ h).bind fun _ h1=>.ok (.nx,ρ) h1
theorem Es (he:Ev X E e f) (hs:swapsWith e none pos.line X.env=pure false:=by rfl):Ex X E (.Expr e pos) (Cg f):=
 DY (QU he hs) fun Dn σ H z3_=>by obtain ⟨m,ρ,h,hr,er,p⟩:=z3_;exact (⟨m,ρ,h,hr,er,PostS.bind p fun x h1 v m1 H1 _ p1 k1 hr1 r1 q1=>(q1.here hr1) σ (er.keep p1 k1)⟩)
def Ax (f:ME):MS:=fun ρ h=>(f ρ h).bind fun d h1=>.ok (.rt d,ρ) h1
theorem AM (he:Ev X E e f):Ex X E (.Return (some e) pos) (Ax f):=
 DY (QW he) fun Dn σ H z4_=>by obtain ⟨m,ρ,h,hr,er,p⟩:=z4_;exact (⟨m,ρ,h,hr,er,PostS.bind p fun x h1 v m1 H1 _ p1 k1 hr1 r1 q1=>(q1.here hr1) v r1⟩)
def Bt (t:MT) (g1 g2:MS):MS:=fun ρ h=>(t ρ h).bind fun b h1=>if b=true then g1 ρ h1 else g2 ρ h1
theorem B3 {c:Expr} (hc:CG X E c t) (ha:AR X E b1 g1) (hb:AR X E b2 g2):Ex X E (.If c b1 b2 pos) (Bt t g1 g2):=
 DY (QY hc ha hb) fun Dn σ H z5_=>by obtain ⟨m,ρ,h,hr,er,p⟩:=z5_;exact (⟨m,ρ,h,hr,er,PostS.bind p fun x h1 v m1 H1 _ p1 k1 hr1 r1 q1=>by
  cases r1
  cases x with
  |true=>exact ⟨m1,ρ,h1,hr1,er.keep p1 k1,q1⟩
  |false=>exact ⟨m1,ρ,h1,hr1,er.keep p1 k1,q1⟩⟩)
def IX:MS:=fun _ _=>.stuck
theorem Kf:Ex X E st IX:=DY Q0 fun Dn σ H z6_=>by obtain ⟨m,ρ,h,hr,er,p⟩:=z6_;exact (p)
def AN (i:Nat) (f:ME):MS:=fun ρ h=>(f ρ h).bind fun d h1=>.ok (.nx,ρ.set i (some d)) h1
theorem Bk {i:Nat} {x:Str} {pos':Pos} (hN:X.N.Nodup) (hi:X.N[i]?=some x) (hx:G2 X.env.scope x) (he:Ev X E e f) (hs:swapsWith e (some (.Name x pos')) pos.line X.env=pure false:=by rfl) (hf:X.fn x=true∨X.env.scope.names.lookup x=some .local:=by first |exact .inl rfl |exact .inr rfl |assumption):
 Ex X E (.Assign [.Name x pos'] e pos) (AN i f):=
 DY (Q2 hN hi hx he hs hf) fun Dn σ H z9_=>by obtain ⟨m,ρ,h,hr,er,p⟩:=z9_;exact (⟨m,ρ,h,hr,er,PostS.bind p fun x h1 v m1 H1 _ p1 k1 hr1 r1 q1=>(q1.here hr1) _ ((er.keep p1 k1).set r1)⟩)
def EY (i j:Nat) (fa:MA):MS:=fun ρ h=>(fa ρ h).bind fun ds h1=>match ds with
 |[x,y]=>.ok (.nx,(ρ.set i (some x)).set j (some y)) h1
 |_=>.stuck
theorem Kg {i j:Nat} {x y:Str} {a b:Expr} {fa:MA} {px py pt:Pos} {kt k2:Nat} {pt2:Pos} (hc:X.calm=true) (hN:X.N.Nodup) (hi:X.N[i]?=some x) (hj:X.N[j]?=some y) (hij:i≠j)
 (hx:X.env.scope.names.lookup x=some .local) (hy:X.env.scope.names.lookup y=some .local) (ha:Dh X E [a,b] fa)
 (hw:swappedStores [.Tuple [.Name x px,.Name y py] kt pt] (.Tuple [a,b] k2 pt2) X.env=pure (some [x,y]))
 (hs:swapsWithSole [.Tuple [.Name x px,.Name y py] kt pt] (.Tuple [a,b] k2 pt2) pos.line X.env=pure false:=by rfl):
 Ex X E (.Assign [.Tuple [.Name x px,.Name y py] kt pt] (.Tuple [a,b] k2 pt2) pos) (EY i j fa):=
 DY (Q4 hc hN hi hj hij hx hy ha hw hs) fun Dn σ H z10_=>by obtain ⟨m,ρ,h,hr,er,p⟩:=z10_;exact (⟨m,ρ,h,hr,er,PostS.bind p fun x h1 v m1 H1 _ p1 k1 hr1 r1 q1=>by
  split at q1
  ·simp only [EO,DVs] at r1
   obtain ⟨v,w,rfl,rv,v',w',rfl,rv',rfl⟩:=r1
   exact ⟨v,v',rfl,(q1.here hr1) _ (((er.keep p1 k1).set rv).set rv')⟩
  ·exact q1.elim⟩)
abbrev MG:=D→Ai→Option Ai
def Hk (X:Cx) (tg:Expr) (sg:MG):Prop:=
 ∃gg:TG,PG X tg gg∧∀m H d v ρ σ ρ' Q,DV X.K m H d v→ER X.K m H ρ σ→sg d ρ=some ρ'→(∀σ',ER X.K m H ρ' σ'→Q σ' H)→gg v σ H Q
def AE (i:Nat):MG:=fun d ρ=>some (ρ.set i (some d))
def DD (i j:Nat):MG:=fun d ρ=>match d with
 |.tup [x,y]=>some ((ρ.set i (some x)).set j (some y))
 |_=>none
theorem Dj {i:Nat} {x:Str} (h:PG X (.Name x pos) (BZ i)):Hk X (.Name x pos) (AE i):=⟨_,h,fun m H d v ρ σ ρ' Q r er e q=>by
 simp only [AE,Option.some.injEq] at e
 subst e
 exact q _ (er.set r)⟩
theorem MY {i j:Nat} {x y:Str} {px py:Pos} {kt:Nat} (h:PG X (.Tuple [.Name x px,.Name y py] kt pos) (Fb X.K 2 (Df (BZ i) (Df (BZ j) E9)))):Hk X (.Tuple [.Name x px,.Name y py] kt pos) (DD i j):=⟨_,h,fun m H d v ρ σ ρ' Q r er e q=>by
 unfold DD at e
 split at e
 ·rename_i a b
  cases e
  simp only [DV,DVs] at r
  obtain ⟨p,vs,rfl,hp,v1,w1,rfl,r1,v2,w2,rfl,r2,rfl⟩:=r
  exact ⟨p,_,rfl,SqT.of hp,rfl,v1,_,rfl,v2,_,rfl,rfl,q _ ((er.set r1).set r2)⟩
 ·cases e⟩
def Gv (sg:MG) (f:ME):MS:=fun ρ h=>(f ρ h).bind fun d h1=>match sg d ρ with
 |some ρ1=>.ok (.nx,ρ1) h1
 |none=>.stuck
theorem Kh {tg:Expr} {sg:MG} (he:Ev X E e f) (hg:Hk X tg sg) (hs:swapsWithSole [tg] e pos.line X.env=pure false:=by rfl) (hw:swappedStores [tg] e X.env=pure none:=by rfl)
 (h1:(assignEach [tg] X.env).map (·.2)=[assign tg X.env]:=by rfl):Ex X E (.Assign [tg] e pos) (Gv sg f):=by
 obtain ⟨gg,hg,i⟩:=hg
 exact DY (JV he hg hs hw h1) fun Dn σ H z11_=>by obtain ⟨m,ρ,h,hr,er,p⟩:=z11_;exact (⟨m,ρ,h,hr,er,PostS.bind p fun x h1 v m1 H1 _ p1 k1 hr1 r1 q1=>by
  split at q1
  ·rename_i ρ1 es
   exact i m1 H1 x v ρ σ ρ1 _ r1 (er.keep p1 k1) es fun σ' er'=>(q1.here hr1) σ' er'
  ·exact q1.elim⟩)
abbrev AW:=List (Nat×List D)
def A3 (src:AW) (items:List D) (h:HD):Prop:=∀p∈src,h[p.1]?=some (.lst p.2)
theorem Eu {items:List D} {h:HD}:A3 [] items h:=fun p z=>nomatch z
theorem Fh {items ds:List D} {h:HD} {l:Nat} (e:h[l]?=some (.lst ds)):A3 [(l,ds)] items h:=fun p z=>by
 rw [qaD] at z
 subst z
 exact e
def Fi (K:PySem.W.Frag):List Addr→Hp→(List D×AW)→It→Prop:=fun m1 H1 x J=>
 ∀i m2 h2 H2,m1 <+:m2→Kp H1 H2→HR K m2 h2 H2→A3 x.2 x.1 h2→
  (i<x.1.length→J.go i H2∧∀y H3,J.yld i H2 y H3→Kp H2 H3∧HR K m2 h2 H3∧∃d,x.1[i]?=some d∧DV K m2 H3 d y)∧(i=x.1.length→J.stop i H2)
abbrev MI:=Ai→HD→Out (List D×AW)
abbrev Ew (X:Cx) (E:XK) (tg iter:Expr) (it:MI):Prop:=PI X tg iter (tM X.K (Fi X.K) E it)
theorem IY {tg iter:Expr} {w w':TI} (h:PI X tg iter w) (i:∀σ H R,w' σ H R→w σ H R):PI X tg iter w':=fun pins s σ H R I q=>h pins s σ H R I (i σ H R q)
theorem Ta {tg l:Expr} {tl:TE} (hl:PE X l tl):PI X tg l (fun σ H R=>tl σ H fun x H1=>∃a,x=.ref a∧(((∃xs,SqL X.K H1 a xs)∧R (G3 X.K a) H1)∨((∃xs,SqT X.K H1 a xs)∧R (G4 X.K a) H1))):=by
 intro pins s σ H R I h
 refine An (hl pins s σ H _ I h) fun v s1 z12_=>?_
 obtain ⟨x,H1,I1,r1,q1⟩:=z12_
 obtain ⟨a,e,q⟩:=q1
 subst e
 cases r1
 rcases q with ⟨⟨xs,hq⟩,q⟩ |⟨⟨xs,hq⟩,q⟩
 ·obtain ⟨its,rv,p,hz⟩:=I1.list hq
  refine wpAny_pyIter_list p.isList ?_
  refine ⟨s1.heap.objs.size,[s1.heap.objs.size],_,_,H1,rfl,I1.kept (t':=s1.toks) fun b o e=>Bn _ e,Q5 a _,⟨_,BI _ rfl,rfl,rfl⟩,fun b hb=>?_,q⟩
  have e:b=s1.heap.objs.size:=by simpa using hb
  subst e
  exact I1.fpOk (AJ _) (I1.hok.fresh (AJ _))
 ·obtain ⟨its,rv,p,hz⟩:=I1.tuple hq
  refine wpAny_pyIter_tuple (show s1.heap.IsTuple a its.toArray from p) ?_
  refine ⟨s1.heap.objs.size,[s1.heap.objs.size],_,_,H1,rfl,I1.kept (t':=s1.toks) fun b o e=>Bn _ e,Q6 a _,⟨_,BI _ rfl,rfl,rfl⟩,fun b hb=>?_,q⟩
  have e:b=s1.heap.objs.size:=by simpa using hb
  subst e
  exact I1.fpOk (AJ _) (I1.hok.fresh (AJ _))
def MZ:D→List D→AW
 |.loc l,ds=>[(l,ds)]
 |_,_=>[]
def Gw (d:D) (h:HD):Out (List D×AW):=match BA d h with
 |some ds=>.ok (ds,MZ d ds) h
 |none=>.stuck
def BC (f:ME):MI:=fun ρ h=>(f ρ h).bind Gw
theorem Kp.lget {H H':Hp} {a:Addr} {K:PySem.W.Frag} {xs:List V} (k:Kp H H') (h:FzL K H a xs):SqL K H' a xs:=(k.fzL h).sq
theorem M0 {K:PySem.W.Frag} {a:Addr} {m:List Addr} {H:Hp} {h:HD} {i:Nat} {items:List D} {vs:List V} (hr:HR K m h H) (hs:SqL K H a vs) (dv:DVs K m H items vs) (uniq:∀ys,SqL K H a ys→ys=vs∨True):
 (i<items.length→(G3 K a).go i H∧∀y H3,(G3 K a).yld i H y H3→Kp H H3∧HR K m h H3∧∃d,items[i]?=some d∧DV K m H3 d y)∧(i=items.length→(G3 K a).stop i H):=by
 refine ⟨fun hi=>?_,fun hi=>⟨vs,hs,by rw [←dv.len];exact Nat.le_of_eq hi.symm⟩⟩
 have hd:items[i]?=some items[i]:=Br hi
 obtain ⟨v,e1,r1⟩:=dv.get hd
 refine ⟨⟨vs,v,hs,e1⟩,fun y H3 z13_=>?_⟩
 obtain ⟨e3,hy⟩:=z13_
 subst e3
 have:=hy vs hs
 rw [e1] at this
 cases this
 exact ⟨.refl _,hr,_,hd,r1⟩
theorem Tb {K:PySem.W.Frag} {a:Addr} {m:List Addr} {H:Hp} {h:HD} {i:Nat} {items:List D} {vs:List V} (hr:HR K m h H) (hs:SqT K H a vs) (dv:DVs K m H items vs):
 (i<items.length→(G4 K a).go i H∧∀y H3,(G4 K a).yld i H y H3→Kp H H3∧HR K m h H3∧∃d,items[i]?=some d∧DV K m H3 d y)∧(i=items.length→(G4 K a).stop i H):=by
 refine ⟨fun hi=>?_,fun hi=>⟨vs,hs,by rw [←dv.len];exact Nat.le_of_eq hi.symm⟩⟩
 have hd:items[i]?=some items[i]:=Br hi
 obtain ⟨v,e1,r1⟩:=dv.get hd
 refine ⟨⟨vs,v,hs,e1⟩,fun y H3 z14_=>?_⟩
 obtain ⟨e3,hy⟩:=z14_
 subst e3
 have:=hy vs hs
 rw [e1] at this
 cases this
 exact ⟨.refl _,hr,_,hd,r1⟩
theorem Dk {tg a:Expr} (ha:Ev X E a f):Ew X E tg a (BC f):=
 IY (Ta ha) fun σ H R ⟨m,ρ,h,hr,er,p⟩=>⟨m,ρ,h,hr,er,Post.bind p fun x h1 v m1 H1 _ p1 k1 hr1 r1 q1=>by
  unfold Gw at q1
  split at q1
  ·rename_i ds eds
   cases x with
   |tup xs=>
    simp only [BA,Option.some.injEq] at eds
    subst eds
    simp only [rD,DV] at r1
    obtain ⟨a,vs,rfl,ha,dv⟩:=r1
    refine ⟨a,rfl,.inr ⟨⟨vs,SqT.of ha⟩,q1 _ m1 H1 (Aw _) (.refl _) hr1 fun i m2 h2 H2 p2 k2 hr2 _=>?_⟩⟩
    exact Tb hr2 (SqT.of (k2 _ _ ha rfl)) (dv.keep p2 k2)
   |loc l=>
    simp only [rD,DV] at r1
    obtain ⟨a,rfl,ha⟩:=r1
    simp only [BA] at eds
    split at eds
    ·rename_i xs el
     cases eds
     obtain ⟨vs,hv,dv⟩:=hr1.cells l _ a el ha
     refine ⟨a,rfl,.inl ⟨⟨vs,SqL.of hv⟩,q1 _ m1 H1 (Aw _) (.refl _) hr1 fun i m2 h2 H2 p2 k2 hr2 hs=>?_⟩⟩
     obtain ⟨ws,hw,dw⟩:=hr2.cells l _ a (hs _ AI) (IH p2 ha)
     exact M0 hr2 (SqL.of hw) dw fun _ _=>.inr trivial
    ·cases eds
   |scr ns=>
    simp only [BA,Option.some.injEq] at eds
    subst eds
    simp only [rD,DV] at r1
    obtain ⟨a,rfl,ha⟩:=r1
    refine ⟨a,rfl,.inl ⟨⟨_,ha.sq⟩,q1 _ m1 H1 (Aw _) (.refl _) hr1 fun i m2 h2 H2 p2 k2 hr2 _=>?_⟩⟩
    exact M0 hr2 (k2.lget ha) MX fun _ _=>.inr trivial
   |_=>simp [BA] at eds
  ·exact q1.elim⟩
def EZ (lo:Int) (n:Nat):List D:=(List.range n).map fun k=>.int (lo+(k:Nat))
theorem M1 {K:PySem.W.Frag} {m1:List Addr} {H1:Hp} (lo:Int) (n:Nat):Fi K m1 H1 (EZ lo n,[]) (G5 lo n):=fun i m2 h2 H2 p2 k2 hr2 _=>by
 refine ⟨fun hi=>?_,fun hi=>?_⟩
 ·have hi':i<n:=by simpa [EZ] using hi
  refine ⟨hi',fun y H3 z16_=>?_⟩
  obtain ⟨e3,ey⟩:=z16_
  subst e3 ey
  refine ⟨.refl _,hr2,.int (lo+i),?_,by simp [DV]⟩
  simp [EZ,List.getElem?_range,hi']
 ·show n≤i
  have hi':i=n:=by simpa [EZ] using hi
  omega
@[irreducible] noncomputable def Gx:List D→HD→Out (List D×AW):=fun ds h=>match ds with
  |[.int j]=>@ite _ (-(2^62)≤j∧j<2^62) (Classical.propDecidable _) (.ok (EZ 0 j.toNat,[]) h) .stuck
  |_=>.stuck
@[irreducible] noncomputable def Gy:List D→HD→Out (List D×AW):=fun ds h=>match ds with
  |[.int i,.int j]=>@ite _ ((-(2^62)≤i∧i<2^62)∧-(2^62)≤j∧j<2^62) (Classical.propDecidable _) (.ok (EZ i (j - i).toNat,[]) h) .stuck
  |_=>.stuck
noncomputable def BQ (fa:MA):MI:=fun ρ h=>(fa ρ h).bind Gx
noncomputable def E1 (fa:MA):MI:=fun ρ h=>(fa ρ h).bind Gy
theorem Dl {tg a:Expr} {fa:MA} {p pos:Pos} (hg:Gl X "range") (hm:X.mg "range"=none) (ha:Dh X E [a] fa) (hs:starEach [a] X.env=[(false,eval a X.env)]:=by rfl):Ew X E tg (.Call (.Name "range" p) [a] [] pos) (BQ fa):=
 IY (Ra hg hm ha hs) fun σ H R z17_=>by obtain ⟨m,ρ,h,hr,er,p⟩:=z17_;exact (⟨m,ρ,h,hr,er,Post.bind p fun x h1 v m1 H1 _ p1 k1 hr1 r1 q1=>by
  unfold Gx at q1
  split at q1
  ·split at q1
   ·rename_i hj
    simp only [EO,DVs,DV] at r1
    obtain ⟨v,w,rfl,rfl,rfl⟩:=r1
    exact ⟨_,rfl,hj.1,hj.2,q1 _ m1 H1 (Aw _) (.refl _) hr1 (M1 0 _)⟩
   ·exact q1.elim
  ·exact q1.elim⟩)
theorem M3 {tg a b:Expr} {fa:MA} {p pos:Pos} (hg:Gl X "range") (hm:X.mg "range"=none) (ha:Dh X E [a,b] fa) (hs:starEach [a,b] X.env=[(false,eval a X.env),(false,eval b X.env)]:=by rfl) (hs2:starEach [b] X.env=[(false,eval b X.env)]:=by rfl):Ew X E tg (.Call (.Name "range" p) [a,b] [] pos) (E1 fa):=
 IY (Rb hg hm ha hs hs2) fun σ H R z18_=>by obtain ⟨m,ρ,h,hr,er,p⟩:=z18_;exact (⟨m,ρ,h,hr,er,Post.bind p fun x h1 v m1 H1 _ p1 k1 hr1 r1 q1=>by
  unfold Gy at q1
  split at q1
  ·split at q1
   ·rename_i hj
    simp only [EO,DVs,DV] at r1
    obtain ⟨v,w,rfl,rfl,v',w',rfl,rfl,rfl⟩:=r1
    exact ⟨_,_,rfl,⟨hj.1.1,hj.1.2,hj.2.1,hj.2.2⟩,q1 _ m1 H1 (Aw _) (.refl _) hr1 (M1 _ _)⟩
   ·exact q1.elim
  ·exact q1.elim⟩)
open Classical in
noncomputable def D4 (src:AW) (items:List D) (sg:MG) (body:MS):List D→MS
 |[]=>fun ρ h=>if A3 src items h then .ok (.nx,ρ) h else .stuck
 |d::ds=>fun ρ h=>if A3 src items h then match sg d ρ with
   |none=>.stuck
   |some ρ1=>(body ρ1 h).bind fun x h2=>match x with
    |(.nx,ρ2)=>D4 src items sg body ds ρ2 h2
    |(.ct,ρ2)=>D4 src items sg body ds ρ2 h2
    |(.bk,ρ2)=>.ok (.nx,ρ2) h2
    |(.rt d,ρ2)=>.ok (.rt d,ρ2) h2
  else .stuck
noncomputable def BD (it:MI) (sg:MG) (body:MS):MS:=fun ρ h=>(it ρ h).bind fun x h1=>D4 x.2 x.1 sg body x.1 ρ h1
inductive M4 (K:PySem.W.Frag) (E:XK) (Dn:De) (src:AW) (items:List D) (sg:MG) (g:MS) (m1:List Addr) (H1:Hp) (i n:Nat) (σ2:L2.St) (H2:Hp):Prop where
 |mk (e:n=items.length - i) (l:i≤items.length) (m2:List Addr) (ρ2:Ai) (h2:HD) (p:m1 <+:m2) (k:Kp H1 H2) (hr:HR K m2 h2 H2) (er:ER K m2 H2 ρ2 σ2) (q:PostS K m2 H2 E Dn (D4 src items sg g (items.drop i) ρ2 h2)):M4 K E Dn src items sg g m1 H1 i n σ2 H2
inductive M5 (K:PySem.W.Frag) (E:XK) (Dn:De) (src:AW) (items:List D) (sg:MG) (g:MS) (m1:List Addr) (H1:Hp) (i:Nat) (σ2:L2.St) (H2:Hp):Prop where
 |mk (m2:List Addr) (ρ2:Ai) (h2:HD) (p:m1 <+:m2) (k:Kp H1 H2) (hr:HR K m2 h2 H2) (er:ER K m2 H2 ρ2 σ2) (q:PostS K m2 H2 E Dn (D4 src items sg g (items.drop i) ρ2 h2)):M5 K E Dn src items sg g m1 H1 i σ2 H2
theorem Dm {tg iter:Expr} {body:List Stmt} {it:MI} {sg:MG} {g:MS} (hp:PassesOwn (model X.prog X.w) X.A X.env X.xe) (hc:X.calm=true) (hi:Ew X E tg iter it) (hg:Hk X tg sg) (hb:AR X E body g)
 (hs:∀x,foldedSetIterable iter X.env x=pure x:=by intro _;rfl):Ex X E (.For tg iter body [] pos) (BD it sg g):=by
 obtain ⟨gg,hg,ig⟩:=hg
 refine DY (Re hp hc hi hg hb hs) ?_
 rintro Dn σ H ⟨m,ρ,h,hr,er,p⟩
 refine ⟨m,ρ,h,hr,er,PostS.bind p fun x h1 J m1 H1 _ p1 k1 hr1 r1 q1=>?_⟩
 obtain ⟨items,src⟩:=x
 refine ⟨M4 X.K E Dn src items sg g m1 H1,⟨items.length,rfl,DT _,m1,ρ,h1,Aw _,.refl _,hr1,er.keep p1 k1,by simpa using q1⟩,?_⟩
 rintro i n σ2 H2 ⟨rfl,hi,m2,ρ2,h2,p2,k2,hr2,er2,q2⟩
 by_cases hlt:i<items.length
 ·rw [Ii hlt] at q2
  unfold D4 at q2
  split at q2
  ·rename_i hs
   obtain ⟨hgo,hy⟩:=(r1 i m2 h2 H2 p2 k2 hr2 hs).1 hlt
   refine .inr ⟨hgo,M5 X.K E Dn src items sg g m1 H1 (i+1),fun σ5 H5 z20_=>by obtain ⟨m5,ρ5,h5,a1,a2,a3,a4,a5⟩:=z20_;exact (⟨items.length - (i+1),by omega,rfl,hlt,m5,ρ5,h5,a1,a2,a3,a4,a5⟩),fun y H3 hyl=>?_⟩
   obtain ⟨k3,hr3,d,ed,rd⟩:=hy y H3 hyl
   have ed':d=items[i]:=by rw [Br hlt] at ed;exact (Option.some.inj ed).symm
   subst ed'
   split at q2
   ·exact q2.elim
   ·rename_i ρ3 es
    refine ig m2 H3 _ y ρ2 σ2 ρ3 _ rd (er2.keep (Aw _) k3) es fun σ4 er4=>?_
    refine ⟨m2,ρ3,h2,hr3,er4,?_⟩
    have q3:=PostS.ahead (Aw _) k3 q2
    cases o:g ρ3 h2 with
    |stuck=>rw [o] at q3;exact q3
    |err C fs h5=>rw [o] at q3;exact q3
    |ok z h5=>
     rw [o] at q3
     obtain ⟨fl,ρ5⟩:=z
     intro m5 H5 p5 k5 hr5
     have pk:m1 <+:m5:=p2.trans p5
     have kk:Kp H1 H5:=(k2.trans k3).trans k5
     cases fl with
     |nx=>exact fun σ5 er5=>⟨m5,ρ5,h5,pk,kk,hr5,er5,PostS.ahead p5 k5 q3⟩
     |ct=>exact fun σ5 er5=>⟨m5,ρ5,h5,pk,kk,hr5,er5,PostS.ahead p5 k5 q3⟩
     |bk=>exact fun σ5 er5=>q3 m5 H5 p5 k5 hr5 σ5 er5
     |rt d=>exact fun v rv=>q3 m5 H5 p5 k5 hr5 v rv
  ·exact q2.elim
 ·have he:i=items.length:=Nat.le_antisymm hi (Ga hlt)
  subst he
  rw [List.drop_length] at q2
  unfold D4 at q2
  split at q2
  ·rename_i hs
   exact .inl ⟨(r1 _ m2 h2 H2 p2 k2 hr2 hs).2 rfl,(q2.here hr2) σ2 er2⟩
  ·exact q2.elim
end
section
variable {M:Model} {A:Around} {E:Value→Shared→Prop} {s:Shared}
theorem Ki {env:Env}:∀(names:List (Str×NameKind)) (acc:List (Str×Addr)),(∀y∈names,y.2=.free→∃c,env.cells.lookup y.1=some c)→
 ∃cl:List (Str×Addr),(forIn names acc (fun (x:Str×NameKind) (cs:List (Str×Addr))=>match x with
  |(name,kind)=>if (kind==NameKind.free)=true then do let y ←cellOf env name;pure (ForInStep.yield ((name,y)::cs)) else pure (ForInStep.yield cs)):Sem (List (Str×Addr)))=pure cl∧
  (∀x c,(x,c)∈cl→(x,c)∈acc∨(env.cells.lookup x=some c∧(x,NameKind.free)∈names))∧(∀y∈names,y.2=.free→∃c,(y.1,c)∈cl)∧(∀p∈acc,p∈cl)
 |[],acc,_=>⟨acc,rfl,fun x c h=>.inl h,fun y hy=>absurd hy (by simp),fun p h=>h⟩
 |(name,kind)::r,acc,h=>by
  rw [List.forIn_cons]
  by_cases hk:kind=.free
  ·subst hk
   obtain ⟨c,hc⟩:=h (name,.free) AI rfl
   obtain ⟨cl,e,h1,h2,h3⟩:=Ki (env:=env) r ((name,c)::acc) (fun y hy=>h y (AU _ hy))
   refine ⟨cl,?_,fun x c' hm=>?_,fun y hy hf=>?_,fun p hp=>h3 p (AU _ hp)⟩
   ·rw [←e]
    have:cellOf env name=pure c:=by unfold cellOf;rw [hc]
    simp only [this,beq_self_eq_true,if_true,pure_bind]
   ·rcases h1 x c' hm with q |⟨q1,q2⟩
    ·rcases qa9.mp q with q |q
     ·cases q;exact .inr ⟨hc,AI⟩
     ·exact .inl q
    ·exact .inr ⟨q1,AU _ q2⟩
   ·rcases qa9.mp hy with q |q
    ·subst q;exact ⟨c,h3 _ AI⟩
    ·exact h2 y q hf
  ·obtain ⟨cl,e,h1,h2,h3⟩:=Ki (env:=env) r acc (fun y hy=>h y (AU _ hy))
   refine ⟨cl,?_,fun x c' hm=>?_,fun y hy hf=>?_,h3⟩
   ·rw [←e]
    have hk':(kind==NameKind.free)=false:=by simpa using hk
    simp only [hk',BK,if_false,pure_bind]
   ·rcases h1 x c' hm with q |⟨q1,q2⟩
    ·exact .inl q
    ·exact .inr ⟨q1,AU _ q2⟩
   ·rcases qa9.mp hy with q |q
    ·subst q;exact absurd hf hk
    ·exact h2 y q hf
theorem M6 {scope:Scope} {env:Env} (h:∀y∈scope.names,y.2=.free→∃c,env.cells.lookup y.1=some c):
 ∃cl:List (Str×Addr),closureFor scope env=pure cl∧(∀x c,(x,c)∈cl→env.cells.lookup x=some c∧(x,NameKind.free)∈scope.names)∧(∀y∈scope.names,y.2=.free→∃c,(y.1,c)∈cl):=by
 obtain ⟨cl,e,h1,h2,h3⟩:=Ki (env:=env) scope.names [] h
 refine ⟨cl,?_,fun x c hm=>?_,h2⟩
 ·unfold closureFor
  simp only [bind_pure]
  exact e
 ·rcases h1 x c hm with q |q
  ·exact nomatch q
  ·exact q
theorem M7 {scope:Scope} {globals:Addr} {cl:List (Str×Addr)} {qual:Str} {around:Env} {Q:Env→Shared→Prop}
 (h:Q (newEnv scope s.heap.objs.size globals (cellsFrom (s.heap.objs.size+1) scope.names cl) qual none .none (some around) builtinsNs) {s with heap:=pushCells (s.heap.push {cls:=.type "dict",data:=.dict #[]}) scope.names}):
 wpAny M A (newFunctionEnv scope globals cl [] qual none .none (some around)) Q E s:=by
 simp only [newFunctionEnv,Option.isSome_some,if_true]
 refine wpAny_bind (wpAny_alloc ?_)
 refine wpAny_bind (wpAny_layCells _ (fun name kind cells=>by cases hkc:kind==NameKind.cell<;>simp [hkc]) _ _ _ _ ?_)
 simp only [List.forIn_nil,pure_bind]
 refine wpAny_pure ?_
 rw [show ({s with heap:=s.heap.push {cls:=.type "dict",data:=.dict #[]}}:Shared).heap.objs.size=s.heap.objs.size+1 from DS ..]
 exact h
end
section
variable {prog:Program} {w:World} {A:Around} {R:Result→Shared→Prop} {s:Shared}
theorem Tc {elt target iter:Expr} {ifs:List Expr} {scope:Scope} {pos:Pos} {it acc:Value} {env:Env} (I:Nat→Shared→Prop)
 (turn:∀n s,I n s→wpAny (model prog w) A (pyNext it) (fun r s₁=>match r with
  |none=>R (.ok .next) s₁
  |some v=>wpAny (model prog w) A (letOwnedTupleGo target it v) (fun _ s₁'=>wpAny (model prog w) A (assign target env v) (fun _ s₂=>
   wpAny (model prog w) A (forIn ifs true fun c r=>if r=true then do let ok ←isTrue c env (eval c env);pure (ForInStep.yield ok) else pure (ForInStep.yield r)) (fun ok s₃=>
    if ok=true then wpAny (model prog w) A (eval elt env) (fun x s₄=>
     wpAny (model prog w) A (call (.builtin "list.append") [acc,x]) (fun _ s₅=>∃m,m<n∧I m s₅) (notedBy (model prog w) A env fun e s'=>R (.error e) s') s₄) (notedBy (model prog w) A env fun e s'=>R (.error e) s') s₃
    else ∃m,m<n∧I m s₃) (notedBy (model prog w) A env fun e s'=>R (.error e) s') s₂) (notedBy (model prog w) A env fun e s'=>R (.error e) s') s₁') (notedBy (model prog w) A env fun e s'=>R (.error e) s') s₁) (notedBy (model prog w) A env fun e s'=>R (.error e) s') s)
 (n:Nat) (h:I n s):
 codeAny (model prog w) A (.compLoop (.ListComp elt [⟨target,iter,ifs,0⟩] scope pos) 0 it acc env) R s:=by
 refine codeAny_loop rfl I (fun n s hI=>?_) n h
 show wpAny _ A ((compTurn (.ListComp elt [⟨target,iter,ifs,0⟩] scope pos) 0 it acc env).onRaise (fun x=>do noteFrame x env;theTreesLotGoes x)) _ _ s
 refine wpAny_noted ?_
 rw [compTurn_list]
 refine wpAny_bind (wpAny_standAt (wpAny_bind (wpAny_mono (turn n s hI) (fun r s₁ h₁=>?_) fun _ _ h'=>h')))
 cases r with
 |none=>exact wpAny_pure h₁
 |some v=>
  refine wpAny_bind (wpAny_mono h₁ (fun _ s₁' h₁'=>?_) fun _ _ h'=>h')
  refine wpAny_bind (wpAny_mono h₁' (fun _ s₂ h₂=>wpAny_bind (wpAny_mono h₂ (fun ok s₃ h₃=>?_) fun _ _ h'=>h')) fun _ _ h'=>h')
  cases ok with
  |false=>exact wpAny_pure ⟨rfl,h₃⟩
  |true=>
   exact wpAny_bind (wpAny_bind (wpAny_mono h₃ (fun x s₄ h₄=>wpAny_bind (wpAny_mono h₄ (fun _ s₅ h₅=>wpAny_pure (wpAny_pure ⟨rfl,h₅⟩)) fun _ _ h'=>h')) fun _ _ h'=>h'))
end
def Ey (X:Cx) (ifs:List Expr) (t:TT):Prop:=∀(pins:List (Addr×Obj)) (s:Shared) (σ:L2.St) (H:Hp) (Q:Bool→Hp→Prop),Inv X pins σ H s→t σ H Q→
 wpAny (model X.prog X.w) X.A (forIn ifs true fun c r=>if r=true then do let ok ←isTrue c X.env (eval c X.env);pure (ForInStep.yield ok) else pure (ForInStep.yield r)) (TP X pins σ Q) X.xe s
theorem Td {X:Cx}:Ey X [] (fun _ H Q=>Q true H):=fun _ _ _ H _ I h=>wpAny_tests_nil ⟨H,I,h⟩
theorem Te {X:Cx} {c:Expr} {t:TT} (h:PT X c t):Ey X [c] t:=fun pins s σ H Q I q=>wpAny_tests_one (h pins s σ H Q I q)
def M8 (env:Env) (scope:Scope) (C:Addr) (cells:List (Str×Addr)):Env:=
 {scope:=relabel scope env,locals:=C,globals:=env.globals,cells:=cells,qual:=env.qual,func:=none,code:=env.code,frame:=env.frame,builtins:=env.builtins}
def A0 (X:Cx) (Nc:List Str) (scope:Scope) (C D:Addr) (cells:List (Str×Addr)) (fp:List Addr) (s₀:Shared) (H₀:Hp) (pins:List (Addr×Obj)):Cx:=
 {X with N:=Nc,s₀:=s₀,H₀:=H₀,env:=M8 X.env scope C cells,outer:=X.stack,stack:=X.stack,ex:=D::fp,fn:=fun x=>scope.names.lookup x==some .cell,pn:=X.pn++pins,xe:=fun _ _=>False}
def Bq (cs:List (Option Nat)) (σ:L2.St):L2.St:=cs.map fun o=>o.bind fun j=>(σ[j]?).join
def Sub (σ σ':L2.St):Prop:=σ.length=σ'.length∧∀(i:Nat) v,σ[i]?=some (some v)→σ'[i]?=some (some v)
def Kj (cs:List (Option Nat)) (wi:TI) (g:TG) (tc:TT) (te:TE):TE:=fun σ H Q=>wi σ H fun J H1=>∃W:Nat→Nat→List V→Hp→Prop,(∃n,W 0 n [] H1)∧∀i n acc H,W i n acc H→
 (J.stop i H∧acc.length≤sizeLine∧∀p,H p=none→Q (.ref p) (Am H p (.lst acc)))∨
 (J.go i H∧acc.length<sizeLine∧∀x H',J.yld i H x H'→g x (Bq cs σ) H' fun σ2 H2=>Sub (Bq cs σ) σ2∧tc σ2 H2 fun b H3=>if b=true then te σ2 H3 fun y H4=>∃n',n' < n∧W (i+1) n' (acc++[y]) H4 else ∃n',n' < n∧W (i+1) n' acc H3)
theorem Kk:∀(names:List (Str×NameKind)) (h:Heap) (acc:List (Str×Addr)) (x:Str) (c:Addr),(x,c)∈cellsFrom h.objs.size names acc→(x,c)∈acc∨(h.objs.size≤c∧(x,NameKind.cell)∈names∧(pushCells h names).IsCell c none)
 |[],_,_,_,_,m=>.inl m
 |(name,kind)::r,h,acc,x,c,m=>by
  unfold cellsFrom at m
  unfold pushCells
  split at m
  ·rename_i hk
   rw [if_pos hk]
   have hk':kind=.cell:=by simpa using hk
   have e:h.objs.size+1=(h.push {cls:=.type "cell",data:=.cell none}).objs.size:=(DS ..).symm
   rw [e] at m
   rcases Kk r _ _ x c m with q |⟨q1,q2,q3⟩
   ·rcases qa9.mp q with q |q
    ·cases q
     refine .inr ⟨AJ _,by rw [hk'];exact AI,?_⟩
     exact (show (h.push {cls:=.type "cell",data:=.cell none}).IsCell h.objs.size none from ⟨_,BI _ rfl,rfl⟩).keeps fun b o e=>pushCells_keeps _ _ b o e
    ·exact .inl q
   ·exact .inr ⟨by rw [←e] at q1;exact Nat.le_of_succ_le q1,AU _ q2,q3⟩
  ·rename_i hk
   rw [if_neg hk]
   rcases Kk r h acc x c m with q |⟨q1,q2,q3⟩
   ·exact .inl q
   ·exact .inr ⟨q1,AU _ q2,q3⟩
theorem Kl:∀(names:List (Str×NameKind)) (h:Heap) (acc:List (Str×Addr)),(∀x c,(x,c)∈acc→c<h.objs.size)→(∀x y c,(x,c)∈acc→(y,c)∈acc→x=y)→
 ∀x y c,(x,c)∈cellsFrom h.objs.size names acc→(y,c)∈cellsFrom h.objs.size names acc→x=y
 |[],_,_,_,i=>i
 |(name,kind)::r,h,acc,lt,i=>by
  unfold cellsFrom
  split
  ·have e:h.objs.size+1=(h.push {cls:=.type "cell",data:=.cell none}).objs.size:=(DS ..).symm
   rw [e]
   refine Kl r _ _ (fun x c m=>?_) (fun x y c m m'=>?_)
   ·rw [←e]
    rcases qa9.mp m with q |q
    ·cases q;exact Nat.lt_succ_self _
    ·exact Nat.lt_succ_of_lt (lt x c q)
   ·rcases qa9.mp m with q |q<;>rcases qa9.mp m' with q' |q'
    ·cases q;cases q';rfl
    ·cases q;exact absurd (lt y _ q') (Dd _)
    ·cases q';exact absurd (lt x _ q) (Dd _)
    ·exact i x y c q q'
  ·exact Kl r h acc lt i
theorem lookup_mem {α:Type} {l:List (Str×α)} {x:Str} {k:α} (nd:(l.map (·.1)).Nodup) (h:(x,k)∈l):l.lookup x=some k:=by
 induction l with
 |nil=>cases h
 |cons p r ih=>
  obtain ⟨y,j⟩:=p
  rw [Bj,qbG] at nd
  rw [Gb]
  rcases qa9.mp h with e |e
  ·cases e;simp
  ·have:x≠y:=by
    rintro rfl
    exact nd.1 (qaU.mpr ⟨(x,k),e,rfl⟩)
   have hb:(x==y)=false:=by simpa using this
   rw [hb]
   exact ih nd.2 e
theorem Tf {env:Env} {x n:Str} {j:NameKind} {r:List (Str×NameKind)} {k:NameKind} (h:List.lookup x ((if (j==NameKind.free&&env.scope.kind==.function&&env.kindOf n==some .cell)=true then (n,NameKind.cell) else (n,j))::r)=some k):
 (x=n∧(k=j∨(j=.free∧k=.cell)))∨(x≠n∧List.lookup x r=some k):=by
 by_cases hx:x=n
 ·subst hx
  refine .inl ⟨rfl,?_⟩
  split at h
  ·rename_i hc
   rw [Gb] at h
   simp only [beq_self_eq_true] at h
   cases h
   simp only [Du] at hc
   exact .inr ⟨by simpa using hc.1.1,rfl⟩
  ·rw [Gb] at h
   simp only [beq_self_eq_true] at h
   cases h
   exact .inl rfl
 ·have hb:(x==n)=false:=by simpa using hx
  refine .inr ⟨hx,?_⟩
  split at h<;>(rw [Gb] at h;simp only [hb] at h;exact h)
theorem M9 {scope:Scope} {env:Env} {x:Str} {k:NameKind}:(relabel scope env).names.lookup x=some k→∃k0,scope.names.lookup x=some k0∧(k=k0∨(k0=.free∧k=.cell)):=by
 show (scope.names.map _).lookup x=some k→_
 induction scope.names with
 |nil=>intro h;cases h
 |cons p r ih=>
  obtain ⟨n,j⟩:=p
  intro h
  rw [Bj] at h
  rw [Gb]
  rcases Tf h with ⟨hx,hk⟩ |⟨hx,hr⟩
  ·subst hx
   simp only [beq_self_eq_true]
   exact ⟨j,rfl,hk⟩
  ·have hb:(x==n)=false:=by simpa using hx
   rw [hb]
   exact ih hr
structure E2 (X:Cx) (scope:Scope) (Nc:List Str) (cs:List (Option Nat)):Prop where
 kind:scope.kind=.function
 loc:∀y∈scope.names,y.2=.local→scope.names.lookup y.1=some .local
 free:∀y∈scope.names,y.2=.free→X.env.kindOf y.1=some .cell∨X.env.kindOf y.1=some .free
 nd:(scope.names.map (·.1)).Nodup
 len:cs.length=Nc.length
 out:∀(i:Nat) (x:Str) (j:Nat),Nc[i]?=some x→cs[i]?=some (some j)→X.N[j]?=some x∧scope.names.lookup x=some .free
theorem Tg {a b:Addr} (h:a<b):@LT.lt Nat instLTNat a b:=h
theorem BE {a b:Addr} (h:@LT.lt Nat instLTNat a b):a≠b:=Ce h
theorem Gz {a b:Addr} (h:@LT.lt Nat instLTNat a b):b≠a:=Ne.symm (Ce h)
section
variable {X:Cx} {pins:List (Addr×Obj)} {σ:L2.St} {H:Hp} {s:Shared}
theorem Na {scope:Scope} {Nc:List Str} {cs:List (Option Nat)} {fp:List Addr} {cl:List (Str×Addr)} (S:E2 X scope Nc cs) (I:Inv X pins σ H s) (f:∀b∈fp,Cr X pins H b) (ob:∀b∈fp,∃o,s.heap.get? b=some o)
 (hcl:∀x c,(x,c)∈cl→X.env.cells.lookup x=some c∧(x,NameKind.free)∈scope.names) (hcl2:∀y∈scope.names,y.2=.free→∃c,(y.1,c)∈cl) {s3:Shared} (e3:s3={s with heap:=s.heap.push {cls:=.type "list",data:=.seq ([]:List Value).toArray}}):
 Inv (A0 X Nc scope s3.heap.objs.size s.heap.objs.size (cellsFrom (s3.heap.objs.size+1) scope.names cl) fp s3 H pins) [] (Bq cs σ) H
  {s3 with heap:=pushCells (s3.heap.push {cls:=.type "dict",data:=.dict #[]}) scope.names}:=by
 have k3:∀b o,s.heap.get? b=some o→s3.heap.get? b=some o:=fun b o e=>by subst e3;exact Bn _ e
 have Hs:s3.heap.objs.size=s.heap.objs.size+1:=by subst e3;exact DS ..
 have szd:(s3.heap.push {cls:=.type "dict",data:=.dict #[]}).objs.size=s3.heap.objs.size+1:=DS ..
 have k34:∀b o,s3.heap.get? b=some o→(pushCells (s3.heap.push {cls:=.type "dict",data:=.dict #[]}) scope.names).get? b=some o:=fun b o e=>pushCells_keeps _ _ b o (Bn _ e)
 have k4:∀b o,s.heap.get? b=some o→(pushCells (s3.heap.push {cls:=.type "dict",data:=.dict #[]}) scope.names).get? b=some o:=fun b o e=>k34 b o (k3 b o e)
 have cllt:∀x c,(x,c)∈cl→c<s.heap.objs.size:=fun x c m=>by
  obtain ⟨v,q⟩:=I.cell x c (hcl x c m).1
  exact q.lt
 have cm:∀x c,(cellsFrom (s3.heap.objs.size+1) scope.names cl).lookup x=some c→(x,c)∈cl∨(s3.heap.objs.size+1≤c∧(x,NameKind.cell)∈scope.names∧(pushCells (s3.heap.push {cls:=.type "dict",data:=.dict #[]}) scope.names).IsCell c none):=fun x c e=>by
  have m:=mem_of_lookup e
  rw [←szd] at m
  have:=Kk scope.names _ cl x c m
  rw [szd] at this
  exact this
 have frs_lt:∀b∈frs X.stack,b<s.heap.objs.size:=fun b hb=>by
  obtain ⟨_,o,ho,_⟩:=I.stack.mem hb
  exact AA ho
 have nfs:∀b,b≠X.env.locals→b∉X.fs→b∉frs X.stack:=fun b h1 h2 hb=>by
  rcases qa9.mp (I.stkSub b hb) with q |q
  ·exact h1 q
  ·exact h2 q
 have ok:(A0 X Nc scope s3.heap.objs.size s.heap.objs.size (cellsFrom (s3.heap.objs.size+1) scope.names cl) fp s3 H pins).Ok:=by
  refine ⟨I.ok.mod,S.kind,I.ok.glob,I.ok.blt,AJ _,fun x y c e1 e2=>?_,fun x hx=>?_,fun x c hf e=>?_,I.ok.hd,I.ok.frames,.inl rfl,fun b hb=>?_,fun b o e=>?_,?_,fun b o e hb=>?_,fun b hb=>?_,?_,I.stkFree⟩
  ·have m1:=mem_of_lookup e1
   have m2:=mem_of_lookup e2
   have m1':(x,c)∈cellsFrom (s3.heap.push {cls:=.type "dict",data:=.dict #[]}).objs.size scope.names cl:=by rw [szd];exact m1
   have m2':(y,c)∈cellsFrom (s3.heap.push {cls:=.type "dict",data:=.dict #[]}).objs.size scope.names cl:=by rw [szd];exact m2
   exact Kl scope.names (s3.heap.push {cls:=.type "dict",data:=.dict #[]}) cl (fun x c m=>by rw [szd,Hs];exact Bo (cllt x c m) (by omega))
    (fun x y c a b=>I.ok.inj x y c (hcl x c a).1 (hcl y c b).1) x y c m1' m2'
  ·have:∃k,(relabel scope X.env).names.lookup x=some k∧(k=.cell∨k=.free):=by
    rcases hx with q |q
    ·exact ⟨_,q,.inl rfl⟩
    ·exact ⟨_,q,.inr rfl⟩
   obtain ⟨k,e1,hk⟩:=this
   obtain ⟨k0,e0,hk0⟩:=M9 e1
   refine Option.isSome_iff_exists.mp (PySem.W.cellsFrom_some _ _ _ ?_)
   have:k0=.cell∨k0=.free:=by
    rcases hk0 with q |⟨q,_⟩
    ·rw [←q];exact hk
    ·exact .inr q
   rcases this with q |q
   ·subst q;exact .inl e0
   ·subst q
    obtain ⟨c,hc⟩:=hcl2 _ (mem_of_lookup e0) rfl
    refine .inr ?_
    cases hl:cl.lookup x with
    |some c'=>rfl
    |none=>
     exfalso
     have:∀p∈cl,p.1≠x:=fun p hp e=>by
      have h2:=List.lookup_eq_none_iff.mp hl p hp
      rw [e] at h2
      simp at h2
     exact this _ hc rfl
  ·have hk:scope.names.lookup x=some .cell:=by
    have:(scope.names.lookup x==some NameKind.cell)=true:=hf
    simpa using this
   rcases cm x c e with q |⟨q1,_,_⟩
   ·have:=lookup_mem S.nd (hcl x c q).2
    rw [hk] at this
    cases this
   ·exact Nat.le_of_succ_le q1
  ·rcases qa9.mp hb with q |q
   ·subst q
    refine ⟨BE (show _<s3.heap.objs.size by omega),fun x c e=>?_⟩
    rcases cm x c e with q |⟨q1,_,_⟩
    ·exact Ce (cllt x c q)
    ·exact Gz (Bo (by omega) q1)
   ·obtain ⟨o,ho⟩:=ob b q
    have hlt:=Tg (AA ho)
    refine ⟨BE (show _<s3.heap.objs.size by omega),fun x c e=>?_⟩
    rcases cm x c e with q2 |⟨q1,_,_⟩
    ·exact (f b q).2.2.2.2.1 x c (hcl x c q2).1
    ·exact Gz (Bo (by omega) q1)
  ·obtain ⟨h1,h2⟩:=I.bs b o e
   exact ⟨k3 b o h1,h2⟩
  ·show X.base.objs.size≤s3.heap.objs.size
   have:=BU I.ok.bsz I.sz
   omega
  ·obtain ⟨h1,h2⟩:=I.bs b o e
   rcases qa9.mp hb with q |q
   ·exact absurd q (BE (AA h1))
   ·rcases (f b q).2.2.2.1 with z |z
    ·exact I.ok.noex b o e z
    ·exact absurd (Bo (AA (I.ok.bs b o e).1) z) (Dd _)
  ·rcases qa9.mp hb with q |q
   ·subst q
    intro z
    exact absurd (frs_lt _ z) (Dd _)
   ·exact nfs b (f b q).2.1 (f b q).2.2.1
  ·exact I.stack.of_keeps fun b o e _=>⟨o,k3 b o e,rfl⟩
 refine ⟨ok,rfl,?_,?_,?_,fun x c e=>?_,?_,fun x c e=>?_,fun p hp=>?_,I.hok.kept k4,?_⟩
 ·show AllBare s3.gens
  subst e3;exact I.bare
 ·exact Un.kept k34
 ·refine ⟨fun _=>none,(Heap.Ns.new s3.heap (.type "dict")).keeps (pushCells_keeps _ _),fun i x v e1 e2 e3'=>?_⟩
  unfold Bq at e2
  rw [Dc] at e2
  cases ec:cs[i]? with
  |none=>rw [ec] at e2;cases e2
  |some o=>
   rw [ec] at e2
   cases o with
   |none=>cases e2
   |some j=>
    simp only [Gc,Option.bind_some,Option.some.injEq] at e2
    have e2':σ[j]?=some (some v):=by
     cases ej:σ[j]? with
     |none=>rw [ej] at e2;cases e2
     |some w=>rw [ej] at e2;simp at e2;rw [e2]
    obtain ⟨hN,hfr⟩:=S.out i x j e1 ec
    have hfm:=mem_of_lookup hfr
    have hkind:=S.free _ hfm rfl
    obtain ⟨m,hn,hl⟩:=I.loc
    obtain ⟨u,r,look⟩:=hl j x v hN e2' (by
     rcases hkind with q |q
     ·exact .inr (.inl q)
     ·exact .inr (.inr q))
    refine ⟨u,r,.inr ?_⟩
    rcases look with ⟨q,_⟩ |⟨_,c,ec',hc⟩
    ·rcases hkind with z |z<;>(rw [q] at z;cases z)
    ·obtain ⟨c',hc'⟩:=hcl2 _ hfm rfl
     have hv:(A0 X Nc scope s3.heap.objs.size s.heap.objs.size (cellsFrom (s3.heap.objs.size+1) scope.names cl) fp s3 H pins).env.kindOf x=some .cell∨(A0 X Nc scope s3.heap.objs.size s.heap.objs.size (cellsFrom (s3.heap.objs.size+1) scope.names cl) fp s3 H pins).env.kindOf x=some .free:=by
      rcases e3' with z |z |z
      ·obtain ⟨k0,a1,a2⟩:=M9 z
       rw [hfr] at a1
       cases a1
       rcases a2 with a2 |⟨_,a2⟩<;>cases a2
      ·exact .inl z
      ·exact .inr z
     refine ⟨hv,c,?_,hc.keeps k4⟩
     obtain ⟨c2,h2⟩:=ok.has x hv
     rw [h2]
     rcases cm x c2 h2 with q |⟨_,q,_⟩
     ·rw [←ec',(hcl x c2 q).1]
     ·have:=lookup_mem S.nd q
      rw [hfr] at this
      cases this
 ·rcases cm x c e with q |⟨_,_,q⟩
  ·obtain ⟨v,z⟩:=I.cell x c (hcl x c q).1
   exact ⟨v,z.keeps k4⟩
  ·exact ⟨none,q⟩
 ·exact I.hok.fresh (show s.heap.objs.size≤s3.heap.objs.size by omega)
 ·rcases cm x c e with q |⟨q,_,_⟩
  ·exact I.freeC x c (hcl x c q).1
  ·exact I.hok.fresh (by omega)
 ·have hp':p∈X.pn++pins:=by
   rcases qaL.mp hp with q |q
   ·exact q
   ·exact absurd q (by simp)
  obtain ⟨a1,a2,a3,a4,a5⟩:=I.pin p hp'
  refine ⟨k4 _ _ a1,a2,?_,nfs p.1 a3 a4,a5⟩
  show p.1≠s3.heap.objs.size
  exact BE (Bo (AA a1) (by omega))
 ·show (Bq cs σ).length=Nc.length
  simp [Bq,S.len]
end
section
variable {X:Cx} {elt tg iter:Expr} {ifs:List Expr} {scope:Scope} {pos:Pos} {Nc:List Str} {cs:List (Option Nat)} {wi:TI} {g:TG} {tc:TT} {te:TE}
theorem Nb {pins:List (Addr×Obj)} {σ:L2.St} {H H':Hp} {s s3 s':Shared} {fp:List Addr} {C:Addr} {cells:List (Str×Addr)} {po:List (Addr×Obj)} {σc:L2.St} {acc:List V} {its:List Value} {n:Nat}
 (I:Inv X pins σ H s) (f:∀b∈fp,Cr X pins H b) (e3:s3={s with heap:=s.heap.push {cls:=.type "list",data:=.seq ([]:List Value).toArray}}) (hC:C=s3.heap.objs.size)
 (I':Inv (A0 X Nc scope C s.heap.objs.size cells fp s3 H pins) po σc H' s') (hD:H' s.heap.objs.size=none) (hl:acc.length≤sizeLine) (rv:Vals acc its) (ho:s'.heap.get? s.heap.objs.size=some {cls:=.type "list",data:=.seq its.toArray n})
 {h':Heap} (sb:Heap.SameBut C s'.heap h'):Inv X pins σ (Am H' s.heap.objs.size (.lst acc)) {s' with heap:=h'}:=by
 have k3:∀b o,s.heap.get? b=some o→s3.heap.get? b=some o:=fun b o e=>by subst e3;exact Bn _ e
 have Hs:s3.heap.objs.size=s.heap.objs.size+1:=by subst e3;exact DS ..
 have D1:∀b o,s.heap.get? b=some o→b≠s.heap.objs.size:=fun b o e=>BE (AA e)
 have neC:∀b o,s.heap.get? b=some o→b≠C:=fun b o e=>by rw [hC];exact BE (Bo (AA e) (by omega))
 have DC:s.heap.objs.size≠C:=by rw [hC];exact BE (by omega)
 have U:Un (frs X.stack) (s.heap.objs.size::fp) H H' s3.heap s'.heap:=I'.base
 have exn:∀b o,s.heap.get? b=some o→b∉fp→b∉s.heap.objs.size::fp:=fun b o e hx hb=>by
  rcases qa9.mp hb with z |z
  ·exact D1 b o e z
  ·exact hx z
 have neT:∀b u,H' b=some u→b≠s.heap.objs.size:=fun b u e=>BL e hD
 have hCn:H' C=none:=I'.free
 refine I.call' (s':={s' with heap:=h'}) (ch:=fp) ?_ ?_ ?_ I'.bare ?_
 ·show s'.os=s.os
  have:=I'.os
  rw [this]
  show s3.os=s.os
  subst e3;rfl
 ·refine ⟨fun b o e nn hb hx=>?_,fun b o e nn hb hx=>?_,fun b o e nn hx=>?_,fun b o e hx=>?_,fun b xs e=>?_,fun b o u e=>?_,fun b ps e=>?_⟩
  ·exact (sb.2 b (neC b o e)).trans (U.keep b o (k3 b o e) nn hb (exn b o e hx))
  ·obtain ⟨sl,z⟩:=U.slot b o (k3 b o e) nn hb (exn b o e hx)
   exact ⟨sl,(sb.2 b (neC b o e)).trans z⟩
  ·rw [AC (D1 b o e)]
   exact U.free b o (k3 b o e) nn (exn b o e hx)
  ·obtain ⟨o',z⟩:=U.there b o (k3 b o e) (exn b o e hx)
   exact ⟨o',(sb.2 b (neC b o e)).trans z⟩
  ·have z:=U.tups b xs e
   rw [AC (neT b _ z)]
   exact z
  ·have z:=U.frzs b o u e
   rw [AC (neT b _ z)]
   exact z
  ·obtain ⟨more,z⟩:=U.tbls b ps e
   exact ⟨more,by rw [AC (neT b _ z)];exact z⟩
 ·intro b u e
  by_cases hb:b=s.heap.objs.size
  ·subst hb
   rw [Cf] at e
   cases e
   exact ⟨hl,its,n,rv,(sb.2 _ DC).trans ho⟩
  ·rw [AC hb] at e
   refine (I'.hok b u e).stay (fun c v hc z=>(sb.2 c ?_).trans z) (fun c z=>by rw [AC (neT c _ z)];exact z) fun c xs z=>by rw [AC (neT c _ z)];exact z
   rcases hc with rfl |hc
   ·exact BL e hCn
   ·exact BL hc hCn
 ·intro b hb
  obtain ⟨_,f1,_,f3,f4,f5⟩:=f b hb
  exact ⟨f3,f1,f4,f5⟩
inductive Nd (W:Nat→Nat→List V→Hp→Prop) (Xc:Cx) (σc:L2.St) (tn:Nat→Heap→Prop) (fp:List Addr) (Da:Addr) (n:Nat) (s':Shared):Prop where
 |mk (i:Nat) (acc:List V) (H':Hp) (its:List Value) (k:Nat) (w:W i n acc H') (ii:Inv Xc [] σc H' s') (st:tn i s'.heap) (fr:∀b∈fp,H' b=none) (hD:H' Da=none) (rv:Vals acc its) (ho:s'.heap.get? Da=some {cls:=.type "list",data:=.seq its.toArray k}):Nd W Xc σc tn fp Da n s'
theorem Th {use:Option (Value→Sem Unit)} {QQ:Value→Shared→Prop} {ppos:Pos} {pins:List (Addr×Obj)} {s:Shared} {σ:L2.St} {H:Hp} {Q:VK} (hcalm:X.calm=true) (S:E2 X scope Nc cs) (hi:PI X tg iter wi)
 (hb:∀(C D:Addr) (cells:List (Str×Addr)) (fp:List Addr) (s₀:Shared) (H₀:Hp) (pins:List (Addr×Obj)),PG (A0 X Nc scope C D cells fp s₀ H₀ pins) tg g∧Ey (A0 X Nc scope C D cells fp s₀ H₀ pins) ifs tc∧PE (A0 X Nc scope C D cells fp s₀ H₀ pins) elt te)
 (hsf:∀x,foldedSetIterable iter X.env x=pure x) (I:Inv X pins σ H s) (h:Kj cs wi g tc te σ H Q)
 (A4:∀(s6:Shared) (C D:Addr) (H7:Hp) (m6:Str→Option Value),s6.heap.Ns C m6→H7 C=none→X.s₀.heap.objs.size≤C→C≠X.env.locals→(∀x c,X.env.cells.lookup x=some c→c≠C)→(∀p∈X.pn++pins,p.1≠C)→
  (∀h',Heap.SameBut C s6.heap h'→Inv X pins σ H7 {s6 with heap:=h'})→Q (.ref D) H7→compPost (model X.prog X.w) X.A X.xe use QQ (.ref D) C (.ok .next) s6):
 wpAny (model X.prog X.w) X.A (comprehension (.ListComp elt [⟨tg,iter,ifs,0⟩] scope pos) scope X.env ppos (newList []) false (eval iter X.env) use) QQ X.xe s:=by
 obtain ⟨cl,hclos,hcl,hcl2⟩:=M6 (scope:=scope) (env:=X.env) fun y hy hf=>I.ok.has y.1 (S.free y hy hf)
 refine wpAny_comprehension_free (use:=use) rfl hsf hclos S.kind S.loc (An (hi pins s σ H _ I h) fun xv s1 h1=>An h1 fun itv s2 h2=>?_)
 obtain ⟨it,fp,tn,J,H2,e,I2,T,CZ,f2,W,⟨n0,w0⟩,turn⟩:=h2
 subst e
 refine wpAny_newObj_type ?_
 generalize e3:({s2 with heap:=s2.heap.push {cls:=.type "list",data:=.seq ([]:List Value).toArray}}:Shared)=s3
 refine M7 ?_
 have ob2:∀b∈fp,∃o,s2.heap.get? b=some o:=fun b hb=>let ⟨o,e,_⟩:=T.obj _ _ CZ b hb;⟨o,e⟩
 have I4:=Na (fp:=fp) (cl:=cl) S I2 f2 ob2 hcl hcl2 e3.symm
 generalize e4:({s3 with heap:=pushCells (s3.heap.push {cls:=.type "dict",data:=.dict #[]}) scope.names}:Shared)=s4 at I4
 generalize ecl:cellsFrom (s3.heap.objs.size+1) scope.names cl=cells at I4
 obtain ⟨pg,pt,pe⟩:=hb s3.heap.objs.size s2.heap.objs.size cells fp s3 H2 pins
 generalize eX:A0 X Nc scope s3.heap.objs.size s2.heap.objs.size cells fp s3 H2 pins=Xc at I4 pg pt pe
 have xP:Xc.prog=X.prog:=by subst eX;rfl
 have xw:Xc.w=X.w:=by subst eX;rfl
 have xK:Xc.K=X.K:=by subst eX;rfl
 have xA:Xc.A=X.A:=by subst eX;rfl
 have xE:Xc.env=M8 X.env scope s3.heap.objs.size cells:=by subst eX;rfl
 have xL:Xc.env.locals=s3.heap.objs.size:=by subst eX;rfl
 have xe:Xc.xe=fun _ _=>False:=by subst eX;rfl
 have xc:Xc.calm=true:=by subst eX;exact hcalm
 have xex:Xc.ex=s2.heap.objs.size::fp:=by subst eX;rfl
 have okc:=I4.ok
 have k3:∀b o,s2.heap.get? b=some o→s3.heap.get? b=some o:=fun b o e=>by subst e3;exact Bn _ e
 have Hs:s3.heap.objs.size=s2.heap.objs.size+1:=by subst e3;exact DS ..
 have k34:∀b o,s3.heap.get? b=some o→s4.heap.get? b=some o:=fun b o e=>by subst e4;exact pushCells_keeps _ _ b o (Bn _ e)
 have hDC:s2.heap.objs.size≠Xc.env.locals:=by rw [xL];exact BE (by omega)
 have hDcell:∀x c,Xc.env.cells.lookup x=some c→c≠s2.heap.objs.size:=fun x c e=>(okc.exf _ (by rw [xex];exact AI)).2 x c e
 have hDpin:∀p∈Xc.pn,p.1≠s2.heap.objs.size:=fun p hp=>by
  have hp':p∈X.pn++pins:=by subst eX;exact hp
  exact BE (AA (I2.pin p hp').1)
 have hDfp:s2.heap.objs.size∉fp:=fun hm=>by
  obtain ⟨o,e⟩:=ob2 _ hm
  exact absurd (AA e) (Dd _)
 have hDex:s2.heap.objs.size∈Xc.ex:=by rw [xex];exact AI
 have hDfs:s2.heap.objs.size∉Xc.fs:=okc.exfs _ hDex
 have fpC:∀{po:List (Addr×Obj)} {H':Hp},(∀b∈fp,H' b=none)→(∀p∈po,p.1=s2.heap.objs.size)→∀b∈fp,Cr Xc po H' b:=fun {po H'} hn hp b hb=>by
  have hbx:b∈Xc.ex:=by rw [xex];exact AU _ hb
  refine ⟨hn b hb,(okc.exf b hbx).1,okc.exfs b hbx,.inl hbx,(okc.exf b hbx).2,fun p hpp=>?_⟩
  rcases qaL.mp hpp with z |z
  ·have hp':p∈X.pn++pins:=by subst eX;exact z
   exact (f2 b hb).2.2.2.2.2 p hp'
  ·rw [hp p z]
   intro e
   exact hDfp (e ▸ hb)
 have loop:∀sx,sx=s4→codeAny (model X.prog X.w) X.A (.compLoop (.ListComp elt [⟨tg,iter,ifs,0⟩] scope pos) 0 (.ref it) (.ref s2.heap.objs.size) Xc.env)
  (compPost (model X.prog X.w) X.A X.xe use QQ (.ref s2.heap.objs.size) s3.heap.objs.size) sx:=by
  rintro sx rfl
  refine Tc (Nd W Xc (Bq cs σ) tn fp s2.heap.objs.size) ?_ n0
   ⟨0,[],H2,[],0,w0,I4,?_,fun b hb=>(f2 b hb).1,I2.hok.fresh (AJ _),.nil,?_⟩
  ·rintro n s5 ⟨i,acc,H5,its,k,w5,I5,DP,fr5,hD5,rv5,ho5⟩
   have pin1:Inv Xc [(s2.heap.objs.size,{cls:=.type "list",data:=.seq its.toArray k})] (Bq cs σ) H5 s5:=I5.pins_of fun p hp=>by
    rw [qaD] at hp
    subst hp
    exact ⟨ho5,hD5,hDC,hDfs,fun v z=>by cases z⟩
   have pone:∀p∈[((s2.heap.objs.size:Addr),({cls:=.type "list",data:=.seq its.toArray k}:Obj))],p.1=s2.heap.objs.size:=fun p hp=>by
    rw [qaD] at hp;subst hp;rfl
   rcases turn i n acc H5 w5 with ⟨stop,hlen,qn⟩ |⟨go,hlen,step⟩
   ·have z1:=T.done Xc xP xw xK xc i _ s5 (Bq cs σ) H5 (fun _ _=>False) pin1 (fpC fr5 pone) DP stop
    rw [xA] at z1
    refine wpAny_mono z1 (fun r s6 z1_=>?_) fun _ _ z=>False.elim z
    obtain ⟨hr,I6⟩:=z1_
    subst hr
    obtain ⟨m6,hn6,_⟩:=I6.loc
    obtain ⟨ho6,hD6,_⟩:=I6.pin _ (By _ AI)
    rw [xL] at hn6
    have lt2:∀b,b<s2.heap.objs.size→b≠s3.heap.objs.size:=fun b hb=>BE (Bo hb (by omega))
    refine A4 s6 s3.heap.objs.size s2.heap.objs.size (Am H5 s2.heap.objs.size (.lst acc)) m6 hn6 ?_ (BU I2.sz (by omega)) ?_ ?_ ?_ ?_ (qn _ hD6)
    ·rw [AC (Gz (by omega))]
     have:=I6.free
     rw [xL] at this
     exact this
    ·obtain ⟨m2,hn2,_⟩:=I2.loc
     exact Ne.symm (lt2 _ hn2.lt)
    ·intro x c hx
     obtain ⟨v,hv⟩:=I2.cell x c hx
     obtain ⟨o,ho,_⟩:=hv
     exact lt2 _ (AA ho)
    ·intro p hp
     exact lt2 _ (AA (I2.pin p hp).1)
    ·intro h' sb
     subst eX
     exact Nb I2 f2 e3.symm rfl I6 hD6 hlen rv5 ho6 sb
   ·have z1:=T.item Xc xP xw xK xc i _ s5 (Bq cs σ) H5 (fun _ _=>False) pin1 (fpC fr5 pone) DP go
    rw [xA] at z1
    refine wpAny_mono z1 (fun r s6 z2_=>?_) fun _ _ z=>False.elim z
    obtain ⟨u,hr,h6⟩:=z2_
    subst hr
    refine wpAny_mono h6 (fun _ s7 z3_=>?_) fun _ _ z=>False.elim z
    obtain ⟨x,H7,I7,r7,y7,EH,fr7⟩:=z3_
    have I7':=I7.pinned (fp:=fp) (fpC fr7 pone) (T.obj _ _ EH)
    have z2:=pg _ s7 (Bq cs σ) H7 x u _ I7' r7 (step x H7 y7)
    rw [xP,xw,xA,xe] at z2
    refine wpAny_mono z2 (fun _ s8 z4_=>?_) fun _ _ z=>False.elim z
    obtain ⟨σ8,H8,I8,sub8,q8⟩:=z4_
    have z3:=pt _ s8 σ8 H8 _ I8 q8
    rw [xP,xw,xA,xe] at z3
    refine wpAny_mono z3 (fun ok s9 z5_=>?_) fun _ _ z=>False.elim z
    obtain ⟨H9,I9,q9⟩:=z5_
    have back:∀{sy:Shared} {Hy:Hp},Inv Xc ([(s2.heap.objs.size,{cls:=.type "list",data:=.seq its.toArray k})]++EN fp s7.heap) σ8 Hy sy→
     Inv Xc [] (Bq cs σ) Hy sy∧tn (i+1) sy.heap∧(∀b∈fp,Hy b=none)∧Hy s2.heap.objs.size=none∧sy.heap.get? s2.heap.objs.size=some {cls:=.type "list",data:=.seq its.toArray k}:=fun {sy Hy} Iy=>by
     obtain ⟨ho,hD,_⟩:=Iy.pin _ (By _ (GX _ AI))
     refine ⟨(Iy.pins_of fun p hp=>absurd hp (by simp)).weak (sub8.1) (fun j v z=>sub8.2 j v z),T.keep _ _ _ EH fun b hb o e=>(Iy.pin (b,o) (By _ (By _ (G6 hb e)))).1,fun b hb=>?_,hD,ho⟩
     obtain ⟨o,e,_⟩:=T.obj _ _ EH b hb
     exact (Iy.pin (b,o) (By _ (By _ (G6 hb e)))).2.1
    cases ok with
    |false=>
     simp only [BK,if_false] at q9 ⊢
     obtain ⟨n',hn',w'⟩:=q9
     obtain ⟨a1,a2,a3,a4,a5⟩:=back I9
     exact ⟨n',hn',i+1,acc,H9,its,k,w',a1,a2,a3,a4,rv5,a5⟩
    |true=>
     simp only [if_true] at q9 ⊢
     have z4:=pe _ s9 σ8 H9 _ I9 q9
     rw [xP,xw,xA,xe] at z4
     refine wpAny_mono z4 (fun y s10 z6_=>?_) fun _ _ z=>False.elim z
     obtain ⟨yv,H10,I10,r10,n',hn',w'⟩:=z6_
     obtain ⟨a1,a2,a3,a4,a5⟩:=back I10
     have hlen':=rv5.length
     refine wpAny_list_append_plain ⟨k,a5⟩ (fun h' ⟨k',hl'⟩ sb=>?_) (by rw [A7];omega)
     have tu:Inv Xc [] (Bq cs σ) H10 {s10 with heap:=h'}:=a1.turned (t':=s10.toks) (it:=s2.heap.objs.size) (fun b o hb e=>(sb.2 b hb).trans e) a4 hDC (.inl hDex) hDcell (fun p hp=>by
      rcases qaL.mp hp with z |z
      ·exact hDpin p z
      ·exact absurd z (by simp))
     refine ⟨n',hn',i+1,acc++[yv],H10,its++[y],k',w',tu,T.keep _ _ _ a2 (fun b hb o e=>(sb.2 b (fun z=>hDfp (z ▸ hb))).trans e),a3,a4,rv5.append (.cons r10 .nil),?_⟩
     rw [hl']
     simp
  ·exact T.keep _ _ _ CZ fun b hb o e=>k34 b o (k3 b o e)
  ·refine k34 _ _ ?_
   subst e3
   exact BI _ rfl
 have A4:=loop s4 rfl
 have hst4:tn 0 s4.heap:=T.keep _ _ _ CZ fun b hb o e=>k34 b o (k3 b o e)
 rw [xE] at A4
 have:=codeAny_compStart_list A4 (T.self X.A 0 s4 _ _ hst4 A4)
 exact this
theorem Ti (hcalm:X.calm=true) (S:E2 X scope Nc cs) (hi:PI X tg iter wi)
 (hb:∀(C D:Addr) (cells:List (Str×Addr)) (fp:List Addr) (s₀:Shared) (H₀:Hp) (pins:List (Addr×Obj)),PG (A0 X Nc scope C D cells fp s₀ H₀ pins) tg g∧Ey (A0 X Nc scope C D cells fp s₀ H₀ pins) ifs tc∧PE (A0 X Nc scope C D cells fp s₀ H₀ pins) elt te)
 (hsf:∀x,foldedSetIterable iter X.env x=pure x:=by intro _;rfl):PE X (.ListComp elt [⟨tg,iter,ifs,0⟩] scope pos) (Kj cs wi g tc te):=by
 intro pins s σ H Q I h
 rw [eval_ListComp]
 exact Th (use:=none) hcalm S hi hb hsf I h fun s6 C D H7 m6 hn _ _ _ _ _ inv q=>⟨m6,hn,fun h' sb=>⟨.ref D,H7,inv h' sb,rfl,q⟩⟩
end
def noErr {α:Type}:Out α→Out α
 |.ok a h=>.ok a h
 |_=>.stuck
@[simp] theorem YZ {α:Type} (a:α) (h:HD):noErr (.ok a h)=.ok a h:=rfl
theorem GA {α β γ δ:Type} {K:PySem.W.Frag} {R:List Addr→Hp→α→β→Prop} {R':List Addr→Hp→γ→δ→Prop} {m:List Addr} {H:Hp} {E:XK} {Q:δ→Hp→Prop} {Q':β→Hp→Prop} {o:Out α} {k:α→HD→Out γ}
 (h:Post K R' m H E Q ((noErr o).bind k)) (f:∀a h1 v m1 H1,o=.ok a h1→m <+:m1→Kp H H1→HR K m1 h1 H1→R m1 H1 a v→Post K R' m1 H1 E Q (k a h1)→Q' v H1):Post K R m H E0 Q' o:=by
 cases o with
 |ok a h1=>exact fun v m1 H1 p kk hr r=>f a h1 v m1 H1 rfl p kk hr r (Post.ahead p kk h)
 |err C fs h1=>exact False.elim h
 |stuck=>exact False.elim h
def B4 (cs:List (Option Nat)) (ρ:Ai):Ai:=cs.map fun o=>o.bind fun j=>(ρ[j]?).join
theorem join_some {α:Type} {l:List (Option α)} {j:Nat} {a:α}:(l[j]?).join=some a↔l[j]?=some (some a):=by
 cases h:l[j]? with
 |none=>simp
 |some o=>simp
theorem ER.comp {K:PySem.W.Frag} {m:List Addr} {H:Hp} {ρ:Ai} {σ:L2.St} (cs:List (Option Nat)) (er:ER K m H ρ σ):ER K m H (B4 cs ρ) (Bq cs σ):=by
 refine ⟨by simp [B4,Bq],fun i d e=>?_⟩
 unfold B4 at e
 rw [Dc] at e
 cases ec:cs[i]? with
 |none=>rw [ec] at e;cases e
 |some o=>
  rw [ec] at e
  cases o with
  |none=>cases e
  |some j=>
   simp only [Gc,Option.bind_some,Option.some.injEq] at e
   obtain ⟨v,e1,r⟩:=er.2 j d (join_some.mp e)
   refine ⟨v,?_,r⟩
   unfold Bq
   rw [Dc,ec]
   simp only [Gc,Option.bind_some,Option.some.injEq]
   exact join_some.mpr e1
theorem Sub.set {cs:List (Option Nat)} {σ:L2.St} {σ':L2.St} {i:Nat} {v:V} (h:cs[i]?=some none) (s:Sub (Bq cs σ) σ'):Sub (Bq cs σ) (σ'.set i (some v)):=by
 refine ⟨by rw [s.1];simp,fun j w e=>?_⟩
 have hj:i≠j:=by
  rintro rfl
  unfold Bq at e
  rw [Dc,h] at e
  cases e
 rw [Cd hj]
 exact s.2 j w e
theorem Sub.refl (σ:L2.St):Sub σ σ:=⟨rfl,fun _ _ h=>h⟩
def IZ (K:PySem.W.Frag) (cs:List (Option Nat)) (gg:TG) (sg:MG):Prop:=
 ∀m H d v ρ σ0 ρ' Q,DV K m H d v→ER K m H ρ (Bq cs σ0)→sg d ρ=some ρ'→(∀σ',Sub (Bq cs σ0) σ'→ER K m H ρ' σ'→Q σ' H)→gg v (Bq cs σ0) H Q
theorem DE {K:PySem.W.Frag} {cs:List (Option Nat)} {i:Nat} (h:cs[i]?=some none):IZ K cs (BZ i) (AE i):=fun m H d v ρ σ0 ρ' Q r er e q=>by
 simp only [AE,Option.some.injEq] at e
 subst e
 exact q _ ((Sub.refl _).set h) (er.set r)
theorem I0 {K:PySem.W.Frag} {cs:List (Option Nat)} {i j:Nat} (h:cs[i]?=some none) (h':cs[j]?=some none):IZ K cs (Fb K 2 (Df (BZ i) (Df (BZ j) E9))) (DD i j):=fun m H d v ρ σ0 ρ' Q r er e q=>by
 unfold DD at e
 split at e
 ·rename_i a b
  cases e
  simp only [DV,DVs] at r
  obtain ⟨p,vs,rfl,hp,v1,w1,rfl,r1,v2,w2,rfl,r2,rfl⟩:=r
  exact ⟨p,_,rfl,SqT.of hp,rfl,v1,_,rfl,v2,_,rfl,rfl,q _ (((Sub.refl _).set h).set h') ((er.set r1).set r2)⟩
 ·cases e
abbrev Hl (X:Cx) (E:XK) (ifs:List Expr) (t:MT):Prop:=Ey X ifs (El X.K E t)
def Bm:MT:=fun _ h=>.ok true h
theorem CJ {X:Cx} {E:XK}:Hl X E [] Bm:=fun pins s σ H Q I z1_=>by obtain ⟨m,ρ,h,hr,er,p⟩:=z1_;exact (Td pins s σ H Q I (p true m H (Aw _) (.refl _) hr rfl))
theorem GB {X:Cx} {E:XK} {c:Expr} {t:MT} (h:CG X E c t):Hl X E [c] t:=Te h
open Classical in
noncomputable def CK (src:AW) (items:List D) (sg:MG) (t:MT) (f:ME) (ρc:Ai):List D→HD→Out (List D)
 |[],h=>if A3 src items h then .ok [] h else .stuck
 |d::ds,h=>if A3 src items h then match sg d ρc with
   |none=>.stuck
   |some ρ1=>(noErr (t ρ1 h)).bind fun b h1=>if b=true then (noErr (f ρ1 h1)).bind fun y h2=>(CK src items sg t f ρc ds h2).bind fun ys h3=>.ok (y::ys) h3 else CK src items sg t f ρc ds h1
  else .stuck
noncomputable def AQ (cs:List (Option Nat)) (it:MI) (sg:MG) (t:MT) (f:ME):ME:=fun ρ h=>(it ρ h).bind fun x h1=>if x.1.length≤sizeLine then (CK x.2 x.1 sg t f (B4 cs ρ) x.1 h1).bind Ca else .stuck
theorem Out.bind_assoc {α β γ:Type} (o:Out α) (k:α→HD→Out β) (l:β→HD→Out γ):(o.bind k).bind l=o.bind fun a h=>(k a h).bind l:=by cases o<;>rfl
section
variable {X:Cx} {E:XK} {elt tg iter:Expr} {ifs:List Expr} {scope:Scope} {pos:Pos} {Nc:List Str} {cs:List (Option Nat)} {it:MI} {gg:TG} {sg:MG} {t:MT} {f:ME}
inductive Nf (K:PySem.W.Frag) (E:XK) (Q:VK) (src:AW) (items:List D) (sg:MG) (t:MT) (f:ME) (ρc:Ai) (m1:List Addr) (H1:Hp) (i n:Nat) (acc:List V) (H2:Hp):Prop where
 |mk (e:n=items.length - i) (l:i≤items.length) (a:acc.length≤i) (m2:List Addr) (h2:HD) (dacc:List D) (p:m1 <+:m2) (k:Kp H1 H2) (hr:HR K m2 h2 H2) (da:DVs K m2 H2 dacc acc) (q:Post K (rD K) m2 H2 E Q ((CK src items sg t f ρc (items.drop i) h2).bind fun ys h3=>Ca (dacc++ys) h3)):Nf K E Q src items sg t f ρc m1 H1 i n acc H2
theorem Tj (hg:IZ X.K cs gg sg):∀σ H Q,tD X.K E (AQ cs it sg t f) σ H Q→Kj cs (tM X.K (Fi X.K) E it) gg (El X.K E0 t) (tD X.K E0 f) σ H Q:=by
 refine ?_
 rintro σ H Q ⟨m,ρ,h,hr,er,p⟩
 refine ⟨m,ρ,h,hr,er,Post.bind p fun x h1 J m1 H1 _ p1 k1 hr1 r1 q1=>?_⟩
 obtain ⟨items,src⟩:=x
 dsimp only at q1
 split at q1
 ·rename_i hz
  have er1:ER X.K m1 H1 (B4 cs ρ) (Bq cs σ):=(er.keep p1 k1).comp cs
  refine ⟨Nf X.K E Q src items sg t f (B4 cs ρ) m1 H1,
   ⟨items.length,rfl,DT _,AJ _,m1,h1,[],Aw _,.refl _,hr1,.nil,by simpa using q1⟩,?_⟩
  rintro i n acc H2 ⟨rfl,hi',ha,m2,h2,dacc,p2,k2,hr2,da,q2⟩
  by_cases hlt:i<items.length
  ·rw [Ii hlt] at q2
   unfold CK at q2
   split at q2
   ·rename_i hs
    obtain ⟨hgo,hy⟩:=(r1 i m2 h2 H2 p2 k2 hr2 hs).1 hlt
    refine .inr ⟨hgo,by omega,fun y H3 hyl=>?_⟩
    obtain ⟨k3,hr3,d,ed,rd⟩:=hy y H3 hyl
    have ed':d=items[i]:=by rw [Br hlt] at ed;exact (Option.some.inj ed).symm
    subst ed'
    split at q2
    ·exact q2.elim
    ·rename_i ρ3 es
     have er3:ER X.K m2 H3 (B4 cs ρ) (Bq cs σ):=er1.keep p2 (k2.trans k3)
     refine hg m2 H3 _ y (B4 cs ρ) σ ρ3 _ rd er3 es fun σ4 sub4 er4=>⟨sub4,m2,ρ3,h2,hr3,er4,?_⟩
     rw [Out.bind_assoc] at q2
     refine GA (Post.ahead (Aw _) k3 q2) fun b h5 v m5 H5 _ p5 k5 hr5 r5 q5=>?_
     cases r5
     cases b with
     |false=>
      simp only [BK,if_false] at q5 ⊢
      exact ⟨items.length - (i+1),by omega,rfl,hlt,by omega,m5,h5,dacc,p2.trans p5,(k2.trans k3).trans k5,hr5,DVs.keep p5 (k3.trans k5) da,q5⟩
     |true=>
      simp only [if_true] at q5 ⊢
      rw [Out.bind_assoc] at q5
      refine ⟨m5,ρ3,h5,hr5,er4.keep p5 k5,GA q5 fun z h6 w m6 H6 _ p6 k6 hr6 r6 q6=>?_⟩
      refine ⟨items.length - (i+1),by omega,rfl,hlt,by simp;omega,m6,h6,dacc++[z],(p2.trans p5).trans p6,((k2.trans k3).trans k5).trans k6,hr6,(DVs.keep (p5.trans p6) ((k3.trans k5).trans k6) da).app (.cons r6 .nil),?_⟩
      rw [Out.bind_assoc] at q6
      simp only [Out.bind_ok] at q6
      simpa using q6
   ·exact q2.elim
  ·have he:i=items.length:=Nat.le_antisymm hi' (Ga hlt)
   subst he
   rw [List.drop_length] at q2
   unfold CK at q2
   split at q2
   ·rename_i hs
    simp only [Out.bind_ok,EJ] at q2
    obtain ⟨z1,z2⟩:=Hc hr2 da q2
    exact .inl ⟨(r1 _ m2 h2 H2 p2 k2 hr2 hs).2 rfl,z1,z2⟩
   ·exact q2.elim
 ·exact q1.elim
theorem Ci (hcalm:X.calm=true) (S:E2 X scope Nc cs) (hi:Ew X E tg iter it) (hg:IZ X.K cs gg sg)
 (hb:∀(C D:Addr) (cells:List (Str×Addr)) (fp:List Addr) (s₀:Shared) (H₀:Hp) (pins:List (Addr×Obj)),PG (A0 X Nc scope C D cells fp s₀ H₀ pins) tg gg∧Hl (A0 X Nc scope C D cells fp s₀ H₀ pins) E0 ifs t∧Ev (A0 X Nc scope C D cells fp s₀ H₀ pins) E0 elt f)
 (hsf:∀x,foldedSetIterable iter X.env x=pure x:=by intro _;rfl):Ev X E (.ListComp elt [⟨tg,iter,ifs,0⟩] scope pos) (AQ cs it sg t f):=by
 exact BM (Ti (g:=gg) (tc:=El X.K E0 t) (te:=tD X.K E0 f) hcalm S hi hb hsf) (Tj hg)
end
section
variable {X:Cx} {E:XK}
def DF:D→HD→Option String
 |.non,_=>some "NoneType"
 |.bl _,_=>some "bool"
 |.int _,_=>some "int"
 |.str _,_=>some "str"
 |.tup _,_=>some "tuple"
 |.loc l,h=>match h[l]? with
  |some (.lst _)=>some "list"
  |_=>none
 |_,_=>none
theorem Tn {m:List Addr} {H:Hp} {h:HD} {d:D} {v:V} {t:String} (hr:HR X.K m h H) (r:DV X.K m H d v) (e:DF d h=some t):Dx X.K H v (.type t):=by
 cases d with
 |non=>simp only [DF,Option.some.injEq,DV] at e r;subst e r;exact .non
 |bl b=>simp only [DF,Option.some.injEq,DV] at e r;subst e r;exact .bl _
 |int i=>simp only [DF,Option.some.injEq,DV] at e r;subst e r;exact .int _
 |str x=>simp only [DF,Option.some.injEq,DV] at e r;subst e r;exact .str _
 |tup ds=>simp only [DF,Option.some.injEq,DV] at e r;subst e;obtain ⟨a,vs,rfl,ha,_⟩:=r;exact .tup ha
 |loc l=>
  simp only [DV] at r
  obtain ⟨a,rfl,ha⟩:=r
  simp only [DF] at e
  split at e
  ·rename_i ds el
   cases e
   obtain ⟨vs,hv,_⟩:=hr.cells l _ a el ha
   exact .lst hv
  ·cases e
 |_=>simp [DF] at e
def subL:List (String×String×Bool):=[("NoneType","int",false),("bool","int",true),("int","int",true),("str","int",false),("tuple","int",false),("list","int",false),("NoneType","bool",false),("bool","bool",true),("int","bool",false),("str","bool",false),("tuple","bool",false),("list","bool",false),("NoneType","tuple",false),("bool","tuple",false),("int","tuple",false),("str","tuple",false),("tuple","tuple",true),("list","tuple",false),("NoneType","str",false),("bool","str",false),("int","str",false),("str","str",true),("tuple","str",false),("list","str",false),("NoneType","list",false),("bool","list",false),("int","list",false),("str","list",false),("tuple","list",false),("list","list",true),("dict","int",false),("dict","bool",false),("dict","tuple",false),("dict","str",false),("dict","list",false)]
def Hm (t c:String):Option Bool:=(subL.find? fun p=>p.1==t&&p.2.1==c).map fun p=>p.2.2
theorem To {K:PySem.W.Frag}:∀p∈subL,PySem.W.kitOne K (.type p.1) (.type p.2.1)=some p.2.2:=by
 unfold subL
 simp only [List.forall_mem_cons]
 exact ⟨rfl,rfl,rfl,rfl,rfl,rfl,rfl,rfl,rfl,rfl,rfl,rfl,rfl,rfl,rfl,rfl,rfl,rfl,rfl,rfl,rfl,rfl,rfl,rfl,rfl,rfl,rfl,rfl,rfl,rfl,rfl,rfl,rfl,rfl,rfl,fun _ h=>nomatch h⟩
theorem Tq {K:PySem.W.Frag} {t c:String} {b:Bool} (h:Hm t c=some b):PySem.W.kitOne K (.type t) (.type c)=some b:=by
 unfold Hm at h
 rw [qaR] at h
 obtain ⟨p,hp,rfl⟩:=h
 have e:=List.find?_some hp
 rw [Du,beq_iff_eq,beq_iff_eq] at e
 rw [←e.1,←e.2]
 exact To p (List.mem_of_find?_eq_some hp)
theorem Tr:Dw X (.builtin "isinstance") (fun xs H Q=>∃x T t b,xs=[x,.ty T]∧Dx X.K H x (.type t)∧Hm t T=some b∧Q (.bl b) H):=by
 intro pins s σ H xs us Q I r h
 obtain ⟨x,T,t,b,rfl,ty,e,q⟩:=h
 obtain ⟨u,w',rfl,rx,rT⟩:=IE r
 cases (show w'=Value.type T from rT)
 exact RG I rx ty (Tq e) fun tk=>⟨.bl b,H,I.tok _,rfl,q⟩
def Bu:D→D→HD→Out D:=fun x y h=>match y,DF x h with
 |.ty T,some t=>match Hm t T with
  |some b=>.ok (.bl b) h
  |none=>.stuck
 |_,_=>.stuck
theorem Ts:CH X (.builtin "isinstance") (BV Bu):=by
 refine ⟨_,Tr,fun m H h E ds vs Q hr r q=>IV r q fun d d' v v' ev rv rv' q=>?_⟩
 unfold Bu at q
 split at q
 ·rename_i T t et
  split at q
  ·rename_i b eb
   simp only [DV] at rv'
   subst rv'
   exact ⟨v,T,t,b,ev,Tn hr rv et,eb,Bp hr q (by simp [DV])⟩
  ·exact q.elim
 ·exact q.elim
theorem Hn {x:Str} {T:String} {pos:Pos} (hg:Gl X x) (hm:X.mg x=none) (hv:bootBuiltins x=some (.type T)) (hn:x≠"__name__":=by decide) (hd:(x==("__debug__":Str))=false:=by decide):Ev X E (.Name x pos) (mC (.ty T)):=
 Ha (Qq (v:=.ty T) hg hm hv rfl hn hd) fun _ _=>by simp [DV]
theorem Tt {h h2 h':Heap} {it:Addr} (k:∀b o,h.get? b=some o→h2.get? b=some o) (hit:h.objs.size≤it) (hk:∀b o,b∉[it]→h2.get? b=some o→h'.get? b=some o):∀b o,h.get? b=some o→h'.get? b=some o:=fun b o e=>
 hk b o (by rw [qaD];exact BE (Bo (AA e) hit)) (k b o e)
def Km:D→Option Int
 |.int i=>some i
 |_=>none
def Ng:D→HD→Out D:=fun x h=>match BA x h with
 |some ds=>match AZ (ds.map Km) with
  |some ns=>.ok (.int ns.sum) h
  |none=>.stuck
 |none=>.stuck
theorem Tu (hc:X.calm=true):Dw X (.builtin "all") (fun xs H Q=>∃(p:Addr) (bs:List Bool),xs=[.ref p]∧SqL X.K H p (bs.map V.bl)∧Q (.bl (bs.all id)) H):=by
 intro pins s σ H xs us Q I r h
 obtain ⟨p,bs,rfl,hs,q⟩:=h
 obtain ⟨u,rfl,rx⟩:=Gh r
 cases rx
 have hh:X.A.in1.handled=none:=I.ok.hd hc
 obtain ⟨its,rv,pl,hz⟩:=I.list hs
 have hl:=rv.length
 rw [Cp] at hl
 have hlt:p<s.heap.objs.size:=by obtain ⟨_,e,_⟩:=pl.isList;exact AA e
 have item:∀(i:Nat) (v:Value),its.toArray[i]?=some v→v=.bool (bs.getD i true):=fun i v e=>by
  have e':its[i]?=some v:=by simpa using e
  have hi:i<its.length:=(qa3.mp e').1
  have hn:(bs.map V.bl)[i]?=some (V.bl (bs.getD i true)):=by
   rw [Dc,Br (by omega)]
   simp [GW,Br (show i<bs.length by omega)]
  obtain ⟨u,h1,h2⟩:=rv.get hn
  rw [e'] at h1
  cases h1
  exact h2
 refine call_all_walk (wpAny_pyIter_list pl.isList ?_)
 refine ⟨s.heap.objs.size,[s.heap.objs.size,p],[s.heap.objs.size],its.toArray.size,_,_,fun i=>bs.getD i true,rfl,Walks.list (A:=X.A.in1) hh _ p (BE hlt) its.toArray,⟨⟨_,BI _ rfl,rfl,rfl⟩,pl.isList.push _⟩,fun i v s' Q' E' e hQ=>?_,fun h' tk hk=>?_⟩
 ·rw [item i v e]
  exact wpAny_truthy_bool hQ
 ·have e:(List.range its.toArray.size).all (fun i=>bs.getD i true)=bs.all id:=by
   rw [A7,←hl]
   apply qaI.mpr
   simp only [qaS,qaX,id]
   constructor
   ·intro h b hb
    obtain ⟨i,hi,rfl⟩:=List.getElem_of_mem hb
    have:=h i hi
    simpa [GW,Br hi] using this
   ·intro h i hi
    have:=h bs[i] (List.getElem_mem hi)
    simpa [GW,Br hi] using this
  rw [e]
  exact ⟨.bl _,H,I.kept (Tt (fun b o e=>Bn _ e) (AJ _) hk),rfl,q⟩
def GC:D→Option Bool
 |.bl b=>some b
 |_=>none
def CL:D→HD→Out D:=fun x h=>match x with
 |.loc l=>match h[l]? with
  |some (.lst ds)=>match AZ (ds.map GC) with
   |some bs=>.ok (.bl (bs.all id)) h
   |none=>.stuck
  |_=>.stuck
 |_=>.stuck
theorem Nh {m:List Addr} {H:Hp}:∀{ds:List D} {vs:List V} {bs:List Bool},DVs X.K m H ds vs→AZ (ds.map GC)=some bs→vs=bs.map V.bl
 |[],vs,ns,r,e=>by
  simp only [DVs] at r
  simp [AZ] at e
  subst r e
  rfl
 |d::ds,vs,ns,r,e=>by
  simp only [DVs] at r
  obtain ⟨v,w,rfl,rv,rw'⟩:=r
  rw [Bj] at e
  cases d with
  |bl i=>
   simp only [GC,AZ,qaR] at e
   obtain ⟨ns',e1,rfl⟩:=e
   simp only [DV] at rv
   subst rv
   rw [Nh rw' e1]
   rfl
  |_=>simp [GC,AZ] at e
theorem Ja (hc:X.calm=true):CH X (.builtin "all") (Al CL):=by
 refine ⟨_,Tu hc,fun m H h E ds vs Q hr r q=>Hf r q fun d v ev rv q=>?_⟩
 unfold CL at q
 split at q
 ·rename_i l
  split at q
  ·rename_i xs el
   split at q
   ·rename_i bs eb
    simp only [DV] at rv
    obtain ⟨a,rfl,ha⟩:=rv
    obtain ⟨ws,hv,dv⟩:=hr.cells _ _ a el ha
    have:=Nh dv eb
    subst this
    exact ⟨a,bs,ev,SqL.of hv,Bp hr q (by simp [DV])⟩
   ·exact q.elim
  ·exact q.elim
 ·exact q.elim
def GD:D→D→HD→Out D:=fun x y h=>match x with
 |.loc l=>match h[l]? with
  |some (.lst ds)=>if ds.length<sizeLine then .ok .non (h.set l (.lst (ds++[y]))) else .stuck
  |_=>.stuck
 |_=>.stuck
def GE:D→HD→Out D:=fun x h=>match x with
 |.loc l=>match h[l]? with
  |some (.lst _)=>.ok x h
  |_=>.stuck
 |_=>.stuck
def Fj (f g:ME):ME:=fun ρ h=>((f ρ h).bind GE).bind fun x h1=>(g ρ h1).bind fun y h2=>GD x y h2
theorem Ni {o e:Expr} {f g:ME} {apos cpos:Pos} (ho:Ev X E o f) (he:Ev X E e g)
 (hbase:attributeBase o "append" X.env (eval o X.env)=eval o X.env:=by rfl)
 (hfew:((backTo cpos (starEach [e] X.env)).all (fun x=>!x.1)&&(backToKw cpos (keywordEach [] X.env)).all (fun x=>x.1.isSome)
  &&decide ([e].length+([]:List Keyword).length+(if ([]:List Keyword).isEmpty then 0 else 1)<30))=true:=by rfl)
 (hline:(apos.endLine==cpos.line)=true:=by rfl) (hs:starEach [e] X.env=(false,eval e X.env)::starEach [] X.env:=by rfl) (hplain:(backTo cpos (starEach [] X.env)).any (·.1)=false:=by rfl):
 Ev X E (.Call (.Attribute o "append" apos) [e] [] cpos) (Fj f g):=
 BM (Sr PySem.F.plainAttrs_list PySem.F.slot_list_append PySem.F.type_list_append Sw ho (Ae he Ah hs) hbase hfew hline hs hplain) fun σ H Q z1_=>by
  obtain ⟨m,ρ,h,hr,er,p⟩:=z1_
  refine ⟨m,ρ,h,hr,er,?_⟩
  unfold Fj at p
  rw [Out.bind_assoc] at p
  refine Post.bind p fun x h1 v m1 H1 eo p1 k1 hr1 r1 q1=>?_
  clear eo
  unfold GE at q1
  split at q1
  ·rename_i l
   split at q1
   ·rename_i ds el
    simp only [Out.bind_ok] at q1
    have r1':=r1
    simp only [rD,DV] at r1'
    obtain ⟨a,rfl,ha⟩:=r1'
    obtain ⟨ws,hv,dv⟩:=hr1.cells l _ a el ha
    refine ⟨.inl ⟨rfl,ws,SqL.of hv⟩,m1,ρ,h1,hr1,er.keep p1 k1,?_⟩
    have q2:Post X.K (rD X.K) m1 H1 E Q ((Ab g Ad ρ h1).bind fun ys h2=>match ys with
     |[y]=>GD (.loc l) y h2
     |_=>.stuck):=by
     unfold Ab Ad
     rw [Out.bind_assoc]
     exact q1
    refine Post.bind q2 fun ys h2 vs m2 H2 eo p2 k2 hr2 r2 q3=>?_
    clear eo
    split at q3
    ·rename_i y
     simp only [EO,DVs] at r2
     obtain ⟨yv,w,rfl,ry,rfl⟩:=r2
     unfold GD at q3
     simp only at q3
     split at q3
     ·rename_i ds2 el2
      split at q3
      ·rename_i hz
       have ha2:=IH p2 ha
       obtain ⟨ws2,hv2,dv2⟩:=hr2.cells l _ a el2 ha2
       refine ⟨a,ws2,yv,rfl,rfl,hv2,by rw [←dv2.len];exact hz,?_⟩
       refine q3 .non m2 _ (Aw _) (.set hv2 rfl) (hr2.setCell ha2 hv2 rfl ⟨_,Cf,?_⟩) (by simp [rD,DV])
       exact (dv2.app (.cons ry .nil)).keep (Aw _) (.set hv2 rfl)
      ·exact q3.elim
     ·exact q3.elim
    ·exact q3.elim
   ·exact q1.elim
  ·exact q1.elim
def GF:D→D→D→HD→Out (Fl×Ai)→Out (Fl×Ai):=fun o i v h k=>match o,i with
 |.loc l,.int n=>match h[l]? with
  |some (.lst ds)=>match Dg ds.length n with
   |some j=>match k with
    |.ok a _=>.ok a (h.set l (.lst (ds.set j v)))
    |_=>.stuck
   |none=>.stuck
  |_=>.stuck
 |_,_=>.stuck
def Jb (fo fi fv:ME):MS:=fun ρ h=>(fv ρ h).bind fun v h1=>(fo ρ h1).bind fun o h2=>(fi ρ h2).bind fun i h3=>GF o i v h3 (.ok (.nx,ρ) h3)
theorem Tv {o i e:Expr} {fo fi fv:ME} {pos pos':Pos} (ho:Ev X E o fo) (hi:Ev X E i fi) (he:Ev X E e fv)
 (ha:∀v,assign (.Subscript o i pos') X.env v=(do
  let ov ←holding [v] (eval o X.env)
  let iv ←holding [v,ov] (eval i X.env)
  standAt pos'
  holding [v,ov,iv] (setItem ov iv v)
  release [v,ov,iv] []):=by intro _;rfl)
 (hs:swapsWithSole [.Subscript o i pos'] e pos.line X.env=pure false:=by rfl) (hw:swappedStores [.Subscript o i pos'] e X.env=pure none:=by rfl)
 (h1:(assignEach [.Subscript o i pos'] X.env).map (·.2)=[assign (.Subscript o i pos') X.env]:=by rfl):Ex X E (.Assign [.Subscript o i pos'] e pos) (Jb fo fi fv):=
 DY (JV he (L6 ho hi Si ha) hs hw h1) fun Dn σ H ⟨m,ρ,h,hr,er,p⟩=>⟨m,ρ,h,hr,er,PostS.bind p fun v h1 vv m1 H1 eo1 p1 k1 hr1 r1 q1=>by
  refine ⟨m1,ρ,h1,hr1,er.keep p1 k1,PostS.bind q1 fun ov h2 vo m2 H2 eo2 p2 k2 hr2 r2 q2=>?_⟩
  refine ⟨m2,ρ,h2,hr2,(er.keep p1 k1).keep p2 k2,PostS.bind q2 fun iv h3 vi m3 H3 eo3 p3 k3 hr3 r3 q3=>?_⟩
  clear eo1 eo2 eo3
  unfold GF at q3
  split at q3
  ·rename_i l n
   split at q3
   ·rename_i ds el
    split at q3
    ·rename_i j ej
     have ro:=DV.keep p3 k3 r2
     simp only [DV] at ro
     obtain ⟨a,rfl,ha⟩:=ro
     have ri:=r3
     simp only [rD,DV] at ri
     subst ri
     obtain ⟨ws,hv,dv⟩:=hr3.cells l _ a el ha
     refine ⟨a,ws,n,j,rfl,rfl,hv,by rw [←dv.len];exact ej,?_⟩
     have rvv:=DV.keep p3 k3 (DV.keep p2 k2 r1)
     have hr4:HR X.K m3 (h3.set l (.lst (ds.set j v))) (Am H3 a (.lst (ws.set j vv))):=hr3.setCell ha hv rfl ⟨_,Cf,(dv.set j rvv).keep (Aw _) (.set hv rfl)⟩
     exact q3 m3 _ (Aw _) (.set hv rfl) hr4 σ ((((er.keep p1 k1).keep p2 k2).keep p3 k3).keep (Aw _) (.set hv rfl))
    ·exact q3.elim
   ·exact q3.elim
  ·exact q3.elim⟩
end
def Ao (n:Nat) (g:MS):List D→HD→Out D:=fun ds h=>(g (ds.map some++List.replicate (n - ds.length) none) h).bind fun x h1=>match x with
 |(.nx,_)=>.ok .non h1
 |(.rt d,_)=>.ok d h1
 |_=>.stuck
open AutoSeq1 (wpAny_loadPart')
section
variable {prog:Program} {w:World} {A:Around} {E:Value→Shared→Prop} {s:Shared}
theorem Tw {it l:Addr} {i:Nat} {items:Array Value} {x:Value} {Q:Value→Shared→Prop} (hit:s.heap.IsTupleIter it l i)
 (hl:s.heap.IsTuple l items) (hx:items[i]?=some x)
 (hQ:∀h',h'.IsTupleIter it l (i+1)→Heap.SameBut it s.heap h'→Q x {s with heap:=h'}):
 wpAny (model prog w) A (Builtin.SmallTypes.nextOf (.ref it)) Q E s:=by
 obtain ⟨o,ho,hc,hd⟩:=id hit
 obtain ⟨ol,hol,_,nl,hdl⟩:=hl
 unfold Builtin.SmallTypes.nextOf
 refine wpAny_bind (wpAny_callSpecial?_slot (name:=Str.ofString "__next__") hit.typeIs F.slot_tuple_iterator_next
  (wpAny_call_entry F.slot_tuple_iterator_next hit.typeIs F.entry_tuple_iterator_next ?_ (F.args_tuple_iterator_next_1 _)))
 show wpAny _ _ (field (.ref it) 0 >>=_) _ _ s
 refine wpAny_bind (wpAny_field ho hd (x:=.ref l) rfl ?_)
 show wpAny _ _ (if (Value.ref l==Value.none)=true then _ else _) _ _ s
 rw [if_neg (show ¬((Value.ref l==Value.none)=true) from Bi)]
 show wpAny _ _ (field (.ref it) 1 >>=_) _ _ s
 refine wpAny_bind (wpAny_field ho hd (x:=.int i 0) rfl ?_)
 show wpAny _ _ (seqItems? (.ref l) >>=_) _ _ s
 refine wpAny_bind (wpAny_seqItems hol hdl ?_)
 simp only [GY,hx]
 refine wpAny_bind (wpAny_setField ho hd (by simp) (wpAny_pure ⟨x,rfl,wpAny_pure (hQ _ ?_ (Heap.SameBut.update ..))⟩))
 exact ⟨_,Ij _ ho (Obj.isFreed_of_fields (Obj.data_mapFields hd _)),(Obj.cls_mapFields ..).trans hc,by
  rw [Obj.data_mapFields hd];simp [rawInt]⟩
theorem Tx {it l:Addr} {i:Nat} {items:Array Value} {Q:Value→Shared→Prop} (hh:A.handled=none)
 (hit:s.heap.IsTupleIter it l i) (hl:s.heap.IsTuple l items) (hx:items[i]?=none)
 (hE:∀h' e,Heap.ExtBut it s.heap h'→(∃o,h'.get? e=some o∧o.cls=.type "StopIteration")→E (.ref e) {s with heap:=h'}):
 wpAny (model prog w) A (Builtin.SmallTypes.nextOf (.ref it)) Q E s:=by
 obtain ⟨o,ho,hc,hd⟩:=id hit
 obtain ⟨ol,hol,_,nl,hdl⟩:=hl
 unfold Builtin.SmallTypes.nextOf
 refine wpAny_bind (wpAny_callSpecial?_slot (name:=Str.ofString "__next__") hit.typeIs F.slot_tuple_iterator_next
  (wpAny_call_entry F.slot_tuple_iterator_next hit.typeIs F.entry_tuple_iterator_next ?_ (F.args_tuple_iterator_next_1 _)))
 show wpAny _ _ (field (.ref it) 0 >>=_) _ _ s
 refine wpAny_bind (wpAny_field ho hd (x:=.ref l) rfl ?_)
 show wpAny _ _ (if (Value.ref l==Value.none)=true then _ else _) _ _ s
 rw [if_neg (show ¬((Value.ref l==Value.none)=true) from Bi)]
 show wpAny _ _ (field (.ref it) 1 >>=_) _ _ s
 refine wpAny_bind (wpAny_field ho hd (x:=.int i 0) rfl ?_)
 show wpAny _ _ (seqItems? (.ref l) >>=_) _ _ s
 refine wpAny_bind (wpAny_seqItems hol hdl ?_)
 simp only [GY,hx]
 refine wpAny_bind (wpAny_rule (wpAny_bind (wpAny_setField ho hd (by simp) ?_)))
 show wpAny _ _ (newExc (.type "StopIteration") [] >>=_) _ _ _
 refine wpAny_bind ?_
 simp only [newExc,newTuple]
 refine wpAny_bind (wpAny_newObj_type ?_ (by size_fits))
 refine wpAny_bind (m:=firstArgMember _ _) (wpAny_of_eq (a:=Value.none) (by first |rfl |(simp only [firstArgMember];rfl)) ?_)
 refine wpAny_newObj_type ?_ (by size_fits)
 simp only [raiseNew]
 refine wpAny_bind (wpAny_handled ?_)
 first |rw [show A.in1.handled=none from hh] |rw [hh]
 refine wpAny_bind (wpAny_pure (wpAny_throw ?_))
 exact hE _ _ (((Heap.SameBut.update ..).extBut.push _).push _) ⟨_,BI _ rfl,rfl⟩
end
theorem Nj {prog:Program} {w:World} {A:Around} (hh:A.handled=none) (it l:Addr) (hne:l≠it) (items:Array Value):
 Draws prog w A it [it,l] items.size (fun i v=>items[i]?=some v) (fun i h=>h.IsTupleIter it l i∧h.IsTuple l items) where
 live:=fun _ _ st=>let ⟨o,ho,_⟩:=st.1;⟨o,ho⟩
 frame:=fun _ _ _ st hk=>⟨st.1.at fun o e=>hk it (by simp) o e,st.2.at fun o e=>hk l (by simp) o e⟩
 item:=fun i s Q E hi st hQ=>by
  refine Tw st.1 st.2 (x:=items[i]) (by simp [hi]) fun h' hit' hs'=>?_
  exact hQ _ h' s.toks (by simp [hi]) ⟨hit',st.2.extBut hs'.extBut hne⟩ hs'
 done:=fun s Q E st hE=>Tx hh st.1 st.2 (by simp) hE
theorem Tz (l:Addr) (items:Array Value) (n:Nat) (dct:Option Addr) (sl:Array (Option Value)):
 Meets (Builtin.«enumerate.__new__» ⟨[.type "enumerate",.ref l],[]⟩) (fun _ R s=>s.heap.get? l=some {cls:=.type "tuple",dict:=dct,data:=.seq items n,slots:=sl}∧
  R (.ok (.ret (.ref (s.heap.push {cls:=.type "tuple_iterator",data:=.fields #[.ref l,.int 0 0]}).objs.size)))
    {s with heap:=(s.heap.push {cls:=.type "tuple_iterator",data:=.fields #[.ref l,.int 0 0]}).push {cls:=.type "enumerate",data:=.fields #[.none,.bool false,.ref s.heap.objs.size,rawInt 0,.none,.none]}}):=
 .of_wp fun prog w A R s h=>by
  obtain ⟨hp,g,d,tk,os⟩:=s;obtain ⟨hl,h⟩:=h
  have hsub:=sub_enumerate
  have hL:Heap.IsTuple (Shared.heap ⟨hp,g,d,tk,os⟩) l items:=⟨_,hl,rfl,n,rfl⟩
  wp_walk using wpAny_loadPart' hl
  refine wpAny_stack_any fun st=>wpAny_pure ?_
  split
  ·rename_i c _ _ _ _ _
   cases (c==Value.type "enumerate")
   ·wp_walk using wpAny_loadPart' hl,wpAny_pyIter_tuple hL
    exact ⟨_,rfl,h⟩
   ·wp_walk using wpAny_loadPart' hl,wpAny_pyIter_tuple hL
    exact ⟨_,rfl,h⟩
  ·wp_walk using wpAny_loadPart' hl,wpAny_pyIter_tuple hL
   exact ⟨_,rfl,h⟩
section
variable {prog:Program} {w:World} {A:Around} {E:Value→Shared→Prop} {s:Shared}
theorem TB {l:Addr} {items:Array Value} {Q:Value→Shared→Prop} (hL:s.heap.IsTuple l items)
 (h:∀h',IsEnum h' (s.heap.objs.size+1) s.heap.objs.size 0 .none→h'.IsTupleIter s.heap.objs.size l 0→h'.objs.size=s.heap.objs.size+2→
  (∀b o,s.heap.get? b=some o→h'.get? b=some o)→Q (.ref (s.heap.objs.size+1)) {s with heap:=h'}):
 wpAny (model prog w) A (call (.type "enumerate") [.ref l]) Q E s:=by
 obtain ⟨⟨c,dct,dt,sl⟩,hl,hc,n,hd⟩:=hL
 replace hc:c=.type "tuple":=hc
 replace hd:dt=.seq items n:=hd
 subst hc hd
 refine callType_new F.called_enumerate (by decide) (F.typeCall_enumerate_1 _) (F.newCall_enumerate_1 _) (fun obj=>F.args_object_init_2 obj _) F.entry_enumerate_new
  (Tz l items n dct sl) ⟨hl,?_⟩
 have hz:(s.heap.push {cls:=.type "tuple_iterator",data:=.fields #[.ref l,.int 0 0]}).objs.size=s.heap.objs.size+1:=DS ..
 show _∧_
 rw [hz]
 have he:IsEnum ((s.heap.push {cls:=.type "tuple_iterator",data:=.fields #[.ref l,.int 0 0]}).push
  {cls:=.type "enumerate",data:=.fields #[.none,.bool false,.ref s.heap.objs.size,rawInt 0,.none,.none]}) (s.heap.objs.size+1) s.heap.objs.size 0 .none:=by
  have:=BI (s.heap.push {cls:=.type "tuple_iterator",data:=.fields #[.ref l,.int 0 0]})
   (o:={cls:=.type "enumerate",data:=.fields #[.none,.bool false,.ref s.heap.objs.size,rawInt 0,.none,.none]}) rfl
  rw [hz] at this;exact this
 refine ⟨⟨_,he,rfl⟩,h _ he ⟨_,Bn _ (BI _ rfl),rfl,rfl⟩ (by rw [DS,hz]) fun b o x=>Bn _ (Bn _ x)⟩
end
def Nk (K:PySem.W.Frag) (t:Addr) (xs:List V):It:=⟨fun i H=>i<xs.length∧SqT K H t xs,fun i H x H'=>∃p v,H p=none∧x=.ref p∧xs[i]?=some v∧H'=Am H p (.tup [.int i,v]),fun i H=>i=xs.length∧SqT K H t xs⟩
theorem TC {P:Program} {w:World} {K:PySem.W.Frag} {elts:List Expr} {kt:Nat} {tpos:Pos} (e it t:Addr) (hei:e≠it) (hte:t≠e) (hti:t≠it) (xs:List V):
 EL P w K (.Tuple elts kt tpos) (Nk K t xs) [e,it] e (fun i h=>(∃old,IsEnum h e it i old)∧h.IsTupleIter it t i) where
 mem:=by simp
 obj:=fun i h st b hb=>by
  obtain ⟨⟨old,h1⟩,o,h2,hc,hd⟩:=st
  rcases qa9.mp hb with z |z
  ·subst z;exact ⟨_,h1,fun v z=>by cases z⟩
  ·rw [qaD] at z
   subst z
   exact ⟨o,h2,fun v z=>by rw [hd] at z;cases z⟩
 keep:=fun i h h' st k=>by
  obtain ⟨⟨old,h1⟩,h2⟩:=st
  exact ⟨⟨old,k e (by simp) _ h1⟩,h2.at fun o z=>k it (by simp) o z⟩
 item:=by
  intro X hP hw hK hc i pins s σ H E I hf st hg
  subst hP hw hK
  obtain ⟨⟨old,he⟩,hit⟩:=st
  obtain ⟨hi,hq⟩:=hg
  obtain ⟨its,rv,p,hz⟩:=I.tuple hq
  have hT:s.heap.IsTuple t its.toArray:=p
  have hl:=rv.length
  obtain ⟨e0,e1,e2,e3,e4,e5⟩:=hf e (by simp)
  obtain ⟨i0,i1,i2,i3,i4,i5⟩:=hf it (by simp)
  have hx:xs[i]?=some xs[i]:=Br hi
  refine wpAny_pyNext_enum_itemD (Nj (A:=X.A.in1) (I.ok.hd hc) it t hti its.toArray) he ⟨hit,hT⟩ (by rw [A7];omega) hei (by simp [hei,Ne.symm hte]) fun x h1 tk hPx ho hs1 hTup hsz hk=>?_
  obtain ⟨u,hu,ru⟩:=rv.get hx
  have hux:u=x:=by
   have:its[i]?=some x:=by simpa using hPx
   rw [hu] at this
   exact Option.some.inj this
  subst hux
  refine ⟨.ref s.heap.objs.size,rfl,wpAny_letOwnedTupleGo_enum ho fun h2 he2 sb=>?_⟩
  have hfr:H s.heap.objs.size=none:=I.hok.fresh (AJ _)
  have kk:∀b o,b∉[e,it]→s.heap.get? b=some o→h2.get? b=some o:=fun b o hb z=>by
   have n1:b≠e:=fun q=>hb (by simp [q])
   have n2:b≠it:=fun q=>hb (by simp [q])
   exact (sb.2 b n1).trans (hk b o n1 n2 z)
  have na:s.heap.objs.size≠e:=Gz (AA he)
  have hnew:h2.get? s.heap.objs.size=some {cls:=.type "tuple",data:=.seq #[.int i tk,u]}:=(sb.2 _ na).trans hTup
  have ntr:∀b w,H b=some w→b∉[e,it]:=fun b w z hb=>by
   rcases qa9.mp hb with q |q
   ·rw [q,e0] at z;cases z
   ·rw [qaD.mp q,i0] at z;cases z
  have nal:∀b o,s.heap.get? b=some o→b≠s.heap.objs.size:=fun b o z=>BE (AA z)
  have it2:h2.IsTupleIter it t (i+1):=by
   obtain ⟨o,q,r⟩:=hs1.1
   exact ⟨o,(sb.2 it (Ne.symm hei)).trans q,r⟩
  refine ⟨.ref s.heap.objs.size,Am H s.heap.objs.size (.tup [.int i,xs[i]]),?_,rfl,⟨s.heap.objs.size,xs[i],hfr,rfl,hx,rfl⟩,⟨⟨u,he2⟩,it2⟩,fun b hb=>?_⟩
  ·show Inv X pins σ _ {s with heap:=h2,gens:=s.gens,drawn:=s.drawn,toks:=tk+1}
   refine I.step (g':=s.gens) (d':=s.drawn) (t':=tk+1) (h':=h2) (ch:=[e,it]) (fun b hb=>?_) (fun b o _ _ hc z _=>kk b o hc z) (fun b o _ _ hc z _=>⟨o.slots,kk b o hc z⟩) (fun b o _ z n=>by rw [AC (nal b o z)];exact n)
    (fun b o hc z=>⟨o,kk b o hc z⟩) (fun b ys z=>by rw [AC (BL z hfr)];exact z) (fun b o u z=>by rw [AC (BL z hfr)];exact z) (fun b ps z=>⟨#[],by rw [AC (BL z hfr),z];simp⟩) (fun m hm=>?_) (fun b w z=>?_) I.bare
   ·rcases qa9.mp hb with q |q
    ·subst q;exact ⟨e3,e1,e4,e5⟩
    ·rw [qaD] at q;subst q;exact ⟨i3,i1,i4,i5⟩
   ·obtain ⟨o,es,ep,q,r⟩:=hm
    exact ⟨o,es,ep,kk _ o (by simp [Ne.symm e1,Ne.symm i1]) q,r⟩
   ·by_cases hb:b=s.heap.objs.size
    ·subst hb
     rw [Cf] at z
     cases z
     exact ⟨by simp only [GZ,Io];rw [sizeLine_eq];decide,[.int i tk,u],.cons ⟨tk,rfl⟩ (.cons ru .nil),⟨_,hnew,rfl,0,rfl⟩,fun o e=>by rw [hnew] at e;cases e;rfl⟩
    ·rw [AC hb] at z
     refine (I.hok b w z).stay (fun c v hc q=>kk c v ?_ q) (fun c q=>by rw [AC (BL q hfr)];exact q) fun c ys q=>by rw [AC (BL q hfr)];exact q
     rcases hc with rfl |hc
     ·exact ntr c _ z
     ·exact ntr c _ hc
  ·have nb:b≠s.heap.objs.size:=by
    rcases qa9.mp hb with q |q
    ·rw [q];exact na.symm
    ·rw [qaD.mp q]
     obtain ⟨o,z,_⟩:=hit
     exact nal _ _ z
   rw [AC nb]
   exact (hf b hb).1
 done:=by
  intro X hP hw hK hc i pins s σ H E I hf st hg
  subst hP hw hK
  obtain ⟨⟨old,he⟩,hit⟩:=st
  obtain ⟨hi,hq⟩:=hg
  obtain ⟨its,rv,p,hz⟩:=I.tuple hq
  have hT:s.heap.IsTuple t its.toArray:=p
  have hl:=rv.length
  obtain ⟨i0,i1,i2,i3,i4,i5⟩:=hf it (by simp)
  have hin:i=its.toArray.size:=by rw [A7];omega
  refine wpAny_pyNext_enum_endD (Nj (A:=X.A.in1) (I.ok.hd hc) it t hti its.toArray) he (hin ▸ ⟨hit,hT⟩) fun h' eb=>⟨rfl,I.turned (t':=s.toks) (fun b o hb z=>eb b o hb z) i0 i1 i3 i4 i5⟩
 self:=fun A i s Q E st h=>by
  obtain ⟨⟨old,he⟩,_⟩:=st
  exact wpAny_pyIter_enum he h
section
variable {X:Cx} {E:XK}
def DG (ds:List D):List D:=ds.mapIdx fun i d=>.tup [.int (i:Nat),d]
def Nl:List D→HD→Out (List D×AW):=fun ds h=>match ds with
 |[.tup xs]=>.ok (DG xs,[]) h
 |_=>.stuck
def Nm (fa:MA):MI:=fun ρ h=>(fa ρ h).bind Nl
end
end LS
namespace LS
open PySem PySem.Spec PyProof.Rows L2
section
variable {prog:Program} {w:World} {A:Around} {E:Value→Shared→Prop} {s:Shared}
end
section
variable {X:Cx} {E:XK} {e:Expr} {f:ME}
def Kn:D→HD→Out D:=fun x h=>match x with
 |.tup [a,b]=>.ok (.tup [b,a]) h
 |_=>.stuck
def Nn (f:ME):ME:=fun ρ h=>(f ρ h).bind Kn
end
structure CSc (X:Cx) (scope:Scope) (Nc:List Str) (cs:List (Option Nat)):Prop where
 kind:scope.kind=.function
 loc:(scope.names.all fun y=>y.2 != .local||scope.names.lookup y.1==some .local)=true
 free:(scope.names.all fun y=>y.2 != .free||(X.env.kindOf y.1==some .cell||X.env.kindOf y.1==some .free))=true
 nd:(scope.names.map (·.1)).Nodup
 len:cs.length=Nc.length
 out:((Nc.zip cs).all fun p=>match p.2 with
  |none=>true
  |some j=>X.N[j]?==some p.1&&scope.names.lookup p.1==some .free)=true
theorem CSc.ok {X:Cx} {scope:Scope} {Nc:List Str} {cs:List (Option Nat)} (S:CSc X scope Nc cs):E2 X scope Nc cs:=by
 refine ⟨S.kind,fun y hy e=>?_,fun y hy e=>?_,S.nd,S.len,fun i x j h1 h2=>?_⟩
 ·have:=qaS.mp S.loc y hy
  rw [e] at this
  simpa using this
 ·have:=qaS.mp S.free y hy
  rw [e] at this
  simpa using this
 ·have hz:(Nc.zip cs)[i]?=some (x,some j):=by
   rw [List.getElem?_zip_eq_some]
   exact ⟨h1,h2⟩
  have:=qaS.mp S.out (x,some j) (F5 hz)
  simpa using this
structure Dn (K:PySem.W.Frag) (mg:Str→Option Value) (x:Str) (ps:List Str) (st:Stmt) (f:Addr) (fd:FuncData):Prop where
 fn:Fun K x x st f fd
 bd:Binds K fd ps []
 mg:mg x=some (.ref f)
section
variable {X:Cx} {E:XK}
theorem TF {a:Expr} {f:ME} {pos:Pos} (ha:Ev X E a f):Ev X E (.UnaryOp .USub a pos) (fun ρ h=>(f ρ h).bind fun x h1=>match x with
 |.int i=>.ok (.int (-i)) h1
 |_=>.stuck):=
 BM (Ri Rn ha) fun σ H Q z1_=>by obtain ⟨m,ρ,h,hr,er,p⟩:=z1_;exact (⟨m,ρ,h,hr,er,Post.bind p fun x h1 v m1 H1 eo p1 k1 hr1 r1 q1=>by
  clear eo
  split at q1
  ·simp only [rD,DV] at r1
   subst r1
   exact ⟨_,rfl,Bp hr1 q1 (by simp [DV])⟩
  ·exact q1.elim⟩)
def Ko (f:ME):ME:=fun ρ h=>(f ρ h).bind fun x h1=>match x with
    |.int i=>.ok (.int (-i)) h1
    |_=>.stuck
theorem GG {i j:Nat} {x y:Str} {px py tp:Pos} {kt:Nat} (hc:X.calm=true) (h1:PG X (.Name x px) (BZ i)) (h2:PG X (.Name y py) (BZ j)):PG X (.Tuple [.Name x px,.Name y py] kt tp) (Fb X.K 2 (Df (BZ i) (Df (BZ j) E9))):=
 L5 hc (Gf h1 (Gf h2 L4))
end
def CMl (i j:Int):Prop:=CMul i j∨(Builtin.Int.intBits i≤16777216∧Builtin.Int.intBits j≤16777216)
instance (i j:Int):Decidable (CMl i j):=by unfold CMl;infer_instance
theorem CMl.ok {i j:Int} (h:CMl i j):IntMulOk i j:=by
 rcases h with h |⟨h1,h2⟩
 ·exact h.ok
 ·unfold IntMulOk
  intro z
  simp only [Du,decide_eq_true_eq] at z
  have:=z.2
  unfold Builtin.Int.intTooBig at this
  simp only [decide_eq_true_eq] at this
  have hb:(bitsLine:Int)=134217728:=by first |rfl |decide
  omega
variable {X:Cx}
theorem op_mul':OpR X (binaryOp .Mult) (rI CMl fun i j=>.int (i*j)):=IC fun _ _ _ _ _ _ _ hc q=>mul_int q hc.ok
def CM:D→D→HD→Out D
 |.int i,.int j,h=>if CMl i j then .ok (.int (i*j)) h else .stuck
 |.loc l,.int k,h=>match h[l]? with
  |some (.lst xs)=>if -(2^63)≤k∧k<2^63 then Ca (List.replicate k.toNat xs).flatten h else .stuck
  |_=>.stuck
 |_,_,_=>.stuck
theorem TH:Bs X (binaryOp .Mult) CM:=by
 refine ⟨_,op_mul'.or Sz,fun m H h E x y v u Q hr rx ry q=>?_⟩
 unfold CM at q
 split at q
 ·simp only [DV] at rx ry
  subst rx ry
  split at q
  ·rename_i hc
   exact .inl ⟨_,_,rfl,rfl,hc,Bp hr q (by simp [DV])⟩
  ·exact q.elim
 ·simp only [DV] at rx ry
  obtain ⟨a,rfl,ha⟩:=rx
  subst ry
  split at q
  ·rename_i k _ xs e
   split at q
   ·rename_i hk
    obtain ⟨vs,h1,d1⟩:=hr.cells _ _ a e ha
    obtain ⟨z,q'⟩:=Hc hr (d1.rep k.toNat) q
    refine .inr ⟨a,k,vs,rfl,rfl,h1,hk.1,hk.2,?_,q'⟩
    rw [IG] at z
    rw [Nat.mul_comm];exact z
   ·exact q.elim
  ·exact q.elim
 ·exact q.elim
end LS
namespace Att
open PySem PySem.W PySem.Calls PyProof.Rows
theorem TJ {ns:List Int} (h:WData.layable (.list (ns.map WData.int))=true):∀n∈ns,Builtin.Int.intBits n≤2^20:=by
 have hw:WData.weight (.list (ns.map WData.int))≤2^20:=(layableW_iff.mp h).2.2
 have key:∀(ns:List Int) (b:Nat),WData.weightAll (ns.map WData.int)≤b→∀n∈ns,Builtin.Int.intBits n≤b:=by
  intro ns
  induction ns with
  |nil=>intro b _ n hn;cases hn
  |cons m r ih=>
   intro b hb n hn
   have e:WData.weightAll ((m::r).map WData.int)=Builtin.Int.intBits m+1+WData.weightAll (r.map WData.int):=by
    simp only [Bj,WData.weightAll,WData.weight]
    rfl
   rw [e] at hb
   rcases qa9.mp hn with z |z
   ·subst z;omega
   ·exact ih b (by omega) n z
 exact key ns _ (by simpa only [WData.weight] using hw)
theorem attach_bits {l:OpenLaw} {n:Nat} {q:Program} {loose:List Str} {XP:(Str→Option Value)→Heap→Prop} {YP:World→Heap→Prop} {d:DefRec}
 (hn:l.most=some n) (hdf:d.params.defaults=[])
 (call:∀(w:World) (s₀ s₁:Shared) (mg mb:Str→Option Value) (fa:Addr) (o:Obj) (pm cd doc:Value) (a:Addr) (vs:List Value) (ns:List Int),(∀n∈ns,Builtin.Int.intBits n≤2^20)→
  Ground q loose [] XP w s₀ mg mb s₁.heap→YP w s₁.heap→
  s₁.heap.get? fa=some o→o.data=.func (docDef d.name d.params d.body d.scope pm cd doc)→s₁.heap.CodeRec cd d.name→mg d.name=some (.ref fa)→
  s₁.heap.get? a=some {cls:=.type "list",data:=.seq vs.toArray}→IntsAre vs ns→ns.length≤n→s₁.gens=#[]→
  codeAny (model l.prog w) callerA (.call (.ref fa) ⟨[.ref a],[]⟩) (fun r s'=>r=.ok (.ret (.bool true))∧OldK s₁.heap s'.heap∧s'.os=s₁.os∧AllBare s'.gens) s₁):
 WalkO q loose XP YP l.row.toRowW d [] (fun f vs=>PySem.call f vs):=by
 intro w s₀ s₁ mg mb G Y fa o pm cd doc dV kV ho hd hcd hD hmg hg args vals as hpre hlay hrd hwl hlo
 obtain rfl:dV=.none:=Dflts.none hD hdf
 obtain rfl:kV=.none:=Dflts.noKw hD
 obtain ⟨a,vs,ns,rfl,rfl,hobj,hints,hlen⟩:=SB hn hpre hwl
 have hb:=TJ (layableW_arg hlay _ AI)
 refine enter_call (codeAny_mono (call w s₀ s₁ mg mb fa o pm cd doc a vs ns hb G Y ho (fd_plain hd) hcd hmg hobj hints hlen hg) fun r s' hq=>?_)
 obtain ⟨rfl,h2,h3,h4⟩:=hq
 exact ⟨.inl ⟨.bool true,.bool true,[],rfl,fun _=>rfl,.bool true,SC l _,fun _=>⟨List.Pairwise.nil,fun _ hm=>(nomatch hm)⟩⟩,h2,h3,h4⟩
end Att
namespace LS
open PySem PySem.Spec PyProof.Rows L2
def Wp {α:Type} (o:Out α) (Q:α→HD→Prop):Prop:=match o with
 |.ok a h=>Q a h
 |_=>False
section
variable {α β:Type} {o:Out α} {Q Q':α→HD→Prop}
@[simp] theorem Cv (a:α) (h:HD):Wp (.ok a h) Q=Q a h:=rfl
@[simp] theorem Y0:Wp .stuck Q=False:=rfl
theorem Bd {o':Out α} (e:o=o') (h:Wp o' Q):Wp o Q:=e ▸ h
theorem Ap {k:α→HD→Out β} {Q:β→HD→Prop}:Wp (o.bind k) Q=Wp o fun a h=>Wp (k a h) Q:=by cases o<;>rfl
theorem Wp.mono (h:Wp o Q) (f:∀a h,Q a h→Q' a h):Wp o Q':=by
 cases o with
 |ok a h'=>exact f _ _ h
 |_=>exact h.elim
theorem Wp.ex (h:Wp o Q):∃a h',o=.ok a h'∧Q a h':=by
 cases o with
 |ok a h'=>exact ⟨a,h',rfl,h⟩
 |_=>exact h.elim
end
def Sm (h h':HD):Prop:=∀(l:Nat) (c:CF),h[l]?=some c→h'[l]?=some c
theorem Sm.refl (h:HD):Sm h h:=fun _ _ e=>e
theorem Sm.trans {h h1 h2:HD} (a:Sm h h1) (b:Sm h1 h2):Sm h h2:=fun l c e=>b l c (a l c e)
theorem Sm.app (h t:HD):Sm h (h++t):=fun l c e=>by
 rw [E7 (qa3.mp e).1];exact e
def Pu {α:Type} (o:Out α) (h:HD) (a:α):Prop:=Wp o fun x h'=>x=a∧Sm h h'
section
variable {α β:Type} {o:Out α} {h:HD} {a:α}
theorem Pu.wp {Q:α→HD→Prop} (p:Pu o h a) (k:∀h',Sm h h'→Q a h'):Wp o Q:=Wp.mono p fun x h' z1_=>by obtain ⟨e,s⟩:=z1_;subst e;exact k h' s
theorem Pu.ok:Pu (.ok a h) h a:=⟨rfl,.refl _⟩
theorem Pu.bind {k:α→HD→Out β} {b:β} (p:Pu o h a) (q:∀h',Sm h h'→Pu (k a h') h' b):Pu (o.bind k) h b:=by
 unfold Pu
 rw [Ap]
 exact p.wp fun h' s=>Wp.mono (q h' s) fun x h2 z2_=>by obtain ⟨e,s2⟩:=z2_;exact (⟨e,s.trans s2⟩)
theorem Pu.noErr (p:Pu o h a):Pu (noErr o) h a:=by
 obtain ⟨x,h',e,q⟩:=Wp.ex p
 rw [e];exact q
end
def Np (i j:Nat) (ρ:Ai) (ds:List D) (h:HD):Out (Fl×Ai):=match ds with
 |[x,y]=>.ok (.nx,(ρ.set i (some x)).set j (some y)) h
 |_=>.stuck
def Nq (o:Option Ai) (h:HD):Out (Fl×Ai):=match o with
 |some ρ1=>.ok (.nx,ρ1) h
 |none=>.stuck
def Jc (g:HD→Out D) (x:D) (h:HD):Out D:=match x with
 |.bl true=>g h
 |.bl false=>.ok (.bl false) h
 |_=>.stuck
def Kq (g:HD→Out D) (x:D) (h:HD):Out D:=match x with
 |.bl true=>.ok (.bl true) h
 |.bl false=>g h
 |_=>.stuck
def Nr (x:D) (h:HD):Out D:=match x with
 |.bl b=>.ok (.bl (!b)) h
 |_=>.stuck
def Nt (x:D) (h:HD):Out D:=match x with
 |.int i=>.ok (.int (-i)) h
 |_=>.stuck
@[simp] theorem Y1 {i j:Nat} {ρ:Ai} {x y:D} {h:HD} {Q:Fl×Ai→HD→Prop}:Wp (Np i j ρ [x,y] h) Q=Q (.nx,(ρ.set i (some x)).set j (some y)) h:=rfl
@[simp] theorem Y2 {ρ:Ai} {h:HD} {Q:Fl×Ai→HD→Prop}:Wp (Nq (some ρ) h) Q=Q (.nx,ρ) h:=rfl
@[simp] theorem Y3 {g:HD→Out D} {h:HD}:Jc g (.bl true) h=g h:=rfl
@[simp] theorem Y4 {g:HD→Out D} {h:HD}:Jc g (.bl false) h=.ok (.bl false) h:=rfl
@[simp] theorem Y5 {g:HD→Out D} {h:HD}:Kq g (.bl true) h=.ok (.bl true) h:=rfl
@[simp] theorem Y6 {g:HD→Out D} {h:HD}:Kq g (.bl false) h=g h:=rfl
@[simp] theorem Y7 {b:Bool} {h:HD}:Nr (.bl b) h=.ok (.bl (!b)) h:=rfl
@[simp] theorem Y8 {i:Int} {h:HD}:Nt (.int i) h=.ok (.int (-i)) h:=rfl
def Kr (g:MS) (Q:Fl×Ai→HD→Prop):Fl×Ai→HD→Prop
 |(.nx,ρ),h=>Wp (g ρ h) Q
 |y,h=>Q y h
def Ks (Q:D→HD→Prop):Fl×Ai→HD→Prop
 |(.nx,_),h=>Q .non h
 |(.rt d,_),h=>Q d h
 |_,_=>False
section
variable {ρ:Ai} {h:HD} {Q:Fl×Ai→HD→Prop} {QB:D→HD→Prop} {g g1 g2:MS} {f:ME} {t:MT}
@[simp] theorem AD:Kr g Q (.nx,ρ) h=Wp (g ρ h) Q:=rfl
@[simp] theorem Y9 {d:D}:Kr g Q (.rt d,ρ) h=Q (.rt d,ρ) h:=rfl
@[simp] theorem Za:Ks QB (.nx,ρ) h=QB .non h:=rfl
@[simp] theorem Zb {d:D}:Ks QB (.rt d,ρ) h=QB d h:=rfl
@[simp] theorem B5:Wp (Aj g1 g2 ρ h) Q=Wp (g1 ρ h) (Kr g2 Q):=by
  unfold Aj
  rw [Ap]
  congr 1
  funext x h'
  obtain ⟨fl,ρ1⟩:=x
  cases fl<;>rfl
theorem Ba {n:Nat} {ds:List D}:Wp (Ao n g ds h) QB=Wp (g (ds.map some++List.replicate (n - ds.length) none) h) (Ks QB):=by
 unfold Ao
 rw [Ap]
 congr 1
 funext x h'
 obtain ⟨fl,ρ1⟩:=x
 cases fl<;>rfl
@[simp] theorem Zc:Wp (Bx ρ h) Q=Q (.nx,ρ) h:=rfl
@[simp] theorem Zd:Wp (Cg f ρ h) Q=Wp (f ρ h) fun _ h1=>Q (.nx,ρ) h1:=by unfold Cg;rw [Ap];rfl
@[simp] theorem Ze:Wp (Ax f ρ h) Q=Wp (f ρ h) fun d h1=>Q (.rt d,ρ) h1:=by unfold Ax;rw [Ap];rfl
@[simp] theorem Ho {i:Nat}:Wp (AN i f ρ h) Q=Wp (f ρ h) fun d h1=>Q (.nx,ρ.set i (some d)) h1:=by unfold AN;rw [Ap];rfl
@[simp] theorem Zf:Wp (Bt t g1 g2 ρ h) Q=Wp (t ρ h) fun b h1=>Wp (if b=true then g1 ρ h1 else g2 ρ h1) Q:=by unfold Bt;rw [Ap]
@[simp] theorem Zg {i j:Nat} {fa:MA}:Wp (EY i j fa ρ h) Q=Wp (fa ρ h) fun ds h1=>Wp (Np i j ρ ds h1) Q:=by unfold EY;rw [Ap];rfl
@[simp] theorem Zh {sg:MG}:Wp (Gv sg f ρ h) Q=Wp (f ρ h) fun d h1=>Wp (Nq (sg d ρ) h1) Q:=by unfold Gv;rw [Ap];rfl
@[simp] theorem Zi {fo fi fv:ME}:Wp (Jb fo fi fv ρ h) Q=Wp (fv ρ h) fun v h1=>Wp (fo ρ h1) fun o h2=>Wp (fi ρ h2) fun i h3=>Wp (GF o i v h3 (.ok (.nx,ρ) h3)) Q:=by
  unfold Jb;simp only [Ap]
end
section
variable {ρ:Ai} {h:HD} {Q:D→HD→Prop} {QB:Bool→HD→Prop} {QA:List D→HD→Prop} {f g k:ME} {t u:MT} {fa:MA} {op op':D→D→HD→Out D} {F:List D→HD→Out D}
@[simp] theorem Nu {d:D} {r:Ai}:Wp (Aa 0 (some d::r) h) Q=Q d h:=rfl
@[simp] theorem Nv {i:Nat} {x:Option D} {r:Ai}:Wp (Aa (i+1) (x::r) h) Q=Wp (Aa i r h) Q:=rfl
@[simp] theorem TK {d:D}:Wp (mC d ρ h) Q=Q d h:=rfl
@[simp] theorem Nw:Wp (Ag op f g ρ h) Q=Wp (f ρ h) fun x h1=>Wp (g ρ h1) fun y h2=>Wp (op x y h2) Q:=by unfold Ag;simp only [Ap]
@[simp] theorem Kt:Wp (Af F fa ρ h) Q=Wp (fa ρ h) fun ds h1=>Wp (F ds h1) Q:=by unfold Af;rw [Ap]
@[simp] theorem Jd:Wp (Ad ρ h) QA=QA [] h:=rfl
@[simp] theorem Ku:Wp (Ab f fa ρ h) QA=Wp (f ρ h) fun x h1=>Wp (fa ρ h1) fun xs h2=>QA (x::xs) h2:=by unfold Ab;simp only [Ap];rfl
@[simp] theorem Zj:Wp (B1 fa ρ h) Q=Wp (fa ρ h) fun xs h1=>Wp (if xs.length≤sizeLine then .ok (.tup xs) h1 else .stuck) Q:=by unfold B1;simp only [Ap]
@[simp] theorem Zk:Wp (Cu fa ρ h) Q=Wp (fa ρ h) fun xs h1=>Wp (Ca xs h1) Q:=by unfold Cu;simp only [Ap]
@[simp] theorem TL:Wp (A5 f ρ h) QB=Wp (f ρ h) fun x h1=>Wp (Hb x h1) QB:=by unfold A5;rw [Ap]
@[simp] theorem Zl:Wp (BO f ρ h) QB=Wp (f ρ h) fun x h1=>Wp (DZ x h1) QB:=by unfold BO;rw [Ap]
@[simp] theorem Zm:Wp (B0 t ρ h) QB=Wp (t ρ h) fun b h1=>QB (!b) h1:=by unfold B0;rw [Ap];rfl
@[simp] theorem Zn:Wp (Fd t u ρ h) QB=Wp (t ρ h) fun b h1=>Wp (if b=true then u ρ h1 else .ok false h1) QB:=by unfold Fd;rw [Ap]
@[simp] theorem Zo:Wp (B9 t u ρ h) QB=Wp (t ρ h) fun b h1=>Wp (if b=true then .ok true h1 else u ρ h1) QB:=by unfold B9;rw [Ap]
@[simp] theorem Zp:Wp (Em f g ρ h) Q=Wp (f ρ h) fun x h1=>Wp (Jc (g ρ) x h1) Q:=by unfold Em;rw [Ap];rfl
@[simp] theorem Zq:Wp (MK f g ρ h) Q=Wp (f ρ h) fun x h1=>Wp (Kq (g ρ) x h1) Q:=by unfold MK;rw [Ap];rfl
@[simp] theorem Zr:Wp (IP f ρ h) Q=Wp (f ρ h) fun x h1=>Wp (Nr x h1) Q:=by unfold IP;rw [Ap];rfl
@[simp] theorem Zs:Wp (Ko f ρ h) Q=Wp (f ρ h) fun x h1=>Wp (Nt x h1) Q:=by unfold Ko;rw [Ap];rfl
@[simp] theorem Zt:Wp (IQ t f g ρ h) Q=Wp (t ρ h) fun b h1=>Wp (if b=true then f ρ h1 else g ρ h1) Q:=by unfold IQ;rw [Ap]
@[simp] theorem Zu:Wp (EU op op' f g k ρ h) Q=Wp (f ρ h) fun x h1=>Wp (g ρ h1) fun y h2=>Wp (op x y h2) fun z h3=>Wp (Jc (fun h=>(k ρ h).bind fun w h4=>op' y w h4) z h3) Q:=by unfold EU;simp only [Ap];rfl
@[simp] theorem Zv:Wp (Nn f ρ h) Q=Wp (f ρ h) fun x h1=>Wp (Kn x h1) Q:=by unfold Nn;rw [Ap]
@[simp] theorem Zw:Wp (Fj f g ρ h) Q=Wp (f ρ h) fun x h1=>Wp (GE x h1) fun x h1=>Wp (g ρ h1) fun y h2=>Wp (GD x y h2) Q:=by unfold Fj;simp only [Ap]
@[simp] theorem Zx:Wp (Bm ρ h) QB=QB true h:=rfl
theorem Cw {xs:List D} (hn:xs.length≤sizeLine) (q:∀l h',Sm h h'→h'[l]?=some (.lst xs)→l=h.length→h'=h++[.lst xs]→Q (.loc l) h'):Wp (Ca xs h) Q:=by
 unfold Ca
 rw [if_pos hn]
 exact q h.length _ (.app _ _) (by simp) rfl rfl
end
section
variable {ρ:Ai} {h:HD} {QI:(List D×AW)→HD→Prop} {f:ME} {fa:MA}
@[simp] theorem Zy:Wp (BC f ρ h) QI=Wp (f ρ h) fun d h1=>Wp (Gw d h1) QI:=by unfold BC;rw [Ap]
@[simp] theorem Zz:Wp (BQ fa ρ h) QI=Wp (fa ρ h) fun d h1=>Wp (Gx d h1) QI:=by unfold BQ;rw [Ap]
@[simp] theorem ZA:Wp (E1 fa ρ h) QI=Wp (fa ρ h) fun d h1=>Wp (Gy d h1) QI:=by unfold E1;rw [Ap]
@[simp] theorem ZC:Wp (Nm fa ρ h) QI=Wp (fa ρ h) fun d h1=>Wp (Nl d h1) QI:=by unfold Nm;rw [Ap]
theorem DH {n:Nat} (hn:n≤1000):Gx [.int (n:Int)] h=.ok ((List.range n).map fun k=>D.int ((k:Nat):Int),[]) h:=by
 have:(-(2^62):Int)≤(n:Int)∧(n:Int)<2^62:=by omega
 unfold Gx
 simp only
 rw [if_pos this]
 simp [EZ]
end
theorem Nx {α:Type} {src:AW} {items:List D} {sg:MG} {t:MT} {f:ME} {ρc:Ai} (φ:α→D) (g:α→Bool) (e:α→D) (ρ1:α→Ai):
 ∀(xs:List α) (h:HD),(∀h',Sm h h'→A3 src items h')→(∀x∈xs,sg (φ x) ρc=some (ρ1 x))→(∀x∈xs,∀h',Sm h h'→Pu (t (ρ1 x) h') h' (g x))→(∀x∈xs,g x=true→∀h',Sm h h'→Pu (f (ρ1 x) h') h' (e x))→
  Pu (CK src items sg t f ρc (xs.map φ) h) h ((xs.filter g).map e)
 |[],h,hs,_,_,_=>by
  simp only [Ej,List.filter_nil,CK]
  rw [if_pos (hs h (.refl _))]
  exact .ok
 |x::xs,h,hs,hg,ht,hf=>by
  simp only [Bj,CK]
  rw [if_pos (hs h (.refl _)),hg x AI]
  simp only
  refine Pu.bind (ht x AI h (.refl _)).noErr fun h1 s1=>?_
  have ih:∀h2,Sm h h2→Pu (CK src items sg t f ρc (xs.map φ) h2) h2 ((xs.filter g).map e):=fun h2 s2=>Nx φ g e ρ1 xs h2 (fun h' s'=>hs h' (s2.trans s'))
   (fun y hy=>hg y (AU _ hy)) (fun y hy h' s'=>ht y (AU _ hy) h' (s2.trans s')) (fun y hy gy h' s'=>hf y (AU _ hy) gy h' (s2.trans s'))
  cases hgx:g x with
  |false=>
   rw [if_neg Bi,JO (by simp [hgx])]
   exact ih h1 s1
  |true=>
   rw [if_pos rfl,JP hgx]
   refine Pu.bind (hf x AI hgx h1 s1).noErr fun h2 s2=>?_
   exact Pu.bind (ih h2 (s1.trans s2)) fun h3 _=>.ok
theorem DI {α:Type} {xs:List α}:xs.filter (fun _=>true)=xs:=List.filter_eq_self.mpr fun _ _=>rfl
section
variable {α:Type} {cs:List (Option Nat)} {it:MI} {sg:MG} {t:MT} {f:ME} {ρ:Ai} {h:HD} {src:AW} {xs:List α} {φ:α→D}
theorem Je {Q:D→HD→Prop} (g:α→Bool) (e:α→D) (ρ1:α→Ai) (hi:Wp (it ρ h) fun x h'=>x=(xs.map φ,src)∧Sm h h'∧∀h2,Sm h' h2→A3 src (xs.map φ) h2) (hn:xs.length≤sizeLine)
 (hg:∀x∈xs,sg (φ x) (B4 cs ρ)=some (ρ1 x)) (ht:∀x∈xs,∀h',Sm h h'→Pu (t (ρ1 x) h') h' (g x)) (hf:∀x∈xs,g x=true→∀h',Sm h h'→Pu (f (ρ1 x) h') h' (e x))
 (q:∀l h',Sm h h'→h'[l]?=some (.lst ((xs.filter g).map e))→Q (.loc l) h'):Wp (AQ cs it sg t f ρ h) Q:=by
 unfold AQ
 rw [Ap]
 refine Wp.mono hi fun x h1 z4_=>?_
 obtain ⟨ex,s1,hs⟩:=z4_
 subst ex
 rw [if_pos (by simpa using hn),Ap]
 refine (Nx φ g e ρ1 xs h1 hs hg (fun x hx h' s'=>ht x hx h' (s1.trans s')) (fun x hx gx h' s'=>hf x hx gx h' (s1.trans s'))).wp fun h2 s2=>?_
 refine Cw ?_ fun l h3 s3 e3 _ _=>q l h3 ((s1.trans s2).trans s3) e3
 rw [Cp]
 exact BU (JR _ _) hn
theorem Hq (g:α→Bool) (e:α→D) (ρ1:α→Ai) (hi:Wp (it ρ h) fun x h'=>x=(xs.map φ,src)∧Sm h h'∧∀h2,Sm h' h2→A3 src (xs.map φ) h2) (hn:xs.length≤sizeLine)
 (hg:∀x∈xs,sg (φ x) (B4 cs ρ)=some (ρ1 x)) (ht:∀x∈xs,∀h',Sm h h'→Pu (t (ρ1 x) h') h' (g x)) (hf:∀x∈xs,g x=true→∀h',Sm h h'→Pu (f (ρ1 x) h') h' (e x)):
 Pu (Af (Al Bw) (Ab (AQ cs it sg t f) Ad) ρ h) h (.tup ((xs.filter g).map e)):=by
 unfold Pu
 rw [Kt,Ku]
 refine Je g e ρ1 hi hn hg ht hf fun l h' s' e'=>?_
 rw [Jd]
 simp only [Al,Bw,e']
 exact ⟨rfl,s'⟩
theorem TM (e:α→D) (ρ1:α→Ai) (hi:Wp (it ρ h) fun x h'=>x=(xs.map φ,src)∧Sm h h'∧∀h2,Sm h' h2→A3 src (xs.map φ) h2) (hn:xs.length≤sizeLine)
 (hg:∀x∈xs,sg (φ x) (B4 cs ρ)=some (ρ1 x)) (hf:∀x∈xs,∀h',Sm h h'→Pu (f (ρ1 x) h') h' (e x)):
 Pu (Af (Al Bw) (Ab (AQ cs it sg Bm f) Ad) ρ h) h (.tup (xs.map e)):=by
 have:=Hq (t:=Bm) (f:=f) (fun _=>true) e ρ1 hi hn hg (fun x hx h' s'=>(.ok:Pu (.ok true h') h' true)) (fun x hx _ h' s'=>hf x hx h' s')
 rw [DI] at this
 exact this
theorem Hr {β γ:Type} {f:β→Option γ} {g:β→γ}:∀{xs:List β},(∀x∈xs,f x=some (g x))→AZ (xs.map f)=some (xs.map g)
 |[],_=>rfl
 |x::xs,hf=>by
  simp only [Bj,hf x AI,AZ,Hr (fun y hy=>hf y (AU _ hy)),Gc]
theorem TN (b:α→Bool) (ρ1:α→Ai) (hi:Wp (it ρ h) fun x h'=>x=(xs.map φ,src)∧Sm h h'∧∀h2,Sm h' h2→A3 src (xs.map φ) h2) (hn:xs.length≤sizeLine)
 (hg:∀x∈xs,sg (φ x) (B4 cs ρ)=some (ρ1 x)) (hf:∀x∈xs,∀h',Sm h h'→Pu (f (ρ1 x) h') h' (.bl (b x))):
 Pu (Af (Al CL) (Ab (AQ cs it sg Bm f) Ad) ρ h) h (.bl (xs.all b)):=by
 unfold Pu
 rw [Kt,Ku]
 refine Je (fun _=>true) (fun x=>.bl (b x)) ρ1 hi hn hg (fun x hx h' s'=>(.ok:Pu (.ok true h') h' true)) (fun x hx _ h' s'=>hf x hx h' s') fun l h' s' e'=>?_
 rw [Jd]
 rw [DI] at e'
 simp only [Al,CL,e',Cq]
 rw [Hr (f:=GC∘fun x=>D.bl (b x)) (g:=b) (fun x _=>rfl)]
 refine ⟨?_,s'⟩
 simp [List.all_map]
end
def Cy (I:Ai→HD→Prop) (Q:Fl×Ai→HD→Prop):Fl×Ai→HD→Prop
 |(.nx,ρ),h=>I ρ h
 |(.ct,ρ),h=>I ρ h
 |(.bk,ρ),h=>Q (.nx,ρ) h
 |(.rt d,ρ),h=>Q (.rt d,ρ) h
theorem Kv {α:Type} {src:AW} {items:List D} {sg:MG} {body:MS} {Q:Fl×Ai→HD→Prop} (φ:α→D) (I:List α→Ai→HD→Prop) (ho:∀xs ρ h,I xs ρ h→A3 src items h)
 (step:∀x xs ρ h,I (x::xs) ρ h→∃ρ1,sg (φ x) ρ=some ρ1∧Wp (body ρ1 h) (Cy (I xs) Q)) (done:∀ρ h,I [] ρ h→Q (.nx,ρ) h):∀(xs:List α) (ρ:Ai) (h:HD),I xs ρ h→Wp (D4 src items sg body (xs.map φ) ρ h) Q
 |[],ρ,h,i=>by
  simp only [Ej,D4]
  rw [if_pos (ho _ _ _ i)]
  exact done ρ h i
 |x::xs,ρ,h,i=>by
  simp only [Bj,D4]
  rw [if_pos (ho _ _ _ i)]
  obtain ⟨ρ1,e,w⟩:=step x xs ρ h i
  rw [e]
  simp only
  rw [Ap]
  refine Wp.mono w fun y h' k=>?_
  obtain ⟨fl,ρ2⟩:=y
  cases fl with
  |nx=>exact Kv φ I ho step done xs ρ2 h' k
  |ct=>exact Kv φ I ho step done xs ρ2 h' k
  |bk=>exact k
  |rt d=>exact k
theorem Do {α:Type} {src:AW} {it:MI} {sg:MG} {body:MS} {Q:Fl×Ai→HD→Prop} {ρ:Ai} {h:HD} {xs:List α} (φ:α→D) (I:List α→Ai→HD→Prop) (hi:Wp (it ρ h) fun x h'=>x=(xs.map φ,src)∧I xs ρ h') (ho:∀ys ρ h,I ys ρ h→A3 src (xs.map φ) h)
 (step:∀x xs ρ h,I (x::xs) ρ h→∃ρ1,sg (φ x) ρ=some ρ1∧Wp (body ρ1 h) (Cy (I xs) Q)) (done:∀ρ h,I [] ρ h→Q (.nx,ρ) h):Wp (BD it sg body ρ h) Q:=by
 unfold BD
 rw [Ap]
 refine Wp.mono hi fun x h1 z5_=>?_
 obtain ⟨e,i⟩:=z5_
 subst e
 exact Kv φ I ho step done xs ρ h1 i
theorem TQ {α β:Type} {f:α→Option β} {ys:List β}:∀{xs:List α},AZ (xs.map f)=some ys→∀{g:α→Option β},(∀x∈xs,∀y,f x=some y→g x=some y)→AZ (xs.map g)=some ys:=by
 intro xs
 induction xs generalizing ys with
 |nil=>intro e g _;exact e
 |cons x xs ih=>
  intro e g hg
  simp only [Bj] at e ⊢
  cases hx:f x with
  |none=>rw [hx] at e;simp [AZ] at e
  |some y=>
   rw [hx] at e
   rw [hg x AI y hx]
   simp only [AZ] at e ⊢
   cases hr:AZ (xs.map f) with
   |none=>rw [hr] at e;cases e
   |some zs=>rw [hr] at e;rw [ih hr (fun z hz=>hg z (AU _ hz))];exact e
theorem GH {h:HD}:∀{n:Nat} {d:D} {p:PyData},AB [] n d=some p→AB h n d=some p
 |n,.non,p,e=>by simpa [AB] using e
 |n,.bl _,p,e=>by simpa [AB] using e
 |n,.int _,p,e=>by simpa [AB] using e
 |n,.str _,p,e=>by simpa [AB] using e
 |n+1,.tup ds,p,e=>by
  simp only [AB] at e ⊢
  cases hr:AZ (ds.map (AB [] n)) with
  |none=>rw [hr] at e;cases e
  |some zs=>rw [hr] at e;rw [TQ hr (fun x _ y hy=>GH hy)];exact e
 |0,.tup ds,p,e=>by simp [AB] at e
 |n+1,.loc l,p,e=>by simp [AB] at e
 |0,.loc l,p,e=>by simp [AB] at e
 |n,.scr _,p,e=>by cases n<;>simp [AB] at e
 |n,.adr _,p,e=>by cases n<;>simp [AB] at e
 |n,.ty _,p,e=>by cases n<;>simp [AB] at e
 |n,.exc _ _,p,e=>by cases n<;>simp [AB] at e
 |n,.edic,p,e=>by cases n<;>simp [AB] at e
 |n,.glo _,p,e=>by cases n<;>simp [AB] at e
 |n,.clo _ _ _,p,e=>by cases n<;>simp [AB] at e
def Py (d:D) (p:PyData):Prop:=AB [] 8 d=some p∧SeqAt.shaped p=true
theorem TR {x y:D} {p q:PyData} {h:HD} (hx:Py x p) (hy:Py y q):Ep x y h=.ok (.bl (PyData.eqv p q)) h:=by
 simp only [Ep,Eo,GH hx.1,GH hy.1]
 rw [if_pos ⟨hx.2,hy.2⟩]
theorem TU {x y:D} {p q:PyData} {h:HD} (hx:Py x p) (hy:Py y q):D1 x y h=.ok (.bl (!PyData.eqv p q)) h:=by
 simp only [D1,Eo,GH hx.1,GH hy.1]
 rw [if_pos ⟨hx.2,hy.2⟩]
@[simp] theorem ZD:(0≤sizeLine)=True:=eq_true (DT _)
@[simp] theorem ZE:(1≤sizeLine)=True:=eq_true (by unfold sizeLine;omega)
@[simp] theorem ZF:(2≤sizeLine)=True:=eq_true (by unfold sizeLine;omega)
@[simp] theorem Hs:(3≤sizeLine)=True:=eq_true (by unfold sizeLine;omega)
@[simp] theorem ZG:(4≤sizeLine)=True:=eq_true (by unfold sizeLine;omega)
@[simp] theorem ZH:(5≤sizeLine)=True:=eq_true (by unfold sizeLine;omega)
section
variable {h:HD} {a b c:D} {ds es:List D} {i j:Int} {F1:D→HD→Out D} {F2:D→D→HD→Out D} {F3:D→D→D→HD→Out D}
@[simp] theorem TV:Al F1 [a] h=F1 a h:=rfl
@[simp] theorem ZI:BV F2 [a,b] h=F2 a b h:=rfl
@[simp] theorem ZJ:SS F3 [a,b,c] h=F3 a b c h:=rfl
@[simp] theorem ZK {b:Bool}:Hb (.bl b) h=.ok b h:=rfl
@[simp] theorem ZL {b:Bool}:DZ (.bl b) h=.ok b h:=rfl
@[simp] theorem ZM:DZ .non h=.ok false h:=rfl
@[simp] theorem ZN:DZ (.int i) h=.ok (i != 0) h:=rfl
@[simp] theorem ZO:DZ (.tup ds) h=.ok (!ds.isEmpty) h:=rfl
@[simp] theorem ZP:Bu (.int i) (.ty "int") h=.ok (.bl true) h:=rfl
@[simp] theorem ZQ:Bu (.int i) (.ty "bool") h=.ok (.bl false) h:=rfl
@[simp] theorem ZR:Bu (.int i) (.ty "tuple") h=.ok (.bl false) h:=rfl
@[simp] theorem ZS:Bu (.tup ds) (.ty "tuple") h=.ok (.bl true) h:=rfl
@[simp] theorem ZT:Bu (.tup ds) (.ty "int") h=.ok (.bl false) h:=rfl
@[simp] theorem ZU:A2 (.int i) (.int j) h=.ok (.int (i+j)) h:=rfl
@[simp] theorem TX {f:Int→Int→D}:EW f (.int i) (.int j) h=.ok (f i j) h:=rfl
@[simp] theorem ZV {b c:Bool}:Gu (.bl b) (.bl c) h=.ok (.bl (b==c)) h:=rfl
@[simp] theorem ZW {b c:Bool}:EX (.bl b) (.bl c) h=.ok (.bl (!(b==c))) h:=rfl
@[simp] theorem ZX:Bc (.tup ds) h=.ok (.int ds.length) h:=rfl
@[simp] theorem ZY {ns:List Int}:Bc (.scr ns) h=.ok (.int ns.length) h:=by simp [Bc,BA]
@[simp] theorem ZZ:Gw (.tup ds) h=.ok (ds,[]) h:=rfl
@[simp] theorem Z0:Bw (.tup ds) h=.ok (.tup ds) h:=rfl
@[simp] theorem Z1:Kn (.tup [a,b]) h=.ok (.tup [b,a]) h:=rfl
@[simp] theorem Z2:Hh (.int i) (.int j) h=.ok (.int (if j>i then j else i)) h:=rfl
@[simp] theorem Z3:Hi (.int i) (.int j) h=.ok (.int (if j<i then j else i)) h:=rfl
@[simp] theorem TY {b:Bool}:Hj (.bl b) h=.ok (.int (if b then 1 else 0)) h:=rfl
@[simp] theorem Z4:Hj (.int i) h=.ok (.int i) h:=rfl
@[simp] theorem Z5 {ρ:Ai} {k:Nat}:AE k a ρ=some (ρ.set k (some a)):=rfl
@[simp] theorem Z6 {ρ:Ai} {k l:Nat}:DD k l (.tup [a,b]) ρ=some ((ρ.set k (some a)).set l (some b)):=rfl
@[simp] theorem Z7 {b c:Bool}:Ep (.bl b) (.bl c) h=.ok (.bl (b==c)) h:=rfl
@[simp] theorem Z8 {b c:Bool}:D1 (.bl b) (.bl c) h=.ok (.bl (!(b==c))) h:=rfl
@[simp] theorem Z9:Ep (.int i) (.int j) h=.ok (.bl (i==j)) h:=rfl
@[simp] theorem Zaa:D1 (.int i) (.int j) h=.ok (.bl (!(i==j))) h:=rfl
theorem Ny {l:Nat} (e:h[l]?=some (.lst ds)):Bw (.loc l) h=.ok (.tup ds) h:=by simp only [Bw,e]
theorem Nz {l:Nat} (e:h[l]?=some (.lst ds)):GE (.loc l) h=.ok (.loc l) h:=by simp only [GE,e]
theorem NA {l:Nat} (e:h[l]?=some (.lst ds)) (hn:ds.length<sizeLine):GD (.loc l) a h=.ok .non (h.set l (.lst (ds++[a]))):=by simp only [GD,e];rw [if_pos hn]
theorem ix_tup {k:Nat} (e:ds[k]?=some a):Aq (.tup ds) (.int (k:Nat)) h=.ok a h:=by
 have hk:k<ds.length:=(qa3.mp e).1
 have e1:Cs ds ((k:Nat):Int)=some a:=by
  unfold Cs Dg
  rw [if_pos (by omega),if_pos (by omega)]
  simpa using e
 simp only [Aq,BA,e1]
theorem Kw {n k:Nat} {e:Nat→D} (hk:k<n):Aq (.tup ((List.range n).map e)) (.int (k:Nat)) h=.ok (e k) h:=ix_tup (by simp [List.getElem?_range,hk])
theorem Ht {n:Nat} {e:Nat→D} (hk:0<n):Aq (.tup ((List.range n).map e)) (.int 0) h=.ok (e 0) h:=Kw (k:=0) hk
@[simp] theorem Zab:Aq (.tup [a,b]) (.int 0) h=.ok a h:=rfl
@[simp] theorem Zac:Aq (.tup [a,b]) (.int 1) h=.ok b h:=rfl
theorem TZ {ns:List Int} {k:Nat} (e:ns[k]?=some i):Aq (.scr ns) (.int (k:Nat)) h=.ok (.int i) h:=by
 have hk:k<ns.length:=(qa3.mp e).1
 have e1:Cs (ns.map D.int) ((k:Nat):Int)=some (.int i):=by
  unfold Cs Dg
  rw [if_pos (by omega),if_pos (by simpa using hk)]
  simp [e]
 simp only [Aq,BA,e1]
theorem Kx {l k:Nat} (el:h[l]?=some (.lst ds)) (e:ds[k]?=some a):Aq (.loc l) (.int (k:Nat)) h=.ok a h:=by
 have hk:k<ds.length:=(qa3.mp e).1
 have e1:Cs ds ((k:Nat):Int)=some a:=by
  unfold Cs Dg
  rw [if_pos (by omega),if_pos (by omega)]
  simpa using e
 simp only [Aq,BA,el,e1]
theorem T1 {l k:Nat} {ρ:Ai} (el:h[l]?=some (.lst ds)) (hk:k<ds.length):GF (.loc l) (.int (k:Nat)) a h (.ok (.nx,ρ) h)=.ok (.nx,ρ) (h.set l (.lst (ds.set k a))):=by
 have:Dg ds.length ((k:Nat):Int)=some k:=by
  unfold Dg
  rw [if_pos (by omega),if_pos (by omega)]
  simp
 simp only [GF,el,this]
theorem T3 {neg:Bool} {k:Nat} {ks:List Nat}:D2 neg (.int (k:Nat)) (.tup (ks.map fun i=>.int ((i:Nat):Int))) h=.ok (.bl (if neg then !ks.contains k else ks.contains k)) h:=by
 have e:AZ ((ks.map fun i=>D.int ((i:Nat):Int)).map CI)=some (ks.map fun i=>V.int ((i:Nat):Int)):=by
  rw [Cq]
  exact Hr (f:=CI∘fun i=>D.int ((i:Nat):Int)) (fun x _=>rfl)
 have e2:Gk (V.int ((k:Nat):Int)) (ks.map fun i=>V.int ((i:Nat):Int))=ks.contains k:=by
  unfold Gk
  rw [List.any_map,List.contains_eq_any_beq]
  congr 1
  funext i
  change (((i:Nat):Int)==((k:Nat):Int))=_
  rw [qaI]
  simp
  omega
 simp only [D2,BA,e,CI,e2]
end
noncomputable def Jf (cs:List (Option Nat)) (it:MI) (sg:MG) (t:MT) (f:ME):ME:=Af (Al Bw) (Ab (AQ cs it sg t f) Ad)
noncomputable def Jg (cs:List (Option Nat)) (it:MI) (sg:MG) (t:MT) (f:ME):ME:=Af (Al CL) (Ab (AQ cs it sg t f) Ad)
section
variable {α:Type} {cs:List (Option Nat)} {it:MI} {sg:MG} {t:MT} {f:ME} {ρ:Ai} {h:HD} {src:AW} {xs:List α} {φ:α→D}
@[simp] theorem Zad:Af (Al Bw) (Ab (AQ cs it sg t f) Ad) ρ h=Jf cs it sg t f ρ h:=rfl
@[simp] theorem Zae:Af (Al CL) (Ab (AQ cs it sg t f) Ad) ρ h=Jg cs it sg t f ρ h:=rfl
def Cb (o:Out (List D×AW)) (h:HD) (ds:List D) (src:AW):Prop:=Wp o fun x h'=>x=(ds,src)∧Sm h h'∧∀h2,Sm h' h2→A3 src ds h2
theorem Ky (e:α→D) (ρ1:α→Ai) (hi:Cb (it ρ h) h (xs.map φ) src) (hg:∀x∈xs,sg (φ x) (B4 cs ρ)=some (ρ1 x)) (hf:∀x∈xs,∀h',Sm h h'→Pu (f (ρ1 x) h') h' (e x)) (hn:xs.length≤sizeLine):
 Pu (Jf cs it sg Bm f ρ h) h (.tup (xs.map e)):=TM e ρ1 hi hn hg hf
theorem Jh (b:α→Bool) (ρ1:α→Ai) (hi:Cb (it ρ h) h (xs.map φ) src) (hg:∀x∈xs,sg (φ x) (B4 cs ρ)=some (ρ1 x)) (hf:∀x∈xs,∀h',Sm h h'→Pu (f (ρ1 x) h') h' (.bl (b x))) (hn:xs.length≤sizeLine):
 Pu (Jg cs it sg Bm f ρ h) h (.bl (xs.all b)):=TN b ρ1 hi hn hg hf
theorem Kz {ds:List D}:Cb (BC (Aa 0) (some (.tup ds)::ρ) h) h ds []:=by
 simp [Cb,Sm.refl,A3]
end
section
variable {h:HD} {i j:Int}
theorem Ji (h1:-18446744073709551616<j) (h2:j<18446744073709551616):CM (.int i) (.int j) h=.ok (.int (i*j)) h:=by
 have:CMl i j:=.inl (.inr ⟨by omega,by omega⟩)
 simp only [CM];rw [if_pos this]
theorem KA (h1:-18446744073709551616<i) (h2:i<18446744073709551616):CM (.int i) (.int j) h=.ok (.int (i*j)) h:=by
 have:CMl i j:=.inl (.inl ⟨by omega,by omega⟩)
 simp only [CM];rw [if_pos this]
theorem T4 (h1:Builtin.Int.intBits i≤16777216) (h2:Builtin.Int.intBits j≤16777216):CM (.int i) (.int j) h=.ok (.int (i*j)) h:=by
 have:CMl i j:=.inr ⟨h1,h2⟩
 simp only [CM];rw [if_pos this]
theorem GI (h1:0<j):D0 (.int i) (.int j) h=.ok (.int (i % j)) h:=by
 simp only [D0,intD];rw [if_pos h1]
theorem T5 (h1:0<j) (h2:j<18446744073709551616):IW (.int i) (.int j) h=.ok (.int (i / j)) h:=by
 have:CDv i j:=⟨h1,h2⟩
 simp only [IW,intD];rw [if_pos this]
theorem T6 (h1:0<j) (h2:j<18446744073709551616):Hg (.int i) (.int j) h=.ok (.tup [.int (i / j),.int (i % j)]) h:=by
 have:CDv i j:=⟨h1,h2⟩
 simp only [Hg];rw [if_pos this]
end
theorem NB {α:Type} {o:Out α} {Q:α→HD→Prop}:Wp (noErr o) Q=Wp o Q:=by cases o<;>rfl
theorem NC {src:AW} {items:List D} {sg:MG} {t:MT} {f:ME} {ρc:Ai} (φ:Nat→D) (I:HD→Prop) (T:Nat→Bool→Prop) (R:Nat→D→Prop) (ρ1:Nat→Ai) (hs:∀h,I h→A3 src items h):
 ∀(xs:List Nat) (h:HD),xs.Nodup→I h→(∀x∈xs,sg (φ x) ρc=some (ρ1 x))→(∀x∈xs,∀h,I h→Wp (t (ρ1 x) h) fun b h1=>T x b∧if b=true then Wp (f (ρ1 x) h1) (fun y h2=>I h2∧R x y) else I h1)→
  Wp (CK src items sg t f ρc (xs.map φ) h) fun ys h'=>I h'∧∃(g:Nat→Bool) (e:Nat→D),ys=(xs.filter g).map e∧(∀x∈xs,g x=true→R x (e x))∧∀x∈xs,T x (g x)
 |[],h,_,i,_,_=>by
  simp only [Ej,CK]
  rw [if_pos (hs h i)]
  exact ⟨i,fun _=>true,fun _=>.non,rfl,by simp,by simp⟩
 |x::xs,h,hd,i,hg,ht=>by
  simp only [Bj,CK]
  rw [if_pos (hs h i),hg x AI]
  simp only
  rw [Ap,NB]
  rw [qbG] at hd
  refine Wp.mono (ht x AI h i) fun b h1 z1_=>?_
  obtain ⟨tb,w⟩:=z1_
  have ih:∀h2,I h2→_:=fun h2 i2=>NC φ I T R ρ1 hs xs h2 hd.2 i2 (fun y hy=>hg y (AU _ hy)) (fun y hy=>ht y (AU _ hy))
  cases b with
  |false=>
   rw [if_neg Bi] at w ⊢
   refine Wp.mono (ih h1 w) ?_
   rintro ys h' ⟨i',g,e,ey,hr,tr⟩
   refine ⟨i',fun y=>if y=x then false else g y,e,?_,?_,?_⟩
   ·rw [JO (by simp),ey]
    congr 1
    refine Ik fun y hy=>?_
    rw [if_neg]
    intro z;subst z;exact hd.1 hy
   ·intro y hy gy
    rcases qa9.mp hy with z |z
    ·subst z;simp at gy
    ·refine hr y z ?_
     by_cases hz:y=x
     ·subst hz;exact absurd z hd.1
     ·simpa [hz] using gy
   ·intro y hy
    by_cases hz:y=x
    ·subst hz;simpa using tb
    ·simp only [if_neg hz]
     exact tr y (by rcases qa9.mp hy with z |z;exact absurd z hz;exact z)
  |true=>
   rw [if_pos rfl] at w ⊢
   rw [Ap,NB]
   refine Wp.mono w fun y h2 z3_=>?_
   obtain ⟨i2,ry⟩:=z3_
   rw [Ap]
   refine Wp.mono (ih h2 i2) ?_
   rintro ys h' ⟨i',g,e,ey,hr,tr⟩
   refine ⟨i',fun z=>if z=x then true else g z,fun z=>if z=x then y else e z,?_,?_,?_⟩
   ·rw [JP (by simp),Bj,if_pos rfl,ey]
    congr 1
    rw [show xs.filter (fun z=>if z=x then true else g z)=xs.filter g from Ik fun z hz=>by
     rw [if_neg]
     intro q;subst q;exact hd.1 hz]
    refine F8 fun z hz=>?_
    rw [if_neg]
    intro q;subst q;exact hd.1 (qbA.mp hz).1
   ·intro z hz gz
    by_cases q:z=x
    ·subst q;simpa using ry
    ·rcases qa9.mp hz with w |w
     ·exact absurd w q
     ·simp only [if_neg q] at gz ⊢
      exact hr z w gz
   ·intro z hz
    by_cases q:z=x
    ·subst q;simpa using tb
    ·simp only [if_neg q]
     exact tr z (by rcases qa9.mp hz with w |w;exact absurd w q;exact w)
theorem ND {cs:List (Option Nat)} {it:MI} {sg:MG} {t:MT} {f:ME} {ρ:Ai} {h:HD} {src:AW} {xs:List Nat} {Q:D→HD→Prop} (φ:Nat→D) (I:HD→Prop) (T:Nat→Bool→Prop) (R:Nat→D→Prop) (ρ1:Nat→Ai) (hi:Wp (it ρ h) fun x h'=>x=(xs.map φ,src)∧I h') (hs:∀h,I h→A3 src (xs.map φ) h)
 (hnew:∀h c,I h→I (h++[c])) (hd:xs.Nodup) (hn:xs.length≤sizeLine) (hg:∀x∈xs,sg (φ x) (B4 cs ρ)=some (ρ1 x)) (ht:∀x∈xs,∀h,I h→Wp (t (ρ1 x) h) fun b h1=>T x b∧if b=true then Wp (f (ρ1 x) h1) (fun y h2=>I h2∧R x y) else I h1)
 (q:∀h' (g:Nat→Bool) (e:Nat→D),I h'→(∀x∈xs,g x=true→R x (e x))→(∀x∈xs,T x (g x))→Q (.tup ((xs.filter g).map e)) h'):Wp (Jf cs it sg t f ρ h) Q:=by
 unfold Jf
 rw [Kt,Ku]
 unfold AQ
 rw [Ap]
 refine Wp.mono hi fun x h1 z5_=>?_
 obtain ⟨ex,i1⟩:=z5_
 subst ex
 rw [if_pos (by simpa using hn),Ap]
 refine Wp.mono (NC φ I T R ρ1 hs xs h1 hd i1 hg ht) fun ys h2 z6_=>?_
 obtain ⟨i2,g,e,ey,hr,tr⟩:=z6_
 subst ey
 refine Cw ?_ fun l h3 s3 e3 _ eh=>?_
 ·rw [Cp]
  exact BU (JR _ _) hn
 ·rw [Jd]
  simp only [Al,Bw,e3]
  refine q h3 g e ?_ hr tr
  rw [eh]
  exact hnew _ _ i2
theorem KB {α:Type} {g:α→PyData}:∀{xs:List α},(∀x∈xs,(g x).canLay0=true)→PyData.canLayAll0 (xs.map g)=true
 |[],_=>rfl
 |x::xs,hx=>by
  rw [Bj,PyData.canLayAll0,hx x AI,KB fun y hy=>hx y (AU _ hy)];rfl
theorem KC {α:Type} {g:α→PyData} {n:Nat}:∀{xs:List α},(∀x∈xs,(g x).depth≤n)→PyData.depthAll (xs.map g)≤n
 |[],_=>DT _
 |x::xs,hx=>by
  rw [Bj,PyData.depthAll]
  exact Nat.max_le.mpr ⟨hx x AI,KC fun y hy=>hx y (AU _ hy)⟩
structure PyN (n:Nat) (d:D) (p:PyData):Prop where
 rd:∀k,n≤k→AB [] k d=some p
 ly:p.canLay0=true
 dp:p.depth≤n
theorem PyN.py {n:Nat} {d:D} {p:PyData} (h:PyN n d p) (hn:n≤8):Py d p:=⟨h.rd 8 hn,by
 unfold SeqAt.shaped
 rw [h.ly]
 have:=h.dp
 simp
 omega⟩
theorem KF {i:Int}:PyN 0 (.int i) (.int i):=⟨fun k _=>by cases k<;>rfl,rfl,AJ _⟩
theorem Hu {α:Type} {n:Nat} {xs:List α} {e:α→D} {g:α→PyData} (hx:∀x∈xs,PyN n (e x) (g x)):PyN (n+1) (.tup (xs.map e)) (.tuple (xs.map g)):=by
 refine ⟨fun k hk=>?_,?_,?_⟩
 ·obtain ⟨k,rfl⟩:∃m,k=m+1:=⟨k - 1,by omega⟩
  simp only [AB,Cq]
  rw [Hr (f:=AB [] k∘e) (g:=g) (fun x h=>(hx x h).rd k (by omega))]
  rfl
 ·rw [PyData.canLay0];exact KB fun x h=>(hx x h).ly
 ·rw [PyData.depth]
  exact Nat.succ_le_succ (KC fun x h=>(hx x h).dp)
def KD {α:Type}:Sem α→Prop
 |.pure _=>True
 |.raise _=>True
 |.unsupported _=>True
 |.finish _=>True
 |.rule _ k=>KD (k ())
 |.at _ k=>KD (k ())
 |.load _ _ k=>∀o,KD (k o)
 |.update _ _ f k=>(∀o,(f o).dict=o.dict∧(o.isFreed=false→(f o).isFreed=false))∧KD (k ())
 |.loadIfAlive _ k=>∀o,KD (k o)
 |.point _ k=>KD (k ())
 |.register _ _=>True
 |.alloc _ k=>∀a,KD (k a)
 |.fresh k=>∀a,KD (k a)
 |.ask k=>∀a,KD (k a)
 |.choose _ _ k=>∀a,KD (k a)
 |.os _ _ k=>∀a,KD (k a)
 |.call ..=>False
 |.handled _ k=>∀a,KD (k a)
 |.genState _ k=>∀a,KD (k a)
 |.newGen _ k=>∀a,KD (k a)
 |.resume ..=>False
 |.yield ..=>True
 |.stack k=>∀a,KD (k a)
 |.fork ..=>True
 |.thread k=>∀a,KD (k a)
 |.await ..=>True
def Dicts (h h':Heap):Prop:=∀b o,h.get? b=some o→∃o',h'.get? b=some o'∧o'.dict=o.dict
theorem Dicts.refl (h:Heap):Dicts h h:=fun _ o e=>⟨o,e,rfl⟩
theorem Dicts.trans {h h1 h2:Heap} (a:Dicts h h1) (b:Dicts h1 h2):Dicts h h2:=fun c o e=>by
 obtain ⟨o1,e1,d1⟩:=a c o e
 obtain ⟨o2,e2,d2⟩:=b c o1 e1
 exact ⟨o2,e2,d2.trans d1⟩
theorem T7 {α:Type} {M:Model} {Γ:PySem.Ctx} {Q:α→Pos→Shared→Prop} {E:Value→Pos→Shared→Prop}:∀(t:Sem α) (p:Pos) (s:Shared),KD t→Sem.wp M Γ t Q E p s→Sem.wp M Γ t (fun a p s'=>Q a p s'∧Dicts s.heap s'.heap) (fun a p s'=>E a p s'∧Dicts s.heap s'.heap) p s:=by
 have lift:∀(t:Sem α) (p:Pos) (h0:Heap) (s:Shared),Dicts h0 s.heap→Sem.wp M Γ t (fun a p s'=>Q a p s'∧Dicts s.heap s'.heap) (fun a p s'=>E a p s'∧Dicts s.heap s'.heap) p s→Sem.wp M Γ t (fun a p s'=>Q a p s'∧Dicts h0 s'.heap) (fun a p s'=>E a p s'∧Dicts h0 s'.heap) p s:=
  fun t p h0 s d w=>Sem.wp_mono M Γ t (fun a p s' z=>⟨z.1,d.trans z.2⟩) (fun a p s' z=>⟨z.1,d.trans z.2⟩) p s w
 intro t
 induction t with
 |pure a=>exact fun p s _ w=>⟨w,.refl _⟩
 |raise e=>exact fun p s _ w=>⟨w,.refl _⟩
 |unsupported w=>exact fun p s _ w=>w.elim
 |finish w=>exact fun p s _ w=>w.elim
 |rule t k ih=>exact fun p s kd w=>ih () p s kd w
 |«at» t k ih=>exact fun p s kd w=>ih () t s kd w
 |load a x k ih=>exact fun p s kd ⟨o,e,w⟩=>⟨o,e,ih o p s (kd o) w⟩
 |update a x f k ih=>
  refine fun p s kd ⟨e,w⟩=>⟨e,lift _ p s.heap {s with heap:=s.heap.update a f} (fun b o eb=>?_) (ih () p _ kd.2 w)⟩
  by_cases hb:b=a
  ·subst hb
   obtain ⟨d1,d2⟩:=kd.1 o
   exact ⟨f o,Ij f eb (d2 (Heap.get?_some_iff.mp eb).2),d1⟩
  ·exact ⟨o,(JQ s.heap f (Ne.symm hb)).trans eb,rfl⟩
 |alloc o k ih=>exact fun p s kd w=>lift _ p s.heap {s with heap:=s.heap.push o} (fun b ob eb=>⟨ob,Bn _ eb,rfl⟩) (ih _ p {s with heap:=s.heap.push o} (kd _) w)
 |loadIfAlive a k ih=>exact fun p s kd w=>ih _ p s (kd _) w
 |point l k ih=>exact fun p s kd w=>ih () p s kd w
 |register a k ih=>exact fun p s kd w=>w.elim
 |fresh k ih=>exact fun p s kd w=>ih _ p {s with toks:=s.toks+1} (kd _) w
 |ask k ih=>exact fun p s kd w=>ih _ p s (kd _) w
 |choose src n k ih=>exact fun p s kd ⟨z,w⟩=>⟨z,ih _ p {s with drawn:=s.drawn.bump src} (kd _) w⟩
 |os q l k ih=>exact fun p s kd w=>ih _ p {s with os:=(Os.step s.os q).1} (kd _) w
 |call c h g l k ih=>exact fun p s kd w=>kd.elim
 |handled o k ih=>exact fun p s kd w=>ih _ p s (kd _) w
 |newGen c k ih=>exact fun p s kd w=>ih _ p {s with gens:=s.gens.push (.fresh c)} (kd _) w
 |genState g k ih=>exact fun p s kd ⟨st,e,w⟩=>⟨st,e,ih _ p s (kd _) w⟩
 |resume g r l k ih=>exact fun p s kd w=>kd.elim
 |yield v g l k ih=>exact fun p s kd w=>w.elim
 |stack k ih=>exact fun p s kd w=>ih _ p s (kd _) w
 |fork c k ih=>exact fun p s kd w=>w.elim
 |thread k ih=>exact fun p s kd w=>ih _ p s (kd _) w
 |await a t b l k ih=>exact fun p s kd w=>w.elim
theorem T8 {α:Type} {M:Model} {A:Around} {t:Sem α} {Q:α→Shared→Prop} {E:Value→Shared→Prop} {s:Shared} (kd:KD t) (h:wpAny M A t Q E s):wpAny M A t (fun a s'=>Q a s'∧Dicts s.heap s'.heap) (fun a s'=>E a s'∧Dicts s.heap s'.heap) s:=
 fun Γ p hΓ=>T7 t p s kd (h Γ p hΓ)
theorem KD.bind {α β:Type} {f:α→Sem β}:∀{t:Sem α},KD t→(∀a,KD (f a))→KD (t >>=f):=by
 intro t
 induction t with
 |pure a=>exact fun _ h=>h a
 |raise e=>exact fun _ _=>True.intro
 |unsupported w=>exact fun _ _=>True.intro
 |finish w=>exact fun _ _=>True.intro
 |rule t k ih=>exact fun kd h=>ih () kd h
 |«at» t k ih=>exact fun kd h=>ih () kd h
 |load a x k ih=>exact fun kd h o=>ih o (kd o) h
 |update a x g k ih=>exact fun kd h=>⟨kd.1,ih () kd.2 h⟩
 |alloc o k ih=>exact fun kd h a=>ih a (kd a) h
 |loadIfAlive a k ih=>exact fun kd h a=>ih a (kd a) h
 |point l k ih=>exact fun kd h=>ih () kd h
 |register a k ih=>exact fun kd h=>True.intro
 |fresh k ih=>exact fun kd h a=>ih a (kd a) h
 |ask k ih=>exact fun kd h a=>ih a (kd a) h
 |choose src n k ih=>exact fun kd h a=>ih a (kd a) h
 |os q l k ih=>exact fun kd h a=>ih a (kd a) h
 |call c h g l k ih=>exact fun kd h=>kd.elim
 |handled o k ih=>exact fun kd h a=>ih a (kd a) h
 |newGen c k ih=>exact fun kd h a=>ih a (kd a) h
 |genState g k ih=>exact fun kd h a=>ih a (kd a) h
 |resume g r l k ih=>exact fun kd h=>kd.elim
 |yield v g l k ih=>exact fun kd h=>True.intro
 |stack k ih=>exact fun kd h a=>ih a (kd a) h
 |fork c k ih=>exact fun kd h=>True.intro
 |thread k ih=>exact fun kd h a=>ih a (kd a) h
 |await a t b l k ih=>exact fun kd h=>True.intro
theorem E3 {α:Type} {c:Prop} [Decidable c] {a b:Sem α} (ha:KD a) (hb:KD b):KD (if c then a else b):=by split<;>assumption
theorem KG {a:Addr}:KD (load a):=fun _=>True.intro
theorem T9 {f:Array Value→Array Value} (o:Obj):(Obj.mapFields f o).dict=o.dict∧(o.isFreed=false→(Obj.mapFields f o).isFreed=false):=by
 obtain ⟨c,d,dt,sl⟩:=o
 cases dt<;>exact ⟨rfl,fun h=>h⟩
theorem Ua {v:Value}:KD (fieldsOf v):=by
 unfold fieldsOf
 split
 ·exact KD.bind KG fun o=>by split<;>exact True.intro
 ·exact True.intro
theorem Jj {v:Value} {i:Nat}:KD (field v i):=by
 unfold field
 exact KD.bind Ua fun o=>by split<;>exact True.intro
theorem KH {v x:Value} {i:Nat}:KD (setField v i x):=by
 unfold setField
 split
 ·unfold updateField
  refine KD.bind KG fun o=>?_
  split
  ·exact E3 ⟨T9,True.intro⟩ True.intro
  ·exact True.intro
 ·exact True.intro
theorem Ub {v:Value} {o:Option Addr}:KD (setFlight v o):=by
 unfold setFlight
 exact KD.bind Jj fun o=>E3 KH True.intro
theorem Uc {n:String} {vs:List Value}:KD (newFields n vs):=by
 unfold newFields newObj
 unfold newObjAsIs
 dsimp only
 split
 ·exact True.intro
 ·exact fun a=>True.intro
theorem NF:∀{l:List Env},KD (readyFrames l)
 |[]=>True.intro
 |env::outer=>by
  unfold readyFrames
  split
  ·refine KD.bind KG fun o=>E3 True.intro (KD.bind ?_ fun b=>KD.bind ?_ fun v=>KD.bind ⟨fun o=>⟨rfl,fun h=>?_⟩,True.intro⟩ fun _=>NF)
   ·unfold behindIsImport
    exact E3 True.intro (E3 True.intro (KD.bind Jj fun _=>True.intro))
   ·unfold keptBack
    split
    ·exact E3 True.intro fun _=>True.intro
    ·exact True.intro
   ·obtain ⟨c,d,dt,sl⟩:=o
    cases dt<;>exact h
  ·exact True.intro
theorem Ud {env:Env}:KD (PySem.frameOf env):=by
 unfold PySem.frameOf
 refine KD.bind (fun _=>True.intro) fun l=>KD.bind ?_ fun o=>?_
 ·unfold frameObject
  split
  ·exact True.intro
  ·exact KD.bind NF fun _=>True.intro
 ·split<;>exact True.intro
theorem Ue {f:Addr} {b:Bool}:KD (entryPlaceOf f b):=by
 unfold entryPlaceOf
 intro l
 show KD (match l.find? _ with |some (_,pos)=>_ |none=>_)
 split<;>exact True.intro
theorem Ug {e:Value} {env:Env}:KD (noteFrame e env):=by
 unfold noteFrame
 split
 ·refine KD.bind Jj fun hd=>?_
  have A4:∀f:Addr,KD (do setField e 1 (←EntryCells.newEntry hd (←PySem.frameOf env) .none (rawInt f) .none (←entryPlaceOf f (hd != .none)))):=fun f=>
   KD.bind Ud fun _=>KD.bind Ue fun _=>KD.bind Uc fun _=>KH
  refine E3 (KD.bind Jj fun x=>E3 True.intro (KD.bind KH fun _=>?_)) ?_
  ·exact A4 _
  ·exact A4 _
 ·exact True.intro
theorem Uh {e:Value} {env:Env}:KD (leaving env e):=by
 unfold leaving
 exact KD.bind Ug fun _=>Ub
open Classical in
noncomputable def blank (p:Addr→Prop) (h:Heap):Heap:=⟨h.objs.mapIdx fun i o=>if p i then {o with data:=.freed} else o,h.life⟩
theorem Jk {p:Addr→Prop} {h:Heap} {b:Addr} (hp:p b):(blank p h).get? b=none:=by
 unfold blank Heap.get?
 simp only [Array.getElem?_mapIdx]
 cases e:h.objs[b]? with
 |none=>rfl
 |some o=>simp [hp]
theorem Jl {p:Addr→Prop} {h:Heap} {b:Addr} (hp:¬p b):(blank p h).get? b=h.get? b:=by
 unfold blank Heap.get?
 simp only [Array.getElem?_mapIdx]
 cases e:h.objs[b]? with
 |none=>rfl
 |some o=>simp [hp]
theorem Ui {p:Addr→Prop} {h:Heap}:(blank p h).StaysIn h:=fun b o e=>by
 by_cases hp:p b
 ·rw [Jk hp] at e;cases e
 ·rw [Jl hp] at e;exact e
inductive KI (h0 h:Heap) (H:Hp) (a:Addr) (C:Value) (da:Option Addr):Prop where
 |mk (new:h0.get? a=none) (no:H a=none) (oe:Obj) (vs:Array Value) (a0:Value) (T:Addr) (oT:Obj) (ts:Array Value) (e1:h.get? a=some oe) (e2:oe.cls=C∧vs[0]?=some a0) (e3:oe.data=.fields vs) (e4:vs[1]?=some (.ref T)) (e5:h0.get? T=none) (e6:H T=none) (e7:T≠a) (e8:h.get? T=some oT) (e9:oT.data=.fields ts) (e10:ts[3]?=some .none) (e11:oe.dict=da):KI h0 h H a C da
abbrev Hv (n:Str):Value:=.str n 0
inductive Ay (P:Program) (w:World) (K:PySem.W.Frag) (outer:List Env) (H:Hp) (s:Shared) (E:XK) (e:Value) (s':Shared):Prop where
 |mk (a C:Addr) (n:Str) (da:Option Addr) (H':Hp) (ee:e=.ref a) (os:s'.os=s.os) (bare:AllBare s'.gens) (un:Un (frs outer) [] H H' s.heap s'.heap) (hok:HOk P w H' s'.heap) (fly:KI s.heap s'.heap H' a (.ref C) da) (nm:PySem.W.nsIn K mainGlobals n=some (some (.ref C))) (q:E (Hv n) da H'):Ay P w K outer H s E e s'
theorem NG {h base:Heap} {p:Addr→Prop}:∀{l:List Env},h.FunFrames base l→(∀b∈frs l,p b)→h.FunFrames (blank p h) l
 |[],_,_=>trivial
 |env::rest,⟨k,⟨L,o,hf,_,ho,hd⟩,r⟩,hp=>⟨k,⟨L,o,hf,Jk (hp L (by unfold frs;rw [F7,hf];exact AI)),ho,hd⟩,
  NG r fun b hb=>hp b (by
   unfold frs at hb ⊢
   rw [F7,hf]
   exact AU _ hb)⟩
theorem Uj {P:Program} {w:World} {H:Hp} {h:Heap} {a:Addr} {o:HO} (x:ObjOk P w H h a o):∃ob,h.get? a=some ob:=by
 cases o with
 |lst xs=>obtain ⟨_,_,_,_,e⟩:=x;exact ⟨_,e⟩
 |tup xs=>obtain ⟨_,_,_,⟨_,e,_⟩,_⟩:=x;exact ⟨_,e⟩
 |own y=>exact x
 |xd fs=>obtain ⟨_,⟨_,_,_,e,_⟩,_⟩:=x;exact ⟨_,e⟩
 |frz ob u=>obtain ⟨e,_⟩:=x;exact ⟨_,e⟩
 |tbl ps=>exact ⟨_,x⟩
 |ext φ=>exact x.2.1
 |mex φ=>exact x.2.1
 |dct φ=>exact x.2.1
structure Lv (X:Cx) (E:XK):Prop where
 xe:∀e s',wpAny (model X.prog X.w) X.A (leaving X.env e) (fun _ s''=>Ay X.prog X.w X.K X.outer X.H₀ X.s₀ E e s'') (fun e' s''=>Ay X.prog X.w X.K X.outer X.H₀ X.s₀ E e' s'') s'→X.xe e s'
 stk:X.stack=X.env::X.outer
 fr:X.env.frame=some X.env.locals
 ex:X.ex=[]
theorem Uk {P:Program} {w:World} {K:PySem.W.Frag} {mg:Str→Option Value} {base:Heap} {N:List Str} {qual:Str} {scope:Scope} {f:Addr} {cd:Value} {A:Around} {outer:List Env} {s:Shared} {H:Hp} {E:XK}:Lv (AK (Ay P w K) P w K mg base N qual scope f cd A outer s H E) E:=
 ⟨fun _ _ h=>h,rfl,rfl,rfl⟩
section
variable {X:Cx} {E:XK}
theorem Lv.frs (lv:Lv X E):L2.frs X.stack=X.env.locals::X.fs:=by
 rw [lv.stk];unfold L2.frs;rw [F7,lv.fr];rfl
theorem Ul {pins:List (Addr×Obj)} {σ:L2.St} {H':Hp} {s':Shared} {h':Heap} {a T:Addr} {C:Value} (lv:Lv X E)
 (I:Inv X pins σ H' s')
 (na:X.s₀.heap.get? a=none) (nT:X.s₀.heap.get? T=none) (ha:H' a=none) (hT:H' T=none) {a0:Value}
 (L:Heap.LeftW (blank (fun b=>b=a∨b=T∨b∈frs X.stack) s'.heap) X.stack a C a0 s'.heap h') {da:Option Addr} {oa:Obj} (ea:s'.heap.get? a=some oa) (ed:oa.dict=da) (dd:Dicts s'.heap h'):
 Un X.fs [] X.H₀ H' X.s₀.heap h'∧HOk X.prog X.w H' h'∧KI X.s₀.heap h' H' a C da:=by
 obtain ⟨stay,ff,⟨oe,vs,T2,oT,ts,e1,e2,e3,e4,e5,e6,e7,e8,e9⟩,ups⟩:=L
 have e11:oe.dict=da:=by
  obtain ⟨o',q1,q2⟩:=dd a oa ea
  rw [e1] at q1
  cases q1
  exact q2.trans ed
 have B:Un X.fs [] X.H₀ H' X.s₀.heap s'.heap:=by have:=I.base;rw [lv.ex] at this;exact this
 have stk:=I.stack
 have frNone:∀b∈frs X.stack,H' b=none:=fun b hb=>I.stkFree b hb
 have keepOf:∀b o,¬(b=a∨b=T∨b∈frs X.stack)→s'.heap.get? b=some o→h'.get? b=some o:=fun b o hb e=>stay b o (by rw [Jl hb];exact e)
 have notL:∀b o,X.s₀.heap.get? b=some o→b∉X.fs→b∉frs X.stack:=fun b o e hb z=>by
  rw [lv.frs] at z
  rcases qa9.mp z with z |z
  ·have:=AA e
   rw [z] at this
   exact absurd (Bo this I.ok.above) (Dd _)
  ·exact hb z
 have old:∀b o,X.s₀.heap.get? b=some o→b≠a∧b≠T:=fun b o e=>⟨fun z=>(by rw [z,na] at e;cases e),fun z=>(by rw [z,nT] at e;cases e)⟩
 have noFields:∀b,b∈frs X.stack→∃o,s'.heap.get? b=some o∧∀vs,o.data≠.fields vs:=fun b hb=>(stk.mem hb).2
 have any:∀b o,X.s₀.heap.get? b=some o→s'.heap.get? b≠none→∃o',h'.get? b=some o':=fun b o e hn=>by
  cases e':s'.heap.get? b with
  |none=>exact absurd e' hn
  |some o'=>
   by_cases hb:b∈frs X.stack
   ·obtain ⟨o2,h2,d2⟩:=noFields b hb
    obtain ⟨sl,h3⟩:=ups b o2 h2 d2
    exact ⟨_,h3⟩
   ·exact ⟨o',keepOf b o' (fun z=>by rcases z with z |z |z;exact (old b o e).1 z;exact (old b o e).2 z;exact hb z) e'⟩
 refine ⟨⟨fun b o e n hb hx=>?_,fun b o e n hb hx=>?_,B.free,fun b o e hx=>?_,B.tups,B.frzs,B.tbls⟩,fun b o e=>?_,na,ha,oe,vs,a0,T2,oT,ts,e1,e2,e3,e4,?_,?_,e6,e7,e8,e9,e11⟩
 ·exact keepOf b o (fun z=>by rcases z with z |z |z;exact (old b o e).1 z;exact (old b o e).2 z;exact notL b o e hb z) (B.keep b o e n hb hx)
 ·obtain ⟨sl,h1⟩:=B.slot b o e n hb hx
  have hb':b∈frs X.stack:=by rw [lv.frs];exact AU _ hb
  obtain ⟨o2,h2,d2⟩:=noFields b hb'
  rw [h1] at h2
  cases h2
  obtain ⟨sl2,h3⟩:=ups b _ h1 d2
  exact ⟨sl2,h3⟩
 ·obtain ⟨o',h1⟩:=B.there b o e hx
  exact any b o e (by rw [h1];simp)
 ·refine (I.hok b o e).stay (fun c u hc q=>keepOf c u (fun z=>?_) q) (fun _ q=>q) fun _ _ q=>q
  have hc':H' c≠none:=by
   rcases hc with rfl |hc
   ·rw [e];simp
   ·rw [hc];simp
  rcases z with z |z |z
  ·exact hc' (z ▸ ha)
  ·exact hc' (z ▸ hT)
  ·exact hc' (frNone c z)
 ·cases q:X.s₀.heap.get? T2 with
  |none=>rfl
  |some o=>
   exfalso
   obtain ⟨o',h1⟩:=B.there T2 o q (by simp)
   by_cases hb:T2∈frs X.stack
   ·obtain ⟨o2,h2,d2⟩:=noFields T2 hb
    obtain ⟨sl,h3⟩:=ups T2 o2 h2 d2
    rw [h3] at e7
    cases e7
    exact d2 _ e8
   ·rw [Jl (fun z=>by rcases z with z |z |z;exact (old T2 o q).1 z;exact (old T2 o q).2 z;exact hb z),h1] at e5
    cases e5
 ·cases q:H' T2 with
  |none=>rfl
  |some o=>
   exfalso
   by_cases hb:T2=a∨T2=T∨T2∈frs X.stack
   ·rcases hb with z |z |z
    ·rw [z,ha] at q;cases q
    ·rw [z,hT] at q;cases q
    ·rw [frNone T2 z] at q;cases q
   ·rw [Jl hb] at e5
    obtain ⟨ob,eb⟩:=Uj (I.hok T2 o q)
    rw [eb] at e5
    cases e5
theorem Lv.older (lv:Lv X E) {pins:List (Addr×Obj)} {σ:L2.St} {H1:Hp} {s1:Shared} (I:Inv X pins σ H1 s1):∀b,s1.heap.get? b=none→X.s₀.heap.get? b=none:=fun b hb=>by
 cases q:X.s₀.heap.get? b with
 |none=>rfl
 |some o=>
  obtain ⟨o',h1⟩:=I.base.there b o q (by rw [lv.ex];simp)
  rw [hb] at h1;cases h1
theorem Um (lv:Lv X E):Gi (Ay X.prog X.w X.K) X E:=by
 rintro pins σ H1 s1 e s' I ⟨a,C,n,da,H',ee,os,bare,un,hok,fly,nm,q⟩
 subst ee
 have I':Inv X pins σ H' s':=I.call' os un hok bare (fun b hb=>absurd hb (by simp))
 obtain ⟨fnew,fno,oe,vs,a0,T,oT,ts,e1,e2,e3,e4,e5,e6,e7,e8,e9,e10,e11⟩:=fly
 have fro:X.A.frames=some (X.env::X.outer):=by rw [←lv.stk];exact I'.ok.frames
 have stk:s'.heap.FunFrames X.base (X.env::X.outer):=by have:=I'.stack;rw [lv.stk] at this;exact this
 have run:=T8 Uh (wpAny_leaving_nextW (M:=model X.prog X.w) (E:=fun _ _=>False) (Q:=fun _ s''=>∃h',s''={s' with heap:=h'}∧Heap.LeftW (blank (fun b=>b=a∨b=T∨b∈frs X.stack) s'.heap) (X.env::X.outer) a (.ref C) a0 s'.heap h') (base:=blank (fun b=>b=a∨b=T∨b∈frs X.stack) s'.heap) (cls:=.ref C) (a0:=a0) fro (NG stk fun b hb=>.inr (.inr (by rw [lv.stk];exact hb))) lv.fr
  ⟨oe,vs,T,oT,ts,e1,e2,e3,e4,Jk (.inr (.inl rfl)),e7,e8,e9,e10⟩ Ui (Jk (.inl rfl)) fun h' L=>⟨h',rfl,L⟩)
 refine lv.xe _ _ (wpAny_mono run (fun _ s'' z=>?_) fun _ _ z=>z.1.elim)
 obtain ⟨⟨h',rfl,L⟩,D⟩:=z
 obtain ⟨u1,u2,u3⟩:=Ul lv I' (lv.older I a fnew) (lv.older I T e5) fno e6 (by rw [lv.stk] at *;exact L) e1 e11 D
 exact ⟨a,C,n,da,H',rfl,I'.os,bare,u1,u2,u3,nm,q⟩
end
section
variable {P:Program} {w:World} {K:PySem.W.Frag} {mg:Str→Option Value} {base:Heap} {N:List Str} {qual:Str} {scope:Scope} {f:Addr} {cd:Value} {A:Around} {outer:List Env} {s:Shared} {H:Hp} {E:XK}
theorem Az:Gi (Ay P w K) (AK (Ay P w K) P w K mg base N qual scope f cd A outer s H E) E:=Um Uk
end
inductive NH (h:Heap) (C:Addr) (bmB:List Value) (newId:String):Prop where
 |mk (bm:List Value) (N:Addr) (nm q:Str) (bs:List Value) (hdct:Bool) (sn:List Str) (sub:List Value) (ab:Bool) (col:Option Bool) (dd:Option Addr) (k0 k1 k2 k3 k5:Option Value) (mN:Str→Option Value)
  (hC:h.get? C=some (excClassObj nm q C N bs bm hdct sn sub ab col dd k0 k1 k2 k3 k5 newId)) (hN:h.Ns N mN) (hni:mN "__init__"=none) (T:OwnTail h bmB bm):NH h C bmB newId
def Uo (K:PySem.W.Frag) (C:Addr) (bmB:List Value) (newId:String):Prop:=∀h:Heap,K.In h→NH h C bmB newId
def clsOf:Data→Option ClassData
 |.cls c=>some c
 |_=>none
inductive Up {α:Type} (l:List α):Prop where
 |mk (a b c d e f:α) (q:l=[a,b,c,d,e,f]):Up l
def Uq (K:PySem.W.Frag) (C:Addr) (bmB:List Value) (newId:String) (o:Obj) (cd:ClassData):Bool:=
 decide (o.cls=.type "type")&&(decide (cd.mro=.ref C::cd.mro.tail)&&(!cd.hasDel&&(PySem.W.tailIn K bmB cd.mro.tail&&(PySem.W.nsOkIn K cd.ns&&(PySem.W.nsIn K cd.ns "__init__"==some none&&(decide (o.slots.toList.length=6)&&decide (o.slots.toList[4]?=some (some (.builtin newId)))))))))
def Ur (K:PySem.W.Frag) (C:Addr) (bmB:List Value) (newId:String):Bool:=match K.lookup C with
 |some o=>(match clsOf o.data with
  |some cd=>Uq K C bmB newId o cd
  |none=>false)
 |none=>false
abbrev Jm:List Value:=[.type "ValueError",.type "Exception",.type "BaseException",.type "object"]
def Zaf (X:Cx) (E:XK):Prop:=∀(pins:List (Addr×Obj)) (σ:L2.St) (H1:Hp) (s1:Shared) (h':Heap) (a C:Addr) (n:Str) (vs:List Value),Inv X pins σ H1 s1→Heap.MadeExcOf s1.heap h' a (.ref C) vs→PySem.W.nsIn X.K mainGlobals n=some (some (.ref C))→E (Hv n) none H1→X.xe (.ref a) {s1 with heap:=h'}
section
variable {X:Cx} {E:XK}
def NI (n:Str) (fa:MA):MS:=fun ρ h=>(fa ρ h).bind fun xs h1=>if xs.length≤sizeLine then .err (Hv n) [] h1 else .stuck
inductive E4 (K:PySem.W.Frag) (F:List D→HD→Out D) (vs:List V) (H:Hp) (Q:VK) (E:XK):Prop where
 |mk (m:List Addr) (ds:List D) (h:HD) (hr:HR K m h H) (r:DVs K m H ds vs) (p:Post K (rD K) m H E Q (F ds h)):E4 K F vs H Q E
theorem Fm {P:Program} {w:World} {K:PySem.W.Frag} {X:Cx}:Gi (Ay P w K) X E0:=fun _ _ _ _ _ _ _ z2_=>by obtain ⟨_,_,_,_,_,_,_,_,_,_,_,_,q⟩:=z2_;exact (q.elim)
theorem NJ {K:PySem.W.Frag} {n:Nat} {F:List D→HD→Out D} (ar:Ar n F) {vs:List V} {H:Hp} {Q:VK} {E':XK} (h:E4 K F vs H Q E'):vs.length=n:=by
 obtain ⟨m,ds,hd,hr,r,p⟩:=h
 rw [←r.len]
 by_cases e:ds.length=n
 ·exact e
 ·rw [ar ds hd e] at p;exact p.elim
structure CaE (P:Program) (w:World) (K:PySem.W.Frag) (mg:Str→Option Value) (base:Heap) (x:Str) (k:Nat) (F:List D→HD→Out D):Prop where
 ex:∃(f:Addr) (fd:FuncData) (ps:List Str),FnOk P w K mg base (Ay P w K) k f fd ps (E4 K F)∧Binds K fd ps []∧mg x=some (.ref f)∧PySem.W.keepIn K (.ref f)=true
theorem Av {k k':Nat} {F:List D→HD→Out D} {fa:MA} {x:Str} {p pos:Pos} {e:Expr} {es:List Expr} (C:CaE X.prog X.w X.K X.mg X.base x k F) (hr:Room k' X.A) (hx:Gi (Ay X.prog X.w X.K) X E) (ha:Dh X E (e::es) fa) (hk:k≤k':=by decide) (hg:Gl X x:=by rfl)
 (hdb:(x==("__debug__":Str))=false:=by decide) (he:starEach (e::es) X.env=(false,eval e X.env)::starEach es X.env:=by rfl) (hpl:(backTo pos (starEach es X.env)).any (·.1)=false:=by rfl):
 Ev X E (.Call (.Name x p) (e::es) [] pos) (Af F fa):=by
 obtain ⟨f,fd,ps,G,hb,hm,hkp⟩:=C.ex
 exact BM (RR (E:=E) G (hr.mono hk) hg hm hkp hb .nil hx ha hdb he hpl) fun σ H Q z3_=>by obtain ⟨m,ρ,hd,hr,er,p⟩:=z3_;exact (⟨m,ρ,hd,hr,er,Post.bind p fun xs h1 vs m1 H1 e1 p1 k1 hr1 r1 q1=>by
  rw [EJ]
  exact ⟨m1,xs,h1,hr1,r1,q1⟩⟩)
theorem Bg {P:Program} {w:World} {K:PySem.W.Frag} {mg:Str→Option Value} {base:Heap} {x qual:Str} {st:Stmt} {f:Addr} {fd:FuncData} {N ps:List Str} {k:Nat} {F:List D→HD→Out D} {g:MS} (Fn:Fun K x qual st f fd) (S:A1 N ps (defScope st)) (ar:Ar ps.length F)
 (hg:∀ds h,ds.length=ps.length→F ds h=Ao N.length g ds h)
 (hbody:∀(cdv:Value) (A:Around) (outer:List Env) (s:Shared) (H:Hp) (E:XK),Room k (A.deeper (envOfC qual (defScope st) s.heap.objs.size f cdv))→AR (AK (Ay P w K) P w K mg base N qual (defScope st) f cdv A outer s H E) E (defBody st) g):FnOk P w K mg base (Ay P w K) (k+1) f fd ps (E4 K F):=by
 obtain ⟨oc,od,kV,doc,pm,an,cdv,ct,osl,rfl,lk,hcd⟩:=Fn.ex
 refine RT lk hcd S (fun vs H Q E h=>NJ ar h) fun A outer s H vs Q E hr h=>?_
 refine ⟨_,hbody cdv A outer s H E hr,?_⟩
 have hl:=NJ ar h
 obtain ⟨m,ds,hd,hr1,r,p⟩:=h
 have hld:ds.length=ps.length:=by rw [r.len];exact hl
 refine ⟨m,ds.map some++List.replicate (N.length - ds.length) none,hd,hr1,ER.start r,?_⟩
 rw [hg ds hd hld] at p
 unfold Ao at p
 cases o:g (ds.map some++List.replicate (N.length - ds.length) none) hd with
 |stuck=>rw [o] at p;exact p
 |err C fs h1=>rw [o] at p;exact p
 |ok a h1=>
  rw [o] at p
  obtain ⟨fl,ρ1⟩:=a
  intro m1 H1 p1 k1 hr1
  cases fl with
  |nx=>exact fun σ er=>p .non m1 H1 p1 k1 hr1 (by simp [rD,DV])
  |bk=>exact False.elim p
  |ct=>exact False.elim p
  |rt d=>exact fun v rv=>p v m1 H1 p1 k1 hr1 rv
end
theorem Dp {P:Program} {w:World} {K:PySem.W.Frag} {mg:Str→Option Value} {base:Heap} {N:List Str} {qual:Str} {scope:Scope} {f:Addr} {cd:Value} {A:Around} {outer:List Env} {s:Shared} {H:Hp} {E:XK}:
 PassesOwn (model P w) (AK (Ay P w K) P w K mg base N qual scope f cd A outer s H E).A (AK (Ay P w K) P w K mg base N qual scope f cd A outer s H E).env (AK (Ay P w K) P w K mg base N qual scope f cd A outer s H E).xe:=by
 passes_own
section
variable {X:Cx} {E:XK}
abbrev MO:=Ai→HD→Out (Option Int)
abbrev Jn (X:Cx) (E:XK) (e:Option Expr) (f:MO):Prop:=PO X e (tM X.K (fun _ _ a b=>a=b) E f)
def GJ:MO:=fun _ h=>.ok none h
def Fo (f:ME):MO:=fun ρ h=>(f ρ h).bind fun x h1=>match x with
 |.int i=>.ok (some i) h1
 |_=>.stuck
theorem NK {e:Option Expr} {t t':TO} (h:PO X e t) (i:∀σ H Q,t' σ H Q→t σ H Q):PO X e t':=fun pins s σ H Q I q=>h pins s σ H Q I (i σ H Q q)
theorem NL:Jn X E none GJ:=NK R3 fun σ H Q z1_=>by obtain ⟨m,ρ,h,hr,er,p⟩:=z1_;exact (p none m H (Aw _) (.refl _) hr rfl)
theorem NM {e:Expr} {f:ME} (he:Ev X E e f):Jn X E (some e) (Fo f):=NK (R4 he) fun σ H Q z2_=>by obtain ⟨m,ρ,h,hr,er,p⟩:=z2_;exact (⟨m,ρ,h,hr,er,Post.bind p fun x h1 v m1 H1 eo p1 k1 hr1 r1 q1=>by
 clear eo
 split at q1
 ·rename_i i
  simp only [rD,DV] at r1
  exact ⟨i,r1,q1 (some i) m1 H1 (Aw _) (.refl _) hr1 rfl⟩
 ·exact q1.elim⟩)
def cutD (xs:List D) (lo hi:Option Int):List D:=(xs.drop (HT.sIx xs.length 0 lo)).take (HT.sIx xs.length xs.length hi - HT.sIx xs.length 0 lo)
def NO (x:D) (lo hi:Option Int) (h:HD):Out D:=match x with
 |.tup xs=>if HT.sIx xs.length 0 lo=0∧HT.sIx xs.length xs.length hi=xs.length then .stuck else .ok (.tup (cutD xs lo hi)) h
 |_=>.stuck
def NP (f:ME) (lo hi:MO):ME:=fun ρ h=>(f ρ h).bind fun x h1=>(lo ρ h1).bind fun l h2=>(hi ρ h2).bind fun u h3=>NO x l u h3
theorem DVs.cut {K:PySem.W.Frag} {m:List Addr} {H:Hp} {ds:List D} {vs:List V} (r:DVs K m H ds vs) (lo hi:Option Int):DVs K m H (cutD ds lo hi) (Gj vs lo hi):=by
 unfold cutD Gj
 rw [r.len]
 exact (r.drop _).take _
def NQ (o i x y:D) (ρ:Ai) (h:HD):Out (Fl×Ai):=match x,y with
 |.int a,.int b=>GF o i (.int (a+b)) h (.ok (.nx,ρ) h)
 |_,_=>.stuck
def NR (o i:D) (h:HD):Out D:=match o,i with
 |.loc l,.int n=>if 0≤n then (match h[l]? with
  |some (.lst ds)=>(match ds[n.toNat]? with
   |some d=>.ok d h
   |none=>.stuck)
  |_=>.stuck) else .stuck
 |_,_=>.stuck
def NS (fo fi fv:ME):MS:=fun ρ h=>(fo ρ h).bind fun o h1=>(fi ρ h1).bind fun i h2=>(NR o i h2).bind fun x h3=>(fv ρ h3).bind fun y h4=>NQ o i x y ρ h4
end
theorem vals_ints:∀{ns:List Int} {its:List Value},Vals (ns.map V.int) its→∃ys:List (Int×Tok),its=ys.map (fun p=>Value.int p.1 p.2)∧ys.map (·.1)=ns
 |[],its,r=>by cases r;exact ⟨[],rfl,rfl⟩
 |n::ns,its,r=>by
  cases r with
  |cons r1 r2=>
   obtain ⟨t,rfl⟩:=r1
   obtain ⟨ys,rfl,e⟩:=vals_ints r2
   exact ⟨(n,t)::ys,rfl,by simp [e]⟩
section
variable {X:Cx}
def Us:List Int→Int
 |[]=>0
 |n::ns=>ns.foldl min n
def NT (f:List Int→Int):D→HD→Out D:=fun x h=>match x with
 |.loc l=>match h[l]? with
  |some (.lst ds)=>match AZ (ds.map Km) with
   |some ns=>if ns=[] then .stuck else .ok (.int (f ns)) h
   |none=>.stuck
  |_=>.stuck
 |_=>.stuck
end
def NU (K:PySem.W.Frag) (t:Addr):It:=⟨fun i H=>∃xs,SqL K H t xs∧i<xs.length,fun i H x H'=>∃p v,H p=none∧x=.ref p∧(∀xs:List V,SqL K H t xs→xs[i]?=some v)∧H'=Am H p (.tup [.int i,v]),fun i H=>∃xs,SqL K H t xs∧i=xs.length⟩
theorem Ut {P:Program} {w:World} {K:PySem.W.Frag} {elts:List Expr} {kt:Nat} {tpos:Pos} (e it t:Addr) (hei:e≠it) (hte:t≠e) (hti:t≠it):
 EL P w K (.Tuple elts kt tpos) (NU K t) [e,it] e (fun i h=>(∃old,IsEnum h e it i old)∧h.IsListIter it t i) where
 mem:=by simp
 obj:=fun i h st b hb=>by
  obtain ⟨⟨old,h1⟩,o,h2,hc,hd⟩:=st
  rcases qa9.mp hb with z |z
  ·subst z;exact ⟨_,h1,fun v z=>by cases z⟩
  ·rw [qaD] at z
   subst z
   exact ⟨o,h2,fun v z=>by rw [hd] at z;cases z⟩
 keep:=fun i h h' st k=>by
  obtain ⟨⟨old,h1⟩,h2⟩:=st
  exact ⟨⟨old,k e (by simp) _ h1⟩,h2.at fun o z=>k it (by simp) o z⟩
 item:=by
  intro X hP hw hK hc i pins s σ H E I hf st hg
  subst hP hw hK
  obtain ⟨⟨old,he⟩,hit⟩:=st
  obtain ⟨xs,hq,hi⟩:=hg
  obtain ⟨its,rv,p,hz⟩:=I.list hq
  have hT:s.heap.IsList t its.toArray:=p.isList
  have hl:=rv.length
  obtain ⟨e0,e1,e2,e3,e4,e5⟩:=hf e (by simp)
  obtain ⟨i0,i1,i2,i3,i4,i5⟩:=hf it (by simp)
  have hx:xs[i]?=some xs[i]:=Br hi
  refine wpAny_pyNext_enum_itemD (Draws.list (A:=X.A.in1) (I.ok.hd hc) it t hti its.toArray) he ⟨hit,hT⟩ (by rw [A7];omega) hei (by simp [hei,Ne.symm hte]) fun x h1 tk hPx ho hs1 hTup hsz hk=>?_
  obtain ⟨u,hu,ru⟩:=rv.get hx
  have hux:u=x:=by
   have:its[i]?=some x:=by simpa using hPx
   rw [hu] at this
   exact Option.some.inj this
  subst hux
  refine ⟨.ref s.heap.objs.size,rfl,wpAny_letOwnedTupleGo_enum ho fun h2 he2 sb=>?_⟩
  have hfr:H s.heap.objs.size=none:=I.hok.fresh (AJ _)
  have kk:∀b o,b∉[e,it]→s.heap.get? b=some o→h2.get? b=some o:=fun b o hb z=>by
   have n1:b≠e:=fun q=>hb (by simp [q])
   have n2:b≠it:=fun q=>hb (by simp [q])
   exact (sb.2 b n1).trans (hk b o n1 n2 z)
  have na:s.heap.objs.size≠e:=Gz (AA he)
  have hnew:h2.get? s.heap.objs.size=some {cls:=.type "tuple",data:=.seq #[.int i tk,u]}:=(sb.2 _ na).trans hTup
  have ntr:∀b w,H b=some w→b∉[e,it]:=fun b w z hb=>by
   rcases qa9.mp hb with q |q
   ·rw [q,e0] at z;cases z
   ·rw [qaD.mp q,i0] at z;cases z
  have nal:∀b o,s.heap.get? b=some o→b≠s.heap.objs.size:=fun b o z=>BE (AA z)
  have it2:h2.IsListIter it t (i+1):=by
   obtain ⟨o,q,r⟩:=hs1.1
   exact ⟨o,(sb.2 it (Ne.symm hei)).trans q,r⟩
  refine ⟨.ref s.heap.objs.size,Am H s.heap.objs.size (.tup [.int i,xs[i]]),?_,rfl,⟨s.heap.objs.size,xs[i],hfr,rfl,fun ys hy=>by rw [I.list_inj hy hq];exact hx,rfl⟩,⟨⟨u,he2⟩,it2⟩,fun b hb=>?_⟩
  ·show Inv X pins σ _ {s with heap:=h2,gens:=s.gens,drawn:=s.drawn,toks:=tk+1}
   refine I.step (g':=s.gens) (d':=s.drawn) (t':=tk+1) (h':=h2) (ch:=[e,it]) (fun b hb=>?_) (fun b o _ _ hc z _=>kk b o hc z) (fun b o _ _ hc z _=>⟨o.slots,kk b o hc z⟩) (fun b o _ z n=>by rw [AC (nal b o z)];exact n)
    (fun b o hc z=>⟨o,kk b o hc z⟩) (fun b ys z=>by rw [AC (BL z hfr)];exact z) (fun b o u z=>by rw [AC (BL z hfr)];exact z) (fun b ps z=>⟨#[],by rw [AC (BL z hfr),z];simp⟩) (fun m hm=>?_) (fun b w z=>?_) I.bare
   ·rcases qa9.mp hb with q |q
    ·subst q;exact ⟨e3,e1,e4,e5⟩
    ·rw [qaD] at q;subst q;exact ⟨i3,i1,i4,i5⟩
   ·obtain ⟨o,es,ep,q,r⟩:=hm
    exact ⟨o,es,ep,kk _ o (by simp [Ne.symm e1,Ne.symm i1]) q,r⟩
   ·by_cases hb:b=s.heap.objs.size
    ·subst hb
     rw [Cf] at z
     cases z
     exact ⟨by simp only [GZ,Io];rw [sizeLine_eq];decide,[.int i tk,u],.cons ⟨tk,rfl⟩ (.cons ru .nil),⟨_,hnew,rfl,0,rfl⟩,fun o e=>by rw [hnew] at e;cases e;rfl⟩
    ·rw [AC hb] at z
     refine (I.hok b w z).stay (fun c v hc q=>kk c v ?_ q) (fun c q=>by rw [AC (BL q hfr)];exact q) fun c ys q=>by rw [AC (BL q hfr)];exact q
     rcases hc with rfl |hc
     ·exact ntr c _ z
     ·exact ntr c _ hc
  ·have nb:b≠s.heap.objs.size:=by
    rcases qa9.mp hb with q |q
    ·rw [q];exact na.symm
    ·rw [qaD.mp q]
     obtain ⟨o,z,_⟩:=hit
     exact nal _ _ z
   rw [AC nb]
   exact (hf b hb).1
 done:=by
  intro X hP hw hK hc i pins s σ H E I hf st hg
  subst hP hw hK
  obtain ⟨⟨old,he⟩,hit⟩:=st
  obtain ⟨xs,hq,hi⟩:=hg
  obtain ⟨its,rv,p,hz⟩:=I.list hq
  have hT:s.heap.IsList t its.toArray:=p.isList
  have hl:=rv.length
  obtain ⟨i0,i1,i2,i3,i4,i5⟩:=hf it (by simp)
  have hin:i=its.toArray.size:=by rw [A7];omega
  refine wpAny_pyNext_enum_endD (Draws.list (A:=X.A.in1) (I.ok.hd hc) it t hti its.toArray) he (hin ▸ ⟨hit,hT⟩) fun h' eb=>⟨rfl,I.turned (t':=s.toks) (fun b o hb z=>eb b o hb z) i0 i1 i3 i4 i5⟩
 self:=fun A i s Q E st h=>by
  obtain ⟨⟨old,he⟩,_⟩:=st
  exact wpAny_pyIter_enum he h
section
variable {X:Cx} {E:XK}
theorem Uu {elts:List Expr} {kt:Nat} {tpos p pos:Pos} {a:Expr} {ta:TA} (hg:Gl X "enumerate") (hm:X.mg "enumerate"=none) (ha:PA X [a] ta) (hs:starEach [a] X.env=[(false,eval a X.env)]:=by rfl):
 PI X (.Tuple elts kt tpos) (.Call (.Name "enumerate" p) [a] [] pos) (fun σ H R=>ta σ H fun vs H1=>(∃t xs,vs=[.ref t]∧SqT X.K H1 t xs∧R (Nk X.K t xs) H1)∨∃t xs,vs=[.ref t]∧SqL X.K H1 t xs∧R (NU X.K t) H1):=by
 intro pins s σ H R I h
 refine Call_ (Ge I hg hm boot_enumerate (PyProof.Rows.callWith_type1 (An (ha pos pins s σ H _ I h) fun us s1 z1_=>?_) hs rfl))
 obtain ⟨vs,H1,I1,r1,q1⟩:=z1_
 rcases q1 with ⟨t,xs,e,hq,q⟩ |⟨t,xs,e,hq,q⟩
 ·subst e
  cases r1 with
  |cons r rr=>
   cases rr
   cases r
   obtain ⟨its,rv,p,hz⟩:=I1.tuple hq
   have hT:s1.heap.IsTuple t its.toArray:=p
   have hlt:t<s1.heap.objs.size:=p.lt
   refine TB hT fun h' he hit hsz hk=>wpAny_pyIter_enum (s:={s1 with heap:=h'}) he ?_
   have I2:Inv X pins σ H1 {s1 with heap:=h'}:=I1.kept (t':=s1.toks) hk
   refine ⟨s1.heap.objs.size+1,[s1.heap.objs.size+1,s1.heap.objs.size],_,_,H1,rfl,I2,TC (s1.heap.objs.size+1) s1.heap.objs.size t (Nat.succ_ne_self _) (BE (Nat.lt_succ_of_lt hlt)) (BE hlt) xs,⟨⟨.none,he⟩,hit⟩,fun b hb=>?_,q⟩
   rcases qa9.mp hb with z |z
   ·subst z;exact I1.fpOk (Nat.le_succ _) (I1.hok.fresh (Nat.le_succ _))
   ·rw [qaD] at z;subst z;exact I1.fpOk (AJ _) (I1.hok.fresh (AJ _))
 ·subst e
  cases r1 with
  |cons r rr=>
   cases rr
   cases r
   obtain ⟨its,rv,p,hz⟩:=I1.list hq
   have hT:s1.heap.IsList t its.toArray:=p.isList
   have hlt:t<s1.heap.objs.size:=by obtain ⟨_,z,_⟩:=hT;exact AA z
   refine call_enumerate_list hT fun h' he hit hsz hk=>wpAny_pyIter_enum (s:={s1 with heap:=h'}) he ?_
   have I2:Inv X pins σ H1 {s1 with heap:=h'}:=I1.kept (t':=s1.toks) hk
   refine ⟨s1.heap.objs.size+1,[s1.heap.objs.size+1,s1.heap.objs.size],_,_,H1,rfl,I2,Ut (s1.heap.objs.size+1) s1.heap.objs.size t (Nat.succ_ne_self _) (BE (Nat.lt_succ_of_lt hlt)) (BE hlt),⟨⟨.none,he⟩,hit⟩,fun b hb=>?_,q⟩
   rcases qa9.mp hb with z |z
   ·subst z;exact I1.fpOk (Nat.le_succ _) (I1.hok.fresh (Nat.le_succ _))
   ·rw [qaD] at z;subst z;exact I1.fpOk (AJ _) (I1.hok.fresh (AJ _))
def Hw:List D→HD→Out (List D×AW):=fun ds h=>match ds with
 |[.tup xs]=>.ok (DG xs,[]) h
 |[.loc l]=>match h[l]? with
  |some (.lst xs)=>.ok (DG xs,[(l,xs)]) h
  |_=>.stuck
 |_=>.stuck
def Fp (fa:MA):MI:=fun ρ h=>(fa ρ h).bind Hw
theorem Jo {elts:List Expr} {kt:Nat} {tpos p pos:Pos} {a:Expr} {fa:MA} (hg:Gl X "enumerate") (hm:X.mg "enumerate"=none) (ha:Dh X E [a] fa) (hs:starEach [a] X.env=[(false,eval a X.env)]:=by rfl):
 Ew X E (.Tuple elts kt tpos) (.Call (.Name "enumerate" p) [a] [] pos) (Fp fa):=
 IY (Uu hg hm ha hs) fun σ H R ⟨m,ρ,h,hr,er,p⟩=>⟨m,ρ,h,hr,er,Post.bind p fun x h1 v m1 H1 eo p1 k1 hr1 r1 q1=>by
  clear eo
  unfold Hw at q1
  split at q1
  ·rename_i xs
   simp only [EO,DVs,DV] at r1
   obtain ⟨v,w,rfl,⟨a,vs,rfl,ha,dv⟩,rfl⟩:=r1
   refine .inl ⟨a,vs,rfl,SqT.of ha,q1 _ m1 H1 (Aw _) (.refl _) hr1 fun i m2 h2 H2 p2 k2 hr2 _=>⟨fun hi=>?_,fun hi=>?_⟩⟩
   ·have hi':i<xs.length:=by simpa [DG] using hi
    refine ⟨⟨by rw [←dv.len];exact hi',SqT.of (k2 _ _ ha rfl)⟩,fun y H3 ⟨pp,vv,hp,ey,ev,eH⟩=>?_⟩
    subst ey eH
    have hd:xs[i]?=some xs[i]:=Br hi'
    obtain ⟨v2,e2,r2⟩:=dv.get hd
    rw [ev] at e2
    cases e2
    refine ⟨.new hp,hr2.new hp,.tup [.int i,xs[i]],?_,?_⟩
    ·simp [DG,hd]
    ·simp only [DV]
     exact ⟨pp,_,rfl,Cf,.cons (by simp [DV]) (.cons (DV.keep p2 (k2.trans (.new hp)) r2) .nil)⟩
   ·exact ⟨by rw [←dv.len];simpa [DG] using hi,SqT.of (k2 _ _ ha rfl)⟩
  ·rename_i l
   split at q1
   ·rename_i xs el
    simp only [EO,DVs,DV] at r1
    obtain ⟨v,w,rfl,⟨a,rfl,ha⟩,rfl⟩:=r1
    obtain ⟨vs,hv,dv⟩:=hr1.cells l _ a el ha
    refine .inr ⟨a,vs,rfl,SqL.of hv,q1 _ m1 H1 (Aw _) (.refl _) hr1 fun i m2 h2 H2 p2 k2 hr2 hsr=>?_⟩
    obtain ⟨ws,hw,dw⟩:=hr2.cells l _ a (hsr _ AI) (IH p2 ha)
    refine ⟨fun hi=>?_,fun hi=>⟨ws,SqL.of hw,by rw [←dw.len];simpa [DG] using hi⟩⟩
    have hi':i<xs.length:=by simpa [DG] using hi
    refine ⟨⟨ws,SqL.of hw,by rw [←dw.len];exact hi'⟩,fun y H3 ⟨pp,vv,hp,ey,ev,eH⟩=>?_⟩
    subst ey eH
    have hd:xs[i]?=some xs[i]:=Br hi'
    obtain ⟨v2,e2,r2⟩:=dw.get hd
    rw [ev ws (SqL.of hw)] at e2
    cases e2
    refine ⟨.new hp,hr2.new hp,.tup [.int i,xs[i]],?_,?_⟩
    ·simp [DG,hd]
    ·simp only [DV]
     exact ⟨pp,_,rfl,Cf,.cons (by simp [DV]) (.cons (DV.keep (Aw _) (.new hp) r2) .nil)⟩
   ·exact q1.elim
  ·exact q1.elim⟩
end
section
variable {prog:Program} {w:World} {A:Around} {E:Value→Shared→Prop} {s:Shared} {z TI TO p q:Addr} {f g:List Addr} {n1 n2 k:Nat} {P1 P2:Nat→Value→Prop} {S1 S2:Nat→Heap→Prop} {a b:Value}
end
open AutoSeq1 (wpAny_loadPart')
def ItAt:Bool→Heap→Addr→Addr→Nat→Prop
 |true,h,it,l,i=>h.IsTupleIter it l i
 |false,h,it,l,i=>h.IsListIter it l i
def SqA:Bool→Heap→Addr→Array Value→Prop
 |true,h,l,xs=>h.IsTuple l xs
 |false,h,l,xs=>h.IsList l xs
def Uv (k:Bool) (l:Addr):Obj:={cls:=.type (if k then "tuple_iterator" else "list_iterator"),data:=.fields #[.ref l,.int 0 0]}
theorem ItAt.obj {k:Bool} {h:Heap} {it l:Addr} {i:Nat} (x:ItAt k h it l i):∃o,h.get? it=some o∧∀v,o.data≠.cell v:=by
 cases k
 ·obtain ⟨o,e,c,d⟩:=x
  exact ⟨o,e,fun v z=>by rw [d] at z;cases z⟩
 ·obtain ⟨o,e,c,d⟩:=x
  exact ⟨o,e,fun v z=>by rw [d] at z;cases z⟩
theorem ItAt.at {k:Bool} {h h':Heap} {it l:Addr} {i:Nat} (x:ItAt k h it l i) (f:∀o,h.get? it=some o→h'.get? it=some o):ItAt k h' it l i:=by
 cases k
 ·exact Heap.IsListIter.at x f
 ·exact Heap.IsTupleIter.at x f
section
variable {X:Cx} {pins:List (Addr×Obj)} {σ:L2.St} {H:Hp} {s:Shared}
end
theorem SqA.push {k:Bool} {h:Heap} {l:Addr} {xs:Array Value} (x:SqA k h l xs) (o:Obj):SqA k (h.push o) l xs:=by
 cases k
 ·exact Heap.IsList.push x o
 ·exact Heap.IsTuple.push x o
theorem ItAt.new {k:Bool} {h:Heap} {it l:Addr} (e:h.get? it=some (Uv k l)):ItAt k h it l 0:=by
 cases k
 ·exact ⟨_,e,rfl,rfl⟩
 ·exact ⟨_,e,rfl,rfl⟩
section
variable {X:Cx} {E:XK}
def Uw (xs ys:List D):List D:=List.zipWith (fun a b=>.tup [a,b]) xs ys
def NV:D→HD→Option (List D×AW)
 |.tup xs,_=>some (xs,[])
 |.loc l,h=>match h[l]? with
  |some (.lst xs)=>some (xs,[(l,xs)])
  |_=>none
 |_,_=>none
def NW:List D→HD→Out (List D×AW):=fun ds h=>match ds with
 |[x,y]=>match NV x h,NV y h with
  |some (xs,s1),some (ys,s2)=>.ok (Uw xs ys,s1++s2) h
  |_,_=>.stuck
 |_=>.stuck
def NX (fa:MA):MI:=fun ρ h=>(fa ρ h).bind NW
end
end LS
namespace LS
open PySem PySem.Spec PyProof.Rows L2
section
variable {ρ:Ai} {h:HD} {QI:(List D×AW)→HD→Prop} {Q:D→HD→Prop} {QO:Option Int→HD→Prop} {QS:Fl×Ai→HD→Prop} {f fo fi fv:ME} {lo hi:MO} {fa:MA}
@[simp] theorem Zag:Wp (Fp fa ρ h) QI=Wp (fa ρ h) fun d h1=>Wp (Hw d h1) QI:=by unfold Fp;rw [Ap]
@[simp] theorem Zah:Wp (NX fa ρ h) QI=Wp (fa ρ h) fun d h1=>Wp (NW d h1) QI:=by unfold NX;rw [Ap]
@[simp] theorem Zai:Wp (NP f lo hi ρ h) Q=Wp (f ρ h) fun x h1=>Wp (lo ρ h1) fun l h2=>Wp (hi ρ h2) fun u h3=>Wp (NO x l u h3) Q:=by unfold NP;simp only [Ap]
@[simp] theorem Zaj:Wp (GJ ρ h) QO=QO none h:=id rfl
@[simp] theorem Zak:Wp (Fo f ρ h) QO=Wp (f ρ h) fun x h1=>Wp (match x with
  |.int i=>(.ok (some i) h1:Out (Option Int))
  |_=>.stuck) QO:=by unfold Fo;rw [Ap]<;>rfl
@[simp] theorem Zal:Wp (NS fo fi fv ρ h) QS=Wp (fo ρ h) fun o h1=>Wp (fi ρ h1) fun i h2=>Wp (NR o i h2) fun x h3=>Wp (fv ρ h3) fun y h4=>Wp (NQ o i x y ρ h4) QS:=by unfold NS;simp only [Ap]
theorem Ux {n:Nat} {e:Nat→D}:DG ((List.range n).map e)=(List.range n).map fun k=>D.tup [.int ((k:Nat):Int),e k]:=by
 unfold DG
 apply Il
 ·simp
 ·intro i h1 h2;simp
theorem Jp {n:Nat} {e:Nat→D}:Hw [.tup ((List.range n).map e)] h=.ok ((List.range n).map fun k=>D.tup [.int ((k:Nat):Int),e k],[]) h:=by
 simp only [Hw,Ux]
theorem Fq {l:Nat} {ds:List D} (e:h[l]?=some (.lst ds)):Gw (.loc l) h=.ok (ds,[(l,ds)]) h:=by
 simp only [Gw,BA,e,MZ]
theorem NY {a:D}:∀n:Nat,(List.replicate n [a]).flatten=List.replicate n a
 |0=>rfl
 |n+1=>by rw [EI,E8,NY n];rfl
theorem Uy {l n:Nat} {a:D} (e:h[l]?=some (.lst [a])) (hn:n≤1000):CM (.loc l) (.int (n:Nat)) h=Ca (List.replicate n a) h:=by
 have:(-(2^63):Int)≤(n:Int)∧(n:Int)<2^63:=by omega
 simp only [CM,e]
 rw [if_pos this]
 simp [NY]
end
noncomputable def Uz (cs:List (Option Nat)) (it:MI) (sg:MG) (t:MT) (f:ME):ME:=Af (Al Ng) (Ab (AQ cs it sg t f) Ad)
noncomputable def UA (F:List Int→Int) (cs:List (Option Nat)) (it:MI) (sg:MG) (t:MT) (f:ME):ME:=Af (Al (NT F)) (Ab (AQ cs it sg t f) Ad)
section
variable {α:Type} {cs:List (Option Nat)} {it:MI} {sg:MG} {t:MT} {f:ME} {ρ:Ai} {h:HD} {src:AW} {xs:List α} {φ:α→D} {F:List Int→Int}
@[simp] theorem Zam:Af (Al Ng) (Ab (AQ cs it sg t f) Ad) ρ h=Uz cs it sg t f ρ h:=rfl
@[simp] theorem Zan:Af (Al (NT F)) (Ab (AQ cs it sg t f) Ad) ρ h=UA F cs it sg t f ρ h:=rfl
end
section
variable {X:Cx} {E:XK}
end
section
variable {X:Cx}
def NZ:D→HD→Out D:=fun x h=>match x with
 |.loc l=>match h[l]? with
  |some (.lst ds)=>match AZ (ds.map GC) with
   |some bs=>.ok (.bl (bs.any id)) h
   |none=>.stuck
  |_=>.stuck
 |_=>.stuck
end
noncomputable def UB (cs:List (Option Nat)) (it:MI) (sg:MG) (t:MT) (f:ME):ME:=Af (Al NZ) (Ab (AQ cs it sg t f) Ad)
section
variable {α:Type} {cs:List (Option Nat)} {it:MI} {sg:MG} {t:MT} {f:ME} {ρ:Ai} {h:HD} {src:AW} {xs:List α} {φ:α→D}
@[simp] theorem Zao:Af (Al NZ) (Ab (AQ cs it sg t f) Ad) ρ h=UB cs it sg t f ρ h:=rfl
end
end LS
namespace LK
open LS
def UC (n:Nat) (r:Nat→Bool):Int:=((List.range n).map fun j=>if r j then (1:Int) else 0).sum
def cc (H:Nat) (f:Nat→Nat→Bool) (R:Nat→Bool) (j:Nat):Int:=UC H fun i=>Bool.xor (f i j) (R i)
def UD (W:Nat) (H:Int) (c:Nat→Int) (C:Nat→Bool):Int:=((List.range W).map fun j=>if C j then H - c j else c j).sum
def UE (W:Nat) (H:Int) (c:Nat→Int):Int:=((List.range W).map fun j=>if H - c j<c j then H - c j else c j).sum
def TT (H W:Nat) (f:Nat→Nat→Bool) (R C:Nat→Bool):Int:=UD W H (cc H f R) C
def ext (n:Nat) (R:Nat→Bool):Nat→Bool:=fun i=>if i=n then true else R i
def LL (s:Nat):Nat→List (Nat→Bool)
 |0=>[fun _=>false]
 |k+1=>LL s k++(LL s k).map (ext (s+k))
theorem KJ {s:Nat}:∀{k:Nat} {R:Nat→Bool},R∈LL s k→∀i,i<s∨s+k≤i→R i=false
 |0,R,h,i,_=>by
  simp only [LL,qaD] at h
  subst h;rfl
 |k+1,R,h,i,hi=>by
  rcases qaL.mp h with z |z
  ·exact KJ z i (by omega)
  ·obtain ⟨R',z1,rfl⟩:=qaU.mp z
   unfold ext
   rw [if_neg (by omega)]
   exact KJ z1 i (by omega)
theorem Hx {s:Nat}:∀k,(LL s k).length=2^k
 |0=>rfl
 |k+1=>by simp only [LL,DR,Cp,Hx k];omega
def Hz (H W:Nat) (f:Nat→Nat→Bool):Int:=Us ((LL 1 (H - 1)).map fun R=>UE W H (cc H f R))
def UF (L:List Int) (k:Int):Int:=(L.map fun x=>if x=k then (1:Int) else 0).sum
def hk (H W:Nat) (f:Nat→Nat→Bool) (k:Int) (R:Nat→Bool):Int:=UF ((LL 0 W).map (TT H W f R)) k
def NN (H W:Nat) (f:Nat→Nat→Bool) (k:Int):Int:=((LL 1 (H - 1)).map (hk H W f k)).sum
end LK
namespace LS
open PySem PySem.Spec PyProof.Rows L2 PySem.W
structure EC (K:Frag) (C:Addr):Prop where
 ga:findIn K (.ref C) "__getattribute__"=some (some (.builtin "BaseException.__getattribute__"))
 gt:findIn K (.ref C) "__getattr__"=some none
 cl:(clsIn K C).isSome=true
 ac:findIn K (.ref C) "__class__"=some (some (.builtin "object.__class__"))
 sg:specialIn K (.builtin "object.__class__") "__get__"=some (some (.builtin "getset_descriptor.__get__"))
 tk:takesIn K (.builtin "object.__class__")=some true
 mo:mroIn K C (.type "object")=some true
 mb:mroIn K C (.type "BaseException")=some true
section
variable {prog:Program} {w:World} {A:Around} {E:Value→Shared→Prop} {s:Shared} {K:Frag} {x C:Addr} {ox:Obj} {od:Option Obj}
def TyAt (x C:Addr) (h:Heap):Prop:=∃o,h.get? x=some o∧o.cls=.ref C
theorem TyAt.type {M:Model} {h:Heap} (t:TyAt x C h):Looks M h (typeOf (.ref x)) (.ref C):=by
 obtain ⟨o,h1,h2⟩:=t
 exact h2 ▸ (Looks.ld h1).andThen .now
end
def excNames:List Str:=["NoBoard","NoLine","NoSwitching","NoNumber","Unlike","NoNet","NoPlace","NoText","NoRow","TooMany","SwitchError"]
def KL (n n':Str):Bool:=n==n'||n'=="SwitchError"
def UG (K:Frag) (C:Addr):Bool:=
 findIn K (.ref C) "__getattribute__"==some (some (.builtin "BaseException.__getattribute__"))&&findIn K (.ref C) "__getattr__"==some none&&(clsIn K C).isSome&&
 findIn K (.ref C) "__class__"==some (some (.builtin "object.__class__"))&&specialIn K (.builtin "object.__class__") "__get__"==some (some (.builtin "getset_descriptor.__get__"))&&
 takesIn K (.builtin "object.__class__")==some true&&mroIn K C (.type "object")==some true&&mroIn K C (.type "BaseException")==some true
def KM (K:Frag) (n:Str):Option Addr:=match nsIn K mainGlobals n with
 |some (some (.ref C))=>some C
 |_=>none
def UH (K:Frag) (n:Str) (C S:Addr):Bool:=
 UG K C&&kitOne K (.ref C) (.type "ValueError")==some true&&(n=="TooMany"||Ur K C Jm "ValueError.__new__")&&exmOne K (.ref C) (.ref S)==some true&&
  excNames.all fun n'=>match KM K n' with
   |some C'=>kitOne K (.ref C) (.ref C')==some (KL n n')
   |none=>false
def etOk (K:Frag):Bool:=match KM K "SwitchError" with
 |some S=>excNames.all fun n=>match KM K n with
  |some C=>UH K n C S
  |none=>false
 |none=>false
structure ET (K:Frag) (n:Str) (C:Addr):Prop where
 ec:EC K C
 ve:kitOne K (.ref C) (.type "ValueError")=some true
 at_:n≠"TooMany"→Uo K C Jm "ValueError.__new__"
 sw:∀S,nsIn K mainGlobals "SwitchError"=some (some (.ref S))→exmOne K (.ref C) (.ref S)=some true
 sub:∀n' C',n'∈excNames→nsIn K mainGlobals n'=some (some (.ref C'))→kitOne K (.ref C) (.ref C')=some (KL n n')
section
variable {X:Cx} {E:XK}
def N0 {α:Type}:Out α→Prop
 |.err _ _ _=>False
 |_=>True
theorem Post.noE {α β:Type} {K:Frag} {R:List Addr→Hp→α→β→Prop} {m:List Addr} {H:Hp} {E E':XK} {Q:β→Hp→Prop} {o:Out α} (n:N0 o) (h:Post K R m H E Q o):Post K R m H E' Q o:=by
 cases o with
 |ok a h1=>exact h
 |err C fs h1=>exact False.elim n
 |stuck=>exact h
theorem UI {f:Value} {F:List D→HD→Out D} (hF:∀ds h,N0 (F ds h))
 (hc:∀(pins:List (Addr×Obj)) (s:Shared) (σ:L2.St) (H:Hp) (m:List Addr) (h:HD) (ds:List D) (vs:List V) (us:List Value) (Q:VK),Inv X pins σ H s→HR X.K m h H→DVs X.K m H ds vs→Vals vs us→Post X.K (rD X.K) m H E0 Q (F ds h)→
  wpAny (model X.prog X.w) X.A (call f us) (EP X pins σ Q) X.xe s):CH X f F:=
 ⟨fun vs H Q=>∃m h ds,HR X.K m h H∧DVs X.K m H ds vs∧Post X.K (rD X.K) m H E0 Q (F ds h),fun pins s σ H vs us Q I r z2_=>by obtain ⟨m,h,ds,hr,rd,q⟩:=z2_;exact (hc pins s σ H m h ds vs us Q I hr rd r q),fun m H h E ds vs Q hr rd q=>⟨m,h,ds,hr,rd,Post.noE (hF ds h) q⟩⟩
def Cc:D→D→HD→Out D:=fun x y h=>match x with
 |.exc n _=>(match y with
  |.glo n'=>if n∈excNames∧n'∈excNames then .ok (.bl (KL n n')) h else .stuck
  |.ty T=>if n∈excNames∧T="ValueError" then .ok (.bl true) h else .stuck
  |_=>.stuck)
 |.edic=>(match y with
  |.ty T=>(match Hm "dict" T with
   |some b=>.ok (.bl b) h
   |none=>.stuck)
  |_=>.stuck)
 |_=>Bu x y h
end
section
variable {X:Cx} {E:XK}
def N1 (chk:D→HD→Out D) (op:D→D→HD→Out D) (f g:ME):ME:=fun ρ h=>((f ρ h).bind chk).bind fun x h1=>(g ρ h1).bind fun y h2=>op x y h2
def N2 (X:Cx) (T:String) (x:V) (H:Hp):Prop:=∀(pins:List (Addr×Obj)) (σ:L2.St) (s:Shared) (u:Value),Inv X pins σ H s→RelV x u→s.TypeIs u T∧∀a,u=.ref a→∃ob,s.heap.get? a=some ob∧ob.dict=none
def Zap (X:Cx) (T:String) (r:V→List V→Hp→VK→Prop) (to:TE) (t:TA):TE:=fun σ H Q=>to σ H fun x H1=>N2 X T x H1∧t σ H1 fun xs H2=>r x xs H2 Q
structure Chk (X:Cx) (T:String) (chk:D→HD→Out D):Prop where
 two:∀x h,chk x h=.ok x h∨chk x h=.stuck
 ty:∀m H h x v,HR X.K m h H→DV X.K m H x v→chk x h=.ok x h→N2 X T v H
def Zaq (X:Cx) (id:String) (op:D→D→HD→Out D):Prop:=
 ∀(pins:List (Addr×Obj)) (s:Shared) (σ:L2.St) (H:Hp) (m:List Addr) (h:HD) (x y:D) (v yv:V) (u uy:Value) (Q:VK),Inv X pins σ H s→HR X.K m h H→DV X.K m H x v→DV X.K m H y yv→RelV v u→RelV yv uy→Post X.K (rD X.K) m H E0 Q (op x y h)→
  wpAny (model X.prog X.w) X.A (call (.builtin id) [u,uy]) (EP X pins σ Q) X.xe s
def UJ (x:V) (xs:List V):Nat:=xs.countP fun y=>DX y x
def N3:D→D→HD→Out D:=fun x y h=>match BA x h with
 |none=>.stuck
 |some ds=>match CI y,AZ (ds.map CI) with
  |some v,some vs=>.ok (.int (UJ v vs)) h
  |_,_=>.stuck
def Zar:D→D→HD→Out D:=fun x y h=>(GE x h).bind fun _ _=>N3 x y h
def UK (x:V) (xs:List V):Option Nat:=xs.findIdx? fun y=>DX y x
def Zas:D→D→HD→Out D:=fun x y h=>match x with
 |.loc l=>(match h[l]? with
  |some (.lst ds)=>(match CI y,AZ (ds.map CI) with
   |some v,some vs=>(match UK v vs with
    |some j=>.ok (.int j) h
    |none=>.stuck)
   |_,_=>.stuck)
  |_=>.stuck)
 |_=>.stuck
end
theorem HR.tab {K:Frag} {m:List Addr} {h:HD} {H H':Hp} {P:Addr} (r:HR K m h H) (k:Kp H H') (s:∀b,b≠P→H b≠none→H' b=H b) (t:TabIs K H' P) (tt:TabIs K H P):HR K m h H':=by
 refine ⟨r.len,r.nd,fun l c a e q=>?_⟩
 have hm:a∈m:=F5 q
 have hn:H a≠none:=r.mem hm
 have:=r.cells l c a e q
 cases c with
 |lst ds=>
  obtain ⟨vs,e1,e2⟩:=this
  have ha:a≠P:=by
   rintro rfl
   obtain ⟨_,ps,z,_⟩:=tt
   rw [z] at e1;cases e1
  exact ⟨vs,by rw [s a ha hn];exact e1,e2.keep (Aw _) k⟩
 |tab=>
  by_cases ha:a=P
  ·subst ha;exact t
  ·exact TabIs.keep this k (s a ha hn)
 |dic fz kvs=>
  obtain ⟨es,e1,e2⟩:=this
  have ha:a≠P:=by
   rintro rfl
   obtain ⟨_,ps,z,_⟩:=tt
   cases fz with
   |true=>obtain ⟨o,q⟩:=e1;rw [z] at q;cases q
   |false=>exact absurd (z.symm.trans e1) (by intro w;cases w)
  exact ⟨es,e1.same (s a ha hn),e2.keep (Aw _) k⟩
structure LamX (X:Cx) (c P:Addr):Prop where
 code:X.env.code=.ref c
 tp:tabP X.K=some (c,P)
 hd:codeHdIn X.K c P=true
 qual:X.env.qual="law.<locals>."
 bm:∃bm o,X.mg "__builtins__"=some (.ref bm)∧bm≠builtinsNs∧X.base.get? bm=some o∧o.cls=.type "module"∧o.dict=some builtinsNs∧o.data=.plain
section
variable {X:Cx} {E:Value→Shared→Prop} {c P:Addr} {pins:List (Addr×Obj)} {σ:L2.St} {H:Hp} {s:Shared}
theorem LamX.builtins (L:LamX X c P) (I:Inv X pins σ H s) (t:TabIs X.K H P):s.heap.BuiltinsAt X.mg P:=by
 obtain ⟨bm,o,h1,h2,h3,h4,h5,h6⟩:=L.bm
 obtain ⟨e,n⟩:=I.bs bm o h3
 refine ⟨bm,o,h1,h2,fun z=>?_,fun z=>?_,e,h4,h5,h6⟩
 ·obtain ⟨og,es,ep,e1,e2,_⟩:=I.mod.glob
  rw [z,e1] at h3
  cases h3
  rw [e2] at h6;cases h6
 ·obtain ⟨_,ps,q,_⟩:=t
  rw [z,q] at n;cases n
abbrev GK:Str:="law.<locals>.<lambda>"
end
def lCx (P:Program) (w:World) (K:Frag) (mg:Str→Option Value) (base:Heap) (N:List Str) (scope:Scope) (a:Addr) (cd:Value) (cl:List (Str×Addr)) (A:Around) (outer:List Env) (s:Shared) (H:Hp) (E:XK):Cx where
 prog:=P
 w:=w
 K:=K
 mg:=mg
 base:=base
 A:=A.deeper (envX GK scope s.heap.objs.size a cd cl)
 N:=N
 s₀:=s
 H₀:=H
 env:=envX GK scope s.heap.objs.size a cd cl
 outer:=outer
 stack:=envX GK scope s.heap.objs.size a cd cl::outer
 ex:=[]
 calm:=true
 fn:=fun _=>false
 pn:=[]
 xe:=fun e s'=>wpAny (model P w) (A.deeper (envX GK scope s.heap.objs.size a cd cl)) (leaving (envX GK scope s.heap.objs.size a cd cl) e) (fun _ s''=>Ay P w K outer H s E e s'') (fun e' s''=>Ay P w K outer H s E e' s'') s'
structure UL (h:Heap) (H:Hp) (outer:List Env) (N:List Str) (scope:Scope) (cl:List (Str×Addr)) (vs:List V):Prop where
 len:vs.length=N.length
 inj:∀x y c,cl.lookup x=some c→cl.lookup y=some c→x=y
 has:∀x,scope.names.lookup x=some .free→∃c,cl.lookup x=some c
 cell:∀x c,cl.lookup x=some c→(∃v,h.IsCell c v)∧H c=none∧c∉frs outer
 val:∀(i:Nat) (x:Str) (v:V),N[i]?=some x→vs[i]?=some v→scope.names.lookup x=some .free∧∃c u,cl.lookup x=some c∧h.IsCell c (some u)∧RelV v u
structure UM (scope:Scope):Prop where
 kind:scope.kind=.function
 co:scope.isCoroutine=false
 gen:scope.isGenerator=false
 only:(scope.names.all fun y=>y.2 != .cell)=true
section
variable {P:Program} {w:World} {K:Frag} {mg:Str→Option Value} {base:Heap} {N:List Str} {scope:Scope} {a c':Addr} {pm ctv:Value} {params:Arguments} {body:Expr} {cl:List (Str×Addr)} {A:Around} {outer:List Env} {s:Shared} {H:Hp} {E:XK} {vs:List V}
end
structure RoomM (k:Nat) (A:Around):Prop where
 dp:A.depth+3*k+5<recursionLimit
 un:A.units+16*k+200<cLine
 gd:A.guards=some []
theorem RoomM.deeper {k:Nat} {A:Around} (r:RoomM (k+1) A) (env:Env):RoomM k (A.deeper env):=
 ⟨by have:=r.dp;show A.depth+1+3*k+5<_;omega,by have:=r.un;show A.units+3+16*k+200<_;omega,r.gd⟩
theorem RoomM.units {k:Nat} {A:Around} (r:RoomM k A):A.units+64<cLine:=by have:=r.un;omega
theorem RoomM.mono {j k:Nat} {A:Around} (r:RoomM k A) (h:j≤k):RoomM j A:=⟨by have:=r.dp;omega,by have:=r.un;omega,r.gd⟩
theorem RoomM.of {k:Nat} {A:Around} (r:Room k A) (e:Option Value):RoomM k (A.mark e):=⟨r.dp,r.un,r.gd⟩
def cxM (P:Program) (w:World) (K:Frag) (mg:Str→Option Value) (base:Heap) (N:List Str) (qual:Str) (scope:Scope) (f:Addr) (cd:Value) (A:Around) (outer:List Env) (s:Shared) (H:Hp):Cx:=
 {AK Mx P w K mg base N qual scope f cd A outer s H E0 with calm:=false,xe:=fun _ _=>False}
structure UN (P:Program) (w:World) (K:Frag) (mg:Str→Option Value) (base:Heap) (k:Nat) (f:Addr) (fd:FuncData) (ps:List Str) (F:List D→HD→Out D):Prop where
 run:∀(A:Around) (outer:List Env) (s:Shared) (H:Hp) (args:Args) (us:List Value) (vs:List V) (Q:VK),RoomM k A→G8 P w K mg base A outer s H→BindsTo s fd args (ps.zip us)→Vals vs us→J7 K F vs H Q E0→
  codeAny (model P w) A (.call (.ref f) args) (CR Mx outer P w H s Q E0) s
structure CaM (P:Program) (w:World) (K:Frag) (mg:Str→Option Value) (base:Heap) (x:Str) (k:Nat) (F:List D→HD→Out D):Prop where
 ex:∃(f:Addr) (fd:FuncData) (ps:List Str),UN P w K mg base k f fd ps F∧Binds K fd ps []∧mg x=some (.ref f)∧PySem.W.keepIn K (.ref f)=true∧Ar ps.length F
section
variable {X:Cx} {E:XK}
end
section
variable {X:Cx} {pins:List (Addr×Obj)} {σ:L2.St} {H:Hp} {s:Shared}
theorem Inv.locals {σ':L2.St} {h':Heap} {m':Str→Option Value} {t':Nat} (I:Inv X pins σ H s) (hn':h'.Ns X.env.locals m') (hs:Heap.SameBut X.env.locals s.heap h')
 (hl:∀(i:Nat) (x:Str) (v:V),X.N[i]?=some x→σ'[i]?=some (some v)→Iv X.env.scope x→∃u,RelV v u∧L0 X.env h' m' x u) (len:σ'.length=σ.length):Inv X pins σ' H {s with heap:=h',toks:=t'}:=by
 obtain ⟨m,hn,_⟩:=id I.loc
 obtain ⟨oL,_,_,hoL,_⟩:=id hn
 have neL:∀b o,X.s₀.heap.get? b=some o→b≠X.env.locals:=fun b o e=>Ce (Bo (AA e) I.ok.above)
 refine ⟨I.ok,I.os,I.bare,⟨fun b o e n hb hx=>?_,fun b o e n hb hx=>?_,I.base.free,fun b o e hx=>?_,I.base.tups,I.base.frzs,I.base.tbls⟩,⟨_,hn',hl⟩,fun y c e=>?_,I.free,I.freeC,fun p hp=>?_,fun b ob e=>?_,len.trans I.len⟩
 ·exact (hs.2 b (neL b o e)).trans (I.base.keep b o e n hb hx)
 ·obtain ⟨sl,e1⟩:=I.base.slot b o e n hb hx
  exact ⟨sl,(hs.2 b (neL b o e)).trans e1⟩
 ·obtain ⟨o',e1⟩:=I.base.there b o e hx
  exact ⟨o',(hs.2 b (neL b o e)).trans e1⟩
 ·obtain ⟨v,z⟩:=I.cell y c e
  exact ⟨v,z.sameBut hs (I.cne y c e)⟩
 ·obtain ⟨a1,a2,a3,a4⟩:=I.pin p hp
  exact ⟨(hs.2 _ a3).trans a1,a2,a3,a4⟩
 ·refine (I.hok b ob e).stay (fun c w' hc q=>(hs.2 c ?_).trans q) (fun _ q=>q) fun _ _ q=>q
  rintro rfl
  have hfree:=I.free
  rcases hc with rfl |hc
  ·rw [hfree] at e;cases e
  ·rw [hfree] at hc;cases hc
end
def KN:List (Str×D)→Option (List (Str×Int))
 |[]=>some []
 |(f,.int i)::r=>(KN r).map fun l=>(f,i)::l
 |_=>none
open Classical in
noncomputable def Zat (a:Addr) (vs:List V) (Fk:List D→HD→Out D) (f:ME):MS:=fun ρ h=>match (ρ[0]?:Option (Option D)),(h[0]?:Option CF) with
 |some (some (.clo a' vs' ds)),some .tab=>if a'=a∧vs'=vs then (match f (ds.map some) h with
  |.ok _ h1=>.ok (.nx,ρ) h1
  |.err (.str n _) fs h1=>if n∈excNames then (match KN fs with
   |some is=>(match Fk [.exc n is] h1 with
    |.ok d h2=>.ok (.nx,(ρ.set 1 (some d)).set 2 none) h2
    |_=>.stuck)
   |none=>.stuck) else .stuck
  |_=>.stuck) else .stuck
 |_,_=>.stuck
structure Zau (X:Cx) (P a c':Addr) (lpos:Pos) (Nc:List Str) (params:Arguments) (body:Expr) (scope:Scope) (cl:List (Str×Addr)) (pm ctv:Value) (vs:List V):Prop where
 N:X.N=(["_law_call","_law_word","_law_e"]:List Str)
 k0:X.env.kindOf "_law_call"=some .local
 k1:X.env.kindOf "_law_word"=some .local
 k2:X.env.kindOf "_law_e"=some .local
 tp:∃c,tabP X.K=some (c,P)
 tb:∃ps,X.H₀ P=some (.tbl ps)∧TriplesOk ps.toList∧codeAmong lpos ps.toList=some (.ref c')
 ob:X.s₀.heap.get? a=some (kla_obj "<lambda>" GK params body scope cl pm c' ctv)
 no:X.H₀ a=none
 nf:a∉X.fs
 clo:UL X.s₀.heap X.H₀ X.outer Nc scope cl vs
section
variable {X:Cx} {E:XK} {P a c':Addr} {lpos:Pos} {Nc:List Str} {params:Arguments} {body:Expr} {scope:Scope} {cl:List (Str×Addr)} {pm ctv:Value} {vs:List V}
def mCx (X:Cx) (e:Addr):Cx:={X with A:=X.A.mark (some (.ref e)),calm:=false,xe:=fun _ _=>False}
end
noncomputable def UO (Fk:List D→HD→Out D):Out D→Out D
 |.ok _ h1=>.ok (.str "told") h1
 |.err (.str n _) fs h1=>if n∈excNames then (match KN fs with
  |some is=>(match Fk [.exc n is] h1 with
   |.ok d h2=>.ok d h2
   |_=>.stuck)
  |none=>.stuck) else .stuck
 |_=>.stuck
noncomputable def Zav (cs:List Nat) (Fk:List D→HD→Out D) (f:ME):ME:=fun ρ h=>match (h[0]?:Option CF),AZ (cs.map fun j=>(ρ[j]?).join) with
 |some .tab,some ds=>UO Fk (f (ds.map some) h)
 |_,_=>.stuck
structure LSc (X:Cx) (scope:Scope) (Nc:List Str) (cs:List Nat):Prop where
 lam:UM scope
 nd:(scope.names.map (·.1)).Nodup
 free:(scope.names.all fun y=>y.2 != .free||(X.env.kindOf y.1==some .cell||X.env.kindOf y.1==some .free))=true
 len:cs.length=Nc.length
 out:((Nc.zip cs).all fun p=>X.N[p.2]?==some p.1&&scope.names.lookup p.1==some .free)=true
theorem LSc.at_ {X:Cx} {scope:Scope} {Nc:List Str} {cs:List Nat} (S:LSc X scope Nc cs) {i j:Nat} {x:Str} (h1:Nc[i]?=some x) (h2:cs[i]?=some j):X.N[j]?=some x∧scope.names.lookup x=some .free:=by
 have hz:(Nc.zip cs)[i]?=some (x,j):=by
  rw [List.getElem?_zip_eq_some]
  exact ⟨h1,h2⟩
 have:=qaS.mp S.out (x,j) (F5 hz)
 simpa using this
theorem LSc.fr {X:Cx} {scope:Scope} {Nc:List Str} {cs:List Nat} (S:LSc X scope Nc cs):∀y∈scope.names,y.2=.free→X.env.kindOf y.1=some .cell∨X.env.kindOf y.1=some .free:=fun y hy e=>by
 have:=qaS.mp S.free y hy
 rw [e] at this
 simpa using this
section
variable {X:Cx} {E:XK} {c P:Addr} {Nc:List Str} {cs:List Nat} {params:Arguments} {body:Expr} {scope:Scope}
end
def HA (mg:Str→Option Value) (base:Heap):Prop:=∃bm o,mg "__builtins__"=some (.ref bm)∧bm≠builtinsNs∧base.get? bm=some o∧o.cls=.type "module"∧o.dict=some builtinsNs∧o.data=.plain
open AutoSeq1 (wpAny_loadPart')
theorem UP:fillsNumberSlot (.type "tuple") "mul"=pure false:=by
 first |exact noFill_tuple_mul' |(unfold fillsNumberSlot;kernel_rfl)
theorem UQ:seqRepeat? (.type "tuple")=pure (some (.builtin "tuple.__mul__")):=by
 unfold seqRepeat?
 rw [PySem.seqSlot_of (T:="tuple") (name:="__mul__") (id:="tuple.__mul__") F.slot_tuple_mul.lookup (by decide +kernel),PySem.seqSlot_of (T:="tuple") (name:="__rmul__") (id:="tuple.__rmul__") (by rw [typeLookup_type,builtinLookup_eq_fast];kernel_rfl) (by decide +kernel)]
 rfl
theorem UR (a:Int) (t:Tok) (l:Addr) (items:Array Value) (n:Nat) (dd:Option Addr) (sl:Array (Option Value)):
 Meets (Builtin.«int.__rmul__» ⟨[.int a t,.ref l],[]⟩) (fun _ R s=>s.heap.get? l=some {cls:=.type "tuple",dict:=dd,data:=.seq items n,slots:=sl}∧R (.ok (.ret Value.notImplemented)) s):=
 .of_wp fun prog w A R s h=>by
  obtain ⟨hp,g,d,tk,os⟩:=s;obtain ⟨hl,h⟩:=h
  wp_walk;exact ⟨_,rfl,h⟩
theorem US (l:Addr) (items:Array Value) (n:Nat) (dd:Option Addr) (sl:Array (Option Value)) (x:Int) (u:Tok) (h1:1<x) (h2:x<2^63) (hne:items.isEmpty=false) (hz:items.size*x.toNat≤sizeLine):
 Meets (Builtin.«tuple.__mul__» ⟨[.ref l,.int x u],[]⟩) (fun _ R s=>s.heap.get? l=some {cls:=.type "tuple",dict:=dd,data:=.seq items n,slots:=sl}∧R (.ok (.ret (Value.ref s.heap.objs.size))) {s with heap:=s.heap.push {cls:=Value.type "tuple",data:=Data.seq (List.foldl (fun x1 x2=>x1++x2) #[] (List.replicate x.toNat items))}}):=
 .of_wp fun prog w A R s h=>by
  obtain ⟨hp,g,d,tk,os⟩:=s;obtain ⟨hl,h⟩:=h
  have c1:(decide (x < -2^63)||decide (x≥2^63))=false:=by simp;omega
  have c2:(items.isEmpty||x==1)=false:=by
   rw [hne,Bool.false_or]
   exact beq_eq_false_iff_ne.mpr (by omega)
  have c3:(decide (x≤0)||items.isEmpty)=false:=by
   rw [hne,Bool.or_false]
   exact decide_eq_false (by omega)
  have hx:(x.toNat:Int)=x:=Int.toNat_of_nonneg (by omega)
  have hz':(items.size:Int)*x≤sizeLine:=by rw [←hx];exact_mod_cast hz
  have c4:¬((items.size:Int)*x>(2^63 - 1) / 8):=by
   have:(sizeLine:Int)≤(2^63 - 1) / 8:=by decide
   omega
  have c5:Builtin.Tuple.tupleTooMany ((items.size:Int)*x)=false:=by
   unfold Builtin.Tuple.tupleTooMany
   exact decide_eq_false (by omega)
  have c6:(List.foldl (fun x1 x2=>x1++x2) #[] (List.replicate x.toNat items)).size≤sizeLine:=by
   have f0:=IF items.toList x.toNat []
   rw [Im] at f0
   have:List.foldl (fun x1 x2=>x1++x2) #[] (List.replicate x.toNat items)=(List.replicate x.toNat items.toList).flatten.toArray:=by simpa using f0
   rw [this,A7,IG,Nat.mul_comm]
   simpa using hz
  wp_walk using wpAny_loadPart' hl
  rw [c1]
  simp only [BK,if_false]
  refine wpAny_bind ?_
  unfold Builtin.Tuple.tupleItemsOf
  wp_walk using wpAny_loadPart' hl
  rw [c2]
  simp only [BK,if_false]
  rw [c3]
  simp only [BK,if_false]
  rw [if_neg c4,c5]
  simp only [BK,if_false]
  refine wpAny_bind (wpAny_newObj_type (wpAny_pure ⟨_,rfl,h⟩) c6)
theorem UT (l:Addr) (items:Array Value) (n:Nat) (dd:Option Addr) (sl:Array (Option Value)) (u:Tok):
 Meets (Builtin.«tuple.__mul__» ⟨[.ref l,.int 1 u],[]⟩) (fun _ R s=>s.heap.get? l=some {cls:=.type "tuple",dict:=dd,data:=.seq items n,slots:=sl}∧R (.ok (.ret (Value.ref l))) s):=
 .of_wp fun prog w A R s h=>by
  obtain ⟨hp,g,d,tk,os⟩:=s;obtain ⟨hl,h⟩:=h
  have c1:(decide ((1:Int) < -2^63)||decide ((1:Int)≥2^63))=false:=by decide
  have c2:(items.isEmpty||(1:Int)==1)=true:=by simp
  wp_walk using wpAny_loadPart' hl
  exact ⟨_,rfl,h⟩
theorem UU (l:Addr) (items:Array Value) (n:Nat) (dd:Option Addr) (sl:Array (Option Value)) (x:Int) (u:Tok) (h1:-(2^63)≤x) (h2:x≤0) (hne:items.isEmpty=false):
 Meets (Builtin.«tuple.__mul__» ⟨[.ref l,.int x u],[]⟩) (fun _ R s=>s.heap.get? l=some {cls:=.type "tuple",dict:=dd,data:=.seq items n,slots:=sl}∧R (.ok (.ret (Value.ref s.heap.objs.size))) {s with heap:=s.heap.push {cls:=Value.type "tuple",data:=Data.seq #[]}}):=
 .of_wp fun prog w A R s h=>by
  obtain ⟨hp,g,d,tk,os⟩:=s;obtain ⟨hl,h⟩:=h
  have c1:(decide (x < -2^63)||decide (x≥2^63))=false:=by simp;omega
  have c2:(items.isEmpty||x==1)=false:=by
   rw [hne,Bool.false_or]
   exact beq_eq_false_iff_ne.mpr (by omega)
  have c3:(decide (x≤0)||items.isEmpty)=true:=by
   rw [hne,Bool.or_false]
   exact decide_eq_true h2
  wp_walk using wpAny_loadPart' hl
  rw [c1]
  simp only [BK,if_false]
  refine wpAny_bind ?_
  unfold Builtin.Tuple.tupleItemsOf
  wp_walk using wpAny_loadPart' hl
  rw [c2]
  simp only [BK,if_false]
  rw [c3]
  simp only [if_true]
  refine wpAny_bind (wpAny_newObj_type (wpAny_pure ⟨_,rfl,h⟩) (by show (#[]:Array Value).size≤sizeLine;simp))
section
variable {X:Cx} {E:XK}
def UV (K:Frag):R2:=fun x y H Q=>∃l k xs,x=.ref l∧y=.int k∧H l=some (.tup xs)∧xs≠[]∧-(2^63)≤k∧k<2^63∧xs.length*k.toNat≤sizeLine∧(k=1→Q (.ref l) H)∧
 ∀p,H p=none→Q (.ref p) (Am H p (.tup (List.replicate k.toNat xs).flatten))
theorem Inv.tnew {pins:List (Addr×Obj)} {σ:L2.St} {H:Hp} {s:Shared} {ys:List V} {its:List Value} {t':Nat} (I:Inv X pins σ H s) (hv:Vals ys its) (hz:ys.length≤sizeLine):
 Inv X pins σ (Am H s.heap.objs.size (.tup ys)) {s with heap:=s.heap.push {cls:=.type "tuple",data:=.seq its.toArray},toks:=t'}:=
 I.laid (fun _ _ q=>Bn _ q) (AJ _) ⟨hz,its,hv,⟨_,BI _ rfl,rfl,0,rfl⟩,NoDict.new⟩
theorem op_repT:OpR X (binaryOp .Mult) (UV X.K):=by
 intro pins s σ H x y v u Q I rx ry h
 obtain ⟨l,k,xs,rfl,rfl,hH,hne,h1,h2,hz,q1,q⟩:=h
 cases rx
 obtain ⟨t,rfl⟩:=ry
 obtain ⟨z,its,r,⟨o,ho,hc,n,hd⟩,_⟩:=(show ObjOk X.prog X.w H s.heap l (.tup xs) from I.hok l _ hH)
 obtain ⟨oc,dd,dat,sl⟩:=o
 simp only at hc hd
 subst hc hd
 have hl:=r.length
 have hine:its.toArray.isEmpty=false:=by
  cases its with
  |nil=>exfalso;cases xs with
   |nil=>exact hne rfl
   |cons _ _=>simp at hl
  |cons a b=>simp
 have mul:∀{Q':Value→Shared→Prop},wpAny (model X.prog X.w) X.A (call (.builtin "tuple.__mul__") [.ref l,.int k t]) Q' X.xe s→wpAny (model X.prog X.w) X.A (binaryOp .Mult (.ref l) (.int k t)) Q' X.xe s:=fun {Q'} hq=>
  wpAny_binaryOp_repeat_ref (T:="tuple") (U:="int") (by decide) ⟨_,ho,rfl⟩ (fun s'=>typeIs_int s' k t) UP F.fills_int_mul F.slot_int_rmul UQ F.slot_int_index.lookup
   (call_meets F.slot_int_rmul (typeIs_int s k t) F.entry_int_rmul (F.args_int_rmul_2 _ _) (UR k t l its.toArray n dd sl) ⟨ho,rfl,⟨_,ho,rfl⟩,hq⟩)
 refine mul ?_
 rcases Int.lt_trichotomy k 1 with hk |hk |hk
 ·refine call_meets F.slot_tuple_mul ⟨_,ho,rfl⟩ F.entry_tuple_mul (F.args_tuple_mul_2 _ _) (UU l its.toArray n dd sl k t h1 (by omega) hine) ⟨ho,?_⟩
  have e:(List.replicate k.toNat xs).flatten=[]:=by
   have:k.toNat=0:=by omega
   rw [this];rfl
  have:=q _ I.fresh
  rw [e] at this
  exact ⟨.ref _,_,LS.Inv.tnew (its:=[]) (t':=s.toks) I .nil (DT _),rfl,this⟩
 ·subst hk
  refine call_meets F.slot_tuple_mul ⟨_,ho,rfl⟩ F.entry_tuple_mul (F.args_tuple_mul_2 _ _) (UT l its.toArray n dd sl t) ⟨ho,?_⟩
  exact ⟨.ref l,H,I,rfl,q1 rfl⟩
 ·refine call_meets F.slot_tuple_mul ⟨_,ho,rfl⟩ F.entry_tuple_mul (F.args_tuple_mul_2 _ _) (US l its.toArray n dd sl k t hk h2 hine (by rw [A7,←hl];exact hz)) ⟨ho,?_⟩
  have f0:=IF its k.toNat []
  rw [Im] at f0
  have f1:List.foldl (fun x1 x2=>x1++x2) #[] (List.replicate k.toNat its.toArray)=(List.replicate k.toNat its).flatten.toArray:=f0
  rw [f1]
  exact ⟨.ref _,_,LS.Inv.tnew (t':=s.toks) I (r.rep k.toNat) (by rw [IG,Nat.mul_comm];exact hz),rfl,q _ I.fresh⟩
noncomputable def CN:D→D→HD→Out D:=fun x y h=>match x,y with
 |.tup xs,.int k=>@ite _ (xs≠[]∧-(2^63)≤k∧k<2^63∧xs.length*k.toNat≤sizeLine) (Classical.propDecidable _) (.ok (.tup (List.replicate k.toNat xs).flatten) h) .stuck
 |_,_=>CM x y h
theorem Ez:Bs X (binaryOp .Mult) CN:=by
 obtain ⟨r0,hr0,i0⟩:=TH (X:=X)
 refine ⟨_,op_repT.or hr0,fun m H h E x y v u Q hr rx ry q=>?_⟩
 unfold CN at q
 split at q
 ·rename_i xs k
  split at q
  ·rename_i hc
   obtain ⟨hne,h1,h2,hz⟩:=hc
   simp only [DV] at rx ry
   obtain ⟨a,vs,rfl,ha,dv⟩:=rx
   subst ry
   refine .inl ⟨a,k,vs,rfl,rfl,ha,?_,h1,h2,by rw [←dv.len];exact hz,fun e=>?_,?_⟩
   ·intro e;have:=dv.len;rw [e] at this;exact hne (List.length_eq_zero_iff.mp this)
   ·subst e
    refine Bp hr q ?_
    simp only [DV]
    exact ⟨a,vs,rfl,ha,by simpa using dv⟩
   ·exact Gr hr (DVs.rep dv k.toNat) q
  ·exact q.elim
 ·exact .inr (i0 m H h E x y v u Q hr rx ry q)
end
end LS
namespace LS
open PySem PySem.Spec PyProof.Rows L2 PySem.W
section
variable {X:Cx} {E:XK}
abbrev MJ:=Str→Ai→HD→Out Str
def UW:MJ:=fun acc _ h=>if acc.length≤sizeLine then .ok acc h else .stuck
def UX (y:Str) (r:MJ):MJ:=fun acc ρ h=>if (acc++y).length≤sizeLine then r (acc++y) ρ h else .stuck
def N4 (f:ME) (r:MJ):MJ:=fun acc ρ h=>(f ρ h).bind fun d h1=>match d with
 |.int i=>if i.natAbs.log2<1920∧(acc++(toString i:Str)).length≤sizeLine then r (acc++(toString i:Str)) ρ h1 else .stuck
 |_=>.stuck
def KO (fj:MJ):ME:=fun ρ h=>(fj Str.empty ρ h).bind fun x h1=>.ok (.str x) h1
def Zaw:D→HD→Out D:=fun x h=>match AB h 8 x with
 |some p=>if p.showable=true∧p.hasDict=false∧p.depth≤40∧p.shown.length≤sizeLine then .ok (.str p.shown) h else .stuck
 |none=>.stuck
def Bz:D→D→HD→Out D:=fun x y h=>match x,y with
 |.str a,.str b=>.ok (.bl (a==b)) h
 |_,_=>Ep x y h
def Bb:D→D→HD→Out D:=fun x y h=>match x,y with
 |.str a,.str b=>.ok (.bl (!(a==b))) h
 |_,_=>D1 x y h
theorem DJ (hu:X.A.units+64<cLine):Bs X (compareOp .Eq) Bz:=by
 obtain ⟨r0,hr0,i0⟩:=SW (X:=X) hu
 refine ⟨_,op_eq.or hr0,fun m H h E x y v u Q hr rx ry q=>?_⟩
 unfold Bz at q
 split at q
 ·simp only [DV] at rx ry
  subst rx ry
  exact .inl ⟨rfl,by rw [ID];exact Bp hr q (by simp [DV])⟩
 ·exact .inr (i0 m H h E x y v u Q hr rx ry q)
theorem Cz (hu:X.A.units+64<cLine):Bs X (compareOp .NotEq) Bb:=by
 obtain ⟨r0,hr0,i0⟩:=SX (X:=X) hu
 refine ⟨_,op_ne.or hr0,fun m H h E x y v u Q hr rx ry q=>?_⟩
 unfold Bb at q
 split at q
 ·simp only [DV] at rx ry
  subst rx ry
  exact .inl ⟨rfl,by rw [ID];exact Bp hr q (by simp [DV])⟩
 ·exact .inr (i0 m H h E x y v u Q hr rx ry q)
def Jq:List Nat→List D→Ai→Option Ai
 |[],[],ρ=>some ρ
 |i::is,d::ds,ρ=>Jq is ds (ρ.set i (some d))
 |_,_,_=>none
def GL (is:List Nat):MG:=fun d ρ=>match d with
 |.tup ds=>Jq is ds ρ
 |_=>none
def KP:List Nat→EK
 |[]=>E9
 |i::is=>Df (BZ i) (KP is)
theorem N5:∀{is:List Nat} {ds:List D} {ρ ρ':Ai},Jq is ds ρ=some ρ'→ds.length=is.length
 |[],[],_,_,_=>rfl
 |[],_::_,_,_,e=>by cases e
 |_::_,[],_,_,e=>by cases e
 |_::is,_::ds,_,_,e=>by simpa using N5 (is:=is) (ds:=ds) e
theorem N6 {K:Frag} {m:List Addr} {H:Hp}:∀{is:List Nat} {ds:List D} {vs:List V} {ρ ρ':Ai} {σ:L2.St} {Q:L2.St→Hp→Prop},DVs K m H ds vs→ER K m H ρ σ→Jq is ds ρ=some ρ'→(∀σ',ER K m H ρ' σ'→Q σ' H)→KP is vs σ H Q
 |[],[],vs,ρ,ρ',σ,Q,r,er,e,q=>by
  simp only [DVs] at r
  subst r
  cases e
  exact ⟨rfl,q σ er⟩
 |[],_::_,_,_,_,_,_,_,_,e,_=>by cases e
 |_::_,[],_,_,_,_,_,_,_,e,_=>by cases e
 |i::is,d::ds,vs,ρ,ρ',σ,Q,r,er,e,q=>by
  simp only [DVs] at r
  obtain ⟨v,w,rfl,rv,rw'⟩:=r
  exact ⟨v,w,rfl,N6 rw' (er.set rv) e q⟩
theorem UY {es:List Expr} {is:List Nat} {kt:Nat} {pos:Pos} (h:PG X (.Tuple es kt pos) (Fb X.K is.length (KP is))):Hk X (.Tuple es kt pos) (GL is):=⟨_,h,fun m H d v ρ σ ρ' Q r er e q=>by
 unfold GL at e
 split at e
 ·rename_i ds
  simp only [DV] at r
  obtain ⟨p,vs,rfl,hp,dv⟩:=r
  exact ⟨p,vs,rfl,SqT.of hp,by rw [←dv.len];exact N5 e,N6 dv er e q⟩
 ·cases e⟩
end
section
variable {X:Cx} {E:XK}
end
theorem CaM.mono {P:Program} {w:World} {K:Frag} {mg:Str→Option Value} {base:Heap} {x:Str} {j k:Nat} {F:List D→HD→Out D} (C:CaM P w K mg base x j F) (h:j≤k):CaM P w K mg base x k F:=by
 obtain ⟨f,fd,ps,G,r⟩:=C.ex
 exact ⟨f,fd,ps,⟨fun A outer s H args us vs Q hr=>G.run A outer s H args us vs Q (hr.mono h)⟩,r⟩
structure SaidD (K:Frag) (mg:Str→Option Value) (st:Stmt) (fs:Addr) (fd:FuncData):Prop where
 fn:Fun K "_law_said" "_law_said" st fs fd
 bd:Binds K fd ["_law_call"] []
 mg:mg "_law_said"=some (.ref fs)
structure Zax (st:Stmt):Prop where
 sc:A1 ["_law_call","_law_word","_law_e"] ["_law_call"] (defScope st)
 k0:(defScope st).names.lookup ("_law_call":Str)=some .local
 k1:(defScope st).names.lookup ("_law_word":Str)=some .local
 k2:(defScope st).names.lookup ("_law_e":Str)=some .local
 gS:(defScope st).names.lookup ("SwitchError":Str)=some .globalImplicit
 gK:(defScope st).names.lookup ("_law_kind":Str)=some .globalImplicit
 tx:∃p1 j1 p2 p3 p4 p5 p6 p7 p8 p9 p10 p11 p12 p13 p14 p15 p16,defBody st=[.Assign [.Name "_law_word" p1] (.Constant (.str "told") j1 p2) p3,.Try [.Expr (.Call (.Name "_law_call" p4) [] [] p5) p6] [.ExceptHandler (some (.Name "SwitchError" p7)) (some "_law_e") [.Assign [.Name "_law_word" p8] (.Call (.Name "_law_kind" p9) [.Name "_law_e" p10] [] p11) p12] p13] [] [] p14,.Return (some (.Name "_law_word" p15)) p16]
def Zay (K:Frag) (T:Addr):Bool:=match tabP K with
 |some (c,T')=>T'==T&&codeHdIn K c T
 |none=>false
end LS
namespace LS
open PySem PySem.Spec PyProof.Rows L2
def We {α:Type} (o:Out α) (Q:α→HD→Prop) (R:Str→List (Str×D)→HD→Prop):Prop:=match o with
 |.ok a h=>Q a h
 |.err (.str n _) fs h=>R n fs h
 |_=>False
section
variable {α β:Type} {o:Out α} {Q Q':α→HD→Prop} {R R':Str→List (Str×D)→HD→Prop}
@[simp] theorem Zaz (a:α) (h:HD):We (.ok a h) Q R=Q a h:=rfl
@[simp] theorem ZaA (n:Str) (t:Tok) (fs:List (Str×D)) (h:HD):We (.err (.str n t) fs h:Out α) Q R=R n fs h:=rfl
@[simp] theorem ZaB:We .stuck Q R=False:=rfl
theorem Cj {k:α→HD→Out β} {Q:β→HD→Prop}:We (o.bind k) Q R=We o (fun a h=>We (k a h) Q R) R:=by
 cases o with
 |ok a h=>rfl
 |err C fs h=>cases C<;>rfl
 |stuck=>rfl
theorem We.mono (h:We o Q R) (f:∀a h,Q a h→Q' a h) (g:∀n fs h,R n fs h→R' n fs h):We o Q' R':=by
 cases o with
 |ok a h'=>exact f _ _ h
 |err C fs h'=>cases C<;>first |exact g _ _ _ h |exact h.elim
 |stuck=>exact h
end
def Er {α:Type} (o:Out α) (h:HD) (n:Str):Prop:=We o (fun _ _=>False) fun n' fs h'=>n'=n∧fs=[]∧Sm h h'
section
variable {ρ:Ai} {h:HD} {Q:Fl×Ai→HD→Prop} {QD:D→HD→Prop} {QB:Bool→HD→Prop} {R:Str→List (Str×D)→HD→Prop} {g g1 g2:MS} {f:ME} {t:MT} {fa:MA} {F:List D→HD→Out D}
def KQ (g2:MS) (Q:Fl×Ai→HD→Prop) (R:Str→List (Str×D)→HD→Prop):Fl×Ai→HD→Prop
 |(.nx,ρ),h=>We (g2 ρ h) Q R
 |y,h=>Q y h
@[simp] theorem ZaC:KQ g2 Q R (.nx,ρ) h=We (g2 ρ h) Q R:=rfl
@[simp] theorem ZaD {d:D}:KQ g2 Q R (.rt d,ρ) h=Q (.rt d,ρ) h:=rfl
@[simp] theorem ZaE:We (Aj g1 g2 ρ h) Q R=We (g1 ρ h) (KQ g2 Q R) R:=by
  unfold Aj
  rw [Cj]
  congr 1
  funext x h1
  obtain ⟨fl,ρ1⟩:=x
  cases fl<;>rfl
@[simp] theorem ZaF:We (Bx ρ h) Q R=Q (.nx,ρ) h:=rfl
@[simp] theorem ZaG:We (Cg f ρ h) Q R=We (f ρ h) (fun _ h1=>Q (.nx,ρ) h1) R:=by unfold Cg;rw [Cj];rfl
@[simp] theorem ZaH:We (Ax f ρ h) Q R=We (f ρ h) (fun d h1=>Q (.rt d,ρ) h1) R:=by unfold Ax;rw [Cj];rfl
@[simp] theorem ZaI {i:Nat}:We (AN i f ρ h) Q R=We (f ρ h) (fun d h1=>Q (.nx,ρ.set i (some d)) h1) R:=by unfold AN;rw [Cj];rfl
@[simp] theorem ZaJ:We (Bt t g1 g2 ρ h) Q R=We (t ρ h) (fun b h1=>We (if b=true then g1 ρ h1 else g2 ρ h1) Q R) R:=by unfold Bt;rw [Cj]
@[simp] theorem ZaK:We (Af F fa ρ h) QD R=We (fa ρ h) (fun ds h1=>We (F ds h1) QD R) R:=by unfold Af;rw [Cj]
@[simp] theorem ZaL {n:Str}:We (NI n fa ρ h) Q R=We (fa ρ h) (fun xs h1=>We (if xs.length≤sizeLine then (.err (Hv n) [] h1:Out (Fl×Ai)) else .stuck) Q R) R:=by unfold NI;rw [Cj]
@[simp] theorem ZaM:We (B0 t ρ h) QB R=We (t ρ h) (fun b h1=>QB (!b) h1) R:=by unfold B0;rw [Cj];rfl
@[simp] theorem ZaN {u:MT}:We (Fd t u ρ h) QB R=We (t ρ h) (fun b h1=>We (if b=true then u ρ h1 else .ok false h1) QB R) R:=by unfold Fd;rw [Cj]
@[simp] theorem ZaO {u:MT}:We (B9 t u ρ h) QB R=We (t ρ h) (fun b h1=>We (if b=true then .ok true h1 else u ρ h1) QB R) R:=by unfold B9;rw [Cj]
@[simp] theorem ZaP:We (BO f ρ h) QB R=We (f ρ h) (fun x h1=>We (DZ x h1) QB R) R:=by unfold BO;rw [Cj]
@[simp] theorem ZaQ:We (A5 f ρ h) QB R=We (f ρ h) (fun x h1=>We (Hb x h1) QB R) R:=by unfold A5;rw [Cj]
@[simp] theorem ZaR {QA:List D→HD→Prop}:We (Ad ρ h) QA R=QA [] h:=rfl
@[simp] theorem ZaS {QA:List D→HD→Prop}:We (Ab f fa ρ h) QA R=We (f ρ h) (fun x h1=>We (fa ρ h1) (fun xs h2=>QA (x::xs) h2) R) R:=by
  unfold Ab;simp only [Cj];rfl
@[simp] theorem ZaT {d:D} {r:Ai}:We (Aa 0 (some d::r) h) QD R=QD d h:=rfl
@[simp] theorem ZaU {i:Nat} {x:Option D} {r:Ai}:We (Aa (i+1) (x::r) h) QD R=We (Aa i r h) QD R:=rfl
@[simp] theorem ZaV {d:D}:We (mC d ρ h) QD R=QD d h:=rfl
@[simp] theorem ZaW {op:D→D→HD→Out D} {f':ME}:We (Ag op f f' ρ h) QD R=We (f ρ h) (fun x h1=>We (f' ρ h1) (fun y h2=>We (op x y h2) QD R) R) R:=by unfold Ag;simp only [Cj]
@[simp] theorem ZaX {fj:MJ}:We (KO fj ρ h) QD R=We (fj Str.empty ρ h) (fun x h1=>QD (.str x) h1) R:=by unfold KO;rw [Cj];rfl
end
def Et {α:Type} (o:Out α) (h:HD) (n:Str) (fs:List (Str×D)):Prop:=We o (fun _ _=>False) fun n' fs' h'=>n'=n∧fs'=fs∧Sm h h'
def Rp (n L:Nat) (d:D):Prop:=∃p:PyData,(∀(h:HD) (m:Nat),AB h (n+m) d=some p)∧p.showable=true∧p.hasDict=false∧p.depth≤n∧p.shown.length≤L
section
variable {h:HD} {i j:Int} {ds:List D} {a b:D} {l:Nat} {x y:Str}
@[simp] theorem ZaY:Bb (.str x) (.str y) h=.ok (.bl (!(x==y))) h:=rfl
@[simp] theorem ZaZ:Bz (.str x) (.str y) h=.ok (.bl (x==y)) h:=rfl
@[simp] theorem Za0:Bb (.int i) (.int j) h=.ok (.bl (!(i==j))) h:=rfl
@[simp] theorem UZ:Bz (.int i) (.int j) h=.ok (.bl (i==j)) h:=rfl
@[simp] theorem Za1 {c d:Bool}:Bb (.bl c) (.bl d) h=.ok (.bl (!(c==d))) h:=rfl
@[simp] theorem Za2 {c d:Bool}:Bz (.bl c) (.bl d) h=.ok (.bl (c==d)) h:=rfl
@[simp] theorem Za3 {es:List D}:Bb (.tup ds) (.tup es) h=D1 (.tup ds) (.tup es) h:=rfl
@[simp] theorem Za4 {es:List D}:Bz (.tup ds) (.tup es) h=Ep (.tup ds) (.tup es) h:=rfl
@[simp] theorem Za5:CN (.int i) (.int j) h=CM (.int i) (.int j) h:=rfl
@[simp] theorem U0:CN (.loc l) b h=CM (.loc l) b h:=rfl
@[simp] theorem Za6:Cc (.int i) b h=Bu (.int i) b h:=rfl
@[simp] theorem Za7 {c:Bool}:Cc (.bl c) b h=Bu (.bl c) b h:=rfl
@[simp] theorem Za8:Cc .non b h=Bu .non b h:=rfl
@[simp] theorem Za9:Cc (.str x) b h=Bu (.str x) b h:=rfl
@[simp] theorem Zba:Cc (.tup ds) b h=Bu (.tup ds) b h:=rfl
@[simp] theorem U1:Cc (.loc l) b h=Bu (.loc l) b h:=rfl
@[simp] theorem Zbb {c:Bool}:Bu (.bl c) (.ty "int") h=.ok (.bl true) h:=rfl
@[simp] theorem Zbc {c:Bool}:Bu (.bl c) (.ty "bool") h=.ok (.bl true) h:=rfl
@[simp] theorem Zbd {c:Bool}:Bu (.bl c) (.ty "tuple") h=.ok (.bl false) h:=rfl
@[simp] theorem Zbe:Bu .non (.ty "int") h=.ok (.bl false) h:=rfl
@[simp] theorem Zbf:Bu .non (.ty "tuple") h=.ok (.bl false) h:=rfl
@[simp] theorem Zbg:Bu (.str x) (.ty "int") h=.ok (.bl false) h:=rfl
@[simp] theorem Zbh:Bu (.str x) (.ty "tuple") h=.ok (.bl false) h:=rfl
theorem U2 (e:h[l]?=some (.lst ds)):Bu (.loc l) (.ty "int") h=.ok (.bl false) h:=by
 simp only [Bu,DF,e];rfl
theorem U3 (e:h[l]?=some (.lst ds)):Bu (.loc l) (.ty "tuple") h=.ok (.bl false) h:=by
 simp only [Bu,DF,e];rfl
@[simp] theorem Zbi:Cc .edic (.ty "int") h=.ok (.bl false) h:=rfl
@[simp] theorem Zbj:Cc .edic (.ty "tuple") h=.ok (.bl false) h:=rfl
@[simp] theorem Zbk {ρ:Ai} {c d:D} {i j k l:Nat}:GL [i,j,k,l] (.tup [a,b,c,d]) ρ=some ((((ρ.set i (some a)).set j (some b)).set k (some c)).set l (some d)):=rfl
theorem U4 {xs ys:List D} {k:Nat} (e1:h[l]?=some (.lst xs)) (e2:h[k]?=some (.lst ys)):A2 (.loc l) (.loc k) h=Ca (xs++ys) h:=by simp only [A2,e1,e2]
@[simp] theorem Zbl {chk:D→HD→Out D} {op:D→D→HD→Out D} {f g:ME} {ρ:Ai} {Q:D→HD→Prop}:Wp (N1 chk op f g ρ h) Q=Wp (f ρ h) fun x h1=>Wp (chk x h1) fun x h2=>Wp (g ρ h2) fun y h3=>Wp (op x y h3) Q:=by unfold N1;simp only [Ap]
@[simp] theorem sz6:(6≤sizeLine)=True:=eq_true (by unfold sizeLine;omega)
@[simp] theorem sz7:(7≤sizeLine)=True:=eq_true (by unfold sizeLine;omega)
@[simp] theorem sz8:(8≤sizeLine)=True:=eq_true (by unfold sizeLine;omega)
@[simp] theorem sz9:(9≤sizeLine)=True:=eq_true (by unfold sizeLine;omega)
@[simp] theorem Zbm:(10≤sizeLine)=True:=eq_true (by unfold sizeLine;omega)
end
section
variable {ρ:Ai} {h:HD} {Q:Str→HD→Prop} {R:Str→List (Str×D)→HD→Prop} {acc y:Str} {r:MJ} {f:ME} {n:Nat} {i:Int}
end
end LS
namespace LS
open PySem PySem.Spec PyProof.Rows L2 PySem.W
section
variable {X:Cx} {E:XK}
def Zbn:D→HD→Out D:=fun x h=>match BA x h with
 |some ds=>Ca ds h
 |none=>.stuck
def Zbo (T:List (Str×(List D→HD→Out D))) (fv:ME) (fa:MA):ME:=fun ρ h=>(fv ρ h).bind fun d h1=>match d with
 |.glo n=>(match T.lookup n with
  |some F=>(fa ρ h1).bind F
  |none=>.stuck)
 |_=>.stuck
def Zbp (P:Program) (w:World) (K:Frag) (mg:Str→Option Value) (base:Heap) (k:Nat) (T:List (Str×(List D→HD→Out D))):Prop:=∀n F,T.lookup n=some F→CaE P w K mg base n k F
theorem CaE.mono {P:Program} {w:World} {K:Frag} {mg:Str→Option Value} {base:Heap} {x:Str} {j k:Nat} {F:List D→HD→Out D} (C:CaE P w K mg base x j F) (h:j≤k):CaE P w K mg base x k F:=by
 obtain ⟨f,fd,ps,G,r⟩:=C.ex
 exact ⟨f,fd,ps,G.mono h,r⟩
end
def Zbq (K:Frag) (c:Addr):Bool:=match tabP K with
 |some (c',T)=>c'==c&&codeHdIn K c T
 |none=>false
section
variable {prog:Program} {w:World} {A:Around} {E:Str→Value→Shared→Prop}
end
section
variable {X:Cx} {E:XK}
def U5 (K:PySem.W.Frag):V→Option Int→Option Int→Hp→VK→Prop:=fun x lo hi H Q=>∃a xs,x=.ref a∧SqT K H a xs∧HT.sIx xs.length 0 lo=0∧HT.sIx xs.length xs.length hi=xs.length∧Q (.ref a) H
theorem sl_whole:SlR X (U5 X.K):=by
 rintro pins s σ H x v vl vu lo hi sl Q I rx hs pl pu ⟨a,xs,rfl,hx,w0,w1,q⟩
 cases rx
 obtain ⟨its,r,ht,hz⟩:=I.tuple hx
 have hl:its.toArray.size=xs.length:=by rw [A7];exact r.length.symm
 rw [←hl] at w0 w1
 obtain ⟨os,hos,hcs,hds⟩:=id hs
 refine ⟨"tuple",_,slot_tuple_getitem.lookup,ht.typeIs,?_⟩
 unfold getItem
 try with_reducible refine wpAny_holding ?_
 first |refine wpAny_bind (wpAny_pure ?_) |skip
 refine wpAny_bind (wpAny_sequenceKey ht.typeIs (by decide) (wpAny_bind (wpAny_callSpecial?_slot (name:=Str.ofString "__getitem__") ht.typeIs slot_tuple_getitem
  (wpAny_call_entry slot_tuple_getitem ht.typeIs entry_tuple_getitem ?_ (args_tuple_getitem _ _)))))
 show wpAny _ _ (Builtin.Tuple.tupleItemsOf (.ref a) >>=_) _ _ s
 refine wpAny_bind (tupleItemsOf_ ht (wpAny_bind (wpAny_typeOf (show s.TypeIs (.ref sl) "slice" from ⟨os,hos,hcs⟩) ?_)))
 rw [if_pos (by decide)]
 refine wpAny_bind (HT.sliceApplied_gen hs pl pu ?_)
 have hy:(((HT.sIx its.toArray.size 0 lo:Nat):Int)==0&&(1:Int)==1&&(HT.sIx its.toArray.size its.toArray.size hi - HT.sIx its.toArray.size 0 lo)==its.toArray.size)=true:=by
  rw [w0,w1]
  simp
 show wpAny _ _ (if (((HT.sIx its.toArray.size 0 lo:Nat):Int)==0&&(1:Int)==1&&(HT.sIx its.toArray.size its.toArray.size hi - HT.sIx its.toArray.size 0 lo)==its.toArray.size)=true then _ else _) _ _ s
 rw [if_pos hy]
 unfold Builtin.Tuple.tupleIsExact
 refine wpAny_bind (wpAny_bind (wpAny_typeOf ht.typeIs (wpAny_pure ?_)))
 rw [if_pos (by decide)]
 refine wpAny_bind (wpAny_rule ?_)
 have A4:EP X pins σ Q (.ref a) s:=⟨.ref a,H,I,rfl,q⟩
 first
  |exact wpAny_pure ⟨_,rfl,wpAny_pure A4⟩
  |exact wpAny_pure A4
def HB (x:D) (lo hi:Option Int) (h:HD):Out D:=match x with
 |.tup xs=>.ok (.tup (cutD xs lo hi)) h
 |_=>.stuck
def Fs (f:ME) (lo hi:MO):ME:=fun ρ h=>(f ρ h).bind fun x h1=>(lo ρ h1).bind fun l h2=>(hi ρ h2).bind fun u h3=>HB x l u h3
theorem U6 {α:Type} {xs:List α} {lo hi:Option Int} (h0:HT.sIx xs.length 0 lo=0) (h1:HT.sIx xs.length xs.length hi=xs.length):(xs.drop (HT.sIx xs.length 0 lo)).take (HT.sIx xs.length xs.length hi - HT.sIx xs.length 0 lo)=xs:=by
 rw [h0,h1];simp
theorem N7 {e:Expr} {lo hi:Option Expr} {f:ME} {fl fh:MO} {p2 pos:Pos} (he:Ev X E e f) (hl:Jn X E lo fl) (hu:Jn X E hi fh):Ev X E (.Subscript e (.Slice lo hi none p2) pos) (Fs f fl fh):=
 BM (R6 (sl_whole.or R9) he hl hu) fun σ H Q ⟨m,ρ,h,hr,er,p⟩=>⟨m,ρ,h,hr,er,Post.bind p fun x h1 v m1 H1 eo1 p1 k1 hr1 r1 q1=>
  ⟨m1,ρ,h1,hr1,er.keep p1 k1,Post.bind q1 fun l h2 l' m2 H2 eo2 p2 k2 hr2 r2 q2=>
   ⟨m2,ρ,h2,hr2,(er.keep p1 k1).keep p2 k2,Post.bind q2 fun u h3 u' m3 H3 eo3 p3 k3 hr3 r3 q3=>by
    clear eo1 eo2 eo3
    subst r2 r3
    have rx:=DV.keep p3 k3 (DV.keep p2 k2 r1)
    unfold HB at q3
    split at q3
    ·rename_i xs
     have rx0:=rx
     simp only [DV] at rx
     obtain ⟨a,vs,rfl,ha,dv⟩:=rx
     by_cases hz:HT.sIx xs.length 0 l=0∧HT.sIx xs.length xs.length u=xs.length
     ·refine .inl ⟨a,vs,rfl,SqT.of ha,by rw [←dv.len];exact hz.1,by rw [←dv.len];exact hz.2,?_⟩
      have e:cutD xs l u=xs:=U6 hz.1 hz.2
      rw [e] at q3
      exact q3 (.ref a) m3 H3 (Aw _) (.refl _) hr3 rx0
     ·rw [dv.len] at hz
      exact .inr ⟨a,vs,rfl,SqT.of ha,hz,Gr hr3 (dv.cut l u) q3⟩
    ·exact q3.elim⟩⟩⟩
end
section
variable {f:ME} {lo hi:MO} {ρ:Ai} {h:HD} {Q:D→HD→Prop}
@[simp] theorem Zbr:Wp (Fs f lo hi ρ h) Q=Wp (f ρ h) fun x h1=>Wp (lo ρ h1) fun l h2=>Wp (hi ρ h2) fun u h3=>Wp (HB x l u h3) Q:=by unfold Fs;simp only [Ap]
end
section
variable {K:Frag} {mg:Str→Option Value} {h:Heap}
theorem U7 {us:List Value} (h:us.length=0):us=[]:=List.length_eq_zero_iff.mp h
theorem N8 {us:List Value} (h:us.length=1):∃v0,us=[v0]:=by
 cases us with
 |nil=>cases h
 |cons v t=>
  obtain rfl:=U7 (Nat.succ.inj h)
  exact ⟨v,rfl⟩
theorem N9 {us:List Value} (h:us.length=2):∃v0 v1,us=[v0,v1]:=by
 cases us with
 |nil=>cases h
 |cons v t=>
  obtain ⟨w0,rfl⟩:=N8 (Nat.succ.inj h)
  exact ⟨v,w0,rfl⟩
theorem U8 {us:List Value} (h:us.length=3):∃v0 v1 v2,us=[v0,v1,v2]:=by
 cases us with
 |nil=>cases h
 |cons v t=>
  obtain ⟨w0,w1,rfl⟩:=N9 (Nat.succ.inj h)
  exact ⟨v,w0,w1,rfl⟩
theorem CO {x p0:Str} {st:Stmt} {f:Addr} {oc:Value} {od an:Option Addr} {osl:Array (Option Value)} {kV doc pm cdv ct:Value} (X:K.In h) (G:h.Ns mainGlobals mg) (l:K.lookup f=some ⟨oc,od,.func (fnOf x x (defArgs st) (defBody st) (defScope st) .none kV doc pm an cdv ct),osl⟩) (c:codeIn K cdv x=true) (k:keepIn K (.ref f)=true) (a:nsIn K mainGlobals x=some (some (.ref f)))
 (b:∀(kV doc pm:Value) (an:Option Addr) (cdv ct v0:Value),bindArgs (fnOf x x (defArgs st) (defBody st) (defScope st) .none kV doc pm an cdv ct) ⟨[v0],[]⟩=pure (([p0]:List Str).zip [v0])):Dn K mg x [p0] st f (fnOf x x (defArgs st) (defBody st) (defScope st) .none kV doc pm an cdv ct):=
 ⟨Gm l c k,(Gm l c k).binds (fun kV doc pm an cdv ct us hl=>by obtain ⟨v0,rfl⟩:=N8 hl;exact b kV doc pm an cdv ct v0),mg_of X G a⟩
theorem CA {x p0 p1:Str} {st:Stmt} {f:Addr} {oc:Value} {od an:Option Addr} {osl:Array (Option Value)} {kV doc pm cdv ct:Value} (X:K.In h) (G:h.Ns mainGlobals mg) (l:K.lookup f=some ⟨oc,od,.func (fnOf x x (defArgs st) (defBody st) (defScope st) .none kV doc pm an cdv ct),osl⟩) (c:codeIn K cdv x=true) (k:keepIn K (.ref f)=true) (a:nsIn K mainGlobals x=some (some (.ref f)))
 (b:∀(kV doc pm:Value) (an:Option Addr) (cdv ct v0 v1:Value),bindArgs (fnOf x x (defArgs st) (defBody st) (defScope st) .none kV doc pm an cdv ct) ⟨[v0,v1],[]⟩=pure (([p0,p1]:List Str).zip [v0,v1])):Dn K mg x [p0,p1] st f (fnOf x x (defArgs st) (defBody st) (defScope st) .none kV doc pm an cdv ct):=
 ⟨Gm l c k,(Gm l c k).binds (fun kV doc pm an cdv ct us hl=>by obtain ⟨v0,v1,rfl⟩:=N9 hl;exact b kV doc pm an cdv ct v0 v1),mg_of X G a⟩
theorem KR {x p0 p1 p2:Str} {st:Stmt} {f:Addr} {oc:Value} {od an:Option Addr} {osl:Array (Option Value)} {kV doc pm cdv ct:Value} (X:K.In h) (G:h.Ns mainGlobals mg) (l:K.lookup f=some ⟨oc,od,.func (fnOf x x (defArgs st) (defBody st) (defScope st) .none kV doc pm an cdv ct),osl⟩) (c:codeIn K cdv x=true) (k:keepIn K (.ref f)=true) (a:nsIn K mainGlobals x=some (some (.ref f)))
 (b:∀(kV doc pm:Value) (an:Option Addr) (cdv ct v0 v1 v2:Value),bindArgs (fnOf x x (defArgs st) (defBody st) (defScope st) .none kV doc pm an cdv ct) ⟨[v0,v1,v2],[]⟩=pure (([p0,p1,p2]:List Str).zip [v0,v1,v2])):Dn K mg x [p0,p1,p2] st f (fnOf x x (defArgs st) (defBody st) (defScope st) .none kV doc pm an cdv ct):=
 ⟨Gm l c k,(Gm l c k).binds (fun kV doc pm an cdv ct us hl=>by obtain ⟨v0,v1,v2,rfl⟩:=U8 hl;exact b kV doc pm an cdv ct v0 v1 v2),mg_of X G a⟩
theorem SaidD.of {st:Stmt} {f:Addr} {fd:FuncData} (d:Dn K mg "_law_said" ["_law_call"] st f fd):SaidD K mg st f fd:=⟨d.fn,d.bd,d.mg⟩
end
open AutoSeq1 (wpAny_loadPart')
section
variable {prog:Program} {w:World} {A:Around} {E:Value→Shared→Prop} {s:Shared}
end
def Oa (r:Addr) (n:Nat) (h:Heap):Prop:=∃t u v,IsRange h r 0 (n:Int) 1 t u v
section
variable {X:Cx} {E:XK}
inductive U9 (vs:List V) (H:Hp) (Q:VK):Prop where
 |mk (n:Nat) (e:vs=[.int (n:Int)]) (hn:n≤1000) (q:∀p,H p=none→Q (.ref p) (Am H p (.ext (Oa p n)))):U9 vs H Q
inductive Va (vs:List V) (H:Hp) (Q:VK):Prop where
 |mk (r:Addr) (n:Nat) (e:vs=[.ref r]) (hr:H r=some (.ext (Oa r n))) (hn:n≤1000) (q:∀p,H p=none→Q (.ref p) (Am H p (.tup ((List.range n).map fun i=>V.int ((i:Nat):Int))))):Va vs H Q
noncomputable def Vb:D→HD→Out D:=fun d h=>match d with
 |.int i=>@ite _ (0≤i∧i≤1000) (Classical.propDecidable _) (.ok (.tup ((List.range i.toNat).map fun k=>D.int ((k:Nat):Int))) h) .stuck
 |_=>.stuck
noncomputable def Zbs (f:ME):ME:=fun ρ h=>(f ρ h).bind Vb
end
end LS
namespace LS
open PySem PySem.Spec PyProof.Rows L2 PySem.W
section
variable {X:Cx} {E:XK}
def Vc:D→HD→Out D:=fun x h=>match x with
 |.tup _=>.ok x h
 |_=>.stuck
def Zbt:D→D→HD→Out D:=fun x y h=>(Vc x h).bind fun _ _=>N3 x y h
mutual
def KS:PyData→Bool
 |.list _=>false
 |.tuple xs=>KU xs
 |_=>true
def KU:List PyData→Bool
 |[]=>true
 |x::xs=>KS x&&KU xs
end
def KW (h:HD):Nat→D→Option PyData
 |_,.non=>some .none
 |_,.bl b=>some (.bool b)
 |_,.int i=>some (.int i)
 |_,.str x=>some (.str x)
 |_,.edic=>some (.dict [])
 |n+1,.tup ds=>(AZ (ds.map (KW h n))).map .tuple
 |n+1,.loc l=>match h[l]? with
  |some (.lst ds)=>(AZ (ds.map (KW h n))).map .list
  |_=>none
 |_,_=>none
inductive Vd (h:Heap) (u:Value) (p:PyData):Prop where
 |mk (as:List Addr) (f1:Reads h u p as) (f2:KS p=true→sysModules∉as):Vd h u p
inductive Ve (h:Heap) (us:List Value) (ps:List PyData):Prop where
 |mk (as:List Addr) (f1:ReadsAll h us ps as) (f2:KU ps=true→sysModules∉as):Ve h us ps
variable {pins:List (Addr×Obj)} {σ:L2.St} {H:Hp} {s:Shared} {m:List Addr} {h:HD}
def Zbu:D→HD→Out D:=fun x h=>match KW h 8 x with
 |some p=>if p.showable=true∧(p.hasDict=false∨KS p=true)∧p.depth≤40∧p.shown.length≤sizeLine then .ok (.str p.shown) h else .stuck
 |none=>.stuck
end
end LS
namespace HT
open PySem PyProof.Rows
def lexLe:List Int→List Int→Bool
 |[],[]=>true
 |[],_::_=>true
 |_::_,[]=>false
 |x::xs,y::ys=>if x=y then lexLe xs ys else decide (x≤y)
section
open PySem.SeqAt
open PySem.AutoSeq1 (wpAny_loadPart')
open PySem.MeetsSeq PySem.MeetsSeq2 PySem.MeetsSeq3
end
section
variable {prog:Program} {w:World} {A:Around} {E:Value→Shared→Prop} {s:Shared}
end
end HT
namespace L2
open PySem PySem.Spec PyProof.Rows
section
variable {X:Cx}
def Zbv (K:PySem.W.Frag):R2:=fun x y H Q=>∃a b ns ms,x=.ref a∧y=.ref b∧SqT K H a (ns.map V.int)∧SqT K H b (ms.map V.int)∧Q (.bl (HT.lexLe ns ms)) H
end
end L2
namespace LS
open PySem PySem.Spec PyProof.Rows L2
section
variable {X:Cx} {E:XK}
def Ob:D→Option (List Int)
 |.tup ds=>AZ (ds.map Km)
 |_=>none
def Zbw (f:List Int→List Int→Bool):D→D→HD→Out D:=fun x y h=>match Ob x,Ob y with
 |some ns,some ms=>.ok (.bl (f ns ms)) h
 |_,_=>.stuck
end
section
variable {prog:Program} {w:World} {A:Around} {E:Value→Shared→Prop} {s:Shared}
end
section
variable {X:Cx} {E:XK} {e:Expr} {f:ME}
def Vf:D→HD→Out D:=fun x h=>match x with
 |.tup ds=>.ok (.tup ds.reverse) h
 |_=>.stuck
def Zbx (f:ME):ME:=fun ρ h=>(f ρ h).bind Vf
end
end LS
namespace LS
open PySem
section
variable {prog:Program} {w:World} {A:Around} {E:Value→Shared→Prop} {h:Heap} {g:Array GenState} {d:Drawn} {t:Nat} {os:OsState}
variable {nm q:Str} {C N:Addr} {bs bm bmB:List Value} {hdct:Bool} {sn:List Str} {sub:List Value} {ab:Bool} {col:Option Bool} {dd:Option Addr} {k0 k1 k2 k3 k5:Option Value} {B newId initId:String}
end
end LS
namespace LS
open PySem PySem.Spec PyProof.Rows L2
def Zby (i j k:Nat):MG:=fun d ρ=>match d with
 |.tup [x,.tup [y,z]]=>some (((ρ.set i (some x)).set j (some y)).set k (some z))
 |_=>none
abbrev Zbz (K:PySem.W.Frag) (i j k:Nat):TG:=Fb K 2 (Df (BZ i) (Df (Fb K 2 (Df (BZ j) (Df (BZ k) E9))) E9))
def Ck (elt:Expr) (gens:List Comprehension) (scope:Scope) (pos:Pos) (d:Nat) (acc:Value) (env:Env):Sem Unit:=match gens[d+1]? with
 |some g=>eval g.iter env >>=fun x=>standAt g.iter.pos >>=fun _=>foldedSetIterable g.iter env x >>=fun y=>holding [y] (pyIter y) >>=fun it=>
  runOwn (.compStart (.ListComp elt gens scope pos) (d+1) it acc env) env >>=fun _=>pure ()
 |none=>eval elt env >>=fun x=>call (.builtin "list.append") [acc,x] >>=fun _=>pure ()
theorem Vg {elt tg iter:Expr} {gens:List Comprehension} {ifs:List Expr} {scope:Scope} {pos:Pos} {d:Nat} {it acc:Value} {env:Env} (hg:gens[d]?=some ⟨tg,iter,ifs,0⟩) (ha:∀g,gens[d+1]?=some g→g.is_async=0):
 compTurn (.ListComp elt gens scope pos) d it acc env=standAt iter.pos >>=fun _=>pyNext it >>=fun r=>match r with
  |none=>pure (.done .next)
  |some v=>letOwnedTupleGo tg it v >>=fun _=>assign tg env v >>=fun _=>(forIn ifs true fun c r=>if r=true then do let ok ←isTrue c env (eval c env);pure (ForInStep.yield ok) else pure (ForInStep.yield r)) >>=fun ok=>
   if ok=true then Ck elt gens scope pos d acc env >>=fun _=>again (.compLoop (.ListComp elt gens scope pos) d it acc env) else again (.compLoop (.ListComp elt gens scope pos) d it acc env):=by
 unfold compTurn Ck
 simp only [hg]
 cases e:gens[d+1]? with
 |none=>rfl
 |some g=>
  obtain ⟨a,b,c,k⟩:=g
  have:k=0:=ha _ e
  subst this
  simp only [bind_assoc,pure_bind]
  rfl
section
variable {prog:Program} {w:World} {A:Around} {R:Result→Shared→Prop} {s:Shared} {elt tg iter:Expr} {gens:List Comprehension} {ifs:List Expr} {scope:Scope} {pos:Pos} {d:Nat} {it acc:Value} {env:Env}
theorem Vh (hg:gens[d]?=some ⟨tg,iter,ifs,0⟩) (ha:∀g,gens[d+1]?=some g→g.is_async=0) (I:Nat→Shared→Prop)
 (turn:∀n s,I n s→wpAny (model prog w) A (pyNext it) (fun r s₁=>match r with
  |none=>R (.ok .next) s₁
  |some v=>wpAny (model prog w) A (letOwnedTupleGo tg it v) (fun _ s₁'=>wpAny (model prog w) A (assign tg env v) (fun _ s₂=>
   wpAny (model prog w) A (forIn ifs true fun c r=>if r=true then do let ok ←isTrue c env (eval c env);pure (ForInStep.yield ok) else pure (ForInStep.yield r)) (fun ok s₃=>
    if ok=true then wpAny (model prog w) A (Ck elt gens scope pos d acc env) (fun _ s₅=>∃m,m<n∧I m s₅) (fun _ _=>False) s₃ else ∃m,m<n∧I m s₃) (fun _ _=>False) s₂) (fun _ _=>False) s₁') (fun _ _=>False) s₁) (fun _ _=>False) s)
 (n:Nat) (h:I n s):codeAny (model prog w) A (.compLoop (.ListComp elt gens scope pos) d it acc env) R s:=by
 refine codeAny_loop rfl I (fun n s hI=>?_) n h
 show wpAny _ A ((compTurn (.ListComp elt gens scope pos) d it acc env).onRaise (fun x=>do noteFrame x env;theTreesLotGoes x)) _ _ s
 refine wpAny_noted ?_
 rw [Vg hg ha]
 refine wpAny_bind (wpAny_standAt (wpAny_bind (wpAny_mono (turn n s hI) (fun r s₁ h₁=>?_) fun _ _ h'=>h'.elim)))
 cases r with
 |none=>exact wpAny_pure h₁
 |some v=>
  refine wpAny_bind (wpAny_mono h₁ (fun _ s₁' h₁'=>?_) fun _ _ h'=>h'.elim)
  refine wpAny_bind (wpAny_mono h₁' (fun _ s₂ h₂=>wpAny_bind (wpAny_mono h₂ (fun ok s₃ h₃=>?_) fun _ _ h'=>h'.elim)) fun _ _ h'=>h'.elim)
  cases ok with
  |false=>exact wpAny_pure ⟨rfl,h₃⟩
  |true=>exact wpAny_bind (wpAny_mono h₃ (fun _ s₅ h₅=>wpAny_pure ⟨rfl,h₅⟩) fun _ _ h'=>h'.elim)
theorem Oc (hg:gens[d]?=some ⟨tg,iter,ifs,0⟩)
 (h0:codeAny (model prog w) A (.compLoop (.ListComp elt gens scope pos) d it acc env) R s)
 (h:wpAny (model prog w) A (pyIter it) (fun it' s'=>codeAny (model prog w) A (.compLoop (.ListComp elt gens scope pos) d it' acc env) R s') (fun _ _=>False) s):
 codeAny (model prog w) A (.compStart (.ListComp elt gens scope pos) d it acc env) R s:=by
 refine codeAny_of_tree ?_
 show wpAny _ _ ((compStart (.ListComp elt gens scope pos) d it acc env).onRaise (fun x=>do noteFrame x env;standAt theWindowsPlace)) _ _ s
 refine wpAny_notedAt ?_
 have hc:(clausesOf (.ListComp elt gens scope pos))[d]?=some ⟨tg,iter,ifs,0⟩:=hg
 unfold compStart
 rw [hc]
 show wpAny _ _ (ask >>=_) _ _ s
 refine wpAny_bind (wpAny_askSetting (wpAny_ite ?_))
 split
 ·first
   |exact wpAny_bind (wpAny_pure (wpAny_pure ⟨rfl,h0⟩))
   |exact wpAny_pure ⟨rfl,h0⟩
 ·refine wpAny_bind (wpAny_rule ?_)
  show wpAny _ _ (standAt iter.pos >>=_) _ _ s
  exact wpAny_bind (wpAny_standAt (wpAny_bind (wpAny_mono h (fun it' s' h'=>wpAny_pure ⟨rfl,h'⟩) fun _ _ x=>x.elim)))
end
abbrev B6 (its:List Value) (k:Nat):Obj:={cls:=.type "list",data:=.seq its.toArray k}
structure Ft (X:Cx) (D:Addr):Prop where
 lo:D≠X.env.locals
 ce:∀x c,X.env.cells.lookup x=some c→c≠D
 pn:∀p∈X.pn,p.1≠D
 ex:D∈X.ex
 fs:D∉X.fs
section
variable {X:Cx} {D:Addr} {its its':List Value} {k k':Nat} {rest:List (Addr×Obj)} {σ:L2.St} {H:Hp} {s:Shared} {h':Heap}
theorem Inv.repin (ao:Ft X D) (I:Inv X ((D,B6 its k)::rest) σ H s) (hr:∀p∈rest,p.1≠D) (sb:Heap.SameBut D s.heap h') (e:h'.get? D=some (B6 its' k')):Inv X ((D,B6 its' k')::rest) σ H {s with heap:=h'}:=by
 have hD:=(I.pin _ (By _ AI)).2.1
 have I1:Inv X rest σ H s:=I.pins_of fun p hp=>I.pin p (By _ (AU _ hp))
 have I2:Inv X rest σ H {s with heap:=h'}:=I1.turned (t':=s.toks) (it:=D) (fun b o hb e=>(sb.2 b hb).trans e) hD ao.lo (.inl ao.ex) ao.ce fun p hp=>by
  rcases qaL.mp hp with z |z
  ·exact ao.pn p z
  ·exact hr p z
 refine I2.pins_of fun p hp=>?_
 rcases qa9.mp hp with rfl |z
 ·exact ⟨e,hD,ao.lo,ao.fs,fun v z=>by cases z⟩
 ·exact I2.pin p (By _ z)
def EM (X:Cx) (D:Addr) (em:Sem Unit) (te:L2.St→Hp→List V→(List V→Hp→Prop)→Prop):Prop:=
 ∀(rest:List (Addr×Obj)) (its:List Value) (k:Nat) (acc:List V) (σ:L2.St) (H:Hp) (s:Shared) (Q:List V→Hp→Prop),Inv X ((D,B6 its k)::rest) σ H s→(∀p∈rest,p.1≠D)→Vals acc its→te σ H acc Q→
  wpAny (model X.prog X.w) X.A em (fun _ s'=>∃its' k' acc' H',Inv X ((D,B6 its' k')::rest) σ H' s'∧Vals acc' its'∧Q acc' H') (fun _ _=>False) s
def Od (te:TE):L2.St→Hp→List V→(List V→Hp→Prop)→Prop:=fun σ H acc Q=>acc.length<sizeLine∧te σ H fun y H'=>Q (acc++[y]) H'
theorem Vi {elt:Expr} {gens:List Comprehension} {scope:Scope} {pos:Pos} {d:Nat} {te:TE} (ao:Ft X D) (xe:X.xe=fun _ _=>False) (hl:gens[d+1]?=none) (pe:PE X elt te):EM X D (Ck elt gens scope pos d (.ref D) X.env) (Od te):=by
 rintro rest its k acc σ H s Q I hr rv ⟨hz,h⟩
 unfold Ck
 rw [hl]
 have z:=pe _ s σ H _ I h
 rw [xe] at z
 refine wpAny_bind (wpAny_mono z (fun y s1 z1=>?_) fun _ _ z=>z.elim)
 obtain ⟨yv,H1,I1,r1,q1⟩:=z1
 obtain ⟨ho,hD,_⟩:=I1.pin _ (By _ AI)
 have hlen:=rv.length
 refine wpAny_bind (wpAny_list_append_plain ⟨k,ho⟩ (fun h' z2 sb=>?_) (by rw [A7];omega))
 obtain ⟨k',hl'⟩:=z2
 refine wpAny_pure ⟨its++[y],k',acc++[yv],H1,Inv.repin ao I1 hr sb (by rw [hl'];simp [B6]),rv.append (.cons r1 .nil),q1⟩
theorem Vj {o o':Obj} {H':Hp} {b:Addr} (f:Cr X ((D,o)::rest) H b) (n:H' b=none):Cr X ((D,o')::rest) H' b:=by
 obtain ⟨_,f1,f2,f3,f4,f5⟩:=f
 refine ⟨n,f1,f2,f3,f4,fun p hp=>?_⟩
 rcases qaL.mp hp with z |z
 ·exact f5 p (GX _ z)
 ·rcases qa9.mp z with rfl |z
  ·exact f5 (D,o) (By _ AI)
  ·exact f5 p (By _ (AU _ z))
def Oe (wi:TI) (g:TG) (tc:TT) (te:L2.St→Hp→List V→(List V→Hp→Prop)→Prop):L2.St→Hp→List V→(List V→Hp→Prop)→Prop:=fun σ H acc Q=>wi σ H fun J H1=>∃W:Nat→Nat→List V→Hp→Prop,(∃n,W 0 n acc H1)∧∀i n acc H,W i n acc H→
 (J.stop i H∧Q acc H)∨
 (J.go i H∧∀x H',J.yld i H x H'→g x σ H' fun σ2 H2=>Sub σ σ2∧tc σ2 H2 fun b H3=>if b=true then te σ2 H3 acc fun acc' H4=>∃n',n' < n∧W (i+1) n' acc' H4 else ∃n',n' < n∧W (i+1) n' acc H3)
inductive KY (X:Cx) (D:Addr) (rest:List (Addr×Obj)) (σ:L2.St) (W:Nat→Nat→List V→Hp→Prop) (tn:Nat→Heap→Prop) (fp:List Addr) (n:Nat) (s':Shared):Prop where
 |mk (i:Nat) (acc:List V) (H':Hp) (its:List Value) (k:Nat) (w:W i n acc H') (ii:Inv X ((D,B6 its k)::rest) σ H' s') (st:tn i s'.heap) (fr:∀b∈fp,H' b=none) (rv:Vals acc its):KY X D rest σ W tn fp n s'
theorem Of {elt tg iter:Expr} {gens:List Comprehension} {ifs:List Expr} {scope:Scope} {pos:Pos} {d:Nat} {g:TG} {tc:TT} {te:L2.St→Hp→List V→(List V→Hp→Prop)→Prop} {R:Result→Shared→Prop} {it:Addr} {fp:List Addr} {tn:Nat→Heap→Prop} {J:It} {W:Nat→Nat→List V→Hp→Prop} {QQ:List V→Hp→Prop}
 (xe:X.xe=fun _ _=>False) (xc:X.calm=true) (hg:gens[d]?=some ⟨tg,iter,ifs,0⟩) (ha:∀g,gens[d+1]?=some g→g.is_async=0) (pg:PG X tg g) (pt:Ey X ifs tc) (em:EM X D (Ck elt gens scope pos d (.ref D) X.env) te)
 (T:EL X.prog X.w X.K tg J fp it tn) (f:∀b∈fp,∀o H',H' b=none→Cr X ((D,o)::rest) H' b) (hr:∀p∈rest,p.1≠D)
 (turn:∀i n acc H,W i n acc H→(J.stop i H∧QQ acc H)∨
  (J.go i H∧∀x H',J.yld i H x H'→g x σ H' fun σ2 H2=>Sub σ σ2∧tc σ2 H2 fun b H3=>if b=true then te σ2 H3 acc fun acc' H4=>∃n',n' < n∧W (i+1) n' acc' H4 else ∃n',n' < n∧W (i+1) n' acc H3))
 (A4:∀its k acc H' s',Inv X ((D,B6 its k)::rest) σ H' s'→Vals acc its→QQ acc H'→R (.ok .next) s') (n:Nat) (h:KY X D rest σ W tn fp n s):
 codeAny (model X.prog X.w) X.A (.compLoop (.ListComp elt gens scope pos) d (.ref it) (.ref D) X.env) R s:=by
 refine Vh hg ha (KY X D rest σ W tn fp) ?_ n h
 rintro n s5 ⟨i,acc,H5,its,k,w5,I5,DP,fr5,rv5⟩
 have fk:∀{H':Hp},(∀b∈fp,H' b=none)→∀b∈fp,Cr X ((D,B6 its k)::rest) H' b:=fun hn b hb=>f b hb _ _ (hn b hb)
 rcases turn i n acc H5 w5 with ⟨stop,qn⟩ |⟨go,step⟩
 ·refine wpAny_mono (T.done X rfl rfl rfl xc i _ s5 σ H5 (fun _ _=>False) I5 (fk fr5) DP stop) (fun r s6 z=>?_) fun _ _ z=>z
  obtain ⟨rfl,I6⟩:=z
  exact A4 its k acc H5 s6 I6 rv5 qn
 ·refine wpAny_mono (T.item X rfl rfl rfl xc i _ s5 σ H5 (fun _ _=>False) I5 (fk fr5) DP go) (fun r s6 z=>?_) fun _ _ z=>z
  obtain ⟨u,rfl,h6⟩:=z
  refine wpAny_mono h6 (fun _ s7 z=>?_) fun _ _ z=>z
  obtain ⟨x,H7,I7,r7,y7,EH,fr7⟩:=z
  have I7':Inv X ((D,B6 its k)::(rest++EN fp s7.heap)) σ H7 s7:=I7.pinned (fp:=fp) (fk fr7) (T.obj _ _ EH)
  have hr':∀p∈rest++EN fp s7.heap,p.1≠D:=fun p hp=>by
   rcases qaL.mp hp with z |z
   ·exact hr p z
   ·obtain ⟨hb,_⟩:=L9 z
    exact Ne.symm ((f p.1 hb (B6 its k) H7 (fr7 p.1 hb)).2.2.2.2.2 (D,B6 its k) (By _ AI))
  have z2:=pg _ s7 σ H7 x u _ I7' r7 (step x H7 y7)
  rw [xe] at z2
  refine wpAny_mono z2 (fun _ s8 z=>?_) fun _ _ z=>z
  obtain ⟨σ8,H8,I8,sub8,q8⟩:=z
  have z3:=pt _ s8 σ8 H8 _ I8 q8
  rw [xe] at z3
  refine wpAny_mono z3 (fun ok s9 z=>?_) fun _ _ z=>z
  obtain ⟨H9,I9,q9⟩:=z
  have back:∀{sy:Shared} {Hy:Hp} {its':List Value} {k':Nat},Inv X ((D,B6 its' k')::(rest++EN fp s7.heap)) σ8 Hy sy→
   Inv X ((D,B6 its' k')::rest) σ Hy sy∧tn (i+1) sy.heap∧∀b∈fp,Hy b=none:=fun {sy Hy its' k'} Iy=>by
   have at_:∀b∈fp,∀o,s7.heap.get? b=some o→sy.heap.get? b=some o∧Hy b=none:=fun b hb o e=>by
    obtain ⟨z1,z2,_⟩:=Iy.pin (b,o) (By _ (AU _ (By _ (G6 hb e))))
    exact ⟨z1,z2⟩
   refine ⟨(Iy.pins_of fun p hp=>Iy.pin p (By _ ?_)).weak sub8.1 fun j v z=>sub8.2 j v z,T.keep _ _ _ EH fun b hb o e=>(at_ b hb o e).1,fun b hb=>?_⟩
   ·rcases qa9.mp hp with rfl |z
    ·exact AI
    ·exact AU _ (GX _ z)
   ·obtain ⟨o,e,_⟩:=T.obj _ _ EH b hb
    exact (at_ b hb o e).2
  cases ok with
  |false=>
   simp only [BK,if_false] at q9 ⊢
   obtain ⟨n',hn',w'⟩:=q9
   obtain ⟨a1,a2,a3⟩:=back I9
   exact ⟨n',hn',i+1,acc,H9,its,k,w',a1,a2,a3,rv5⟩
  |true=>
   simp only [if_true] at q9 ⊢
   refine wpAny_mono (em _ its k acc σ8 H9 s9 _ I9 hr' rv5 q9) (fun _ s10 z=>?_) fun _ _ z=>z
   obtain ⟨its',k',acc',H10,I10,rv10,n',hn',w'⟩:=z
   obtain ⟨a1,a2,a3⟩:=back I10
   exact ⟨n',hn',i+1,acc',H10,its',k',w',a1,a2,a3,rv10⟩
theorem Vk {elt tg iter:Expr} {gens:List Comprehension} {ifs:List Expr} {scope:Scope} {pos:Pos} {d:Nat} {wi:TI} {g:TG} {tc:TT} {te:L2.St→Hp→List V→(List V→Hp→Prop)→Prop}
 (xe:X.xe=fun _ _=>False) (xc:X.calm=true) (hg:gens[d+1]?=some ⟨tg,iter,ifs,0⟩) (ha:∀g,gens[d+1+1]?=some g→g.is_async=0) (hi:PI X tg iter wi) (pg:PG X tg g) (pt:Ey X ifs tc) (em:EM X D (Ck elt gens scope pos (d+1) (.ref D) X.env) te)
 (hsf:∀x,foldedSetIterable iter X.env x=pure x):EM X D (Ck elt gens scope pos d (.ref D) X.env) (Oe wi g tc te):=by
 rintro rest its k acc σ H s Q I hr rv h
 unfold Ck
 rw [hg]
 have z:=hi _ s σ H _ I h
 rw [xe] at z
 refine wpAny_bind (wpAny_mono z (fun xv s1 h1=>?_) fun _ _ z=>z)
 refine wpAny_bind (wpAny_standAt (wpAny_bind (wpAny_of_eq (hsf xv) ?_)))
 refine wpAny_bind (wpAny_holding (wpAny_mono h1 (fun itv s2 h2=>?_) fun _ _ z=>z))
 obtain ⟨it,fp,tn,J,H2,e,I2,T,CZ,f2,W,⟨n0,w0⟩,turn⟩:=h2
 subst e
 refine wpAny_bind (wpAny_runOwn ?_)
 rw [Around.mark_none]
 have loop:=Of (R:=fun r s'=>match r with |.ok f=>wpAny (model X.prog X.w) X.A (pure ()) (fun _ s'=>∃its' k' acc' H',Inv X ((D,B6 its' k')::rest) σ H' s'∧Vals acc' its'∧Q acc' H') (fun _ _=>False) s' |.error e=>cameBackBy (model X.prog X.w) X.A X.env (fun _ _=>False) e s')
  xe xc hg ha pg pt em T (fun b hb o H' hn=>Vj (f2 b hb) hn) hr turn (fun its' k' acc' H' s' I' rv' q'=>wpAny_pure ⟨its',k',acc',H',I',rv',q'⟩) n0 ⟨0,acc,H2,its,k,w0,I2,CZ,fun b hb=>(f2 b hb).1,rv⟩
 exact Oc hg loop (T.self X.A 0 s2 _ _ CZ loop)
end
def KZ (cs:List (Option Nat)) (wi:TI) (g:TG) (tc:TT) (te:L2.St→Hp→List V→(List V→Hp→Prop)→Prop):TE:=fun σ H Q=>wi σ H fun J H1=>∃W:Nat→Nat→List V→Hp→Prop,(∃n,W 0 n [] H1)∧∀i n acc H,W i n acc H→
 (J.stop i H∧acc.length≤sizeLine∧∀p,H p=none→Q (.ref p) (Am H p (.lst acc)))∨
 (J.go i H∧∀x H',J.yld i H x H'→g x (Bq cs σ) H' fun σ2 H2=>Sub (Bq cs σ) σ2∧tc σ2 H2 fun b H3=>if b=true then te σ2 H3 acc fun acc' H4=>∃n',n' < n∧W (i+1) n' acc' H4 else ∃n',n' < n∧W (i+1) n' acc H3)
section
variable {X:Cx} {elt tg iter:Expr} {ifs:List Expr} {gs:List Comprehension} {scope:Scope} {pos:Pos} {Nc:List Str} {cs:List (Option Nat)} {wi:TI} {g:TG} {tc:TT} {te:L2.St→Hp→List V→(List V→Hp→Prop)→Prop}
theorem Vl {use:Option (Value→Sem Unit)} {QQ:Value→Shared→Prop} {ppos:Pos} {pins:List (Addr×Obj)} {s:Shared} {σ:L2.St} {H:Hp} {Q:VK} (hcalm:X.calm=true) (S:E2 X scope Nc cs) (hi:PI X tg iter wi) (ha:∀g,gs[0]?=some g→g.is_async=0)
 (hb:∀(C D:Addr) (cells:List (Str×Addr)) (fp:List Addr) (s₀:Shared) (H₀:Hp) (pins:List (Addr×Obj)),Ft (A0 X Nc scope C D cells fp s₀ H₀ pins) D→PG (A0 X Nc scope C D cells fp s₀ H₀ pins) tg g∧Ey (A0 X Nc scope C D cells fp s₀ H₀ pins) ifs tc∧
  EM (A0 X Nc scope C D cells fp s₀ H₀ pins) D (Ck elt (⟨tg,iter,ifs,0⟩::gs) scope pos 0 (.ref D) (A0 X Nc scope C D cells fp s₀ H₀ pins).env) te)
 (hsf:∀x,foldedSetIterable iter X.env x=pure x) (I:Inv X pins σ H s) (h:KZ cs wi g tc te σ H Q)
 (A4:∀(s6:Shared) (C D:Addr) (H7:Hp) (m6:Str→Option Value),s6.heap.Ns C m6→H7 C=none→X.s₀.heap.objs.size≤C→C≠X.env.locals→(∀x c,X.env.cells.lookup x=some c→c≠C)→(∀p∈X.pn++pins,p.1≠C)→
  (∀h',Heap.SameBut C s6.heap h'→Inv X pins σ H7 {s6 with heap:=h'})→Q (.ref D) H7→compPost (model X.prog X.w) X.A X.xe use QQ (.ref D) C (.ok .next) s6):
 wpAny (model X.prog X.w) X.A (comprehension (.ListComp elt (⟨tg,iter,ifs,0⟩::gs) scope pos) scope X.env ppos (newList []) false (eval iter X.env) use) QQ X.xe s:=by
 obtain ⟨cl,hclos,hcl,hcl2⟩:=M6 (scope:=scope) (env:=X.env) fun y hy hf=>I.ok.has y.1 (S.free y hy hf)
 refine wpAny_comprehension_free (use:=use) rfl hsf hclos S.kind S.loc (An (hi pins s σ H _ I h) fun xv s1 h1=>An h1 fun itv s2 h2=>?_)
 obtain ⟨it,fp,tn,J,H2,e,I2,T,CZ,f2,W,⟨n0,w0⟩,turn⟩:=h2
 subst e
 refine wpAny_newObj_type ?_
 generalize e3:({s2 with heap:=s2.heap.push {cls:=.type "list",data:=.seq ([]:List Value).toArray}}:Shared)=s3
 refine M7 ?_
 have ob2:∀b∈fp,∃o,s2.heap.get? b=some o:=fun b hb=>let ⟨o,e,_⟩:=T.obj _ _ CZ b hb;⟨o,e⟩
 have I4:=Na (fp:=fp) (cl:=cl) S I2 f2 ob2 hcl hcl2 e3.symm
 generalize e4:({s3 with heap:=pushCells (s3.heap.push {cls:=.type "dict",data:=.dict #[]}) scope.names}:Shared)=s4 at I4
 generalize ecl:cellsFrom (s3.heap.objs.size+1) scope.names cl=cells at I4
 have okc:=I4.ok
 have k3:∀b o,s2.heap.get? b=some o→s3.heap.get? b=some o:=fun b o e=>by subst e3;exact Bn _ e
 have Hs:s3.heap.objs.size=s2.heap.objs.size+1:=by subst e3;exact DS ..
 have k34:∀b o,s3.heap.get? b=some o→s4.heap.get? b=some o:=fun b o e=>by subst e4;exact pushCells_keeps _ _ b o (Bn _ e)
 have hDfp:s2.heap.objs.size∉fp:=fun hm=>by
  obtain ⟨o,e⟩:=ob2 _ hm
  exact absurd (AA e) (Dd _)
 have hDex:s2.heap.objs.size∈(A0 X Nc scope s3.heap.objs.size s2.heap.objs.size cells fp s3 H2 pins).ex:=AI
 have ao:Ft (A0 X Nc scope s3.heap.objs.size s2.heap.objs.size cells fp s3 H2 pins) s2.heap.objs.size:=
  ⟨show s2.heap.objs.size≠s3.heap.objs.size from BE (by omega),fun x c e=>(okc.exf _ hDex).2 x c e,fun p hp=>BE (AA (I2.pin p hp).1),hDex,okc.exfs _ hDex⟩
 obtain ⟨pg,pt,em⟩:=hb s3.heap.objs.size s2.heap.objs.size cells fp s3 H2 pins ao
 have hD4:s4.heap.get? s2.heap.objs.size=some (B6 [] 0):=by
  refine k34 _ _ ?_
  subst e3
  exact BI _ rfl
 have fC:∀b∈fp,∀(o:Obj) (H':Hp),H' b=none→Cr (A0 X Nc scope s3.heap.objs.size s2.heap.objs.size cells fp s3 H2 pins) ((s2.heap.objs.size,o)::[]) H' b:=fun b hb o H' hn=>by
  have hbx:b∈(A0 X Nc scope s3.heap.objs.size s2.heap.objs.size cells fp s3 H2 pins).ex:=AU _ hb
  refine ⟨hn,(okc.exf b hbx).1,okc.exfs b hbx,.inl hbx,(okc.exf b hbx).2,fun p hpp=>?_⟩
  rcases qaL.mp hpp with z |z
  ·exact (f2 b hb).2.2.2.2.2 p z
  ·rw [qaD] at z
   subst z
   intro e
   exact hDfp ((show s2.heap.objs.size=b from e) ▸ hb)
 have I4':Inv (A0 X Nc scope s3.heap.objs.size s2.heap.objs.size cells fp s3 H2 pins) ((s2.heap.objs.size,B6 [] 0)::[]) (Bq cs σ) H2 s4:=I4.pins_of fun p hp=>by
  rw [qaD] at hp
  subst hp
  exact ⟨hD4,I2.hok.fresh (AJ _),ao.lo,ao.fs,fun v z=>by cases z⟩
 have JN:tn 0 s4.heap:=T.keep _ _ _ CZ fun b hb o e=>k34 b o (k3 b o e)
 have loop:=Of (X:=A0 X Nc scope s3.heap.objs.size s2.heap.objs.size cells fp s3 H2 pins) (QQ:=fun acc H5=>acc.length≤sizeLine∧∀p,H5 p=none→Q (.ref p) (Am H5 p (.lst acc)))
  (R:=compPost (model X.prog X.w) X.A X.xe use QQ (.ref s2.heap.objs.size) s3.heap.objs.size) rfl hcalm (d:=0) (gens:=⟨tg,iter,ifs,0⟩::gs) rfl ha pg pt em T fC (fun p hp=>(nomatch hp)) turn (fun its k acc H5 s6 I6 rv5 qn=>?_) n0
   ⟨0,[],H2,[],0,w0,I4',JN,fun b hb=>(f2 b hb).1,.nil⟩
 ·exact Oc (d:=0) rfl loop (T.self X.A 0 s4 _ _ JN loop)
 ·obtain ⟨m6,hn6,_⟩:=I6.loc
  obtain ⟨ho6,hD6,_⟩:=I6.pin _ (By _ AI)
  have lt2:∀b,b<s2.heap.objs.size→b≠s3.heap.objs.size:=fun b hb=>BE (Bo hb (by omega))
  refine A4 s6 s3.heap.objs.size s2.heap.objs.size (Am H5 s2.heap.objs.size (.lst acc)) m6 hn6 ?_ (BU I2.sz (by omega)) ?_ ?_ ?_ ?_ (qn.2 _ hD6)
  ·rw [AC (Gz (by omega))]
   exact I6.free
  ·obtain ⟨m2,hn2,_⟩:=I2.loc
   exact Ne.symm (lt2 _ hn2.lt)
  ·intro x c hx
   obtain ⟨v,hv⟩:=I2.cell x c hx
   obtain ⟨o,ho,_⟩:=hv
   exact lt2 _ (AA ho)
  ·intro p hp
   exact lt2 _ (AA (I2.pin p hp).1)
  ·intro h' sb
   exact Nb I2 f2 e3.symm rfl I6 hD6 qn.1 rv5 ho6 sb
theorem Vm (hcalm:X.calm=true) (S:E2 X scope Nc cs) (hi:PI X tg iter wi) (ha:∀g,gs[0]?=some g→g.is_async=0)
 (hb:∀(C D:Addr) (cells:List (Str×Addr)) (fp:List Addr) (s₀:Shared) (H₀:Hp) (pins:List (Addr×Obj)),Ft (A0 X Nc scope C D cells fp s₀ H₀ pins) D→PG (A0 X Nc scope C D cells fp s₀ H₀ pins) tg g∧Ey (A0 X Nc scope C D cells fp s₀ H₀ pins) ifs tc∧
  EM (A0 X Nc scope C D cells fp s₀ H₀ pins) D (Ck elt (⟨tg,iter,ifs,0⟩::gs) scope pos 0 (.ref D) (A0 X Nc scope C D cells fp s₀ H₀ pins).env) te)
 (hsf:∀x,foldedSetIterable iter X.env x=pure x:=by intro _;rfl):PE X (.ListComp elt (⟨tg,iter,ifs,0⟩::gs) scope pos) (KZ cs wi g tc te):=by
 intro pins s σ H Q I h
 rw [eval_ListComp]
 exact Vl (use:=none) hcalm S hi ha hb hsf I h fun s6 C D H7 m6 hn _ _ _ _ _ inv q=>⟨m6,hn,fun h' sb=>⟨.ref D,H7,inv h' sb,rfl,q⟩⟩
end
abbrev Cm:=Ai→HD→List D→Out (List D)
abbrev Og:=L2.St→Hp→List V→(List V→Hp→Prop)→Prop
def Frs (js:List Nat) (σ:L2.St):Prop:=∀j∈js,σ[j]?=some none
def GM (K:PySem.W.Frag) (is js:List Nat) (gg:TG) (sg:MG):Prop:=
 ∀m H d v ρ σ ρ' Q,DV K m H d v→ER K m H ρ σ→Frs (is++js) σ→sg d ρ=some ρ'→(∀σ',Sub σ σ'→Frs js σ'→ER K m H ρ' σ'→Q σ' H)→gg v σ H Q
theorem Vn {σ σ':L2.St} {i:Nat} {v:V} (h:σ[i]?=some none) (s:Sub σ σ'):Sub σ (σ'.set i (some v)):=by
 refine ⟨by rw [s.1];simp,fun j w e=>?_⟩
 have hj:i≠j:=by
  rintro rfl
  rw [h] at e
  cases e
 rw [Cd hj]
 exact s.2 j w e
theorem Frs.set {js:List Nat} {σ:L2.St} {i:Nat} {v:Option V} (h:Frs js σ) (n:i∉js):Frs js (σ.set i v):=fun j hj=>by
 have hn:i≠j:=by
  rintro rfl
  exact n hj
 rw [Cd hn]
 exact h j hj
theorem Jr {K:PySem.W.Frag} {i:Nat} {js:List Nat} (n:i∉js):GM K [i] js (BZ i) (AE i):=fun m H d v ρ σ ρ' Q r er f e q=>by
 simp only [AE,Option.some.injEq] at e
 subst e
 exact q _ (Vn (f i AI) (.refl _)) (Frs.set (fun j hj=>f j (AU _ hj)) n) (er.set r)
noncomputable def D5 (f:ME):Cm:=fun ρ h acc=>if acc.length<sizeLine then (noErr (f ρ h)).bind fun y h2=>.ok (acc++[y]) h2 else .stuck
open Classical in
noncomputable def Dq (src:AW) (items:List D) (sg:MG) (t:MT) (e:Cm) (ρ:Ai):List D→HD→List D→Out (List D)
 |[],h,acc=>if A3 src items h then .ok acc h else .stuck
 |d::ds,h,acc=>if A3 src items h then match sg d ρ with
   |none=>.stuck
   |some ρ1=>(noErr (t ρ1 h)).bind fun b h1=>if b=true then (noErr (e ρ1 h1 acc)).bind fun acc2 h2=>Dq src items sg t e ρ ds h2 acc2 else Dq src items sg t e ρ ds h1 acc
  else .stuck
noncomputable def Dr (it:MI) (sg:MG) (t:MT) (e:Cm):Cm:=fun ρ h acc=>(noErr (it ρ h)).bind fun x h1=>Dq x.2 x.1 sg t e ρ x.1 h1 acc
noncomputable def EA (cs:List (Option Nat)) (it:MI) (sg:MG) (t:MT) (e:Cm):ME:=fun ρ h=>(it ρ h).bind fun x h1=>(Dq x.2 x.1 sg t e (B4 cs ρ) x.1 h1 []).bind Ca
def D6 (K:PySem.W.Frag) (js:List Nat) (e:Cm):Og:=fun σ H acc Q=>∃m ρ h dacc,HR K m h H∧ER K m H ρ σ∧DVs K m H dacc acc∧Frs js σ∧Post K (EO K) m H E0 Q (e ρ h dacc)
theorem EM.imp {X:Cx} {D:Addr} {em:Sem Unit} {te te':Og} (h:EM X D em te) (f:∀σ H acc Q,te' σ H acc Q→te σ H acc Q):EM X D em te':=
 fun rest its k acc σ H s Q I hr rv z=>h rest its k acc σ H s Q I hr rv (f _ _ _ _ z)
theorem Vo {K:PySem.W.Frag} {js:List Nat} {f:ME} (σ:L2.St) (H:Hp) (acc:List V) (Q:List V→Hp→Prop):D6 K js (D5 f) σ H acc Q→Od (tD K E0 f) σ H acc Q:=by
 rintro ⟨m,ρ,h,dacc,hr,er,da,_,p⟩
 unfold D5 at p
 split at p
 ·rename_i hz
  refine ⟨by rw [←DVs.len da];exact hz,m,ρ,h,hr,er,GA p fun y h1 v m1 H1 _ p1 k1 hr1 r1 q1=>?_⟩
  exact q1 _ m1 H1 (Aw _) (.refl _) hr1 ((DVs.keep p1 k1 da).app (.cons r1 .nil))
 ·exact p.elim
inductive Oh {β:Type} (K:PySem.W.Frag) (E:XK) (α:Type) (R:List Addr→Hp→α→β→Prop) (Q:β→Hp→Prop) (kk:List D→HD→Out α) (src:AW) (items:List D) (sg:MG) (t:MT) (e:Cm) (ρ:Ai) (m1:List Addr) (H1:Hp) (i n:Nat) (acc:List V) (H2:Hp):Prop where
 |mk (en:n=items.length - i) (l:i≤items.length) (m2:List Addr) (h2:HD) (dacc:List D) (p:m1 <+:m2) (k:Kp H1 H2) (hr:HR K m2 h2 H2) (da:DVs K m2 H2 dacc acc) (q:Post K R m2 H2 E Q ((Dq src items sg t e ρ (items.drop i) h2 dacc).bind kk)):Oh K E α R Q kk src items sg t e ρ m1 H1 i n acc H2
theorem Oi {K:PySem.W.Frag} {E:XK} {α β:Type} {R:List Addr→Hp→α→β→Prop} {Q:β→Hp→Prop} {kk:List D→HD→Out α} {is js:List Nat} {gg:TG} {sg:MG} {t:MT} {e:Cm} {src:AW} {items:List D} {J:It} {ρ:Ai} {σ:L2.St} {m1:List Addr} {h1:HD} {H1:Hp} {dacc:List D} {acc:List V} {QQ:List V→Hp→Prop}
 (hg:GM K is js gg sg) (fr:Frs (is++js) σ) (er:ER K m1 H1 ρ σ) (r1:Fi K m1 H1 (items,src) J) (hr1:HR K m1 h1 H1) (da:DVs K m1 H1 dacc acc) (q:Post K R m1 H1 E Q ((Dq src items sg t e ρ items h1 dacc).bind kk))
 (A4:∀m h H dacc acc,m1 <+:m→Kp H1 H→HR K m h H→DVs K m H dacc acc→Post K R m H E Q (kk dacc h)→QQ acc H):
 ∃W:Nat→Nat→List V→Hp→Prop,(∃n,W 0 n acc H1)∧∀i n acc H,W i n acc H→(J.stop i H∧QQ acc H)∨
  (J.go i H∧∀x H',J.yld i H x H'→gg x σ H' fun σ2 H2=>Sub σ σ2∧El K E0 t σ2 H2 fun b H3=>if b=true then D6 K js e σ2 H3 acc fun acc' H4=>∃n',n' < n∧W (i+1) n' acc' H4 else ∃n',n' < n∧W (i+1) n' acc H3):=by
 refine ⟨Oh K E α R Q kk src items sg t e ρ m1 H1,⟨items.length,rfl,DT _,m1,h1,dacc,Aw _,.refl _,hr1,da,q⟩,?_⟩
 rintro i n acc H2 ⟨rfl,hi',m2,h2,dacc,p2,k2,hr2,da,q2⟩
 by_cases hlt:i<items.length
 ·rw [Ii hlt] at q2
  unfold Dq at q2
  split at q2
  ·rename_i hs
   obtain ⟨hgo,hy⟩:=(r1 i m2 h2 H2 p2 k2 hr2 hs).1 hlt
   refine .inr ⟨hgo,fun y H3 hyl=>?_⟩
   obtain ⟨k3,hr3,d,ed,rd⟩:=hy y H3 hyl
   have ed':d=items[i]:=by rw [Br hlt] at ed;exact (Option.some.inj ed).symm
   subst ed'
   split at q2
   ·exact q2.elim
   ·rename_i ρ3 es
    refine hg m2 H3 _ y ρ σ ρ3 _ rd (er.keep p2 (k2.trans k3)) fr es fun σ4 sub4 fr4 er4=>⟨sub4,m2,ρ3,h2,hr3,er4,?_⟩
    rw [Out.bind_assoc] at q2
    refine GA (Post.ahead (Aw _) k3 q2) fun b h5 v m5 H5 _ p5 k5 hr5 r5 q5=>?_
    cases r5
    cases b with
    |false=>
     simp only [BK,if_false] at q5 ⊢
     exact ⟨items.length - (i+1),by omega,rfl,hlt,m5,h5,dacc,p2.trans p5,(k2.trans k3).trans k5,hr5,DVs.keep p5 (k3.trans k5) da,q5⟩
    |true=>
     simp only [if_true] at q5 ⊢
     rw [Out.bind_assoc] at q5
     refine ⟨m5,ρ3,h5,dacc,hr5,er4.keep p5 k5,DVs.keep p5 (k3.trans k5) da,fr4,GA q5 fun z h6 w m6 H6 _ p6 k6 hr6 r6 q6=>?_⟩
     exact ⟨items.length - (i+1),by omega,rfl,hlt,m6,h6,z,(p2.trans p5).trans p6,((k2.trans k3).trans k5).trans k6,hr6,r6,q6⟩
  ·exact q2.elim
 ·have he:i=items.length:=Nat.le_antisymm hi' (Ga hlt)
  subst he
  rw [List.drop_length] at q2
  unfold Dq at q2
  split at q2
  ·rename_i hs
   exact .inl ⟨(r1 _ m2 h2 H2 p2 k2 hr2 hs).2 rfl,A4 m2 h2 H2 dacc acc p2 k2 hr2 da q2⟩
  ·exact q2.elim
theorem Vp {K:PySem.W.Frag} {is js:List Nat} {it:MI} {gg:TG} {sg:MG} {t:MT} {e:Cm} (hg:GM K is js gg sg) (σ:L2.St) (H:Hp) (acc:List V) (Q:List V→Hp→Prop):D6 K (is++js) (Dr it sg t e) σ H acc Q→Oe (tM K (Fi K) E0 it) gg (El K E0 t) (D6 K js e) σ H acc Q:=by
 rintro ⟨m,ρ,h,dacc,hr,er,da,fr,p⟩
 unfold Dr at p
 refine ⟨m,ρ,h,hr,er,GA p fun x h1 J m1 H1 _ p1 k1 hr1 r1 q1=>?_⟩
 refine Oi (E:=E0) (kk:=fun a h=>.ok a h) hg fr (er.keep p1 k1) r1 hr1 (DVs.keep p1 k1 da) ?_ fun m2 h2 H2 dacc2 acc2 p2 k2 hr2 da2 q2=>q2 _ m2 H2 (Aw _) (.refl _) hr2 da2
 have:∀o:Out (List D),(o.bind fun a h=>.ok a h)=o:=fun o=>by cases o<;>rfl
 rw [this]
 exact q1
section
variable {X:Cx} {E:XK} {D:Addr} {elt tg iter:Expr} {ifs:List Expr} {gs gens:List Comprehension} {scope:Scope} {pos:Pos} {Nc:List Str} {cs:List (Option Nat)} {it:MI} {gg:TG} {sg:MG} {t:MT} {f:ME} {e:Cm} {d:Nat} {is js:List Nat}
theorem Vq (ao:Ft X D) (xe:X.xe=fun _ _=>False) (hl:gens[d+1]?=none) (pe:Ev X E0 elt f):EM X D (Ck elt gens scope pos d (.ref D) X.env) (D6 X.K js (D5 f)):=(Vi ao xe hl pe).imp Vo
theorem K0 (xe:X.xe=fun _ _=>False) (xc:X.calm=true) (hg:gens[d+1]?=some ⟨tg,iter,ifs,0⟩) (ha:∀g,gens[d+1+1]?=some g→g.is_async=0) (hi:Ew X E0 tg iter it) (pg:PG X tg gg) (gk:GM X.K is js gg sg) (pt:Hl X E0 ifs t) (em:EM X D (Ck elt gens scope pos (d+1) (.ref D) X.env) (D6 X.K js e))
 (hsf:∀x,foldedSetIterable iter X.env x=pure x:=by intro _;rfl):EM X D (Ck elt gens scope pos d (.ref D) X.env) (D6 X.K (is++js) (Dr it sg t e)):=(Vk xe xc hg ha hi pg pt em hsf).imp (Vp gk)
theorem Vr (hc:∀j∈is++js,cs[j]?=some none) (hg:GM X.K is js gg sg):∀σ H Q,tD X.K E (EA cs it sg t e) σ H Q→KZ cs (tM X.K (Fi X.K) E it) gg (El X.K E0 t) (D6 X.K js e) σ H Q:=by
 rintro σ H Q ⟨m,ρ,h,hr,er,p⟩
 refine ⟨m,ρ,h,hr,er,Post.bind p fun x h1 J m1 H1 _ p1 k1 hr1 r1 q1=>?_⟩
 exact Oi (QQ:=fun acc H=>acc.length≤sizeLine∧∀p,H p=none→Q (.ref p) (Am H p (.lst acc))) hg (fun j hj=>by unfold Bq;rw [Dc,hc j hj];rfl) ((er.keep p1 k1).comp cs) r1 hr1 .nil q1 fun m2 h2 H2 dacc2 acc2 p2 k2 hr2 da2 q2=>Hc (X:=X) hr2 da2 q2
theorem Vs (hcalm:X.calm=true) (S:E2 X scope Nc cs) (hi:Ew X E tg iter it) (ha:∀g,gs[0]?=some g→g.is_async=0) (hc:∀j∈is++js,cs[j]?=some none) (hg:GM X.K is js gg sg)
 (hb:∀(C D:Addr) (cells:List (Str×Addr)) (fp:List Addr) (s₀:Shared) (H₀:Hp) (pins:List (Addr×Obj)),Ft (A0 X Nc scope C D cells fp s₀ H₀ pins) D→PG (A0 X Nc scope C D cells fp s₀ H₀ pins) tg gg∧Hl (A0 X Nc scope C D cells fp s₀ H₀ pins) E0 ifs t∧
  EM (A0 X Nc scope C D cells fp s₀ H₀ pins) D (Ck elt (⟨tg,iter,ifs,0⟩::gs) scope pos 0 (.ref D) (A0 X Nc scope C D cells fp s₀ H₀ pins).env) (D6 X.K js e))
 (hsf:∀x,foldedSetIterable iter X.env x=pure x:=by intro _;rfl):Ev X E (.ListComp elt (⟨tg,iter,ifs,0⟩::gs) scope pos) (EA cs it sg t e):=
 BM (Vm (g:=gg) (tc:=El X.K E0 t) (te:=D6 X.K js e) hcalm S hi ha hb hsf) (Vr hc hg)
end
theorem K1 {α:Type} {src:AW} {items:List D} {sg:MG} {t:MT} {e:Cm} {ρ:Ai} (φ:α→D) (g:α→Bool) (es:α→List D) (ρ1:α→Ai):
 ∀(xs:List α) (h:HD) (acc:List D),(∀h',Sm h h'→A3 src items h')→(∀x∈xs,sg (φ x) ρ=some (ρ1 x))→(∀x∈xs,∀h',Sm h h'→Pu (t (ρ1 x) h') h' (g x))→(∀x∈xs,g x=true→∀h' acc,Sm h h'→acc.length+(es x).length≤sizeLine→Pu (e (ρ1 x) h' acc) h' (acc++es x))→
  acc.length+((xs.filter g).flatMap es).length≤sizeLine→Pu (Dq src items sg t e ρ (xs.map φ) h acc) h (acc++(xs.filter g).flatMap es)
 |[],h,acc,hs,_,_,_,_=>by
  simp only [Ej,List.filter_nil,Dq]
  rw [if_pos (hs h (.refl _))]
  simpa using (.ok:Pu (.ok acc h) h acc)
 |x::xs,h,acc,hs,hg,ht,hf,hz=>by
  simp only [Bj,Dq]
  rw [if_pos (hs h (.refl _)),hg x AI]
  simp only
  refine Pu.bind (ht x AI h (.refl _)).noErr fun h1 s1=>?_
  have ih:∀h2 acc,Sm h h2→acc.length+((xs.filter g).flatMap es).length≤sizeLine→Pu (Dq src items sg t e ρ (xs.map φ) h2 acc) h2 (acc++(xs.filter g).flatMap es):=fun h2 acc s2 z2=>K1 φ g es ρ1 xs h2 acc (fun h' s'=>hs h' (s2.trans s'))
   (fun y hy=>hg y (AU _ hy)) (fun y hy h' s'=>ht y (AU _ hy) h' (s2.trans s')) (fun y hy gy h' a s' z'=>hf y (AU _ hy) gy h' a (s2.trans s') z') z2
  cases hgx:g x with
  |false=>
   rw [JO (by simp [hgx])] at hz ⊢
   rw [if_neg Bi]
   exact ih h1 acc s1 hz
  |true=>
   rw [JP hgx,List.flatMap_cons] at hz ⊢
   rw [DR] at hz
   rw [if_pos rfl]
   refine Pu.bind (hf x AI hgx h1 acc s1 (by omega)).noErr fun h2 s2=>?_
   have:=ih h2 (acc++es x) (s1.trans s2) (by rw [DR];omega)
   rwa [List.append_assoc] at this
theorem Vt {f:ME} {ρ:Ai} {h:HD} {acc:List D} {y:D} (hf:Pu (f ρ h) h y) (hz:acc.length+1≤sizeLine):Pu (D5 f ρ h acc) h (acc++[y]):=by
 unfold D5
 rw [if_pos (by omega)]
 exact Pu.bind hf.noErr fun h2 s2=>.ok
theorem K2 {α β:Type} {y:α→β}:∀{xs:List α},xs.flatMap (fun x=>[y x])=xs.map y
 |[]=>rfl
 |x::xs=>by rw [List.flatMap_cons,K2,Bj];rfl
section
variable {α β:Type} {cs:List (Option Nat)} {it:MI} {sg:MG} {t:MT} {f:ME} {e:Cm} {ρ:Ai} {h:HD} {src:AW} {xs:List α} {φ:α→D} {acc:List D}
theorem K3 (g:α→Bool) (es:α→List D) (ρ1:α→Ai) (hi:Cb (it ρ h) h (xs.map φ) src) (hg:∀x∈xs,sg (φ x) ρ=some (ρ1 x)) (ht:∀x∈xs,∀h',Sm h h'→Pu (t (ρ1 x) h') h' (g x)) (hf:∀x∈xs,g x=true→∀h' acc,Sm h h'→acc.length+(es x).length≤sizeLine→Pu (e (ρ1 x) h' acc) h' (acc++es x))
 (hz:acc.length+((xs.filter g).flatMap es).length≤sizeLine):Pu (Dr it sg t e ρ h acc) h (acc++(xs.filter g).flatMap es):=by
 unfold Dr Pu
 have:Wp (noErr (it ρ h)) fun x h'=>x=(xs.map φ,src)∧Sm h h'∧∀h2,Sm h' h2→A3 src (xs.map φ) h2:=by
  unfold Cb at hi
  cases eo:it ρ h with
  |ok a h1=>rw [eo] at hi;exact hi
  |err C fs h1=>rw [eo] at hi;exact hi
  |stuck=>rw [eo] at hi;exact hi
 rw [Ap]
 refine Wp.mono this fun x h1 z=>?_
 obtain ⟨rfl,s1,hs⟩:=z
 exact (K1 φ g es ρ1 xs h1 acc hs hg (fun x hx h' s'=>ht x hx h' (s1.trans s')) (fun x hx gx h' a s' z'=>hf x hx gx h' a (s1.trans s') z') hz).wp fun h2 s2=>⟨rfl,s1.trans s2⟩
theorem Vu (y:α→D) (ρ1:α→Ai) (hi:Cb (it ρ h) h (xs.map φ) src) (hg:∀x∈xs,sg (φ x) ρ=some (ρ1 x)) (hf:∀x∈xs,∀h',Sm h h'→Pu (f (ρ1 x) h') h' (y x)) (hz:acc.length+(xs.map y).length≤sizeLine):
 Pu (Dr it sg Bm (D5 f) ρ h acc) h (acc++xs.map y):=by
 have:=K3 (t:=Bm) (e:=D5 f) (acc:=acc) (fun _=>true) (fun x=>[y x]) ρ1 hi hg (fun x hx h' s'=>(.ok:Pu (.ok true h') h' true)) (fun x hx _ h' acc s' z'=>Vt (hf x hx h' s') z') (by rw [DI,K2];exact hz)
 rwa [DI,K2] at this
theorem Vv {Q:D→HD→Prop} (g:α→Bool) (es:α→List D) (ρ1:α→Ai) (hi:Cb (it ρ h) h (xs.map φ) src) (hg:∀x∈xs,sg (φ x) (B4 cs ρ)=some (ρ1 x)) (ht:∀x∈xs,∀h',Sm h h'→Pu (t (ρ1 x) h') h' (g x)) (hf:∀x∈xs,g x=true→∀h' acc,Sm h h'→acc.length+(es x).length≤sizeLine→Pu (e (ρ1 x) h' acc) h' (acc++es x))
 (hz:((xs.filter g).flatMap es).length≤sizeLine) (q:∀l h',Sm h h'→h'[l]?=some (.lst ((xs.filter g).flatMap es))→Q (.loc l) h'):Wp (EA cs it sg t e ρ h) Q:=by
 unfold EA
 rw [Ap]
 refine Wp.mono hi fun x h1 z=>?_
 obtain ⟨rfl,s1,hs⟩:=z
 rw [Ap]
 refine (K1 φ g es ρ1 xs h1 [] hs hg (fun x hx h' s'=>ht x hx h' (s1.trans s')) (fun x hx gx h' a s' z'=>hf x hx gx h' a (s1.trans s') z') (by simpa using hz)).wp fun h2 s2=>?_
 rw [Im]
 exact Cw hz fun l h3 s3 e3 _ _=>q l h3 ((s1.trans s2).trans s3) e3
noncomputable def Vw (cs:List (Option Nat)) (it:MI) (sg:MG) (t:MT) (e:Cm):ME:=Af (Al Bw) (Ab (EA cs it sg t e) Ad)
noncomputable def Vx (cs:List (Option Nat)) (it:MI) (sg:MG) (t:MT) (e:Cm):ME:=Af (Al CL) (Ab (EA cs it sg t e) Ad)
@[simp] theorem ZbA:Af (Al Bw) (Ab (EA cs it sg t e) Ad) ρ h=Vw cs it sg t e ρ h:=rfl
@[simp] theorem ZbB:Af (Al CL) (Ab (EA cs it sg t e) Ad) ρ h=Vx cs it sg t e ρ h:=rfl
end
end LS
namespace LS
open PySem
inductive TlN (h:Heap) (ns:List Str) (bB:List Value):List Value→Prop
 |base:TlN h ns bB bB
 |own {a:Addr} {c0:Value} {dd:Option Addr} {cd:ClassData} {sl:Array (Option Value)} {m:Str→Option Value} {tl:List Value} (ha:h.get? a=some {cls:=c0,dict:=dd,data:=.cls cd,slots:=sl}) (hm:h.Ns cd.ns m) (no:∀n∈ns,m n=none) (r:TlN h ns bB tl):TlN h ns bB (.ref a::tl)
theorem TlN.keeps {h h':Heap} {ns:List Str} {bB tl:List Value} (T:TlN h ns bB tl) (k:∀b o,h.get? b=some o→h'.get? b=some o):TlN h' ns bB tl:=by
 induction T with
 |base=>exact .base
 |own ha hm no _ ih=>exact .own (k _ _ ha) (hm.keeps k) no ih
theorem TlN.has {h:Heap} {ns:List Str} {bB tl:List Value} {v:Value} (T:TlN h ns bB tl) (hv:bB.contains v=true):tl.contains v=true:=by
 induction T with
 |base=>exact hv
 |own ha hm no _ ih=>rw [List.contains_cons,ih,Bool.or_true]
section
variable {M:Model} {A:Around} {E:Value→Shared→Prop} {h:Heap} {g:Array GenState} {d:Drawn} {t:Nat} {os:OsState}
theorem TlN.look {ns:List Str} {bB tl:List Value} {n:Str} {y:Option Value} {Q:Option Value→Shared→Prop} (T:TlN h ns bB tl) (hn:n∈ns) (e:lookupAlong bB n=pure y) (q:Q y ⟨h,g,d,t,os⟩):wpAny M A (lookupAlong tl n) Q E ⟨h,g,d,t,os⟩:=by
 induction T with
 |base=>rw [e];exact wpAny_pure q
 |own ha hm no _ ih=>
  rw [lookupAlong_cons];refine wpAny_bind (wpAny_classOwn_cls ha hm ?_);rw [no n hn]
  exact ih
variable {nm q:Str} {C N x:Addr} {bs bm bB:List Value} {hd:Bool} {sn:List Str} {sub:List Value} {ab:Bool} {col:Option Bool} {dd:Option Addr} {k0 k1 k2 k3 k5:Option Value} {B newId sa owner:String} {ns:List Str} {mN mA:Str→Option Value} {name:Str} {v:Value}
end
section
variable {prog:Program} {w:World} {A:Around} {E:Value→Shared→Prop} {h:Heap} {g:Array GenState} {d:Drawn} {t:Nat} {os:OsState}
variable {nm q:Str} {C N x:Addr} {bs bm bB:List Value} {sn:List Str} {sub:List Value} {ab:Bool} {col:Option Bool} {dd:Option Addr} {k0 k1 k2 k3 k5:Option Value} {B newId sa owner:String} {ns:List Str} {mN mA:Str→Option Value} {name:Str} {v:Value}
structure ZbC (h h':Heap) (x C:Addr) (name:Str) (v:Value) (mA:Str→Option Value):Prop where
 inst:h'.Inst x C (fun y=>if y=name then some v else mA y)
 keep:∀b o,b≠x→(∀o0 dx,h.get? x=some o0→o0.dict=some dx→b≠dx)→h.get? b=some o→h'.get? b=some o
 new:∀o0,h.get? x=some o0→o0.dict=none→∃o1,h'.get? x=some o1∧o1.dict=some h.objs.size
 same:∀o0,h.get? x=some o0→∃o1,h'.get? x=some o1∧o1.cls=o0.cls∧o1.data=o0.data∧o1.slots=o0.slots∧∀dx,o0.dict=some dx→o1.dict=some dx
end
section
variable {prog:Program} {w:World} {A:Around} {E:Value→Shared→Prop} {h:Heap} {g:Array GenState} {d:Drawn} {t:Nat} {os:OsState}
variable {nm q:Str} {C N x:Addr} {bs bm bB:List Value} {sn:List Str} {sub:List Value} {ab:Bool} {col:Option Bool} {dd:Option Addr} {k0 k1 k2 k3 k5:Option Value} {B newId:String} {ns:List Str} {mN mA:Str→Option Value} {name:Str} {v:Value}
end
end LS
namespace LS
open PySem PySem.Spec PyProof.Rows L2
def tmNames:List Str:=["__init__","__setattr__","__getattribute__","__getattr__","many","most"]
def Oj (K:PySem.W.Frag) (ns:List Str) (bB:List Value):List Value→Bool
 |[]=>bB==[]
 |v::r=>(v::r)==bB||match v with
  |.ref a=>(match K.lookup a with
   |some o=>(match clsOf o.data with
    |some cd=>PySem.W.nsOkIn K cd.ns&&(ns.all (fun n=>PySem.W.nsIn K cd.ns n==some none)&&Oj K ns bB r)
    |none=>false)
   |none=>false)
  |_=>false
theorem TlN.tail {h:Heap} {ns:List Str} {bB tl:List Value} (T:TlN h ns bB tl) (hi:("__init__":Str)∈ns):OwnTail h bB tl:=by
 induction T with
 |base=>exact .base
 |own ha hm no _ ih=>exact .own ha hm (no _ hi) ih
inductive Vy (h:Heap) (C fI:Addr):Prop where
 |mk (bm:List Value) (N:Addr) (nm q:Str) (bs:List Value) (sn:List Str) (sub:List Value) (ab:Bool) (col:Option Bool) (dd:Option Addr) (k0 k1 k2 k3 k5:Option Value) (mN:Str→Option Value)
  (hC:h.get? C=some (excClassObj nm q C N bs bm true sn sub ab col dd k0 k1 k2 k3 k5 "ValueError.__new__")) (hN:h.Ns N mN) (hi:mN "__init__"=some (.ref fI)) (no:∀n∈tmNames.tail,mN n=none) (T:TlN h tmNames Jm bm):Vy h C fI
def Vz (K:PySem.W.Frag) (C fI:Addr) (o:Obj) (cd:ClassData):Bool:=
 decide (o.cls=.type "type")&&(decide (cd.mro=.ref C::cd.mro.tail)&&(!cd.hasDel&&(Oj K tmNames Jm cd.mro.tail&&(PySem.W.nsOkIn K cd.ns&&(PySem.W.nsIn K cd.ns "__init__"==some (some (.ref fI))&&(tmNames.tail.all (fun n=>PySem.W.nsIn K cd.ns n==some none)&&(decide (o.slots.toList.length=6)&&(decide (o.slots.toList[4]?=some (some (.builtin "ValueError.__new__")))&&cd.hasDict))))))))
def tmX (K:PySem.W.Frag) (C fI:Addr):Bool:=match K.lookup C with
 |some o=>(match clsOf o.data with
  |some cd=>Vz K C fI o cd
  |none=>false)
 |none=>false
def VA (C t0:Addr) (da:Option Addr):Obj:={cls:=.ref C,dict:=da,data:=.fields #[.ref t0,.none,.none,.none,.bool false,.none]}
def Js (C e:Addr) (da:Option Addr) (h:Heap):Prop:=∃t0,h.get? e=some (VA C t0 da)
def ZbD (d:Addr) (m:Str→Option Value) (h:Heap):Prop:=h.Ns1 d m
def one (n:Str) (u:Value):Str→Option Value:=fun y=>if y=n then some u else none
section
variable {X:Cx} {pins:List (Addr×Obj)} {σ:L2.St} {H:Hp} {s:Shared} {E:Value→Shared→Prop} {A:Around} {C fI e da:Addr} {n:Str} {u:Value}
def del (H:Hp) (a:Addr):Hp:=fun b=>if b=a then none else H b
theorem Ol {H:Hp} {a b:Addr} (h:b≠a):del H a b=H b:=by unfold del;rw [if_neg h]
theorem Kp.del {H:Hp} {a:Addr} {φ:Heap→Prop} (h:H a=some (.mex φ)):Kp H (LS.del H a):=fun b o e i=>by
 rw [Ol]
 ·exact e
 ·intro z
  rw [z,h] at e;cases e;cases i
theorem HR.del {K:PySem.W.Frag} {m:List Addr} {h:HD} {H:Hp} {a:Addr} {φ:Heap→Prop} (r:HR K m h H) (e:H a=some (.mex φ)):HR K m h (LS.del H a):=r.same (.del e) fun b hb=>Ol fun z=>by
 subst z
 obtain ⟨l,hl,el⟩:=List.getElem_of_mem hb
 have hl':l<h.length:=by rw [←r.len];exact hl
 have c:=r.cells l h[l] m[l] (Br hl') (Br hl)
 rw [el] at c
 cases hc:h[l] with
 |lst ds=>rw [hc] at c;obtain ⟨vs,q,_⟩:=c;rw [e] at q;cases q
 |tab=>rw [hc] at c;obtain ⟨_,ps,q,_⟩:=c;rw [e] at q;cases q
 |dic fz kvs=>
  rw [hc] at c
  obtain ⟨es,q,_⟩:=c
  cases fz with
  |true=>obtain ⟨o,q⟩:=q;rw [e] at q;cases q
  |false=>exact absurd (e.symm.trans q) (by intro z;cases z)
end
end LS
namespace LS
open PySem PySem.Spec PyProof.Rows L2 PySem.Calls PySem.W
def swX (K:PySem.W.Frag) (S:Addr):Bool:=PySem.W.readsIn K S (.type "type")&&(match PySem.W.findCls K (.ref S) (.type "type") "__init__" with
 |some (.val (.builtin b))=>b=="ValueError.__init__"
 |_=>false)
def ZbE (H₀:Hp) (C:Addr) (ta:TA):TE:=fun σ H Q=>∃e,H₀ e≠none∧H e=some (.mex (Js C e none))∧ta σ (del H e) fun vs H1=>∃x,vs=[.ref e,.str x]∧(H1 e=none→Q .non (Am H1 e (.mex (Js C e none))))
section
variable {X:Cx} {C fI S:Addr} {ta:TA} {a1 a2:Expr} {p1 p2 p5:Pos}
end
end LS
namespace LS
open PySem PySem.Spec PyProof.Rows L2 PySem.Calls
section
variable {X:Cx} {C fI S:Addr}
end
noncomputable abbrev Om:ME:=KO (N4 (Aa 1) (UX " are more than " (N4 (Aa 2) UW)))
inductive On (K:PySem.W.Frag) (C:Addr) (vs:List V) (H:Hp) (Q:VK) (E:XK):Prop
 |mk (e:Addr) (a b:Int) (m:List Addr) (h h2:HD) (x:Str) (ev:vs=[.ref e,.int a,.int b]) (hr:HR K m h H) (hH:H e=some (.mex (Js C e none))) (hj:Om [none,some (.int a),some (.int b)] h=.ok (.str x) h2)
  (q:∀m1 H1 da,m <+:m1→Kp (del H e) H1→HR K m1 h2 H1→H1 e=none→H1 da=none→da≠e→Q .non (Am (Am H1 e (.mex (Js C e (some da)))) da (.xd [("many",.int a),("most",.int b)]))):On K C vs H Q E
section
variable {P:Program} {w:World} {K:PySem.W.Frag} {mg:Str→Option Value} {base:Heap} {C f S:Addr} {k:Nat} {qual:Str} {scope:Scope} {p1 p2 p3 p4 p5 p6 q1 q2 q3 q4 r1 r2 r3 r4:Pos} {js:Expr}
abbrev ZbF (js:Expr) (p1 p2 p3 p5 p6 q1 q2 q3 q4 r1 r2 r3 r4:Pos):List Stmt:=[.Expr (.Call (.Attribute (.Name "SwitchError" p1) "__init__" p2) [.Name "self" p3,js] [] p5) p6,.Assign [.Attribute (.Name "self" q1) "many" q2] (.Name "many" q3) q4,.Assign [.Attribute (.Name "self" r1) "most" r2] (.Name "most" r3) r4]
end
noncomputable def ZbG (fa:MA):MS:=fun ρ h=>(fa ρ h).bind fun xs h1=>match xs with
 |[.int a,.int b]=>(match Om [none,some (.int a),some (.int b)] h1 with
  |.ok (.str _) h2=>.err (Hv "TooMany") [("many",.int a),("most",.int b)] h2
  |_=>.stuck)
 |_=>.stuck
section
variable {X:Cx} {E:XK} {C fI:Addr} {fd:FuncData} {k:Nat}
end
def VB (nm:Str):D→HD→Out D
 |.exc n fs,h=>if n="TooMany" then (match fs.lookup nm with
  |some i=>.ok (.int i) h
  |none=>.stuck) else .stuck
 |_,_=>.stuck
noncomputable def ZbH (f:ME) (nm:Str):ME:=fun ρ h=>(f ρ h).bind fun d h1=>VB nm d h1
section
variable {X:Cx} {E:XK} {C fI:Addr}
end
end LS
namespace Tp
open PySem PySem.W PySem.Spec PySem.Calls PyProof.Rows
section
variable {α β:Type}
noncomputable def fN (n:Nat) (k:Nat→α):α:=@Nat.rec (fun _=>α) (k 0) (fun m _=>k (Nat.succ m)) n
theorem Jt (n:Nat) (k:Nat→α):fN n k=k n:=by cases n<;>rfl
noncomputable def fL (l:List β):(List β→α)→α:=@List.rec β (fun _=>(List β→α)→α) (fun k=>k []) (fun a _ ih k=>ih fun l'=>k (a::l')) l
theorem HC:∀(l:List β) (k:List β→α),fL l k=k l
 |[],_=>rfl
 |a::l,k=>HC l fun l'=>k (a::l')
noncomputable def fE (l:List DictEntry):(List DictEntry→α)→α:=@List.rec DictEntry (fun _=>(List DictEntry→α)→α) (fun k=>k []) (fun a _ ih k=>ih fun l'=>@DictEntry.rec (fun _=>α) (fun x y z=>k (⟨x,y,z⟩::l')) a) l
theorem Oo:∀(l:List DictEntry) (k:List DictEntry→α),fE l k=k l
 |[],_=>rfl
 |⟨_,_,_⟩::l,k=>Oo l fun l'=>k (_::l')
noncomputable def fD (d:Data) (k:Data→α):α:=@Data.rec (fun _=>α) (k .plain) (fun v=>k (.prim v)) (fun x n=>@Array.rec Value (fun _=>α) (fun l=>fL l fun l=>fN n fun n=>k (.seq ⟨l⟩ n)) x)
 (fun x n=>@Array.rec DictEntry (fun _=>α) (fun l=>fE l fun l=>fN n fun n=>k (.dict ⟨l⟩ n)) x) (fun x n t=>k (.set x n t)) (fun b n=>k (.bytearray b n)) (fun v=>k (.cell v)) (fun f=>k (.func f)) (fun c=>k (.cls c))
 (fun x=>@Array.rec Value (fun _=>α) (fun l=>fL l fun l=>k (.fields ⟨l⟩)) x) (k .freed) d
theorem VC (d:Data) (k:Data→α):fD d k=k d:=by
 cases d with
 |seq x n=>cases x;simp only [fD,HC,Jt]
 |dict x n=>cases x;simp only [fD,Oo,Jt]
 |fields x=>cases x;simp only [fD,HC]
 |_=>rfl
noncomputable def fO (o:Obj) (k:Obj→α):α:=@Obj.rec (fun _=>α) (fun c d da sl=>fD da fun da=>k ⟨c,d,da,sl⟩) o
theorem Oq (o:Obj) (k:Obj→α):fO o k=k o:=by cases o;simp only [fO,VC]
noncomputable def fT (t:BT):(BT→α)→α:=@BT.rec (fun _=>(BT→α)→α) (fun k=>k .nil) (fun v _ _ il ir k=>fO v fun v=>il fun l=>ir fun r=>k (.node v l r)) t
theorem K4:∀(t:BT) (k:BT→α),fT t k=k t
 |.nil,_=>rfl
 |.node v l r,k=>by
  show fO v (fun v=>fT l fun l=>fT r fun r=>k (.node v l r))=_
  rw [Oq,K4 l,K4 r]
noncomputable def fS (s:SharedT) (k:SharedT→α):α:=@SharedT.rec (fun _=>α) (fun t n li g d tk os=>fT t fun t=>fN n fun n=>fN tk fun tk=>@Drawn.rec (fun _=>α) (fun a b c e=>@Array.rec GenState (fun _=>α) (fun g=>fL g fun g=>k ⟨t,n,li,⟨g⟩,⟨a,b,c,e⟩,tk,os⟩) g) d) s
theorem K5 (s:SharedT) (k:SharedT→α):fS s k=k s:=by
 obtain ⟨t,n,li,⟨g⟩,⟨a,b,c,e⟩,tk,os⟩:=s
 simp only [fS,K4,Jt,HC]
noncomputable def fP (p:Pos) (k:Pos→α):α:=@Pos.rec (fun _=>α) (fun a b c d=>fN a fun a=>fN b fun b=>fN c fun c=>fN d fun d=>k ⟨a,b,c,d⟩) p
theorem K6 (p:Pos) (k:Pos→α):fP p k=k p:=by cases p;simp only [fP,Jt]
end
section
variable (stp:SharedT→Thread→Option (SharedT×Thread)) (ok:Thread→Bool) (seg:Nat→SharedT→Thread→Option (Flow×SharedT×Code×Pos))
noncomputable def GN (env:Env) (c:Code) (f:Nat):List (List Stmt)→SharedT→Pos→List Code→Option (SharedT×Pos×List Code)
 |[],s,pos,cs=>some (s,pos,cs)
 |l::ls,s,pos,cs=>match seg f s (piecesOf l env c pos [topFrame ⟨0,0,0,0⟩]) with
  |some (.next,s',c',pos')=>fS s' fun s'=>fP pos' fun pos'=>GN env c f ls s' pos' (c'::cs)
  |_=>none
def Ju:Nat→SharedT→Thread→Option (SharedT×Thread)
 |0,s,t=>some (s,t)
 |n+1,s,t=>match through t with
  |true=>none
  |false=>match ok t with
   |false=>none
   |true=>match stp s t with
    |some (s',t')=>Ju n s' t'
    |none=>none
def Jv:Nat→SharedT→Thread→Option SharedT
 |0,_,_=>none
 |n+1,s,t=>match through t with
  |true=>some s
  |false=>match ok t with
   |false=>none
   |true=>match stp s t with
    |some (s',t')=>Jv n s' t'
    |none=>none
def cut:Nat→List Stmt→List (List Stmt)
 |0,l=>[l]
 |n+1,l=>match l with
  |[]=>[]
  |x::l=>[x]::cut n l
theorem Ot:∀(n:Nat) (l:List Stmt),(cut n l).flatten=l
 |0,l=>by simp [cut]
 |_+1,[]=>rfl
 |n+1,x::l=>by simp [cut,Ot n l]
theorem Ou:∀(n:Nat) (l:List Stmt),(cut n l).length≤n+1
 |0,l=>AJ _
 |_+1,[]=>DT _
 |n+1,x::l=>Nat.succ_le_succ (Ou n l)
def K7 (p:Program):Env:={scope:=p.main.scope,locals:=mainNs,globals:=mainNs,cells:=[],code:=.ref 13,frame:=some 14}
def Fu (p:Program):Code:=.body (behindTheImports p) (K7 p)
noncomputable def D7 (p:Program) (S0:SharedT):Option (Thread×List Code×SharedT):=match Ju stp ok 12 S0 (topStub p) with
 |some (sa,ta)=>match seg 1 sa (blockOf (behindTheImports p) (K7 p) (Fu p) ⟨0,0,0,0⟩ [topFrame ⟨0,0,0,0⟩]) with
  |some (.next,sb,cb,pb)=>fS sb fun sb=>fP pb fun pb=>match GN seg (K7 p) (Fu p) 2000 (cut 400 (behindTheImports p)) sb pb [cb] with
   |some (sf,pf,cs)=>match Jv stp ok 2 sf ⟨doneF .next,Fu p,pf,[topFrame ⟨0,0,0,0⟩]⟩ with
    |some sg=>some (ta,cs,sg)
    |none=>none
   |none=>none
  |_=>none
 |none=>none
end
noncomputable def Ov (P:Params) (os:OsState):SharedT:=⟨((boot_heap P).objs.toList.foldl (fun (x:BT×Nat) o=>(x.1.ins x.2 o,x.2+1)) (.nil,0)).1,11,(boot_heap P).life,⟨[]⟩,boot_drawn,boot_toks,os⟩
theorem VD (P:Params) (os:OsState):(Ov P os).abs=⟨boot_heap P,⟨[]⟩,boot_drawn,boot_toks,os⟩:=by kernel_rfl
section
variable {α:Type}
noncomputable def K8 (l:List Obj):(List Obj→α)→α:=@List.rec Obj (fun _=>(List Obj→α)→α) (fun k=>k []) (fun a _ ih k=>fO a fun a=>ih fun l'=>k (a::l')) l
theorem Ow:∀(l:List Obj) (k:List Obj→α),K8 l k=k l
 |[],_=>rfl
 |a::l,k=>by show fO a (fun a=>K8 l fun l'=>k (a::l'))=_;rw [Oq,Ow]
noncomputable def A4 (s:SharedT) (k:Shared→α):α:=K8 (s.tree.list s.n) fun l=>k ⟨⟨⟨l⟩,s.life⟩,s.gens,s.drawn,s.toks,s.os⟩
theorem VE (s:SharedT) (k:Shared→α):A4 s k=k s.abs:=Ow _ _
end
section
variable {tb:String→Option Builtin} {p:Program} {w:World} {m0:Nat} {ann:Option Value}
theorem Ox:∀{n:Nat} {s s':SharedT} {t t':Thread},Ju (stepT (denote tb) p w) (stepOk m0 ann) n s t=some (s',t')→topGo tb p w m0 ann n s.abs t=some (s'.abs,t')
 |0,_,_,_,_,h=>by cases h;rfl
 |n+1,s,s',t,t',h=>by
  unfold Ju at h
  unfold topGo
  cases he:through t with
  |true=>rw [he] at h;cases h
  |false=>
   rw [he] at h
   cases hk:stepOk m0 ann t with
   |false=>rw [hk] at h;cases h
   |true=>
    rw [hk] at h
    cases hs:stepT (denote tb) p w s t with
    |none=>rw [hs] at h;cases h
    |some r=>obtain ⟨s₂,t₂⟩:=r;rw [hs] at h;rw [stepT_spec hs];exact Ox h
theorem Oy:∀{n:Nat} {s s':SharedT} {t:Thread},Jv (stepT (denote tb) p w) (stepOk m0 ann) n s t=some s'→topRun tb p w m0 ann n s.abs t=some s'.abs
 |0,_,_,_,h=>by cases h
 |n+1,s,s',t,h=>by
  unfold Jv at h
  unfold topRun
  cases he:through t with
  |true=>rw [he] at h;cases h;rfl
  |false=>
   rw [he] at h
   cases hk:stepOk m0 ann t with
   |false=>rw [hk] at h;cases h
   |true=>
    rw [hk] at h
    cases hs:stepT (denote tb) p w s t with
    |none=>rw [hs] at h;cases h
    |some r=>obtain ⟨s₂,t₂⟩:=r;rw [hs] at h;rw [stepT_spec hs];exact Oy h
theorem K9 {seg:Nat→SharedT→Thread→Option (Flow×SharedT×Code×Pos)} {env:Env} {c:Code} {f:Nat}:∀{ls:List (List Stmt)} {s sf:SharedT} {pos pf:Pos} {c0 cs:List Code},GN seg env c f ls s pos c0=some (sf,pf,cs)→∀x∈c0,x∈cs
 |[],_,_,_,_,_,_,h,x,hx=>by cases h;exact hx
 |l::ls,s,sf,pos,pf,c0,cs,h,x,hx=>by
  unfold GN at h
  split at h
  ·rw [K5,K6] at h;exact K9 h x (.tail _ hx)
  ·cases h
theorem Oz {env:Env} {c:Code} {f:Nat}:∀{ls:List (List Stmt)} {s sf:SharedT} {pos pf:Pos} {c0 cs:List Code},GN (segRunT tb p w m0 ann 1) env c f ls s pos c0=some (sf,pf,cs)→(∀x∈cs,x=c)→∀{N:Nat} {r:Shared},
 topRun tb p w m0 ann N sf.abs ⟨doneF .next,c,pf,[topFrame ⟨0,0,0,0⟩]⟩=some r→topRun tb p w m0 ann (ls.length*f+N) s.abs (restOf ls.flatten env c pos [topFrame ⟨0,0,0,0⟩])=some r
 |[],s,sf,pos,pf,c0,cs,h,hc,N,r,k=>by
  cases h
  rw [Io,Nat.zero_mul,Nat.zero_add]
  exact piece_nil k
 |l::ls,s,sf,pos,pf,c0,cs,h,hc,N,r,k=>by
  unfold GN at h
  split at h
  ·rename_i s' c' pos' e
   rw [K5,K6] at h
   have e1:=segRun_of e
   rw [hc c' (K9 h c' (.head _))] at e1
   have:=piece_app (rest:=ls.flatten) e1 (Oz h hc k)
   rw [GZ,Nat.succ_mul,Nat.add_comm (ls.length*f) f,G1]
   exact this
  ·cases h
end
noncomputable def VF {α:Type} (OS:Program→List Str→List Str→(Shared→Bool)→Bool→Shared→_) (IM:List Stmt→List Str) (p q:Program) (loose:List Str) (Yf:Shared→α) (H₀:Heap) (s:Shared):=
 ((staticsOk (IM p.main.body) H₀ s.heap&&namesBound p s.heap&&gensDone s&&laidKept H₀ s.heap),(OS q loose (IM p.main.body) (fun _=>true) true s:type_of% (openSeen q loose [] (fun _=>true) true s)),Yf s)
theorem left_of {p q:Program} {loose:List Str} {α:Type} {Yf:Shared→α} {Ya:World→α} {n:Nat} (e:opening p=plainProg p.main.scope.names) (fm:∀s,fenceModules? p s=some s)
 (size:∀w:World,((boot_heap w.params).isNs mainGlobals&&(Array.mk ([]:List GenState)).size==0,(boot_heap w.params).objs.size,(boot_heap w.params).nsMap mainGlobals "__annotations__")=(true,11,some (.ref 6)))
 (h:∀(w:World) (os:OsState),(D7 (stepT (denote treeTable) p w) (stepOk 11 (some (.ref 6))) (segRunT treeTable p w 11 (some (.ref 6)) 1) p (Ov w.params os)).map (fun r=>(r.1,r.2.1,A4 r.2.2 (VF openSeen importedModules p q loose Yf (boot_heap w.params))))=
  some (⟨denote treeTable (Fu p),Fu p,⟨0,0,0,0⟩,[topFrame ⟨0,0,0,0⟩]⟩,List.replicate n (Fu p),(true,openGood q loose,Ya w))):
 LeftO p q loose (fun _=>true) Yf Ya 1000000:=fun w=>by
 obtain ⟨⟨hp,gs,d,k,os⟩,e0,e'⟩:=qaR.mp (boot_open (N:=1000000) e rfl fm w)
 obtain ⟨rfl,rfl,rfl,rfl⟩:hp=boot_heap w.params∧gs=Array.mk []∧d=boot_drawn∧k=boot_toks:=by simpa using e'
 obtain ⟨z1,z2,z3⟩:_∧_∧_:=by simpa only [Prod.mk.injEq] using size w
 obtain ⟨⟨ta,cs,sg⟩,h1,h2⟩:=qaR.mp (h w os)
 dsimp only at h2
 rw [VE] at h2
 obtain ⟨h3,h4⟩:=Prod.mk.inj h2
 obtain ⟨h5,h6⟩:=Prod.mk.inj h4
 obtain ⟨l1,h7⟩:=Prod.mk.inj h6
 obtain ⟨l2,l3⟩:=Prod.mk.inj h7
 have hcs:∀x∈cs,x=Fu p:=fun x hx=>by rw [h5] at hx;exact List.eq_of_mem_replicate hx
 have run:topRun treeTable p w 11 (some (.ref 6)) 1000000 ⟨boot_heap w.params,Array.mk [],boot_drawn,boot_toks,os⟩ (topStub p)=some sg.abs:=by
  rw [←VD]
  unfold D7 at h1
  split at h1
  ·rename_i sa ta' ea
   split at h1
   ·rename_i sb cb pb eb
    rw [K5,K6] at h1
    split at h1
    ·rename_i sf pf cs' ec
     split at h1
     ·rename_i sg' eg
      cases h1
      have hb:=segRun_of eb
      rw [hcs cb (K9 ec cb (.head _))] at hb
      have c1:=Oz ec hcs (Oy eg)
      rw [Ot] at c1
      have c2:=piece_block hb c1
      have c3:=Ox ea
      rw [h3] at c3
      have c4:=go_top c3 c2
      have hl:=Ou 400 (behindTheImports p)
      have:=topRun_mono (1000000 - (12+(1+((cut 400 (behindTheImports p)).length*2000+2)))) _ _ _ _ c4
      rwa [show 12+(1+((cut 400 (behindTheImports p)).length*2000+2))+(1000000 - (12+(1+((cut 400 (behindTheImports p)).length*2000+2))))=1000000 by omega] at this
     ·cases h1
    ·cases h1
   ·cases h1
  ·cases h1
 have t:topFrom treeTable p w 1000000 ⟨boot_heap w.params,Array.mk [],boot_drawn,boot_toks,os⟩=some sg.abs:=by
  unfold topFrom
  dsimp only
  rw [z1,z2,z3,run]
  show (match staticsOk (importedModules p.main.body) (boot_heap w.params) sg.abs.heap&&namesBound p sg.abs.heap&&gensDone sg.abs&&laidKept (boot_heap w.params) sg.abs.heap with |true=>_ |false=>_)=_
  rw [l1]
 unfold openEnds
 rw [e0]
 show (topFrom treeTable p w 1000000 _).map _=_
 rw [t]
 exact congrArg some (Prod.ext l2 l3)
def OA (h:Heap) (a:Addr):Option (Addr×Obj):=match h.get? a with
 |some o=>(match o.cls,a==mainNs||a==cStatics with
  |.none,false=>none
  |_,_=>some (a,o))
 |none=>none
def Jw (h:Heap):Frag:=(List.range h.objs.size).filterMap (OA h)
theorem lookup_mem {a:Addr} {o:Obj}:∀{l:Frag},l.lookup a=some o→(a,o)∈l
 |[],h=>by cases h
 |(b,o')::l,h=>by
  rw [Gb] at h
  split at h
  ·rename_i q
   cases h
   rw [beq_iff_eq.mp q]
   exact .head _
  ·exact .tail _ (lookup_mem h)
theorem VG (h:Heap):(Jw h).In h:=fun a o e=>by
 obtain ⟨b,_,hb⟩:=List.mem_filterMap.mp (lookup_mem e)
 unfold OA at hb
 split at hb
 ·rename_i o' e'
  split at hb
  ·cases hb
  ·cases hb;exact e'
 ·cases hb
def blank (fd:FuncData):FuncData:={fd with kwdefaults:=.none,doc:=.none,pyModule:=.none,annotations:=none,code:=.none,closureTuple:=.none}
def HE (K:Frag) (n:Str):Option (FuncData×Bool×Bool):=match nsIn K mainGlobals n with
 |some (some (.ref f))=>(match K.lookup f with
  |some ⟨_,_,.func fd,_⟩=>some (blank fd,codeIn K fd.code n,keepIn K (.ref f))
  |_=>none)
 |_=>none
abbrev Jx (n:Str) (st:Stmt):FuncData:=fnOf n n (L2.defArgs st) (L2.defBody st) (L2.defScope st) .none .none .none .none none .none .none
inductive Jy (K:Frag) (n:Str) (st:Stmt):Prop where
 |mk (f:Addr) (od an:Option Addr) (sl:Array (Option Value)) (oc kV dc pm cd ct:Value) (a:nsIn K mainGlobals n=some (some (.ref f)))
  (l:K.lookup f=some ⟨oc,od,.func (fnOf n n (L2.defArgs st) (L2.defBody st) (L2.defScope st) .none kV dc pm an cd ct),sl⟩) (c:codeIn K cd n=true) (k:keepIn K (.ref f)=true):Jy K n st
theorem VH {K:Frag} {n:Str} {st:Stmt} (e:HE K n=some (Jx n st,true,true)):Jy K n st:=by
 unfold HE at e
 split at e
 ·rename_i f hf
  split at e
  ·rename_i oc od fd sl hl
   obtain ⟨e1,e2⟩:=Prod.mk.inj (Option.some.inj e)
   obtain ⟨e3,e4⟩:=Prod.mk.inj e2
   obtain ⟨x1,x2,x3,x4,x5,x6,x7,x8,x9,x10,x11,x12,x13,x14,x15⟩:=fd
   replace e1:FuncData.mk x1 x2 x3 x4 x5 x6 x7 x8 .none .none .none none .none .none x15=Jx n st:=e1
   injection e1 with y1 y2 y3 y4 y5 y6 y7 y8 y9 y10 y11 y12 y13 y14 y15
   subst x1 x2 x3 x4 x5 x6 x7 x8 x15
   exact ⟨f,od,x12,sl,oc,x9,x10,x11,x13,x14,hf,hl,e3,e4⟩
  ·cases e
 ·cases e
def HF (K:Frag) (x:Str):Option Int:=match nsIn K mainGlobals x with
 |some (some (.int v _))=>some v
 |_=>none
theorem VI {K:Frag} {x:Str} {v:Int} (e:HF K x=some v):∃t,nsIn K mainGlobals x=some (some (.int v t)):=by
 unfold HF at e
 split at e
 ·rename_i t h;cases e;exact ⟨t,h⟩
 ·cases e
def OB (K:Frag) (h:Heap):Option (Option Obj×Bool×Bool):=match LS.tabP K with
 |some (c,T)=>some (h.get? T,codeHdIn K c T,(K.lookup T).isNone)
 |none=>none
structure Want where
 fs:List (Str×Stmt)
 cs:List (Str×Int)
 bs:List Str
abbrev Jz:=List (Option (FuncData×Bool×Bool))×List (Option Int)×List (Option (Option Value))×Bool×Option (Option Obj×Bool×Bool)
noncomputable def ZbI (W:Want) (s:Shared):Jz:=fL (Jw s.heap) fun K=>
 (W.fs.map fun x=>HE K x.1,W.cs.map fun x=>HF K x.1,W.bs.map (nsIn K mainGlobals),LS.etOk K,OB K s.heap)
def VJ (W:Want):Jz:=(W.fs.map fun x=>some (Jx x.1 x.2,true,true),W.cs.map fun x=>some x.2,W.bs.map fun _=>some none,true,some (some (tabObj #[]),true,true))
inductive La (W:Want) (K:Frag) (c T:Addr):Prop where
 |mk (fs:∀(i:Nat) n st,W.fs[i]?=some (n,st)→Jy K n st) (cs:∀(i:Nat) n v,W.cs[i]?=some (n,v)→∃t,nsIn K mainGlobals n=some (some (.int v t))) (bs:∀(i:Nat) n,W.bs[i]?=some n→nsIn K mainGlobals n=some none)
  (et:LS.etOk K=true) (tb:LS.tabP K=some (c,T)) (hd:codeHdIn K c T=true) (no:K.lookup T=none):La W K c T
def Says (W:Want) (_:World) (h:Heap):Prop:=∃(K:Frag) (c T:Addr),K.In h∧La W K c T∧h.get? T=some (tabObj #[])
theorem Says.keeps {W:Want} (w:World) (h h':Heap) (x:Says W w h) (k:∀b o,h.get? b=some o→h'.get? b=some o):Says W w h':=by
 obtain ⟨K,c,T,h1,h2,h3⟩:=x
 exact ⟨K,c,T,h1.keeps k,h2,k _ _ h3⟩
theorem Lb {α β:Type} {f g:α→β} {l:List α} (e:l.map f=l.map g) {i:Nat} {x:α} (h:l[i]?=some x):f x=g x:=by
 have:=congrArg (·[i]?) e
 simp only [Dc,h,Gc,Option.some.injEq] at this
 exact this
end Tp
namespace LS
open PySem PySem.W PySem.Spec PySem.Calls PyProof.Rows L2
end LS
namespace Tp
open PySem PySem.W PySem.Spec PySem.Calls PyProof.Rows
def VL (K:Frag):Option (FuncData×List Bool):=match nsIn K mainGlobals "TooMany",nsIn K mainGlobals "SwitchError" with
 |some (some (.ref C)),some (some (.ref S))=>(match K.lookup C with
  |some o=>(match LS.clsOf o.data with
   |some cd=>(match nsIn K cd.ns "__init__" with
    |some (some (.ref f))=>(match K.lookup f with
     |some ⟨oc,_,.func fd,_⟩=>some (blank fd,[codeIn K fd.code "TooMany.__init__",LS.tmX K C f,LS.swX K S,keepIn K (.ref C),oc==.type "function"])
     |_=>none)
    |_=>none)
   |none=>none)
  |none=>none)
 |_,_=>none
abbrev VM (st:Stmt):FuncData:=fnOf "__init__" "TooMany.__init__" (L2.defArgs st) (L2.defBody st) (L2.defScope st) .none .none .none .none none .none .none
inductive OC (K:Frag) (st:Stmt):Prop where
 |mk (C S f:Addr) (od an:Option Addr) (sl:Array (Option Value)) (kV dc pm cd ct:Value) (nC:nsIn K mainGlobals "TooMany"=some (some (.ref C))) (nS:nsIn K mainGlobals "SwitchError"=some (some (.ref S)))
  (l:K.lookup f=some ⟨.type "function",od,.func (fnOf "__init__" "TooMany.__init__" (L2.defArgs st) (L2.defBody st) (L2.defScope st) .none kV dc pm an cd ct),sl⟩) (c:codeIn K cd "TooMany.__init__"=true) (tm:LS.tmX K C f=true) (sw:LS.swX K S=true) (kp:keepIn K (.ref C)=true):OC K st
noncomputable def ZbJ (W:Want) (s:Shared):Jz×Option (FuncData×List Bool):=fL (Jw s.heap) fun K=>
 ((W.fs.map fun x=>HE K x.1,W.cs.map fun x=>HF K x.1,W.bs.map (nsIn K mainGlobals),LS.etOk K,OB K s.heap),VL K)
def ZbK (W:Want) (st:Stmt):Jz×Option (FuncData×List Bool):=(VJ W,some (VM st,[true,true,true,true,true]))
def SaysT (W:Want) (st:Stmt) (_:World) (h:Heap):Prop:=∃(K:Frag) (c T:Addr),K.In h∧(La W K c T∧OC K st)∧h.get? T=some (tabObj #[])
theorem SaysT.keeps {W:Want} {st:Stmt} (w:World) (h h':Heap) (x:SaysT W st w h) (k:∀b o,h.get? b=some o→h'.get? b=some o):SaysT W st w h':=by
 obtain ⟨K,c,T,h1,h2,h3⟩:=x
 exact ⟨K,c,T,h1.keeps k,h2,k _ _ h3⟩
end Tp
namespace LS
open PySem PySem.W PySem.Spec PySem.Calls PyProof.Rows L2
structure TmK (P:Program) (w:World) (K:Frag) (mg:Str→Option Value) (base:Heap) (C f:Addr) (fd:FuncData) (oI:Obj):Prop where
 tm:tmX K C f=true
 F:FnOk P w K mg base (Ay P w K) 1 f fd ["self","many","most"] (On K C)
 hb:Binds K fd ["self","many","most"] []
 lI:K.lookup f=some oI
 cI:oI.cls=.type "function"
 kp:keepIn K (.ref C)=true
 nC:nsIn K mainGlobals "TooMany"=some (some (.ref C))
end LS
namespace LS
open PySem PySem.Spec PyProof.Rows L2
open Classical in
noncomputable def ZbL:D→HD→Out D
 |.int i,h=>if i.natAbs<4611686018427387904 then .ok (.str (toString i)) h else .stuck
 |_,_=>.stuck
section
variable {X:Cx}
def ZbM (i j k:Nat) (ta:TA):TS:=fun Dn σ H=>ta σ H fun vs H1=>∃u v w,vs=[u,v,w]∧Dn.nx (((σ.set i (some u)).set j (some v)).set k (some w)) H1
def Lc (i j k:Nat) (ρ:Ai):List D→HD→Out (Fl×Ai)
 |[u,v,w],h=>.ok (.nx,((ρ.set i (some u)).set j (some v)).set k (some w)) h
 |_,_=>.stuck
noncomputable def OD (i j k:Nat) (fa:MA):MS:=fun ρ h=>(fa ρ h).bind fun ds h1=>Lc i j k ρ ds h1
end
@[simp] theorem ZbN {i j k:Nat} {fa:MA} {ρ:Ai} {h:HD} {Q:Fl×Ai→HD→Prop}:Wp (OD i j k fa ρ h) Q=Wp (fa ρ h) fun ds h1=>Wp (Lc i j k ρ ds h1) Q:=by unfold OD;rw [Ap]
@[simp] theorem ZbO {i j k:Nat} {ρ:Ai} {u v w:D} {h:HD} {Q:Fl×Ai→HD→Prop}:Wp (Lc i j k ρ [u,v,w] h) Q=Q (.nx,((ρ.set i (some u)).set j (some v)).set k (some w)) h:=rfl
section
variable {X:Cx}
abbrev ZbP:=EW fun i j=>.int (Builtin.bitXor i j)
end
section
variable {X:Cx} {E:XK} {D:Addr} {elt tg iter:Expr} {ifs:List Expr} {gs gens:List Comprehension} {scope:Scope} {pos:Pos} {Nc:List Str} {cs:List (Option Nat)} {it:MI} {gg:TG} {sg:MG} {t:MT} {f:ME} {e:Cm} {d:Nat} {is js:List Nat}
end
def VN:List Expr→Option (List (Int×Int))
 |[]=>some []
 |.Tuple [.Constant (.int a) _ _,.Constant (.int b) _ _] _ _::es=>(VN es).map ((a,b)::·)
 |_=>none
noncomputable def JA:List (Int×Int)→MA
 |[]=>Ad
 |p::ps=>Ab (B1 (Ab (mC (.int p.1)) (Ab (mC (.int p.2)) Ad))) (JA ps)
@[simp] theorem ZbQ:JA []=Ad:=rfl
@[simp] theorem ZbR {p:Int×Int} {ps:List (Int×Int)}:JA (p::ps)=Ab (B1 (Ab (mC (.int p.1)) (Ab (mC (.int p.2)) Ad))) (JA ps):=rfl
section
variable {X:Cx} {E:XK}
@[irreducible] def ExI (X:Cx) (E:XK) (st:Stmt) (g:MS):Prop:=Ex X E st g
@[irreducible] def ZbS (X:Cx) (E:XK) (sts:List Stmt) (g:MS):Prop:=AR X E sts g
end
end LS
namespace LS
open PySem PySem.Spec PySem.W PyProof.Rows L2
end LS
namespace LS
open PySem PySem.Spec PyProof.Rows L2 PySem.W
theorem VO {P:Program} {w:World} {K:Frag} {mg mb:Str→Option Value} {k:Nat} {fa a:Addr} {fd:FuncData} {x:Str} {F:List D→HD→Out D} {s₁:Shared} {vs:List Value} {ns:List Int}
 (KX:K.In s₁.heap) (hns:s₁.heap.Ns mainGlobals mg) (hb:s₁.heap.Ns builtinsNs mb) (hbb:∀x:Str,x≠"__name__"→mb x=bootBuiltins x) (hlim:s₁.heap.NoLimit) (hg:s₁.gens=#[]) (hbm:HA mg s₁.heap)
 (ha:s₁.heap.get? a=some {cls:=.type "list",data:=.seq vs.toArray}) (hi:IntsAre vs ns) (hl:ns.length≤sizeLine) (hr:Room k callerA)
 (FF:∀base:Heap,K.In base→base.Ns mainGlobals mg→HA mg base→FnOk P w K mg base (Ay P w K) k fa fd [x] (E4 K F)) (hbind:∀(s:Shared) (u:Value),BindsTo s fd ⟨[u],[]⟩ [(x,u)])
 (hF:∃h',F [.scr ns] []=.ok (.bl true) h'):
 codeAny (model P w) callerA (.call (.ref fa) ⟨[.ref a],[]⟩) (fun r s'=>r=.ok (.ret (.bool true))∧OldK s₁.heap s'.heap∧s'.os=s₁.os∧AllBare s'.gens) s₁:=by
 have rv:=L2.vals_ints hi
 have lenV:=hi.length
 have core:∀H:Hp,(∀b,H b=none∨∃o xs,H b=some (.frz o (.lst xs)))→FzL K H a (ns.map V.int)→HOk P w H s₁.heap→(∀b,H b≠none→b=a)→(H a≠none→K.lookup a=none)→
  codeAny (model P w) callerA (.call (.ref fa) ⟨[.ref a],[]⟩) (fun r s'=>r=.ok (.ret (.bool true))∧OldK s₁.heap s'.heap∧s'.os=s₁.os∧AllBare s'.gens) s₁:=by
  intro H hO hS hok hA hK
  have base_of:∀{b:Addr} {o:Obj},s₁.heap.get? b=some o→H b=none→(DU s₁.heap H).get? b=some o:=fun e n=>Qh e n
  have noA:∀{b:Addr} {o:Obj},s₁.heap.get? b=some o→(∀its n,o.data≠.seq its n)→(∀ws,o.data≠.fields ws)→H b=none:=fun {b o} e d1 d2=>by
   cases q:H b with
   |none=>rfl
   |some u=>
    have e':=hA b (by rw [q];simp)
    subst e'
    rw [ha] at e;cases e
    exact absurd rfl (d1 _ _)
  have nsK:∀{b:Addr} {m:Str→Option Value},s₁.heap.Ns b m→(DU s₁.heap H).Ns b m:=fun {b m} ⟨o,es,ep,e,d,r⟩=>⟨o,es,ep,base_of e (noA e (fun _ _ z=>by rw [d] at z;cases z) (fun _ z=>by rw [d] at z;cases z)),d,r⟩
  have hKb:K.In (DU s₁.heap H):=fun b o e=>base_of (KX b o e) (by
   cases q:H b with
   |none=>rfl
   |some u=>
    have e':=hA b (by rw [q];simp)
    subst e'
    rw [hK (by rw [q];simp)] at e;cases e)
  have hM:Mod K mg (DU s₁.heap H):=⟨hKb,nsK hns,⟨mb,nsK hb,hbb⟩,let ⟨mc,h1,h2⟩:=hlim;⟨mc,nsK h1,h2⟩⟩
  have e0:G8 P w K mg (DU s₁.heap H) callerA [] s₁ H:=⟨rfl,hM,fun b o e=>Qi e,Nat.le_of_eq (Qg _ _),trivial,fun b hb=>absurd (show b∈([]:List Addr) from hb) (by simp),hok,.of_eq hg⟩
  have hBM:HA mg (DU s₁.heap H):=by
   obtain ⟨bm,o,h1,h2,h3,h4,h5,h6⟩:=hbm
   exact ⟨bm,o,h1,h2,base_of h3 (noA h3 (fun _ _ z=>by rw [h6] at z;cases z) (fun _ z=>by rw [h6] at z;cases z)),h4,h5,h6⟩
  have hsp:E4 K F [.ref a] H (fun v _=>v=.bl true) fun _ _ _=>False:=by
   obtain ⟨h',e⟩:=hF
   refine ⟨[],[.scr ns],[],⟨rfl,by simp,fun l cc b e1 e2=>by simp at e1⟩,.cons (by simp only [DV];exact ⟨a,rfl,hS⟩) .nil,?_⟩
   ·rw [e]
    intro v m' H' _ _ _ r
    simpa [rD,DV] using r
  refine codeAny_mono ((FF _ hKb (nsK hns) hBM).run callerA [] s₁ H ⟨[.ref a],[]⟩ [.ref a] [.ref a] _ _ hr e0 (hbind s₁ (.ref a)) (.cons rfl .nil) hsp) fun r s' h=>?_
  cases r with
  |error e=>
   obtain ⟨_,_,_,_,_,_,_,_,_,_,_,_,q⟩:=h
   exact q.elim
  |ok fl=>
   cases fl with
   |next=>exact False.elim h
   |brk=>exact False.elim h
   |cont=>exact False.elim h
   |ret u=>
    obtain ⟨v,H',os,bare,un,hok',r',q⟩:=h
    have q':v=.bl true:=q
    subst q'
    obtain rfl:u=Value.bool true:=r'
    have keepO:∀b o,s₁.heap.get? b=some o→s'.heap.get? b=some o:=fun b o e=>by
     cases q:H b with
     |none=>exact un.keep b o e q (by intro z;exact absurd (show b∈([]:List Addr) from z) (by simp)) (by simp)
     |some u=>
      rcases hO b with z |⟨ob,xs,z⟩
      ·rw [q] at z;cases z
      ·have z2:=un.frzs b ob _ z
       obtain ⟨e1,_⟩:=hok b _ z
       obtain ⟨e2,_⟩:=hok' b _ z2
       rw [e] at e1;cases e1
       exact e2
    exact ⟨rfl,⟨fun b o e=>.inl (keepO b o e),fun b o e=>⟨o,keepO b o e⟩⟩,os,bare⟩
 cases hk:K.lookup a with
 |some o=>
  have e:=KX a o hk
  rw [ha] at e
  cases e
  exact core (fun b=>none) (fun b=>.inl rfl) (.inr (.inr ⟨_,vs.toArray,_,hk,rfl,rfl,rfl,by rw [A7,lenV];exact hl,by simpa using rv⟩)) (fun b u z=>by cases z) (fun b z=>absurd rfl z) fun z=>absurd rfl z
 |none=>
  refine core (fun b=>if b=a then some (.frz {cls:=.type "list",data:=.seq vs.toArray} (.lst (ns.map V.int))) else none) (fun b=>?_) (.inl ⟨{cls:=.type "list",data:=.seq vs.toArray},if_pos rfl⟩) (fun b u z=>?_) (fun b z=>?_) fun _=>hk
  ·by_cases hba:b=a
   ·exact .inr ⟨_,_,if_pos hba⟩
   ·exact .inl (if_neg hba)
  ·by_cases hba:b=a
   ·have z':=(if_pos hba).symm.trans z
    cases z'
    subst hba
    exact ⟨ha,by rw [Cp];exact hl,vs,_,rv,ha⟩
   ·have z':=(if_neg hba).symm.trans z
    cases z'
  ·by_cases hba:b=a
   ·exact hba
   ·exact absurd (if_neg hba) z
end LS
namespace Tp
open PySem PySem.W PySem.Spec PySem.Calls PyProof.Rows
abbrev OE:=List (Option (FuncData×Bool×Bool))×List (Option Int)×List (Option (Option Value))×Bool
noncomputable def obs0 (W:Want) (s:Shared):OE:=fL (Jw s.heap) fun K=>
 (W.fs.map fun x=>HE K x.1,W.cs.map fun x=>HF K x.1,W.bs.map (nsIn K mainGlobals),true)
def val0 (W:Want):OE:=(W.fs.map fun x=>some (Jx x.1 x.2,true,true),W.cs.map fun x=>some x.2,W.bs.map fun _=>some none,true)
inductive Has0 (W:Want) (K:Frag):Prop where
 |mk (fs:∀(i:Nat) n st,W.fs[i]?=some (n,st)→Jy K n st) (cs:∀(i:Nat) n v,W.cs[i]?=some (n,v)→∃t,nsIn K mainGlobals n=some (some (.int v t))) (bs:∀(i:Nat) n,W.bs[i]?=some n→nsIn K mainGlobals n=some none)
  (et:True):Has0 W K
def Says0 (W:Want) (_:World) (h:Heap):Prop:=∃K:Frag,K.In h∧Has0 W K
theorem Says0.keeps {W:Want} (w:World) (h h':Heap) (x:Says0 W w h) (k:∀b o,h.get? b=some o→h'.get? b=some o):Says0 W w h':=by
 obtain ⟨K,h1,h2⟩:=x
 exact ⟨K,h1.keeps k,h2⟩
theorem says0_of {W:Want} (w:World) (s:Shared) (e:obs0 W s=val0 W):Says0 W w s.heap:=by
 unfold obs0 val0 at e
 rw [HC] at e
 obtain ⟨e1,e⟩:=Prod.mk.inj e
 obtain ⟨e2,e⟩:=Prod.mk.inj e
 obtain ⟨e3,e4⟩:=Prod.mk.inj e
 exact ⟨_,VG _,fun i n st h=>VH (Lb e1 h),fun i n v h=>VI (Lb e2 h),fun i n h=>Lb e3 h,trivial⟩
end Tp
namespace LS
open PySem PySem.W PySem.Spec PySem.Calls PyProof.Rows L2
theorem walk_hd0 {l:OpenLaw} {n k:Nat} {q:Program} {loose:List Str} {XP:(Str→Option Value)→Heap→Prop} {W:Tp.Want} {d:DefRec} {x:Str} {F:List D→HD→Out D}
 (hn:l.most=some n) (hn2:n≤sizeLine) (hdf:d.params.defaults=[]) (hr:Room k callerA)
 (Fn:∀(w:World) (K:Frag) (mg:Str→Option Value) (fa:Addr) (h:Heap),Tp.Has0 W K→K.In h→h.Ns mainGlobals mg→mg d.name=some (.ref fa)→
  ∃fd:FuncData,(∀(s:Shared) (u:Value),BindsTo s fd ⟨[u],[]⟩ [(x,u)])∧
   ∀base:Heap,K.In base→base.Ns mainGlobals mg→HA mg base→FnOk l.prog w K mg base (Ay l.prog w K) k fa fd [x] (E4 K F))
 (hF:∀ns:List Int,ns.length≤n→(∀i∈ns,Builtin.Int.intBits i≤2^20)→∃h',F [.scr ns] []=.ok (.bl true) h'):
 WalkO q loose XP (Tp.Says0 W) l.row.toRowW d [] (fun f vs=>PySem.call f vs):=by
 refine Att.attach_bits hn hdf fun w s₀ s₁ mg mb fa o pm cd doc a vs ns hbits G Y ho hd hcd' hmg hobj hints hlen hg=>?_
 obtain ⟨K,KX,HS⟩:=Y
 obtain ⟨fd,hb,hF'⟩:=Fn w K mg fa _ HS KX G.T.g hmg
 obtain ⟨bm,ob,b1,b2,b3,b4,b5,b6⟩:=G.T.bmain
 exact VO KX G.T.g G.T.b G.T.builtins G.T.nolimit hg ⟨bm,ob,b1,b2,b3,b4,b5,b6⟩ hobj hints (BU hlen hn2) hr hF' hb (hF ns hlen hbits)
end LS
namespace LS
open PySem PySem.Spec PyProof.Rows L2
def VP:D→HD→Out D:=fun x h=>match x with
 |.loc l=>(match h[l]? with
  |some (.lst ds)=>Ca ds.reverse h
  |_=>.stuck)
 |_=>.stuck
def ZbT (f:ME):ME:=fun ρ h=>(f ρ h).bind VP
section
variable {X:Cx} {E:XK} {e:Expr} {f:ME}
end
def CP:D→D→HD→Out D:=fun x y h=>match x with
 |.exc _ _=>.stuck
 |.edic=>.stuck
 |_=>Cc x y h
theorem HG {X:Cx}:CH X (.builtin "isinstance") (BV CP):=by
 obtain ⟨r,hr,i⟩:=Ts (X:=X)
 refine ⟨r,hr,fun m H h E ds vs Q hr rd q=>i m H h E ds vs Q hr rd ?_⟩
 match ds,q with
 |[],q=>exact q
 |[_],q=>exact q
 |x::_::_::_,q=>exact q
 |[x,y],q=>
  cases x with
  |exc _ _=>exact q.elim
  |edic=>exact q.elim
  |_=>exact q
section
variable {h:HD} {y:D} {i:Int} {b:Bool} {x:Str} {ds:List D} {l:Nat}
@[simp] theorem ZbU:CP (.int i) y h=Cc (.int i) y h:=rfl
@[simp] theorem ZbV:CP (.bl b) y h=Cc (.bl b) y h:=rfl
@[simp] theorem ZbW:CP .non y h=Cc .non y h:=rfl
@[simp] theorem ZbX:CP (.str x) y h=Cc (.str x) y h:=rfl
@[simp] theorem ZbY:CP (.tup ds) y h=Cc (.tup ds) y h:=rfl
@[simp] theorem ZbZ:CP (.loc l) y h=Cc (.loc l) y h:=rfl
end
end LS
namespace LS
open PySem PySem.Spec PyProof.Rows L2 PySem.W PySem.Calls
def VQ:Kyd→Bool
 |.i _=>true
 |_=>false
def JB (kvs:List (Kyd×D)):Bool:=kvs.all fun p=>VQ p.1
def VR (kvs:List (Kyd×D)) (k:Kyd):Option D:=(kvs.find? fun p=>decide (p.1=k)).map (·.2)
def Ds (kvs:List (Kyd×D)) (k:Kyd) (v:D):List (Kyd×D):=if kvs.any (fun p=>decide (p.1=k)) then kvs.map (fun p=>if p.1=k then (p.1,v) else p) else kvs++[(k,v)]
def IR (K:Frag) (m:List Addr) (H:Hp) (p:Kyd×D) (q:Int×Value):Prop:=p.1=.i q.1∧∃v,DV K m H p.2 v∧RelV v q.2
section
variable {P:Program} {w:World} {K:Frag} {m:List Addr} {H:Hp} {h:Heap} {a:Addr}
theorem EntD.len:∀{kvs:List (Kyd×D)} {es:List (Kyd×V×V)},EntD K m H kvs es→kvs.length=es.length
 |[],_,e=>by simp only [EntD] at e;subst e;rfl
 |_::_,_,e=>by
  simp only [EntD] at e
  obtain ⟨kv,vv,r',rfl,_,_,t⟩:=e
  simp [EntD.len t]
theorem VS {kvs:List (Kyd×D)} {k:Kyd} {d:D}:(Ds kvs k d).length≤kvs.length+1:=by
 unfold Ds
 split<;>simp
theorem Ld {H':Hp} {es:List (Kyd×V×V)} (d:A9 a es h):ObjOk P w H' h a (.dct (A9 a es)):=
 ⟨d,let ⟨_,_,_,o,_,_,e,_⟩:=d;⟨o,e⟩,fun h1 h2 ⟨x1,x2,x3,o,us,ep,e,r⟩ k=>⟨x1,x2,x3,o,us,ep,k _ e,r⟩⟩
end
section
variable {X:Cx} {E:XK} {pins:List (Addr×Obj)} {σ:L2.St} {H:Hp} {s:Shared}
theorem VT (I:Inv X pins σ H s):(s.heap.objs.size==sysModules)=false:=by
 have ne:s.heap.objs.size≠sysModules:=by
  obtain ⟨og,_,_,eg,_⟩:=I.ok.mod.glob
  obtain ⟨ml,⟨ol,_,_,el,_⟩,_⟩:=I.loc
  have h1:(3:Nat)<X.base.objs.size:=AA eg
  have h2:(X.env.locals:Nat)<s.heap.objs.size:=AA el
  have h3:X.base.objs.size≤X.s₀.heap.objs.size:=I.ok.bsz
  have h4:X.s₀.heap.objs.size≤(X.env.locals:Nat):=I.ok.above
  have h5:(1:Nat)<s.heap.objs.size:=Bo (Bo (show 1<4 by decide) h1) (BU h3 (BU h4 (Nat.le_of_lt h2)))
  exact fun z=>Nat.ne_of_gt h5 z
 exact beq_eq_false_iff_ne.mpr ne
def Le (kvs:List (Kyd×D)) (h:HD):Out D:=.ok (.loc h.length) (h++[.dic false kvs])
def JC:ME:=fun _ h=>Le [] h
theorem VU {m:List Addr} {h:HD} {Q:VK} {a:Addr} {kvs:List (Kyd×D)} {es:List (Kyd×V×V)} {H1:Hp} (hr:HR X.K m h H) (hf:H a=none) (k:Kp H H1) (p:Post X.K (rD X.K) m H E Q (Le kvs h)) (e1:H1=Am H a (.dct (A9 a es))) (en:EntD X.K m H kvs es):Q (.ref a) H1:=by
 subst e1
 refine p (.ref a) (m++[a]) _ (F9 _ _) (.new hf) (hr.newCell hf ⟨es,Cf,en.keep (F9 _ _) (.new hf)⟩) ?_
 simp only [rD,DV]
 refine ⟨a,rfl,?_⟩
 rw [←hr.len]
 simp
theorem VV {pos:Pos}:Ev X E (.Dict [] [] pos) JC:=fun pins s σ H Q I z1_=>by
 obtain ⟨m,ρ,h,hr,er,p⟩:=z1_
 have hf:H s.heap.objs.size=none:=I.hok.fresh (AJ _)
 exact wpAny_Dict_empty ⟨.ref s.heap.objs.size,Am H s.heap.objs.size (.dct (A9 s.heap.objs.size [])),I.laid (t':=s.toks) (fun _ _ q=>Bn _ q) (AJ _) (Ld ⟨VT I,DT _,List.nodup_nil,_,#[],0,BI _ rfl,⟨rfl,rfl,rfl⟩,rfl,.nil⟩),rfl,
  VU (es:=[]) hr hf (.new hf) p rfl (by simp [EntD])⟩
def VW (i j:Int):ME:=fun _ h=>Le [(.i i,.int j)] h
def OF:D→HD→Out D:=fun x h=>match x with
 |.loc l=>(match h[l]? with
  |some (.dic _ _)=>.ok x h
  |_=>.stuck)
 |_=>.stuck
theorem OG {fz:Bool} {a:Addr} {es:List (Kyd×V×V)} (I:Inv X pins σ H s) (d:DicH fz H a es):A9 a es s.heap:=by
 have:=d.rd.ok I.hok
 exact (show ObjOk X.prog X.w H s.heap a (.dct (A9 a es)) from this).1
theorem OH {a:Addr} {es:List (Kyd×V×V)} (d:A9 a es s.heap):s.TypeIs (.ref a) "dict"∧∀b,Value.ref a=.ref b→∃ob,s.heap.get? b=some ob∧ob.dict=none:=by
 obtain ⟨_,_,_,o,us,ep,h1,h2,h3,_⟩:=d
 exact ⟨⟨o,h1,h2.1⟩,fun b z=>by cases z;exact ⟨o,h1,h2.2.1⟩⟩
def OI:D→D→D→HD→Out D:=fun x y z h=>match x,y with
 |.loc l,.int n=>(match h[l]? with
  |some (.dic _ kvs)=>if JB kvs then .ok ((VR kvs (.i n)).getD z) h else .stuck
  |_=>.stuck)
 |_,_=>.stuck
def OJ (f g k:ME):ME:=fun ρ h=>((f ρ h).bind OF).bind fun x h1=>(g ρ h1).bind fun y h2=>(k ρ h2).bind fun z h3=>OI x y z h3
def OK (o i v:D) (h:HD) (g:HD→Out (Fl×Ai)):Out (Fl×Ai):=match o,i with
 |.loc l,.int n=>(match h[l]? with
  |some (.dic false kvs)=>if JB kvs∧kvs.length<sizeLine then g (h.set l (.dic false (Ds kvs (.i n) v))) else .stuck
  |_=>.stuck)
 |_,_=>.stuck
def OL (fo fi fv:ME):MS:=fun ρ h=>(fv ρ h).bind fun v h1=>(fo ρ h1).bind fun o h2=>(fi ρ h2).bind fun i h3=>OK o i v h3 fun h4=>.ok (.nx,ρ) h4
def Zb0 (K:Frag):V→V→V→Hp→(Hp→Prop)→Prop:=fun o i v H Q=>∃(m:List Addr) (a:Addr) (n:Int) (kvs:List (Kyd×D)) (es:List (Kyd×V×V)) (d:D),o=.ref a∧i=.int n∧H a=some (.dct (A9 a es))∧EntD K m H kvs es∧JB kvs=true∧kvs.length<sizeLine∧DV K m H d v∧
 ∀es',EntD K m H (Ds kvs (.i n) d) es'→Q (Am H a (.dct (A9 a es')))
def Zb1 (a:Addr) (ob:Obj) (es:List (Kyd×V×V)):It:=⟨fun i H=>H a=some (.frz ob (.dct (A9 a es)))∧i<es.length,fun i H x H'=>∃p k kv vv,H p=none∧x=.ref p∧es[i]?=some (k,kv,vv)∧H'=Am H p (.tup [kv,vv]),fun i H=>H a=some (.frz ob (.dct (A9 a es)))∧i=es.length⟩
theorem OM {K:Frag} {m:List Addr} {H:Hp}:∀{kvs:List (Kyd×D)} {es:List (Kyd×V×V)} {i:Nat} {p:Kyd×D},EntD K m H kvs es→kvs[i]?=some p→∃kv vv,es[i]?=some (p.1,kv,vv)∧DV K m H (kD p.1) kv∧DV K m H p.2 vv
 |[],_,_,_,_,q=>by simp at q
 |_::_,_,i,p,e,q=>by
  simp only [EntD] at e
  obtain ⟨kv,vv,r',rfl,d1,d2,t⟩:=e
  cases i with
  |zero=>simp at q;subst q;exact ⟨kv,vv,rfl,d1,d2⟩
  |succ i=>simpa using OM (i:=i) t (by simpa using q)
theorem VX {K:Frag} {m:List Addr} {H:Hp} {kvs:List (Kyd×D)} {es:List (Kyd×V×V)} {us:List DictEntry} {i:Nat} {e:DictEntry} {k:Kyd} {kv vv:V} (r:Paired G9 es us) (he:es[i]?=some (k,kv,vv)) (hu:us[i]?=some e):RelV kv e.key∧RelV vv e.val:=by
 induction r generalizing i with
 |nil=>simp at he
 |cons a t ih=>
  cases i with
  |zero=>simp at he hu;subst he hu;exact ⟨a.2.1,a.2.2⟩
  |succ i=>exact ih (by simpa using he) (by simpa using hu)
def ON (d:D) (h:HD):Out (List D×AW):=match d with
 |.loc l=>(match h[l]? with
  |some (.dic _ kvs)=>if JB kvs then .ok (kvs.map fun p=>.tup [kD p.1,p.2],[]) (h.set l (.dic true kvs)) else .stuck
  |_=>.stuck)
 |_=>.stuck
def OO (f:ME):MI:=fun ρ h=>(f ρ h).bind ON
end
section
variable {f g k fo fi fv:ME} {ρ:Ai} {h:HD} {Q:D→HD→Prop} {QS:Fl×Ai→HD→Prop} {QI:List D×AW→HD→Prop} {i j:Int} {l:Nat} {fz:Bool} {kvs:List (Kyd×D)}
@[simp] theorem Zb2:Wp (JC ρ h) Q=Q (.loc h.length) (h++[.dic false []]):=id rfl
@[simp] theorem Zb3:Wp (VW i j ρ h) Q=Q (.loc h.length) (h++[.dic false [(.i i,.int j)]]):=id rfl
@[simp] theorem Zb4:Wp (OJ f g k ρ h) Q=Wp (f ρ h) fun x h1=>Wp (OF x h1) fun x h2=>Wp (g ρ h2) fun y h3=>Wp (k ρ h3) fun z h4=>Wp (OI x y z h4) Q:=by unfold OJ;simp only [Ap]
@[simp] theorem Zb5:Wp (OL fo fi fv ρ h) QS=Wp (fv ρ h) fun v h1=>Wp (fo ρ h1) fun o h2=>Wp (fi ρ h2) fun i h3=>Wp (OK o i v h3 fun h4=>.ok (.nx,ρ) h4) QS:=by unfold OL;simp only [Ap]
@[simp] theorem Zb6:Wp (OO f ρ h) QI=Wp (f ρ h) fun d h1=>Wp (ON d h1) QI:=by unfold OO;rw [Ap]
end
namespace Db
open PySem
section
variable {prog:Program} {w:World} {A:Around} {E:Value→Shared→Prop} {s:Shared}
abbrev iK (prog:Program) (w:World):KeyKind prog w Int:=intKind prog w
inductive RowsAre (prog:Program) (w:World) (h:Heap):List (List Int)→List Value→Prop
 |nil:RowsAre prog w h [] []
 |cons {k:List Int} {v:Value} {ks:List (List Int)} {vs:List Value}:(∃b,v=.ref b∧IsTupleKey (iK prog w) h k b)→RowsAre prog w h ks vs→RowsAre prog w h (k::ks) (v::vs)
def IsBoardKey (prog:Program) (w:World) (h:Heap) (ks:List (List Int)) (a:Addr):Prop:=∃o items n,h.get? a=some o∧o.cls=.type "tuple"∧o.data=.seq items n∧RowsAre prog w h ks items.toList
theorem RowsAre.inj {h:Heap} {x y:List (List Int)} {vs:List Value} (hx:RowsAre prog w h x vs) (hy:RowsAre prog w h y vs):x=y:=by
 induction hx generalizing y with
 |nil=>cases hy;rfl
 |cons h1 _ ih=>
  cases hy with
  |cons h2 t2=>
   obtain ⟨b1,rfl,q1⟩:=h1
   obtain ⟨b2,e,q2⟩:=h2
   cases e
   rw [q1.inj q2,ih t2]
theorem IsBoardKey.inj {h:Heap} {a:Addr} {x y:List (List Int)} (hx:IsBoardKey prog w h x a) (hy:IsBoardKey prog w h y a):x=y:=by
 obtain ⟨o,items,n,ho,_,hd,hi⟩:=hx
 obtain ⟨o',items',n',ho',_,hd',hi'⟩:=hy
 obtain rfl:o=o':=Option.some.inj (ho.symm.trans ho')
 rw [hd] at hd'
 injection hd' with h1 _
 subst h1
 exact hi.inj hi'
theorem IsBoardKey.typeIs {ks:List (List Int)} {a:Addr} (x:IsBoardKey prog w s.heap ks a):s.TypeIs (.ref a) "tuple":=let ⟨o,_,_,ho,hc,_⟩:=x;⟨o,ho,hc⟩
theorem RowsAre.keeps {h h':Heap} {d:Addr} {o:Obj} {es ep} (ho:h.get? d=some o) (hd:o.data=.dict es ep) (hs:Heap.SameBut d h h'):∀{ks:List (List Int)} {vs:List Value},RowsAre prog w h ks vs→RowsAre prog w h' ks vs
 |_,_,.nil=>.nil
 |_,_,.cons h1 t=>.cons (let ⟨b,e,q⟩:=h1;⟨b,e,q.keeps ho hd hs⟩) (RowsAre.keeps ho hd hs t)
theorem IsBoardKey.keeps {h h':Heap} {ks:List (List Int)} {a d:Addr} {o:Obj} {es ep} (x:IsBoardKey prog w h ks a) (ho:h.get? d=some o) (hd:o.data=.dict es ep) (hs:Heap.SameBut d h h'):IsBoardKey prog w h' ks a:=by
 obtain ⟨o',items,n,ho',hc,hd',hi⟩:=x
 have hne:a≠d:=by
  rintro rfl
  obtain rfl:o'=o:=Option.some.inj (ho'.symm.trans ho)
  rw [hd] at hd';exact nomatch hd'
 exact ⟨o',items,n,(hs.2 a hne).trans ho',hc,hd',hi.keeps ho hd hs⟩
def HH (ks:List (List Int)):Nat:=(ks.map fun r=>r.length+1).sum
def Lf (prog:Program) (w:World) (ks:List (List Int)):Int:=reduceHash (Builtin.Tuple.tupleHashOf (ks.map (tupleKeyHash (iK prog w))))
theorem VY {ks:List (List Int)} {a:Addr} {Q:Int→Shared→Prop} (hu:A.units+1<cLine) (hk:IsBoardKey prog w s.heap ks a) (h:Q (Lf prog w ks) {s with toks:=s.toks+(HH ks+1)}):
 wpAny (model prog w) A (pyHash (.ref a)) Q E s:=by
 have hT:=hk.typeIs
 obtain ⟨o,items,n,ho,_,hd,hi⟩:=hk
 unfold pyHash
 first |unfold pyHashByItsType |skip
 first |refine wpAny_bind (wpAny_cRoomFor_or (.inr (by omega)) ?_) |skip
 refine wpAny_bind (wpAny_specialOf hT F.slot_tuple_hash.lookup ?_)
 show wpAny _ _ (if (some (Value.builtin "tuple.__hash__")==some Value.none)=true then _ else _) Q E s
 rw [if_neg (by rw [beq_builtin_none];exact Bi)]
 refine wpAny_bind (wpAny_specialOf hT F.slot_tuple_hash.lookup ?_)
 show wpAny _ _ (callSpecialIfBoundUnlessNone? (.ref a) "__hash__" _ >>=_) Q E s
 refine wpAny_bind (wpAny_callSpecialIfBoundUnlessNone?_slot hT F.slot_tuple_hash (wpAny_call_entry F.slot_tuple_hash hT F.entry_tuple_hash ?_ (F.args_tuple_hash_1 _)))
 show wpAny _ _ (Builtin.Tuple.tupleItemsOf (.ref a) >>=_) _ _ s
 refine wpAny_bind (wpAny_tupleItemsOf ho hd ?_)
 refine wpAny_bind ?_
 rw [←Array.forIn_toList]
 refine wpAny_forIn_list _
  (fun rest (b:Array Int) s'=>∃done Hz,ks=done++Hz∧RowsAre prog w s.heap Hz rest∧b.toList=done.map (tupleKeyHash (iK prog w))∧s'={s with toks:=s.toks+HH done})
  _ ?_ ?_ _ _ ⟨[],ks,rfl,hi,rfl,rfl⟩
 ·rintro x rest b s' ⟨done,Hz,rfl,hl,hb,rfl⟩
  cases hl with
  |@cons k _ ks' _ h1 hl'=>
   obtain ⟨rb,rfl,hrow⟩:=h1
   refine wpAny_bind (wpAny_pyHash_tuple (by show _<cLine;first |exact hu |omega) hrow ?_)
   first
    |exact wpAny_pure ⟨done++[k],ks',by simp,hl',by simp [hb],by simp [HH,G1]⟩
    |exact wpAny_bind (wpAny_pure (wpAny_pure ⟨done++[k],ks',by simp,hl',by simp [hb],by simp [HH,G1]⟩))
 ·rintro b s' ⟨done,Hz,rfl,hl,hb,rfl⟩
  cases hl
  rw [EJ] at h
  show wpAny _ _ (retInt (Builtin.Tuple.tupleHashOf b.toList)) _ _ _
  rw [hb]
  refine wpAny_ret_mkInt ?_
  show wpAny _ _ (if (decide (-(2:Int)^63≤Builtin.Tuple.tupleHashOf (done.map (tupleKeyHash (iK prog w))))&&decide (Builtin.Tuple.tupleHashOf (done.map (tupleKeyHash (iK prog w)))<2^63))=true then _ else _) Q E _
  unfold Lf reduceHash at h
  by_cases hr:(decide (-(2:Int)^63≤Builtin.Tuple.tupleHashOf (done.map (tupleKeyHash (iK prog w))))&&decide (Builtin.Tuple.tupleHashOf (done.map (tupleKeyHash (iK prog w)))<2^63))=true
  ·rw [if_pos hr]
   rw [if_pos hr] at h
   exact wpAny_pure (by simpa [G1] using h)
  ·rw [if_neg hr]
   rw [if_neg hr] at h
   exact wpAny_bind (wpAny_rule (wpAny_pure (by simpa [G1] using h)))
theorem VZ {x y:List (List Int)} {a b:Addr} {P:Fin→Shared→Prop} (hu:A.units<cLine) (hx:IsBoardKey prog w s.heap x a) (hy:IsBoardKey prog w s.heap y b) (h:P (.done (.ret (.bool (decide (x=y))))) s):
 wpAny (model prog w) A (Builtin.«tuple.__eq__» ⟨[.ref a,.ref b],[]⟩) P E s:=by
 have hTb:=hy.typeIs
 obtain ⟨oa,xs,na,hoa,_,hda,hia⟩:=hx
 obtain ⟨ob,ys,nb,hob,_,hdb,hib⟩:=hy
 show wpAny _ _ (isInstance (.ref b) (.type "tuple") >>=_) _ _ s
 refine wpAny_bind (wpAny_isInstance hTb isSubtype_tuple_tuple ?_)
 simp only [Gd,BK,if_false]
 refine wpAny_bind (wpAny_tupleItemsOf hoa hda ?_)
 refine wpAny_bind (wpAny_tupleItemsOf hob hdb ?_)
 refine wpAny_bind ?_
 refine wpAny_forIn_list _
  (fun rest r s'=>r.1=none∧s'=s∧∃x' y' xs' ys',rest=List.zip xs' ys'∧RowsAre prog w s.heap x' xs'∧RowsAre prog w s.heap y' ys'∧decide (x'=y')=decide (x=y)∧(xs'.length==ys'.length)=(xs.size==ys.size))
  _ ?_ ?_ _ _ ⟨rfl,rfl,x,y,xs.toList,ys.toList,rfl,hia,hib,rfl,by simp⟩
 ·rintro ⟨u,v⟩ rest r s' ⟨hr,rfl,x',y',xs',ys',hz,hx',hy',hdec,hlen⟩
  cases hx' with
  |nil=>simp at hz
  |@cons k1 u' x'' xs'' h1 hx''=>
   cases hy' with
   |nil=>simp at hz
   |@cons k2 v' y'' ys'' h2 hy''=>
    simp only [List.zip_cons_cons,List.cons.injEq,Prod.mk.injEq] at hz
    obtain ⟨⟨rfl,rfl⟩,rfl⟩:=hz
    obtain ⟨b1,rfl,r1⟩:=h1
    obtain ⟨b2,rfl,r2⟩:=h2
    refine wpAny_bind (wpAny_eqBool_tuple (x:=k1) (y:=k2) (by show _<cLine;first |exact hu |omega) r1 r2 ?_)
    by_cases hk:k1=k2
    ·subst hk
     rw [decide_eq_true rfl]
     simp only [Gd,BK,if_false]
     refine wpAny_pure ⟨rfl,rfl,x'',y'',xs'',ys'',rfl,hx'',hy'',?_,by simpa using hlen⟩
     rw [←hdec]
     by_cases hxy:x''=y''
     ·simp [hxy]
     ·simp [hxy]
    ·rw [decide_eq_false hk]
     simp only [Bool.not_false,if_true]
     have hf:decide (x=y)=false:=by rw [←hdec];simp [hk]
     rw [hf] at h
     exact wpAny_bind (wpAny_pure (wpAny_pure (wpAny_pure h)))
 ·rintro ⟨r1,r2⟩ s' ⟨hr,rfl,x',y',xs',ys',hz,hx',hy',hdec,hlen⟩
  simp only at hr
  subst hr
  refine wpAny_pure ?_
  have hfin:(xs.size==ys.size)=decide (x=y):=by
   rw [←hdec,←hlen]
   cases hx' with
   |nil=>
    cases hy' with
    |nil=>simp
    |cons _ _=>simp
   |cons _ _=>
    cases hy' with
    |nil=>simp
    |cons _ _=>simp at hz
  show P (.done (.ret (.bool (xs.size==ys.size)))) s'
  rw [hfin];exact h
theorem V0 {x y:List (List Int)} {a b:Addr} {Q:Bool→Shared→Prop} (hu:A.units+1<cLine) (hx:IsBoardKey prog w s.heap x a) (hy:IsBoardKey prog w s.heap y b) (h:Q (decide (x=y)) s):
 wpAny (model prog w) A (eqBool (.ref a) (.ref b)) Q E s:=by
 unfold eqBool
 try with_reducible refine wpAny_holding ?_
 show wpAny _ _ (if (Value.ref a==Value.ref b)=true then _ else _) Q E s
 by_cases hab:(Value.ref a==Value.ref b)=true
 ·rw [if_pos hab]
  have e:a=b:=by have:=eq_of_beq hab;injection this
  subst e
  obtain rfl:=hx.inj hy
  exact wpAny_bind (wpAny_rule (wpAny_pure (by simpa using h)))
 ·rw [if_neg hab]
  exact wpAny_bind (wpAny_richCompare_same_room (op:=.Eq) hx.typeIs hy.typeIs F.slot_tuple_eq
   (wpAny_call_entry F.slot_tuple_eq hx.typeIs F.entry_tuple_eq (VZ (by show A.in1.units<cLine;exact hu) hx hy ⟨_,rfl,(fun e=>nomatch e),wpAny_truthy_bool h⟩) (F.args_tuple_eq_2 _ _)) (by omega))
theorem V1 {ks:List Int} {a:Addr} {Q:Bool→Shared→Prop} (hk:IsTupleKey (iK prog w) s.heap ks a) (h:Q true s):wpAny (model prog w) A (eqIsQuiet 7 (.ref a)) Q E s:=by
 have hT:=hk.typeIs
 obtain ⟨o,items,n,ho,_,hd,hi⟩:=hk
 unfold eqIsQuiet
 refine wpAny_bind (wpAny_specialOf hT F.slot_tuple_eq.lookup ?_)
 show wpAny _ _ (isInstance (.ref a) (.type "tuple") >>=_) _ _ s
 refine wpAny_bind (wpAny_isInstance hT isSubtype_tuple_tuple ?_)
 simp only [Gd,BK,if_false]
 refine wpAny_bind (wpAny_seqItems ho hd ?_)
 refine wpAny_bind ?_
 show wpAny _ _ (forIn items _ _) _ _ s
 rw [←Array.forIn_toList]
 refine wpAny_forIn_list _ (fun rest r s'=>r.1=none∧s'=s∧∀v∈rest,carriedByValue v=true) _ ?_ ?_ _ _ ⟨rfl,rfl,hi.byValue⟩
 ·rintro v rest r s' ⟨hr,rfl,hall⟩
  rw [eqIsQuiet_byValue _ (hall v AI)]
  refine wpAny_bind (wpAny_pure ?_)
  simp only [Gd,BK,if_false]
  exact wpAny_pure ⟨rfl,rfl,fun u hu'=>hall u (AU _ hu')⟩
 ·rintro ⟨r1,r2⟩ s' ⟨hr,rfl,_⟩
  simp only at hr
  subst hr
  exact wpAny_pure h
theorem V2 {ks:List (List Int)} {a:Addr} {Q:Bool→Shared→Prop} (hk:IsBoardKey prog w s.heap ks a) (h:Q true s):wpAny (model prog w) A (eqIsQuiet 8 (.ref a)) Q E s:=by
 have hT:=hk.typeIs
 obtain ⟨o,items,n,ho,_,hd,hi⟩:=hk
 unfold eqIsQuiet
 refine wpAny_bind (wpAny_specialOf hT F.slot_tuple_eq.lookup ?_)
 show wpAny _ _ (isInstance (.ref a) (.type "tuple") >>=_) _ _ s
 refine wpAny_bind (wpAny_isInstance hT isSubtype_tuple_tuple ?_)
 simp only [Gd,BK,if_false]
 refine wpAny_bind (wpAny_seqItems ho hd ?_)
 refine wpAny_bind ?_
 show wpAny _ _ (forIn items _ _) _ _ s
 rw [←Array.forIn_toList]
 refine wpAny_forIn_list _ (fun rest r s'=>r.1=none∧s'=s∧∃ks',RowsAre prog w s.heap ks' rest) _ ?_ ?_ _ _ ⟨rfl,rfl,_,hi⟩
 ·rintro v rest r s' ⟨hr,rfl,hall⟩
  obtain ⟨ks',hall⟩:=hall
  cases hall with
  |cons h1 t1=>
  obtain ⟨rb,rfl,hrow⟩:=h1
  refine wpAny_bind (V1 hrow ?_)
  simp only [Gd,BK,if_false]
  exact wpAny_pure ⟨rfl,rfl,_,t1⟩
 ·rintro ⟨r1,r2⟩ s' ⟨hr,rfl,_⟩
  simp only at hr
  subst hr
  exact wpAny_pure h
end
def boardKind (prog:Program) (w:World):HeapKind prog w (List (List Int)) where
 is:=IsBoardKey prog w
 hash:=Lf prog w
 draws:=fun ks=>HH ks+1
 room:=fun A=>A.units+1<cLine
 inj:=fun hx hy=>hx.inj hy
 keeps:=fun x ho hd hs=>x.keeps ho hd hs
 pyHash:=fun hu hk h=>VY hu hk h
 eqBool:=fun hu hx hy h=>V0 hu hx hy h
 quiet:=fun hk h=>V2 hk h
section
variable {prog:Program} {w:World} {A:Around} {E:Value→Shared→Prop} {s:Shared}
theorem k_iter {d:Addr} {o:Obj} {es:Array DictEntry} {ep:Nat} {Q:Value→Shared→Prop} (hd:(d==sysModules)=false) (hT:s.TypeIs (.ref d) "dict") (ho:s.heap.get? d=some o) (hdat:o.data=.dict es ep)
 (hQ:Q (.ref s.heap.objs.size) {s with heap:=s.heap.push {cls:=.type "dict_keyiterator",data:=.fields #[.ref d,.int 0 0,.int es.size 0,.int ep 0]}}):
 wpAny (model prog w) A (pyIter (.ref d)) Q E s:=by
 refine wpAny_pyIter_slot hT F.slot_dict_iter (wpAny_call_entry F.slot_dict_iter hT F.entry_dict_iter ?_ (F.args_dict_iter_1 _))
 unfold Builtin.«dict.__iter__»
 refine wpAny_bind ?_
 unfold Builtin.Dict.dictSlotNone
 refine wpAny_bind (wpAny_notOrdered_dict hT ?_)
 show wpAny _ _ (pure (Value.ref d)) _ _ s
 refine wpAny_pure ?_
 show wpAny _ _ (Builtin.Dict.showsAll d >>=_) _ _ s
 unfold Builtin.Dict.showsAll
 rw [if_neg (by rw [hd];exact Bi)]
 refine wpAny_bind (wpAny_pure ?_)
 refine wpAny_bind (wpAny_dictEntries ho hdat ?_)
 refine wpAny_bind (wpAny_dictEpoch ho hdat ?_)
 refine wpAny_bind (wpAny_newObj_type (wpAny_pure ⟨_,rfl,"dict_keyiterator",_,⟨_,BI _ rfl,rfl⟩,F.slot_dict_keyiterator_next.lookup,?_⟩))
 simpa [rawInt] using hQ
theorem k_next {it d:Addr} {i ep:Nat} {od:Obj} {es:Array DictEntry} {Q:Option Value→Shared→Prop} (hit:s.heap.IsKeyIter it d i es.size ep)
 (hod:s.heap.get? d=some od) (hdd:od.data=.dict es ep) (hlt':i<es.size)
 (hQ:∀h',h'.IsKeyIter it d (i+1) es.size ep→Heap.SameBut it s.heap h'→Q (some es[i].key) {s with heap:=h'}):
 wpAny (model prog w) A (pyNext (.ref it)) Q E s:=by
 obtain ⟨o,ho,hc,hd⟩:=id hit
 unfold pyNext
 refine wpAny_bind (wpAny_attempt (wpAny_callSpecial?_slot (name:=Str.ofString "__next__") hit.typeIs F.slot_dict_keyiterator_next
  (wpAny_call_entry F.slot_dict_keyiterator_next hit.typeIs F.entry_dict_keyiterator_next ?_ (F.args_dict_keyiterator_next_1 _))))
 refine wpAny_bind (wpAny_pure ?_)
 refine wpAny_bind ?_
 refine wpAny_bind ?_
 first |refine wpAny_bind (wpAny_typeNameOfWhole_keyiter hit.typeIs (wpAny_pure ?_)) |refine wpAny_bind (wpAny_typeNameOf_keyiter hit.typeIs (wpAny_pure ?_))
 refine wpAny_bind (wpAny_fieldsOf ho hd ?_)
 have hown:Builtin.Dict_items.ownsTuple "dict_keyiterator"=false:=by decide
 simp only [hown,BK,if_false]
 show wpAny _ _ (if (Value.ref d==Value.none)=true then _ else _) _ _ s
 rw [if_neg (show ¬((Value.ref d==Value.none)=true) from Bi)]
 refine wpAny_bind (wpAny_pure ?_)
 refine wpAny_bind (wpAny_dictEntries hod hdd ?_)
 rw [if_neg (by simp)]
 refine wpAny_bind (wpAny_pure ?_)
 refine wpAny_bind (wpAny_dictEpoch hod hdd ?_)
 rw [if_neg (by simp)]
 refine wpAny_pure ?_
 simp only [show ¬((i:Int)<0) from by omega,if_false,GY,Array.getElem?_eq_getElem hlt']
 refine wpAny_bind ?_
 first |refine wpAny_bind (wpAny_typeNameOfWhole_keyiter hit.typeIs (wpAny_pure ?_)) |refine wpAny_bind (wpAny_typeNameOf_keyiter hit.typeIs (wpAny_pure ?_))
 refine wpAny_bind (wpAny_isOneOf_keyiter hit.typeIs ?_)
 show wpAny _ _ (setField (.ref it) 1 (rawInt ((i:Int)+1)) >>=_) _ _ s
 refine wpAny_bind (wpAny_setField ho hd (by simp) ?_)
 have hit':(s.heap.update it (Obj.mapFields (·.setIfInBounds 1 (rawInt ((i:Int)+1))))).IsKeyIter it d (i+1) es.size ep:=
  ⟨_,Ij _ ho (Obj.isFreed_of_fields (Obj.data_mapFields hd _)),(Obj.cls_mapFields ..).trans hc,by rw [Obj.data_mapFields hd];simp [rawInt]⟩
 refine wpAny_bind (wpAny_holding ?_)
 refine wpAny_bind (wpAny_isOneOf_keyiter (s:={s with heap:=s.heap.update it (Obj.mapFields (·.setIfInBounds 1 (rawInt ((i:Int)+1))))}) hit'.typeIs ?_)
 show wpAny _ _ (pure es[i].key) _ _ _
 exact wpAny_pure (wpAny_pure ⟨_,rfl,wpAny_pure (hQ _ hit' (Heap.SameBut.update ..))⟩)
theorem k_end {it d:Addr} {i ep:Nat} {od:Obj} {es:Array DictEntry} {Q:Option Value→Shared→Prop} (hh:A.handled=none) (hit:s.heap.IsKeyIter it d i es.size ep)
 (hod:s.heap.get? d=some od) (hdd:od.data=.dict es ep) (hge:es.size≤i)
 (hQ:∀h',Heap.ExtBut it s.heap h'→Q none {s with heap:=h'}):wpAny (model prog w) A (pyNext (.ref it)) Q E s:=by
 obtain ⟨o,ho,hc,hd⟩:=id hit
 unfold pyNext
 refine wpAny_bind (wpAny_attempt (wpAny_callSpecial?_slot (name:=Str.ofString "__next__") hit.typeIs F.slot_dict_keyiterator_next
  (wpAny_call_entry F.slot_dict_keyiterator_next hit.typeIs F.entry_dict_keyiterator_next ?_ (F.args_dict_keyiterator_next_1 _))))
 refine wpAny_bind (wpAny_pure ?_)
 refine wpAny_bind ?_
 refine wpAny_bind ?_
 first |refine wpAny_bind (wpAny_typeNameOfWhole_keyiter hit.typeIs (wpAny_pure ?_)) |refine wpAny_bind (wpAny_typeNameOf_keyiter hit.typeIs (wpAny_pure ?_))
 refine wpAny_bind (wpAny_fieldsOf ho hd ?_)
 have hown:Builtin.Dict_items.ownsTuple "dict_keyiterator"=false:=by decide
 simp only [hown,BK,if_false]
 show wpAny _ _ (if (Value.ref d==Value.none)=true then _ else _) _ _ s
 rw [if_neg (show ¬((Value.ref d==Value.none)=true) from Bi)]
 refine wpAny_bind (wpAny_pure ?_)
 refine wpAny_bind (wpAny_dictEntries hod hdd ?_)
 rw [if_neg (by simp)]
 refine wpAny_bind (wpAny_pure ?_)
 refine wpAny_bind (wpAny_dictEpoch hod hdd ?_)
 rw [if_neg (by simp)]
 refine wpAny_pure ?_
 simp only [show ¬((i:Int)<0) from by omega,if_false,GY,Array.getElem?_eq_none hge]
 refine wpAny_bind ?_
 first |refine wpAny_bind (wpAny_typeNameOfWhole_keyiter hit.typeIs (wpAny_pure ?_)) |refine wpAny_bind (wpAny_typeNameOf_keyiter hit.typeIs (wpAny_pure ?_))
 show wpAny _ _ (setField (.ref it) 0 .none >>=_) _ _ s
 refine wpAny_bind (wpAny_setField ho hd (by simp) ?_)
 show wpAny _ _ (newExc (.type "StopIteration") [] >>=_) _ _ _
 refine wpAny_bind ?_
 simp only [newExc,newTuple]
 refine wpAny_bind (wpAny_newObj_type ?_ (by size_fits))
 refine wpAny_bind (m:=firstArgMember _ _) (wpAny_of_eq (a:=Value.none) (by first |rfl |(simp only [firstArgMember];rfl)) ?_)
 refine wpAny_newObj_type ?_ (by size_fits)
 simp only [raiseNew]
 refine wpAny_bind (wpAny_handled ?_)
 rw [show A.in1.handled=none from hh]
 refine wpAny_bind (wpAny_pure (wpAny_throw ?_))
 refine wpAny_bind (wpAny_isInstance (T:="StopIteration") (b:=true) ⟨_,BI _ rfl,rfl⟩ isSubtype_stop ?_)
 exact wpAny_pure (hQ _ (((Heap.SameBut.update ..).extBut.push _).push _))
theorem V3 (d:Addr) (hd:(d==sysModules)=false):
 MeetsIn prog w (Builtin.«dict.__len__» ⟨[.ref d],[]⟩) (fun _ R s=>∃o es ep,s.heap.get? d=some o∧o.data=.dict es ep∧R (.ok (.ret (.int (es.size:Nat) s.toks))) {s with toks:=s.toks+1}):=
 .of_wp fun A R s ⟨o,es,ep,ho,hdat,h⟩=>by
  show wpAny _ _ (dictSize d >>=_) _ _ s
  unfold dictSize
  refine wpAny_bind (wpAny_bind (wpAny_dictEntries ho hdat (wpAny_pure ?_)))
  show wpAny _ _ (Builtin.Dict.pendingCount d >>=_) _ _ s
  refine wpAny_bind (wpAny_pendingCount_other hd ?_)
  refine wpAny_ret_mkInt ?_
  rw [Nat.add_zero];exact h
theorem V4 {d:Addr} {o:Obj} {es:Array DictEntry} {ep:Nat} {Q:Value→Shared→Prop} (hd:(d==sysModules)=false) (hT:s.TypeIs (.ref d) "dict") (ho:s.heap.get? d=some o) (hdat:o.data=.dict es ep) (hfit:(es.size:Int)<2^63)
 (h:Q (.int es.size (s.toks+1)) {s with toks:=s.toks+1+1}):wpAny (model prog w) A (Builtin.«len» ⟨[.ref d],[]⟩) (fun A4 s'=>∃r,A4=.done (.ret r)∧Q r s') E s:=by
 unfold Builtin.«len»
 refine wpAny_bind (m:=oneArg "len" _) (wpAny_pure ?_)
 refine wpAny_bind (m:=callSpecial? (.ref d) (Str.ofString "__len__")) (wpAny_callSpecial?_slot (name:=Str.ofString "__len__") hT F.slot_dict_len
  (call_meetsIn F.slot_dict_len hT F.entry_dict_len (F.args_dict_len_1 _) (V3 d hd) ⟨o,es,ep,ho,hdat,?_⟩))
 show wpAny _ _ _ _ _ {s with toks:=s.toks+1}
 refine wpAny_bind (wpAny_holding (wpAny_pure ?_))
 refine wpAny_bind (wpAny_letGo ?_)
 show wpAny _ _ (if ((es.size:Nat):Int)<0 then _ else _) _ _ _
 rw [if_neg (by omega)]
 show wpAny _ _ (if ((es.size:Nat):Int)≥2^63 then _ else _) _ _ _
 rw [if_neg (by omega)]
 exact wpAny_bind (wpAny_mkInt (wpAny_pure ⟨_,rfl,h⟩))
theorem k_call_len {d:Addr} {o:Obj} {es:Array DictEntry} {ep:Nat} {Q:Value→Shared→Prop} (hd:(d==sysModules)=false) (hT:s.TypeIs (.ref d) "dict") (ho:s.heap.get? d=some o) (hdat:o.data=.dict es ep) (hfit:(es.size:Int)<2^63)
 (h:Q (.int es.size (s.toks+1)) {s with toks:=s.toks+1+1}):wpAny (model prog w) A (call (.builtin "len") [.ref d]) Q E s:=
 Calls.call_function_entry kind_len plain_len entry_len (args_len1 _) (V4 hd hT ho hdat hfit h)
end
end Db
end LS
namespace LS
open PySem PySem.Spec PyProof.Rows L2 PySem.W PySem.Calls
def V5:Kyd→Bool
 |.b _=>true
 |_=>false
def allB (kvs:List (Kyd×D)):Bool:=kvs.all fun p=>V5 p.1
def BR (K:Frag) (m:List Addr) (H:Hp) (p:Kyd×D) (q:List (List Int)×Addr×Value):Prop:=p.1=.b q.1∧DV K m H (kD p.1) (.ref q.2.1)∧∃v,DV K m H p.2 v∧RelV v q.2.2
section
variable {P:Program} {w:World} {K:Frag} {m:List Addr} {H:Hp} {h:Heap} {a:Addr}
theorem OP:∀{ns:List Int} {vs:List V} {us:List Value},DVs K m H (ns.map D.int) vs→Vals vs us→ItemsAre (intKind P w) ns us
 |[],_,_,r,t=>by
  simp only [Ej,DVs] at r
  subst r
  cases t
  exact .nil
 |n::ns,_,_,r,t=>by
  simp only [Bj,DVs] at r
  obtain ⟨v,vs,rfl,rv,rr⟩:=r
  simp only [DV] at rv
  subst rv
  cases t with
  |cons t1 t2=>
   obtain ⟨tk,rfl⟩:=t1
   exact .cons (intKind_is P w n tk) (OP rr t2)
theorem V6 (ok:HOk P w H h) {ns:List Int} {v:V} (d:DV K m H (.tup (ns.map D.int)) v):∃b,v=.ref b∧IsTupleKey (intKind P w) h ns b:=by
 simp only [DV] at d
 obtain ⟨b,vs,rfl,hb,dv⟩:=d
 obtain ⟨_,its,f2,⟨o,ho,hc,n,hd⟩,_⟩:=(show Iq h b vs from ok b _ hb)
 exact ⟨b,rfl,o,its.toArray,n,ho,hc,hd,by simpa using OP dv f2⟩
theorem OQ (ok:HOk P w H h):∀{rs:List (List Int)} {vs:List V} {us:List Value},DVs K m H (rs.map fun r=>.tup (r.map D.int)) vs→Vals vs us→Db.RowsAre P w h rs us
 |[],_,_,r,t=>by
  simp only [Ej,DVs] at r
  subst r
  cases t
  exact .nil
 |n::ns,_,_,r,t=>by
  simp only [Bj,DVs] at r
  obtain ⟨v,vs,rfl,rv,rr⟩:=r
  obtain ⟨b,rfl,q⟩:=V6 ok rv
  cases t with
  |cons t1 t2=>
   cases (show _=Value.ref b from t1)
   exact .cons ⟨b,rfl,q⟩ (OQ ok rr t2)
theorem OR (ok:HOk P w H h) {rs:List (List Int)} {v:V} (d:DV K m H (kD (.b rs)) v):∃b,v=.ref b∧Db.IsBoardKey P w h rs b:=by
 simp only [kD,DV] at d
 obtain ⟨b,vs,rfl,hb,dv⟩:=d
 obtain ⟨_,its,f2,⟨o,ho,hc,n,hd⟩,_⟩:=(show Iq h b vs from ok b _ hb)
 exact ⟨b,rfl,o,its.toArray,n,ho,hc,hd,by simpa using OQ ok dv f2⟩
theorem OT (ok:HOk P w H h):∀{kvs:List (Kyd×D)} {es:List (Kyd×V×V)} {ul:List DictEntry},EntD K m H kvs es→allB kvs=true→Paired G9 es ul→
 ∃xs:List (List (List Int)×Addr×Value),ul=xs.map (entryOfKey (Db.boardKind P w))∧Paired (BR K m H) kvs xs∧(∀x∈xs,(Db.boardKind P w).is h x.1 x.2.1)∧xs.map (fun q=>Kyd.b q.1)=es.map (·.1)
 |[],_,_,e,_,p=>by
  simp only [EntD] at e
  subst e
  cases p
  exact ⟨[],rfl,.nil,by simp,rfl⟩
 |(k,d)::kvs,_,_,e,hi,p=>by
  simp only [EntD] at e
  obtain ⟨kv,vv,r',rfl,d1,d2,t⟩:=e
  simp only [allB,List.all_cons,Du] at hi
  cases p with
  |cons p1 p2=>
   rename_i e ul'
   obtain ⟨xs,h1,h2,h3,h4⟩:=OT ok t hi.2 p2
   obtain ⟨q1,q2,q3⟩:=p1
   cases k with
   |b rs=>
    obtain ⟨b,rfl,hb⟩:=OR ok d1
    obtain ⟨eh,ek,ev⟩:=e
    cases (show ek=Value.ref b from q2)
    simp only at q1
    subst q1
    refine ⟨(rs,b,ev)::xs,by rw [h1];rfl,.cons ⟨rfl,d1,vv,d2,q3⟩ h2,fun x hx=>?_,by simp [h4]⟩
    rcases qa9.mp hx with rfl |hx
    ·exact hb
    ·exact h3 x hx
   |t ns=>cases hi.1
   |i n=>cases hi.1
theorem V7 (ok:HOk P w H h) {es:List (Kyd×V×V)} {kvs:List (Kyd×D)} (d:A9 a es h) (e:EntD K m H kvs es) (hi:allB kvs=true):∃xs:List (List (List Int)×Addr×Value),h.DictOfH (Db.boardKind P w) a xs∧Paired (BR K m H) kvs xs:=by
 obtain ⟨hs,hz,nd,o,us,ep,h1,h2,h3,h4⟩:=d
 obtain ⟨xs,q1,q2,q3,q4⟩:=OT ok e hi h4
 refine ⟨xs,⟨o,us,ep,h1,h2,h3,q1,q3,?_⟩,q2⟩
 rw [←q4] at nd
 unfold List.Nodup at nd ⊢
 rw [List.pairwise_map] at nd ⊢
 exact nd.imp fun z y=>z (by rw [y])
theorem OU:∀{kvs:List (Kyd×D)} {xs:List (List (List Int)×Addr×Value)},Paired (BR K m H) kvs xs→∃es:List (Kyd×V×V),EntD K m H kvs es∧Paired G9 es (xs.map (entryOfKey (Db.boardKind P w)))∧es.map (·.1)=xs.map (fun q=>Kyd.b q.1)
 |_,_,.nil=>⟨[],rfl,.nil,rfl⟩
 |_,_,.cons r t=>by
  rename_i x y xs ys
  obtain ⟨es,h1,h2,h3⟩:=OU t
  obtain ⟨k,d⟩:=x
  obtain ⟨n,b,u⟩:=y
  obtain ⟨r1,r0,v,r2,r3⟩:=r
  simp only at r1 r0 r2 r3
  subst r1
  refine ⟨(.b n,.ref b,v)::es,?_,.cons ⟨rfl,rfl,r3⟩ h2,by simp [h3]⟩
  simp only [EntD]
  exact ⟨_,_,_,rfl,r0,r2,h1⟩
theorem OV:∀{kvs:List (Kyd×D)} {xs:List (List (List Int)×Addr×Value)},Paired (BR K m H) kvs xs→kvs.length=xs.length
 |_,_,.nil=>rfl
 |_,_,.cons _ t=>by simp [OV t]
theorem V8 {kvs:List (Kyd×D)} {xs:List (List (List Int)×Addr×Value)} (hs:(a==sysModules)=false) (hz:kvs.length≤sizeLine) (dd:h.DictOfH (Db.boardKind P w) a xs) (r:Paired (BR K m H) kvs xs):∃es,A9 a es h∧EntD K m H kvs es:=by
 obtain ⟨o,us,ep,h1,h2,h3,h4,h5,h6⟩:=dd
 obtain ⟨es,q1,q2,q3⟩:=OU (P:=P) (w:=w) r
 refine ⟨es,⟨hs,by rw [←q1.len];exact hz,?_,o,us,ep,h1,h2,h3,by rw [h4];exact q2⟩,q1⟩
 rw [q3]
 unfold List.Nodup at h6 ⊢
 rw [List.pairwise_map] at h6 ⊢
 exact h6.imp fun z y=>z (by injection y)
theorem OW {n:List (List Int)}:∀{kvs:List (Kyd×D)} {xs:List (List (List Int)×Addr×Value)},Paired (BR K m H) kvs xs→(kvs.any fun p=>decide (p.1=.b n))=(atKey xs n).isSome
 |_,_,.nil=>rfl
 |_,_,.cons r t=>by
  rename_i x y xs ys
  rw [List.any_cons,OW t,r.1]
  by_cases z:y.1=n
  ·simp [atKey,List.find?_cons,z]
  ·simp [atKey,List.find?_cons,z]
theorem OX {n:List (List Int)} {d:D} {v:V} {u:Value} (dv:DV K m H d v) (rv:RelV v u):∀{kvs:List (Kyd×D)} {xs:List (List (List Int)×Addr×Value)},Paired (BR K m H) kvs xs→Paired (BR K m H) (kvs.map fun p=>if p.1=.b n then (p.1,d) else p) (xs.map (putAt n u))
 |_,_,.nil=>.nil
 |_,_,.cons r t=>by
  rename_i x y xs ys
  refine .cons ?_ (OX dv rv t)
  show BR K m H (if x.1=.b n then (x.1,d) else x) (putAt n u y)
  unfold putAt
  by_cases z:y.1=n
  ·rw [if_pos z,if_pos (by rw [r.1,z])]
   exact ⟨r.1,r.2.1,v,dv,rv⟩
  ·rw [if_neg z,if_neg (by rw [r.1];intro q;injection q with q;exact z q)]
   exact r
theorem OY {p:Kyd×D} {q:List (List Int)×Addr×Value} (r:BR K m H p q):∀{kvs:List (Kyd×D)} {xs:List (List (List Int)×Addr×Value)},Paired (BR K m H) kvs xs→Paired (BR K m H) (kvs++[p]) (xs++[q])
 |_,_,.nil=>.cons r .nil
 |_,_,.cons x t=>.cons x (OY r t)
theorem V9 {n:List (List Int)} {b:Addr} {d:D} {v:V} {u:Value} {kvs:List (Kyd×D)} {xs:List (List (List Int)×Addr×Value)} (r:Paired (BR K m H) kvs xs) (db:DV K m H (kD (.b n)) (.ref b)) (dv:DV K m H d v) (rv:RelV v u):Paired (BR K m H) (Ds kvs (.b n) d) (storedH xs n b u):=by
 unfold Ds storedH
 rw [OW r]
 by_cases z:(atKey xs n).isSome=true
 ·rw [if_pos z,if_pos z];exact OX dv rv r
 ·rw [if_neg z,if_neg z];exact OY ⟨rfl,db,v,dv,rv⟩ r
end
def E5:List D→Option (List Int)
 |[]=>some []
 |.int n::ds=>(E5 ds).map (n::·)
 |_=>none
def GO:List D→Option (List (List Int))
 |[]=>some []
 |.tup ds::r=>(match E5 ds,GO r with
  |some a,some b=>some (a::b)
  |_,_=>none)
 |_=>none
def HI:D→Option (List (List Int))
 |.tup ds=>GO ds
 |_=>none
theorem OZ:∀{ds:List D} {ns:List Int},E5 ds=some ns→ds=ns.map D.int
 |[],_,e=>by cases e;rfl
 |d::ds,ns,e=>by
  cases d<;>simp only [E5] at e<;>try cases e
  rename_i n
  cases q:E5 ds with
  |none=>rw [q] at e;cases e
  |some ms=>rw [q] at e;cases e;rw [OZ q];rfl
theorem O0:∀{ds:List D} {rs:List (List Int)},GO ds=some rs→ds=rs.map fun r=>.tup (r.map D.int)
 |[],_,e=>by cases e;rfl
 |d::ds,rs,e=>by
  cases d<;>simp only [GO] at e<;>try cases e
  rename_i xs
  split at e
  ·rename_i a b e1 e2
   cases e
   rw [O0 e2,OZ e1]
   rfl
  ·cases e
theorem O1 {d:D} {rs:List (List Int)} (e:HI d=some rs):d=kD (.b rs):=by
 cases d<;>simp only [HI] at e<;>try cases e
 rw [O0 e]
 rfl
def HJ (o i v:D) (h:HD) (g:HD→Out (Fl×Ai)):Out (Fl×Ai):=match o,HI i with
 |.loc l,some rs=>(match h[l]? with
  |some (.dic false kvs)=>if allB kvs∧kvs.length<sizeLine then g (h.set l (.dic false (Ds kvs (.b rs) v))) else .stuck
  |_=>.stuck)
 |_,_=>.stuck
def HK (fo fi fv:ME):MS:=fun ρ h=>(fv ρ h).bind fun v h1=>(fo ρ h1).bind fun o h2=>(fi ρ h2).bind fun i h3=>HJ o i v h3 fun h4=>.ok (.nx,ρ) h4
def Wa (K:Frag):V→V→V→Hp→(Hp→Prop)→Prop:=fun o i v H Q=>∃(m:List Addr) (a:Addr) (rs:List (List Int)) (kvs:List (Kyd×D)) (es:List (Kyd×V×V)) (d:D),o=.ref a∧DV K m H (kD (.b rs)) i∧H a=some (.dct (A9 a es))∧EntD K m H kvs es∧allB kvs=true∧kvs.length<sizeLine∧DV K m H d v∧
 ∀es',EntD K m H (Ds kvs (.b rs) d) es'→Q (Am H a (.dct (A9 a es')))
section
variable {X:Cx} {E:XK} {pins:List (Addr×Obj)} {σ:L2.St} {H:Hp} {s:Shared}
theorem Wb (hu:X.A.units+64<cLine):JU X (Wa X.K):=by
 intro pins s σ H o i v ov iv u Q I ro ri rv h
 obtain ⟨m,a,rs,kvs,es,d,rfl,di,hH,en,hi,hz,dv,q⟩:=h
 cases ro
 obtain ⟨b,rfl,hb⟩:=OR I.hok di
 cases (show iv=Value.ref b from ri)
 have dc:A9 a es s.heap:=(show ObjOk X.prog X.w H s.heap a (.dct (A9 a es)) from I.hok a _ hH).1
 obtain ⟨xs,dd,rr⟩:=V7 (P:=X.prog) (w:=X.w) I.hok dc en hi
 refine wpAny_setItem_heap (knd:=Db.boardKind X.prog X.w) (hsz:=by rw [←OV rr];omega) (by show X.A.units+1+1<cLine;omega) hb dd fun h' dd' hs=>?_
 obtain ⟨es',q1,q2⟩:=V8 (P:=X.prog) (w:=X.w) dc.1 (BU VS (by omega)) dd' (V9 rr di dv rv)
 refine ⟨_,I.write (x:=a) (e:=a) (t':=_) (by rw [hH];exact True.intro) (.inl rfl) (fun b q hb z=>(hs.2 b hb).trans z) ?_ (Ld q1),q es' q2⟩
 obtain ⟨q,_,_,hq,_⟩:=dd'
 exact ⟨q,hq⟩
theorem Wc {o i e:Expr} {fo fi fv:ME} {pos pos':Pos} (hu:X.A.units+64<cLine) (ho:Ev X E o fo) (hi:Ev X E i fi) (he:Ev X E e fv)
 (ha:∀v,assign (.Subscript o i pos') X.env v=(do
  let ov ←holding [v] (eval o X.env)
  let iv ←holding [v,ov] (eval i X.env)
  standAt pos'
  holding [v,ov,iv] (setItem ov iv v)
  release [v,ov,iv] []):=by intro _;rfl)
 (hs:swapsWithSole [.Subscript o i pos'] e pos.line X.env=pure false:=by rfl) (hw:swappedStores [.Subscript o i pos'] e X.env=pure none:=by rfl)
 (h1:(assignEach [.Subscript o i pos'] X.env).map (·.2)=[assign (.Subscript o i pos') X.env]:=by rfl):Ex X E (.Assign [.Subscript o i pos'] e pos) (HK fo fi fv):=
 DY (JV he (L6 ho hi (Wb hu) ha) hs hw h1) fun Dn σ H ⟨m,ρ,h,hr,er,p⟩=>⟨m,ρ,h,hr,er,PostS.bind p fun v h1 vv m1 H1 eo1 p1 k1 hr1 r1 q1=>by
  refine ⟨m1,ρ,h1,hr1,er.keep p1 k1,PostS.bind q1 fun ov h2 vo m2 H2 eo2 p2 k2 hr2 r2 q2=>?_⟩
  refine ⟨m2,ρ,h2,hr2,(er.keep p1 k1).keep p2 k2,PostS.bind q2 fun iv h3 vi m3 H3 eo3 p3 k3 hr3 r3 q3=>?_⟩
  clear eo1 eo2 eo3
  unfold HJ at q3
  split at q3
  ·rename_i l rs er'
   split at q3
   ·rename_i kvs el
    split at q3
    ·rename_i hc
     have ro:=DV.keep p3 k3 r2
     simp only [DV] at ro
     obtain ⟨a,rfl,ha⟩:=ro
     have ri:DV X.K m3 H3 (kD (.b rs)) vi:=by rw [←O1 er'];exact r3
     obtain ⟨es,hv,en⟩:=hr3.cells l _ a el ha
     have hv:H3 a=some (.dct (A9 a es)):=hv
     have rvv:=DV.keep p3 k3 (DV.keep p2 k2 r1)
     refine ⟨m3,a,rs,kvs,es,v,rfl,ri,hv,en,hc.1,hc.2,rvv,fun es' en'=>?_⟩
     have kk:Kp H3 (Am H3 a (.dct (A9 a es'))):=.set hv rfl
     have hr4:HR X.K m3 (h3.set l (.dic false (Ds kvs (.b rs) v))) (Am H3 a (.dct (A9 a es'))):=hr3.setCell ha hv rfl ⟨es',Cf,en'.keep (Aw _) kk⟩
     exact q3 m3 _ (Aw _) kk hr4 σ ((((er.keep p1 k1).keep p2 k2).keep p3 k3).keep (Aw _) kk)
    ·exact q3.elim
   ·exact q3.elim
  ·exact q3.elim⟩
def Fv:D→HD→Out D:=fun x h=>match x with
 |.loc l=>(match h[l]? with
  |some (.dic _ kvs)=>.ok (.int kvs.length) h
  |_=>.stuck)
 |_=>.stuck
theorem JD:∀{es:List (Kyd×V×V)} {ul:List DictEntry},Paired G9 es ul→es.length=ul.length
 |_,_,.nil=>rfl
 |_,_,.cons _ t=>by simp [JD t]
theorem Wd:CH X (.builtin "len") (Al Fv):=by
 refine UI (fun ds h=>?_) fun pins s σ H m h ds vs us Q I hr rd r q=>Hf rd q fun x v ev rx q=>?_
 ·unfold Al Fv
  repeat' split
  all_goals trivial
 ·subst ev
  obtain ⟨u,rfl,ru⟩:=Gh r
  unfold Fv at q
  split at q
  ·rename_i l
   split at q
   ·rename_i fz kvs el
    simp only [DV] at rx
    obtain ⟨a,rfl,ha⟩:=rx
    cases (show u=Value.ref a from ru)
    obtain ⟨es,he,en⟩:=hr.cells l _ a el ha
    have dc:=OG I he
    have dc2:=dc
    obtain ⟨hs,hz,nd,o,us,ep,g1,g2,g3,g4⟩:=dc2
    have hl:us.size=kvs.length:=by
     have:=JD g4
     rw [en.len,this,Array.length_toList]
    refine Db.k_call_len hs (OH dc).1 g1 g3 (by have:=JD g4;rw [sizeLine_eq] at hz;simp at this;omega) ?_
    rw [hl]
    exact ⟨.int kvs.length,H,I.tok _,⟨_,rfl⟩,Bp hr q (by simp [DV])⟩
   ·exact q.elim
  ·exact q.elim
def Wf (a:Addr) (ob:Obj) (es:List (Kyd×V×V)):It:=⟨fun i H=>H a=some (.frz ob (.dct (A9 a es)))∧i<es.length,fun i H x H'=>H'=H∧∃k vv,es[i]?=some (k,x,vv),fun i H=>H a=some (.frz ob (.dct (A9 a es)))∧i=es.length⟩
theorem Wg {P:Program} {w:World} {K:Frag} {tg:Expr} {es:List (Kyd×V×V)} {ob:Obj} {us:Array DictEntry} {ep:Nat} (it a:Addr) (hai:a≠it) (hd:ob.data=.dict us ep) (hlen:es.length=us.size):
 EL P w K tg (Wf a ob es) [it] it (fun i h=>h.IsKeyIter it a i us.size ep) where
 mem:=by simp
 obj:=fun i h st b hb=>by
  obtain ⟨o,h1,h2,h3⟩:=st
  rw [qaD] at hb
  subst hb
  exact ⟨o,h1,fun v z=>by rw [h3] at z;cases z⟩
 keep:=fun i h h' st k=>st.at fun o q=>k it (by simp) o q
 item:=by
  intro X hP hw hK hc i pins s σ H E I hf st hg
  subst hP hw hK
  obtain ⟨hH,hlt⟩:=hg
  obtain ⟨g1,g2⟩:=(show s.heap.get? a=some ob∧ObjOk X.prog X.w H s.heap a (.dct (A9 a es)) from I.hok a _ hH)
  obtain ⟨e0,e1,e2,e3,e4,e5⟩:=hf it (by simp)
  have hu:i<us.size:=by omega
  refine Db.k_next st g1 hd hu fun h1 hit hs=>⟨_,rfl,?_⟩
  obtain ⟨o,w1,w2,w3⟩:=hit
  refine IA (o:=o) w1 w2 w3 (by decide) ?_
  obtain ⟨⟨k,kv,vv⟩,hes⟩:∃q,es[i]?=some q:=⟨es[i],Br hlt⟩
  obtain ⟨_,_,_,o2,us2,ep2,y1,y2,y3,y4⟩:=g2.1
  rw [g1] at y1
  cases y1
  rw [hd] at y3
  cases y3
  have hue:us.toList[i]?=some us[i]:=by simp [hu]
  obtain ⟨c1,c2⟩:=VX (K:=X.K) (m:=[]) (H:=H) (kvs:=[]) y4 hes hue
  refine ⟨kv,H,?_,c1,⟨rfl,k,vv,hes⟩,⟨o,w1,w2,w3⟩,fun b hb=>?_⟩
  ·exact I.turned (t':=s.toks) (fun b o hb z=>hs.extBut b o hb z) e0 e1 e3 e4 e5
  ·rw [qaD] at hb
   subst hb
   exact e0
 done:=by
  intro X hP hw hK hc i pins s σ H E I hf st hg
  subst hP hw hK
  obtain ⟨hH,hlt⟩:=hg
  obtain ⟨g1,g2⟩:=(show s.heap.get? a=some ob∧ObjOk X.prog X.w H s.heap a (.dct (A9 a es)) from I.hok a _ hH)
  obtain ⟨i0,i1,i2,i3,i4,i5⟩:=hf it (by simp)
  exact Db.k_end (I.ok.hd hc) st g1 hd (by omega) fun h' eb=>⟨rfl,I.turned (t':=s.toks) (fun b o hb z=>eb b o hb z) i0 i1 i3 i4 i5⟩
 self:=fun A i s Q E st h=>wpAny_pyIter_keyiter st h
def EB (d:D) (h:HD):Out (List D×AW):=match d with
 |.loc l=>(match h[l]? with
  |some (.dic _ kvs)=>.ok (kvs.map fun p=>kD p.1,[]) (h.set l (.dic true kvs))
  |_=>.stuck)
 |_=>.stuck
def GP (f:ME):MI:=fun ρ h=>(f ρ h).bind EB
theorem Wh {tg o:Expr} {f:ME} (ho:Ev X E o f):Ew X E tg o (GP f):=by
 rintro pins s σ H R I ⟨m,ρ,h,hr,er,p⟩
 refine An (ho pins s σ H (fun v H1=>∃a l kvs es fz m1 h1,v=.ref a∧m1[l]?=some a∧h1[l]?=some (.dic fz kvs)∧DicH fz H1 a es∧EntD X.K m1 H1 kvs es∧HR X.K m1 h1 H1∧
  Post X.K (Fi X.K) m1 H1 E R (.ok (kvs.map fun p=>kD p.1,[]) (h1.set l (.dic true kvs)))) I ⟨m,ρ,h,hr,er,Post.bind p fun d h1 v m1 H1 eo p1 k1 hr1 r1 q1=>?_⟩) fun u s1 z=>?_
 ·clear eo
  unfold EB at q1
  split at q1
  ·rename_i l
   split at q1
   ·rename_i fz kvs el
    simp only [rD,DV] at r1
    obtain ⟨a,rfl,ha⟩:=r1
    obtain ⟨es,he,en⟩:=hr1.cells l _ a el ha
    exact ⟨a,l,kvs,es,fz,m1,h1,rfl,ha,el,he,en,hr1,q1⟩
   ·exact q1.elim
  ·exact q1.elim
 ·obtain ⟨v,H1,I1,rv,a,l,kvs,es,fz,m1,h1,rfl,ha,el,he,en,hr1,q⟩:=z
  cases (show u=Value.ref a from rv)
  have dc:=OG I1 he
  have dc2:=dc
  obtain ⟨hs,hz,nd,ob,us,ep,g1,g2,g3,g4⟩:=dc2
  have hlt:a<s1.heap.objs.size:=AA g1
  have hl:es.length=us.size:=by have:=JD g4;rw [this,Array.length_toList]
  refine Db.k_iter hs (OH dc).1 g1 g3 ?_
  have frz:∃H2 m2 H2',H2=H2'∧H2 a=some (.frz ob (.dct (A9 a es)))∧m1 <+:m2∧Kp H1 H2∧HR X.K m2 (h1.set l (.dic true kvs)) H2∧Inv X pins σ H2 s1:=by
   cases fz with
   |true=>
    obtain ⟨ob',he'⟩:=he
    obtain ⟨y1,_⟩:=(show s1.heap.get? a=some ob'∧_ from I1.hok a _ he')
    rw [g1] at y1
    cases y1
    have:h1.set l (.dic true kvs)=h1:=by
     obtain ⟨hl',e'⟩:=qa3.mp el
     apply Il
     ·simp
     ·intro j h1' h2'
      by_cases z:l=j
      ·subst z;rw [List.getElem_set_self];exact e'.symm
      ·rw [List.getElem_set_ne z]
    rw [this]
    exact ⟨H1,m1,H1,rfl,he',Aw _,.refl _,hr1,I1⟩
   |false=>
    have he:H1 a=some (.dct (A9 a es)):=he
    have kk:Kp H1 (Am H1 a (.frz ob (.dct (A9 a es)))):=.set he rfl
    refine ⟨Am H1 a (.frz ob (.dct (A9 a es))),m1,_,rfl,Cf,Aw _,kk,hr1.setCell ha he rfl ⟨es,⟨ob,Cf⟩,en.keep (Aw _) kk⟩,?_⟩
    exact I1.write (x:=a) (e:=a) (t':=s1.toks) (by rw [he];exact True.intro) (.inl rfl) (fun _ _ _ z=>z) ⟨ob,g1⟩ ⟨g1,Ld dc⟩
  obtain ⟨H2,m2,_,rfl,hH2,p2,k2,hr2,I2⟩:=frz
  refine ⟨s1.heap.objs.size,[s1.heap.objs.size],_,_,H2,rfl,I2.kept (t':=s1.toks) (fun b o z=>Bn _ z),Wg (es:=es) (ob:=ob) (us:=us) (ep:=ep) _ a (Ce hlt) g3 hl,⟨_,BI _ rfl,rfl,rfl⟩,fun b hb=>?_,?_⟩
  ·rw [qaD] at hb
   subst hb
   exact I2.fpOk (AJ _) (I2.hok.fresh (AJ _))
  ·refine q _ m2 H2 p2 k2 hr2 fun i m3 h3 H3 p3 k3 hr3 _=>?_
   have hH3:H3 a=some (.frz ob (.dct (A9 a es))):=k3 _ _ hH2 rfl
   have en3:EntD X.K m3 H3 kvs es:=(en.keep p2 k2).keep p3 k3
   simp only [Cp]
   refine ⟨fun hlt'=>⟨⟨hH3,by rw [←en.len];exact hlt'⟩,fun y H4 z=>?_⟩,fun hlt'=>⟨hH3,by rw [←en.len];exact hlt'⟩⟩
   obtain ⟨rfl,k,vv,n3⟩:=z
   have hp:kvs[i]?=some kvs[i]:=Br hlt'
   obtain ⟨kv',vv',x1,x2,x3⟩:=OM en3 hp
   rw [n3] at x1
   cases x1
   exact ⟨.refl _,hr3,kD kvs[i].1,by rw [Dc,hp];rfl,x2⟩
end
section
variable {f fo fi fv:ME} {ρ:Ai} {h:HD} {QS:Fl×Ai→HD→Prop} {QI:List D×AW→HD→Prop}
@[simp] theorem Zb7:Wp (HK fo fi fv ρ h) QS=Wp (fv ρ h) fun v h1=>Wp (fo ρ h1) fun o h2=>Wp (fi ρ h2) fun i h3=>Wp (HJ o i v h3 fun h4=>.ok (.nx,ρ) h4) QS:=by unfold HK;simp only [Ap]
@[simp] theorem Zb8:Wp (GP f ρ h) QI=Wp (f ρ h) fun d h1=>Wp (EB d h1) QI:=by unfold GP;rw [Ap]
end
end LS
set_option maxHeartbeats 0
namespace LK
open PySem PySem.Spec PyProof.Rows L2 LS
def Bh (i:Nat):Stmt:=PySem.Challenge.pw_lineswitch_k24_whole_alike_boards.main.body.getD i (.Pass ⟨0,0,0,0⟩)
structure Bl (mg:Str→Option Value):Prop where
 n_all:mg "all"=none
 n_bool:mg "bool"=none
 n_divmod:mg "divmod"=none
 n_enumerate:mg "enumerate"=none
 n_int:mg "int"=none
 n_isinstance:mg "isinstance"=none
 n_len:mg "len"=none
 n_max:mg "max"=none
 n_min:mg "min"=none
 n_range:mg "range"=none
 n_tuple:mg "tuple"=none
theorem JE:bootBuiltins "all"=some (.builtin "all"):=by decide +kernel
theorem Wi:bootBuiltins "bool"=some (.type "bool"):=by decide +kernel
theorem Wj:bootBuiltins "divmod"=some (.builtin "divmod"):=by decide +kernel
theorem O2:bootBuiltins "int"=some (.type "int"):=by decide +kernel
theorem HL:bootBuiltins "isinstance"=some (.builtin "isinstance"):=by decide +kernel
theorem BF:bootBuiltins "len"=some (.builtin "len"):=by decide +kernel
theorem Wk:bootBuiltins "max"=some (.builtin "max"):=by decide +kernel
theorem Wl:bootBuiltins "min"=some (.builtin "min"):=by decide +kernel
theorem CQ:bootBuiltins "tuple"=some (.type "tuple"):=by decide +kernel
abbrev Fw:Stmt:=Bh 7
theorem Wm:A1 ["thing"] ["thing"] (defScope Fw):=⟨rfl,rfl,rfl,by decide +kernel,rfl,by decide +kernel,by decide +kernel⟩
noncomputable abbrev Lg:MS:=Ax (Em (Af (BV CP) (Ab (Aa 0) (Ab (mC (.ty "int")) (Ad)))) (IP (Af (BV CP) (Ab (Aa 0) (Ab (mC (.ty "bool")) (Ad))))))
abbrev Fx:Stmt:=Bh 10
theorem Wn:A1 ["thing"] ["thing"] (defScope Fx):=⟨rfl,rfl,rfl,by decide +kernel,rfl,by decide +kernel,by decide +kernel⟩
noncomputable abbrev Lh:MS:=Ax (Em (Af (BV CP) (Ab (Aa 0) (Ab (mC (.ty "tuple")) (Ad)))) (EU He He (mC (.int 1)) (Af (Al Bc) (Ab (Aa 0) (Ad))) (mC (.int 8))))
abbrev Fy:Stmt:=Bh 17
theorem Wo:A1 ["row","columns","is_turned"] ["row","columns","is_turned"] (defScope Fy):=⟨rfl,rfl,rfl,by decide +kernel,rfl,by decide +kernel,by decide +kernel⟩
noncomputable abbrev Li:MS:=Ax (Af (Al Bw) (Ab (AQ [none,none,some 1,some 2] (Fp (Ab (Aa 0) (Ad))) (DD 0 1) (Bm) (IQ (A5 (Ag Bz (Ag (D2 false) (Aa 0) (Aa 2)) (Aa 3))) (Aa 1) (Ag Ka (mC (.int 1)) (Aa 1)))) (Ad)))
abbrev Fz:Stmt:=Bh 25
theorem sc_all_fours:A1 ["board","high","wide"] ["board"] (defScope Fz):=⟨rfl,rfl,rfl,by decide +kernel,rfl,by decide +kernel,by decide +kernel⟩
noncomputable abbrev Lj:MS:=Aj (AN 1 (Af (Al Bc) (Ab (Aa 0) (Ad)))) (Aj (AN 2 (Af (Al Bc) (Ab (Ag Aq (Aa 0) (mC (.int 0))) (Ad)))) (Ax (EA [none,none,none,none,some 1,some 2] (BQ (Ab (Aa 1) (Ad))) (AE 0) (Bm) (Dr (E1 (Ab (Ag A2 (Aa 0) (mC (.int 1))) (Ab (Aa 4) (Ad)))) (AE 1) (Bm) (Dr (BQ (Ab (Aa 5) (Ad))) (AE 2) (Bm) (Dr (E1 (Ab (Ag A2 (Aa 2) (mC (.int 1))) (Ab (Aa 5) (Ad)))) (AE 3) (Bm) (D5 (B1 (Ab (Aa 0) (Ab (Aa 1) (Ab (Aa 2) (Ab (Aa 3) (Ad)))))))))))))
abbrev FA:Stmt:=Bh 26
theorem sc_is_odd_four:A1 ["board","four","a","b","c","e"] ["board","four"] (defScope FA):=⟨rfl,rfl,rfl,by decide +kernel,rfl,by decide +kernel,by decide +kernel⟩
noncomputable abbrev Lk:MS:=Aj (Gv (GL [2,3,4,5]) (Aa 1)) (Ax (Ag Bz (Ag D0 (Ag A2 (Ag A2 (Ag A2 (Ag Aq (Ag Aq (Aa 0) (Aa 2)) (Aa 4)) (Ag Aq (Ag Aq (Aa 0) (Aa 2)) (Aa 5))) (Ag Aq (Ag Aq (Aa 0) (Aa 3)) (Aa 4))) (Ag Aq (Ag Aq (Aa 0) (Aa 3)) (Aa 5))) (mC (.int 2))) (mC (.int 1))))
abbrev FB:Stmt:=Bh 30
theorem Wq:A1 ["_law_script","_law_k"] ["_law_script","_law_k"] (defScope FB):=⟨rfl,rfl,rfl,by decide +kernel,rfl,by decide +kernel,by decide +kernel⟩
noncomputable abbrev JF:MS:=Aj (Bt (A5 (Ag Hd (Aa 1) (Af (Al Bc) (Ab (Aa 0) (Ad))))) (Ax (Ag Aq (Aa 0) (Aa 1))) (Bx)) (Ax (Ag A2 (Ag CN (mC (.int 6151)) (Aa 1)) (mC (.int 29))))
abbrev FC:Stmt:=Bh 31
theorem sc__law_mix:A1 ["_law_cell_here","_law_k","_law_number"] ["_law_cell_here","_law_k"] (defScope FC):=⟨rfl,rfl,rfl,by decide +kernel,rfl,by decide +kernel,by decide +kernel⟩
noncomputable abbrev Ll:MS:=Aj (AN 2 (Ag A2 (Ag CN (Ag A2 (Aa 0) (mC (.int 1))) (mC (.int 40692))) (Ag CN (mC (.int 104729)) (Aa 1)))) (Aj (AN 2 (Ag A2 (Ag D0 (Ag CN (Aa 2) (Aa 2)) (mC (.int 2147483399))) (Aa 1))) (Ax (Ag D0 (Ag CN (Aa 2) (Ag A2 (Aa 2) (mC (.int 31)))) (mC (.int 2147483563)))))
abbrev FD:Stmt:=Bh 33
theorem sc__law_take:A1 ["_law_box_here","_law_many","_law_left","_law_digit"] ["_law_box_here","_law_many"] (defScope FD):=⟨rfl,rfl,rfl,by decide +kernel,rfl,by decide +kernel,by decide +kernel⟩
noncomputable abbrev Lm:MS:=Aj (Gv (DD 2 3) (Af (BV Hg) (Ab (Ag Aq (Aa 0) (mC (.int 0))) (Ab (Aa 1) (Ad))))) (Aj (Jb (Aa 0) (mC (.int 0)) (Aa 2)) (Ax (Aa 3)))
abbrev FE:Stmt:=Bh 37
theorem sc__law_lots:A1 ["_law_size","_law_found","_law_number"] ["_law_size"] (defScope FE):=⟨rfl,rfl,rfl,by decide +kernel,rfl,by decide +kernel,by decide +kernel⟩
noncomputable abbrev Ln:MS:=Aj (AN 1 (Cu (Ab (B1 (Ad)) (Ad)))) (Aj (BD (BQ (Ab (Aa 0) (Ad))) (AE 2) (AN 1 (Ag A2 (Aa 1) (AQ [none,some 2] (BC (Aa 1)) (AE 0) (Bm) (Ag A2 (Aa 0) (B1 (Ab (Aa 1) (Ad)))))))) (Ax (Aa 1)))
abbrev FG:Stmt:=Bh 8
theorem Wr:A1 ["thing","least","most"] ["thing","least","most"] (defScope FG):=⟨rfl,rfl,rfl,by decide +kernel,rfl,by decide +kernel,by decide +kernel⟩
noncomputable abbrev JG (BB:List D→HD→Out D):MS:=Ax (Em (Af BB (Ab (Aa 0) (Ad))) (EU He He (Aa 1) (Aa 0) (Aa 2)))
abbrev FH:Stmt:=Bh 14
theorem sc_is_lot:A1 ["thing","size","last","number"] ["thing","size"] (defScope FH):=⟨rfl,rfl,rfl,by decide +kernel,rfl,by decide +kernel,by decide +kernel⟩
noncomputable abbrev Lo (BB:List D→HD→Out D):MS:=Aj (Bt (B0 (BO (Af (BV CP) (Ab (Aa 0) (Ab (mC (.ty "tuple")) (Ad)))))) (Ax (mC (.bl false))) (Bx)) (Aj (AN 2 (Ko (mC (.int 1)))) (Aj (BD (BC (Aa 0)) (AE 3) (Aj (Bt (B9 (B0 (BO (Af BB (Ab (Aa 3) (Ad))))) (B0 (A5 (EU Hd Hd (Aa 2) (Aa 3) (Aa 1))))) (Ax (mC (.bl false))) (Bx)) (AN 2 (Aa 3)))) (Ax (mC (.bl true)))))
abbrev FI:Stmt:=Bh 32
theorem sc__law_box:A1 ["_law_script","_law_k","_law_here","_law_number","_law_j"] ["_law_script","_law_k"] (defScope FI):=⟨rfl,rfl,rfl,by decide +kernel,rfl,by decide +kernel,by decide +kernel⟩
noncomputable abbrev Lp (D9:List D→HD→Out D) (Ea:List D→HD→Out D):MS:=Aj (AN 2 (Af D9 (Ab (Aa 0) (Ab (Aa 1) (Ad))))) (Aj (Bt (A5 (Ag Bz (Ag D0 (Aa 2) (mC (.int 2))) (mC (.int 0)))) (Ax (Cu (Ab (Ag IW (Aa 2) (mC (.int 2))) (Ad)))) (Bx)) (Aj (AN 3 (mC (.int 0))) (Aj (BD (BQ (Ab (mC (.int 24)) (Ad))) (AE 4) (AN 3 (Ag A2 (Ag CN (Aa 3) (mC (.int 2147483647))) (Af Ea (Ab (Aa 2) (Ab (Aa 4) (Ad))))))) (Ax (Cu (Ab (Aa 3) (Ad)))))))
abbrev FJ:Stmt:=Bh 34
theorem sc__law_wide_box:A1 ["_law_box_here","_law_number","_law_many","_law_j"] ["_law_box_here"] (defScope FJ):=⟨rfl,rfl,rfl,by decide +kernel,rfl,by decide +kernel,by decide +kernel⟩
noncomputable abbrev Lq (AS:List D→HD→Out D):MS:=Aj (EY 1 2 (Ab (Af AS (Ab (Aa 0) (Ab (mC (.int 2147483647)) (Ad)))) (Ab (mC (.int 0)) (Ad)))) (Aj (BD (BQ (Ab (mC (.int 24)) (Ad))) (AE 3) (Aj (AN 1 (Ag D0 (Ag A2 (Ag A2 (Ag CN (Aa 1) (mC (.int 48271))) (mC (.int 11))) (Aa 3)) (mC (.int 2147483647)))) (AN 2 (Ag A2 (Ag CN (Aa 2) (mC (.int 2147483647))) (Aa 1))))) (Ax (Cu (Ab (Aa 2) (Ad)))))
abbrev FK:Stmt:=Bh 36
theorem Ws:A1 ["_law_box_here","_law_size"] ["_law_box_here","_law_size"] (defScope FK):=⟨rfl,rfl,rfl,by decide +kernel,rfl,by decide +kernel,by decide +kernel⟩
noncomputable abbrev Lr (AS:List D→HD→Out D):MS:=Ax (Af (Al Bw) (Ab (AQ [none,some 0] (BQ (Ab (Aa 1) (Ad))) (AE 0) (A5 (Ag Bz (Af AS (Ab (Aa 1) (Ab (mC (.int 2)) (Ad)))) (mC (.int 1)))) (Aa 0)) (Ad)))
abbrev FL:Stmt:=Bh 9
theorem Wt:A1 ["thing"] ["thing"] (defScope FL):=⟨rfl,rfl,rfl,by decide +kernel,rfl,by decide +kernel,by decide +kernel⟩
noncomputable abbrev Ls (DK:List D→HD→Out D):MS:=Ax (Af DK (Ab (Aa 0) (Ab (mC (.int 0)) (Ab (mC (.int 1)) (Ad)))))
abbrev FM:Stmt:=Bh 35
theorem sc__law_board:A1 ["_law_box_here","_law_high","_law_wide","_law_way","_law_digits","_law_dense","_law_rows","_law_number"] ["_law_box_here","_law_high","_law_wide"] (defScope FM):=⟨rfl,rfl,rfl,by decide +kernel,rfl,by decide +kernel,by decide +kernel⟩
noncomputable abbrev Lu (AS:List D→HD→Out D) (Eb:List D→HD→Out D):MS:=Aj (AN 3 (Af AS (Ab (Aa 0) (Ab (mC (.int 5)) (Ad))))) (Aj (AN 4 (Af Eb (Ab (Aa 0) (Ad)))) (Aj (AN 5 (Ag Aq (Cu (Ab (mC (.int 3)) (Ab (mC (.int 1)) (Ab (mC (.int 5)) (Ab (mC (.int 3)) (Ab (mC (.int 2)) (Ad))))))) (Aa 3))) (Aj (AN 6 (Cu (Ad))) (Aj (BD (BQ (Ab (Aa 1) (Ad))) (AE 7) (Cg (Fj (Aa 6) (Af (Al Bw) (Ab (AQ [none,some 4,some 5] (BQ (Ab (Aa 2) (Ad))) (AE 0) (Bm) (Af (Al Hj) (Ab (Ag Hd (Af AS (Ab (Aa 1) (Ab (mC (.int 6)) (Ad)))) (Aa 2)) (Ad)))) (Ad)))))) (Aj (Bt (A5 (Ag Bz (Aa 3) (mC (.int 3)))) (AN 6 (Ag CN (Cu (Ab (Ag Aq (Aa 6) (mC (.int 0))) (Ad))) (Aa 1))) (Bx)) (Ax (Af (Al Bw) (Ab (Aa 6) (Ad)))))))))
abbrev FN:Stmt:=Bh 11
theorem Wu:A1 ["thing"] ["thing"] (defScope FN):=⟨rfl,rfl,rfl,by decide +kernel,rfl,by decide +kernel,by decide +kernel⟩
noncomputable abbrev Lw (BW:List D→HD→Out D) (Ec:List D→HD→Out D):MS:=Ax (Em (Af BW (Ab (Aa 0) (Ad))) (Af (Al CL) (Ab (AQ [none] (BC (Aa 0)) (AE 0) (Bm) (Af Ec (Ab (Aa 0) (Ad)))) (Ad))))
abbrev FO:Stmt:=Bh 12
theorem Wv:A1 ["thing"] ["thing"] (defScope FO):=⟨rfl,rfl,rfl,by decide +kernel,rfl,by decide +kernel,by decide +kernel⟩
noncomputable abbrev Lx (BW:List D→HD→Out D) (Ed:List D→HD→Out D):MS:=Aj (Bt (B9 (B0 (BO (Af BW (Ab (Aa 0) (Ad))))) (B0 (BO (Af (Al CL) (Ab (AQ [none] (BC (Aa 0)) (AE 0) (Bm) (Af Ed (Ab (Aa 0) (Ad)))) (Ad)))))) (Ax (mC (.bl false))) (Bx)) (Ax (Af (Al CL) (Ab (AQ [none,some 0] (BC (Aa 0)) (AE 0) (Bm) (Ag Bz (Af (Al Bc) (Ab (Aa 0) (Ad))) (Af (Al Bc) (Ab (Ag Aq (Aa 1) (mC (.int 0))) (Ad))))) (Ad))))
abbrev FP:Stmt:=Bh 13
theorem Ww:A1 ["thing"] ["thing"] (defScope FP):=⟨rfl,rfl,rfl,by decide +kernel,rfl,by decide +kernel,by decide +kernel⟩
noncomputable abbrev Ly (Ee:List D→HD→Out D):MS:=Bt (B0 (BO (Af Ee (Ab (Aa 0) (Ad))))) (IX) (Bx)
abbrev FQ:Stmt:=Bh 15
theorem Wx:A1 ["board","thing"] ["board","thing"] (defScope FQ):=⟨rfl,rfl,rfl,by decide +kernel,rfl,by decide +kernel,by decide +kernel⟩
noncomputable abbrev Lz (AG:List D→HD→Out D) (Dt:List D→HD→Out D):MS:=Aj (Cg (Af AG (Ab (Aa 0) (Ad)))) (Aj (Bt (B9 (B0 (BO (Af (BV CP) (Ab (Aa 1) (Ab (mC (.ty "tuple")) (Ad)))))) (A5 (Ag Bb (Af (Al Bc) (Ab (Aa 1) (Ad))) (mC (.int 2))))) (Ax (mC (.bl false))) (Bx)) (Ax (Em (Af Dt (Ab (Ag Aq (Aa 1) (mC (.int 0))) (Ab (Af (Al Bc) (Ab (Aa 0) (Ad))) (Ad)))) (Af Dt (Ab (Ag Aq (Aa 1) (mC (.int 1))) (Ab (Af (Al Bc) (Ab (Ag Aq (Aa 0) (mC (.int 0))) (Ad))) (Ad)))))))
abbrev FR:Stmt:=Bh 20
theorem Wy:A1 ["one","other"] ["one","other"] (defScope FR):=⟨rfl,rfl,rfl,by decide +kernel,rfl,by decide +kernel,by decide +kernel⟩
noncomputable abbrev LA (AG:List D→HD→Out D):MS:=Aj (Cg (Af AG (Ab (Aa 0) (Ad)))) (Aj (Cg (Af AG (Ab (Aa 1) (Ad)))) (Ax (Em (Ag Bz (Af (Al Bc) (Ab (Aa 0) (Ad))) (Af (Al Bc) (Ab (Aa 1) (Ad)))) (Ag Bz (Af (Al Bc) (Ab (Ag Aq (Aa 0) (mC (.int 0))) (Ad))) (Af (Al Bc) (Ab (Ag Aq (Aa 1) (mC (.int 0))) (Ad)))))))
abbrev FS:Stmt:=Bh 24
theorem Wz:A1 ["board"] ["board"] (defScope FS):=⟨rfl,rfl,rfl,by decide +kernel,rfl,by decide +kernel,by decide +kernel⟩
noncomputable abbrev LB (AG:List D→HD→Out D):MS:=Aj (Cg (Af AG (Ab (Aa 0) (Ad)))) (Ax (Ag IU (mC (.int 1)) (Ag Ka (Ag A2 (Af (Al Bc) (Ab (Aa 0) (Ad))) (Af (Al Bc) (Ab (Ag Aq (Aa 0) (mC (.int 0))) (Ad)))) (mC (.int 1)))))
abbrev FT:Stmt:=Bh 27
theorem WA:A1 ["board"] ["board"] (defScope FT):=⟨rfl,rfl,rfl,by decide +kernel,rfl,by decide +kernel,by decide +kernel⟩
noncomputable abbrev LC (AG:List D→HD→Out D) (BX:List D→HD→Out D) (BS:List D→HD→Out D):MS:=Aj (Cg (Af AG (Ab (Aa 0) (Ad)))) (Ax (AQ [none,some 0] (BC (Af BX (Ab (Aa 0) (Ad)))) (AE 0) (BO (Af BS (Ab (Aa 1) (Ab (Aa 0) (Ad))))) (Aa 0)))
abbrev FU:Stmt:=Bh 16
theorem WB:A1 ["board","thing"] ["board","thing"] (defScope FU):=⟨rfl,rfl,rfl,by decide +kernel,rfl,by decide +kernel,by decide +kernel⟩
noncomputable abbrev LD (Ef:List D→HD→Out D):MS:=Bt (B0 (BO (Af Ef (Ab (Aa 0) (Ab (Aa 1) (Ad)))))) (IX) (Bx)
abbrev FV:Stmt:=Bh 28
theorem sc_first_unlike:A1 ["one","other","four"] ["one","other"] (defScope FV):=⟨rfl,rfl,rfl,by decide +kernel,rfl,by decide +kernel,by decide +kernel⟩
noncomputable abbrev LF (BY:List D→HD→Out D) (BX:List D→HD→Out D) (BS:List D→HD→Out D):MS:=Aj (Bt (B0 (BO (Af BY (Ab (Aa 0) (Ab (Aa 1) (Ad)))))) (IX) (Bx)) (Aj (BD (BC (Af BX (Ab (Aa 0) (Ad)))) (AE 2) (Bt (A5 (Ag Bb (Af BS (Ab (Aa 0) (Ab (Aa 2) (Ad)))) (Af BS (Ab (Aa 1) (Ab (Aa 2) (Ad)))))) (Ax (Aa 2)) (Bx))) (Ax (mC .non)))
abbrev FW:Stmt:=Bh 18
theorem sc_switched:A1 ["board","switching","rows","columns"] ["board","switching"] (defScope FW):=⟨rfl,rfl,rfl,by decide +kernel,rfl,by decide +kernel,by decide +kernel⟩
noncomputable abbrev LG (Eg:List D→HD→Out D) (D8:List D→HD→Out D):MS:=Aj (Cg (Af Eg (Ab (Aa 0) (Ab (Aa 1) (Ad))))) (Aj (Gv (DD 2 3) (Aa 1)) (Ax (Af (Al Bw) (Ab (AQ [none,none,some 3,some 2] (Fp (Ab (Aa 0) (Ad))) (DD 0 1) (Bm) (Af D8 (Ab (Aa 1) (Ab (Aa 2) (Ab (Ag (D2 false) (Aa 0) (Aa 3)) (Ad)))))) (Ad)))))
abbrev FX:Stmt:=Bh 22
theorem sc_switching_to:A1 ["one","other","columns","turned_first","rows"] ["one","other"] (defScope FX):=⟨rfl,rfl,rfl,by decide +kernel,rfl,by decide +kernel,by decide +kernel⟩
noncomputable abbrev LH (BY:List D→HD→Out D) (Be:List D→HD→Out D):MS:=Aj (Bt (B0 (BO (Af BY (Ab (Aa 0) (Ab (Aa 1) (Ad)))))) (Ax (mC .non)) (Bx)) (Aj (AN 2 (Af (Al Bw) (Ab (AQ [none,some 0,some 1] (BQ (Ab (Af (Al Bc) (Ab (Ag Aq (Aa 0) (mC (.int 0))) (Ad))) (Ad))) (AE 0) (A5 (Ag Bb (Ag Aq (Ag Aq (Aa 1) (mC (.int 0))) (Aa 0)) (Ag Aq (Ag Aq (Aa 2) (mC (.int 0))) (Aa 0)))) (Aa 0)) (Ad)))) (Aj (AN 3 (Ag Bb (Ag Aq (Ag Aq (Aa 0) (mC (.int 0))) (mC (.int 0))) (Ag Aq (Ag Aq (Aa 1) (mC (.int 0))) (mC (.int 0))))) (Aj (AN 4 (Af (Al Bw) (Ab (AQ [none,some 0,some 1,some 3] (BQ (Ab (Af (Al Bc) (Ab (Aa 0) (Ad))) (Ad))) (AE 0) (A5 (Ag Bb (Ag Bb (Ag Aq (Ag Aq (Aa 1) (Aa 0)) (mC (.int 0))) (Ag Aq (Ag Aq (Aa 2) (Aa 0)) (mC (.int 0)))) (Aa 3))) (Aa 0)) (Ad)))) (Aj (Bt (A5 (Ag Bb (Af Be (Ab (Aa 0) (Ab (B1 (Ab (Aa 4) (Ab (Aa 2) (Ad)))) (Ad)))) (Aa 1))) (Ax (mC .non)) (Bx)) (Ax (B1 (Ab (Aa 4) (Ab (Aa 2) (Ad)))))))))
abbrev FY:Stmt:=Bh 23
theorem sc_form_of:A1 ["board","columns","rows"] ["board"] (defScope FY):=⟨rfl,rfl,rfl,by decide +kernel,rfl,by decide +kernel,by decide +kernel⟩
noncomputable abbrev LI (AG:List D→HD→Out D) (Be:List D→HD→Out D):MS:=Aj (Cg (Af AG (Ab (Aa 0) (Ad)))) (Aj (AN 1 (Af (Al Bw) (Ab (AQ [none,none] (Fp (Ab (Ag Aq (Aa 0) (mC (.int 0))) (Ad))) (DD 0 1) (A5 (Ag Bz (Aa 1) (mC (.int 1)))) (Aa 0)) (Ad)))) (Aj (AN 2 (Af (Al Bw) (Ab (AQ [none,none,some 0] (Fp (Ab (Aa 0) (Ad))) (DD 0 1) (A5 (Ag Bb (Ag Aq (Aa 1) (mC (.int 0))) (Ag Aq (Ag Aq (Aa 2) (mC (.int 0))) (mC (.int 0))))) (Aa 0)) (Ad)))) (Ax (Af Be (Ab (Aa 0) (Ab (B1 (Ab (Aa 2) (Ab (Aa 1) (Ad)))) (Ad)))))))
abbrev FZ:Stmt:=Bh 21
theorem WC:A1 ["one","other"] ["one","other"] (defScope FZ):=⟨rfl,rfl,rfl,by decide +kernel,rfl,by decide +kernel,by decide +kernel⟩
noncomputable abbrev LJ (BG:List D→HD→Out D):MS:=Ax (Ag EX (Af BG (Ab (Aa 0) (Ab (Aa 1) (Ad)))) (mC .non))
abbrev s_law:Stmt:=Bh 38
theorem sc_law:A1 ["_law_script","_law_k","_law_box_here","_law_high","_law_wide","_law_board_here","_law_far","_law_some","_law_turn","_law_one","_law_other","_law_alike","_law_found","_law_small","_law_made","_law_rows","_law_columns"] ["_law_script"] (defScope s_law):=⟨rfl,rfl,rfl,by decide +kernel,rfl,by decide +kernel,by decide +kernel⟩
noncomputable abbrev JH (DL:List D→HD→Out D) (AS:List D→HD→Out D) (CT:List D→HD→Out D) (CS:List D→HD→Out D) (Be:List D→HD→Out D) (CC:List D→HD→Out D) (CV:List D→HD→Out D) (DN:List D→HD→Out D) (BG:List D→HD→Out D) (CU:List D→HD→Out D) (CB:List D→HD→Out D) (DM:List D→HD→Out D):MS:=Aj (BD (BQ (Ab (Af (BV Hh) (Ab (mC (.int 1)) (Ab (Af (BV Hi) (Ab (Af (Al Bc) (Ab (Aa 0) (Ad))) (Ab (mC (.int 4)) (Ad)))) (Ad)))) (Ad))) (AE 1) (Aj (AN 2 (Af DL (Ab (Aa 0) (Ab (Aa 1) (Ad))))) (Aj (EY 3 4 (Ab (Ag A2 (mC (.int 1)) (Af AS (Ab (Aa 2) (Ab (mC (.int 8)) (Ad))))) (Ab (Ag A2 (mC (.int 1)) (Af AS (Ab (Aa 2) (Ab (mC (.int 8)) (Ad))))) (Ad)))) (Aj (EY 5 6 (Ab (Af CT (Ab (Aa 2) (Ab (Aa 3) (Ab (Aa 4) (Ad))))) (Ab (Af CT (Ab (Aa 2) (Ab (Aa 3) (Ab (Aa 4) (Ad))))) (Ad)))) (Aj (AN 7 (Cu (Ab (Aa 5) (Ab (Aa 6) (Ad))))) (Aj (BD (BQ (Ab (mC (.int 3)) (Ad))) (AE 8) (Cg (Fj (Aa 7) (Af Be (Ab (Ag Aq (Cu (Ab (Aa 5) (Ab (Aa 6) (Ad)))) (Ag D0 (Aa 8) (mC (.int 2)))) (Ab (B1 (Ab (Af CS (Ab (Aa 2) (Ab (Aa 3) (Ad)))) (Ab (Af CS (Ab (Aa 2) (Ab (Aa 4) (Ad)))) (Ad)))) (Ad))))))) (Aj (BD (BC (Aa 7)) (AE 9) (BD (BC (Aa 7)) (AE 10) (Aj (AN 11 (Af CC (Ab (Aa 9) (Ab (Aa 10) (Ad))))) (Aj (Bt (B9 (A5 (Ag Bb (Ag Bz (Af CV (Ab (Aa 9) (Ad))) (Af CV (Ab (Aa 10) (Ad)))) (Aa 11))) (A5 (Ag Bb (Ag Gu (Af DN (Ab (Aa 9) (Ab (Aa 10) (Ad)))) (mC .non)) (Aa 11)))) (Ax (mC (.bl false))) (Bx)) (Aj (AN 12 (Af BG (Ab (Aa 9) (Ab (Aa 10) (Ad))))) (Aj (Bt (B9 (A5 (Ag Bb (Ag EX (Aa 12) (mC .non)) (Aa 11))) (A5 (Ag Bb (Ag Bz (Af CU (Ab (Aa 9) (Ad))) (Af CU (Ab (Aa 10) (Ad)))) (Aa 11)))) (Ax (mC (.bl false))) (Bx)) (Bt (Fd (BO (Aa 11)) (B9 (A5 (Ag Bb (Af Be (Ab (Aa 9) (Ab (Aa 12) (Ad)))) (Aa 10))) (A5 (Ag (D2 false) (mC (.int 0)) (Ag Aq (Aa 12) (mC (.int 0))))))) (Ax (mC (.bl false))) (Bx)))))))) (Aj (AN 13 (Af (Al Bw) (Ab (AQ [none] (BC (Fs (Aa 5) (GJ) (Fo (mC (.int 3))))) (AE 0) (Bm) (Fs (Aa 0) (GJ) (Fo (mC (.int 3))))) (Ad)))) (Aj (AN 14 (JC)) (Aj (BD (BC (Af CB (Ab (Af (Al Bc) (Ab (Aa 13) (Ad))) (Ad)))) (AE 15) (BD (BC (Af CB (Ab (Af (Al Bc) (Ab (Ag Aq (Aa 13) (mC (.int 0))) (Ad))) (Ad)))) (AE 16) (HK (Aa 14) (Af Be (Ab (Aa 13) (Ab (B1 (Ab (Aa 15) (Ab (Aa 16) (Ad)))) (Ad)))) (mC (.bl true))))) (Bt (B9 (A5 (Ag Bb (Af (Al Fv) (Ab (Aa 14) (Ad))) (Af DM (Ab (Aa 13) (Ad))))) (B0 (BO (Af (Al CL) (Ab (AQ [none,some 13] (GP (Aa 14)) (AE 0) (Bm) (Af CC (Ab (Aa 1) (Ab (Aa 0) (Ad))))) (Ad)))))) (Ax (mC (.bl false))) (Bx)))))))))))) (Ax (mC (.bl true)))
section
variable {P:Program} {w:World} {K:PySem.W.Frag} {mg:Str→Option Value} {base:Heap} (B:Bl mg) (et:True)
include B et
theorem WD (f:Addr) (cdv:Value) (A:Around) (outer:List Env) (s:Shared) (H:Hp) (E:XK) (hr:Room 0 (A.deeper (envOfC "is_whole" (defScope Fw) s.heap.objs.size f cdv))):
 AR (AK (Ay P w K) P w K mg base ["thing"] "is_whole" (defScope Fw) f cdv A outer s H E) E (defBody Fw) (Lg):=
 Au (AM (Gq (A6 HG rfl B.n_isinstance HL (Ae (Ac (pv 0)) (Ae (Hn rfl B.n_int O2) (Ah)))) (Gp (SM (A6 HG rfl B.n_isinstance HL (Ae (Ac (pv 0)) (Ae (Hn rfl B.n_bool Wi) (Ah))))))))
theorem WE {t_MOST_LINES:Tok} (m_MOST_LINES:mg "MOST_LINES"=some (.int 8 t_MOST_LINES)) (f:Addr) (cdv:Value) (A:Around) (outer:List Env) (s:Shared) (H:Hp) (E:XK) (hr:Room 0 (A.deeper (envOfC "is_line_tuple" (defScope Fx) s.heap.objs.size f cdv))):
 AR (AK (Ay P w K) P w K mg base ["thing"] "is_line_tuple" (defScope Fx) f cdv A outer s H E) E (defBody Fx) (Lh):=
 Au (AM (Gq (A6 HG rfl B.n_isinstance HL (Ae (Ac (pv 0)) (Ae (Hn rfl B.n_tuple CQ) (Ah)))) (Gp (MM IT IT (Ak) (A6 BJ rfl B.n_len BF (Ae (Ac (pv 0)) (Ah))) (SI rfl m_MOST_LINES)))))
theorem WG (f:Addr) (cdv:Value) (A:Around) (outer:List Env) (s:Shared) (H:Hp) (E:XK) (hr:Room 0 (A.deeper (envOfC "row_switched" (defScope Fy) s.heap.objs.size f cdv))):
 AR (AK (Ay P w K) P w K mg base ["row","columns","is_turned"] "row_switched" (defScope Fy) f cdv A outer s H E) E (defBody Fy) (Li):=
 Au (AM (DB D3 rfl B.n_tuple CQ (Ae (Ci (Nc:=["number","light","columns","is_turned"]) (cs:=[none,none,some 1,some 2]) rfl (CSc.ok ⟨rfl,by decide +kernel,by kernel_rfl,by decide +kernel,rfl,by kernel_rfl⟩) (Jo rfl B.n_enumerate (Ae (Ac (pv 0)) (Ah))) (I0 rfl rfl) (fun C D cells fp s₀ H₀ pins=>⟨GG rfl (AH (i:=0) (show (["number","light","columns","is_turned"]:List Str).Nodup from by decide +kernel) rfl (by first|exact .inl rfl|exact .inr rfl) (by first|exact .inl rfl|exact .inr rfl)) (AH (i:=1) (show (["number","light","columns","is_turned"]:List Str).Nodup from by decide +kernel) rfl (by first|exact .inl rfl|exact .inr rfl) (by first|exact .inl rfl|exact .inr rfl)),CJ,SO (BN (DJ hr.units) (Ct Ke (Ac (pv 0)) (Ac (pv 2)) (by with_unfolding_all rfl)) (Ac (pv 3)) (Bf _)) (Ac (pv 1)) (AV MN (Ak) (Ac (pv 1)))⟩)) (Ah))))
theorem WH (f:Addr) (cdv:Value) (A:Around) (outer:List Env) (s:Shared) (H:Hp) (E:XK) (hr:Room 0 (A.deeper (envOfC "all_fours" (defScope Fz) s.heap.objs.size f cdv))):
 AR (AK (Ay P w K) P w K mg base ["board","high","wide"] "all_fours" (defScope Fz) f cdv A outer s H E) E (defBody Fz) (Lj):=
 As (Bk (i:=1) sc_all_fours.nd rfl (by first|exact .inl rfl|exact .inr rfl) (A6 BJ rfl B.n_len BF (Ae (Ac (pv 0)) (Ah)))) (As (Bk (i:=2) sc_all_fours.nd rfl (by first|exact .inl rfl|exact .inr rfl) (A6 BJ rfl B.n_len BF (Ae (AO (Ac (pv 0)) (Ak) (fun _ _=>rfl)) (Ah)))) (Au (AM (Vs (Nc:=["a","b","c","e","high","wide"]) (cs:=[none,none,none,none,some 1,some 2]) (is:=[0]) (js:=[1,2,3]) rfl (CSc.ok ⟨rfl,by decide +kernel,by kernel_rfl,by decide +kernel,rfl,by kernel_rfl⟩) (Dl rfl B.n_range (Ae (Ac (pv 1)) (Ah))) (fun g e=>by cases e<;>rfl) (by decide) (Jr (i:=0) (js:=[1,2,3]) (by decide)) (fun C D cells fp s₀ H₀ pins ao=>⟨AH (i:=0) (show (["a","b","c","e","high","wide"]:List Str).Nodup from by decide +kernel) rfl (by first|exact .inl rfl|exact .inr rfl) (by first|exact .inl rfl|exact .inr rfl),CJ,K0 (is:=[1]) (js:=[2,3]) rfl rfl rfl (fun g e=>by cases e<;>rfl) (M3 rfl B.n_range (Ae (AV BP (Ac (pv 0)) (Ak)) (Ae (Ac (pv 4)) (Ah)))) (AH (i:=1) (show (["a","b","c","e","high","wide"]:List Str).Nodup from by decide +kernel) rfl (by first|exact .inl rfl|exact .inr rfl) (by first|exact .inl rfl|exact .inr rfl)) (Jr (i:=1) (js:=[2,3]) (by decide)) (CJ) (K0 (is:=[2]) (js:=[3]) rfl rfl rfl (fun g e=>by cases e<;>rfl) (Dl rfl B.n_range (Ae (Ac (pv 5)) (Ah))) (AH (i:=2) (show (["a","b","c","e","high","wide"]:List Str).Nodup from by decide +kernel) rfl (by first|exact .inl rfl|exact .inr rfl) (by first|exact .inl rfl|exact .inr rfl)) (Jr (i:=2) (js:=[3]) (by decide)) (CJ) (K0 (is:=[3]) (js:=[]) rfl rfl rfl (fun g e=>by cases e<;>rfl) (M3 rfl B.n_range (Ae (AV BP (Ac (pv 2)) (Ak)) (Ae (Ac (pv 5)) (Ah)))) (AH (i:=3) (show (["a","b","c","e","high","wide"]:List Str).Nodup from by decide +kernel) rfl (by first|exact .inl rfl|exact .inr rfl) (by first|exact .inl rfl|exact .inr rfl)) (Jr (i:=3) (js:=[]) (by decide)) (CJ) (Vq ao rfl rfl (EV (Ae (Ac (pv 0)) (Ae (Ac (pv 1)) (Ae (Ac (pv 2)) (Ae (Ac (pv 3)) (Ah)))))))))⟩)))))
theorem WI (f:Addr) (cdv:Value) (A:Around) (outer:List Env) (s:Shared) (H:Hp) (E:XK) (hr:Room 0 (A.deeper (envOfC "is_odd_four" (defScope FA) s.heap.objs.size f cdv))):
 AR (AK (Ay P w K) P w K mg base ["board","four","a","b","c","e"] "is_odd_four" (defScope FA) f cdv A outer s H E) E (defBody FA) (Lk):=
 As (Kh (Ac (pv 1)) (UY (is:=[2,3,4,5]) (L5 rfl (Gf (AH (i:=2) (sc_is_odd_four.nd) rfl (by first|exact .inl rfl|exact .inr rfl) (by first|exact .inl rfl|exact .inr rfl)) (Gf (AH (i:=3) (sc_is_odd_four.nd) rfl (by first|exact .inl rfl|exact .inr rfl) (by first|exact .inl rfl|exact .inr rfl)) (Gf (AH (i:=4) (sc_is_odd_four.nd) rfl (by first|exact .inl rfl|exact .inr rfl) (by first|exact .inl rfl|exact .inr rfl)) (Gf (AH (i:=5) (sc_is_odd_four.nd) rfl (by first|exact .inl rfl|exact .inr rfl) (by first|exact .inl rfl|exact .inr rfl)) (L4)))))))) (Au (AM (Ct (DJ hr.units) (AV Gs (AV BP (AV BP (AV BP (AO (AO (Ac (pv 0)) (Ac (pv 2)) (fun _ _=>rfl)) (Ac (pv 4)) (fun _ _=>rfl)) (AO (AO (Ac (pv 0)) (Ac (pv 2)) (fun _ _=>rfl)) (Ac (pv 5)) (fun _ _=>rfl))) (AO (AO (Ac (pv 0)) (Ac (pv 3)) (fun _ _=>rfl)) (Ac (pv 4)) (fun _ _=>rfl))) (AO (AO (Ac (pv 0)) (Ac (pv 3)) (fun _ _=>rfl)) (Ac (pv 5)) (fun _ _=>rfl))) (Ak)) (Ak) (Bf _))))
theorem WJ (f:Addr) (cdv:Value) (A:Around) (outer:List Env) (s:Shared) (H:Hp) (E:XK) (hr:Room 0 (A.deeper (envOfC "_law_cell" (defScope FB) s.heap.objs.size f cdv))):
 AR (AK (Ay P w K) P w K mg base ["_law_script","_law_k"] "_law_cell" (defScope FB) f cdv A outer s H E) E (defBody FB) (JF):=
 As (B3 (BN IS (Ac (pv 1)) (A6 BJ rfl B.n_len BF (Ae (Ac (pv 0)) (Ah))) (Bf _)) (Au (AM (AO (Ac (pv 0)) (Ac (pv 1)) (fun _ _=>rfl)))) (B2)) (Au (AM (AV BP (AV Ez (Ak) (Ac (pv 1))) (Ak))))
theorem WK (f:Addr) (cdv:Value) (A:Around) (outer:List Env) (s:Shared) (H:Hp) (E:XK) (hr:Room 0 (A.deeper (envOfC "_law_mix" (defScope FC) s.heap.objs.size f cdv))):
 AR (AK (Ay P w K) P w K mg base ["_law_cell_here","_law_k","_law_number"] "_law_mix" (defScope FC) f cdv A outer s H E) E (defBody FC) (Ll):=
 As (Bk (i:=2) sc__law_mix.nd rfl (by first|exact .inl rfl|exact .inr rfl) (AV BP (AV Ez (AV BP (Ac (pv 0)) (Ak)) (Ak)) (AV Ez (Ak) (Ac (pv 1))))) (As (Bk (i:=2) sc__law_mix.nd rfl (by first|exact .inl rfl|exact .inr rfl) (AV BP (AV Gs (AV Ez (Ac (pv 2)) (Ac (pv 2))) (Ak)) (Ac (pv 1)))) (Au (AM (AV Gs (AV Ez (Ac (pv 2)) (AV BP (Ac (pv 2)) (Ak))) (Ak)))))
theorem WL (f:Addr) (cdv:Value) (A:Around) (outer:List Env) (s:Shared) (H:Hp) (E:XK) (hr:Room 0 (A.deeper (envOfC "_law_take" (defScope FD) s.heap.objs.size f cdv))):
 AR (AK (Ay P w K) P w K mg base ["_law_box_here","_law_many","_law_left","_law_digit"] "_law_take" (defScope FD) f cdv A outer s H E) E (defBody FD) (Lm):=
 As (Kh (A6 S4 rfl B.n_divmod Wj (Ae (AO (Ac (pv 0)) (Ak) (fun _ _=>rfl)) (Ae (Ac (pv 1)) (Ah)))) (MY (GG rfl (AH (i:=2) (sc__law_take.nd) rfl (by first|exact .inl rfl|exact .inr rfl) (by first|exact .inl rfl|exact .inr rfl)) (AH (i:=3) (sc__law_take.nd) rfl (by first|exact .inl rfl|exact .inr rfl) (by first|exact .inl rfl|exact .inr rfl))))) (As (Tv (Ac (pv 0)) (Ak) (Ac (pv 2))) (Au (AM (Ac (pv 3)))))
theorem WM (f:Addr) (cdv:Value) (A:Around) (outer:List Env) (s:Shared) (H:Hp) (E:XK) (hr:Room 0 (A.deeper (envOfC "_law_lots" (defScope FE) s.heap.objs.size f cdv))):
 AR (AK (Ay P w K) P w K mg base ["_law_size","_law_found","_law_number"] "_law_lots" (defScope FE) f cdv A outer s H E) E (defBody FE) (Ln):=
 As (Bk (i:=1) sc__law_lots.nd rfl (by first|exact .inl rfl|exact .inr rfl) (En (Ae (EV (Ah)) (Ah)))) (As (Dm Dp rfl (Dl rfl B.n_range (Ae (Ac (pv 0)) (Ah))) (Dj (AH (i:=2) (sc__law_lots.nd) rfl (by first|exact .inl rfl|exact .inr rfl) (by first|exact .inl rfl|exact .inr rfl))) (Au (Bk (i:=1) sc__law_lots.nd rfl (by first|exact .inl rfl|exact .inr rfl) (AV BP (Ac (pv 1)) (Ci (Nc:=["_law_lot_here","_law_number"]) (cs:=[none,some 2]) rfl (CSc.ok ⟨rfl,by decide +kernel,by kernel_rfl,by decide +kernel,rfl,by kernel_rfl⟩) (Dk (Ac (pv 1))) (DE rfl) (fun C D cells fp s₀ H₀ pins=>⟨AH (i:=0) (show (["_law_lot_here","_law_number"]:List Str).Nodup from by decide +kernel) rfl (by first|exact .inl rfl|exact .inr rfl) (by first|exact .inl rfl|exact .inr rfl),CJ,AV BP (Ac (pv 0)) (EV (Ae (Ac (pv 1)) (Ah)))⟩)))))) (Au (AM (Ac (pv 1)))))
theorem WN {BB:List D→HD→Out D} (c_is_whole:CaE P w K mg base "is_whole" 1 BB) (f:Addr) (cdv:Value) (A:Around) (outer:List Env) (s:Shared) (H:Hp) (E:XK) (hr:Room 1 (A.deeper (envOfC "is_between" (defScope FG) s.heap.objs.size f cdv))):
 AR (AK (Ay P w K) P w K mg base ["thing","least","most"] "is_between" (defScope FG) f cdv A outer s H E) E (defBody FG) (JG BB):=
 Au (AM (Gq (Av c_is_whole hr Az (Ae (Ac (pv 0)) (Ah))) (Gp (MM IT IT (Ac (pv 1)) (Ac (pv 0)) (Ac (pv 2))))))
theorem WO {BB:List D→HD→Out D} (c_is_whole:CaE P w K mg base "is_whole" 1 BB) (f:Addr) (cdv:Value) (A:Around) (outer:List Env) (s:Shared) (H:Hp) (E:XK) (hr:Room 1 (A.deeper (envOfC "is_lot" (defScope FH) s.heap.objs.size f cdv))):
 AR (AK (Ay P w K) P w K mg base ["thing","size","last","number"] "is_lot" (defScope FH) f cdv A outer s H E) E (defBody FH) (Lo BB):=
 As (B3 (DA (Di (A6 HG rfl B.n_isinstance HL (Ae (Ac (pv 0)) (Ae (Hn rfl B.n_tuple CQ) (Ah)))))) (Au (AM (Dz))) (B2)) (As (Bk (i:=2) sc_is_lot.nd rfl (by first|exact .inl rfl|exact .inr rfl) (TF (Ak))) (As (Dm Dp rfl (Dk (Ac (pv 0))) (Dj (AH (i:=3) (sc_is_lot.nd) rfl (by first|exact .inl rfl|exact .inr rfl) (by first|exact .inl rfl|exact .inr rfl))) (As (B3 (ES (Fg (DA (Di (Av c_is_whole hr Az (Ae (Ac (pv 3)) (Ah))))) (Ff (DA (SQ IS IS (Ac (pv 2)) (Ac (pv 3)) (Ac (pv 1))))))) (Au (AM (Dz))) (B2)) (Au (Bk (i:=2) sc_is_lot.nd rfl (by first|exact .inl rfl|exact .inr rfl) (Ac (pv 3)))))) (Au (AM (Dz)))))
theorem WQ {D9:List D→HD→Out D} {Ea:List D→HD→Out D} (c__law_cell:CaE P w K mg base "_law_cell" 1 D9) (c__law_mix:CaE P w K mg base "_law_mix" 1 Ea) (f:Addr) (cdv:Value) (A:Around) (outer:List Env) (s:Shared) (H:Hp) (E:XK) (hr:Room 1 (A.deeper (envOfC "_law_box" (defScope FI) s.heap.objs.size f cdv))):
 AR (AK (Ay P w K) P w K mg base ["_law_script","_law_k","_law_here","_law_number","_law_j"] "_law_box" (defScope FI) f cdv A outer s H E) E (defBody FI) (Lp D9 Ea):=
 As (Bk (i:=2) sc__law_box.nd rfl (by first|exact .inl rfl|exact .inr rfl) (Av c__law_cell hr Az (Ae (Ac (pv 0)) (Ae (Ac (pv 1)) (Ah))))) (As (B3 (BN (DJ hr.units) (AV Gs (Ac (pv 2)) (Ak)) (Ak) (Bf _)) (Au (AM (En (Ae (AV S6 (Ac (pv 2)) (Ak)) (Ah))))) (B2)) (As (Bk (i:=3) sc__law_box.nd rfl (by first|exact .inl rfl|exact .inr rfl) (Ak)) (As (Dm Dp rfl (Dl rfl B.n_range (Ae (Ak) (Ah))) (Dj (AH (i:=4) (sc__law_box.nd) rfl (by first|exact .inl rfl|exact .inr rfl) (by first|exact .inl rfl|exact .inr rfl))) (Au (Bk (i:=3) sc__law_box.nd rfl (by first|exact .inl rfl|exact .inr rfl) (AV BP (AV Ez (Ac (pv 3)) (Ak)) (Av c__law_mix hr Az (Ae (Ac (pv 2)) (Ae (Ac (pv 4)) (Ah)))))))) (Au (AM (En (Ae (Ac (pv 3)) (Ah))))))))
theorem WR {AS:List D→HD→Out D} (c__law_take:CaE P w K mg base "_law_take" 1 AS) (f:Addr) (cdv:Value) (A:Around) (outer:List Env) (s:Shared) (H:Hp) (E:XK) (hr:Room 1 (A.deeper (envOfC "_law_wide_box" (defScope FJ) s.heap.objs.size f cdv))):
 AR (AK (Ay P w K) P w K mg base ["_law_box_here","_law_number","_law_many","_law_j"] "_law_wide_box" (defScope FJ) f cdv A outer s H E) E (defBody FJ) (Lq AS):=
 As (Kg (i:=1) (j:=2) rfl sc__law_wide_box.nd rfl rfl (by decide) rfl rfl (Ae (Av c__law_take hr Az (Ae (Ac (pv 0)) (Ae (Ak) (Ah)))) (Ae (Ak) (Ah))) (by first |rfl |with_unfolding_all rfl)) (As (Dm Dp rfl (Dl rfl B.n_range (Ae (Ak) (Ah))) (Dj (AH (i:=3) (sc__law_wide_box.nd) rfl (by first|exact .inl rfl|exact .inr rfl) (by first|exact .inl rfl|exact .inr rfl))) (As (Bk (i:=1) sc__law_wide_box.nd rfl (by first|exact .inl rfl|exact .inr rfl) (AV Gs (AV BP (AV BP (AV Ez (Ac (pv 1)) (Ak)) (Ak)) (Ac (pv 3))) (Ak))) (Au (Bk (i:=2) sc__law_wide_box.nd rfl (by first|exact .inl rfl|exact .inr rfl) (AV BP (AV Ez (Ac (pv 2)) (Ak)) (Ac (pv 1))))))) (Au (AM (En (Ae (Ac (pv 2)) (Ah))))))
theorem WS {AS:List D→HD→Out D} (c__law_take:CaE P w K mg base "_law_take" 1 AS) (f:Addr) (cdv:Value) (A:Around) (outer:List Env) (s:Shared) (H:Hp) (E:XK) (hr:Room 1 (A.deeper (envOfC "_law_lot" (defScope FK) s.heap.objs.size f cdv))):
 AR (AK (Ay P w K) P w K mg base ["_law_box_here","_law_size"] "_law_lot" (defScope FK) f cdv A outer s H E) E (defBody FK) (Lr AS):=
 Au (AM (DB D3 rfl B.n_tuple CQ (Ae (Ci (Nc:=["_law_number","_law_box_here"]) (cs:=[none,some 0]) rfl (CSc.ok ⟨rfl,by decide +kernel,by kernel_rfl,by decide +kernel,rfl,by kernel_rfl⟩) (Dl rfl B.n_range (Ae (Ac (pv 1)) (Ah))) (DE rfl) (fun C D cells fp s₀ H₀ pins=>⟨AH (i:=0) (show (["_law_number","_law_box_here"]:List Str).Nodup from by decide +kernel) rfl (by first|exact .inl rfl|exact .inr rfl) (by first|exact .inl rfl|exact .inr rfl),GB (BN (DJ hr.units) (Av c__law_take hr Fm (Ae (Ac (pv 1)) (Ae (Ak) (Ah)))) (Ak) (Bf _)),Ac (pv 0)⟩)) (Ah))))
theorem WT {DK:List D→HD→Out D} (c_is_between:CaE P w K mg base "is_between" 2 DK) (f:Addr) (cdv:Value) (A:Around) (outer:List Env) (s:Shared) (H:Hp) (E:XK) (hr:Room 2 (A.deeper (envOfC "is_light" (defScope FL) s.heap.objs.size f cdv))):
 AR (AK (Ay P w K) P w K mg base ["thing"] "is_light" (defScope FL) f cdv A outer s H E) E (defBody FL) (Ls DK):=
 Au (AM (Av c_is_between hr Az (Ae (Ac (pv 0)) (Ae (Ak) (Ae (Ak) (Ah))))))
theorem WU {AS:List D→HD→Out D} {Eb:List D→HD→Out D} (c__law_take:CaE P w K mg base "_law_take" 1 AS) (c__law_wide_box:CaE P w K mg base "_law_wide_box" 2 Eb) (f:Addr) (cdv:Value) (A:Around) (outer:List Env) (s:Shared) (H:Hp) (E:XK) (hr:Room 2 (A.deeper (envOfC "_law_board" (defScope FM) s.heap.objs.size f cdv))):
 AR (AK (Ay P w K) P w K mg base ["_law_box_here","_law_high","_law_wide","_law_way","_law_digits","_law_dense","_law_rows","_law_number"] "_law_board" (defScope FM) f cdv A outer s H E) E (defBody FM) (Lu AS Eb):=
 As (Bk (i:=3) sc__law_board.nd rfl (by first|exact .inl rfl|exact .inr rfl) (Av c__law_take hr Az (Ae (Ac (pv 0)) (Ae (Ak) (Ah))))) (As (Bk (i:=4) sc__law_board.nd rfl (by first|exact .inl rfl|exact .inr rfl) (Av c__law_wide_box hr Az (Ae (Ac (pv 0)) (Ah)))) (As (Bk (i:=5) sc__law_board.nd rfl (by first|exact .inl rfl|exact .inr rfl) (AO (En (Ae (Ak) (Ae (Ak) (Ae (Ak) (Ae (Ak) (Ae (Ak) (Ah))))))) (Ac (pv 3)) (fun _ _=>rfl))) (As (Bk (i:=6) sc__law_board.nd rfl (by first|exact .inl rfl|exact .inr rfl) (En (Ah))) (As (Dm Dp rfl (Dl rfl B.n_range (Ae (Ac (pv 1)) (Ah))) (Dj (AH (i:=7) (sc__law_board.nd) rfl (by first|exact .inl rfl|exact .inr rfl) (by first|exact .inl rfl|exact .inr rfl))) (Au (Es (Ni (Ac (pv 6)) (DB D3 rfl B.n_tuple CQ (Ae (Ci (Nc:=["_law_place","_law_digits","_law_dense"]) (cs:=[none,some 4,some 5]) rfl (CSc.ok ⟨rfl,by decide +kernel,by kernel_rfl,by decide +kernel,rfl,by kernel_rfl⟩) (Dl rfl B.n_range (Ae (Ac (pv 2)) (Ah))) (DE rfl) (fun C D cells fp s₀ H₀ pins=>⟨AH (i:=0) (show (["_law_place","_law_digits","_law_dense"]:List Str).Nodup from by decide +kernel) rfl (by first|exact .inl rfl|exact .inr rfl) (by first|exact .inl rfl|exact .inr rfl),CJ,DB S9 rfl B.n_int O2 (Ae (Ct IS (Av c__law_take hr Fm (Ae (Ac (pv 1)) (Ae (Ak) (Ah)))) (Ac (pv 2)) (Bf _)) (Ah))⟩)) (Ah))))))) (As (B3 (BN (DJ hr.units) (Ac (pv 3)) (Ak) (Bf _)) (Au (Bk (i:=6) sc__law_board.nd rfl (by first|exact .inl rfl|exact .inr rfl) (AV Ez (En (Ae (AO (Ac (pv 6)) (Ak) (fun _ _=>rfl)) (Ah))) (Ac (pv 1))))) (B2)) (Au (AM (DB D3 rfl B.n_tuple CQ (Ae (Ac (pv 6)) (Ah))))))))))
theorem WV {BW:List D→HD→Out D} {Ec:List D→HD→Out D} (c_is_line_tuple:CaE P w K mg base "is_line_tuple" 1 BW) (c_is_light:CaE P w K mg base "is_light" 3 Ec) (f:Addr) (cdv:Value) (A:Around) (outer:List Env) (s:Shared) (H:Hp) (E:XK) (hr:Room 3 (A.deeper (envOfC "is_row" (defScope FN) s.heap.objs.size f cdv))):
 AR (AK (Ay P w K) P w K mg base ["thing"] "is_row" (defScope FN) f cdv A outer s H E) E (defBody FN) (Lw BW Ec):=
 Au (AM (Gq (Av c_is_line_tuple hr Az (Ae (Ac (pv 0)) (Ah))) (Gp (A6 (Ja rfl) rfl B.n_all JE (Ae (Ci (Nc:=["light"]) (cs:=[none]) rfl (CSc.ok ⟨rfl,by decide +kernel,by kernel_rfl,by decide +kernel,rfl,by kernel_rfl⟩) (Dk (Ac (pv 0))) (DE rfl) (fun C D cells fp s₀ H₀ pins=>⟨AH (i:=0) (show (["light"]:List Str).Nodup from by decide +kernel) rfl (by first|exact .inl rfl|exact .inr rfl) (by first|exact .inl rfl|exact .inr rfl),CJ,Av c_is_light hr Fm (Ae (Ac (pv 0)) (Ah))⟩)) (Ah))))))
theorem WW {BW:List D→HD→Out D} {Ed:List D→HD→Out D} (c_is_line_tuple:CaE P w K mg base "is_line_tuple" 1 BW) (c_is_row:CaE P w K mg base "is_row" 4 Ed) (f:Addr) (cdv:Value) (A:Around) (outer:List Env) (s:Shared) (H:Hp) (E:XK) (hr:Room 4 (A.deeper (envOfC "is_board" (defScope FO) s.heap.objs.size f cdv))):
 AR (AK (Ay P w K) P w K mg base ["thing"] "is_board" (defScope FO) f cdv A outer s H E) E (defBody FO) (Lx BW Ed):=
 As (B3 (ES (Fg (DA (Di (Av c_is_line_tuple hr Az (Ae (Ac (pv 0)) (Ah))))) (Ff (DA (Di (A6 (Ja rfl) rfl B.n_all JE (Ae (Ci (Nc:=["row"]) (cs:=[none]) rfl (CSc.ok ⟨rfl,by decide +kernel,by kernel_rfl,by decide +kernel,rfl,by kernel_rfl⟩) (Dk (Ac (pv 0))) (DE rfl) (fun C D cells fp s₀ H₀ pins=>⟨AH (i:=0) (show (["row"]:List Str).Nodup from by decide +kernel) rfl (by first|exact .inl rfl|exact .inr rfl) (by first|exact .inl rfl|exact .inr rfl),CJ,Av c_is_row hr Fm (Ae (Ac (pv 0)) (Ah))⟩)) (Ah)))))))) (Au (AM (Dz))) (B2)) (Au (AM (A6 (Ja rfl) rfl B.n_all JE (Ae (Ci (Nc:=["row","thing"]) (cs:=[none,some 0]) rfl (CSc.ok ⟨rfl,by decide +kernel,by kernel_rfl,by decide +kernel,rfl,by kernel_rfl⟩) (Dk (Ac (pv 0))) (DE rfl) (fun C D cells fp s₀ H₀ pins=>⟨AH (i:=0) (show (["row","thing"]:List Str).Nodup from by decide +kernel) rfl (by first|exact .inl rfl|exact .inr rfl) (by first|exact .inl rfl|exact .inr rfl),CJ,Ct (DJ hr.units) (A6 BJ rfl B.n_len BF (Ae (Ac (pv 0)) (Ah))) (A6 BJ rfl B.n_len BF (Ae (AO (Ac (pv 1)) (Ak) (fun _ _=>rfl)) (Ah))) (Bf _)⟩)) (Ah)))))
theorem WX {Ee:List D→HD→Out D} (c_is_board:CaE P w K mg base "is_board" 5 Ee) (f:Addr) (cdv:Value) (A:Around) (outer:List Env) (s:Shared) (H:Hp) (E:XK) (hr:Room 5 (A.deeper (envOfC "need_board" (defScope FP) s.heap.objs.size f cdv))):
 AR (AK (Ay P w K) P w K mg base ["thing"] "need_board" (defScope FP) f cdv A outer s H E) E (defBody FP) (Ly Ee):=
 Au (B3 (DA (Di (Av c_is_board hr Az (Ae (Ac (pv 0)) (Ah))))) (Au (Kf)) (B2))
theorem WY {AG:List D→HD→Out D} {Dt:List D→HD→Out D} (c_need_board:CaE P w K mg base "need_board" 6 AG) (c_is_lot:CaE P w K mg base "is_lot" 2 Dt) (f:Addr) (cdv:Value) (A:Around) (outer:List Env) (s:Shared) (H:Hp) (E:XK) (hr:Room 6 (A.deeper (envOfC "is_switching" (defScope FQ) s.heap.objs.size f cdv))):
 AR (AK (Ay P w K) P w K mg base ["board","thing"] "is_switching" (defScope FQ) f cdv A outer s H E) E (defBody FQ) (Lz AG Dt):=
 As (Es (Av c_need_board hr Az (Ae (Ac (pv 0)) (Ah)))) (As (B3 (ES (Fg (DA (Di (A6 HG rfl B.n_isinstance HL (Ae (Ac (pv 1)) (Ae (Hn rfl B.n_tuple CQ) (Ah)))))) (Ff (BN (Cz hr.units) (A6 BJ rfl B.n_len BF (Ae (Ac (pv 1)) (Ah))) (Ak) (Bf _))))) (Au (AM (Dz))) (B2)) (Au (AM (Gq (Av c_is_lot hr Az (Ae (AO (Ac (pv 1)) (Ak) (fun _ _=>rfl)) (Ae (A6 BJ rfl B.n_len BF (Ae (Ac (pv 0)) (Ah))) (Ah)))) (Gp (Av c_is_lot hr Az (Ae (AO (Ac (pv 1)) (Ak) (fun _ _=>rfl)) (Ae (A6 BJ rfl B.n_len BF (Ae (AO (Ac (pv 0)) (Ak) (fun _ _=>rfl)) (Ah))) (Ah)))))))))
theorem WZ {AG:List D→HD→Out D} (c_need_board:CaE P w K mg base "need_board" 6 AG) (f:Addr) (cdv:Value) (A:Around) (outer:List Env) (s:Shared) (H:Hp) (E:XK) (hr:Room 6 (A.deeper (envOfC "same_size" (defScope FR) s.heap.objs.size f cdv))):
 AR (AK (Ay P w K) P w K mg base ["one","other"] "same_size" (defScope FR) f cdv A outer s H E) E (defBody FR) (LA AG):=
 As (Es (Av c_need_board hr Az (Ae (Ac (pv 0)) (Ah)))) (As (Es (Av c_need_board hr Az (Ae (Ac (pv 1)) (Ah)))) (Au (AM (Gq (Ct (DJ hr.units) (A6 BJ rfl B.n_len BF (Ae (Ac (pv 0)) (Ah))) (A6 BJ rfl B.n_len BF (Ae (Ac (pv 1)) (Ah))) (Bf _)) (Gp (Ct (DJ hr.units) (A6 BJ rfl B.n_len BF (Ae (AO (Ac (pv 0)) (Ak) (fun _ _=>rfl)) (Ah))) (A6 BJ rfl B.n_len BF (Ae (AO (Ac (pv 1)) (Ak) (fun _ _=>rfl)) (Ah))) (Bf _)))))))
theorem W0 {AG:List D→HD→Out D} (c_need_board:CaE P w K mg base "need_board" 6 AG) (f:Addr) (cdv:Value) (A:Around) (outer:List Env) (s:Shared) (H:Hp) (E:XK) (hr:Room 6 (A.deeper (envOfC "alike_many" (defScope FS) s.heap.objs.size f cdv))):
 AR (AK (Ay P w K) P w K mg base ["board"] "alike_many" (defScope FS) f cdv A outer s H E) E (defBody FS) (LB AG):=
 As (Es (Av c_need_board hr Az (Ae (Ac (pv 0)) (Ah)))) (Au (AM (AV SU (Ak) (AV MN (AV BP (A6 BJ rfl B.n_len BF (Ae (Ac (pv 0)) (Ah))) (A6 BJ rfl B.n_len BF (Ae (AO (Ac (pv 0)) (Ak) (fun _ _=>rfl)) (Ah)))) (Ak)))))
theorem W1 {AG:List D→HD→Out D} {BX:List D→HD→Out D} {BS:List D→HD→Out D} (c_need_board:CaE P w K mg base "need_board" 6 AG) (c_all_fours:CaE P w K mg base "all_fours" 1 BX) (c_is_odd_four:CaE P w K mg base "is_odd_four" 1 BS) (f:Addr) (cdv:Value) (A:Around) (outer:List Env) (s:Shared) (H:Hp) (E:XK) (hr:Room 6 (A.deeper (envOfC "odd_fours" (defScope FT) s.heap.objs.size f cdv))):
 AR (AK (Ay P w K) P w K mg base ["board"] "odd_fours" (defScope FT) f cdv A outer s H E) E (defBody FT) (LC AG BX BS):=
 As (Es (Av c_need_board hr Az (Ae (Ac (pv 0)) (Ah)))) (Au (AM (Ci (Nc:=["four","board"]) (cs:=[none,some 0]) rfl (CSc.ok ⟨rfl,by decide +kernel,by kernel_rfl,by decide +kernel,rfl,by kernel_rfl⟩) (Dk (Av c_all_fours hr Az (Ae (Ac (pv 0)) (Ah)))) (DE rfl) (fun C D cells fp s₀ H₀ pins=>⟨AH (i:=0) (show (["four","board"]:List Str).Nodup from by decide +kernel) rfl (by first|exact .inl rfl|exact .inr rfl) (by first|exact .inl rfl|exact .inr rfl),GB (Di (Av c_is_odd_four hr Fm (Ae (Ac (pv 1)) (Ae (Ac (pv 0)) (Ah))))),Ac (pv 0)⟩))))
theorem W2 {Ef:List D→HD→Out D} (c_is_switching:CaE P w K mg base "is_switching" 7 Ef) (f:Addr) (cdv:Value) (A:Around) (outer:List Env) (s:Shared) (H:Hp) (E:XK) (hr:Room 7 (A.deeper (envOfC "need_switching" (defScope FU) s.heap.objs.size f cdv))):
 AR (AK (Ay P w K) P w K mg base ["board","thing"] "need_switching" (defScope FU) f cdv A outer s H E) E (defBody FU) (LD Ef):=
 Au (B3 (DA (Di (Av c_is_switching hr Az (Ae (Ac (pv 0)) (Ae (Ac (pv 1)) (Ah)))))) (Au (Kf)) (B2))
theorem W3 {BY:List D→HD→Out D} {BX:List D→HD→Out D} {BS:List D→HD→Out D} (c_same_size:CaE P w K mg base "same_size" 7 BY) (c_all_fours:CaE P w K mg base "all_fours" 1 BX) (c_is_odd_four:CaE P w K mg base "is_odd_four" 1 BS) (f:Addr) (cdv:Value) (A:Around) (outer:List Env) (s:Shared) (H:Hp) (E:XK) (hr:Room 7 (A.deeper (envOfC "first_unlike" (defScope FV) s.heap.objs.size f cdv))):
 AR (AK (Ay P w K) P w K mg base ["one","other","four"] "first_unlike" (defScope FV) f cdv A outer s H E) E (defBody FV) (LF BY BX BS):=
 As (B3 (DA (Di (Av c_same_size hr Az (Ae (Ac (pv 0)) (Ae (Ac (pv 1)) (Ah)))))) (Au (Kf)) (B2)) (As (Dm Dp rfl (Dk (Av c_all_fours hr Az (Ae (Ac (pv 0)) (Ah)))) (Dj (AH (i:=2) (sc_first_unlike.nd) rfl (by first|exact .inl rfl|exact .inr rfl) (by first|exact .inl rfl|exact .inr rfl))) (Au (B3 (BN (Cz hr.units) (Av c_is_odd_four hr Az (Ae (Ac (pv 0)) (Ae (Ac (pv 2)) (Ah)))) (Av c_is_odd_four hr Az (Ae (Ac (pv 1)) (Ae (Ac (pv 2)) (Ah)))) (Bf _)) (Au (AM (Ac (pv 2)))) (B2)))) (Au (AM (Gn))))
theorem W4 {Eg:List D→HD→Out D} {D8:List D→HD→Out D} (c_need_switching:CaE P w K mg base "need_switching" 8 Eg) (c_row_switched:CaE P w K mg base "row_switched" 1 D8) (f:Addr) (cdv:Value) (A:Around) (outer:List Env) (s:Shared) (H:Hp) (E:XK) (hr:Room 8 (A.deeper (envOfC "switched" (defScope FW) s.heap.objs.size f cdv))):
 AR (AK (Ay P w K) P w K mg base ["board","switching","rows","columns"] "switched" (defScope FW) f cdv A outer s H E) E (defBody FW) (LG Eg D8):=
 As (Es (Av c_need_switching hr Az (Ae (Ac (pv 0)) (Ae (Ac (pv 1)) (Ah))))) (As (Kh (Ac (pv 1)) (MY (GG rfl (AH (i:=2) (sc_switched.nd) rfl (by first|exact .inl rfl|exact .inr rfl) (by first|exact .inl rfl|exact .inr rfl)) (AH (i:=3) (sc_switched.nd) rfl (by first|exact .inl rfl|exact .inr rfl) (by first|exact .inl rfl|exact .inr rfl))))) (Au (AM (DB D3 rfl B.n_tuple CQ (Ae (Ci (Nc:=["number","row","columns","rows"]) (cs:=[none,none,some 3,some 2]) rfl (CSc.ok ⟨rfl,by decide +kernel,by kernel_rfl,by decide +kernel,rfl,by kernel_rfl⟩) (Jo rfl B.n_enumerate (Ae (Ac (pv 0)) (Ah))) (I0 rfl rfl) (fun C D cells fp s₀ H₀ pins=>⟨GG rfl (AH (i:=0) (show (["number","row","columns","rows"]:List Str).Nodup from by decide +kernel) rfl (by first|exact .inl rfl|exact .inr rfl) (by first|exact .inl rfl|exact .inr rfl)) (AH (i:=1) (show (["number","row","columns","rows"]:List Str).Nodup from by decide +kernel) rfl (by first|exact .inl rfl|exact .inr rfl) (by first|exact .inl rfl|exact .inr rfl)),CJ,Av c_row_switched hr Fm (Ae (Ac (pv 1)) (Ae (Ac (pv 2)) (Ae (Ct Ke (Ac (pv 0)) (Ac (pv 3)) (by with_unfolding_all rfl)) (Ah))))⟩)) (Ah))))))
theorem W5 {BY:List D→HD→Out D} {Be:List D→HD→Out D} (c_same_size:CaE P w K mg base "same_size" 7 BY) (c_switched:CaE P w K mg base "switched" 9 Be) (f:Addr) (cdv:Value) (A:Around) (outer:List Env) (s:Shared) (H:Hp) (E:XK) (hr:Room 9 (A.deeper (envOfC "switching_to" (defScope FX) s.heap.objs.size f cdv))):
 AR (AK (Ay P w K) P w K mg base ["one","other","columns","turned_first","rows"] "switching_to" (defScope FX) f cdv A outer s H E) E (defBody FX) (LH BY Be):=
 As (B3 (DA (Di (Av c_same_size hr Az (Ae (Ac (pv 0)) (Ae (Ac (pv 1)) (Ah)))))) (Au (AM (Gn))) (B2)) (As (Bk (i:=2) sc_switching_to.nd rfl (by first|exact .inl rfl|exact .inr rfl) (DB D3 rfl B.n_tuple CQ (Ae (Ci (Nc:=["number","one","other"]) (cs:=[none,some 0,some 1]) rfl (CSc.ok ⟨rfl,by decide +kernel,by kernel_rfl,by decide +kernel,rfl,by kernel_rfl⟩) (Dl rfl B.n_range (Ae (A6 BJ rfl B.n_len BF (Ae (AO (Ac (pv 0)) (Ak) (fun _ _=>rfl)) (Ah))) (Ah))) (DE rfl) (fun C D cells fp s₀ H₀ pins=>⟨AH (i:=0) (show (["number","one","other"]:List Str).Nodup from by decide +kernel) rfl (by first|exact .inl rfl|exact .inr rfl) (by first|exact .inl rfl|exact .inr rfl),GB (BN (Cz hr.units) (AO (AO (Ac (pv 1)) (Ak) (fun _ _=>rfl)) (Ac (pv 0)) (fun _ _=>rfl)) (AO (AO (Ac (pv 2)) (Ak) (fun _ _=>rfl)) (Ac (pv 0)) (fun _ _=>rfl)) (Bf _)),Ac (pv 0)⟩)) (Ah)))) (As (Bk (i:=3) sc_switching_to.nd rfl (by first|exact .inl rfl|exact .inr rfl) (Ct (Cz hr.units) (AO (AO (Ac (pv 0)) (Ak) (fun _ _=>rfl)) (Ak) (fun _ _=>rfl)) (AO (AO (Ac (pv 1)) (Ak) (fun _ _=>rfl)) (Ak) (fun _ _=>rfl)) (Bf _))) (As (Bk (i:=4) sc_switching_to.nd rfl (by first|exact .inl rfl|exact .inr rfl) (DB D3 rfl B.n_tuple CQ (Ae (Ci (Nc:=["number","one","other","turned_first"]) (cs:=[none,some 0,some 1,some 3]) rfl (CSc.ok ⟨rfl,by decide +kernel,by kernel_rfl,by decide +kernel,rfl,by kernel_rfl⟩) (Dl rfl B.n_range (Ae (A6 BJ rfl B.n_len BF (Ae (Ac (pv 0)) (Ah))) (Ah))) (DE rfl) (fun C D cells fp s₀ H₀ pins=>⟨AH (i:=0) (show (["number","one","other","turned_first"]:List Str).Nodup from by decide +kernel) rfl (by first|exact .inl rfl|exact .inr rfl) (by first|exact .inl rfl|exact .inr rfl),GB (BN (Cz hr.units) (Ct (Cz hr.units) (AO (AO (Ac (pv 1)) (Ac (pv 0)) (fun _ _=>rfl)) (Ak) (fun _ _=>rfl)) (AO (AO (Ac (pv 2)) (Ac (pv 0)) (fun _ _=>rfl)) (Ak) (fun _ _=>rfl)) (Bf _)) (Ac (pv 3)) (Bf _)),Ac (pv 0)⟩)) (Ah)))) (As (B3 (BN (Cz hr.units) (Av c_switched hr Az (Ae (Ac (pv 0)) (Ae (EV (Ae (Ac (pv 4)) (Ae (Ac (pv 2)) (Ah)))) (Ah)))) (Ac (pv 1)) (Bf _)) (Au (AM (Gn))) (B2)) (Au (AM (EV (Ae (Ac (pv 4)) (Ae (Ac (pv 2)) (Ah))))))))))
theorem W6 {AG:List D→HD→Out D} {Be:List D→HD→Out D} (c_need_board:CaE P w K mg base "need_board" 6 AG) (c_switched:CaE P w K mg base "switched" 9 Be) (f:Addr) (cdv:Value) (A:Around) (outer:List Env) (s:Shared) (H:Hp) (E:XK) (hr:Room 9 (A.deeper (envOfC "form_of" (defScope FY) s.heap.objs.size f cdv))):
 AR (AK (Ay P w K) P w K mg base ["board","columns","rows"] "form_of" (defScope FY) f cdv A outer s H E) E (defBody FY) (LI AG Be):=
 As (Es (Av c_need_board hr Az (Ae (Ac (pv 0)) (Ah)))) (As (Bk (i:=1) sc_form_of.nd rfl (by first|exact .inl rfl|exact .inr rfl) (DB D3 rfl B.n_tuple CQ (Ae (Ci (Nc:=["number","light"]) (cs:=[none,none]) rfl (CSc.ok ⟨rfl,by decide +kernel,by kernel_rfl,by decide +kernel,rfl,by kernel_rfl⟩) (Jo rfl B.n_enumerate (Ae (AO (Ac (pv 0)) (Ak) (fun _ _=>rfl)) (Ah))) (I0 rfl rfl) (fun C D cells fp s₀ H₀ pins=>⟨GG rfl (AH (i:=0) (show (["number","light"]:List Str).Nodup from by decide +kernel) rfl (by first|exact .inl rfl|exact .inr rfl) (by first|exact .inl rfl|exact .inr rfl)) (AH (i:=1) (show (["number","light"]:List Str).Nodup from by decide +kernel) rfl (by first|exact .inl rfl|exact .inr rfl) (by first|exact .inl rfl|exact .inr rfl)),GB (BN (DJ hr.units) (Ac (pv 1)) (Ak) (Bf _)),Ac (pv 0)⟩)) (Ah)))) (As (Bk (i:=2) sc_form_of.nd rfl (by first|exact .inl rfl|exact .inr rfl) (DB D3 rfl B.n_tuple CQ (Ae (Ci (Nc:=["number","row","board"]) (cs:=[none,none,some 0]) rfl (CSc.ok ⟨rfl,by decide +kernel,by kernel_rfl,by decide +kernel,rfl,by kernel_rfl⟩) (Jo rfl B.n_enumerate (Ae (Ac (pv 0)) (Ah))) (I0 rfl rfl) (fun C D cells fp s₀ H₀ pins=>⟨GG rfl (AH (i:=0) (show (["number","row","board"]:List Str).Nodup from by decide +kernel) rfl (by first|exact .inl rfl|exact .inr rfl) (by first|exact .inl rfl|exact .inr rfl)) (AH (i:=1) (show (["number","row","board"]:List Str).Nodup from by decide +kernel) rfl (by first|exact .inl rfl|exact .inr rfl) (by first|exact .inl rfl|exact .inr rfl)),GB (BN (Cz hr.units) (AO (Ac (pv 1)) (Ak) (fun _ _=>rfl)) (AO (AO (Ac (pv 2)) (Ak) (fun _ _=>rfl)) (Ak) (fun _ _=>rfl)) (Bf _)),Ac (pv 0)⟩)) (Ah)))) (Au (AM (Av c_switched hr Az (Ae (Ac (pv 0)) (Ae (EV (Ae (Ac (pv 2)) (Ae (Ac (pv 1)) (Ah)))) (Ah))))))))
theorem W7 {BG:List D→HD→Out D} (c_switching_to:CaE P w K mg base "switching_to" 10 BG) (f:Addr) (cdv:Value) (A:Around) (outer:List Env) (s:Shared) (H:Hp) (E:XK) (hr:Room 10 (A.deeper (envOfC "are_alike" (defScope FZ) s.heap.objs.size f cdv))):
 AR (AK (Ay P w K) P w K mg base ["one","other"] "are_alike" (defScope FZ) f cdv A outer s H E) E (defBody FZ) (LJ BG):=
 Au (AM (Ct MQ (Av c_switching_to hr Az (Ae (Ac (pv 0)) (Ae (Ac (pv 1)) (Ah)))) (Gn) (Bf _)))
theorem W8 {DL:List D→HD→Out D} {AS:List D→HD→Out D} {CT:List D→HD→Out D} {CS:List D→HD→Out D} {Be:List D→HD→Out D} {CC:List D→HD→Out D} {CV:List D→HD→Out D} {DN:List D→HD→Out D} {BG:List D→HD→Out D} {CU:List D→HD→Out D} {CB:List D→HD→Out D} {DM:List D→HD→Out D} (c__law_box:CaE P w K mg base "_law_box" 2 DL) (c__law_take:CaE P w K mg base "_law_take" 1 AS) (c__law_board:CaE P w K mg base "_law_board" 3 CT) (c__law_lot:CaE P w K mg base "_law_lot" 2 CS) (c_switched:CaE P w K mg base "switched" 9 Be) (c_are_alike:CaE P w K mg base "are_alike" 11 CC) (c_form_of:CaE P w K mg base "form_of" 10 CV) (c_first_unlike:CaE P w K mg base "first_unlike" 8 DN) (c_switching_to:CaE P w K mg base "switching_to" 10 BG) (c_odd_fours:CaE P w K mg base "odd_fours" 7 CU) (c__law_lots:CaE P w K mg base "_law_lots" 1 CB) (c_alike_many:CaE P w K mg base "alike_many" 7 DM) (f:Addr) (cdv:Value) (A:Around) (outer:List Env) (s:Shared) (H:Hp) (E:XK) (hr:Room 11 (A.deeper (envOfC "law" (defScope s_law) s.heap.objs.size f cdv))):
 AR (AK (Ay P w K) P w K mg base ["_law_script","_law_k","_law_box_here","_law_high","_law_wide","_law_board_here","_law_far","_law_some","_law_turn","_law_one","_law_other","_law_alike","_law_found","_law_small","_law_made","_law_rows","_law_columns"] "law" (defScope s_law) f cdv A outer s H E) E (defBody s_law) (JH DL AS CT CS Be CC CV DN BG CU CB DM):=
 As (Dm Dp rfl (Dl rfl B.n_range (Ae (A6 (S7 rfl) rfl B.n_max Wk (Ae (Ak) (Ae (A6 (S8 rfl) rfl B.n_min Wl (Ae (A6 BJ rfl B.n_len BF (Ae (Ac (pv 0)) (Ah))) (Ae (Ak) (Ah)))) (Ah)))) (Ah))) (Dj (AH (i:=1) (sc_law.nd) rfl (by first|exact .inl rfl|exact .inr rfl) (by first|exact .inl rfl|exact .inr rfl))) (As (Bk (i:=2) sc_law.nd rfl (by first|exact .inl rfl|exact .inr rfl) (Av c__law_box hr Az (Ae (Ac (pv 0)) (Ae (Ac (pv 1)) (Ah))))) (As (Kg (i:=3) (j:=4) rfl sc_law.nd rfl rfl (by decide) rfl rfl (Ae (AV BP (Ak) (Av c__law_take hr Az (Ae (Ac (pv 2)) (Ae (Ak) (Ah))))) (Ae (AV BP (Ak) (Av c__law_take hr Az (Ae (Ac (pv 2)) (Ae (Ak) (Ah))))) (Ah))) (by first |rfl |with_unfolding_all rfl)) (As (Kg (i:=5) (j:=6) rfl sc_law.nd rfl rfl (by decide) rfl rfl (Ae (Av c__law_board hr Az (Ae (Ac (pv 2)) (Ae (Ac (pv 3)) (Ae (Ac (pv 4)) (Ah))))) (Ae (Av c__law_board hr Az (Ae (Ac (pv 2)) (Ae (Ac (pv 3)) (Ae (Ac (pv 4)) (Ah))))) (Ah))) (by first |rfl |with_unfolding_all rfl)) (As (Bk (i:=7) sc_law.nd rfl (by first|exact .inl rfl|exact .inr rfl) (En (Ae (Ac (pv 5)) (Ae (Ac (pv 6)) (Ah))))) (As (Dm Dp rfl (Dl rfl B.n_range (Ae (Ak) (Ah))) (Dj (AH (i:=8) (sc_law.nd) rfl (by first|exact .inl rfl|exact .inr rfl) (by first|exact .inl rfl|exact .inr rfl))) (Au (Es (Ni (Ac (pv 7)) (Av c_switched hr Az (Ae (AO (En (Ae (Ac (pv 5)) (Ae (Ac (pv 6)) (Ah)))) (AV Gs (Ac (pv 8)) (Ak)) (fun _ _=>rfl)) (Ae (EV (Ae (Av c__law_lot hr Az (Ae (Ac (pv 2)) (Ae (Ac (pv 3)) (Ah)))) (Ae (Av c__law_lot hr Az (Ae (Ac (pv 2)) (Ae (Ac (pv 4)) (Ah)))) (Ah)))) (Ah)))))))) (As (Dm Dp rfl (Dk (Ac (pv 7))) (Dj (AH (i:=9) (sc_law.nd) rfl (by first|exact .inl rfl|exact .inr rfl) (by first|exact .inl rfl|exact .inr rfl))) (Au (Dm Dp rfl (Dk (Ac (pv 7))) (Dj (AH (i:=10) (sc_law.nd) rfl (by first|exact .inl rfl|exact .inr rfl) (by first|exact .inl rfl|exact .inr rfl))) (As (Bk (i:=11) sc_law.nd rfl (by first|exact .inl rfl|exact .inr rfl) (Av c_are_alike hr Az (Ae (Ac (pv 9)) (Ae (Ac (pv 10)) (Ah))))) (As (B3 (ES (Fg (BN (Cz hr.units) (Ct (DJ hr.units) (Av c_form_of hr Az (Ae (Ac (pv 9)) (Ah))) (Av c_form_of hr Az (Ae (Ac (pv 10)) (Ah))) (Bf _)) (Ac (pv 11)) (Bf _)) (Ff (BN (Cz hr.units) (Ct SV (Av c_first_unlike hr Az (Ae (Ac (pv 9)) (Ae (Ac (pv 10)) (Ah)))) (Gn) (Bf _)) (Ac (pv 11)) (Bf _))))) (Au (AM (Dz))) (B2)) (As (Bk (i:=12) sc_law.nd rfl (by first|exact .inl rfl|exact .inr rfl) (Av c_switching_to hr Az (Ae (Ac (pv 9)) (Ae (Ac (pv 10)) (Ah))))) (As (B3 (ES (Fg (BN (Cz hr.units) (Ct MQ (Ac (pv 12)) (Gn) (Bf _)) (Ac (pv 11)) (Bf _)) (Ff (BN (Cz hr.units) (Ct (DJ hr.units) (Av c_odd_fours hr Az (Ae (Ac (pv 9)) (Ah))) (Av c_odd_fours hr Az (Ae (Ac (pv 10)) (Ah))) (Bf _)) (Ac (pv 11)) (Bf _))))) (Au (AM (Dz))) (B2)) (Au (B3 (ES (SL (Di (Ac (pv 11))) (SK (ES (Fg (BN (Cz hr.units) (Av c_switched hr Az (Ae (Ac (pv 9)) (Ae (Ac (pv 12)) (Ah)))) (Ac (pv 10)) (Bf _)) (Ff (BN Ke (Ak) (AO (Ac (pv 12)) (Ak) (fun _ _=>rfl)) (by with_unfolding_all rfl)))))))) (Au (AM (Dz))) (B2)))))))))) (As (Bk (i:=13) sc_law.nd rfl (by first|exact .inl rfl|exact .inr rfl) (DB D3 rfl B.n_tuple CQ (Ae (Ci (Nc:=["_law_row"]) (cs:=[none]) rfl (CSc.ok ⟨rfl,by decide +kernel,by kernel_rfl,by decide +kernel,rfl,by kernel_rfl⟩) (Dk (N7 (Ac (pv 5)) (NL) (NM (Ak)))) (DE rfl) (fun C D cells fp s₀ H₀ pins=>⟨AH (i:=0) (show (["_law_row"]:List Str).Nodup from by decide +kernel) rfl (by first|exact .inl rfl|exact .inr rfl) (by first|exact .inl rfl|exact .inr rfl),CJ,N7 (Ac (pv 0)) (NL) (NM (Ak))⟩)) (Ah)))) (As (Bk (i:=14) sc_law.nd rfl (by first|exact .inl rfl|exact .inr rfl) (VV)) (As (Dm Dp rfl (Dk (Av c__law_lots hr Az (Ae (A6 BJ rfl B.n_len BF (Ae (Ac (pv 13)) (Ah))) (Ah)))) (Dj (AH (i:=15) (sc_law.nd) rfl (by first|exact .inl rfl|exact .inr rfl) (by first|exact .inl rfl|exact .inr rfl))) (Au (Dm Dp rfl (Dk (Av c__law_lots hr Az (Ae (A6 BJ rfl B.n_len BF (Ae (AO (Ac (pv 13)) (Ak) (fun _ _=>rfl)) (Ah))) (Ah)))) (Dj (AH (i:=16) (sc_law.nd) rfl (by first|exact .inl rfl|exact .inr rfl) (by first|exact .inl rfl|exact .inr rfl))) (Au (Wc hr.units (Ac (pv 14)) (Av c_switched hr Az (Ae (Ac (pv 13)) (Ae (EV (Ae (Ac (pv 15)) (Ae (Ac (pv 16)) (Ah)))) (Ah)))) (Dz)))))) (Au (B3 (ES (Fg (BN (Cz hr.units) (A6 Wd rfl B.n_len BF (Ae (Ac (pv 14)) (Ah))) (Av c_alike_many hr Az (Ae (Ac (pv 13)) (Ah))) (Bf _)) (Ff (DA (Di (A6 (Ja rfl) rfl B.n_all JE (Ae (Ci (Nc:=["_law_other","_law_small"]) (cs:=[none,some 13]) rfl (CSc.ok ⟨rfl,by decide +kernel,by kernel_rfl,by decide +kernel,rfl,by kernel_rfl⟩) (Wh (Ac (pv 14))) (DE rfl) (fun C D cells fp s₀ H₀ pins=>⟨AH (i:=0) (show (["_law_other","_law_small"]:List Str).Nodup from by decide +kernel) rfl (by first|exact .inl rfl|exact .inr rfl) (by first|exact .inl rfl|exact .inr rfl),CJ,Av c_are_alike hr Fm (Ae (Ac (pv 1)) (Ae (Ac (pv 0)) (Ah)))⟩)) (Ah)))))))) (Au (AM (Dz))) (B2))))))))))))) (Au (AM (Dz)))
noncomputable def BB:List D→HD→Out D:=fun ds h=>if ds.length=1 then Ao 1 (Lg) ds h else .stuck
theorem W9 {f:Addr} {fd:FuncData} (D:Dn K mg "is_whole" ["thing"] Fw f fd):CaE P w K mg base "is_whole" 1 BB:=
 ⟨f,fd,_,Bg D.fn Wm (fun ds h e=>if_neg e) (fun ds h e=>if_pos e) (fun cdv A outer s H E hr=>WD B et f cdv A outer s H E hr),D.bd,D.mg,D.fn.kp⟩
noncomputable def BW:List D→HD→Out D:=fun ds h=>if ds.length=1 then Ao 1 (Lh) ds h else .stuck
theorem Xa {t_MOST_LINES:Tok} (m_MOST_LINES:mg "MOST_LINES"=some (.int 8 t_MOST_LINES)) {f:Addr} {fd:FuncData} (D:Dn K mg "is_line_tuple" ["thing"] Fx f fd):CaE P w K mg base "is_line_tuple" 1 BW:=
 ⟨f,fd,_,Bg D.fn Wn (fun ds h e=>if_neg e) (fun ds h e=>if_pos e) (fun cdv A outer s H E hr=>WE B et m_MOST_LINES f cdv A outer s H E hr),D.bd,D.mg,D.fn.kp⟩
noncomputable def D8:List D→HD→Out D:=fun ds h=>if ds.length=3 then Ao 3 (Li) ds h else .stuck
theorem Xb {f:Addr} {fd:FuncData} (D:Dn K mg "row_switched" ["row","columns","is_turned"] Fy f fd):CaE P w K mg base "row_switched" 1 D8:=
 ⟨f,fd,_,Bg D.fn Wo (fun ds h e=>if_neg e) (fun ds h e=>if_pos e) (fun cdv A outer s H E hr=>WG B et f cdv A outer s H E hr),D.bd,D.mg,D.fn.kp⟩
noncomputable def BX:List D→HD→Out D:=fun ds h=>if ds.length=1 then Ao 3 (Lj) ds h else .stuck
theorem Xd {f:Addr} {fd:FuncData} (D:Dn K mg "all_fours" ["board"] Fz f fd):CaE P w K mg base "all_fours" 1 BX:=
 ⟨f,fd,_,Bg D.fn sc_all_fours (fun ds h e=>if_neg e) (fun ds h e=>if_pos e) (fun cdv A outer s H E hr=>WH B et f cdv A outer s H E hr),D.bd,D.mg,D.fn.kp⟩
noncomputable def BS:List D→HD→Out D:=fun ds h=>if ds.length=2 then Ao 6 (Lk) ds h else .stuck
theorem Xe {f:Addr} {fd:FuncData} (D:Dn K mg "is_odd_four" ["board","four"] FA f fd):CaE P w K mg base "is_odd_four" 1 BS:=
 ⟨f,fd,_,Bg D.fn sc_is_odd_four (fun ds h e=>if_neg e) (fun ds h e=>if_pos e) (fun cdv A outer s H E hr=>WI B et f cdv A outer s H E hr),D.bd,D.mg,D.fn.kp⟩
noncomputable def D9:List D→HD→Out D:=fun ds h=>if ds.length=2 then Ao 2 (JF) ds h else .stuck
theorem Xf {f:Addr} {fd:FuncData} (D:Dn K mg "_law_cell" ["_law_script","_law_k"] FB f fd):CaE P w K mg base "_law_cell" 1 D9:=
 ⟨f,fd,_,Bg D.fn Wq (fun ds h e=>if_neg e) (fun ds h e=>if_pos e) (fun cdv A outer s H E hr=>WJ B et f cdv A outer s H E hr),D.bd,D.mg,D.fn.kp⟩
noncomputable def Ea:List D→HD→Out D:=fun ds h=>if ds.length=2 then Ao 3 (Ll) ds h else .stuck
theorem Xg {f:Addr} {fd:FuncData} (D:Dn K mg "_law_mix" ["_law_cell_here","_law_k"] FC f fd):CaE P w K mg base "_law_mix" 1 Ea:=
 ⟨f,fd,_,Bg D.fn sc__law_mix (fun ds h e=>if_neg e) (fun ds h e=>if_pos e) (fun cdv A outer s H E hr=>WK B et f cdv A outer s H E hr),D.bd,D.mg,D.fn.kp⟩
noncomputable def AS:List D→HD→Out D:=fun ds h=>if ds.length=2 then Ao 4 (Lm) ds h else .stuck
theorem Xh {f:Addr} {fd:FuncData} (D:Dn K mg "_law_take" ["_law_box_here","_law_many"] FD f fd):CaE P w K mg base "_law_take" 1 AS:=
 ⟨f,fd,_,Bg D.fn sc__law_take (fun ds h e=>if_neg e) (fun ds h e=>if_pos e) (fun cdv A outer s H E hr=>WL B et f cdv A outer s H E hr),D.bd,D.mg,D.fn.kp⟩
noncomputable def CB:List D→HD→Out D:=fun ds h=>if ds.length=1 then Ao 3 (Ln) ds h else .stuck
theorem Xi {f:Addr} {fd:FuncData} (D:Dn K mg "_law_lots" ["_law_size"] FE f fd):CaE P w K mg base "_law_lots" 1 CB:=
 ⟨f,fd,_,Bg D.fn sc__law_lots (fun ds h e=>if_neg e) (fun ds h e=>if_pos e) (fun cdv A outer s H E hr=>WM B et f cdv A outer s H E hr),D.bd,D.mg,D.fn.kp⟩
noncomputable def DK:List D→HD→Out D:=fun ds h=>if ds.length=3 then Ao 3 (JG BB) ds h else .stuck
theorem Xj (c_is_whole:CaE P w K mg base "is_whole" 1 BB) {f:Addr} {fd:FuncData} (D:Dn K mg "is_between" ["thing","least","most"] FG f fd):CaE P w K mg base "is_between" 2 DK:=
 ⟨f,fd,_,Bg D.fn Wr (fun ds h e=>if_neg e) (fun ds h e=>if_pos e) (fun cdv A outer s H E hr=>WN B et c_is_whole f cdv A outer s H E hr),D.bd,D.mg,D.fn.kp⟩
noncomputable def Dt:List D→HD→Out D:=fun ds h=>if ds.length=2 then Ao 4 (Lo BB) ds h else .stuck
theorem Xk (c_is_whole:CaE P w K mg base "is_whole" 1 BB) {f:Addr} {fd:FuncData} (D:Dn K mg "is_lot" ["thing","size"] FH f fd):CaE P w K mg base "is_lot" 2 Dt:=
 ⟨f,fd,_,Bg D.fn sc_is_lot (fun ds h e=>if_neg e) (fun ds h e=>if_pos e) (fun cdv A outer s H E hr=>WO B et c_is_whole f cdv A outer s H E hr),D.bd,D.mg,D.fn.kp⟩
noncomputable def DL:List D→HD→Out D:=fun ds h=>if ds.length=2 then Ao 5 (Lp D9 Ea) ds h else .stuck
theorem Xl (c__law_cell:CaE P w K mg base "_law_cell" 1 D9) (c__law_mix:CaE P w K mg base "_law_mix" 1 Ea) {f:Addr} {fd:FuncData} (D:Dn K mg "_law_box" ["_law_script","_law_k"] FI f fd):CaE P w K mg base "_law_box" 2 DL:=
 ⟨f,fd,_,Bg D.fn sc__law_box (fun ds h e=>if_neg e) (fun ds h e=>if_pos e) (fun cdv A outer s H E hr=>WQ B et c__law_cell c__law_mix f cdv A outer s H E hr),D.bd,D.mg,D.fn.kp⟩
noncomputable def Eb:List D→HD→Out D:=fun ds h=>if ds.length=1 then Ao 4 (Lq AS) ds h else .stuck
theorem Xm (c__law_take:CaE P w K mg base "_law_take" 1 AS) {f:Addr} {fd:FuncData} (D:Dn K mg "_law_wide_box" ["_law_box_here"] FJ f fd):CaE P w K mg base "_law_wide_box" 2 Eb:=
 ⟨f,fd,_,Bg D.fn sc__law_wide_box (fun ds h e=>if_neg e) (fun ds h e=>if_pos e) (fun cdv A outer s H E hr=>WR B et c__law_take f cdv A outer s H E hr),D.bd,D.mg,D.fn.kp⟩
noncomputable def CS:List D→HD→Out D:=fun ds h=>if ds.length=2 then Ao 2 (Lr AS) ds h else .stuck
theorem Xn (c__law_take:CaE P w K mg base "_law_take" 1 AS) {f:Addr} {fd:FuncData} (D:Dn K mg "_law_lot" ["_law_box_here","_law_size"] FK f fd):CaE P w K mg base "_law_lot" 2 CS:=
 ⟨f,fd,_,Bg D.fn Ws (fun ds h e=>if_neg e) (fun ds h e=>if_pos e) (fun cdv A outer s H E hr=>WS B et c__law_take f cdv A outer s H E hr),D.bd,D.mg,D.fn.kp⟩
noncomputable def Ec:List D→HD→Out D:=fun ds h=>if ds.length=1 then Ao 1 (Ls DK) ds h else .stuck
theorem Xo (c_is_between:CaE P w K mg base "is_between" 2 DK) {f:Addr} {fd:FuncData} (D:Dn K mg "is_light" ["thing"] FL f fd):CaE P w K mg base "is_light" 3 Ec:=
 ⟨f,fd,_,Bg D.fn Wt (fun ds h e=>if_neg e) (fun ds h e=>if_pos e) (fun cdv A outer s H E hr=>WT B et c_is_between f cdv A outer s H E hr),D.bd,D.mg,D.fn.kp⟩
noncomputable def CT:List D→HD→Out D:=fun ds h=>if ds.length=3 then Ao 8 (Lu AS Eb) ds h else .stuck
theorem Xp (c__law_take:CaE P w K mg base "_law_take" 1 AS) (c__law_wide_box:CaE P w K mg base "_law_wide_box" 2 Eb) {f:Addr} {fd:FuncData} (D:Dn K mg "_law_board" ["_law_box_here","_law_high","_law_wide"] FM f fd):CaE P w K mg base "_law_board" 3 CT:=
 ⟨f,fd,_,Bg D.fn sc__law_board (fun ds h e=>if_neg e) (fun ds h e=>if_pos e) (fun cdv A outer s H E hr=>WU B et c__law_take c__law_wide_box f cdv A outer s H E hr),D.bd,D.mg,D.fn.kp⟩
noncomputable def Ed:List D→HD→Out D:=fun ds h=>if ds.length=1 then Ao 1 (Lw BW Ec) ds h else .stuck
theorem Xq (c_is_line_tuple:CaE P w K mg base "is_line_tuple" 1 BW) (c_is_light:CaE P w K mg base "is_light" 3 Ec) {f:Addr} {fd:FuncData} (D:Dn K mg "is_row" ["thing"] FN f fd):CaE P w K mg base "is_row" 4 Ed:=
 ⟨f,fd,_,Bg D.fn Wu (fun ds h e=>if_neg e) (fun ds h e=>if_pos e) (fun cdv A outer s H E hr=>WV B et c_is_line_tuple c_is_light f cdv A outer s H E hr),D.bd,D.mg,D.fn.kp⟩
noncomputable def Ee:List D→HD→Out D:=fun ds h=>if ds.length=1 then Ao 1 (Lx BW Ed) ds h else .stuck
theorem Xr (c_is_line_tuple:CaE P w K mg base "is_line_tuple" 1 BW) (c_is_row:CaE P w K mg base "is_row" 4 Ed) {f:Addr} {fd:FuncData} (D:Dn K mg "is_board" ["thing"] FO f fd):CaE P w K mg base "is_board" 5 Ee:=
 ⟨f,fd,_,Bg D.fn Wv (fun ds h e=>if_neg e) (fun ds h e=>if_pos e) (fun cdv A outer s H E hr=>WW B et c_is_line_tuple c_is_row f cdv A outer s H E hr),D.bd,D.mg,D.fn.kp⟩
noncomputable def AG:List D→HD→Out D:=fun ds h=>if ds.length=1 then Ao 1 (Ly Ee) ds h else .stuck
theorem Xs (c_is_board:CaE P w K mg base "is_board" 5 Ee) {f:Addr} {fd:FuncData} (D:Dn K mg "need_board" ["thing"] FP f fd):CaE P w K mg base "need_board" 6 AG:=
 ⟨f,fd,_,Bg D.fn Ww (fun ds h e=>if_neg e) (fun ds h e=>if_pos e) (fun cdv A outer s H E hr=>WX B et c_is_board f cdv A outer s H E hr),D.bd,D.mg,D.fn.kp⟩
noncomputable def Ef:List D→HD→Out D:=fun ds h=>if ds.length=2 then Ao 2 (Lz AG Dt) ds h else .stuck
theorem Xu (c_need_board:CaE P w K mg base "need_board" 6 AG) (c_is_lot:CaE P w K mg base "is_lot" 2 Dt) {f:Addr} {fd:FuncData} (D:Dn K mg "is_switching" ["board","thing"] FQ f fd):CaE P w K mg base "is_switching" 7 Ef:=
 ⟨f,fd,_,Bg D.fn Wx (fun ds h e=>if_neg e) (fun ds h e=>if_pos e) (fun cdv A outer s H E hr=>WY B et c_need_board c_is_lot f cdv A outer s H E hr),D.bd,D.mg,D.fn.kp⟩
noncomputable def BY:List D→HD→Out D:=fun ds h=>if ds.length=2 then Ao 2 (LA AG) ds h else .stuck
theorem Xv (c_need_board:CaE P w K mg base "need_board" 6 AG) {f:Addr} {fd:FuncData} (D:Dn K mg "same_size" ["one","other"] FR f fd):CaE P w K mg base "same_size" 7 BY:=
 ⟨f,fd,_,Bg D.fn Wy (fun ds h e=>if_neg e) (fun ds h e=>if_pos e) (fun cdv A outer s H E hr=>WZ B et c_need_board f cdv A outer s H E hr),D.bd,D.mg,D.fn.kp⟩
noncomputable def DM:List D→HD→Out D:=fun ds h=>if ds.length=1 then Ao 1 (LB AG) ds h else .stuck
theorem Xw (c_need_board:CaE P w K mg base "need_board" 6 AG) {f:Addr} {fd:FuncData} (D:Dn K mg "alike_many" ["board"] FS f fd):CaE P w K mg base "alike_many" 7 DM:=
 ⟨f,fd,_,Bg D.fn Wz (fun ds h e=>if_neg e) (fun ds h e=>if_pos e) (fun cdv A outer s H E hr=>W0 B et c_need_board f cdv A outer s H E hr),D.bd,D.mg,D.fn.kp⟩
noncomputable def CU:List D→HD→Out D:=fun ds h=>if ds.length=1 then Ao 1 (LC AG BX BS) ds h else .stuck
theorem Xx (c_need_board:CaE P w K mg base "need_board" 6 AG) (c_all_fours:CaE P w K mg base "all_fours" 1 BX) (c_is_odd_four:CaE P w K mg base "is_odd_four" 1 BS) {f:Addr} {fd:FuncData} (D:Dn K mg "odd_fours" ["board"] FT f fd):CaE P w K mg base "odd_fours" 7 CU:=
 ⟨f,fd,_,Bg D.fn WA (fun ds h e=>if_neg e) (fun ds h e=>if_pos e) (fun cdv A outer s H E hr=>W1 B et c_need_board c_all_fours c_is_odd_four f cdv A outer s H E hr),D.bd,D.mg,D.fn.kp⟩
noncomputable def Eg:List D→HD→Out D:=fun ds h=>if ds.length=2 then Ao 2 (LD Ef) ds h else .stuck
theorem Xy (c_is_switching:CaE P w K mg base "is_switching" 7 Ef) {f:Addr} {fd:FuncData} (D:Dn K mg "need_switching" ["board","thing"] FU f fd):CaE P w K mg base "need_switching" 8 Eg:=
 ⟨f,fd,_,Bg D.fn WB (fun ds h e=>if_neg e) (fun ds h e=>if_pos e) (fun cdv A outer s H E hr=>W2 B et c_is_switching f cdv A outer s H E hr),D.bd,D.mg,D.fn.kp⟩
noncomputable def DN:List D→HD→Out D:=fun ds h=>if ds.length=2 then Ao 3 (LF BY BX BS) ds h else .stuck
theorem Xz (c_same_size:CaE P w K mg base "same_size" 7 BY) (c_all_fours:CaE P w K mg base "all_fours" 1 BX) (c_is_odd_four:CaE P w K mg base "is_odd_four" 1 BS) {f:Addr} {fd:FuncData} (D:Dn K mg "first_unlike" ["one","other"] FV f fd):CaE P w K mg base "first_unlike" 8 DN:=
 ⟨f,fd,_,Bg D.fn sc_first_unlike (fun ds h e=>if_neg e) (fun ds h e=>if_pos e) (fun cdv A outer s H E hr=>W3 B et c_same_size c_all_fours c_is_odd_four f cdv A outer s H E hr),D.bd,D.mg,D.fn.kp⟩
noncomputable def Be:List D→HD→Out D:=fun ds h=>if ds.length=2 then Ao 4 (LG Eg D8) ds h else .stuck
theorem XA (c_need_switching:CaE P w K mg base "need_switching" 8 Eg) (c_row_switched:CaE P w K mg base "row_switched" 1 D8) {f:Addr} {fd:FuncData} (D:Dn K mg "switched" ["board","switching"] FW f fd):CaE P w K mg base "switched" 9 Be:=
 ⟨f,fd,_,Bg D.fn sc_switched (fun ds h e=>if_neg e) (fun ds h e=>if_pos e) (fun cdv A outer s H E hr=>W4 B et c_need_switching c_row_switched f cdv A outer s H E hr),D.bd,D.mg,D.fn.kp⟩
noncomputable def BG:List D→HD→Out D:=fun ds h=>if ds.length=2 then Ao 5 (LH BY Be) ds h else .stuck
theorem XB (c_same_size:CaE P w K mg base "same_size" 7 BY) (c_switched:CaE P w K mg base "switched" 9 Be) {f:Addr} {fd:FuncData} (D:Dn K mg "switching_to" ["one","other"] FX f fd):CaE P w K mg base "switching_to" 10 BG:=
 ⟨f,fd,_,Bg D.fn sc_switching_to (fun ds h e=>if_neg e) (fun ds h e=>if_pos e) (fun cdv A outer s H E hr=>W5 B et c_same_size c_switched f cdv A outer s H E hr),D.bd,D.mg,D.fn.kp⟩
noncomputable def CV:List D→HD→Out D:=fun ds h=>if ds.length=1 then Ao 3 (LI AG Be) ds h else .stuck
theorem XC (c_need_board:CaE P w K mg base "need_board" 6 AG) (c_switched:CaE P w K mg base "switched" 9 Be) {f:Addr} {fd:FuncData} (D:Dn K mg "form_of" ["board"] FY f fd):CaE P w K mg base "form_of" 10 CV:=
 ⟨f,fd,_,Bg D.fn sc_form_of (fun ds h e=>if_neg e) (fun ds h e=>if_pos e) (fun cdv A outer s H E hr=>W6 B et c_need_board c_switched f cdv A outer s H E hr),D.bd,D.mg,D.fn.kp⟩
noncomputable def CC:List D→HD→Out D:=fun ds h=>if ds.length=2 then Ao 2 (LJ BG) ds h else .stuck
theorem XE (c_switching_to:CaE P w K mg base "switching_to" 10 BG) {f:Addr} {fd:FuncData} (D:Dn K mg "are_alike" ["one","other"] FZ f fd):CaE P w K mg base "are_alike" 11 CC:=
 ⟨f,fd,_,Bg D.fn WC (fun ds h e=>if_neg e) (fun ds h e=>if_pos e) (fun cdv A outer s H E hr=>W7 B et c_switching_to f cdv A outer s H E hr),D.bd,D.mg,D.fn.kp⟩
noncomputable def F_law:List D→HD→Out D:=fun ds h=>if ds.length=1 then Ao 17 (JH DL AS CT CS Be CC CV DN BG CU CB DM) ds h else .stuck
end
theorem _root_.LS.Sm.len {h h':HD} (s:Sm h h'):h.length≤h'.length:=by
 cases e:h.length with
 |zero=>exact DT _
 |succ n=>
  have hn:n<h.length:=by omega
  have:=s n h[n] (Br hn)
  have:=(qa3.mp this).1
  omega
theorem sz {n:Nat} (hn:n≤8):(List.range n).length≤sizeLine:=by
 rw [List.length_range];unfold sizeLine;omega
theorem XF {ns:List Int} {k:Nat} (hb:∀i∈ns,Builtin.Int.intBits i≤2^20) (hk:k≤1000):∃c:Int,Builtin.Int.intBits c≤2^20∧∀h,Pu (D9 [.scr ns,.int (k:Nat)] h) h (.int c):=by
 by_cases hl:k<ns.length
 ·refine ⟨ns[k],hb _ (List.getElem_mem hl),fun h=>?_⟩
  change Wp (Ao 2 JF [.scr ns,.int (k:Nat)] h) _
  refine Eq.mpr (Ba) ?_
  have:(k:Int)<ns.length:=by omega
  simp [this]
  refine Bd (TZ (Br hl)) ?_
  simp [Sm.refl]
 ·refine ⟨6151*(k:Int)+29,?_,fun h=>?_⟩
  ·rw [intBits_le_iff]
   have h1:(6151*(k:Int)+29).natAbs<2^30:=by omega
   exact Bo h1 (F6 (by decide) (by omega))
  ·change Wp (Ao 2 JF [.scr ns,.int (k:Nat)] h) _
   refine Eq.mpr (Ba) ?_
   have:¬(k:Int)<ns.length:=by omega
   simp [this]
   rw [KA (by decide) (by decide)]
   simp [Sm.refl]
def O3 (c:Int) (k:Nat):Int:=(((c+1)*40692+104729*(k:Int))*((c+1)*40692+104729*(k:Int))) % 2147483399+(k:Int)
theorem O4 {h:HD}:Gx [.int 24] h=.ok ((List.range 24).map fun k=>D.int ((k:Nat):Int),[]) h:=DH (n:=24) (by decide)
theorem XG {c:Int} {k:Nat} (hc:Builtin.Int.intBits c≤2^20) (hk:k≤1000):∃r:Int,∀h,Pu (Ea [.int c,.int (k:Nat)] h) h (.int r):=by
 refine ⟨O3 c k*(O3 c k+31) % 2147483563,fun h=>?_⟩
 change Wp (Ao 3 Ll [.int c,.int (k:Nat)] h) _
 refine Eq.mpr (Ba) ?_
 have bX:Builtin.Int.intBits ((c+1)*40692+104729*(k:Int))≤16777216:=by
  have hk':Builtin.Int.intBits ((k:Nat):Int)≤10:=PySem.intBits_le_iff.mpr (by omega)
  have:=PySem.intBits_add_le (PySem.intBits_mul_le (PySem.intBits_add_le hc (show Builtin.Int.intBits 1≤1 by decide)) (show Builtin.Int.intBits 40692≤16 by decide)) (PySem.intBits_mul_le (show Builtin.Int.intBits 104729≤17 by decide) hk')
  exact BU this (by decide)
 have h1:=Int.emod_nonneg (((c+1)*40692+104729*(k:Int))*((c+1)*40692+104729*(k:Int))) (show (2147483399:Int)≠0 by decide)
 have h2:=Int.emod_lt_of_pos (((c+1)*40692+104729*(k:Int))*((c+1)*40692+104729*(k:Int))) (show (0:Int)<2147483399 by decide)
 simp
 rw [Ji (by decide) (by decide)]
 simp
 rw [KA (by decide) (by decide)]
 simp
 rw [T4 bX bX]
 simp
 rw [GI (by decide)]
 simp
 rw [KA (by omega) (by omega)]
 simp
 rw [GI (by decide)]
 simp
 exact ⟨rfl,.refl _⟩
def BoxAt (h:HD) (b:Nat):Prop:=∃n:Int,h[b]?=some (.lst [.int n])
inductive O5 (ns:List Int) (k:Nat) (c:Int) (h:HD) (xs:List Nat) (ρ:Ai) (h':HD):Prop where
 |mk (N:Int) (x:Option D) (f0:ρ=[some (.scr ns),some (.int (k:Nat)),some (.int c),some (.int N),x]) (f1:Sm h h') (f2:∀j∈xs,j<24):O5 ns k c h xs ρ h'
theorem XH {ns:List Int} {k:Nat} {h:HD} {Q:D→HD→Prop} (hb:∀i∈ns,Builtin.Int.intBits i≤2^20) (hk:k≤1000) (q:∀l h',BoxAt h' l→h.length≤l→Sm h h'→Q (.loc l) h'):Wp (DL [.scr ns,.int (k:Nat)] h) Q:=by
 change Wp (Ao 5 (Lp D9 Ea) [.scr ns,.int (k:Nat)] h) _
 refine Eq.mpr (Ba) ?_
 obtain ⟨c,bc,pc⟩:=XF (k:=k) hb hk
 simp
 refine (pc h).wp fun h1 s1=>?_
 rw [GI (by decide)]
 simp
 by_cases hz:c % 2=0
 ·simp [hz]
  rw [T5 (by decide) (by decide)]
  simp
  exact Cw (by simp) fun l h' s e el _=>q l h' ⟨_,e⟩ (by have:=s1.len;omega) (s1.trans s)
 ·simp [hz]
  refine Do (src:=[]) (xs:=List.range 24) (fun i=>.int ((i:Nat):Int)) (O5 ns k c h) ?_ (fun ys ρ h' _=>Eu) ?_ ?_
  ·simp [O4]
   exact ⟨_,_,rfl,s1,fun j hj=>qaX.mp hj⟩
  ·rintro x xs ρ h' ⟨N,y,rfl,sh,hx⟩
   refine ⟨_,rfl,?_⟩
   obtain ⟨m,pm⟩:=XG (k:=x) bc (by have:=hx x AI;omega)
   simp
   rw [Ji (by decide) (by decide)]
   simp
   refine (pm h').wp fun h2 s2=>?_
   simp [Cy]
   exact ⟨_,_,rfl,sh.trans s2,fun j hj=>hx j (AU _ hj)⟩
  ·rintro ρ h' ⟨N,y,rfl,sh,_⟩
   simp
   exact Cw (by simp) fun l h' s e el _=>q l h' ⟨_,e⟩ (by have:=sh.len;omega) (sh.trans s)
def Smx (b:Nat) (h h':HD):Prop:=∀(l:Nat) (c:CF),l≠b→h[l]?=some c→h'[l]?=some c
theorem Smx.refl (b:Nat) (h:HD):Smx b h h:=fun _ _ _ e=>e
theorem Smx.trans {b:Nat} {h h1 h2:HD} (a:Smx b h h1) (c:Smx b h1 h2):Smx b h h2:=fun l x n e=>c l x n (a l x n e)
theorem GQ {b:Nat} {h h':HD} (s:Sm h h'):Smx b h h':=fun l c _ e=>s l c e
theorem HM {b:Nat} {m:Int} {h:HD} {Q:D→HD→Prop} (hx:BoxAt h b) (h1:0<m) (h2:m<18446744073709551616) (q:∀d h',0≤d→d<m→BoxAt h' b→Smx b h h'→Q (.int d) h'):Wp (AS [.loc b,.int m] h) Q:=by
 change Wp (Ao 4 Lm [.loc b,.int m] h) _
 refine Eq.mpr (Ba) ?_
 obtain ⟨N,e⟩:=hx
 simp
 rw [show (0:Int)=((0:Nat):Int) from rfl]
 refine Bd (Kx e (k:=0) rfl) ?_
 simp
 refine Bd (T6 h1 h2) ?_
 simp
 rw [show (0:Int)=((0:Nat):Int) from rfl]
 refine Bd (T1 e (by simp)) ?_
 simp
 have hl:b<h.length:=(qa3.mp e).1
 refine q _ _ (Int.emod_nonneg _ (by omega)) (Int.emod_lt_of_pos _ h1) ⟨_,by rw [DQ hl]⟩ fun l c ne el=>?_
 rw [Cd (Ne.symm ne)]
 exact el
theorem BoxAt.sm {b:Nat} {h h':HD} (x:BoxAt h b) (s:Sm h h'):BoxAt h' b:=let ⟨n,e⟩:=x;⟨n,s _ _ e⟩
theorem BoxAt.smx {a b:Nat} {h h':HD} (x:BoxAt h b) (s:Smx a h h') (ne:b≠a):BoxAt h' b:=let ⟨n,e⟩:=x;⟨n,s _ _ ne e⟩
theorem BoxAt.new {b:Nat} {h:HD} {c:CF} (x:BoxAt h b):BoxAt (h++[c]) b:=x.sm (.app _ _)
def Plain (h:HD):D→Prop
 |.int _=>True
 |.bl _=>True
 |.non=>True
 |.str _=>True
 |.tup _=>True
 |.loc l=>∃ds,h[l]?=some (.lst ds)
 |_=>False
theorem Plain.sm {h h':HD} {d:D} (p:Plain h d) (s:Sm h h'):Plain h' d:=by
 cases d with
 |loc l=>obtain ⟨ds,e⟩:=p;exact ⟨ds,s _ _ e⟩
 |_=>exact p
def B7:D→List D
 |.tup ds=>ds
 |_=>[]
def Plain2 (h:HD) (d:D):Prop:=Plain h d∧∀x∈B7 d,Plain h x
def Plain3 (h:HD) (d:D):Prop:=Plain h d∧∀x∈B7 d,Plain2 h x
theorem Plain2.sm {h h':HD} {d:D} (p:Plain2 h d) (s:Sm h h'):Plain2 h' d:=⟨p.1.sm s,fun x hx=>(p.2 x hx).sm s⟩
theorem Plain3.sm {h h':HD} {d:D} (p:Plain3 h d) (s:Sm h h'):Plain3 h' d:=⟨p.1.sm s,fun x hx=>(p.2 x hx).sm s⟩
def HN:D→Bool
 |.int i=>decide (0≤i)&&decide (i≤1)
 |_=>false
def Cn:D→Bool
 |.tup ds=>decide (1≤ds.length)&&decide (ds.length≤8)
 |_=>false
def CW (d:D):Bool:=Cn d&&(B7 d).all HN
def ED (d:D):Nat:=(B7 d).length
def E6 (d:D):Bool:=Cn d&&(B7 d).all CW&&(B7 d).all fun x=>ED x==ED ((B7 d).getD 0 .non)
theorem p_is_between_int {i a b:Int} {h:HD}:Pu (DK [.int i,.int a,.int b] h) h (.bl (decide (a≤i)&&decide (i≤b))):=by
 change Wp (Ao 3 (JG BB) [.int i,.int a,.int b] h) _
 refine Eq.mpr (Ba) ?_
 have e:BB [.int i] h=.ok (.bl true) h:=rfl
 simp [e]
 by_cases h1:a≤i<;>simp [h1,Ap,Sm.refl]
theorem XI {d:D} {a b:Int} {h:HD} (e:BB [d] h=.ok (.bl false) h):Pu (DK [d,.int a,.int b] h) h (.bl false):=by
 change Wp (Ao 3 (JG BB) [d,.int a,.int b] h) _
 refine Eq.mpr (Ba) ?_
 simp [e,Sm.refl]
def HP:D→Bool
 |.int _=>true
 |_=>false
theorem O6 {d:D} {h:HD} (p:Plain h d):BB [d] h=.ok (.bl (HP d)) h:=by
 cases d with
 |loc l=>
  obtain ⟨ds,e⟩:=p
  have i1:Cc (.loc l) (.ty "int") h=.ok (.bl false) h:=U2 e
  have w:Wp (Ao 1 Lg [.loc l] h) fun d h'=>d=.bl false∧h'=h:=by
   refine Eq.mpr Ba ?_
   simp [-U1,i1]
  obtain ⟨a,h',e',rfl,rfl⟩:=Wp.ex w
  exact e'
 |tup ds=>rfl
 |int i=>rfl
 |bl b=>rfl
 |non=>rfl
 |str x=>rfl
 |_=>exact p.elim
theorem O7 {d:D} (h:HP d=true):∃i,d=.int i:=by cases d<;>first |exact ⟨_,rfl⟩ |cases h
theorem XJ {d:D} {h:HD} (p:Plain h d):Pu (Ec [d] h) h (.bl (HN d)):=by
 change Wp (Ao 1 (Ls DK) [d] h) _
 refine Eq.mpr Ba ?_
 simp
 cases hw:HP d with
 |true=>
  obtain ⟨i,rfl⟩:=O7 hw
  exact p_is_between_int.wp fun h' s=>⟨rfl,s⟩
 |false=>
  have e:=O6 p
  rw [hw] at e
  have e2:HN d=false:=by cases d<;>first |rfl |cases hw
  exact (XI e).wp fun h' s=>⟨by rw [e2],s⟩
def JI:D→Bool
 |.tup _=>true
 |_=>false
theorem O8 {d:D} {h:HD} (p:Plain h d):CP d (.ty "tuple") h=.ok (.bl (JI d)) h:=by
 cases d with
 |loc l=>obtain ⟨ds,e⟩:=p;exact U3 e
 |tup ds=>rfl
 |int i=>rfl
 |bl b=>rfl
 |non=>rfl
 |str x=>rfl
 |_=>exact p.elim
theorem O9 {d:D} (h:JI d=true):∃ds,d=.tup ds:=by cases d<;>first |exact ⟨_,rfl⟩ |cases h
theorem Pa {d:D} {h:HD} (p:Plain h d):Pu (BW [d] h) h (.bl (Cn d)):=by
 change Wp (Ao 1 Lh [d] h) _
 refine Eq.mpr Ba ?_
 cases hT:JI d with
 |true=>
  obtain ⟨ds,rfl⟩:=O9 hT
  have a1:(1:Int)≤ds.length↔1≤ds.length:=by omega
  have a2:(ds.length:Int)≤8↔ds.length≤8:=by omega
  by_cases h1:1≤ds.length
  ·by_cases h2:ds.length≤8
   ·simp [a1.mpr h1,a2.mpr h2,Ap,Sm.refl,Cn,h1,h2]
   ·have b2:¬(ds.length:Int)≤8:=by omega
    simp [a1.mpr h1,b2,Ap,Sm.refl,Cn,h1,h2]
  ·have b1:¬(1:Int)≤ds.length:=by omega
   simp [b1,Ap,Sm.refl,Cn,h1]
 |false=>
  have:Cn d=false:=by cases d<;>first |rfl |cases hT
  simp [O8 p,hT,this,Sm.refl]
theorem LM {d:D} (h:Cn d=true):∃ds,d=.tup ds∧1≤ds.length∧ds.length≤8:=by
 cases d with
 |tup ds=>exact ⟨ds,rfl,by simpa [Cn] using h⟩
 |_=>cases h
theorem XM {d:D} {h:HD} (p:Plain2 h d):Pu (Ed [d] h) h (.bl (CW d)):=by
 change Wp (Ao 1 (Lw BW Ec) [d] h) _
 refine Eq.mpr (Ba) ?_
 simp
 refine (Pa p.1).wp fun h1 s1=>?_
 cases hl:Cn d with
 |false=>simp [CW,hl,s1]
 |true=>
  obtain ⟨ds,rfl,l1,l2⟩:=LM hl
  simp
  refine Pu.wp (Jh (src:=[]) (xs:=ds) (φ:=fun x=>x) HN (fun x=>[some x]) (by rw [List.map_id'];exact Kz) (fun x _=>rfl) (fun x hx h' s'=>?_) (by unfold sizeLine;omega)) fun h2 s2=>?_
  ·simp [Pu]
   exact XJ ((p.2 x hx).sm (s1.trans s'))
  ·simp [CW,hl,B7,s1.trans s2]
theorem Pb {d:D} {h:HD} (hl:Cn d=true):Bc d h=.ok (.int (ED d:Nat)) h:=by
 obtain ⟨ds,rfl,_,_⟩:=LM hl
 simp [ED,B7]
theorem Pc {d:D} (h:CW d=true):Cn d=true:=by unfold CW at h;exact (Bool.and_eq_true_iff.mp h).1
theorem XN {d:D} {h:HD} (p:Plain3 h d):Pu (Ee [d] h) h (.bl (E6 d)):=by
 change Wp (Ao 1 (Lx BW Ed) [d] h) _
 refine Eq.mpr (Ba) ?_
 simp
 refine (Pa p.1).wp fun h1 s1=>?_
 cases hl:Cn d with
 |false=>simp [E6,hl,s1]
 |true=>
  obtain ⟨ds,rfl,l1,l2⟩:=LM hl
  simp
  refine Pu.wp (Jh (src:=[]) (xs:=ds) (φ:=fun x=>x) CW (fun x=>[some x]) (by rw [List.map_id'];exact Kz) (fun x _=>rfl) (fun x hx h' s'=>?_) (by unfold sizeLine;omega)) fun h2 s2=>?_
  ·simp [Pu]
   exact XM ((p.2 x hx).sm (s1.trans s'))
  ·cases ha:ds.all CW with
   |false=>simp [E6,hl,B7,ha,s1.trans s2]
   |true=>
    simp
    have hr:∀x∈ds,CW x=true:=fun x hx=>qaS.mp ha x hx
    obtain ⟨d0,rest,rfl⟩:∃d0 rest,ds=d0::rest:=by
     cases ds with
     |nil=>simp at l1
     |cons a r=>exact ⟨a,r,rfl⟩
    refine Pu.wp (Jh (src:=[]) (xs:=d0::rest) (φ:=fun x=>x) (fun x=>ED x==ED d0) (fun x=>[some x,some (.tup (d0::rest))]) (by rw [List.map_id'];exact Kz) (fun x _=>rfl) (fun x hx h' s'=>?_) (by unfold sizeLine;omega)) fun h3 s3=>?_
    ·simp [Pu]
     rw [Pb (Pc (hr x hx))]
     simp
     rw [show (0:Int)=((0:Nat):Int) from rfl]
     refine Bd (ix_tup (k:=0) rfl) ?_
     simp
     rw [Pb (Pc (hr d0 AI))]
     simp [Sm.refl]
     rw [qaI]
     simp
     omega
    ·have:(d0::rest).all CW=true:=ha
     simp only [E6,hl,B7,this,Bool.true_and]
     refine ⟨?_,(s1.trans s2).trans s3⟩
     simp
theorem XO {d:D} {h:HD} (p:Plain3 h d) (hb:E6 d=true):Pu (AG [d] h) h .non:=by
 change Wp (Ao 1 (Ly Ee) [d] h) _
 refine Eq.mpr (Ba) ?_
 simp
 refine (XN p).wp fun h1 s1=>?_
 simp [hb,s1]
def lit (x:Bool):D:=.int (if x then 1 else 0)
def AL (w:Nat) (f:Nat→Bool):D:=.tup ((List.range w).map fun j=>lit (f j))
def bD (h w:Nat) (f:Nat→Nat→Bool):D:=.tup ((List.range h).map fun i=>AL w (f i))
section
variable {H W:Nat} {h:HD} {f:Nat→Nat→Bool} {r:Nat→Bool}
theorem XQ {x:Bool}:HN (lit x)=true:=by cases x<;>rfl
theorem XR:Plain2 h (AL W r):=⟨trivial,fun x hx=>by
 simp only [AL,B7,qaU] at hx
 obtain ⟨j,_,rfl⟩:=hx
 exact trivial⟩
theorem XS:Plain3 h (bD H W f):=⟨trivial,fun x hx=>by
 simp only [bD,B7,qaU] at hx
 obtain ⟨j,_,rfl⟩:=hx
 exact XR⟩
theorem Pd {ds:List D} (h1:1≤ds.length) (h2:ds.length≤8):Cn (.tup ds)=true:=by simp [Cn,h1,h2]
theorem XT (hw:1≤W∧W≤8):CW (AL W r)=true:=by
 unfold CW
 rw [Du]
 refine ⟨Pd (by simp;omega) (by simp;omega),qaS.mpr fun x hx=>?_⟩
 simp only [AL,B7,qaU] at hx
 obtain ⟨j,_,rfl⟩:=hx
 exact XQ
theorem Pe:ED (AL W r)=W:=by simp [ED,AL,B7]
theorem XU (hh:1≤H∧H≤8) (hw:1≤W∧W≤8):E6 (bD H W f)=true:=by
 unfold E6
 rw [Du,Du]
 refine ⟨⟨Pd (by simp;omega) (by simp;omega),qaS.mpr fun x hx=>?_⟩,qaS.mpr fun x hx=>?_⟩
 ·simp only [bD,B7,qaU] at hx
  obtain ⟨j,_,rfl⟩:=hx
  exact XT hw
 ·simp only [bD,B7,qaU] at hx ⊢
  obtain ⟨j,_,rfl⟩:=hx
  have:((List.range H).map fun i=>AL W (f i)).getD 0 .non=AL W (f 0):=by
   rw [GW,Dc,List.getElem?_range (by omega)];rfl
  rw [this,Pe,Pe]
  simp
theorem GR (hh:1≤H∧H≤8) (hw:1≤W∧W≤8):Pu (AG [bD H W f] h) h .non:=XO XS (XU hh hw)
end
section
variable {h:HD}
variable {H W:Nat} {f:Nat→Nat→Bool} {r:Nat→Bool}
theorem HQ:Bc (bD H W f) h=.ok (.int (H:Nat)) h:=by simp [bD]
theorem HU:Bc (AL W r) h=.ok (.int (W:Nat)) h:=by simp [AL]
theorem LN {k:Nat} (hk:k<H):Aq (bD H W f) (.int (k:Nat)) h=.ok (AL W (f k)) h:=Kw hk
theorem EE (hk:1≤H):Aq (bD H W f) (.int 0) h=.ok (AL W (f 0)) h:=Ht (by omega)
def Zb9 (h:HD) (H W:Nat) (x:D):Prop:=Plain2 h x∧(CW x=false∨(1<H∧ED x≠W))
def Zca (H W:Nat) (f:Nat→Nat→Bool) (A:Nat) (x:D):D:=.tup (((List.range H).map fun i=>AL W (f i)).take A++[x]++((List.range H).map fun i=>AL W (f i)).drop (A+1))
def NoB (h:HD) (d:D):Prop:=Plain3 h d∧E6 d=false
theorem NoB.sm {h':HD} {d:D} (n:NoB h d) (s:Sm h h'):NoB h' d:=⟨n.1.sm s,n.2⟩
end
theorem Plain.smx {b:Nat} {h h':HD} {d:D} (p:Plain h d) (s:Smx b h h') (x:BoxAt h' b):Plain h' d:=by
 cases d with
 |loc l=>
  obtain ⟨ds,e⟩:=p
  by_cases hl:l=b
  ·obtain ⟨n,e'⟩:=x
   exact ⟨_,hl ▸ e'⟩
  ·exact ⟨ds,s _ _ hl e⟩
 |_=>exact p
theorem Plain2.smx {b:Nat} {h h':HD} {d:D} (p:Plain2 h d) (s:Smx b h h') (x:BoxAt h' b):Plain2 h' d:=⟨p.1.smx s x,fun y hy=>(p.2 y hy).smx s x⟩
theorem Plain3.smx {b:Nat} {h h':HD} {d:D} (p:Plain3 h d) (s:Smx b h h') (x:BoxAt h' b):Plain3 h' d:=⟨p.1.smx s x,fun y hy=>(p.2 y hy).smx s x⟩
theorem NoB.smx {b:Nat} {h h':HD} {d:D} (n:NoB h d) (s:Smx b h h') (x:BoxAt h' b):NoB h' d:=⟨n.1.smx s x,n.2⟩
def TabAt (h:HD):Prop:=h[0]?=some .tab
theorem TabAt.sm {h h':HD} (t:TabAt h) (s:Sm h h'):TabAt h':=s _ _ t
theorem TabAt.smx {b:Nat} {h h':HD} (t:TabAt h) (s:Smx b h h') (hb:0<b):TabAt h':=s _ _ (by omega) t
theorem TabAt.pos {h:HD} (t:TabAt h):0<h.length:=(qa3.mp t).1
theorem BoxAt.lt {b:Nat} {h:HD} (x:BoxAt h b):b<h.length:=let ⟨_,e⟩:=x;(qa3.mp e).1
@[simp] theorem Zcb {ρ:Ai} {a b:D} {i j:Nat}:GL [i,j] (.tup [a,b]) ρ=some ((ρ.set i (some a)).set j (some b)):=id rfl
theorem XW {xs ys:List D} {h:HD} (hz:xs.length+ys.length≤1000):A2 (.tup xs) (.tup ys) h=.ok (.tup (xs++ys)) h:=by
 simp only [A2]
 rw [if_pos (by unfold sizeLine;omega)]
theorem Pf {P:D→Prop}:∀d∈([]:List D),P d:=fun d hd=>by cases hd
theorem all_cons {P:D→Prop} {a:D} {l:List D} (h:P a) (t:∀d∈l,P d):∀d∈a::l,P d:=fun d hd=>by
 rcases qa9.mp hd with rfl |hd
 ·exact h
 ·exact t d hd
theorem Pg (P:D→Prop) {l o:Nat} {ds:List D} {h:HD} (e:h[l]?=some (.lst ds)) (ho:o<ds.length) (hp:∀d∈ds,P d):∃y,Aq (.loc l) (.int (o:Nat)) h=.ok y h∧P y:=
 ⟨ds[o],Kx e (Br ho),hp _ (List.getElem_mem ho)⟩
theorem Smx.over {a b:Nat} {h h1 h2:HD} (s:Smx b h h1) (s2:Smx a h1 h2) (hl:h.length≤a):Smx b h h2:=fun l c n e=>s2 l c (by have:=(qa3.mp e).1;omega) (s l c n e)
theorem Smx.put {a b:Nat} {c:CF} {h h1:HD} (s:Smx b h h1) (hl:h.length≤a):Smx b h (h1.set a c):=fun l x n e=>by
 rw [Cd (by have:=(qa3.mp e).1;omega)]
 exact s l x n e
theorem Smx.new {b:Nat} {c:CF} {h h1:HD} (s:Smx b h h1):Smx b h (h1++[c]):=s.trans (GQ (.app _ _))
theorem Smx.len {b:Nat} {h h':HD} (s:Smx b h h') (hb:b<h'.length):h.length≤h'.length:=by
 cases e:h.length with
 |zero=>exact DT _
 |succ n=>
  have hn:n<h.length:=by omega
  by_cases hz:n=b
  ·omega
  ·have:=s n h[n] hz (Br hn)
   have:=(qa3.mp this).1
   omega
inductive Ph (b:Nat) (h1:HD) (xs:List Nat) (ρ:Ai) (h':HD):Prop where
 |mk (N M:Int) (x:Option D) (f0:ρ=[some (.loc b),some (.int N),some (.int M),x]) (f1:h'=h1):Ph b h1 xs ρ h'
theorem XX {b:Nat} {h:HD} {Q:D→HD→Prop} (hx:BoxAt h b) (q:∀l h',BoxAt h' b→BoxAt h' l→l≠b→h.length≤l→Smx b h h'→Q (.loc l) h'):Wp (Eb [.loc b] h) Q:=by
 change Wp (Ao 4 (Lq AS) [.loc b] h) _
 refine Eq.mpr (Ba) ?_
 simp
 refine HM hx (by decide) (by decide) fun d h1 d0 d1 x1 s1=>?_
 refine Do (src:=[]) (xs:=List.range 24) (fun i=>.int ((i:Nat):Int)) (Ph b h1) ?_ (fun ys ρ h' _=>Eu) ?_ ?_
 ·simp [O4]
  exact ⟨_,_,_,rfl,rfl⟩
 ·rintro x xs ρ h' ⟨N,M,y,rfl,rfl⟩
  refine ⟨_,rfl,?_⟩
  simp
  rw [Ji (by decide) (by decide)]
  simp
  rw [GI (by decide)]
  simp
  rw [Ji (by decide) (by decide)]
  simp [Cy]
  exact ⟨_,_,_,rfl,rfl⟩
 ·rintro ρ h' ⟨N,M,y,rfl,rfl⟩
  simp
  refine Cw (by simp) fun l h2 s e el _=>?_
  exact q l h2 (x1.sm s) ⟨_,e⟩ (by have:=x1.lt;omega) (by have:=s1.len x1.lt;omega) (s1.trans (GQ s))
theorem XY {W:Nat} {rows:List (Nat→Bool)} {H:Nat} (e:rows.length=H):D.tup (rows.map (AL W))=bD H W fun i=>rows.getD i fun _=>false:=by
 unfold bD
 congr 1
 apply Il
 ·simp [e]
 ·intro i h1 h2
  simp at h1 h2
  simp [GW,Br h1]
inductive Pi (b H W:Nat) (way dense:Int) (l2 l3:Nat) (h:HD) (xs:List Nat) (ρ:Ai) (h':HD):Prop where
 |mk (x:Option D) (rows:List (Nat→Bool)) (f0:ρ=[some (.loc b),some (.int (H:Nat)),some (.int (W:Nat)),some (.int way),some (.loc l2),some (.int dense),some (.loc l3),x]) (f1:BoxAt h' b) (f2:BoxAt h' l2) (f3:h'[l3]?=some (.lst (rows.map (AL W)))) (f4:rows.length+xs.length=H) (f5:Smx b h h'):Pi b H W way dense l2 l3 h xs ρ h'
inductive Pj (b W l2 l3:Nat) (rows:List (Nat→Bool)) (h h':HD):Prop where
 |mk (f1:BoxAt h' b) (f2:BoxAt h' l2) (f3:h'[l3]?=some (.lst (rows.map (AL W)))) (f4:Smx b h h'):Pj b W l2 l3 rows h h'
theorem Pk {b H W:Nat} {h:HD} {Q:D→HD→Prop} (hx:BoxAt h b) (hh:1≤H∧H≤8) (hw:1≤W∧W≤8) (q:∀f h',BoxAt h' b→Smx b h h'→Q (bD H W f) h'):Wp (CT [.loc b,.int (H:Nat),.int (W:Nat)] h) Q:=by
 change Wp (Ao 8 (Lu AS Eb) [.loc b,.int (H:Nat),.int (W:Nat)] h) _
 refine Eq.mpr (Ba) ?_
 simp [-AD]
 refine HM hx (by decide) (by decide) fun way h1 d0 d1 x1 z1=>?_
 simp [-AD,AD (g:=Aj (AN 4 _) _)]
 refine XX x1 fun l2 h2 x2 y2 n2 k2 z2=>?_
 have kl2:h.length≤l2:=by have:=z1.len x1.lt;omega
 refine Eq.mpr (AD) ?_
 simp [-AD]
 refine Cw (by simp) fun l h3 s3 e3 el3 _=>?_
 obtain ⟨dense,ed⟩:∃dense:Int,Aq (.loc l) (.int way) h3=.ok (.int dense) h3:=by
  obtain ⟨w,rfl⟩:∃w:Nat,way=(w:Int):=⟨way.toNat,by omega⟩
  obtain ⟨y,ey,z,rfl⟩:=Pg (fun y=>∃i,y=.int i) (o:=w) e3 (by simp;omega) <| all_cons ⟨_,rfl⟩ <| all_cons ⟨_,rfl⟩ <| all_cons ⟨_,rfl⟩ <| all_cons ⟨_,rfl⟩ <| all_cons ⟨_,rfl⟩ Pf
  exact ⟨z,ey⟩
 refine Bd (ed) ?_
 rw [Cv]
 refine Eq.mpr (AD) ?_
 simp [-AD]
 refine Cw (by simp) fun l3 h4 s4 e4 el4 _=>?_
 have x4:BoxAt h4 b:=(x2.sm s3).sm s4
 have y4:BoxAt h4 l2:=(y2.sm s3).sm s4
 have z4:Smx b h h4:=((z1.trans z2).trans (GQ s3)).trans (GQ s4)
 have kl3:h.length≤l3:=by have:=(z1.trans z2).len x2.lt;have:=s3.len;omega
 have n3:l3≠b:=by
  obtain ⟨n,e⟩:=x2.sm s3
  have:=(qa3.mp e).1
  omega
 have n4:l3≠l2:=by
  obtain ⟨n,e⟩:=y2.sm s3
  have:=(qa3.mp e).1
  omega
 refine Eq.mpr (AD) ?_
 simp [-AD]
 refine Do (src:=[]) (xs:=List.range H) (fun i=>.int ((i:Nat):Int)) (Pi b H W way dense l2 l3 h) ?_ (fun ys ρ h' _=>Eu) ?_ ?_
 ·simp [DH (show H≤1000 by omega)]
  exact ⟨_,[],rfl,x4,y4,e4,by simp,z4⟩
 ·rintro x xs ρ h' ⟨y,rows,rfl,x5,y5,e5,hl,z5⟩
  refine ⟨_,rfl,?_⟩
  simp [Nz e5]
  refine ND (src:=[]) (xs:=List.range W) (fun i=>.int ((i:Nat):Int)) (Pj b W l2 l3 rows h) (fun _ b=>b=true) (fun i d=>∃r:Bool,d=lit r) (fun i=>[some (.int ((i:Nat):Int)),some (.loc l2),some (.int dense)]) ?_ (fun _ _=>Eu) (fun h c x=>by obtain ⟨a1,a2,a3,a4⟩:=x;exact ⟨a1.new,a2.new,Sm.app _ _ _ _ a3,a4.new⟩) List.nodup_range (sz hw.2) (fun x _=>rfl) ?_ ?_
  ·simp [DH (show W≤1000 by omega)]
   exact ⟨x5,y5,e5,z5⟩
  ·intro x hx h i
   simp
   obtain ⟨a1,a2,a3,a4⟩:=i
   refine HM a2 (by decide) (by decide) fun d h1 d0 d1 x1 s1=>?_
   simp only [Cv,Nv,Nu,TX,Jd,Nw,TV,TY]
   exact ⟨⟨a1.smx s1 (Ne.symm n2),x1,s1 _ _ n4 a3,a4.over s1 kl2⟩,by cases decide (d<dense)<;>simp [lit]⟩
  ·intro h6 g e x6 hr tr
   obtain ⟨x61,x62,x63,x64⟩:=x6
   have hr':∃r:Nat→Bool,∀x∈List.range W,e x=lit (r x):=by
    refine ⟨fun x=>if h:x∈List.range W then (hr x h (tr x h)).choose else false,fun x hx=>?_⟩
    simp only [dif_pos hx]
    exact (hr x hx (tr x hx)).choose_spec
   obtain ⟨r,er⟩:=hr'
   have ef:(List.range W).filter g=List.range W:=List.filter_eq_self.mpr tr
   have em:D.tup (((List.range W).filter g).map e)=AL W r:=by
    rw [ef];unfold AL;congr 1;exact F8 er
   rw [em]
   simp [NA x63 (show (rows.map (AL W)).length<sizeLine by simp;unfold sizeLine;omega),Cy]
   have hl3:l3<h6.length:=(qa3.mp x63).1
   refine ⟨_,rows++[r],rfl,?_,?_,?_,?_,x64.put kl3⟩
   ·obtain ⟨n,e⟩:=x61
    exact ⟨n,by rw [Cd n3];exact e⟩
   ·obtain ⟨n,e⟩:=x62
    exact ⟨n,by rw [Cd n4];exact e⟩
   ·rw [DQ hl3]
    simp
   ·simp at hl ⊢
    omega
 ·rintro ρ h' ⟨y,rows,rfl,x5,y5,e5,hl,z5⟩
  simp at hl
  simp
  by_cases h3:way=3
  ·simp [h3]
   obtain ⟨r0,rest,rfl⟩:∃r0 rest,rows=r0::rest:=by
    cases rows with
    |nil=>simp at hl;omega
    |cons a r=>exact ⟨a,r,rfl⟩
   rw [show (0:Int)=((0:Nat):Int) from rfl]
   refine Bd (Kx e5 (k:=0) (a:=AL W r0) rfl) ?_
   simp
   refine Cw (by simp) fun l5 h5 s5 e6 _ _=>?_
   refine Bd (U0) ?_
   refine Bd (Uy e6 (by omega)) ?_
   refine Cw (by simp;unfold sizeLine;omega) fun l6 h6 s6 e7 _ _=>?_
   simp [Ny e7]
   have:D.tup (List.replicate H (AL W r0))=bD H W fun _=>r0:=by
    unfold bD
    congr 1
    apply Il
    ·simp
    ·intro i h1 h2;simp
   rw [this]
   exact q _ _ ((x5.sm s5).sm s6) ((z5.trans (GQ s5)).trans (GQ s6))
  ·simp [h3,Ny e5]
   rw [XY hl]
   exact q _ _ x5 z5
theorem LO {i:Int} {h:HD}:BB [.int i] h=.ok (.bl true) h:=rfl
def DO (n:Nat):Int→List D→Bool
 |_,[]=>true
 |last,.int i::ds=>decide (last<i∧i<(n:Int))&&DO n i ds
 |_,_::_=>false
def F0 (n:Nat) (d:D):Bool:=match d with
 |.tup ds=>DO n (-1) ds
 |_=>false
theorem XZ {n:Nat} {last:Int} {x:D} {xs:List D} (h:HP x=false):DO n last (x::xs)=false:=by
 cases x<;>first |rfl |(cases h)
inductive Pl (ds:List D) (n:Nat) (h:HD) (xs:List D) (ρ:Ai) (h':HD):Prop where
 |mk (last:Int) (x:Option D) (f0:ρ=[some (.tup ds),some (.int (n:Nat)),some (.int last),x]) (f1:h'=h) (f2:DO n last xs=DO n (-1) ds) (f3:∀y∈xs,Plain h y):Pl ds n h xs ρ h'
theorem X0 {d:D} {n:Nat} {h:HD} (p:Plain2 h d):Pu (Dt [d,.int (n:Nat)] h) h (.bl (F0 n d)):=by
 change Wp (Ao 4 (Lo BB) [d,.int (n:Nat)] h) _
 refine Eq.mpr Ba ?_
 cases hT:JI d with
 |true=>
  obtain ⟨ds,rfl⟩:=O9 hT
  simp
  refine Do (src:=[]) (xs:=ds) (fun x=>x) (Pl ds n h) ?_ (fun ys ρ h' _=>Eu) ?_ ?_
  ·simp
   exact ⟨-1,_,rfl,rfl,rfl,p.2⟩
  ·rintro x xs ρ h' ⟨last,y,rfl,rfl,e,pl⟩
   refine ⟨_,rfl,?_⟩
   have px:=pl x AI
   cases hx:HP x with
   |false=>
    simp [O6 px,hx,Cy,Sm.refl]
    rw [XZ hx] at e
    simp [F0,←e]
   |true=>
    obtain ⟨i,rfl⟩:=O7 hx
    by_cases h1:last<i
    ·by_cases h2:i<(n:Int)
     ·simp [LO,h1,h2,Ap,Cy]
      exact ⟨i,_,rfl,rfl,by rw [←e];simp [DO,h1,h2],fun y hy=>pl y (AU _ hy)⟩
     ·simp [LO,h1,h2,Ap,Cy,Sm.refl]
      simp [F0,←e,DO,h1,h2]
    ·simp [LO,h1,Ap,Cy,Sm.refl]
     simp [F0,←e,DO,h1]
  ·rintro ρ h' ⟨last,y,rfl,rfl,e,_⟩
   simp [Sm.refl,F0,←e,DO]
 |false=>
  have e:F0 n d=false:=by cases d<;>first |rfl |cases hT
  simp [O8 p.1,hT,e,Sm.refl]
def AY (n:Nat) (p:Nat→Bool):D:=.tup (((List.range n).filter p).map fun i=>.int ((i:Nat):Int))
section
variable {n:Nat} {p:Nat→Bool} {h:HD}
theorem Pm:∀{ks:List Nat} {last:Int},ks.Pairwise (·< ·)→(∀k∈ks,last<(k:Int)∧k<n)→DO n last (ks.map fun i=>.int ((i:Nat):Int))=true
 |[],_,_,_=>rfl
 |k::ks,last,hp,hb=>by
  rw [List.pairwise_cons] at hp
  have h0:=hb k AI
  rw [Bj,DO,Pm hp.2 fun j hj=>⟨Int.ofNat_lt.mpr (hp.1 j hj),(hb j (AU _ hj)).2⟩,decide_eq_true ⟨h0.1,Int.ofNat_lt.mpr h0.2⟩]
  rfl
theorem X1:F0 n (AY n p)=true:=Pm (List.Pairwise.filter _ List.pairwise_lt_range) fun k hk=>⟨by omega,qaX.mp (qbA.mp hk).1⟩
theorem X2:Plain2 h (AY n p):=⟨trivial,fun x hx=>by
 obtain ⟨k,_,rfl⟩:=qaU.mp hx
 exact trivial⟩
theorem X3 {k:Nat} (hk:k<n):((List.range n).filter p).contains k=p k:=by
 rw [qaI]
 simp [hk]
theorem LP {neg:Bool} {k:Nat} (hk:k<n):D2 neg (.int (k:Nat)) (AY n p) h=.ok (.bl (if neg then !p k else p k)) h:=by
 unfold AY
 rw [T3,X3 hk]
end
def Eh (h w:Nat) (p q:Nat→Bool):D:=.tup [AY h p,AY w q]
def sw (f:Nat→Nat→Bool) (p q:Nat→Bool) (i j:Nat):Bool:=Bool.xor (f i j) (Bool.xor (p i) (q j))
theorem p_is_lot {n:Nat} {p:Nat→Bool} {h:HD}:Pu (Dt [AY n p,.int (n:Nat)] h) h (.bl true):=X1 (n:=n) (p:=p) ▸ X0 X2
section
variable {H W n:Nat} {h:HD} {f:Nat→Nat→Bool} {r p q p' q':Nat→Bool}
theorem X4 (hh:1≤H∧H≤8) (hw:1≤W∧W≤8):Pu (Ef [bD H W f,Eh H W p q] h) h (.bl true):=by
 change Wp (Ao 2 (Lz AG Dt) [bD H W f,Eh H W p q] h) _
 refine Eq.mpr (Ba) ?_
 simp
 refine (GR hh hw).wp fun h1 s1=>?_
 simp [Eh]
 simp [bD]
 refine p_is_lot.wp fun h2 s2=>?_
 simp
 refine Bd (Ht (by omega)) ?_
 simp [AL]
 refine p_is_lot.wp fun h3 s3=>?_
 simp [(s1.trans s2).trans s3]
theorem X5 (hh:1≤H∧H≤8) (hw:1≤W∧W≤8):Pu (Eg [bD H W f,Eh H W p q] h) h .non:=by
 change Wp (Ao 2 (LD Ef) [bD H W f,Eh H W p q] h) _
 refine Eq.mpr (Ba) ?_
 simp
 refine (X4 hh hw).wp fun h1 s1=>?_
 simp [s1]
theorem X6 {b:Bool} (hw:W≤8):Pu (D8 [AL W r,AY W q,.bl b] h) h (AL W fun j=>Bool.xor (r j) (Bool.xor b (q j))):=by
 change Wp (Ao 3 Li [AL W r,AY W q,.bl b] h) _
 refine Eq.mpr (Ba) ?_
 simp
 refine Pu.wp (Ky (src:=[]) (xs:=List.range W) (φ:=fun j=>.tup [.int ((j:Nat):Int),lit (r j)]) (fun j=>lit (Bool.xor (r j) (Bool.xor b (q j)))) (fun j=>[some (.int ((j:Nat):Int)),some (lit (r j)),some (AY W q),some (.bl b)]) ?_ (fun x _=>rfl) (fun x hx h' s'=>?_) (sz hw)) fun h2 s2=>?_
 ·simp [Cb,AL,Jp,Sm.refl,A3]
 ·simp [Pu,LP (show x<W by simpa using hx)]
  cases r x<;>cases b<;>cases q x<;>simp [lit,Sm.refl]
 ·exact ⟨rfl,s2⟩
theorem HV (hh:1≤H∧H≤8) (hw:1≤W∧W≤8):Pu (Be [bD H W f,Eh H W p q] h) h (bD H W (sw f p q)):=by
 change Wp (Ao 4 (LG Eg D8) [bD H W f,Eh H W p q] h) _
 refine Eq.mpr (Ba) ?_
 simp
 refine (X5 hh hw).wp fun h1 s1=>?_
 simp [Eh]
 refine Pu.wp (Ky (src:=[]) (xs:=List.range H) (φ:=fun i=>.tup [.int ((i:Nat):Int),AL W (f i)]) (fun i=>AL W fun j=>Bool.xor (f i j) (Bool.xor (p i) (q j))) (fun i=>[some (.int ((i:Nat):Int)),some (AL W (f i)),some (AY W q),some (AY H p)]) ?_ (fun x _=>rfl) (fun x hx h' s'=>?_) (sz hh.2)) fun h2 s2=>?_
 ·simp [Cb,bD,Jp,Sm.refl,A3]
 ·simp [Pu,LP (show x<H by simpa using hx)]
  exact X6 hw.2
 ·exact ⟨rfl,s1.trans s2⟩
end
theorem Pn {b n:Nat} {h:HD} {Q:D→HD→Prop} (hx:BoxAt h b) (hn:n≤8) (q:∀p h',BoxAt h' b→Smx b h h'→Q (AY n p) h'):Wp (CS [.loc b,.int (n:Nat)] h) Q:=by
 change Wp (Ao 2 (Lr AS) [.loc b,.int (n:Nat)] h) _
 refine Eq.mpr (Ba) ?_
 simp
 refine ND (src:=[]) (xs:=List.range n) (fun i=>.int ((i:Nat):Int)) (fun h'=>BoxAt h' b∧Smx b h h') (fun _ _=>True) (fun i d=>d=.int ((i:Nat):Int)) (fun i=>[some (.int ((i:Nat):Int)),some (.loc b)]) ?_ (fun _ _=>Eu) (fun h c x=>⟨x.1.new,x.2.new⟩) List.nodup_range (sz hn) (fun x _=>rfl) ?_ ?_
 ·simp [DH (show n≤1000 by omega),hx,Smx.refl]
 ·intro x hx h i
  simp
  refine HM i.1 (by decide) (by decide) fun d h1 d0 d1 x1 s1=>?_
  simp [x1,i.2.trans s1]
 ·intro h' g e x1 hr _
  have:((List.range n).filter g).map e=((List.range n).filter g).map fun i=>D.int ((i:Nat):Int):=F8 fun x hx=>hr x (qbA.mp hx).1 (qbA.mp hx).2
  rw [this]
  exact q g h' x1.1 x1.2
theorem Po {n:Nat} (h:n≤1000):n≤sizeLine:=by unfold sizeLine;omega
theorem X7 {a n:Nat} {h:HD} (ha:a≤1000) (hn:n≤1000):Gy [.int (a:Int),.int (n:Int)] h=.ok ((List.range (n - a)).map fun k=>D.int ((a:Int)+((k:Nat):Int)),[]) h:=by
 have:((-(2^62):Int)≤(a:Int)∧(a:Int)<2^62)∧(-(2^62):Int)≤(n:Int)∧(n:Int)<2^62:=by omega
 unfold Gy
 simp only
 rw [if_pos this]
 have e:((n:Int) - (a:Int)).toNat=n - a:=by omega
 rw [e]
 simp [EZ]
abbrev B8:=Nat×Nat×Nat×Nat
def Bv (x:B8):D:=.tup [.int ((x.1:Nat):Int),.int ((x.2.1:Nat):Int),.int ((x.2.2.1:Nat):Int),.int ((x.2.2.2:Nat):Int)]
def BH (f:Nat→Nat→Bool) (x:B8):Bool:=Bool.xor (Bool.xor (f x.1 x.2.2.1) (f x.1 x.2.2.2)) (Bool.xor (f x.2.1 x.2.2.1) (f x.2.1 x.2.2.2))
def Pp (H W:Nat) (x:B8):Prop:=x.1<x.2.1∧x.2.1<H∧x.2.2.1<x.2.2.2∧x.2.2.2<W
def AF (H W:Nat):List B8:=(List.range H).flatMap fun a=>(List.range (H - (a+1))).flatMap fun b=>(List.range W).flatMap fun c=>(List.range (W - (c+1))).map fun e=>(a,a+1+b,c,c+1+e)
theorem JJ {H W:Nat} {x:B8} (h:x∈AF H W):Pp H W x:=by
 unfold AF at h
 simp only [List.mem_flatMap,qaU,qaX] at h
 obtain ⟨a,ha,b,hb,c,hc,e,he,rfl⟩:=h
 exact ⟨by simp only;omega,by simp only;omega,by simp only;omega,by simp only;omega⟩
theorem Pq {α β:Type} {F:α→List β} {k:Nat}:∀{l:List α},(∀x∈l,(F x).length≤k)→(l.flatMap F).length≤l.length*k
 |[],_=>by simp
 |x::l,h=>by
  rw [List.flatMap_cons,DR,GZ,Nat.succ_mul]
  have:=h x AI
  have:=Pq (l:=l) fun y hy=>h y (AU _ hy)
  omega
def Zcc (n:Nat):Nat:=n*(n - 1) / 2
theorem Pr {H W:Nat} (hh:H≤8) (hw:W≤8):(AF H W).length≤1000:=by
 have key:∀H<9,∀W<9,(AF H W).length≤1000:=by decide +kernel
 exact key H (by omega) W (by omega)
theorem Pt {a n:Nat} {h:HD} (ha:a≤1000) (hn:n≤1000):Gy [.int (a:Int),.int (n:Int)] h=.ok ((List.range (n - a)).map fun k=>D.int ((a+k:Nat):Int),[]) h:=X7 ha hn
section
variable {H W:Nat} {h:HD} {f:Nat→Nat→Bool}
theorem Pv {Q:D→HD→Prop} (hh:1≤H∧H≤8) (hw:1≤W∧W≤8) (q:∀l h',Sm h h'→h'[l]?=some (.lst ((AF H W).map Bv))→Q (.loc l) h'):Wp (BX [bD H W f] h) Q:=by
 change Wp (Ao 3 Lj [bD H W f] h) _
 refine Eq.mpr Ba ?_
 simp [HQ,EE hh.1,HU]
 have hl:=Pr hh.2 hw.2
 have em:(List.range H).flatMap (fun a=>(List.range (H - (a+1))).flatMap fun b=>(List.range W).flatMap fun c=>(List.range (W - (c+1))).map fun e=>Bv (a,a+1+b,c,c+1+e))=(AF H W).map Bv:=by
  unfold AF
  simp only [List.map_flatMap,Cq]
  rfl
 refine Vv (src:=[]) (xs:=List.range H) (φ:=fun a=>.int ((a:Nat):Int)) (fun _=>true) (fun a=>(List.range (H - (a+1))).flatMap fun b=>(List.range W).flatMap fun c=>(List.range (W - (c+1))).map fun e=>Bv (a,a+1+b,c,c+1+e)) (fun a=>[some (.int ((a:Nat):Int)),none,none,none,some (.int (H:Nat)),some (.int (W:Nat))]) ?_ (fun x _=>rfl) (fun x _ h' s'=>(.ok:Pu (.ok true h') h' true)) (fun a ha _ h1 acc s1 z1=>?_) ?_ fun l h' s' e'=>?_
 ·simp [Cb,DH (show H≤1000 by omega),Sm.refl,A3]
 ·have ha:=qaX.mp ha
  have:=K3 (t:=Bm) (src:=[]) (xs:=List.range (H - (a+1))) (φ:=fun b=>.int ((a+1+b:Nat):Int)) (it:=E1 (Ab (Ag A2 (Aa 0) (mC (.int 1))) (Ab (Aa 4) (Ad)))) (sg:=AE 1) (e:=Dr (BQ (Ab (Aa 5) (Ad))) (AE 2) (Bm) (Dr (E1 (Ab (Ag A2 (Aa 2) (mC (.int 1))) (Ab (Aa 5) (Ad)))) (AE 3) (Bm) (D5 (B1 (Ab (Aa 0) (Ab (Aa 1) (Ab (Aa 2) (Ab (Aa 3) (Ad))))))))) (acc:=acc) (ρ:=[some (.int ((a:Nat):Int)),none,none,none,some (.int (H:Nat)),some (.int (W:Nat))]) (h:=h1)
   (fun _=>true) (fun b=>(List.range W).flatMap fun c=>(List.range (W - (c+1))).map fun e=>Bv (a,a+1+b,c,c+1+e)) (fun b=>[some (.int ((a:Nat):Int)),some (.int ((a+1+b:Nat):Int)),none,none,some (.int (H:Nat)),some (.int (W:Nat))]) ?_ (fun x _=>rfl) (fun x _ h' s'=>(.ok:Pu (.ok true h') h' true)) (fun b hb _ h2 acc2 s2 z2=>?_) (by rw [DI];exact z1)
  ·rwa [DI] at this
  ·simp [Cb]
   rw [show (a:Int)+1=((a+1:Nat):Int) by omega,Pt (by omega) (by omega)]
   simp [Sm.refl,A3]
  ·have:=K3 (t:=Bm) (src:=[]) (xs:=List.range W) (φ:=fun c=>.int ((c:Nat):Int)) (it:=BQ (Ab (Aa 5) (Ad))) (sg:=AE 2) (e:=Dr (E1 (Ab (Ag A2 (Aa 2) (mC (.int 1))) (Ab (Aa 5) (Ad)))) (AE 3) (Bm) (D5 (B1 (Ab (Aa 0) (Ab (Aa 1) (Ab (Aa 2) (Ab (Aa 3) (Ad)))))))) (acc:=acc2) (ρ:=[some (.int ((a:Nat):Int)),some (.int ((a+1+b:Nat):Int)),none,none,some (.int (H:Nat)),some (.int (W:Nat))]) (h:=h2)
    (fun _=>true) (fun c=>(List.range (W - (c+1))).map fun e=>Bv (a,a+1+b,c,c+1+e)) (fun c=>[some (.int ((a:Nat):Int)),some (.int ((a+1+b:Nat):Int)),some (.int ((c:Nat):Int)),none,some (.int (H:Nat)),some (.int (W:Nat))]) ?_ (fun x _=>rfl) (fun x _ h' s'=>(.ok:Pu (.ok true h') h' true)) (fun c hc _ h3 acc3 s3 z3=>?_) (by rw [DI];exact z2)
   ·rwa [DI] at this
   ·simp [Cb,DH (show W≤1000 by omega),Sm.refl,A3]
   ·have hc:=qaX.mp hc
    refine Vu (src:=[]) (xs:=List.range (W - (c+1))) (φ:=fun e=>.int ((c+1+e:Nat):Int)) _ (fun e=>[some (.int ((a:Nat):Int)),some (.int ((a+1+b:Nat):Int)),some (.int ((c:Nat):Int)),some (.int ((c+1+e:Nat):Int)),some (.int (H:Nat)),some (.int (W:Nat))]) ?_ (fun x _=>rfl) (fun e _ h4 s4=>?_) z3
    ·simp [Cb]
     rw [show (c:Int)+1=((c+1:Nat):Int) by omega,Pt (by omega) (by omega)]
     simp [Sm.refl,A3]
    ·simp [Pu,Bv,Sm.refl]
 ·rw [DI,em,Cp]
  exact Po hl
 ·rw [DI,em] at e'
  exact q l h' s' e'
theorem LQ {W:Nat} {r:Nat→Bool} {c:Nat} {h:HD} (hc:c<W):Aq (AL W r) (.int (c:Nat)) h=.ok (lit (r c)) h:=Kw hc
theorem X8 {a b c d:Bool}:(((if a then (1:Int) else 0)+(if b then 1 else 0)+(if c then 1 else 0)+(if d then 1 else 0)) % 2==1)=Bool.xor (Bool.xor a b) (Bool.xor c d):=by cases a<;>cases b<;>cases c<;>cases d<;>rfl
@[simp] theorem Zcd {ρ:Ai} {a b c d:D} {i j k l:Nat}:GL [i,j,k,l] (.tup [a,b,c,d]) ρ=some ((((ρ.set i (some a)).set j (some b)).set k (some c)).set l (some d)):=id rfl
theorem LR {x:B8} (ok:Pp H W x):Pu (BS [bD H W f,Bv x] h) h (.bl (BH f x)):=by
 obtain ⟨a,b,c,e⟩:=x
 obtain ⟨h1,h2,h3,h4⟩:=ok
 simp only at h1 h2 h3 h4
 change Wp (Ao 6 Lk [bD H W f,Bv (a,b,c,e)] h) _
 refine Eq.mpr Ba ?_
 unfold Bv
 simp [LN (show a<H by omega),LN h2,LQ (show c<W by omega),LQ h4]
 refine Bd (show A2 (lit (f a c)) (lit (f a e)) h=.ok (.int ((if f a c then 1 else 0)+(if f a e then 1 else 0))) h from rfl) ?_
 rw [Cv]
 refine Bd (show A2 (.int ((if f a c then 1 else 0)+(if f a e then 1 else 0))) (lit (f b c)) h=.ok (.int ((if f a c then 1 else 0)+(if f a e then 1 else 0)+(if f b c then 1 else 0))) h from rfl) ?_
 rw [Cv]
 refine Bd (show A2 (.int ((if f a c then 1 else 0)+(if f a e then 1 else 0)+(if f b c then 1 else 0))) (lit (f b e)) h=.ok (.int ((if f a c then 1 else 0)+(if f a e then 1 else 0)+(if f b c then 1 else 0)+(if f b e then 1 else 0))) h from rfl) ?_
 rw [Cv]
 refine Bd (GI (by decide)) ?_
 rw [Cv]
 refine Bd UZ ?_
 rw [Cv,X8]
 exact ⟨rfl,.refl _⟩
end
section
variable {H W:Nat} {h:HD} {f:Nat→Nat→Bool}
theorem Pw {Q:D→HD→Prop} (hh:1≤H∧H≤8) (hw:1≤W∧W≤8) (q:∀l h',Sm h h'→h'[l]?=some (.lst (((AF H W).filter (BH f)).map Bv))→Q (.loc l) h'):Wp (CU [bD H W f] h) Q:=by
 change Wp (Ao 1 (LC AG BX BS) [bD H W f] h) _
 refine Eq.mpr Ba ?_
 simp
 refine (GR hh hw).wp fun h1 s1=>?_
 obtain ⟨d,h2,e2,l,rfl,s2,f2⟩:=(Pv (f:=f) (h:=h1) (Q:=fun d h'=>∃l,d=.loc l∧Sm h1 h'∧h'[l]?=some (.lst ((AF H W).map Bv))) hh hw fun l h' s e=>⟨l,rfl,s,e⟩).ex
 refine Je (src:=[(l,(AF H W).map Bv)]) (xs:=AF H W) (φ:=Bv) (BH f) Bv (fun x=>[some (Bv x),some (bD H W f)]) ?_ (Po (Pr hh.2 hw.2)) (fun x _=>rfl) (fun x hx h' s'=>?_) (fun x hx _ h' s'=>?_) fun l3 h3 s3 e3=>?_
 ·simp
  refine Bd e2 ?_
  rw [Cv,Fq f2]
  exact ⟨rfl,s2,fun h' s'=>Fh (s' _ _ f2)⟩
 ·simp [Pu]
  refine (LR (JJ hx)).wp fun h4 s4=>?_
  simp [s4]
 ·simp [Pu,Sm.refl]
 ·exact q l3 h3 (s1.trans s3) e3
end
theorem X9 {f:Nat→Nat→Bool} {p q:Nat→Bool} {x:B8}:BH (sw f p q) x=BH f x:=by
 unfold BH sw
 generalize f x.1 x.2.2.1=a1
 generalize f x.1 x.2.2.2=a2
 generalize f x.2.1 x.2.2.1=a3
 generalize f x.2.1 x.2.2.2=a4
 generalize p x.1=a5
 generalize p x.2.1=a6
 generalize q x.2.2.1=a7
 generalize q x.2.2.2=a8
 revert a1 a2 a3 a4 a5 a6 a7 a8
 decide
section
variable {H W H' W':Nat} {f f':Nat→Nat→Bool} {h:HD} {r:Nat→Bool}
theorem Px (hj:1≤W):Aq (AL W r) (.int 0) h=.ok (lit (r 0)) h:=Ht (by omega)
theorem LU {a b:Bool}:Bb (lit a) (lit b) h=.ok (.bl (Bool.xor a b)) h:=by cases a<;>cases b<;>rfl
theorem Yb {a b:Bool}:Bb (.bl a) (.bl b) h=.ok (.bl (Bool.xor a b)) h:=by cases a<;>cases b<;>rfl
theorem Pz (hh:1≤H∧H≤8) (hw:1≤W∧W≤8) (hh':1≤H'∧H'≤8) (hw':1≤W'∧W'≤8):Pu (BY [bD H W f,bD H' W' f'] h) h (.bl (decide (H=H')&&decide (W=W'))):=by
 change Wp (Ao 2 (LA AG) [bD H W f,bD H' W' f'] h) _
 refine Eq.mpr (Ba) ?_
 simp
 refine (GR hh hw).wp fun h1 s1=>?_
 refine (GR hh' hw').wp fun h2 s2=>?_
 simp [HQ]
 by_cases e:H=H'
 ·subst e
  simp [EE hh.1,HU,s1.trans s2]
  rw [qaI]
  simp
  omega
 ·have:((H:Int)==(H':Int))=false:=by simpa using fun z=>e (by omega)
  simp [this,e,s1.trans s2]
def F4 (f f':Nat→Nat→Bool):Nat→Bool:=fun j=>Bool.xor (f 0 j) (f' 0 j)
def EF (f f':Nat→Nat→Bool):Nat→Bool:=fun i=>Bool.xor (Bool.xor (f i 0) (f' i 0)) (Bool.xor (f 0 0) (f' 0 0))
def GS (H W:Nat) (f f':Nat→Nat→Bool) (b:Bool):D:=if b then Eh H W (EF f f') (F4 f f') else .non
theorem Yc {b:Bool} (hh:1≤H∧H≤8) (hw:1≤W∧W≤8) (hb:∀h,Bb (bD H W (sw f (EF f f') (F4 f f'))) (bD H W f') h=.ok (.bl (!b)) h):Pu (BG [bD H W f,bD H W f'] h) h (GS H W f f' b):=by
 change Wp (Ao 5 (LH BY Be) [bD H W f,bD H W f'] h) _
 refine Eq.mpr (Ba) ?_
 simp [-AD]
 refine (Pz hh hw hh hw).wp fun h1 s1=>?_
 simp [-AD]
 refine Eq.mpr (AD) ?_
 refine Eq.mpr (B5) ?_
 refine Eq.mpr (Ho) ?_
 refine Pu.wp (Hq (src:=[]) (xs:=List.range W) (φ:=fun j=>.int ((j:Nat):Int)) (F4 f f') (fun j=>.int ((j:Nat):Int)) (fun j=>[some (.int ((j:Nat):Int)),some (bD H W f),some (bD H W f')]) ?_ (sz hw.2) (fun x _=>rfl) (fun x hx h' s'=>?_) (fun x hx _ h' s'=>?_)) fun h2 s2=>?_
 ·simp [EE hh.1,HU]
  refine Bd (DH (by omega)) ?_
  simp [Sm.refl,A3]
 ·have hx':x<W:=by simpa using hx
  simp [Pu,EE hh.1,LQ hx',LU]
  exact ⟨rfl,.refl _⟩
 ·simp [Pu,Sm.refl]
 refine Eq.mpr (AD) ?_
 refine Eq.mpr (B5) ?_
 refine Eq.mpr (Ho) ?_
 simp [-AD,EE hh.1,Px hw.1,LU]
 refine Eq.mpr (AD) ?_
 refine Eq.mpr (B5) ?_
 refine Eq.mpr (Ho) ?_
 refine Pu.wp (Hq (src:=[]) (xs:=List.range H) (φ:=fun j=>.int ((j:Nat):Int)) (EF f f') (fun j=>.int ((j:Nat):Int)) (fun j=>[some (.int ((j:Nat):Int)),some (bD H W f),some (bD H W f'),some (.bl (Bool.xor (f 0 0) (f' 0 0)))]) ?_ (sz hh.2) (fun x _=>rfl) (fun x hx h' s'=>?_) (fun x hx _ h' s'=>?_)) fun h3 s3=>?_
 ·simp [HQ]
  refine Bd (DH (by omega)) ?_
  simp [Sm.refl,A3]
 ·have hx':x<H:=by simpa using hx
  simp only [Pu,TL,Nw,Nv,Nu,TK,LN hx',Px hw.1,Cv,LU,Yb]
  exact ⟨rfl,.refl _⟩
 ·simp [Pu,Sm.refl]
 refine Eq.mpr (AD) ?_
 simp [-AD]
 refine (HV (p:=EF f f') (q:=F4 f f') hh hw).wp fun h4 s4=>?_
 have hb':=hb h4
 rw [hb']
 have S:=((s1.trans s2).trans s3).trans s4
 cases b with
 |false=>simp [GS,S]
 |true=>
  simp [-AD]
  refine Eq.mpr (AD) ?_
  simp [GS,S]
  rfl
end
theorem Yd {d d' r:D} {b:Bool} {h:HD} (h1:∀h,Pu (BG [d,d'] h) h r) (hb:∀h,EX r .non h=.ok (.bl b) h):Pu (CC [d,d'] h) h (.bl b):=by
 change Wp (Ao 2 (LJ BG) [d,d'] h) _
 refine Eq.mpr (Ba) ?_
 simp
 refine (h1 h).wp fun h2 s2=>?_
 simp [hb,s2]
def Co (f:Nat→Nat→Bool):Nat→Nat→Bool:=fun i j=>Bool.xor (f i j) (Bool.xor (Bool.xor (f i 0) (f 0 0)) (f 0 j))
theorem Ye {f:Nat→Nat→Bool} {p q:Nat→Bool}:Co (sw f p q)=Co f:=by
 have key:∀a b c d e g x y:Bool,Bool.xor (Bool.xor a (Bool.xor e x)) (Bool.xor (Bool.xor (Bool.xor b (Bool.xor e y)) (Bool.xor c (Bool.xor g y))) (Bool.xor d (Bool.xor g x)))=Bool.xor a (Bool.xor (Bool.xor b c) d):=by decide
 funext i j
 exact key (f i j) (f i 0) (f 0 0) (f 0 j) (p i) (p 0) (q j) (q 0)
section
variable {H W:Nat} {f:Nat→Nat→Bool} {h:HD}
theorem PB (hh:1≤H∧H≤8) (hw:1≤W∧W≤8):Pu (CV [bD H W f] h) h (bD H W (Co f)):=by
 change Wp (Ao 3 (LI AG Be) [bD H W f] h) _
 refine Eq.mpr (Ba) ?_
 simp [-AD]
 refine (GR hh hw).wp fun h1 s1=>?_
 refine Eq.mpr (AD) ?_
 refine Eq.mpr (B5) ?_
 refine Eq.mpr (Ho) ?_
 refine Pu.wp (Hq (src:=[]) (xs:=List.range W) (φ:=fun j=>.tup [.int ((j:Nat):Int),lit (f 0 j)]) (fun j=>f 0 j) (fun j=>.int ((j:Nat):Int)) (fun j=>[some (.int ((j:Nat):Int)),some (lit (f 0 j))]) ?_ (sz hw.2) (fun x _=>rfl) (fun x hx h' s'=>?_) (fun x hx _ h' s'=>?_)) fun h2 s2=>?_
 ·simp [EE hh.1]
  simp [AL,Jp,Sm.refl,A3]
 ·simp [Pu]
  cases f 0 x<;>simp [lit,Sm.refl]
 ·simp [Pu,Sm.refl]
 refine Eq.mpr (AD) ?_
 refine Eq.mpr (B5) ?_
 refine Eq.mpr (Ho) ?_
 refine Pu.wp (Hq (src:=[]) (xs:=List.range H) (φ:=fun i=>.tup [.int ((i:Nat):Int),AL W (f i)]) (fun i=>Bool.xor (f i 0) (f 0 0)) (fun j=>.int ((j:Nat):Int)) (fun i=>[some (.int ((i:Nat):Int)),some (AL W (f i)),some (bD H W f)]) ?_ (sz hh.2) (fun x _=>rfl) (fun x hx h' s'=>?_) (fun x hx _ h' s'=>?_)) fun h3 s3=>?_
 ·simp [bD,Jp,Sm.refl,A3]
 ·simp [Pu,EE hh.1]
  unfold AL
  refine Bd (Ht (by omega)) ?_
  simp
  refine Bd (Ht (by omega)) ?_
  simp
  cases f x 0<;>cases f 0 0<;>simp [lit,Sm.refl]
 ·simp [Pu,Sm.refl]
 refine Eq.mpr (AD) ?_
 simp
 refine (HV (p:=fun i=>Bool.xor (f i 0) (f 0 0)) (q:=fun j=>f 0 j) hh hw).wp fun h4 s4=>?_
 exact ⟨rfl,((s1.trans s2).trans s3).trans s4⟩
theorem Yg {i:Int} {n:Nat} (hi:i.natAbs<18446744073709551616) (hn:n≤1000):IU (.int i) (.int (n:Nat)) h=.ok (.int (i*2^n)) h:=by
 have:Gg i (n:Int):=⟨by omega,by omega,by omega⟩
 simp only [IU,LS.intD]
 rw [if_pos this]
 simp
theorem Yh (hh:1≤H∧H≤8) (hw:1≤W∧W≤8):Pu (DM [bD H W f] h) h (.int (2^(H+W - 1))):=by
 change Wp (Ao 1 (LB AG) [bD H W f] h) _
 refine Eq.mpr (Ba) ?_
 simp
 refine (GR hh hw).wp fun h1 s1=>?_
 simp [HQ,EE hh.1,HU]
 rw [show ((H:Int)+(W:Int) - 1)=((H+W - 1:Nat):Int) from by omega]
 refine Bd (Yg (by decide) (by omega)) ?_
 simp [s1]
end
theorem Yi {n k x:Nat} {xs:List Nat} (h:(List.range n).drop k=x::xs):x=k∧k<n∧xs=(List.range n).drop (k+1):=by
 have hk:k<n:=by
  have:=congrArg List.length h
  simp at this
  omega
 rw [Ii (by simpa using hk)] at h
 simp at h
 exact ⟨h.1.symm,hk,h.2.symm⟩
theorem Yj {n k:Nat} (hk:k≤n) (h:(List.range n).drop k=[]):k=n:=by
 have:=congrArg List.length h
 simp at this
 omega
theorem LV {n:Nat} (hn:n≤1000):n≤sizeLine:=by unfold sizeLine;omega
theorem Yk {n:Nat} {R:Nat→Bool}:AY (n+1) (ext n R)=.tup (((List.range n).filter R).map (fun i=>D.int ((i:Nat):Int))++[.int ((n:Nat):Int)]):=by
 unfold AY
 rw [List.range_succ,List.filter_append]
 have e1:(List.range n).filter (ext n R)=(List.range n).filter R:=Ik fun i hi=>by
  have:i<n:=by simpa using hi
  simp [ext,show i≠n by omega]
 have e2:[n].filter (ext n R)=[n]:=by simp [ext]
 rw [e1,e2]
 simp
theorem Yl {n:Nat} {R:Nat→Bool} (h:R n=false):AY (n+1) R=AY n R:=by
 unfold AY
 rw [List.range_succ,List.filter_append]
 simp [h]
def Ym (n:Nat) (h:HD) (xs:List Nat) (ρ:Ai) (h':HD):Prop:=∃(j l:Nat) (y:Option D),xs=(List.range n).drop j∧j≤n∧ρ=[some (.int (n:Nat)),some (.loc l),y]∧Sm h h'∧h'[l]?=some (.lst ((LL 0 j).map (AY j)))
theorem Yn {n:Nat} {h:HD} {Q:D→HD→Prop} (hn:n≤8) (q:∀l h',Sm h h'→h'[l]?=some (.lst ((LL 0 n).map (AY n)))→Q (.loc l) h'):Wp (CB [.int (n:Nat)] h) Q:=by
 change Wp (Ao 3 Ln [.int (n:Nat)] h) _
 refine Eq.mpr Ba ?_
 simp [-AD]
 refine Cw (by simp) fun l h1 s1 e1 _ _=>?_
 refine Eq.mpr AD ?_
 refine Eq.mpr B5 ?_
 have pw:∀k,k≤8→(LL 0 k).length≤256:=fun k hk=>by
  rw [Hx]
  exact F6 (n:=2) (by decide) hk
 refine Do (src:=[]) (xs:=List.range n) (fun i=>.int ((i:Nat):Int)) (Ym n h) ?_ (fun ys ρ h' _=>Eu) ?_ ?_
 ·simp [DH (show n≤1000 by omega)]
  exact ⟨0,l,_,by simp,by omega,rfl,s1,e1⟩
 ·rintro x xs ρ h2 ⟨j,l2,y,ex,hj,rfl,s2,e2⟩
  obtain ⟨rfl,hk',rfl⟩:=Yi ex.symm
  refine ⟨_,rfl,?_⟩
  simp
  refine Je (src:=[(l2,(LL 0 x).map (AY x))]) (xs:=LL 0 x) (φ:=AY x) (fun _=>true) (fun R=>AY (x+1) (ext x R)) (fun R=>[some (AY x R),some (.int ((x:Nat):Int))]) ?_ (LV (by have:=pw x (by omega);omega)) (fun R _=>rfl) (fun R _ h2 s2=>(.ok:Pu (.ok true h2) h2 true)) (fun R hR _ h3 s3=>?_) fun l3 h3 s3 e3=>?_
  ·simp [Fq e2]
   exact ⟨.refl _,fun h2 s2=>Fh (s2 _ _ e2)⟩
  ·simp [Pu]
   rw [Yk]
   unfold AY
   rw [XW (by
    have:=JR R (List.range x)
    simp at this ⊢
    omega)]
   exact ⟨rfl,.refl _⟩
  ·rw [DI] at e3
   refine Bd (U4 (s3 _ _ e2) e3) ?_
   have:=pw x (by omega)
   refine Cw (LV (by simp;omega)) fun l4 h4 s4 e4 _ _=>?_
   simp only [Cy]
   refine ⟨x+1,l4,_,rfl,by omega,rfl,s2.trans (s3.trans s4),?_⟩
   rw [e4,LL,Ip,Cq]
   have ea:(LL 0 x).map (AY x)=(LL 0 x).map (AY (x+1)):=F8 fun R hR=>by rw [Yl (n:=x) (KJ hR _ (by omega))]
   rw [ea,Nat.zero_add]
   rfl
 ·rintro ρ h2 ⟨j,l2,y,ex,hj,rfl,s2,e2⟩
  have:j=n:=Yj hj ex.symm
  subst this
  simp
  exact q _ _ s2 e2
def tt (xs:List (List Int)):D:=.tup (xs.map fun r=>.tup (r.map fun i=>.int i))
theorem PC:∀xs ys:List Int,PyData.eqvAll (xs.map fun i=>.int i) (ys.map fun i=>.int i)=decide (xs=ys)
 |[],[]=>rfl
 |[],_::_=>rfl
 |_::_,[]=>rfl
 |x::xs,y::ys=>by
  rw [Bj,Bj,PyData.eqvAll,PC xs ys,qaI]
  simp [PyData.eqv]
theorem JK:∀xs ys:List (List Int),PyData.eqvAll (xs.map fun r=>.tuple (r.map fun i=>.int i)) (ys.map fun r=>.tuple (r.map fun i=>.int i))=decide (xs=ys)
 |[],[]=>rfl
 |[],_::_=>rfl
 |_::_,[]=>rfl
 |x::xs,y::ys=>by
  rw [Bj,Bj,PyData.eqvAll,JK xs ys,PyData.eqv,PC,qaI]
  simp
theorem Yo {xs ys:List (List Int)} {h:HD}:Bz (tt xs) (tt ys) h=.ok (.bl (decide (xs=ys))) h:=by
 have py:∀zs:List (List Int),Py (tt zs) (.tuple (zs.map fun r=>.tuple (r.map fun i=>.int i))):=fun zs=>(Hu (n:=1) fun i _=>Hu (n:=0) fun j _=>KF).py (by decide)
 have e:=TR (h:=h) (py xs) (py ys)
 rw [PyData.eqv,JK] at e
 exact e
theorem Yp {xs ys:List (List Int)} {h:HD}:Bb (tt xs) (tt ys) h=.ok (.bl (!decide (xs=ys))) h:=by
 have py:∀zs:List (List Int),Py (tt zs) (.tuple (zs.map fun r=>.tuple (r.map fun i=>.int i))):=fun zs=>(Hu (n:=1) fun i _=>Hu (n:=0) fun j _=>KF).py (by decide)
 have e:=TU (h:=h) (py xs) (py ys)
 rw [PyData.eqv,JK] at e
 exact e
def LW (b:Bool):Int:=if b then 1 else 0
def Ei (H W:Nat) (f:Nat→Nat→Bool):List (List Int):=(List.range H).map fun i=>(List.range W).map fun j=>LW (f i j)
def EG (H W:Nat) (f f':Nat→Nat→Bool):Bool:=decide (∀i,i<H→∀j,j<W→f i j=f' i j)
theorem map_rng {α:Type} {n:Nat} {a b:Nat→α}:(List.range n).map a=(List.range n).map b↔∀i,i<n→a i=b i:=by
 rw [List.map_inj_left]
 exact ⟨fun h i hi=>h i (qaX.mpr hi),fun h i hi=>h i (qaX.mp hi)⟩
section
variable {H W:Nat} {f f' g g':Nat→Nat→Bool} {h:HD} {p q p' q':Nat→Bool}
theorem eqB_iff:EG H W f f'=true↔∀i,i<H→∀j,j<W→f i j=f' i j:=by unfold EG;exact decide_eq_true_iff
theorem litI_inj {a b:Bool}:LW a=LW b↔a=b:=by cases a<;>cases b<;>decide
theorem PD:Ei H W f=Ei H W f'↔∀i,i<H→∀j,j<W→f i j=f' i j:=by
 unfold Ei
 rw [map_rng]
 constructor
 ·intro e i hi j hj
  have:=map_rng.mp (e i hi) j hj
  exact litI_inj.mp this
 ·intro e i hi
  exact map_rng.mpr fun j hj=>litI_inj.mpr (e i hi j hj)
theorem PF:decide (Ei H W f=Ei H W f')=EG H W f f':=by
 rw [qaI,decide_eq_true_iff,eqB_iff]
 exact PD
theorem JL:bD H W f=tt (Ei H W f):=by
 unfold bD tt Ei AL
 rw [Cq]
 congr 1
 refine F8 fun i _=>?_
 show D.tup _=D.tup _
 rw [Cq]
 rfl
theorem Yq:Bz (bD H W f) (bD H W f') h=.ok (.bl (EG H W f f')) h:=by
 rw [JL,JL,Yo,PF]
theorem PH:Bb (bD H W f) (bD H W f') h=.ok (.bl (!EG H W f f')) h:=by
 rw [JL,JL,Yp,PF]
def al (H W:Nat) (f f':Nat→Nat→Bool):Bool:=EG H W (Co f) (Co f')
theorem Yr (e:∀i,i<H→∀j,j<W→(f i j=f' i j↔g i j=g' i j)):EG H W f f'=EG H W g g':=by
 rw [qaI,eqB_iff,eqB_iff]
 exact ⟨fun z i hi j hj=>(e i hi j hj).mp (z i hi j hj),fun z i hi j hj=>(e i hi j hj).mpr (z i hi j hj)⟩
theorem PJ:EG H W (sw f (EF f f') (F4 f f')) f'=al H W f f':=Yr fun i hi j hj=>by
 unfold sw EF F4 Co
 generalize f i j=a1
 generalize f' i j=a2
 generalize f i 0=a3
 generalize f' i 0=a4
 generalize f 0 0=a5
 generalize f' 0 0=a6
 generalize f 0 j=a7
 generalize f' 0 j=a8
 revert a1 a2 a3 a4 a5 a6 a7 a8
 decide
theorem Ys:al H W f (sw f p q)=true:=by
 unfold al
 rw [Ye]
 exact eqB_iff.mpr fun i _ j _=>rfl
theorem Yt {i j:Nat} (i0:0<i) (hi:i<H) (j0:0<j) (hj:j<W):((0,i,0,j):B8)∈AF H W:=by
 unfold AF
 simp only [List.mem_flatMap,qaU,qaX]
 exact ⟨0,by omega,i - 1,by omega,0,by omega,j - 1,by omega,by rw [show 0+1+(i - 1)=i by omega,show 0+1+(j - 1)=j by omega]⟩
theorem PK {x:B8}:BH (Co f) x=BH f x:=X9 (f:=f) (p:=fun i=>Bool.xor (f i 0) (f 0 0)) (q:=fun j=>f 0 j)
theorem PL {j:Nat}:Co f 0 j=false:=by unfold Co;cases f 0 j<;>cases f 0 0<;>rfl
theorem PM {i:Nat}:Co f i 0=false:=by unfold Co;cases f i 0<;>cases f 0 0<;>rfl
theorem PN {i j:Nat}:Co f i j=BH f (0,i,0,j):=by
 unfold Co BH
 simp only
 generalize f i j=a
 generalize f i 0=b
 generalize f 0 0=c
 generalize f 0 j=d
 revert a b c d
 decide
theorem odd_al:(∀x∈AF H W,BH f x=BH f' x)↔al H W f f'=true:=by
 unfold al
 rw [eqB_iff]
 constructor
 ·intro e i hi j hj
  by_cases i0:i=0
  ·subst i0;rw [PL,PL]
  ·by_cases j0:j=0
   ·subst j0;rw [PM,PM]
   ·rw [PN,PN]
    exact e _ (Yt (by omega) hi (by omega) hj)
 ·intro e x hx
  obtain ⟨h1,h2,h3,h4⟩:=JJ hx
  rw [←PK (f:=f),←PK (f:=f')]
  unfold BH
  rw [e _ (by omega) _ (by omega),e _ (by omega) _ (by omega),e _ (by omega) _ (by omega),e _ (by omega) _ (by omega)]
theorem Yu:((AF H W).filter (BH f)=(AF H W).filter (BH f'))↔al H W f f'=true:=by
 rw [←odd_al]
 constructor
 ·intro e x hx
  have m:∀g:B8→Bool,x∈(AF H W).filter g↔g x=true:=fun g=>by
   rw [qbA]
   exact ⟨fun z=>z.2,fun z=>⟨hx,z⟩⟩
  rw [qaI,←m,←m,e]
 ·intro e
  exact Ik e
theorem Yv:EF f f' 0=false:=by unfold EF;cases f 0 0<;>cases f' 0 0<;>rfl
end
def CD (x:B8):List Int:=[((x.1:Nat):Int),((x.2.1:Nat):Int),((x.2.2.1:Nat):Int),((x.2.2.2:Nat):Int)]
theorem Yw {x y:B8} (e:CD x=CD y):x=y:=by
 obtain ⟨a,b,c,d⟩:=x
 obtain ⟨a',b',c',d'⟩:=y
 simp [CD] at e
 obtain ⟨e1,e2,e3,e4⟩:=e
 rw [Int.ofNat.inj e1,Int.ofNat.inj e2,Int.ofNat.inj e3,Int.ofNat.inj e4]
theorem Yx {l k:Nat} {xs ys:List B8} {h:HD} (e1:h[l]?=some (.lst (xs.map Bv))) (e2:h[k]?=some (.lst (ys.map Bv))):Bz (.loc l) (.loc k) h=.ok (.bl (decide (xs=ys))) h:=by
 have py:∀x,PyN 1 (Bv x) (.tuple ((CD x).map fun i=>.int i)):=fun x=>Hu (n:=0) (xs:=CD x) (e:=D.int) (g:=PyData.int) fun _ _=>KF
 have a:∀(j:Nat) (zs:List B8),h[j]?=some (.lst (zs.map Bv))→AB h 8 (.loc j)=some (.list (zs.map fun x=>.tuple ((CD x).map fun i=>.int i))):=fun j zs e=>by
  have:AZ ((zs.map Bv).map (AB h 7))=some (zs.map fun x=>.tuple ((CD x).map fun i=>.int i)):=by
   rw [Cq]
   exact Hr fun x hx'=>GH ((py x).rd 7 (by omega))
  simp only [AB,e,this,Gc]
 have sh:∀zs:List B8,SeqAt.shaped (.list (zs.map fun x=>PyData.tuple ((CD x).map fun i=>.int i)))=true:=fun zs=>by
  unfold SeqAt.shaped
  have l0:(PyData.list (zs.map fun x=>PyData.tuple ((CD x).map fun i=>.int i))).canLay0=true:=by
   rw [PyData.canLay0];exact KB fun x h=>(py x).ly
  have d0:(PyData.list (zs.map fun x=>PyData.tuple ((CD x).map fun i=>.int i))).depth≤1+1:=by
   rw [PyData.depth]
   exact Nat.succ_le_succ (KC fun x h=>(py x).dp)
  rw [l0]
  simp
  omega
 change Ep (.loc l) (.loc k) h=_
 simp only [Ep,Eo,a l xs e1,a k ys e2]
 rw [if_pos ⟨sh xs,sh ys⟩,PyData.eqv]
 have er:=JK (xs.map CD) (ys.map CD)
 rw [Cq,Cq] at er
 have ev:PyData.eqvAll (xs.map fun x=>PyData.tuple ((CD x).map fun i=>.int i)) (ys.map fun x=>PyData.tuple ((CD x).map fun i=>.int i))=decide (xs=ys):=by
  refine Eq.trans er ?_
  rw [qaI,decide_eq_true_iff,decide_eq_true_iff]
  exact ⟨fun z=>(List.map_inj_right fun _ _ e=>Yw e).mp z,fun z=>by rw [z]⟩
 rw [ev]
section
variable {α β γ:Type} [DecidableEq β] [DecidableEq γ]
def CY (acc:List β) (k:β):List β:=if k∈acc then acc else acc++[k]
def nb (ks:List β):List β:=ks.foldl CY []
theorem Yy {ks:List β} {k:β}:nb (ks++[k])=CY (nb ks) k:=by unfold nb;rw [List.foldl_append];rfl
theorem PP:∀{ks acc:List β} {x:β},x∈ks.foldl CY acc↔x∈acc∨x∈ks
 |[],acc,x=>by simp
 |k::ks,acc,x=>by
  rw [G0,PP]
  unfold CY
  split
  ·rename_i hk
   simp only [qa9]
   constructor
   ·rintro (z |z)
    ·exact .inl z
    ·exact .inr (.inr z)
   ·rintro (z |rfl |z)
    ·exact .inl z
    ·exact .inl hk
    ·exact .inr z
  ·simp only [qaL,qaD,qa9,List.not_mem_nil,or_false]
   constructor
   ·rintro ((z |z) |z)
    ·exact .inl z
    ·exact .inr (.inl z)
    ·exact .inr (.inr z)
   ·rintro (z |z |z)
    ·exact .inl (.inl z)
    ·exact .inl (.inr z)
    ·exact .inr z
theorem mem_nb {ks:List β} {x:β}:x∈nb ks↔x∈ks:=by unfold nb;rw [PP];simp
theorem LX {a:α→β} {b:α→γ} (e:∀x y,a x=a y↔b x=b y):∀(L:List α) (c:List β) (d:List γ),c.length=d.length→(∀x,a x∈c↔b x∈d)→((L.map a).foldl CY c).length=((L.map b).foldl CY d).length
 |[],c,d,h,_=>h
 |x::L,c,d,h,m=>by
  rw [Bj,Bj,G0,G0]
  by_cases z:a x∈c
  ·have e1:CY c (a x)=c:=if_pos z
   have e2:CY d (b x)=d:=if_pos ((m x).mp z)
   rw [e1,e2]
   exact LX e L c d h m
  ·have e1:CY c (a x)=c++[a x]:=if_neg z
   have e2:CY d (b x)=d++[b x]:=if_neg fun w=>z ((m x).mpr w)
   rw [e1,e2]
   refine LX e L _ _ (by simp [h]) fun y=>?_
   rw [qaL,qaL,qaD,qaD,m y,e y x]
end
abbrev GT:=(Nat→Bool)×(Nat→Bool)
def PQ (H W:Nat):List GT:=(LL 0 H).flatMap fun p=>(LL 0 W).map fun q=>(p,q)
def GU (H W:Nat) (x:GT):List (List Bool):=(List.range H).map fun i=>(List.range W).map fun j=>Bool.xor (x.1 i) (x.2 j)
def ky (H W:Nat) (f:Nat→Nat→Bool) (x:GT):List (List Int):=Ei H W (sw f x.1 x.2)
theorem Yz {H W:Nat} {x y:GT}:GU H W x=GU H W y↔∀i,i<H→∀j,j<W→Bool.xor (x.1 i) (x.2 j)=Bool.xor (y.1 i) (y.2 j):=by
 unfold GU
 rw [map_rng]
 exact ⟨fun e i hi=>map_rng.mp (e i hi),fun e i hi=>map_rng.mpr (e i hi)⟩
theorem xor_can {a b c:Bool}:Bool.xor a b=Bool.xor a c↔b=c:=by cases a<;>cases b<;>cases c<;>decide
theorem YA {H W:Nat} {f:Nat→Nat→Bool} (x y:GT):ky H W f x=ky H W f y↔GU H W x=GU H W y:=by
 unfold ky
 rw [PD,Yz]
 exact ⟨fun e i hi j hj=>xor_can.mp (e i hi j hj),fun e i hi j hj=>xor_can.mpr (e i hi j hj)⟩
theorem YB:∀H<4,∀W<4,1≤H→1≤W→(nb ((PQ H W).map (GU H W))).length=2^(H+W - 1):=by decide +kernel
theorem PR {H W:Nat} {f:Nat→Nat→Bool} (hh:1≤H∧H≤3) (hw:1≤W∧W≤3):(nb ((PQ H W).map (ky H W f))).length=2^(H+W - 1):=by
 rw [←YB H (by omega) W (by omega) hh.1 hw.1]
 exact LX YA _ [] [] rfl fun x=>by simp
def KV (ks:List (List (List Int))):List (Kyd×D):=(nb ks).map fun k=>(Kyd.b k,D.bl true)
theorem YC {ks:List (List (List Int))} {k:List (List Int)}:Ds (KV ks) (.b k) (.bl true)=KV (ks++[k]):=by
 unfold Ds
 have any:((KV ks).any fun p=>decide (p.1=.b k))=decide (k∈nb ks):=by
  rw [qaI,List.any_eq_true,decide_eq_true_iff]
  unfold KV
  constructor
  ·rintro ⟨p,hp,e⟩
   obtain ⟨k',hk,rfl⟩:=qaU.mp hp
   have:=of_decide_eq_true e
   cases this
   exact hk
  ·intro hk
   exact ⟨_,qaU.mpr ⟨k,hk,rfl⟩,decide_eq_true rfl⟩
 rw [any]
 unfold KV
 rw [Yy]
 unfold CY
 by_cases z:k∈nb ks
 ·rw [if_pos (decide_eq_true z),if_pos z,Cq]
  refine F8 fun k' _=>?_
  show (if Kyd.b k'=.b k then (Kyd.b k',D.bl true) else (Kyd.b k',D.bl true))=_
  split<;>rfl
 ·rw [if_neg (by simpa using z),if_neg z,Ip]
  rfl
theorem YD {ks:List (List (List Int))}:LS.allB (KV ks)=true:=by
 unfold LS.allB KV
 rw [qaS]
 intro p hp
 obtain ⟨k,_,rfl⟩:=qaU.mp hp
 rfl
theorem PU:∀{ks c:List (List (List Int))},(ks.foldl CY c).length≤c.length+ks.length
 |[],c=>by simp
 |k::ks,c=>by
  rw [G0]
  refine BU PU ?_
  unfold CY
  split<;>simp<;>omega
theorem YE {ks:List (List (List Int))}:(KV ks).length≤ks.length:=by
 unfold KV nb
 rw [Cp]
 have:=PU (ks:=ks) (c:=[])
 simpa using this
theorem PV {α:Type} {e:α→Int}:∀{xs:List α},E5 (xs.map fun x=>D.int (e x))=some (xs.map e)
 |[]=>rfl
 |x::xs=>by rw [Bj,E5,PV];rfl
theorem PX {α:Type} {e:α→List D} {g:α→List Int} (he:∀x,E5 (e x)=some (g x)):∀{xs:List α},GO (xs.map fun x=>D.tup (e x))=some (xs.map g)
 |[]=>rfl
 |x::xs=>by rw [Bj,GO,he x,PX he];rfl
theorem PY {H W:Nat} {f:Nat→Nat→Bool}:HI (bD H W f)=some (Ei H W f):=PX fun i=>PV
theorem YF {H W:Nat} {f:Nat→Nat→Bool}:kD (.b (Ei H W f))=bD H W f:=(O1 PY).symm
section
variable {H W:Nat} {f f':Nat→Nat→Bool} {h:HD} {p q:Nat→Bool}
theorem PZ (hh:1≤H∧H≤8) (hw:1≤W∧W≤8):Pu (BG [bD H W f,bD H W f'] h) h (GS H W f f' (al H W f f')):=
 Yc hh hw fun h=>by rw [PH,PJ]
theorem P0 {b:Bool}:EX (GS H W f f' b) .non h=.ok (.bl b) h:=by
 cases b<;>rfl
theorem P3 (hh:1≤H∧H≤8) (hw:1≤W∧W≤8):Pu (CC [bD H W f,bD H W f'] h) h (.bl (al H W f f')):=
 Yd (fun h=>PZ hh hw) fun h=>P0
inductive P4 (H W:Nat) (f f':Nat→Nat→Bool) (l:Nat) (h:HD) (xs:List B8) (ρ:Ai) (h':HD):Prop where
 |mk (dn:List B8) (y:Option D) (ex:dn++xs=AF H W) (er:ρ=[some (bD H W f),some (bD H W f'),y]) (s:Sm h h') (e:h'[l]?=some (.lst ((AF H W).map Bv))) (o:∀x∈dn,BH f x=BH f' x):P4 H W f f' l h xs ρ h'
theorem YG {Q:D→HD→Prop} (hh:1≤H∧H≤8) (hw:1≤W∧W≤8) (q:∀d h',Sm h h'→(∀h,Gu d .non h=.ok (.bl (al H W f f')) h)→Q d h'):Wp (DN [bD H W f,bD H W f'] h) Q:=by
 change Wp (Ao 3 (LF BY BX BS) [bD H W f,bD H W f'] h) _
 refine Eq.mpr Ba ?_
 simp [-AD]
 refine (Pz hh hw hh hw).wp fun h1 s1=>?_
 simp [-AD]
 obtain ⟨d,h2,e2,l,rfl,s2,f2⟩:=(Pv (f:=f) (h:=h1) (Q:=fun d h'=>∃l,d=.loc l∧Sm h1 h'∧h'[l]?=some (.lst ((AF H W).map Bv))) hh hw fun l h' s e=>⟨l,rfl,s,e⟩).ex
 refine Eq.mpr AD ?_
 refine Eq.mpr B5 ?_
 refine Do (src:=[(l,(AF H W).map Bv)]) (xs:=AF H W) Bv (P4 H W f f' l h) ?_ (fun ys ρ h' ⟨_,_,_,_,_,e,_⟩=>Fh e) ?_ ?_
 ·simp
  refine Bd e2 ?_
  rw [Cv,Fq f2]
  exact ⟨rfl,[],_,rfl,rfl,s1.trans s2,f2,fun x hx=>nomatch hx⟩
 ·rintro x xs ρ h3 ⟨dn,y,ex,rfl,s3,e3,o⟩
  refine ⟨_,rfl,?_⟩
  have hx:x∈AF H W:=by rw [←ex];simp
  simp
  refine (LR (JJ hx)).wp fun h4 s4=>?_
  refine (LR (JJ hx)).wp fun h5 s5=>?_
  simp
  by_cases z:BH f x=BH f' x
  ·simp [z,Cy]
   exact ⟨dn++[x],_,by simpa using ex,rfl,(s3.trans s4).trans s5,(s4.trans s5) _ _ e3,fun y hy=>by
    rcases qaL.mp hy with w |w
    ·exact o y w
    ·rw [qaD] at w;subst w;exact z⟩
  ·have na:al H W f f'=false:=by
    rw [Bool.eq_false_iff]
    exact fun w=>z (odd_al.mpr w x hx)
   simp [z,Cy]
   exact q _ _ ((s3.trans s4).trans s5) fun h=>by rw [na];rfl
 ·rintro ρ h3 ⟨dn,y,ex,rfl,s3,e3,o⟩
  have ha:al H W f f'=true:=odd_al.mp fun x hx=>o x (by rw [EJ] at ex;rw [ex];exact hx)
  simp
  exact q _ _ s3 fun h=>by rw [ha];rfl
end
@[irreducible] noncomputable def HW:MS:=AN 2 (Af DL (Ab (Aa 0) (Ab (Aa 1) (Ad))))
@[irreducible] noncomputable def HX:MS:=EY 3 4 (Ab (Ag A2 (mC (.int 1)) (Af AS (Ab (Aa 2) (Ab (mC (.int 8)) (Ad))))) (Ab (Ag A2 (mC (.int 1)) (Af AS (Ab (Aa 2) (Ab (mC (.int 8)) (Ad))))) (Ad)))
@[irreducible] noncomputable def HY:MS:=EY 5 6 (Ab (Af CT (Ab (Aa 2) (Ab (Aa 3) (Ab (Aa 4) (Ad))))) (Ab (Af CT (Ab (Aa 2) (Ab (Aa 3) (Ab (Aa 4) (Ad))))) (Ad)))
@[irreducible] noncomputable def HZ:MS:=AN 7 (Cu (Ab (Aa 5) (Ab (Aa 6) (Ad))))
@[irreducible] noncomputable def H0:MS:=BD (BQ (Ab (mC (.int 3)) (Ad))) (AE 8) (Cg (Fj (Aa 7) (Af Be (Ab (Ag Aq (Cu (Ab (Aa 5) (Ab (Aa 6) (Ad)))) (Ag D0 (Aa 8) (mC (.int 2)))) (Ab (B1 (Ab (Af CS (Ab (Aa 2) (Ab (Aa 3) (Ad)))) (Ab (Af CS (Ab (Aa 2) (Ab (Aa 4) (Ad)))) (Ad)))) (Ad))))))
@[irreducible] noncomputable def b5:MS:=Aj (AN 11 (Af CC (Ab (Aa 9) (Ab (Aa 10) (Ad))))) (Aj (Bt (B9 (A5 (Ag Bb (Ag Bz (Af CV (Ab (Aa 9) (Ad))) (Af CV (Ab (Aa 10) (Ad)))) (Aa 11))) (A5 (Ag Bb (Ag Gu (Af DN (Ab (Aa 9) (Ab (Aa 10) (Ad)))) (mC .non)) (Aa 11)))) (Ax (mC (.bl false))) (Bx)) (Aj (AN 12 (Af BG (Ab (Aa 9) (Ab (Aa 10) (Ad))))) (Aj (Bt (B9 (A5 (Ag Bb (Ag EX (Aa 12) (mC .non)) (Aa 11))) (A5 (Ag Bb (Ag Bz (Af CU (Ab (Aa 9) (Ad))) (Af CU (Ab (Aa 10) (Ad)))) (Aa 11)))) (Ax (mC (.bl false))) (Bx)) (Bt (Fd (BO (Aa 11)) (B9 (A5 (Ag Bb (Af Be (Ab (Aa 9) (Ab (Aa 12) (Ad)))) (Aa 10))) (A5 (Ag (D2 false) (mC (.int 0)) (Ag Aq (Aa 12) (mC (.int 0))))))) (Ax (mC (.bl false))) (Bx)))))
@[irreducible] noncomputable def Ia:MS:=BD (BC (Aa 7)) (AE 9) (BD (BC (Aa 7)) (AE 10) b5)
@[irreducible] noncomputable def Ib:MS:=AN 13 (Af (Al Bw) (Ab (AQ [none] (BC (Fs (Aa 5) (GJ) (Fo (mC (.int 3))))) (AE 0) (Bm) (Fs (Aa 0) (GJ) (Fo (mC (.int 3))))) (Ad)))
@[irreducible] noncomputable def Ic:MS:=AN 14 (JC)
@[irreducible] noncomputable def Ie:MS:=BD (BC (Af CB (Ab (Af (Al Bc) (Ab (Aa 13) (Ad))) (Ad)))) (AE 15) (BD (BC (Af CB (Ab (Af (Al Bc) (Ab (Ag Aq (Aa 13) (mC (.int 0))) (Ad))) (Ad)))) (AE 16) (HK (Aa 14) (Af Be (Ab (Aa 13) (Ab (B1 (Ab (Aa 15) (Ab (Aa 16) (Ad)))) (Ad)))) (mC (.bl true))))
@[irreducible] noncomputable def Ig:MS:=Bt (B9 (A5 (Ag Bb (Af (Al Fv) (Ab (Aa 14) (Ad))) (Af DM (Ab (Aa 13) (Ad))))) (B0 (BO (Af (Al CL) (Ab (AQ [none,some 13] (GP (Aa 14)) (AE 0) (Bm) (Af CC (Ab (Aa 1) (Ab (Aa 0) (Ad))))) (Ad)))))) (Ax (mC (.bl false))) (Bx)
theorem P5 {b:Nat} {m:Int} {h:HD} {Q:D→HD→Prop} (hx:BoxAt h b) (h1:0<m) (h2:m≤1000) (q:∀(d:Nat) h',(d:Int)<m→BoxAt h' b→Smx b h h'→Q (.int (d:Nat)) h'):Wp (AS [.loc b,.int m] h) Q:=
 HM hx h1 (by omega) fun d h' d0 d1 x s=>by
  obtain ⟨k,rfl⟩:∃k:Nat,d=(k:Int):=⟨d.toNat,by omega⟩
  exact q k h' d1 x s
def AX (ns:List Int) (k b H W:Nat) (c5 c6 c7 c8 c9 c10 c11 c12 c13 c14 c15 c16:Option D):Ai:=[some (.scr ns),some (.int (k:Nat)),some (.loc b),some (.int (H:Nat)),some (.int (W:Nat)),c5,c6,c7,c8,c9,c10,c11,c12,c13,c14,c15,c16]
section
variable {ns:List Int} {k b H W:Nat} {h:HD} {f f' g g':Nat→Nat→Bool} {c2 c3 c4 c5 c6 c7 c8 c9 c10 c11 c12 c13 c14 c15 c16:Option D} {Q:Fl×Ai→HD→Prop}
theorem YH (hb:∀i∈ns,Builtin.Int.intBits i≤2^20) (hk:k≤1000) (q:∀b h',BoxAt h' b→Q (.nx,[some (.scr ns),some (.int (k:Nat)),some (.loc b),c3,c4,c5,c6,c7,c8,c9,c10,c11,c12,c13,c14,c15,c16]) h'):Wp (HW [some (.scr ns),some (.int (k:Nat)),c2,c3,c4,c5,c6,c7,c8,c9,c10,c11,c12,c13,c14,c15,c16] h) Q:=by
 unfold HW
 simp
 exact XH hb hk fun b h1 x1 lb s1=>q b h1 x1
theorem YI (bx:BoxAt h b) (q:∀H W h',(1≤H∧H≤8)→(1≤W∧W≤8)→BoxAt h' b→Q (.nx,AX ns k b H W c5 c6 c7 c8 c9 c10 c11 c12 c13 c14 c15 c16) h'):Wp (HX [some (.scr ns),some (.int (k:Nat)),some (.loc b),c3,c4,c5,c6,c7,c8,c9,c10,c11,c12,c13,c14,c15,c16] h) Q:=by
 unfold HX
 simp
 refine P5 bx (by decide) (by decide) fun d h1 l1 x1 s1=>?_
 simp
 refine P5 x1 (by decide) (by decide) fun d2 h2 l2 x2 s2=>?_
 simp
 have:=q (1+d) (1+d2) h2 (by omega) (by omega) x2
 unfold AX at this
 rwa [show ((1+d:Nat):Int)=1+(d:Int) by omega,show ((1+d2:Nat):Int)=1+(d2:Int) by omega] at this
theorem CZ (hh:1≤H∧H≤8) (hw:1≤W∧W≤8) (bx:BoxAt h b) (q:∀f f' h',BoxAt h' b→Q (.nx,AX ns k b H W (some (bD H W f)) (some (bD H W f')) c7 c8 c9 c10 c11 c12 c13 c14 c15 c16) h'):Wp (HY (AX ns k b H W c5 c6 c7 c8 c9 c10 c11 c12 c13 c14 c15 c16) h) Q:=by
 unfold HY
 simp [AX]
 refine Pk bx hh hw fun f h1 x1 s1=>?_
 refine Pk x1 hh hw fun f' h2 x2 s2=>?_
 exact q f f' h2 x2
theorem JM (bx:BoxAt h b) (q:∀l h',BoxAt h' b→l≠b→h'[l]?=some (.lst ([f,f'].map (bD H W)))→Q (.nx,AX ns k b H W (some (bD H W f)) (some (bD H W f')) (some (.loc l)) c8 c9 c10 c11 c12 c13 c14 c15 c16) h'):Wp (HZ (AX ns k b H W (some (bD H W f)) (some (bD H W f')) c7 c8 c9 c10 c11 c12 c13 c14 c15 c16) h) Q:=by
 unfold HZ
 simp [AX]
 refine Cw (by simp) fun l h1 s1 e1 el _=>?_
 have:=bx.lt
 exact q l h1 (bx.sm s1) (by omega) e1
inductive P6 (ns:List Int) (k b H W l:Nat) (f f':Nat→Nat→Bool) (c9 c10 c11 c12 c13 c14 c15 c16:Option D) (xs:List Nat) (ρ:Ai) (h':HD):Prop where
 |mk (gs:List (Nat→Nat→Bool)) (y:Option D) (er:ρ=AX ns k b H W (some (bD H W f)) (some (bD H W f')) (some (.loc l)) y c9 c10 c11 c12 c13 c14 c15 c16) (bx:BoxAt h' b) (e:h'[l]?=some (.lst (gs.map (bD H W)))) (hz:gs.length+xs.length≤5):P6 ns k b H W l f f' c9 c10 c11 c12 c13 c14 c15 c16 xs ρ h'
theorem JN {l:Nat} (hh:1≤H∧H≤8) (hw:1≤W∧W≤8) (bx:BoxAt h b) (nl:l≠b) (e:h[l]?=some (.lst ([f,f'].map (bD H W)))) (q:∀(gs:List (Nat→Nat→Bool)) y h',h'[l]?=some (.lst (gs.map (bD H W)))→Q (.nx,AX ns k b H W (some (bD H W f)) (some (bD H W f')) (some (.loc l)) y c9 c10 c11 c12 c13 c14 c15 c16) h'):Wp (H0 (AX ns k b H W (some (bD H W f)) (some (bD H W f')) (some (.loc l)) c8 c9 c10 c11 c12 c13 c14 c15 c16) h) Q:=by
 unfold H0
 refine Do (src:=[]) (xs:=List.range 3) (fun i=>.int ((i:Nat):Int)) (P6 ns k b H W l f f' c9 c10 c11 c12 c13 c14 c15 c16) ?_ (fun ys ρ h' _=>Eu) ?_ ?_
 ·simp [AX]
  rw [show (3:Int)=((3:Nat):Int) from rfl,DH (by omega)]
  exact ⟨rfl,[f,f'],_,rfl,bx,e,by simp⟩
 ·rintro x xs ρ h1 ⟨gs,y,rfl,bx,e,hz⟩
  refine ⟨_,rfl,?_⟩
  simp [AX,Nz e]
  refine Cw (by simp) fun l2 h2 s2 e2 _ _=>?_
  refine Bd (GI (by decide)) ?_
  rw [Cv,show (x:Int) % 2=((x % 2:Nat):Int) by omega]
  obtain ⟨y2,ey,g,rfl⟩:=Pg (fun d=>∃g,d=bD H W g) (o:=x % 2) e2 (by simp;omega) (all_cons ⟨f,rfl⟩ (all_cons ⟨f',rfl⟩ Pf))
  refine Bd ey ?_
  rw [Cv]
  refine Pn (bx.sm s2) hh.2 fun p h3 x3 s3=>?_
  try simp
  refine Pn x3 hw.2 fun q2 h4 x4 s4=>?_
  try simp
  refine (HV (p:=p) (q:=q2) hh hw).wp fun h5 s5=>?_
  have e5:h5[l]?=some (.lst (gs.map (bD H W))):=s5 _ _ (s4 _ _ nl (s3 _ _ nl (s2 _ _ e)))
  have ll:=(qa3.mp e5).1
  refine Bd (NA e5 (by simp at hz ⊢;unfold sizeLine;omega)) ?_
  simp [Cy]
  refine ⟨gs++[sw g p q2],_,rfl,?_,?_,?_⟩
  ·obtain ⟨n,en⟩:=x4.sm s5
   exact ⟨n,by rw [Cd nl];exact en⟩
  ·rw [DQ ll,Ip]
   rfl
  ·simp at hz ⊢
   omega
 ·rintro ρ h1 ⟨gs,y,rfl,bx,e,hz⟩
  exact q gs y h1 e
theorem YJ (hh:1≤H∧H≤8) (hw:1≤W∧W≤8) (q:∀d11 d12 h',Sm h h'→Q (.nx,AX ns k b H W c5 c6 c7 c8 (some (bD H W g)) (some (bD H W g')) d11 d12 c13 c14 c15 c16) h'):Wp (b5 (AX ns k b H W c5 c6 c7 c8 (some (bD H W g)) (some (bD H W g')) c11 c12 c13 c14 c15 c16) h) Q:=by
 have ef:∀h,Bz (bD H W (Co g)) (bD H W (Co g')) h=.ok (.bl (al H W g g')) h:=fun h=>Yq
 have es:∀h,Bb (bD H W (sw g (EF g g') (F4 g g'))) (bD H W g') h=.ok (.bl (!al H W g g')) h:=fun h=>by rw [PH,PJ]
 unfold b5
 simp [AX,-AD]
 refine (P3 hh hw).wp fun h1 s1=>?_
 refine Eq.mpr AD ?_
 simp [-AD]
 refine (PB hh hw).wp fun h2 s2=>?_
 refine (PB hh hw).wp fun h3 s3=>?_
 simp [-AD,ef]
 refine YG hh hw fun d h4 s4 hd=>?_
 simp [-AD,hd]
 refine Eq.mpr AD ?_
 simp [-AD]
 refine (PZ hh hw).wp fun h5 s5=>?_
 refine Eq.mpr AD ?_
 simp [-AD,P0]
 refine Pw hh hw fun l6 h6 s6 e6=>?_
 refine Pw hh hw fun l7 h7 s7 e7=>?_
 have ed:decide ((AF H W).filter (BH g)=(AF H W).filter (BH g'))=al H W g g':=by
  rw [qaI,decide_eq_true_iff]
  exact Yu
 refine Bd (Yx (s7 _ _ e6) e7) ?_
 rw [ed]
 simp [-AD]
 refine Eq.mpr AD ?_
 have S:=(((((s1.trans s2).trans s3).trans s4).trans s5).trans s6).trans s7
 cases ea:al H W g g' with
 |false=>
  simp
  exact q _ _ h7 S
 |true=>
  simp [GS]
  refine (HV hh hw).wp fun h8 s8=>?_
  rw [es,ea]
  simp [Eh]
  rw [show (0:Int)=((0:Nat):Int) from rfl,LP (by omega)]
  simp [Yv]
  exact q _ _ h8 (S.trans s8)
inductive P7 (ns:List Int) (k b H W l:Nat) (gs:List (Nat→Nat→Bool)) (c5 c6 c8 c13 c14 c15 c16:Option D) (xs:List (Nat→Nat→Bool)) (ρ:Ai) (h':HD):Prop where
 |mk (y9 y10 y11 y12:Option D) (er:ρ=AX ns k b H W c5 c6 (some (.loc l)) c8 y9 y10 y11 y12 c13 c14 c15 c16) (e:h'[l]?=some (.lst (gs.map (bD H W)))):P7 ns k b H W l gs c5 c6 c8 c13 c14 c15 c16 xs ρ h'
inductive P8 (ns:List Int) (k b H W l:Nat) (gs:List (Nat→Nat→Bool)) (c5 c6 c8 c9 c13 c14 c15 c16:Option D) (xs:List (Nat→Nat→Bool)) (ρ:Ai) (h':HD):Prop where
 |mk (y10 y11 y12:Option D) (er:ρ=AX ns k b H W c5 c6 (some (.loc l)) c8 c9 y10 y11 y12 c13 c14 c15 c16) (e:h'[l]?=some (.lst (gs.map (bD H W)))):P8 ns k b H W l gs c5 c6 c8 c9 c13 c14 c15 c16 xs ρ h'
theorem DP {l:Nat} {gs:List (Nat→Nat→Bool)} (hh:1≤H∧H≤8) (hw:1≤W∧W≤8) (e:h[l]?=some (.lst (gs.map (bD H W)))) (q:∀y9 y10 y11 y12 h',Q (.nx,AX ns k b H W c5 c6 (some (.loc l)) c8 y9 y10 y11 y12 c13 c14 c15 c16) h'):Wp (Ia (AX ns k b H W c5 c6 (some (.loc l)) c8 c9 c10 c11 c12 c13 c14 c15 c16) h) Q:=by
 unfold Ia
 refine Do (src:=[(l,gs.map (bD H W))]) (xs:=gs) (bD H W) (P7 ns k b H W l gs c5 c6 c8 c13 c14 c15 c16) ?_ (fun ys ρ h' ⟨_,_,_,_,_,e⟩=>Fh e) ?_ ?_
 ·simp [AX,Fq e]
  exact ⟨_,_,_,_,rfl,e⟩
 ·rintro g xs ρ h1 ⟨y9,y10,y11,y12,rfl,e1⟩
  refine ⟨_,rfl,?_⟩
  refine Do (src:=[(l,gs.map (bD H W))]) (xs:=gs) (bD H W) (P8 ns k b H W l gs c5 c6 c8 (some (bD H W g)) c13 c14 c15 c16) ?_ (fun ys ρ h' ⟨_,_,_,_,e⟩=>Fh e) ?_ ?_
  ·simp [AX,Fq e1]
   exact ⟨_,_,_,rfl,e1⟩
  ·rintro g' ys ρ h2 ⟨y10,y11,y12,rfl,e2⟩
   refine ⟨_,rfl,?_⟩
   exact YJ hh hw fun d11 d12 h3 s3=>⟨_,_,_,rfl,s3 _ _ e2⟩
  ·rintro ρ h2 ⟨y10,y11,y12,rfl,e2⟩
   exact ⟨_,_,_,_,rfl,e2⟩
 ·rintro ρ h1 ⟨y9,y10,y11,y12,rfl,e1⟩
  exact q _ _ _ _ _
theorem P9 {n:Nat} {e:Nat→D}:HB (.tup ((List.range n).map e)) none (some 3) h=.ok (.tup ((List.range (min 3 n)).map e)) h:=by
 simp only [HB]
 unfold LS.cutD
 rw [show (3:Int)=((3:Nat):Int) from rfl,HT.sIx_nat,HT.sIx_none,List.drop_zero,Nat.sub_zero,←List.map_take,List.take_range]
 simp
theorem YK (hh:1≤H∧H≤8) (hw:1≤W∧W≤8) (q:∀h',Q (.nx,AX ns k b H W (some (bD H W f)) c6 c7 c8 c9 c10 c11 c12 (some (bD (min 3 H) (min 3 W) f)) c14 c15 c16) h'):Wp (Ib (AX ns k b H W (some (bD H W f)) c6 c7 c8 c9 c10 c11 c12 c13 c14 c15 c16) h) Q:=by
 unfold Ib
 simp [AX]
 refine Pu.wp (Ky (src:=[]) (xs:=List.range (min 3 H)) (φ:=fun i=>AL W (f i)) (fun i=>AL (min 3 W) (f i)) (fun i=>[some (AL W (f i))]) ?_ (fun x _=>rfl) (fun x _ h' s'=>?_) (sz (by omega))) fun h2 s2=>?_
 ·simp [Cb]
  unfold bD
  rw [P9]
  simp [Sm.refl,A3]
 ·simp [Pu]
  unfold AL
  rw [P9]
  simp [Sm.refl]
 ·exact q h2
theorem EH (q:∀l h',h'[l]?=some (.dic false [])→Q (.nx,AX ns k b H W c5 c6 c7 c8 c9 c10 c11 c12 c13 (some (.loc l)) c15 c16) h'):Wp (Ic (AX ns k b H W c5 c6 c7 c8 c9 c10 c11 c12 c13 c14 c15 c16) h) Q:=by
 unfold Ic
 simp [AX]
 exact q h.length _ (by simp)
theorem YL {l:Nat} {kvs:List (Kyd×D)} {i v:D} {rs:List (List Int)} {F:HD→Out (Fl×Ai)} (e:h[l]?=some (.dic false kvs)) (hk:HI i=some rs) (ha:LS.allB kvs=true) (hz:kvs.length<sizeLine):HJ (.loc l) i v h F=F (h.set l (.dic false (Ds kvs (.b rs) v))):=by
 simp only [HJ,hk,e]
 rw [if_pos ⟨ha,hz⟩]
end
section
variable {ns:List Int} {k b H W A C:Nat} {h:HD} {f:Nat→Nat→Bool} {c2 c3 c4 c5 c6 c7 c8 c9 c10 c11 c12 c13 c14 c15 c16:Option D} {Q:Fl×Ai→HD→Prop}
def GV (C:Nat) (dn:List (Nat→Bool)):List GT:=dn.flatMap fun p=>(LL 0 C).map fun q=>(p,q)
theorem YM {dn:List (Nat→Bool)} (hC:C≤3):(GV C dn).length≤dn.length*8:=Pq fun p _=>by
 rw [Cp,Hx]
 exact F6 (n:=2) (by decide) hC
inductive Qa (ns:List Int) (k b H W A C ld lo:Nat) (f:Nat→Nat→Bool) (c5 c6 c7 c8 c9 c10 c11 c12:Option D) (xs:List (Nat→Bool)) (ρ:Ai) (h':HD):Prop where
 |mk (dn:List (Nat→Bool)) (y15 y16:Option D) (ex:dn++xs=LL 0 A) (er:ρ=AX ns k b H W c5 c6 c7 c8 c9 c10 c11 c12 (some (bD A C f)) (some (.loc ld)) y15 y16) (e:h'[lo]?=some (.lst ((LL 0 A).map (AY A)))) (ed:h'[ld]?=some (.dic false (KV ((GV C dn).map (ky A C f))))):Qa ns k b H W A C ld lo f c5 c6 c7 c8 c9 c10 c11 c12 xs ρ h'
inductive Qb (ns:List Int) (k b H W A C ld lo li:Nat) (f:Nat→Nat→Bool) (c5 c6 c7 c8 c9 c10 c11 c12:Option D) (dn:List (Nat→Bool)) (p:Nat→Bool) (xs:List (Nat→Bool)) (ρ:Ai) (h':HD):Prop where
 |mk (d2:List (Nat→Bool)) (y16:Option D) (ex:d2++xs=LL 0 C) (er:ρ=AX ns k b H W c5 c6 c7 c8 c9 c10 c11 c12 (some (bD A C f)) (some (.loc ld)) (some (AY A p)) y16) (e:h'[lo]?=some (.lst ((LL 0 A).map (AY A)))) (ei:h'[li]?=some (.lst ((LL 0 C).map (AY C)))) (ed:h'[ld]?=some (.dic false (KV ((GV C dn++d2.map fun q=>(p,q)).map (ky A C f))))):Qb ns k b H W A C ld lo li f c5 c6 c7 c8 c9 c10 c11 c12 dn p xs ρ h'
theorem Qc {n:Nat} (hn:n≤8):∃l h1,CB [.int (n:Nat)] h=.ok (.loc l) h1∧Sm h h1∧h1[l]?=some (.lst ((LL 0 n).map (AY n))):=by
 obtain ⟨a,h1,e,l,rfl,s,e1⟩:=Wp.ex (Yn (h:=h) (Q:=fun d h'=>∃l,d=.loc l∧Sm h h'∧h'[l]?=some (.lst ((LL 0 n).map (AY n)))) hn fun l h' s e=>⟨l,rfl,s,e⟩)
 exact ⟨l,h1,e,s,e1⟩
theorem Qd {l m:Nat} {xs:List D} {fz:Bool} {kvs:List (Kyd×D)} (e:h[l]?=some (.lst xs)) (e2:h[m]?=some (.dic fz kvs)):m≠l:=fun z=>by
 subst z
 rw [e] at e2
 cases e2
theorem YN {ld:Nat} (hA:1≤A∧A≤3) (hC:1≤C∧C≤3) (e:h[ld]?=some (.dic false [])) (q:∀y15 y16 h',h'[ld]?=some (.dic false (KV ((PQ A C).map (ky A C f))))→Q (.nx,AX ns k b H W c5 c6 c7 c8 c9 c10 c11 c12 (some (bD A C f)) (some (.loc ld)) y15 y16) h'):Wp (Ie (AX ns k b H W c5 c6 c7 c8 c9 c10 c11 c12 (some (bD A C f)) (some (.loc ld)) c15 c16) h) Q:=by
 have hA8:1≤A∧A≤8:=by omega
 have hC8:1≤C∧C≤8:=by omega
 obtain ⟨lo,h1,el,s1,e1⟩:=Qc (n:=A) (h:=h) hA8.2
 unfold Ie
 refine Do (src:=[(lo,(LL 0 A).map (AY A))]) (xs:=LL 0 A) (AY A) (Qa ns k b H W A C ld lo f c5 c6 c7 c8 c9 c10 c11 c12) ?_ (fun ys ρ h' ⟨_,_,_,_,_,e,_⟩=>Fh e) ?_ ?_
 ·simp [AX,HQ]
  refine Bd el ?_
  rw [Cv,Fq e1]
  exact ⟨rfl,[],_,_,rfl,rfl,e1,s1 _ _ e⟩
 ·rintro p xs ρ h2 ⟨dn,y15,y16,ex,rfl,e2,d2⟩
  refine ⟨_,rfl,?_⟩
  obtain ⟨li,h3,el3,s3,e3⟩:=Qc (n:=C) (h:=h2) hC8.2
  have hdn:dn.length<8:=by
   have:=congrArg List.length ex
   rw [Hx] at this
   have h8:2^A≤8:=F6 (n:=2) (by decide) hA.2
   simp at this
   omega
  refine Do (src:=[(li,(LL 0 C).map (AY C))]) (xs:=LL 0 C) (AY C) (Qb ns k b H W A C ld lo li f c5 c6 c7 c8 c9 c10 c11 c12 dn p) ?_ (fun ys ρ h' ⟨_,_,_,_,_,e,_⟩=>Fh e) ?_ ?_
  ·simp [AX,EE hA.1,HU]
   refine Bd el3 ?_
   rw [Cv,Fq e3]
   exact ⟨rfl,[],_,rfl,rfl,s3 _ _ e2,e3,by rw [Ej,EJ];exact s3 _ _ d2⟩
  ·rintro q2 ys ρ h4 ⟨d2,y16,ex2,rfl,e4,ei4,ed4⟩
   refine ⟨_,rfl,?_⟩
   simp [AX]
   refine (HV (p:=p) (q:=q2) hA8 hC8).wp fun h5 s5=>?_
   have hd2:d2.length≤8:=by
    have:=congrArg List.length ex2
    rw [Hx] at this
    have h8:2^C≤8:=F6 (n:=2) (by decide) hC.2
    simp at this
    omega
   have hz:(KV ((GV C dn++d2.map fun q=>(p,q)).map (ky A C f))).length<sizeLine:=by
    have a1:=YE (ks:=(GV C dn++d2.map fun q=>(p,q)).map (ky A C f))
    have a2:=YM (dn:=dn) hC.2
    rw [Cp,DR,Cp] at a1
    unfold sizeLine
    omega
   have ed5:=s5 _ _ ed4
   refine Bd (YL ed5 PY YD hz) ?_
   have ll:=(qa3.mp ed5).1
   have n1:=Qd (s5 _ _ e4) ed5
   have n2:=Qd (s5 _ _ ei4) ed5
   simp [Cy]
   refine ⟨d2++[q2],_,by simpa using ex2,rfl,?_,?_,?_⟩
   ·rw [Cd n1];exact s5 _ _ e4
   ·rw [Cd n2];exact s5 _ _ ei4
   ·rw [DQ ll,YC]
    congr 3
    simp only [Ip,Cq,Bj,Ej,List.append_assoc]
    rfl
  ·rintro ρ h4 ⟨d2,y16,ex2,rfl,e4,ei4,ed4⟩
   rw [EJ] at ex2
   refine ⟨dn++[p],_,_,by simpa using ex,rfl,e4,?_⟩
   rw [ed4,ex2]
   congr 4
   unfold GV
   rw [List.flatMap_append]
   simp
 ·rintro ρ h2 ⟨dn,y15,y16,ex,rfl,e2,d2⟩
  rw [EJ] at ex
  rw [ex] at d2
  exact q _ _ h2 d2
theorem YO {l:Nat} {fz:Bool} {kvs:List (Kyd×D)} (e:h[l]?=some (.dic fz kvs)):Fv (.loc l) h=.ok (.int kvs.length) h:=by simp only [Fv,e]
theorem YQ {cs:List (Option Nat)} {it:MI} {sg:MG} {t:MT} {g:ME} {ρ:Ai} {h2:HD} (e:it ρ h=it ρ h2):Jg cs it sg t g ρ h=Jg cs it sg t g ρ h2:=by
 have:AQ cs it sg t g ρ h=AQ cs it sg t g ρ h2:=by unfold AQ;rw [e]
 show Out.bind (Out.bind (AQ cs it sg t g ρ h) _) _=Out.bind (Out.bind (AQ cs it sg t g ρ h2) _) _
 rw [this]
theorem YR {ld:Nat} (hA:1≤A∧A≤3) (hC:1≤C∧C≤3) (e:h[ld]?=some (.dic false (KV ((PQ A C).map (ky A C f))))) (q:∀h',Q (.nx,AX ns k b H W c5 c6 c7 c8 c9 c10 c11 c12 (some (bD A C f)) (some (.loc ld)) c15 c16) h'):Wp (Ig (AX ns k b H W c5 c6 c7 c8 c9 c10 c11 c12 (some (bD A C f)) (some (.loc ld)) c15 c16) h) Q:=by
 have hA8:1≤A∧A≤8:=by omega
 have hC8:1≤C∧C≤8:=by omega
 have hl:(KV ((PQ A C).map (ky A C f))).length=2^(A+C - 1):=by
  unfold KV
  rw [Cp]
  exact PR hA hC
 have hn:(nb ((PQ A C).map (ky A C f))).length≤1000:=by
  rw [PR hA hC]
  exact BU (F6 (n:=2) (by decide) (show A+C - 1≤5 by omega)) (by decide)
 unfold Ig
 simp [AX,YO e]
 refine (Yh hA8 hC8).wp fun h1 s1=>?_
 have e1:=s1 _ _ e
 have l1:=(qa3.mp e1).1
 rw [hl]
 simp
 have ek:EB (.loc ld) h1=.ok ((nb ((PQ A C).map (ky A C f))).map (fun k=>kD (.b k)),[]) (h1.set ld (.dic true (KV ((PQ A C).map (ky A C f))))):=by
  simp only [EB,e1]
  congr 2
  unfold KV
  rw [Cq]
  rfl
 have ek2:EB (.loc ld) (h1.set ld (.dic true (KV ((PQ A C).map (ky A C f)))))=.ok ((nb ((PQ A C).map (ky A C f))).map (fun k=>kD (.b k)),[]) (h1.set ld (.dic true (KV ((PQ A C).map (ky A C f))))):=by
  simp only [EB,DQ l1,List.set_set]
  congr 2
  unfold KV
  rw [Cq]
  rfl
 rw [YQ (h2:=h1.set ld (.dic true (KV ((PQ A C).map (ky A C f))))) (show EB (.loc ld) h1=EB (.loc ld) _ by rw [ek,ek2])]
 refine Pu.wp (Jh (src:=[]) (xs:=nb ((PQ A C).map (ky A C f))) (φ:=fun k=>kD (.b k)) (fun _=>true) (fun k=>[some (kD (.b k)),some (bD A C f)]) ?_ (fun x _=>rfl) (fun x hx h' s'=>?_) (LV hn)) fun h2 s2=>?_
 ·unfold Cb
  refine Bd (show GP (Aa 14) _ _=_ from ek2) ?_
  simp [Sm.refl,A3]
 ·obtain ⟨y,hy,rfl⟩:=qaU.mp (mem_nb.mp hx)
  unfold ky
  rw [YF]
  simp [Pu]
  have:=P3 (f:=f) (f':=sw f y.1 y.2) (h:=h') hA8 hC8
  rw [Ys] at this
  exact this
 ·simp
  exact q h2
theorem YS {QB:Fl×Ai→HD→Prop} {x:Nat} (hb:∀i∈ns,Builtin.Int.intBits i≤2^20) (hk:x≤1000) (q:∀b2 b3 b4 b5 b6 b7 b8 b9 b10 b11 b12 b13 b14 b15 b16 h',QB (.nx,[some (.scr ns),some (.int (x:Nat)),b2,b3,b4,b5,b6,b7,b8,b9,b10,b11,b12,b13,b14,b15,b16]) h'):
 Wp (Aj HW (Aj HX (Aj HY (Aj HZ (Aj H0 (Aj Ia (Aj Ib (Aj Ic (Aj Ie Ig)))))))) [some (.scr ns),some (.int (x:Nat)),c2,c3,c4,c5,c6,c7,c8,c9,c10,c11,c12,c13,c14,c15,c16] h) QB:=by
 rw [B5]
 refine YH hb hk fun b h0 x0=>?_
 rw [AD,B5]
 refine YI x0 fun H W h1 hh hw x1=>?_
 rw [AD,B5]
 refine CZ hh hw x1 fun f f' h2 x2=>?_
 rw [AD,B5]
 refine JM x2 fun l h3 x3 nl e3=>?_
 rw [AD,B5]
 refine JN hh hw x3 nl e3 fun gs y h4 e4=>?_
 rw [AD,B5]
 refine DP hh hw e4 fun y9 y10 y11 y12 h5=>?_
 rw [AD,B5]
 refine YK hh hw fun h6=>?_
 rw [AD,B5]
 refine EH fun ld h7 e7=>?_
 rw [AD,B5]
 have hA:1≤min 3 H∧min 3 H≤3:=by omega
 have hC:1≤min 3 W∧min 3 W≤3:=by omega
 refine YN hA hC e7 fun y15 y16 h8 e8=>?_
 rw [AD]
 exact YR hA hC e8 fun h9=>q _ _ _ _ _ _ _ _ _ _ _ _ _ _ _ h9
end
def IL (ns:List Int) (xs:List Nat) (ρ:Ai) (h':HD):Prop:=∃d1 d2 d3 d4 d5 d6 d7 d8 d9 d10 d11 d12 d13 d14 d15 d16,ρ=[some (.scr ns),d1,d2,d3,d4,d5,d6,d7,d8,d9,d10,d11,d12,d13,d14,d15,d16]∧∀k∈xs,k≤1000
theorem YT:JH DL AS CT CS Be CC CV DN BG CU CB DM=Aj (BD (BQ (Ab (Af (BV Hh) (Ab (mC (.int 1)) (Ab (Af (BV Hi) (Ab (Af (Al Bc) (Ab (Aa 0) (Ad))) (Ab (mC (.int 4)) (Ad)))) (Ad)))) (Ad))) (AE 1) (Aj HW (Aj HX (Aj HY (Aj HZ (Aj H0 (Aj Ia (Aj Ib (Aj Ic (Aj Ie Ig)))))))))) (Ax (mC (.bl true))):=by
 unfold HW HX HY HZ H0 Ia Ib Ic Ie Ig b5
 rfl
theorem law_true (ns:List Int) (hl:ns.length≤63) (hb:∀i∈ns,Builtin.Int.intBits i≤2^20):∃h',F_law [.scr ns] []=.ok (.bl true) h':=by
 have main:Wp (F_law [.scr ns] []) fun d _=>d=.bl true:=by
  change Wp (Ao 17 (JH DL AS CT CS Be CC CV DN BG CU CB DM) [.scr ns] []) _
  rw [YT,Ba,B5]
  obtain ⟨n,en,hn⟩:∃n:Nat,(if (if (4:Int)<(ns.length:Int) then (4:Int) else (ns.length:Int))>1 then (if (4:Int)<(ns.length:Int) then (4:Int) else (ns.length:Int)) else 1)=(n:Int)∧n≤99:=by
   have h0:0≤(if (if (4:Int)<(ns.length:Int) then (4:Int) else (ns.length:Int))>1 then (if (4:Int)<(ns.length:Int) then (4:Int) else (ns.length:Int)) else 1)∧(if (if (4:Int)<(ns.length:Int) then (4:Int) else (ns.length:Int))>1 then (if (4:Int)<(ns.length:Int) then (4:Int) else (ns.length:Int)) else 1)≤99:=by
    constructor<;>(split<;>split<;>omega)
   generalize (if (if (4:Int)<(ns.length:Int) then (4:Int) else (ns.length:Int))>1 then (if (4:Int)<(ns.length:Int) then (4:Int) else (ns.length:Int)) else 1)=E at h0
   exact ⟨E.toNat,by omega,by omega⟩
  refine Do (src:=[]) (xs:=List.range n) (fun i=>.int ((i:Nat):Int)) (IL ns) ?_ (fun ys ρ h' _=>Eu) ?_ ?_
  ·simp
   rw [en,DH (by omega)]
   exact ⟨rfl,_,_,_,_,_,_,_,_,_,_,_,_,_,_,_,_,rfl,fun k hk=>by have:=qaX.mp hk;omega⟩
  ·rintro x xs ρ h' ⟨d1,d2,d3,d4,d5,d6,d7,d8,d9,d10,d11,d12,d13,d14,d15,d16,rfl,hx⟩
   refine ⟨_,rfl,?_⟩
   exact YS hb (hx x AI) fun _ _ _ _ _ _ _ _ _ _ _ _ _ _ _ h2=>
    ⟨_,_,_,_,_,_,_,_,_,_,_,_,_,_,_,_,rfl,fun k hk=>hx k (AU _ hk)⟩
  ·rintro ρ h' ⟨d1,d2,d3,d4,d5,d6,d7,d8,d9,d10,d11,d12,d13,d14,d15,d16,rfl,hx⟩
   simp
 obtain ⟨a,h',e,rfl⟩:=Wp.ex main
 exact ⟨h',e⟩
end LK
set_option maxHeartbeats 0
namespace LK
open PySem PySem.Spec PyProof.Rows L2 LS
def LY:Tp.Want:=⟨[(("is_whole":Str),Fw),(("is_line_tuple":Str),Fx),(("row_switched":Str),Fy),(("all_fours":Str),Fz),(("is_odd_four":Str),FA),(("_law_cell":Str),FB),(("_law_mix":Str),FC),(("_law_take":Str),FD),(("_law_lots":Str),FE),(("is_between":Str),FG),(("is_lot":Str),FH),(("_law_box":Str),FI),(("_law_wide_box":Str),FJ),(("_law_lot":Str),FK),(("is_light":Str),FL),(("_law_board":Str),FM),(("is_row":Str),FN),(("is_board":Str),FO),(("need_board":Str),FP),(("is_switching":Str),FQ),(("same_size":Str),FR),(("alike_many":Str),FS),(("odd_fours":Str),FT),(("need_switching":Str),FU),(("first_unlike":Str),FV),(("switched":Str),FW),(("switching_to":Str),FX),(("form_of":Str),FY),(("are_alike":Str),FZ),(("law":Str),s_law)],[(("MOST_LINES":Str),(8:Int))],["all","bool","divmod","enumerate","int","isinstance","len","max","min","range","tuple"]⟩
theorem all_mk {l:PySem.W.OpenLaw} {w:World} {K:PySem.W.Frag} {h:Heap} {mg:Str→Option Value} {fa:Addr} (HS:Tp.Has0 LY K) (X:K.In h) (G:h.Ns mainGlobals mg) (hfa:mg "law"=some (.ref fa)):
 ∃fd:FuncData,(∀(s:Shared) (v:Value),BindsTo s fd ⟨[v],[]⟩ [("_law_script",v)])∧∀base:Heap,K.In base→base.Ns mainGlobals mg→HA mg base→FnOk l.prog w K mg base (Ay l.prog w K) 12 fa fd ["_law_script"] (E4 K F_law):=by
 obtain ⟨fs,cs,bs,et⟩:=HS
 obtain ⟨_,_,_,_,_,_,_,_,_,_,a0,l0,c0,k0⟩:=fs 0 "is_whole" Fw rfl
 obtain ⟨_,_,_,_,_,_,_,_,_,_,a1,l1,c1,k1⟩:=fs 1 "is_line_tuple" Fx rfl
 obtain ⟨_,_,_,_,_,_,_,_,_,_,a2,l2,c2,k2⟩:=fs 2 "row_switched" Fy rfl
 obtain ⟨_,_,_,_,_,_,_,_,_,_,a3,l3,c3,k3⟩:=fs 3 "all_fours" Fz rfl
 obtain ⟨_,_,_,_,_,_,_,_,_,_,a4,l4,c4,k4⟩:=fs 4 "is_odd_four" FA rfl
 obtain ⟨_,_,_,_,_,_,_,_,_,_,a5,l5,c5,k5⟩:=fs 5 "_law_cell" FB rfl
 obtain ⟨_,_,_,_,_,_,_,_,_,_,a6,l6,c6,k6⟩:=fs 6 "_law_mix" FC rfl
 obtain ⟨_,_,_,_,_,_,_,_,_,_,a7,l7,c7,k7⟩:=fs 7 "_law_take" FD rfl
 obtain ⟨_,_,_,_,_,_,_,_,_,_,a8,l8,c8,k8⟩:=fs 8 "_law_lots" FE rfl
 obtain ⟨_,_,_,_,_,_,_,_,_,_,a9,l9,c9,k9⟩:=fs 9 "is_between" FG rfl
 obtain ⟨_,_,_,_,_,_,_,_,_,_,a10,l10,c10,k10⟩:=fs 10 "is_lot" FH rfl
 obtain ⟨_,_,_,_,_,_,_,_,_,_,a11,l11,c11,k11⟩:=fs 11 "_law_box" FI rfl
 obtain ⟨_,_,_,_,_,_,_,_,_,_,a12,l12,c12,k12⟩:=fs 12 "_law_wide_box" FJ rfl
 obtain ⟨_,_,_,_,_,_,_,_,_,_,a13,l13,c13,k13⟩:=fs 13 "_law_lot" FK rfl
 obtain ⟨_,_,_,_,_,_,_,_,_,_,a14,l14,c14,k14⟩:=fs 14 "is_light" FL rfl
 obtain ⟨_,_,_,_,_,_,_,_,_,_,a15,l15,c15,k15⟩:=fs 15 "_law_board" FM rfl
 obtain ⟨_,_,_,_,_,_,_,_,_,_,a16,l16,c16,k16⟩:=fs 16 "is_row" FN rfl
 obtain ⟨_,_,_,_,_,_,_,_,_,_,a17,l17,c17,k17⟩:=fs 17 "is_board" FO rfl
 obtain ⟨_,_,_,_,_,_,_,_,_,_,a18,l18,c18,k18⟩:=fs 18 "need_board" FP rfl
 obtain ⟨_,_,_,_,_,_,_,_,_,_,a19,l19,c19,k19⟩:=fs 19 "is_switching" FQ rfl
 obtain ⟨_,_,_,_,_,_,_,_,_,_,a20,l20,c20,k20⟩:=fs 20 "same_size" FR rfl
 obtain ⟨_,_,_,_,_,_,_,_,_,_,a21,l21,c21,k21⟩:=fs 21 "alike_many" FS rfl
 obtain ⟨_,_,_,_,_,_,_,_,_,_,a22,l22,c22,k22⟩:=fs 22 "odd_fours" FT rfl
 obtain ⟨_,_,_,_,_,_,_,_,_,_,a23,l23,c23,k23⟩:=fs 23 "need_switching" FU rfl
 obtain ⟨_,_,_,_,_,_,_,_,_,_,a24,l24,c24,k24⟩:=fs 24 "first_unlike" FV rfl
 obtain ⟨_,_,_,_,_,_,_,_,_,_,a25,l25,c25,k25⟩:=fs 25 "switched" FW rfl
 obtain ⟨_,_,_,_,_,_,_,_,_,_,a26,l26,c26,k26⟩:=fs 26 "switching_to" FX rfl
 obtain ⟨_,_,_,_,_,_,_,_,_,_,a27,l27,c27,k27⟩:=fs 27 "form_of" FY rfl
 obtain ⟨_,_,_,_,_,_,_,_,_,_,a28,l28,c28,k28⟩:=fs 28 "are_alike" FZ rfl
 obtain ⟨f_law,_,an_law,_,_,kV_law,dc_law,pm_law,cd_law,ct_law,a_law,l_law,c_law,k_law⟩:=fs 29 "law" s_law rfl
 have e:=hfa.symm.trans (PySem.W.mg_of X G a_law)
 cases e
 have B:Bl mg:=⟨PySem.W.mg_none_of X G (bs 0 "all" rfl),PySem.W.mg_none_of X G (bs 1 "bool" rfl),PySem.W.mg_none_of X G (bs 2 "divmod" rfl),PySem.W.mg_none_of X G (bs 3 "enumerate" rfl),PySem.W.mg_none_of X G (bs 4 "int" rfl),PySem.W.mg_none_of X G (bs 5 "isinstance" rfl),PySem.W.mg_none_of X G (bs 6 "len" rfl),PySem.W.mg_none_of X G (bs 7 "max" rfl),PySem.W.mg_none_of X G (bs 8 "min" rfl),PySem.W.mg_none_of X G (bs 9 "range" rfl),PySem.W.mg_none_of X G (bs 10 "tuple" rfl)⟩
 obtain ⟨t_MOST_LINES,v_MOST_LINES⟩:=cs 0 "MOST_LINES" 8 rfl
 have M_MOST_LINES:=PySem.W.mg_of X G v_MOST_LINES
 refine ⟨PySem.W.fnOf "law" "law" (defArgs s_law) (defBody s_law) (defScope s_law) .none kV_law dc_law pm_law an_law cd_law ct_law,fun s v=>.of_eq rfl,fun base _ _ hbm=>?_⟩
 have C0:=W9 (P:=l.prog) (w:=w) (base:=base) B et (CO X G l0 c0 k0 a0 fun _ _ _ _ _ _ _=>rfl)
 have C1:=Xa (P:=l.prog) (w:=w) (base:=base) B et M_MOST_LINES (CO X G l1 c1 k1 a1 fun _ _ _ _ _ _ _=>rfl)
 have C2:=Xb (P:=l.prog) (w:=w) (base:=base) B et (KR X G l2 c2 k2 a2 fun _ _ _ _ _ _ _ _ _=>rfl)
 have C3:=Xd (P:=l.prog) (w:=w) (base:=base) B et (CO X G l3 c3 k3 a3 fun _ _ _ _ _ _ _=>rfl)
 have C4:=Xe (P:=l.prog) (w:=w) (base:=base) B et (CA X G l4 c4 k4 a4 fun _ _ _ _ _ _ _ _=>rfl)
 have C5:=Xf (P:=l.prog) (w:=w) (base:=base) B et (CA X G l5 c5 k5 a5 fun _ _ _ _ _ _ _ _=>rfl)
 have C6:=Xg (P:=l.prog) (w:=w) (base:=base) B et (CA X G l6 c6 k6 a6 fun _ _ _ _ _ _ _ _=>rfl)
 have C7:=Xh (P:=l.prog) (w:=w) (base:=base) B et (CA X G l7 c7 k7 a7 fun _ _ _ _ _ _ _ _=>rfl)
 have C8:=Xi (P:=l.prog) (w:=w) (base:=base) B et (CO X G l8 c8 k8 a8 fun _ _ _ _ _ _ _=>rfl)
 have C9:=Xj (P:=l.prog) (w:=w) (base:=base) B et C0 (KR X G l9 c9 k9 a9 fun _ _ _ _ _ _ _ _ _=>rfl)
 have C10:=Xk (P:=l.prog) (w:=w) (base:=base) B et C0 (CA X G l10 c10 k10 a10 fun _ _ _ _ _ _ _ _=>rfl)
 have C11:=Xl (P:=l.prog) (w:=w) (base:=base) B et C5 C6 (CA X G l11 c11 k11 a11 fun _ _ _ _ _ _ _ _=>rfl)
 have C12:=Xm (P:=l.prog) (w:=w) (base:=base) B et C7 (CO X G l12 c12 k12 a12 fun _ _ _ _ _ _ _=>rfl)
 have C13:=Xn (P:=l.prog) (w:=w) (base:=base) B et C7 (CA X G l13 c13 k13 a13 fun _ _ _ _ _ _ _ _=>rfl)
 have C14:=Xo (P:=l.prog) (w:=w) (base:=base) B et C9 (CO X G l14 c14 k14 a14 fun _ _ _ _ _ _ _=>rfl)
 have C15:=Xp (P:=l.prog) (w:=w) (base:=base) B et C7 C12 (KR X G l15 c15 k15 a15 fun _ _ _ _ _ _ _ _ _=>rfl)
 have C16:=Xq (P:=l.prog) (w:=w) (base:=base) B et C1 C14 (CO X G l16 c16 k16 a16 fun _ _ _ _ _ _ _=>rfl)
 have C17:=Xr (P:=l.prog) (w:=w) (base:=base) B et C1 C16 (CO X G l17 c17 k17 a17 fun _ _ _ _ _ _ _=>rfl)
 have C18:=Xs (P:=l.prog) (w:=w) (base:=base) B et C17 (CO X G l18 c18 k18 a18 fun _ _ _ _ _ _ _=>rfl)
 have C19:=Xu (P:=l.prog) (w:=w) (base:=base) B et C18 C10 (CA X G l19 c19 k19 a19 fun _ _ _ _ _ _ _ _=>rfl)
 have C20:=Xv (P:=l.prog) (w:=w) (base:=base) B et C18 (CA X G l20 c20 k20 a20 fun _ _ _ _ _ _ _ _=>rfl)
 have C21:=Xw (P:=l.prog) (w:=w) (base:=base) B et C18 (CO X G l21 c21 k21 a21 fun _ _ _ _ _ _ _=>rfl)
 have C22:=Xx (P:=l.prog) (w:=w) (base:=base) B et C18 C3 C4 (CO X G l22 c22 k22 a22 fun _ _ _ _ _ _ _=>rfl)
 have C23:=Xy (P:=l.prog) (w:=w) (base:=base) B et C19 (CA X G l23 c23 k23 a23 fun _ _ _ _ _ _ _ _=>rfl)
 have C24:=Xz (P:=l.prog) (w:=w) (base:=base) B et C20 C3 C4 (CA X G l24 c24 k24 a24 fun _ _ _ _ _ _ _ _=>rfl)
 have C25:=XA (P:=l.prog) (w:=w) (base:=base) B et C23 C2 (CA X G l25 c25 k25 a25 fun _ _ _ _ _ _ _ _=>rfl)
 have C26:=XB (P:=l.prog) (w:=w) (base:=base) B et C20 C25 (CA X G l26 c26 k26 a26 fun _ _ _ _ _ _ _ _=>rfl)
 have C27:=XC (P:=l.prog) (w:=w) (base:=base) B et C18 C25 (CO X G l27 c27 k27 a27 fun _ _ _ _ _ _ _=>rfl)
 have C28:=XE (P:=l.prog) (w:=w) (base:=base) B et C26 (CA X G l28 c28 k28 a28 fun _ _ _ _ _ _ _ _=>rfl)
 exact Bg (CO X G l_law c_law k_law a_law fun _ _ _ _ _ _ _=>rfl).fn sc_law (fun ds h e=>if_neg e) (fun ds h e=>if_pos e) (fun cdv A outer s H E hr=>W8 B et C11 C7 C15 C13 C25 C28 C27 C24 C26 C22 C8 C21 _ cdv A outer s H E hr)
end LK
namespace LK
open PySem PySem.W
abbrev top_q:Program:=view PySem.Challenge.pw_lineswitch_k24_whole_alike_boards [38]
abbrev top_loose:List Str:=(PySem.Challenge.pw_lineswitch_k24_whole_alike_boards.main.scope.names.map (·.1)).filter fun x=>!(x=="law")
set_option maxHeartbeats 0 in
theorem top_left:LeftO PySem.Challenge.pw_lineswitch_k24_whole_alike_boards top_q top_loose (fun _=>true) (Tp.obs0 LY) (fun _=>Tp.val0 LY) 1000000:=
 Tp.left_of (n:=40) (by kernel_rfl) (fun s=>by kernel_rfl) (fun w=>by kernel_rfl) (fun w os=>by
  rw [PySem.W.Fast.te10156331382660048174,PySem.W.Fast.te11892475500146522536,PySem.W.Fast.te14364793385576792824,PySem.W.Fast.te10110043849684766642,PySem.W.Fast.te6613529449190102663,PySem.W.Fast.te4187177175401517315,PySem.W.Fast.te5923862056798008813]
  kernel_rfl)
end LK
open PySem PySem.W PyProof.Rows
set_option maxRecDepth 100000 in
set_option maxHeartbeats 0 in
theorem PySem.Challenge.cw_lineswitch_k24_whole_alike_boards_holds : PySem.Challenge.rw_lineswitch_k24_whole_alike_boards.Holds := by
 w_on;o_law
 refine PySem.W.holds_open (q:=LK.top_q) (loose:=LK.top_loose) (d:=⟨"law",L2.defArgs LK.s_law,L2.defBody LK.s_law,L2.defScope LK.s_law,_⟩) (kwd:=[]) (Xt:=fun _=>true) (XP:=fun _ _=>True) (N:=1000000) LK.top_left Tp.says0_of Tp.Says0.keeps (fun _ _=>trivial) (fun _ _ _ _ _=>trivial) (by rfl) (by kernel_rfl) (by kernel_rfl) (fun s _=>recFacts_nil (by rfl)) (by rfl) (by assumption) (by kernel_rfl) ⟨rfl,rfl,rfl,rfl,rfl,by decide +kernel⟩ ?hw ?hc
 case hw=>w_witness2
 case hc=>exact LS.walk_hd0 (n:=63) (k:=12) (x:="_law_script") (F:=LK.F_law) rfl (by decide) rfl ⟨rfl,by decide,by decide,rfl⟩ (fun w K mg fa h HS X G hfa=>LK.all_mk HS X G hfa) LK.law_true
