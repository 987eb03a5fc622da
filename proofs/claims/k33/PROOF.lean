import PyProof.Rows.All
import Wide.All
import OpenK.AllK
import Wide.FinOn
import Lean
import PyProof.EqAt
import PyProof.EqKinds
import PyProof.TupleCall
import PyProof.ExcBaseAll.ValueError
import PyProof.ZipIter
import KE.KIsAll
import KE.KTryMore
import PyProof.ExcArgsOwn
import PyProof.ExcAttrAll.ValueError
import KE.KLam
import KE.KNestM
import PyProof.NsDelKeeps
import PyProof.Rows.CatchPack
import PyProof.ReprRoads
import PyProof.Rows.FStr
import PyProof.ListRange
import PyProof.CollectIter
import KE.KRevSl
import PyProof.ExcInit
import PyProof.ExcClass2
import PyProof.InstStore
import PyProof.InstStoreFacts
import PyProof.InstLoad
import OpenK.KMore
import PyProof.Rows.StrKeys3
import PyProof.DictItemsLoops
import PyProof.DictTable
import PyProof.MeetsDictList
import PyProof.DictStraight
import PyProof.DictUpdate
import PyProof.ReprLen
import PySem.Challenge.RW_lineswitch_k33_how_many_have_so_many
set_option Elab.async false
set_option linter.all false
set_option maxRecDepth 100000
abbrev AE:=@PySem.Heap.get?_push_of_some
abbrev Ay:=@List.prefix_refl
abbrev qa2:=@List.getElem?_eq_some_iff
abbrev AW:=@List.getElem?_eq_getElem
abbrev AL:=@Nat.lt_of_lt_of_le
abbrev qa5:=@List.mem_cons
abbrev AB:=@PySem.Heap.lt_size
abbrev A6:=@List.mem_cons_of_mem
abbrev AZ:=@List.size_toArray
abbrev A3:=@List.mem_cons_self
abbrev AD:=@Nat.le_refl
abbrev Bi:=@List.getElem?_set_ne
abbrev Bj:=@PySem.Heap.get?_push_size
abbrev qaD:=@List.mem_singleton
abbrev BR:=@List.getElem?_set_self
abbrev BI:=@Bool.false_ne_true
abbrev Bf:=@List.map_cons
abbrev BX:=@List.getElem?_map
abbrev BD:=@Nat.ne_of_lt
abbrev BY:=@List.map_append
abbrev BM:=@Nat.le_trans
abbrev CW:=@List.mem_append_right
abbrev qaM:=@List.mem_map
abbrev DO:=@List.getD_eq_getElem?_getD
abbrev qaO:=@List.all_eq_true
abbrev B7:=@List.sum_append
abbrev CD:=@Bool.false_eq_true
abbrev BS:=@Nat.ne_of_gt
abbrev Dk:=@List.map_congr_left
abbrev Ez:=@List.getElem?_append_left
abbrev Cs:=@List.range_succ
abbrev CF:=@Bool.and_eq_true
abbrev Ck:=@PySem.Heap.size_push
abbrev CG:=@List.not_mem_nil
abbrev qaY:=@Option.map_eq_some_iff
abbrev qaZ:=@List.mem_append
abbrev CH:=@List.length_map
abbrev B8:=@List.map_map
abbrev CI:=@Nat.lt_irrefl
abbrev CJ:=@List.sum_cons
abbrev EA:=@Nat.pow_le_pow_right
abbrev E5:=@List.mem_of_getElem?
abbrev E6:=@List.replicate_succ
abbrev DP:=@List.find?_cons
abbrev EB:=@Nat.le_add_right
abbrev ED:=@List.cons_append
abbrev qbA:=@List.mem_range
abbrev FA:=@List.getElem?_range
abbrev HK:=@List.getElem?_append_right
abbrev E7:=@List.length_cons
abbrev FB:=@List.length_append
abbrev FC:=@List.flatten_cons
abbrev FD:=@Nat.lt_succ_of_lt
abbrev GL:=@List.filterMap_cons
abbrev FE:=@List.lookup_cons
abbrev FG:=@List.ext_getElem
abbrev HL:=@Nat.testBit_lt_two_pow
abbrev GM:=@List.prefix_append
abbrev qbM:=@List.nodup_cons
abbrev EF:=@Nat.zero_le
abbrev E8:=@Nat.le_of_lt
abbrev qbP:=@Option.isSome_iff_exists
abbrev GN:=@List.getElem_mem
abbrev qbR:=@Bool.eq_iff_iff
abbrev GO:=@List.append_nil
abbrev GP:=@List.nil_append
abbrev GQ:=@List.length_nil
abbrev HM:=@List.all_eq_false
abbrev FH:=@List.map_nil
abbrev Jo:=@List.length_filter_le
abbrev GR:=@Nat.mul_le_mul
abbrev Jp:=@List.mem_append_left
abbrev HN:=@Nat.le_of_not_lt
abbrev GS:=@List.any_cons
abbrev Jq:=@List.getElem_of_mem
abbrev Lj:=@List.drop_eq_getElem_cons
abbrev HP:=@Option.map_some
abbrev GT:=@Nat.succ_mul
abbrev Lk:=@List.eq_of_mem_replicate
abbrev Ll:=@List.getElem?_replicate
abbrev qc8:=@List.length_eq_zero_iff
abbrev Jr:=@Int.toNat_natCast
abbrev Lm:=@PySem.Heap.get?_update_other
abbrev GU:=@Nat.le_succ
abbrev Js:=@List.length_take
abbrev Ln:=@PySem.Heap.get?_update_self
abbrev Jt:=@List.of_mem_zip
abbrev HQ:=@Nat.add_comm
abbrev HU:=@Nat.mul_comm
abbrev Lo:=@List.mem_of_mem_take
abbrev Lp:=@List.mem_of_mem_drop
namespace L2
open PySem PySem.Spec PyProof.Rows
abbrev Sz:=Sum Int Str
inductive V where
 |non |bl (b:Bool) |int (i:Int) |str (x:Str) |byt (b:Array UInt8) |flt (b:UInt64) |ref (a:Addr) |ty (n:String)
 deriving DecidableEq
def RelV:V→Value→Prop
 |.non,u=>u=Value.none
 |.bl b,u=>u=Value.bool b
 |.int i,u=>∃t,u=Value.int i t
 |.str x,u=>∃t,u=Value.str x t
 |.byt b,u=>∃t,u=Value.bytes b t
 |.flt b,u=>∃t,u=Value.float b t
 |.ref a,u=>u=Value.ref a
 |.ty n,u=>u=Value.type n
abbrev Vals:List V→List Value→Prop:=Paired RelV
theorem Vals.length {xs:List V} {us:List Value} (r:Vals xs us):xs.length=us.length:=Paired.length r
theorem Vals.get:∀{xs:List V} {us:List Value} {i:Nat} {x:V},Vals xs us→xs[i]?=some x→∃u,us[i]?=some u∧RelV x u
 |_,_,_,_,.nil,e=>by simp at e
 |_,_,0,_,.cons r _,e=>by simp at e;subst e;exact ⟨_,rfl,r⟩
 |_,_,i+1,x,.cons _ t,e=>by
  obtain ⟨u,h1,h2⟩:=Vals.get (i:=i) (x:=x) t (by simpa using e)
  exact ⟨u,by simpa using h1,h2⟩
theorem Vals.set {x:V} {u:Value} (r:RelV x u):∀{xs:List V} {us:List Value} (i:Nat),Vals xs us→Vals (xs.set i x) (us.set i u)
 |_,_,_,.nil=>.nil
 |_,_,0,.cons _ t=>.cons r t
 |_,_,i+1,.cons q t=>.cons q (Vals.set r i t)
theorem Vals.append:∀{xs ys:List V} {us ws:List Value},Vals xs us→Vals ys ws→Vals (xs++ys) (us++ws)
 |_,_,_,_,.nil,s=>s
 |_,_,_,_,.cons r t,s=>.cons r (Vals.append t s)
theorem Vals.take:∀{xs:List V} {us:List Value} (n:Nat),Vals xs us→Vals (xs.take n) (us.take n)
 |_,_,0,_=>.nil
 |_,_,_+1,.nil=>.nil
 |_,_,n+1,.cons r t=>.cons r (Vals.take n t)
theorem Vals.drop:∀{xs:List V} {us:List Value} (n:Nat),Vals xs us→Vals (xs.drop n) (us.drop n)
 |_,_,0,r=>r
 |_,_,_+1,.nil=>.nil
 |_,_,n+1,.cons _ t=>Vals.drop n t
def SA:Option V→Option Value→Prop
 |some v,some u=>RelV v u
 |none,none=>True
 |_,_=>False
def kV:Sz→V
 |.inl i=>.int i
 |.inr x=>.str x
inductive HO where
 |lst (xs:List V)
 |tup (xs:List V)
 |own (x:Addr)
 |xd (fs:List (Str×V))
 |frz (o:Obj) (u:HO)
 |tbl (ps:Array Value)
 |ext (φ:Heap→Prop)
 |mex (φ:Heap→Prop)
 |dct (φ:Heap→Prop)
abbrev Hp:=Addr→Option HO
def Am (H:Hp) (a:Addr) (o:HO):Hp:=fun b=>if b=a then some o else H b
theorem Bx {H:Hp} {a:Addr} {o:HO}:Am H a o a=some o:=by unfold Am;rw [if_pos rfl]
theorem An {H:Hp} {a b:Addr} {o:HO} (h:b≠a):Am H a o b=H b:=by unfold Am;rw [if_neg h]
theorem Bg {H:Hp} {a b:Addr} {o:HO} (h:H a=some o) (h':H b=none):a≠b:=by
 intro e;subst e;rw [h] at h';cases h'
section
variable (P:Program) (w:World)
inductive N9 (h:Heap) (a:Addr) (xs:List V):Prop where
 |mk (f1:xs.length≤sizeLine) (its:List Value) (n:Nat) (f2:Vals xs its) (f3:h.get? a=some {cls:=.type "list",data:=.seq its.toArray n}):N9 h a xs
def NoDict (h:Heap) (a:Addr):Prop:=∀o,h.get? a=some o→o.dict=none
inductive Oa (h:Heap) (a:Addr) (xs:List V):Prop where
 |mk (f1:xs.length≤sizeLine) (its:List Value) (f2:Vals xs its) (f3:IsTup h a its.toArray) (f4:NoDict h a):Oa h a xs
theorem NoDict.new {h:Heap} {o:Obj} (hd:o.dict=none:=by rfl) (hf:o.isFreed=false:=by rfl):NoDict (h.push o) h.objs.size:=fun u e=>by
 rw [Bj _ hf] at e
 cases e
 exact hd
def ObjOk (P:Program) (w:World) (H:Hp) (h:Heap) (a:Addr):HO→Prop
 |.lst xs=>N9 h a xs
 |.tup xs=>Oa h a xs
 |.own _=>∃o,h.get? a=some o
 |.xd fs=>∃mA,h.Ns1 a mA∧∀f,SA (fs.lookup f) (mA f)
 |.frz o u=>h.get? a=some o∧ObjOk P w H h a u
 |.tbl ps=>h.get? a=some {cls:=.none,data:=.fields ps}
 |.ext φ=>φ h∧(∃o,h.get? a=some o)∧∀h1 h2:Heap,φ h1→(∀o,h1.get? a=some o→h2.get? a=some o)→φ h2
 |.mex φ=>φ h∧(∃o,h.get? a=some o)∧∀h1 h2:Heap,φ h1→(∀o,h1.get? a=some o→h2.get? a=some o)→φ h2
 |.dct φ=>φ h∧(∃o,h.get? a=some o)∧∀h1 h2:Heap,φ h1→(∀o,h1.get? a=some o→h2.get? a=some o)→φ h2
def HOk (H:Hp) (h:Heap):Prop:=∀a o,H a=some o→ObjOk P w H h a o
end
section
variable {P:Program} {w:World} {H H':Hp} {h h':Heap} {a:Addr} {o:HO}
theorem ObjOk.lt (x:ObjOk P w H h a o):a<h.objs.size:=by
 cases o with
 |lst xs=>obtain ⟨_,_,_,_,e⟩:=x;exact AB e
 |tup xs=>obtain ⟨_,_,_,p,_⟩:=x;exact p.lt
 |own y=>obtain ⟨_,e⟩:=x;exact AB e
 |xd fs=>obtain ⟨_,⟨_,_,_,e,_⟩,_⟩:=x;exact AB e
 |frz ob u=>obtain ⟨e,_⟩:=x;exact AB e
 |tbl ps=>exact AB (show h.get? a=some _ from x)
 |ext φ=>obtain ⟨_,⟨_,e⟩,_⟩:=x;exact AB e
 |mex φ=>obtain ⟨_,⟨_,e⟩,_⟩:=x;exact AB e
 |dct φ=>obtain ⟨_,⟨_,e⟩,_⟩:=x;exact AB e
theorem ObjOk.stay (x:ObjOk P w H h a o) (k:∀b u,(b=a∨H b=some (.own a))→h.get? b=some u→h'.get? b=some u)
 (ho:∀b,H b=some (.own a)→H' b=some (.own a)) (ht:∀b xs,H b=some (.tup xs)→H' b=some (.tup xs)):ObjOk P w H' h' a o:=by
 induction o with
 |lst xs=>obtain ⟨z,its,n,r,e⟩:=x;exact ⟨z,its,n,r,k _ _ (.inl rfl) e⟩
 |tup xs=>obtain ⟨z,its,r,⟨ob,e,c⟩,nd⟩:=x;exact ⟨z,its,r,⟨ob,k _ _ (.inl rfl) e,c⟩,fun o e2=>by rw [k _ _ (.inl rfl) e] at e2;cases e2;exact nd _ e⟩
 |own y=>obtain ⟨ob,e⟩:=x;exact ⟨ob,k _ _ (.inl rfl) e⟩
 |xd fs=>obtain ⟨mA,⟨od,es,ep,e,c⟩,r⟩:=x;exact ⟨mA,⟨od,es,ep,k _ _ (.inl rfl) e,c⟩,r⟩
 |frz ob u ih=>obtain ⟨e,q⟩:=x;exact ⟨k _ _ (.inl rfl) e,ih q⟩
 |tbl ps=>
  have e:h.get? a=some {cls:=.none,data:=.fields ps}:=x
  show h'.get? a=some {cls:=.none,data:=.fields ps}
  exact k a _ (.inl rfl) e
 |ext φ=>obtain ⟨p,⟨o,e⟩,st⟩:=x;exact ⟨st _ _ p fun o q=>k _ _ (.inl rfl) q,⟨o,k _ _ (.inl rfl) e⟩,st⟩
 |mex φ=>obtain ⟨p,⟨o,e⟩,st⟩:=x;exact ⟨st _ _ p fun o q=>k _ _ (.inl rfl) q,⟨o,k _ _ (.inl rfl) e⟩,st⟩
 |dct φ=>obtain ⟨p,⟨o,e⟩,st⟩:=x;exact ⟨st _ _ p fun o q=>k _ _ (.inl rfl) q,⟨o,k _ _ (.inl rfl) e⟩,st⟩
theorem HOk.lt (x:HOk P w H h) (e:H a=some o):a<h.objs.size:=(x a o e).lt
theorem HOk.fresh (x:HOk P w H h) (e:h.objs.size≤a):H a=none:=by
 cases q:H a with
 |none=>rfl
 |some u=>exact absurd (AL (x.lt q) e) (CI _)
theorem HOk.kept (x:HOk P w H h) (k:∀b u,h.get? b=some u→h'.get? b=some u):HOk P w H h':=fun a o e=>
 (x a o e).stay (fun b u _ q=>k b u q) (fun _ q=>q) fun _ _ q=>q
theorem HOk.laid (x:HOk P w H h) (k:∀b u,h.get? b=some u→h'.get? b=some u) (hp:h.objs.size≤a) (new:ObjOk P w (Am H a o) h' a o):HOk P w (Am H a o) h':=fun b u e=>by
 have hn:=x.fresh hp
 by_cases hb:b=a
 ·subst hb;rw [Bx] at e;cases e;exact new
 ·rw [An hb] at e
  exact (x b u e).stay (fun c v _ q=>k c v q) (fun c q=>by rw [An (Bg q hn)];exact q) fun c xs q=>by rw [An (Bg q hn)];exact q
end
def Rd (H:Hp) (a:Addr) (u:HO):Prop:=H a=some u∨∃o,H a=some (.frz o u)
theorem Rd.ok {P:Program} {w:World} {H:Hp} {h:Heap} {a:Addr} {u:HO} (r:Rd H a u) (x:HOk P w H h):ObjOk P w H h a u:=by
 rcases r with r |⟨o,r⟩
 ·exact x a u r
 ·obtain ⟨_,q⟩:=x a _ r
  exact q
def Ju:Option HO→Prop
 |some (.lst _)=>True
 |some (.ext _)=>True
 |some (.mex _)=>True
 |some (.dct _)=>True
 |_=>False
section
variable {P:Program} {w:World} {H:Hp} {h h':Heap} {x e:Addr} {o':HO}
theorem HOk.write (ok:HOk P w H h) (mu:Ju (H x)) (he:e=x∨H e=some (.own x)) (k:∀b u,b≠e→h.get? b=some u→h'.get? b=some u) (heo:∃u,h'.get? e=some u)
 (new:ObjOk P w (Am H x o') h' x o'):HOk P w (Am H x o') h':=fun b u q=>by
 have nown:∀c y,H c=some (.own y)→c≠x:=fun c y r z=>by subst z;rw [r] at mu;exact mu
 have ntup:∀c xs,H c=some (.tup xs)→c≠x:=fun c xs r z=>by subst z;rw [r] at mu;exact mu
 by_cases hb:b=x
 ·subst hb;rw [Bx] at q;cases q;exact new
 ·rw [An hb] at q
  by_cases hbe:b=e
  ·have q':H b=some (.own x):=by
    rcases he with z |z
    ·exact absurd (hbe.trans z) hb
    ·rw [hbe];exact z
   rw [q] at q';cases q'
   obtain ⟨v,hv⟩:=heo
   exact ⟨v,by rw [hbe];exact hv⟩
  ·refine (ok b u q).stay (fun c v hc r=>k c v ?_ r) (fun c r=>by rw [An (nown c b r)];exact r) fun c xs r=>by rw [An (ntup c xs r)];exact r
   rcases hc with rfl |hc
   ·exact hbe
   ·rintro rfl
    rcases he with z |z
    ·exact nown c b hc z
    ·rw [hc] at z;cases z;exact hb rfl
end
structure Un (fs ex:List Addr) (H H':Hp) (h h':Heap):Prop where
 keep:∀b o,h.get? b=some o→H b=none→b∉fs→b∉ex→h'.get? b=some o
 slot:∀b o,h.get? b=some o→H b=none→b∈fs→b∉ex→∃sl,h'.get? b=some {o with slots:=sl}
 free:∀b o,h.get? b=some o→H b=none→b∉ex→H' b=none
 there:∀b o,h.get? b=some o→b∉ex→∃o',h'.get? b=some o'
 tups:∀b xs,H b=some (.tup xs)→H' b=some (.tup xs)
 frzs:∀b o u,H b=some (.frz o u)→H' b=some (.frz o u)
 tbls:∀b ps,H b=some (.tbl ps)→∃more,H' b=some (.tbl (ps++more))
section
variable {fs fs' ex ex':List Addr} {H H1 H2:Hp} {h h1 h2 h':Heap} {a x e:Addr} {o:HO}
theorem Un.any (u:Un fs ex H H1 h h1) {b:Addr} {ob:Obj} (q:h.get? b=some ob) (n:H b=none) (hx:b∉ex):∃sl,h1.get? b=some {ob with slots:=sl}:=by
 by_cases hb:b∈fs
 ·exact u.slot b ob q n hb hx
 ·exact ⟨ob.slots,u.keep b ob q n hb hx⟩
theorem Un.kept (k:∀b u,h.get? b=some u→h'.get? b=some u):Un fs ex H H h h':=
 ⟨fun b ob q _ _ _=>k b ob q,fun b ob q _ _ _=>⟨ob.slots,k b ob q⟩,fun _ _ _ n _=>n,fun b ob q _=>⟨ob,k b ob q⟩,fun _ _ q=>q,fun _ _ _ q=>q,fun _ ps q=>⟨#[],by rw [q];simp⟩⟩
theorem Un.refl:Un fs ex H H h h:=Un.kept fun _ _ q=>q
theorem Un.laid (k:∀b u,h.get? b=some u→h'.get? b=some u) (hp:h.objs.size≤a) (hn:H a=none):Un fs ex H (Am H a o) h h' where
 keep:=fun b u q _ _ _=>k b u q
 slot:=fun b u q _ _ _=>⟨u.slots,k b u q⟩
 free:=fun b u q n _=>by rw [An (BD (AL (AB q) hp))];exact n
 there:=fun b u q _=>⟨u,k b u q⟩
 tups:=fun b xs q=>by rw [An (Bg q hn)];exact q
 frzs:=fun b u xs q=>by rw [An (Bg q hn)];exact q
 tbls:=fun b ps q=>⟨#[],by rw [An (Bg q hn),q];simp⟩
theorem Un.write (mu:Ju (H x)) (he:e=x∨H e=some (.own x)) (k:∀b u,b≠e→h.get? b=some u→h'.get? b=some u) (heo:∃u,h'.get? e=some u):Un fs ex H (Am H x o) h h':=by
 have hx:∀b,H b=none→b≠x:=fun b n z=>by subst z;rw [n] at mu;exact mu
 have hb:∀b,H b=none→b≠e:=fun b n z=>by
  subst z
  rcases he with r |r
  ·exact hx b n r
  ·rw [n] at r;cases r
 have hm:∀b u,H b=some u→¬Ju (some u)→b≠x:=fun b u q nm z=>by subst z;rw [q] at mu;exact nm mu
 refine ⟨fun b u q n _ _=>k b u (hb b n) q,fun b u q n _ _=>⟨u.slots,k b u (hb b n) q⟩,fun b u q n _=>by rw [An (hx b n)];exact n,fun b u q _=>?_,
  fun b xs q=>by rw [An (hm b _ q fun z=>z)];exact q,fun b u xs q=>by rw [An (hm b _ q fun z=>z)];exact q,fun b ps q=>⟨#[],by rw [An (hm b _ q fun z=>z),q];simp⟩⟩
 by_cases hbe:b=e
 ·subst hbe;exact heo
 ·exact ⟨u,k b u hbe q⟩
end
def Jv (h:Heap) (H:Hp):List Addr:=(List.range h.objs.size).filter fun a=>(H a).isSome
def DQ (h:Heap) (H:Hp):Heap:=PySem.W.hideAll h (Jv h H)
theorem SB (h:Heap) (H:Hp):(DQ h H).objs.size=h.objs.size:=PySem.W.hideAll_size _ _
theorem SC {h:Heap} {H:Hp} {b:Addr} {o:Obj} (e:h.get? b=some o) (n:H b=none):(DQ h H).get? b=some o:=
 PySem.W.hideAll_get _ e fun hm=>by
  have q:(H b).isSome=true:=(List.mem_filter.mp hm).2
  rw [n] at q;simp at q
theorem SD {h:Heap} {H:Hp} {b:Addr} {o:Obj} (e:(DQ h H).get? b=some o):h.get? b=some o∧H b=none:=by
 have e':h.get? b=some o:=PySem.W.of_hideAll (Jv h H) e
 refine ⟨e',?_⟩
 cases q:H b with
 |none=>rfl
 |some x=>
  have hm:b∈Jv h H:=List.mem_filter.mpr ⟨qbA.mpr (AB e'),by simp [q]⟩
  have z:(DQ h H).get? b=none:=PySem.W.hideAll_none (Jv h H) hm
  rw [z] at e;cases e
def SE (g h:Heap) (L:Addr):List (Addr×Obj):=(List.range h.objs.size).filterMap fun a=>if a=L∨(g.get? a).isSome=true then none else (h.get? a).map fun o=>(a,o)
def rest (g h:Heap) (L d:Addr):List (Addr×Obj):=(SE g h L).filter fun p=>decide (p.1≠d)
structure Mod (K:PySem.W.Frag) (mg:Str→Option Value) (base:Heap):Prop where
 kin:K.In base
 glob:base.Ns mainGlobals mg
 blt:∃mb,base.Ns builtinsNs mb∧∀x:Str,x≠"__name__"→mb x=bootBuiltins x
 nolimit:base.NoLimit
structure Cx where
 prog:Program
 w:World
 K:PySem.W.Frag
 mg:Str→Option Value
 base:Heap
 A:Around
 N:List Str
 s₀:Shared
 H₀:Hp
 env:Env
 outer:List Env
 stack:List Env
 ex:List Addr
 fn:Str→Bool
 calm:Bool
 pn:List (Addr×Obj)
 xe:Value→Shared→Prop
def frs (l:List Env):List Addr:=l.filterMap (·.frame)
abbrev Cx.fs (X:Cx):List Addr:=frs X.outer
def Jw (sc:Scope) (x:Str):Prop:=sc.names.lookup x=some .local∨sc.names.lookup x=some .cell∨sc.names.lookup x=some .free
def GV (sc:Scope) (x:Str):Prop:=sc.names.lookup x=some .local∨sc.names.lookup x=some .cell
def Ob (env:Env) (h:Heap) (m:Str→Option Value) (x:Str) (u:Value):Prop:=
 (env.kindOf x=some .local∧m x=some u)∨((env.kindOf x=some .cell∨env.kindOf x=some .free)∧∃c,env.cells.lookup x=some c∧h.IsCell c (some u))
structure Cx.Ok (X:Cx):Prop where
 mod:Mod X.K X.mg X.base
 kind:X.env.scope.kind=.function
 glob:X.env.globals=mainGlobals
 blt:X.env.builtins=builtinsNs
 above:X.s₀.heap.objs.size≤X.env.locals
 inj:∀x y c,X.env.cells.lookup x=some c→X.env.cells.lookup y=some c→x=y
 has:∀x,(X.env.kindOf x=some .cell∨X.env.kindOf x=some .free)→∃c,X.env.cells.lookup x=some c
 cab:∀x c,X.fn x=true→X.env.cells.lookup x=some c→X.s₀.heap.objs.size≤c
 hd:X.calm=true→X.A.handled=none
 frames:X.A.frames=some X.stack
 stk:X.stack=X.outer∨(X.stack=X.env::X.outer∧X.env.frame=some X.env.locals)
 exf:∀b∈X.ex,b≠X.env.locals∧∀x c,X.env.cells.lookup x=some c→c≠b
 bs:∀b o,X.base.get? b=some o→X.s₀.heap.get? b=some o∧X.H₀ b=none
 bsz:X.base.objs.size≤X.s₀.heap.objs.size
 noex:∀b o,X.base.get? b=some o→b∉X.ex
 exfs:∀b∈X.ex,b∉X.fs
 funs:X.s₀.heap.FunFrames X.base X.outer
 frf:∀b∈X.fs,X.H₀ b=none
structure Inv (X:Cx) (pins:List (Addr×Obj)) (σ:List (Option V)) (H:Hp) (s:Shared):Prop where
 ok:X.Ok
 os:s.os=X.s₀.os
 bare:AllBare s.gens
 base:Un X.fs X.ex X.H₀ H X.s₀.heap s.heap
 loc:∃m,s.heap.Ns X.env.locals m∧∀(i:Nat) (x:Str) (v:V),X.N[i]?=some x→σ[i]?=some (some v)→Jw X.env.scope x→∃u,RelV v u∧Ob X.env s.heap m x u
 cell:∀x c,X.env.cells.lookup x=some c→∃v,s.heap.IsCell c v
 free:H X.env.locals=none
 freeC:∀x c,X.env.cells.lookup x=some c→H c=none
 pin:∀p∈X.pn++pins,s.heap.get? p.1=some p.2∧H p.1=none∧p.1≠X.env.locals∧p.1∉X.fs∧∀v,p.2.data≠.cell v
 hok:HOk X.prog X.w H s.heap
 len:σ.length=X.N.length
section
variable {X:Cx} {pins:List (Addr×Obj)} {σ:List (Option V)} {H H':Hp} {s:Shared} {h':Heap}
theorem Cx.Ok.nofr (ok:X.Ok) {b:Addr} {o:Obj} (e:X.base.get? b=some o):b∉X.fs:=fun hb=>by
 have:=(ok.funs.mem hb).1
 rw [e] at this;cases this
theorem Inv.bs (I:Inv X pins σ H s):∀b o,X.base.get? b=some o→s.heap.get? b=some o∧H b=none:=fun b o e=>
 ⟨I.base.keep b o (I.ok.bs b o e).1 (I.ok.bs b o e).2 (I.ok.nofr e) (I.ok.noex b o e),I.base.free b o (I.ok.bs b o e).1 (I.ok.bs b o e).2 (I.ok.noex b o e)⟩
theorem Inv.bk (I:Inv X pins σ H s):∀b o,X.base.get? b=some o→s.heap.get? b=some o:=fun b o e=>(I.bs b o e).1
theorem Inv.mod (I:Inv X pins σ H s):Mod X.K X.mg X.base:=I.ok.mod
theorem Inv.kIn (I:Inv X pins σ H s):X.K.In s.heap:=I.ok.mod.kin.keeps I.bk
theorem Inv.nolimit (I:Inv X pins σ H s):s.heap.NoLimit:=I.ok.mod.nolimit.keeps I.bk
theorem Inv.lt (I:Inv X pins σ H s):X.env.locals<s.heap.objs.size:=let ⟨_,hn,_⟩:=I.loc;hn.lt
theorem Inv.sz (I:Inv X pins σ H s):X.s₀.heap.objs.size≤s.heap.objs.size:=BM I.ok.above (E8 I.lt)
theorem Inv.nofs (I:Inv X pins σ H s) {a:Addr} (h:s.heap.objs.size≤a):a∉X.fs:=fun hb=>by
 obtain ⟨_,o,ho,_⟩:=I.ok.funs.mem hb
 exact absurd (AL (AB ho) (BM I.sz h)) (CI _)
theorem Inv.cne (I:Inv X pins σ H s):∀x c,X.env.cells.lookup x=some c→c≠X.env.locals:=fun x c e z=>by
 obtain ⟨v,o,ho,hd⟩:=I.cell x c e
 obtain ⟨m,⟨o',es,ep,ho',hd',_⟩,_⟩:=I.loc
 rw [z,ho'] at ho;cases ho;rw [hd'] at hd;cases hd
theorem Inv.funs (I:Inv X pins σ H s):s.heap.FunFrames X.base X.outer:=by
 have all:∀(l:List Env),(∀b∈frs l,b∈X.fs)→X.s₀.heap.FunFrames X.base l→s.heap.FunFrames X.base l:=by
  intro l
  induction l with
  |nil=>intro _ _;trivial
  |cons env r ih=>
   intro hs hl
   obtain ⟨hk,⟨L,o,hf,hn,ho,hd⟩,hr⟩:=hl
   have hL:L∈X.fs:=hs L (by unfold frs;rw [GL,hf];exact A3)
   obtain ⟨sl,e⟩:=I.base.slot L o ho (I.ok.frf L hL) hL fun z=>I.ok.exfs L z hL
   exact ⟨hk,⟨L,_,hf,hn,e,hd⟩,ih (fun b hb=>hs b (by unfold frs;rw [GL,hf];exact A6 _ hb)) hr⟩
 exact all X.outer (fun _ hb=>hb) I.ok.funs
theorem Inv.stack (I:Inv X pins σ H s):s.heap.FunFrames X.base X.stack:=by
 rcases I.ok.stk with e |⟨e,hf⟩
 ·rw [e];exact I.funs
 ·rw [e]
  obtain ⟨m,hn,_⟩:=I.loc
  refine .cons (by rw [I.ok.kind];decide) hf hn ?_ I.funs
  exact Heap.get?_none_of_le (BM I.ok.bsz I.ok.above)
theorem Inv.stkSub (I:Inv X pins σ H s):∀b∈frs X.stack,b∈X.env.locals::X.fs:=fun b hb=>by
 rcases I.ok.stk with e |⟨e,hf⟩
 ·rw [e] at hb;exact A6 _ hb
 ·rw [e] at hb
  unfold frs at hb
  rw [GL,hf] at hb
  exact hb
theorem Inv.stkFree (I:Inv X pins σ H s):∀b∈frs X.stack,H b=none:=fun b hb=>by
 rcases qa5.mp (I.stkSub b hb) with e |hb
 ·rw [e];exact I.free
 ·obtain ⟨_,o,ho,_⟩:=I.ok.funs.mem hb
  exact I.base.free b o ho (I.ok.frf b hb) fun z=>I.ok.exfs b z hb
theorem Inv.step {g':Array GenState} {t':Nat} {d':Drawn} {ch:List Addr} (I:Inv X pins σ H s)
 (hch:∀b∈ch,(b∈X.ex∨X.s₀.heap.objs.size≤b)∧b≠X.env.locals∧(∀x c,X.env.cells.lookup x=some c→c≠b)∧∀p∈X.pn++pins,p.1≠b)
 (keep:∀b o,b≠X.env.locals→b∉X.fs→b∉ch→s.heap.get? b=some o→H b=none→h'.get? b=some o)
 (slot:∀b o,b≠X.env.locals→b∈X.fs→b∉ch→s.heap.get? b=some o→H b=none→∃sl,h'.get? b=some {o with slots:=sl}) (free:∀b o,b∉ch→s.heap.get? b=some o→H b=none→H' b=none)
 (there:∀b o,b∉ch→s.heap.get? b=some o→∃o',h'.get? b=some o')
 (tups:∀b xs,H b=some (.tup xs)→H' b=some (.tup xs)) (frzs:∀b o u,H b=some (.frz o u)→H' b=some (.frz o u)) (tbls:∀b ps,H b=some (.tbl ps)→∃more,H' b=some (.tbl (ps++more)))
 (ns:∀m,s.heap.Ns X.env.locals m→h'.Ns X.env.locals m) (hok:HOk X.prog X.w H' h') (hg:AllBare g'):
 Inv X pins σ H' {s with heap:=h',gens:=g',drawn:=d',toks:=t'}:=by
 have neL:∀b o,X.s₀.heap.get? b=some o→b≠X.env.locals:=fun b o e=>BD (AL (AB e) I.ok.above)
 have neC:∀b o,X.s₀.heap.get? b=some o→b∉X.ex→b∉ch:=fun b o e hx hb=>by
  rcases (hch b hb).1 with z |z
  ·exact hx z
  ·exact absurd (AL (AB e) z) (CI _)
 have cellK:∀x c,X.env.cells.lookup x=some c→∀v,s.heap.IsCell c v→h'.IsCell c v:=fun x c e v z1_=>by
  obtain ⟨o,ho,hd⟩:=z1_
  have nch:c∉ch:=fun z=>(hch c z).2.2.1 x c e rfl
  by_cases hc:c∈X.fs
  ·obtain ⟨sl,q⟩:=slot c o (I.cne x c e) hc nch ho (I.freeC x c e)
   exact ⟨_,q,hd⟩
  ·exact ⟨o,keep c o (I.cne x c e) hc nch ho (I.freeC x c e),hd⟩
 refine ⟨I.ok,I.os,hg,⟨fun b o e n hb hx=>?_,fun b o e n hb hx=>?_,fun b o e n hx=>?_,fun b o e hx=>?_,fun b xs e=>tups b xs (I.base.tups b xs e),fun b o xs e=>frzs b o xs (I.base.frzs b o xs e),fun b ps e=>?_⟩,?_,fun x c e=>?_,?_,fun x c e=>?_,fun p hp=>?_,hok,I.len⟩
 ·exact keep b o (neL b o e) hb (neC b o e hx) (I.base.keep b o e n hb hx) (I.base.free b o e n hx)
 ·obtain ⟨sl,e1⟩:=I.base.slot b o e n hb hx
  obtain ⟨sl',e2⟩:=slot b _ (neL b o e) hb (neC b o e hx) e1 (I.base.free b o e n hx)
  exact ⟨sl',e2⟩
 ·obtain ⟨o',e1⟩:=I.base.there b o e hx
  exact free b o' (neC b o e hx) e1 (I.base.free b o e n hx)
 ·obtain ⟨o',e1⟩:=I.base.there b o e hx
  exact there b o' (neC b o e hx) e1
 ·obtain ⟨m1,e1⟩:=I.base.tbls b ps e
  obtain ⟨m2,e2⟩:=tbls b _ e1
  exact ⟨m1++m2,by rw [e2,Array.append_assoc]⟩
 ·obtain ⟨m,hn,hl⟩:=I.loc
  refine ⟨m,ns m hn,fun i x v e1 e2 e3=>?_⟩
  obtain ⟨u,r,l⟩:=hl i x v e1 e2 e3
  refine ⟨u,r,?_⟩
  rcases l with l |⟨k,c,e,z⟩
  ·exact .inl l
  ·exact .inr ⟨k,c,e,cellK x c e _ z⟩
 ·obtain ⟨v,z⟩:=I.cell x c e
  exact ⟨v,cellK x c e v z⟩
 ·obtain ⟨m,⟨o,_,_,ho,_⟩,_⟩:=I.loc
  exact free _ o (fun z=>(hch _ z).2.1 rfl) ho I.free
 ·obtain ⟨v,o,ho,hd⟩:=I.cell x c e
  exact free c o (fun z=>(hch c z).2.2.1 x c e rfl) ho (I.freeC x c e)
 ·obtain ⟨e,n,ne,nf,d⟩:=I.pin p hp
  have nch:p.1∉ch:=fun z=>(hch p.1 z).2.2.2 p hp rfl
  exact ⟨keep p.1 p.2 ne nf nch e n,free p.1 p.2 nch e n,ne,nf,d⟩
theorem Inv.un {t':Nat} (I:Inv X pins σ H s) (u:Un X.fs [] H H' s.heap h') (hok:HOk X.prog X.w H' h'):Inv X pins σ H' {s with heap:=h',toks:=t'}:=by
 obtain ⟨m,⟨o,es,ep,ho,r⟩,_⟩:=id I.loc
 obtain ⟨sl,hL⟩:=u.any ho I.free (by simp)
 exact I.step (g':=s.gens) (d':=s.drawn) (ch:=[]) (fun _ z=>nomatch z) (fun b o _ hb _ e n=>u.keep b o e n hb (by simp)) (fun b o _ hb _ e n=>u.slot b o e n hb (by simp)) (fun b o _ e n=>u.free b o e n (by simp)) (fun b o _ e=>u.there b o e (by simp)) u.tups u.frzs u.tbls (fun m' hm=>by
  obtain ⟨o',es',ep',ho',r'⟩:=hm
  rw [ho] at ho';cases ho'
  exact ⟨_,es',ep',hL,r'⟩) hok I.bare
theorem Inv.call {g':Array GenState} {t':Nat} {d':Drawn} {ch:List Addr} (I:Inv X pins σ H s) (u:Un (frs X.stack) ch H H' s.heap h') (hok:HOk X.prog X.w H' h') (hg:AllBare g')
 (hch:∀b∈ch,(b∈X.ex∨X.s₀.heap.objs.size≤b)∧b≠X.env.locals∧(∀x c,X.env.cells.lookup x=some c→c≠b)∧∀p∈X.pn++pins,p.1≠b):
 Inv X pins σ H' {s with heap:=h',gens:=g',drawn:=d',toks:=t'}:=by
 obtain ⟨m,⟨o,es,ep,ho,r⟩,_⟩:=id I.loc
 obtain ⟨sl,hL⟩:=u.any ho I.free fun z=>(hch _ z).2.1 rfl
 exact I.step (ch:=ch) hch (fun b o hL hb hc e n=>u.keep b o e n (fun z=>(qa5.mp (I.stkSub b z)).elim hL hb) hc) (fun b o _ _ hc e n=>u.any e n hc) (fun b o hc e n=>u.free b o e n hc) (fun b o hc e=>u.there b o e hc) u.tups u.frzs u.tbls (fun m' hm=>by
  obtain ⟨o',es',ep',ho',r'⟩:=hm
  rw [ho] at ho';cases ho'
  exact ⟨_,es',ep',hL,r'⟩) hok hg
theorem Inv.turned {t':Nat} {it:Addr} (I:Inv X pins σ H s) (k:∀b o,b≠it→s.heap.get? b=some o→h'.get? b=some o) (hn:H it=none) (hL:it≠X.env.locals)
 (h1:it∈X.ex∨X.s₀.heap.objs.size≤it) (h2:∀x c,X.env.cells.lookup x=some c→c≠it) (h3:∀p∈X.pn++pins,p.1≠it):Inv X pins σ H {s with heap:=h',toks:=t'}:=by
 have nit:∀b u,H b=some u→b≠it:=fun b u e z=>by rw [z,hn] at e;cases e
 refine I.step (g':=s.gens) (d':=s.drawn) (ch:=[it]) (fun b hb=>?_) (fun b o _ _ hc e _=>k b o (fun z=>hc (by simp [z])) e) (fun b o _ _ hc e _=>⟨o.slots,k b o (fun z=>hc (by simp [z])) e⟩) (fun _ _ _ _ n=>n)
  (fun b o hc e=>⟨o,k b o (fun z=>hc (by simp [z])) e⟩) (fun _ _ e=>e) (fun _ _ _ e=>e) (fun b ps e=>⟨#[],by rw [e];simp⟩) (fun m hm=>?_) (fun b u e=>?_) I.bare
 ·have e:b=it:=by simpa using hb
  subst e
  exact ⟨h1,hL,h2,h3⟩
 ·obtain ⟨o,es,ep,ho,r⟩:=hm
  exact ⟨o,es,ep,k _ o (Ne.symm hL) ho,r⟩
 ·refine (I.hok b u e).stay (fun c v hc q=>k c v ?_ q) (fun _ q=>q) fun _ _ q=>q
  rcases hc with z |z
  ·rw [z];exact nit b u e
  ·exact nit c _ z
theorem Inv.tok (I:Inv X pins σ H s) (t:Nat):Inv X pins σ H {s with toks:=t}:=I.un (h':=s.heap) (t':=t) Un.refl I.hok
theorem Inv.kept {t':Nat} (I:Inv X pins σ H s) (k:∀b u,s.heap.get? b=some u→h'.get? b=some u):Inv X pins σ H {s with heap:=h',toks:=t'}:=I.un (Un.kept k) (I.hok.kept k)
theorem Inv.laid {a:Addr} {o:HO} {t':Nat} (I:Inv X pins σ H s) (k:∀b u,s.heap.get? b=some u→h'.get? b=some u) (hp:s.heap.objs.size≤a) (new:ObjOk X.prog X.w (Am H a o) h' a o):
 Inv X pins σ (Am H a o) {s with heap:=h',toks:=t'}:=I.un (Un.laid k hp (I.hok.fresh hp)) (I.hok.laid k hp new)
theorem Inv.write {x e:Addr} {o:HO} {t':Nat} (I:Inv X pins σ H s) (mu:Ju (H x)) (he:e=x∨H e=some (.own x)) (k:∀b u,b≠e→s.heap.get? b=some u→h'.get? b=some u) (heo:∃u,h'.get? e=some u)
 (new:ObjOk X.prog X.w (Am H x o) h' x o):Inv X pins σ (Am H x o) {s with heap:=h',toks:=t'}:=I.un (Un.write mu he k heo) (I.hok.write mu he k heo new)
theorem Inv.weak {σ':List (Option V)} (I:Inv X pins σ H s) (hl:σ'.length=σ.length) (w:∀(i:Nat) v,σ'[i]?=some (some v)→σ[i]?=some (some v)):Inv X pins σ' H s:=
 ⟨I.ok,I.os,I.bare,I.base,let ⟨m,hn,hl'⟩:=I.loc;⟨m,hn,fun i x v e1 e2 e3=>hl' i x v e1 (w i v e2) e3⟩,I.cell,I.free,I.freeC,I.pin,I.hok,hl.trans I.len⟩
theorem Inv.pins_of {pins':List (Addr×Obj)} (I:Inv X pins σ H s) (h:∀p∈pins',s.heap.get? p.1=some p.2∧H p.1=none∧p.1≠X.env.locals∧p.1∉X.fs∧∀v,p.2.data≠.cell v):Inv X pins' σ H s:=
 ⟨I.ok,I.os,I.bare,I.base,I.loc,I.cell,I.free,I.freeC,fun p hp=>(qaZ.mp hp).elim (fun z=>I.pin p (Jp _ z)) (h p),I.hok,I.len⟩
theorem Lq {N:List Str} (hN:N.Nodup) {i j:Nat} {x:Str} (a:N[i]?=some x) (b:N[j]?=some x):i=j:=by
 obtain ⟨h1,e1⟩:=qa2.mp a
 obtain ⟨h2,e2⟩:=qa2.mp b
 exact (List.getElem_inj hN).mp (e1.trans e2.symm)
theorem Jx {M:Model} {A:Around} {E:Value→Shared→Prop} {i:Nat} {x:Str} {v:V} {u:Value} {Q:Unit→Shared→Prop} (I:Inv X pins σ H s) (hN:X.N.Nodup) (hi:X.N[i]?=some x) (hx:GV X.env.scope x) (r:RelV v u)
 (h:∀s',Inv X pins (σ.set i (some v)) H s'→(∃a,Heap.SameBut a s.heap s'.heap∧(a=X.env.locals∨X.env.cells.lookup x=some a))→Q () s') (hf:X.fn x=true∨X.env.scope.names.lookup x=some .local:=by first |exact .inl rfl |exact .inr rfl |assumption):wpAny M A (storeName X.env x u) Q E s:=by
 obtain ⟨m,hn,hl⟩:=id I.loc
 have hcls:(X.env.scope.kind==.class||(X.env.scope.kind==.module&&X.env.locals != X.env.globals))=false:=by rw [I.ok.kind];rfl
 have hiσ:i < σ.length:=by rw [I.len];exact (qa2.mp hi).1
 have cne:=I.cne
 have tracked:∀{a:Addr} {h':Heap},(∃o,s.heap.get? a=some o∧H a=none)→Heap.SameBut a s.heap h'→HOk X.prog X.w H h':=fun {a h'} ha hs b ob e=>by
  obtain ⟨_,_,hfree⟩:=ha
  refine (I.hok b ob e).stay (fun c w' hc q=>(hs.2 c ?_).trans q) (fun _ q=>q) fun _ _ q=>q
  rintro rfl
  rcases hc with rfl |hc
  ·rw [hfree] at e;cases e
  ·rw [hfree] at hc;cases hc
 rcases hx with hk |hk
 ·refine wpAny_storeName_local hk hn (fun h' hn' hs=>?_) hcls
  obtain ⟨oL,_,_,hoL,_⟩:=id hn
  refine h _ ⟨I.ok,I.os,I.bare,⟨fun b o e n hb hx=>?_,fun b o e n hb hx=>?_,I.base.free,fun b o e hx=>?_,I.base.tups,I.base.frzs,I.base.tbls⟩,⟨_,hn',fun j y v' e1 e2 e3=>?_⟩,fun y c e=>?_,I.free,I.freeC,fun p hp=>?_,tracked ⟨oL,hoL,I.free⟩ hs,by simpa using I.len⟩ ⟨_,hs,.inl rfl⟩
  ·exact (hs.2 b (BD (AL (AB e) I.ok.above))).trans (I.base.keep b o e n hb hx)
  ·obtain ⟨sl,e1⟩:=I.base.slot b o e n hb hx
   exact ⟨sl,(hs.2 b (BD (AL (AB e) I.ok.above))).trans e1⟩
  ·obtain ⟨o',e1⟩:=I.base.there b o e hx
   exact ⟨o',(hs.2 b (BD (AL (AB e) I.ok.above))).trans e1⟩
  ·by_cases hj:j=i
   ·subst hj
    rw [hi] at e1;cases e1
    rw [BR hiσ] at e2
    cases e2
    exact ⟨u,r,.inl ⟨hk,by simp⟩⟩
   ·rw [Bi (Ne.symm hj)] at e2
    obtain ⟨u',r',q⟩:=hl j y v' e1 e2 e3
    refine ⟨u',r',?_⟩
    rcases q with ⟨k,e⟩ |⟨k,c,e,z⟩
    ·refine .inl ⟨k,?_⟩
     have:y≠x:=fun e=>hj (Lq hN e1 (e ▸ hi))
     simp [this,e]
    ·exact .inr ⟨k,c,e,z.sameBut hs (cne y c e)⟩
  ·obtain ⟨w',z⟩:=I.cell y c e
   exact ⟨w',z.sameBut hs (cne y c e)⟩
  ·obtain ⟨e,n,ne,nf,d⟩:=I.pin p hp
   exact ⟨(hs.2 p.1 ne).trans e,n,ne,nf,d⟩
 ·have hfn:X.fn x=true:=by
   rcases hf with z |z
   ·exact z
   ·rw [z] at hk;cases hk
  obtain ⟨c,hc⟩:=I.ok.has x (.inl hk)
  obtain ⟨w',z⟩:=I.cell x c hc
  refine wpAny_storeName_cell I.ok.kind hk hc z (fun h' hc' hs=>?_)
  obtain ⟨oc,hoc,hocd⟩:=id z
  refine h {s with heap:=h'} ⟨I.ok,I.os,I.bare,⟨fun b o e n hb hx=>?_,fun b o e n hb hx=>?_,I.base.free,fun b o e hx=>?_,I.base.tups,I.base.frzs,I.base.tbls⟩,⟨m,hn.sameBut hs (Ne.symm (cne x c hc)),fun j y v' e1 e2 e3=>?_⟩,fun y c' e=>?_,I.free,I.freeC,fun p hp=>?_,tracked ⟨oc,hoc,I.freeC x c hc⟩ hs,by simpa using I.len⟩ ⟨c,hs,.inr hc⟩
  ·exact (hs.2 b (BD (AL (AB e) (I.ok.cab x c hfn hc)))).trans (I.base.keep b o e n hb hx)
  ·obtain ⟨sl,e1⟩:=I.base.slot b o e n hb hx
   exact ⟨sl,(hs.2 b (BD (AL (AB e) (I.ok.cab x c hfn hc)))).trans e1⟩
  ·obtain ⟨o',e1⟩:=I.base.there b o e hx
   exact ⟨o',(hs.2 b (BD (AL (AB e) (I.ok.cab x c hfn hc)))).trans e1⟩
  ·by_cases hj:j=i
   ·subst hj
    rw [hi] at e1;cases e1
    rw [BR hiσ] at e2
    cases e2
    exact ⟨u,r,.inr ⟨.inl hk,c,hc,hc'⟩⟩
   ·rw [Bi (Ne.symm hj)] at e2
    obtain ⟨u',r',q⟩:=hl j y v' e1 e2 e3
    refine ⟨u',r',?_⟩
    rcases q with q |⟨k,c',e,z'⟩
    ·exact .inl q
    ·refine .inr ⟨k,c',e,z'.sameBut hs ?_⟩
     rintro rfl
     exact hj (Lq hN e1 (I.ok.inj _ _ _ e hc ▸ hi))
  ·by_cases hcc:c'=c
   ·subst hcc;exact ⟨_,hc'⟩
   ·obtain ⟨w2,z2⟩:=I.cell y c' e
    exact ⟨w2,z2.sameBut hs hcc⟩
  ·obtain ⟨e,n,ne,nf,d⟩:=I.pin p hp
   refine ⟨(hs.2 p.1 ?_).trans e,n,ne,nf,d⟩
   intro q
   rw [q,hoc] at e
   have q':oc=p.2:=Option.some.inj e
   exact d w' (by rw [←q'];exact hocd)
theorem Jy {M:Model} {A:Around} {E:Value→Shared→Prop} {i:Nat} {x:Str} {v:V} {u:Value} {Q:Unit→Shared→Prop} (I:Inv X pins σ H s) (hN:X.N.Nodup) (hi:X.N[i]?=some x) (hx:GV X.env.scope x) (r:RelV v u)
 (h:∀s',Inv X pins (σ.set i (some v)) H s'→Q () s') (hf:X.fn x=true∨X.env.scope.names.lookup x=some .local:=by first |exact .inl rfl |exact .inr rfl |assumption):wpAny M A (storeName X.env x u) Q E s:=
 Jx I hN hi hx r (fun s' I' _=>h s' I') hf
theorem Inv.call' {s':Shared} {ch:List Addr} (I:Inv X pins σ H s) (ho:s'.os=s.os) (u:Un (frs X.stack) ch H H' s.heap s'.heap) (hok:HOk X.prog X.w H' s'.heap) (hg:AllBare s'.gens)
 (hch:∀b∈ch,(b∈X.ex∨X.s₀.heap.objs.size≤b)∧b≠X.env.locals∧(∀x c,X.env.cells.lookup x=some c→c≠b)∧∀p∈X.pn++pins,p.1≠b):Inv X pins σ H' s':=by
 obtain ⟨h',g',d',t',o'⟩:=s'
 have e:o'=s.os:=ho
 subst e
 exact I.call (g':=g') (t':=t') (d':=d') u hok hg hch
end
abbrev XK:=Value→Option Addr→Hp→Prop
abbrev St:=List (Option V)
abbrev VK:=V→Hp→Prop
abbrev TE:=St→Hp→VK→Prop
abbrev TT:=St→Hp→(Bool→Hp→Prop)→Prop
abbrev TA:=St→Hp→(List V→Hp→Prop)→Prop
structure Dl where
 nx:St→Hp→Prop
 rt:VK
 bk:St→Hp→Prop:=fun _ _=>False
 ct:St→Hp→Prop:=fun _ _=>False
abbrev TS:=Dl→St→Hp→Prop
inductive EP (X:Cx) (pins:List (Addr×Obj)) (σ:St) (Q:VK) (u:Value) (s':Shared):Prop where
 |mk (v:V) (H':Hp) (i:Inv X pins σ H' s') (r:RelV v u) (q:Q v H'):EP X pins σ Q u s'
inductive TP (X:Cx) (pins:List (Addr×Obj)) (σ:St) (Q:Bool→Hp→Prop) (b:Bool) (s':Shared):Prop where
 |mk (H':Hp) (i:Inv X pins σ H' s') (q:Q b H'):TP X pins σ Q b s'
inductive AP (X:Cx) (pins:List (Addr×Obj)) (σ:St) (Q:List V→Hp→Prop) (us:List Value) (s':Shared):Prop where
 |mk (vs:List V) (H':Hp) (i:Inv X pins σ H' s') (r:Vals vs us) (q:Q vs H'):AP X pins σ Q us s'
inductive SN (X:Cx) (pins:List (Addr×Obj)) (q:St→Hp→Prop) (s':Shared):Prop where
 |mk (σ':St) (H':Hp) (i:Inv X pins σ' H' s') (p:q σ' H'):SN X pins q s'
inductive SR (X:Cx) (pins:List (Addr×Obj)) (q:V→Hp→Prop) (u:Value) (s':Shared):Prop where
 |mk (v:V) (σ':St) (H':Hp) (i:Inv X pins σ' H' s') (r:RelV v u) (p:q v H'):SR X pins q u s'
def SP (X:Cx) (pins:List (Addr×Obj)) (D:Dl) (f:Flow) (s':Shared):Prop:=
 match f with
 |.next=>SN X pins D.nx s'
 |.brk=>SN X pins D.bk s'
 |.cont=>SN X pins D.ct s'
 |.ret u=>SR X pins D.rt u s'
def PE (X:Cx) (e:Expr) (t:TE):Prop:=
 ∀(pins:List (Addr×Obj)) (s:Shared) (σ:St) (H:Hp) (Q:VK),Inv X pins σ H s→t σ H Q→wpAny (model X.prog X.w) X.A (eval e X.env) (EP X pins σ Q) X.xe s
def PT (X:Cx) (e:Expr) (t:TT):Prop:=
 ∀(pins:List (Addr×Obj)) (s:Shared) (σ:St) (H:Hp) (Q:Bool→Hp→Prop),Inv X pins σ H s→t σ H Q→wpAny (model X.prog X.w) X.A (isTrue e X.env (eval e X.env)) (TP X pins σ Q) X.xe s
def PW (X:Cx) (e:Expr) (t:TT):Prop:=
 ∀(Eh:Sem Value) (pins:List (Addr×Obj)) (s:Shared) (σ:St) (H:Hp) (Q:Bool→Hp→Prop),Inv X pins σ H s→t σ H Q→wpAny (model X.prog X.w) X.A (isTrue e X.env Eh) (TP X pins σ Q) X.xe s
theorem PW.pt {X:Cx} {e:Expr} {t:TT} (h:PW X e t):PT X e t:=h _
def PA (X:Cx) (es:List Expr) (t:TA):Prop:=
 ∀(pos:Pos) (pins:List (Addr×Obj)) (s:Shared) (σ:St) (H:Hp) (Q:List V→Hp→Prop),Inv X pins σ H s→t σ H Q→wpAny (model X.prog X.w) X.A (spliced (backTo pos (starEach es X.env))) (AP X pins σ Q) X.xe s
def PS (X:Cx) (st:Stmt) (t:TS):Prop:=
 ∀(pins:List (Addr×Obj)) (s:Shared) (σ:St) (H:Hp) (D:Dl),Inv X pins σ H s→t D σ H→wpAny (model X.prog X.w) X.A (exec st X.env) (SP X pins D) X.xe s
def Dm (X:Cx) (st:List Stmt) (t:TS):Prop:=
 ∀(pins:List (Addr×Obj)) (s:Shared) (σ:St) (H:Hp) (D:Dl),Inv X pins σ H s→t D σ H→wpAny (model X.prog X.w) X.A (execs st X.env) (SP X pins D) X.xe s
theorem Av {α:Type} {t:Sem α} {Q Q':α→Shared→Prop} {M:Model} {A:Around} {E:Value→Shared→Prop} {s:Shared} (h:wpAny M A t Q E s) (hQ:∀a s,Q a s→Q' a s):wpAny M A t Q' E s:=wpAny_mono h hQ fun _ _ x=>x
section
variable {X:Cx}
def Lr (i:Nat):TE:=fun σ H Q=>∃v,σ[i]?=some (some v)∧Q v H
def tC (v:V):TE:=fun _ H Q=>Q v H
theorem Ls {i:Nat} {x:Str} {pos:Pos} (hN:X.N[i]?=some x) (hv:Jw X.env.scope x) (hd:(x==("__debug__":Str))=false:=by decide) (hcd:(x==("__classdict__":Str))=false:=by decide):PE X (.Name x pos) (Lr i):=by
 intro pins s σ H Q I h
 obtain ⟨v,e,h⟩:=h
 obtain ⟨m,hn,hl⟩:=I.loc
 obtain ⟨u,r,l⟩:=hl i x v hN e hv
 have AX:EP X pins σ Q u s:=⟨v,H,I,r,h⟩
 rcases l with ⟨hk,hm⟩ |⟨hk,c,hc,hcell⟩
 ·exact wpAny_Name (wpAny_loadName_local I.ok.kind hk hn hm AX) hd
 ·rcases hk with hk |hk
  ·exact wpAny_Name (wpAny_loadName_cell I.ok.kind hk hc hcell AX) hd
  ·exact wpAny_Name (wpAny_loadName_free I.ok.kind hk hc hcell AX hcd) hd
theorem SF {i j pos}:PE X (.Constant (.int i) j pos) (tC (.int i)):=fun _ _ _ H _ I h=>wpAny_Constant_int ⟨.int i,H,I.tok _,⟨_,rfl⟩,h⟩
theorem SG {b j pos}:PE X (.Constant (.bool b) j pos) (tC (.bl b)):=fun _ _ _ H _ I h=>Constant_bool ⟨.bl b,H,I,rfl,h⟩
theorem SH {j pos}:PE X (.Constant .none j pos) (tC .non):=fun _ _ _ H _ I h=>Constant_none ⟨.non,H,I,rfl,h⟩
theorem SI {x j pos}:PE X (.Constant (.str x) j pos) (tC (.str x)):=fun _ _ _ H _ I h=>Calls.Constant_str ⟨.str x,H,I.tok _,⟨_,rfl⟩,h⟩
def Gl (X:Cx) (x:Str):Prop:=X.env.kindOf x=some .globalImplicit
theorem FI {E:Value→Shared→Prop} {pins:List (Addr×Obj)} {s:Shared} {σ:St} {H:Hp} {x:Str} {u:Value} {pos:Pos} {Q:Value→Shared→Prop} (I:Inv X pins σ H s) (hg:Gl X x) (hm:X.mg x=some u) (h:Q u s)
 (hd:(x==("__debug__":Str))=false:=by decide):wpAny (model X.prog X.w) X.A (eval (.Name x pos) X.env) Q E s:=
 Calls.Name_function_global I.ok.kind hg (Calls.loadGlobal_global (by rw [I.ok.glob];exact I.mod.glob.keeps I.bk) hm h) hd
theorem FJ {E:Value→Shared→Prop} {pins:List (Addr×Obj)} {s:Shared} {σ:St} {H:Hp} {x:Str} {u:Value} {pos:Pos} {Q:Value→Shared→Prop} (I:Inv X pins σ H s) (hg:Gl X x) (hm:X.mg x=none) (hv:bootBuiltins x=some u) (h:Q u s)
 (hn:x≠"__name__":=by decide) (hd:(x==("__debug__":Str))=false:=by decide):wpAny (model X.prog X.w) X.A (eval (.Name x pos) X.env) Q E s:=by
 obtain ⟨mb,h1,h2⟩:=I.mod.blt
 exact Calls.Name_function_global I.ok.kind hg (Calls.loadGlobal_builtin (by rw [I.ok.glob];exact I.mod.glob.keeps I.bk) hm (by rw [I.ok.blt];exact h1.keeps I.bk) ((h2 x hn).trans hv) h) hd
theorem SJ {x:Str} {v:V} {u:Value} {pos:Pos} (hg:Gl X x) (hm:X.mg x=some u) (r:RelV v u) (hd:(x==("__debug__":Str))=false:=by decide):PE X (.Name x pos) (tC v):=
 fun _ _ _ H _ I h=>FI I hg hm ⟨v,H,I,r,h⟩ hd
theorem SK {x:Str} {v:V} {u:Value} {pos:Pos} (hg:Gl X x) (hm:X.mg x=none) (hv:bootBuiltins x=some u) (r:RelV v u) (hn:x≠"__name__":=by decide) (hd:(x==("__debug__":Str))=false:=by decide):PE X (.Name x pos) (tC v):=
 fun _ _ _ H _ I h=>FJ I hg hm hv ⟨v,H,I,r,h⟩ hn hd
variable {a b:Expr} {ta tb:TE} {pos:Pos}
variable {tA tB':TT} {rest:List Expr}
def SL (t u:TT):TT:=fun σ H Q=>t σ H fun c H1=>if c=true then Q true H1 else u σ H1 Q
def SM (t:TT):TT:=fun σ H Q=>t σ H fun c H1=>Q (!c) H1
theorem SO (ha:PT X a tA):PW X (.BoolOp .Or [a] pos) tA:=by
 intro wh pins s σ H Q I h
 refine isTrue_or (Av (ha pins s σ H Q I h) fun c s1 e=>?_)
 cases c with
 |false=>exact isTrue_or_nil e
 |true=>exact e
theorem SQ (ha:PT X a tA) (hb:PW X (.BoolOp .Or (b::rest) pos) tB'):PW X (.BoolOp .Or (a::b::rest) pos) (SL tA tB'):=by
 intro wh pins s σ H Q I h
 refine isTrue_or (Av (ha pins s σ H _ I h) fun c s1 z9_=>?_)
 obtain ⟨H1,I1,q1⟩:=z9_
 cases c with
 |true=>exact ⟨H1,I1,q1⟩
 |false=>exact hb wh pins s1 σ H1 Q I1 q1
theorem SS (ha:PT X a tA):PT X (.UnaryOp .Not a pos) (SM tA):=by
 intro pins s σ H Q I h
 exact isTrue_not (Av (ha pins s σ H (fun c H1=>Q (!c) H1) I h) fun c s1 z=>by cases z with |mk H1 I1 q=>exact ⟨H1,I1,q⟩)
def SU (ta tb:TE):TE:=fun σ H Q=>ta σ H fun x H1=>∃c,x=.bl c∧if c=true then tb σ H1 Q else Q (.bl false) H1
def Za3 (ta tb:TE):TE:=fun σ H Q=>ta σ H fun x H1=>∃c,x=.bl c∧if c=true then Q (.bl true) H1 else tb σ H1 Q
def SV (ta:TE):TE:=fun σ H Q=>ta σ H fun x H1=>∃c,x=.bl c∧Q (.bl (!c)) H1
theorem SW {op} {t:TE} (h:PE X a t):PE X (.BoolOp op [a] pos) t:=fun pins s σ H Q I hw=>BoolOp_one (h pins s σ H Q I hw)
theorem SY (ha:PE X a ta) (hb:PE X (.BoolOp .And (b::rest) pos) tb):PE X (.BoolOp .And (a::b::rest) pos) (SU ta tb):=by
 intro pins s σ H Q I h
 refine BoolOp_and (Av (ha pins s σ H _ I h) fun v s1 z10_=>?_)
 obtain ⟨x,H1,I1,r1,q1⟩:=z10_
 obtain ⟨c,rfl,q1⟩:=q1
 cases r1
 refine wpAny_truthy_bool ?_
 cases c with
 |true=>exact hb pins s1 σ H1 Q I1 q1
 |false=>exact ⟨.bl false,H1,I1,rfl,q1⟩
theorem SZ (ha:PE X a ta):PE X (.UnaryOp .Not a pos) (SV ta):=by
 intro pins s σ H Q I h
 refine UnaryOp_ (Av (ha pins s σ H _ I h) fun v s1 z12_=>?_)
 obtain ⟨x,H1,I1,r1,q1⟩:=z12_
 obtain ⟨c,rfl,q1⟩:=q1
 cases r1
 exact not_of (wpAny_truthy_bool ⟨.bl (!c),H1,I1,rfl,q1⟩)
def tIf (t:TT) (ta tb:TE):TE:=fun σ H Q=>t σ H fun c H1=>if c=true then ta σ H1 Q else tb σ H1 Q
end
def SqL (K:PySem.W.Frag) (H:Hp) (a:Addr) (xs:List V):Prop:=
 Rd H a (.lst xs)∨
  ∃(o:Obj) (its:Array Value) (n:Nat),K.lookup a=some o∧o.cls=.type "list"∧o.dict=none∧o.data=.seq its n∧its.size≤sizeLine∧Vals xs its.toList
def SqT (K:PySem.W.Frag) (H:Hp) (a:Addr) (xs:List V):Prop:=
 Rd H a (.tup xs)∨
  ∃(o:Obj) (its:Array Value) (n:Nat),K.lookup a=some o∧o.cls=.type "tuple"∧o.data=.seq its n∧its.size≤sizeLine∧Vals xs its.toList
def S3:Value→Option V
 |.none=>some .non
 |.bool b=>some (.bl b)
 |.int i _=>some (.int i)
 |.str x _=>some (.str x)
 |.bytes b _=>some (.byt b)
 |.float b _=>some (.flt b)
 |.ref a=>some (.ref a)
 |.type n=>some (.ty n)
 |_=>none
theorem RelV.abs {x:V} {u:Value} (r:RelV x u):S3 u=some x:=by
 cases x with
 |non=>cases r;rfl
 |bl _=>cases r;rfl
 |int _=>obtain ⟨t,rfl⟩:=r;rfl
 |str _=>obtain ⟨t,rfl⟩:=r;rfl
 |byt _=>obtain ⟨t,rfl⟩:=r;rfl
 |flt _=>obtain ⟨t,rfl⟩:=r;rfl
 |ref _=>cases r;rfl
 |ty _=>cases r;rfl
theorem RelV.inj {x y:V} {u:Value} (r:RelV x u) (q:RelV y u):x=y:=Option.some.inj (r.abs.symm.trans q.abs)
theorem Vals.inj {xs ys:List V} {us:List Value} (h:Vals xs us) (g:Vals ys us):xs=ys:=by
 induction h generalizing ys with
 |nil=>cases g;rfl
 |cons r t ih=>cases g with |cons r' t'=>rw [r.inj r',ih t']
section
variable {X:Cx} {pins:List (Addr×Obj)} {σ:St} {H:Hp} {s:Shared} {a:Addr} {xs ys:List V}
theorem SqL.of {K:PySem.W.Frag} (h:H a=some (.lst xs)):SqL K H a xs:=.inl (.inl h)
theorem SqT.of {K:PySem.W.Frag} (h:H a=some (.tup xs)):SqT K H a xs:=.inl (.inl h)
theorem Inv.list (I:Inv X pins σ H s) (h:SqL X.K H a xs):∃its:List Value,Vals xs its∧PlainL s.heap a its.toArray∧xs.length≤sizeLine:=by
 rcases h with h |⟨o,its,n,hk,hc,hd,hs,hz,r⟩
 ·obtain ⟨z,its,n,r,e⟩:=h.ok I.hok
  exact ⟨its,r,⟨_,n,e,rfl,rfl,rfl⟩,z⟩
 ·refine ⟨its.toList,r,⟨o,n,I.kIn a o hk,hc,hd,by simpa using hs⟩,?_⟩
  have e:=r.length
  simp only [Array.length_toList] at e
  omega
theorem Inv.tuple (I:Inv X pins σ H s) (h:SqT X.K H a xs):∃its:List Value,Vals xs its∧IsTup s.heap a its.toArray∧xs.length≤sizeLine:=by
 rcases h with h |⟨o,its,n,hk,hc,hs,hz,r⟩
 ·obtain ⟨z,its,r,p,_⟩:=h.ok I.hok
  exact ⟨its,r,p,z⟩
 ·refine ⟨its.toList,r,⟨o,I.kIn a o hk,hc,n,by simpa using hs⟩,?_⟩
  have e:=r.length
  simp only [Array.length_toList] at e
  omega
theorem Inv.list_inj (I:Inv X pins σ H s) (h:SqL X.K H a xs) (h':SqL X.K H a ys):xs=ys:=by
 obtain ⟨its,r,⟨o,n,e,_,_,d⟩,_⟩:=I.list h
 obtain ⟨its',r',⟨o',n',e',_,_,d'⟩,_⟩:=I.list h'
 rw [e] at e';cases e'
 rw [d] at d'
 injection d' with d1 _
 have:its=its':=by simpa using congrArg Array.toList d1
 subst this
 exact r.inj r'
theorem Inv.tuple_inj (I:Inv X pins σ H s) (h:SqT X.K H a xs) (h':SqT X.K H a ys):xs=ys:=by
 obtain ⟨its,r,⟨o,e,_,n,d⟩,_⟩:=I.tuple h
 obtain ⟨its',r',⟨o',e',_,n',d'⟩,_⟩:=I.tuple h'
 rw [e] at e';cases e'
 rw [d] at d'
 injection d' with d1 _
 have:its=its':=by simpa using congrArg Array.toList d1
 subst this
 exact r.inj r'
end
section
variable {X:Cx} {pins:List (Addr×Obj)} {σ:St} {H:Hp} {s:Shared} {E:Value→Shared→Prop}
end
section
variable {X:Cx} {st:Stmt} {rest:List Stmt} {t u:TS} {e:Expr} {te:TE} {pos:Pos}
def S4:TS:=fun D σ H=>D.nx σ H
def S5 (t u:TS):TS:=fun D σ H=>t {D with nx:=u D} σ H
theorem S6:Dm X [] S4:=fun _ _ σ H _ I h=>wpAny_execs_nil ⟨σ,H,I,h⟩
theorem S7 (h1:PS X st t) (h2:Dm X rest u):Dm X (st::rest) (S5 t u):=by
 intro pins s σ H D I h
 refine wpAny_execs_cons (Av (h1 pins s σ H {D with nx:=u D} I h) fun f s1 q=>?_)
 cases f with
 |next=>
  obtain ⟨σ',H',I',q⟩:=q
  exact h2 pins s1 σ' H' D I' q
 |ret v=>exact q
 |brk=>exact q
 |cont=>exact q
theorem S8 (h1:PS X st t):Dm X [st] t:=by
 intro pins s σ H D I h
 refine wpAny_execs_cons (Av (h1 pins s σ H D I h) fun f s1 q=>?_)
 cases f with
 |next=>exact wpAny_execs_nil q
 |ret v=>exact q
 |brk=>exact q
 |cont=>exact q
theorem Inv.quiet {pins:List (Addr×Obj)} {σ:St} {H:Hp} {s:Shared} (I:Inv X pins σ H s):interactive X.env=false:=by simp [interactive,I.ok.kind]
def S9 (te:TE):TS:=fun D σ H=>te σ H fun _ H1=>D.nx σ H1
theorem Ta (he:PE X e te) (hs:swapsWith e none pos.line X.env=pure false:=by rfl):PS X (.Expr e pos) (S9 te):=by
 intro pins s σ H D I h
 exact wpAny_Expr_any (Av (he pins s σ H _ I h) fun v s1 z16_=>by obtain ⟨x,H1,I1,r1,q1⟩:=z16_;exact (⟨σ,H1,I1,q1⟩)) I.quiet hs
def Tb (te:TE):TS:=fun D σ H=>te σ H D.rt
theorem Tc (he:PE X e te):PS X (.Return (some e) pos) (Tb te):=by
 intro pins s σ H D I h
 exact wpAny_Return_some (Av (he pins s σ H _ I h) fun v s1 z17_=>by obtain ⟨x,H1,I1,r1,q1⟩:=z17_;exact (⟨x,σ,H1,I1,r1,q1⟩))
def Td (c:TT) (t u:TS):TS:=fun D σ H=>c σ H fun b H1=>if b=true then t D σ H1 else u D σ H1
theorem Te {c:Expr} {a b:List Stmt} {tc:TT} (hc:PT X c tc) (ha:Dm X a t) (hb:Dm X b u):PS X (.If c a b pos) (Td tc t u):=by
 intro pins s σ H D I h
 refine wpAny_If (Av (hc pins s σ H _ I h) fun d s1 z18_=>?_)
 obtain ⟨H1,I1,q1⟩:=z18_
 cases d with
 |true=>exact ha pins s1 σ H1 D I1 q1
 |false=>exact hb pins s1 σ H1 D I1 q1
def Tf:TS:=fun _ _ _=>False
theorem Tg {sts:List Stmt}:Dm X sts Tf:=fun _ _ _ _ _ _ h=>h.elim
end
abbrev TG:=V→St→Hp→(St→Hp→Prop)→Prop
abbrev E9:=List V→St→Hp→(St→Hp→Prop)→Prop
def PG (X:Cx) (target:Expr) (t:TG):Prop:=
 ∀(pins:List (Addr×Obj)) (s:Shared) (σ:St) (H:Hp) (v:V) (u:Value) (Q:St→Hp→Prop),Inv X pins σ H s→RelV v u→t v σ H Q→
  wpAny (model X.prog X.w) X.A (assign target X.env u) (fun _ s'=>SN X pins Q s') X.xe s
def Jz (X:Cx) (ts:List Expr) (t:E9):Prop:=
 ∀(pins:List (Addr×Obj)) (s:Shared) (σ:St) (H:Hp) (vs:List V) (us:List Value) (Q:St→Hp→Prop),Inv X pins σ H s→Vals vs us→t vs σ H Q→
  wpAny (model X.prog X.w) X.A (assignInOrder ((assignEach ts X.env).map (·.2)) us) (fun _ s'=>SN X pins Q s') X.xe s
abbrev HV:=V→V→V→Hp→(Hp→Prop)→Prop
def JA (X:Cx) (t:HV):Prop:=
 ∀(pins:List (Addr×Obj)) (s:Shared) (σ:St) (H:Hp) (o i v:V) (ov iv u:Value) (Q:Hp→Prop),Inv X pins σ H s→RelV o ov→RelV i iv→RelV v u→t o i v H Q→
  wpAny (model X.prog X.w) X.A (setItem ov iv u) (fun _ s'=>∃H',Inv X pins σ H' s'∧Q H') X.xe s
abbrev JB:=V→V→Hp→VK→Prop
def Oc (X:Cx) (op:Operator) (t:JB):Prop:=
 ∀(pins:List (Addr×Obj)) (s:Shared) (σ:St) (H:Hp) (x y:V) (v u:Value) (Q:VK),Inv X pins σ H s→RelV x v→RelV y u→t x y H Q→
  wpAny (model X.prog X.w) X.A (inplaceOp op v u) (EP X pins σ Q) X.xe s
section
variable {X:Cx} {pos:Pos}
def Cm (i:Nat):TG:=fun v σ H Q=>Q (σ.set i (some v)) H
theorem AH {i:Nat} {x:Str} (hN:X.N.Nodup) (hi:X.N[i]?=some x) (hx:GV X.env.scope x) (hf:X.fn x=true∨X.env.scope.names.lookup x=some .local:=by first |exact .inl rfl |exact .inr rfl |assumption):PG X (.Name x pos) (Cm i):=by
 intro pins s σ H v u Q I r h
 exact wpAny_assign_Name (Jy I hN hi hx r (fun s' I'=>⟨_,H,I',h⟩) hf)
def FK:E9:=fun vs σ H Q=>vs=[]∧Q σ H
def Do (t:TG) (u:E9):E9:=fun vs σ H Q=>∃v r,vs=v::r∧t v σ H fun σ' H'=>u r σ' H' Q
theorem Lu:Jz X [] FK:=by
 intro pins s σ H vs us Q I r h
 obtain ⟨e,h⟩:=h
 subst e
 cases r
 exact assignInOrder_nil ⟨σ,H,I,h⟩
theorem GW {e:Expr} {es:List Expr} {t:TG} {u:E9} (h1:PG X e t) (h2:Jz X es u)
 (hs:(assignEach (e::es) X.env).map (·.2)=assign e X.env::(assignEach es X.env).map (·.2):=by rfl):Jz X (e::es) (Do t u):=by
 intro pins s σ H vs us Q I r h
 obtain ⟨v,vr,e1,h⟩:=h
 subst e1
 cases r with
 |cons r rr=>
  rw [hs]
  refine assignInOrder_cons (Av (h1 pins s σ H _ _ _ I r h) fun _ s1 z19_=>?_)
  obtain ⟨σ1,H1,I1,q1⟩:=z19_
  exact h2 pins s1 σ1 H1 _ _ Q I1 rr q1
def FL (K:PySem.W.Frag) (n:Nat) (t:E9):TG:=fun v σ H Q=>∃a xs,v=.ref a∧SqT K H a xs∧xs.length=n∧t xs σ H Q
theorem Lw {es:List Expr} {k:Nat} {t:E9} {n:Nat} (hc:X.calm=true) (h:Jz X es t)
 (hn:(assignEach es X.env).length=n:=by rfl) (hst:(assignEach es X.env).findIdx? (·.1)=none:=by rfl):PG X (.Tuple es k pos) (FL X.K n t):=by
 intro pins s σ H v u Q I r hw
 obtain ⟨a,xs,e1,hq,hl,hw⟩:=hw
 subst e1
 cases r
 obtain ⟨its,rv,ht,hz⟩:=I.tuple hq
 refine assign_Tuple_tuple (I.ok.hd hc) ht (by simp [hn,←hl,rv.length]) hst fun h' hx=>?_
 have I1:Inv X pins σ H {s with heap:=h'}:=I.kept (t':=s.toks) fun b o e=>hx b o (BD (AB e)) e
 exact h pins _ σ H xs _ Q I1 (by simpa using rv) hw
def Th (to ti:TE) (t:HV):TG:=fun v σ H Q=>to σ H fun o H1=>ti σ H1 fun i H2=>t o i v H2 fun H3=>Q σ H3
theorem Od {o i:Expr} {to ti:TE} {t:HV} (ho:PE X o to) (hi:PE X i ti) (hs:JA X t)
 (ha:∀v,assign (.Subscript o i pos) X.env v=(do
  let ov ←holding [v] (eval o X.env)
  let iv ←holding [v,ov] (eval i X.env)
  standAt pos
  holding [v,ov,iv] (setItem ov iv v)
  release [v,ov,iv] []):=by intro _;rfl):PG X (.Subscript o i pos) (Th to ti t):=by
 intro pins s σ H v u Q I r h
 rw [ha]
 refine wpAny_bind (wpAny_holding (Av (ho pins s σ H _ I h) fun ov s1 z20_=>?_))
 obtain ⟨x,H1,I1,r1,q1⟩:=z20_
 refine wpAny_bind (wpAny_holding (Av (hi pins s1 σ H1 _ I1 q1) fun iv s2 z21_=>?_))
 obtain ⟨y,H2,I2,r2,q2⟩:=z21_
 refine wpAny_bind (wpAny_standAt (wpAny_bind (wpAny_holding (Av (hs pins s2 σ H2 x y v ov iv u _ I2 r1 r2 r q2) fun _ s3 z22_=>?_))))
 obtain ⟨H3,I3,q3⟩:=z22_
 exact wpAny_release ⟨σ,H3,I3,q3⟩
def Oe (te:TE) (g:TG):TS:=fun D σ H=>te σ H fun x H1=>g x σ H1 D.nx
theorem Lx {tg e:Expr} {te:TE} {g:TG} (he:PE X e te) (hg:PG X tg g) (hs:swapsWithSole [tg] e pos.line X.env=pure false:=by rfl) (hw:swappedStores [tg] e X.env=pure none:=by rfl)
 (h1:(assignEach [tg] X.env).map (·.2)=[assign tg X.env]:=by rfl):PS X (.Assign [tg] e pos) (Oe te g):=by
 intro pins s σ H D I h
 refine wpAny_Assign_stores (Av (he pins s σ H _ I h) fun v s1 z23_=>?_) hs hw
 obtain ⟨x,H1,I1,r1,q1⟩:=z23_
 rw [h1]
 exact Av (hg pins s1 σ H1 x v _ I1 r1 q1) fun _ s2 q=>q
theorem Ti {i:Nat} {x:Str} {e:Expr} {te:TE} {pos':Pos} (hN:X.N.Nodup) (hi:X.N[i]?=some x) (hx:GV X.env.scope x) (he:PE X e te) (hs:swapsWith e (some (.Name x pos')) pos.line X.env=pure false:=by rfl) (hf:X.fn x=true∨X.env.scope.names.lookup x=some .local:=by first |exact .inl rfl |exact .inr rfl |assumption):
 PS X (.Assign [.Name x pos'] e pos) (Oe te (Cm i)):=by
 intro pins s σ H D I h
 refine wpAny_Assign_Name (Av (he pins s σ H _ I h) fun v s1 z24_=>?_) hs
 obtain ⟨y,H1,I1,r1,q1⟩:=z24_
 exact Jy I1 hN hi hx r1 (fun s2 I2=>⟨_,H1,I2,q1⟩) hf
def Tj (i j:Nat) (ta:TA):TS:=fun D σ H=>ta σ H fun vs H1=>∃v w,vs=[v,w]∧D.nx ((σ.set i (some v)).set j (some w)) H1
theorem Tn {i j:Nat} {x y:Str} {a b:Expr} {ta:TA} {px py pt:Pos} {kt k2 pt2} (hc:X.calm=true) (hN:X.N.Nodup) (hi:X.N[i]?=some x) (hj:X.N[j]?=some y) (hij:i≠j)
 (hx:X.env.scope.names.lookup x=some .local) (hy:X.env.scope.names.lookup y=some .local) (ha:PA X [a,b] ta)
 (hw:swappedStores [.Tuple [.Name x px,.Name y py] kt pt] (.Tuple [a,b] k2 pt2) X.env=pure (some [x,y]))
 (hs:swapsWithSole [.Tuple [.Name x px,.Name y py] kt pt] (.Tuple [a,b] k2 pt2) pos.line X.env=pure false:=by rfl):
 PS X (.Assign [.Tuple [.Name x px,.Name y py] kt pt] (.Tuple [a,b] k2 pt2) pos) (Tj i j ta):=by
 intro pins s σ H D I h
 rw [exec_Assign_arm]
 refine wpAny_bind (wpAny_standAt ?_)
 rw [hs]
 refine wpAny_bind (wpAny_pure ?_)
 rw [if_neg (by decide)]
 refine wpAny_bind (Tuple_ (Av (ha _ pins s σ H _ I h) fun us s1 z25_=>?_))
 obtain ⟨vs,H1,I1,r1,q1⟩:=z25_
 obtain ⟨v,w,e1,q1⟩:=q1
 subst e1
 obtain ⟨u1,u2,rfl,rv,rw'⟩:∃u1 u2,us=[u1,u2]∧RelV v u1∧RelV w u2:=by
  cases r1 with
  |cons p q=>
   cases q with
   |cons p' q'=>
    cases q'
    exact ⟨_,_,rfl,p,p'⟩
 refine wpAny_newObj_type ?_ (by show 2≤sizeLine;decide)
 have I2:Inv X pins σ H1 {s1 with heap:=s1.heap.push {cls:=.type "tuple",data:=.seq [u1,u2].toArray}}:=I1.kept (t':=s1.toks) fun b o e=>AE _ e
 rw [hw]
 refine wpAny_bind (wpAny_pure ?_)
 show wpAny (model X.prog X.w) X.A (do rule "assign.swapped-stores";let items ←unpackItems (.ref s1.heap.objs.size) 2 none;assignInOrder [fun v=>bindName X.env y v,fun v=>bindName X.env x v] items.reverse;pure Flow.next) _ _ _
 refine wpAny_bind (wpAny_rule (wpAny_bind (unpackItems_tuple (items:=#[u1,u2]) (I.ok.hd hc) (IsTup.new s1.heap _) fun h' hx'=>?_)))
 have I3:=I2.kept (h':=h') (t':=s1.toks) fun b o e=>hx' b o (BD (AB e)) e
 show wpAny _ _ (assignInOrder [fun v=>bindName X.env y v,fun v=>bindName X.env x v] [u2,u1] >>=fun _=>pure Flow.next) _ _ _
 refine wpAny_bind (assignInOrder_cons (wpAny_bindName (Jy I3 hN hj (.inl hy) rw' (fun s2 I4=>?_) (.inr hy))))
 refine assignInOrder_cons (wpAny_bindName (Jy I4 hN hi (.inl hx) rv (fun s3 I5=>assignInOrder_nil (wpAny_pure ?_)) (.inr hx)))
 rw [List.set_comm _ _ (Ne.symm hij)] at I5
 exact ⟨_,H1,I5,q1⟩
def To (to ti te:TE) (tget:V→V→Hp→VK→Prop) (tip:JB) (tset:HV):TS:=fun D σ H=>to σ H fun o H1=>ti σ H1 fun i H2=>tget o i H2 fun x H3=>te σ H3 fun y H4=>tip x y H4 fun z H5=>tset o i z H5 fun H6=>D.nx σ H6
def Of (X:Cx) (t:V→V→Hp→VK→Prop):Prop:=
 ∀(pins:List (Addr×Obj)) (s:Shared) (σ:St) (H:Hp) (o i:V) (ov iv:Value) (Q:VK),Inv X pins σ H s→RelV o ov→RelV i iv→t o i H Q→
  wpAny (model X.prog X.w) X.A (getItem ov iv) (EP X pins σ Q) X.xe s
theorem Tq {o i e:Expr} {to ti te:TE} {tget:V→V→Hp→VK→Prop} {tip:JB} {tset:HV} {op:Operator} {tpos:Pos} (ho:PE X o to) (hi:PE X i ti) (hg:Of X tget) (he:PE X e te) (hp:Oc X op tip) (hs:JA X tset)
 (ha:∀ov iv new,augStore i ov iv new=(do holding [new,ov,iv] (setItem ov iv new);release [new,ov,iv] [];pure .next):=by intros;rfl):PS X (.AugAssign (.Subscript o i tpos) op e pos) (To to ti te tget tip tset):=by
 intro pins s σ H D I h
 refine wpAny_AugAssign_SubscriptAny (Av (ho pins s σ H _ I h) fun ov s1 z28_=>?_) ha
 obtain ⟨x1,H1,I1,r1,q1⟩:=z28_
 refine Av (hi pins s1 σ H1 _ I1 q1) fun iv s2 z29_=>?_
 obtain ⟨x2,H2,I2,r2,q2⟩:=z29_
 refine Av (hg pins s2 σ H2 x1 x2 ov iv _ I2 r1 r2 q2) fun old s3 z30_=>?_
 obtain ⟨x3,H3,I3,r3,q3⟩:=z30_
 refine Av (he pins s3 σ H3 _ I3 q3) fun v s4 z31_=>?_
 obtain ⟨x4,H4,I4,r4,q4⟩:=z31_
 refine Av (hp pins s4 σ H4 x3 x4 old v _ I4 r3 r4 q4) fun new s5 z32_=>?_
 obtain ⟨x5,H5,I5,r5,q5⟩:=z32_
 exact Av (hs pins s5 σ H5 x1 x2 x5 ov iv new _ I5 r1 r2 r5 q5) fun _ s6 z33_=>by obtain ⟨H6,I6,q6⟩:=z33_;exact (⟨σ,H6,I6,q6⟩)
def Tr (f:Int→Int→Int):JB:=fun x y H Q=>∃i j,x=.int i∧y=.int j∧Q (.int (f i j)) H
theorem Ts:Oc X .Add (Tr fun i j=>i+j):=by
 intro pins s σ H x y v u Q I r1 r2 h
 obtain ⟨i,j,e1,e2,q⟩:=h
 subst e1;subst e2
 obtain ⟨t,rfl⟩:=r1
 obtain ⟨t',rfl⟩:=r2
 exact iadd_int ⟨.int _,H,I.tok _,⟨_,rfl⟩,q⟩
end
section
variable {X:Cx} {pos:Pos}
end
structure It where
 go:Nat→Hp→Prop
 yld:Nat→Hp→V→Hp→Prop
 stop:Nat→Hp→Prop
def DR (X:Cx) (pins:List (Addr×Obj)) (H:Hp) (b:Addr):Prop:=
 H b=none∧b≠X.env.locals∧b∉X.fs∧(b∈X.ex∨X.s₀.heap.objs.size≤b)∧(∀x c,X.env.cells.lookup x=some c→c≠b)∧∀p∈X.pn++pins,p.1≠b
theorem Inv.fpOk {X:Cx} {pins:List (Addr×Obj)} {σ:St} {H H':Hp} {s:Shared} {b:Addr} (I:Inv X pins σ H s) (hb:s.heap.objs.size≤b) (hn:H' b=none):DR X pins H' b:=by
 refine ⟨hn,BS (AL I.lt hb),I.nofs hb,.inr (BM I.sz hb),fun x c e z=>?_,fun p hp z=>?_⟩
 ·obtain ⟨v,q⟩:=I.cell x c e
  exact absurd (AL q.lt (by rw [z];exact hb)) (CI _)
 ·exact absurd (AL (AB (I.pin p hp).1) (by rw [z];exact hb)) (CI _)
structure Fb (P:Program) (w:World) (K:PySem.W.Frag) (tg:Expr) (J:It) (fp:List Addr) (it:Addr) (tn:Nat→Heap→Prop):Prop where
 mem:it∈fp
 obj:∀i h,tn i h→∀b∈fp,∃o,h.get? b=some o∧∀v,o.data≠.cell v
 keep:∀i h h',tn i h→(∀b∈fp,∀o,h.get? b=some o→h'.get? b=some o)→tn i h'
 item:∀(X:Cx),X.prog=P→X.w=w→X.K=K→X.calm=true→∀(i:Nat) (pins:List (Addr×Obj)) (s:Shared) (σ:St) (H:Hp) (E:Value→Shared→Prop),Inv X pins σ H s→(∀b∈fp,DR X pins H b)→tn i s.heap→J.go i H→
  wpAny (model P w) X.A (pyNext (.ref it)) (fun r s1=>∃u,r=some u∧
   wpAny (model P w) X.A (letOwnedTupleGo tg (.ref it) u) (fun _ s2=>∃x H',Inv X pins σ H' s2∧RelV x u∧J.yld i H x H'∧tn (i+1) s2.heap∧∀b∈fp,H' b=none) E s1) E s
 done:∀(X:Cx),X.prog=P→X.w=w→X.K=K→X.calm=true→∀(i:Nat) (pins:List (Addr×Obj)) (s:Shared) (σ:St) (H:Hp) (E:Value→Shared→Prop),Inv X pins σ H s→(∀b∈fp,DR X pins H b)→tn i s.heap→J.stop i H→
  wpAny (model P w) X.A (pyNext (.ref it)) (fun r s1=>r=none∧Inv X pins σ H s1) E s
 self:∀(A:Around) (i:Nat) (s:Shared) (Q:Value→Shared→Prop) (E:Value→Shared→Prop),tn i s.heap→Q (.ref it) s→wpAny (model P w) A (pyIter (.ref it)) Q E s
abbrev TI:=St→Hp→(It→Hp→Prop)→Prop
inductive Ly (X:Cx) (pins:List (Addr×Obj)) (σ:St) (tg:Expr) (R:It→Hp→Prop) (itv:Value) (s2:Shared):Prop where
 |mk (it:Addr) (fp:List Addr) (tn:Nat→Heap→Prop) (J:It) (H':Hp) (e:itv=.ref it) (i:Inv X pins σ H' s2) (t:Fb X.prog X.w X.K tg J fp it tn) (st:tn 0 s2.heap) (f:∀b∈fp,DR X pins H' b) (r:R J H'):Ly X pins σ tg R itv s2
def PI (X:Cx) (tg iter:Expr) (wi:TI):Prop:=
 ∀(pins:List (Addr×Obj)) (s:Shared) (σ:St) (H:Hp) (R:It→Hp→Prop),Inv X pins σ H s→wi σ H R→
  wpAny (model X.prog X.w) X.A (eval iter X.env) (fun v s1=>wpAny (model X.prog X.w) X.A (pyIter v) (Ly X pins σ tg R) X.xe s1) X.xe s
theorem Lz {M:Model} {A:Around} {E:Value→Shared→Prop} {s:Shared} {tg:Expr} {it:Addr} {u:Value} {o:Obj} {n:String} {vs:Array Value} {Q:Unit→Shared→Prop} (ho:s.heap.get? it=some o) (hc:o.cls=.type n) (hd:o.data=.fields vs)
 (hn:["enumerate","zip","dict_itemiterator","dict_reverseitemiterator","odict_iterator","itertools.zip_longest","itertools.pairwise"].contains n=false) (hQ:Q () s):wpAny M A (letOwnedTupleGo tg (.ref it) u) Q E s:=by
 unfold letOwnedTupleGo
 cases tg<;>first
  |exact wpAny_pure hQ
  |(cases u<;>first
   |exact wpAny_pure hQ
   |(refine wpAny_bind (wpAny_load ho ?_)
     rw [hc,hd]
     show wpAny M A (if (["enumerate","zip","dict_itemiterator","dict_reverseitemiterator","odict_iterator","itertools.zip_longest","itertools.pairwise"].contains n&&vs[0]?==some (rawInt _))=true then _ else _) Q E s
     rw [if_neg (by intro h;rw [hn,Bool.false_and] at h;cases h)]
     exact wpAny_pure hQ))
def HW (K:PySem.W.Frag) (a:Addr):It:=
 ⟨fun i H=>∃xs x,SqL K H a xs∧xs[i]?=some x,fun i H x H'=>H'=H∧∀xs,SqL K H a xs→xs[i]?=some x,fun i H=>∃xs,SqL K H a xs∧xs.length≤i⟩
def HX (K:PySem.W.Frag) (a:Addr):It:=
 ⟨fun i H=>∃xs x,SqT K H a xs∧xs[i]?=some x,fun i H x H'=>H'=H∧∀xs,SqT K H a xs→xs[i]?=some x,fun i H=>∃xs,SqT K H a xs∧xs.length≤i⟩
def HY (lo:Int) (n:Nat):It:=⟨fun i _=>i<n,fun i H x H'=>H'=H∧x=.int (lo+i),fun i _=>n≤i⟩
theorem Tt {P:Program} {w:World} {K:PySem.W.Frag} {tg:Expr} (a it:Addr):Fb P w K tg (HW K a) [it] it (fun i h=>h.IsListIter it a i) where
 mem:=by simp
 obj:=fun i h st b hb=>by
  have e:b=it:=by simpa using hb
  subst e
  obtain ⟨o,e,c,d⟩:=st
  exact ⟨o,e,fun v z=>by rw [d] at z;cases z⟩
 keep:=fun i h h' st k=>st.at fun o e=>k it (by simp) o e
 item:=by
  intro X hP hw hK hc i pins s σ H E I hf st hg
  subst hP hw hK
  obtain ⟨xs,x,hq,hx⟩:=hg
  obtain ⟨its,rv,p,hz⟩:=I.list hq
  obtain ⟨u,hu,ru⟩:=rv.get hx
  obtain ⟨f0,f1,f2,f3,f4,f5⟩:=hf it (by simp)
  refine wpAny_pyNext_list_item st p.isList (x:=u) (by simpa using hu) fun h' st' sb=>?_
  have I1:Inv X pins σ H {s with heap:=h'}:=I.turned (t':=s.toks) (fun b o hb e=>(sb.2 b hb).trans e) f0 f1 f3 f4 f5
  obtain ⟨o,e,c,d⟩:=id st'
  exact ⟨u,rfl,Lz (s:={s with heap:=h'}) e c d (by decide) ⟨x,H,I1,ru,⟨rfl,fun ys hy=>by rw [I.list_inj hy hq];exact hx⟩,st',fun b hb=>(hf b hb).1⟩⟩
 done:=by
  intro X hP hw hK hc i pins s σ H E I hf st hg
  subst hP hw hK
  obtain ⟨xs,hq,hx⟩:=hg
  obtain ⟨its,rv,p,hz⟩:=I.list hq
  obtain ⟨f0,f1,f2,f3,f4,f5⟩:=hf it (by simp)
  have hl:=rv.length
  exact wpAny_pyNext_list_end (I.ok.hd hc) st p.isList (by simp;omega) fun h' eb=>⟨rfl,I.turned (t':=s.toks) (fun b o hb e=>eb b o hb e) f0 f1 f3 f4 f5⟩
 self:=fun _ _ _ _ _ st h=>wpAny_pyIter_listiter st h
theorem Tu {P:Program} {w:World} {K:PySem.W.Frag} {tg:Expr} (a it:Addr):Fb P w K tg (HX K a) [it] it (fun i h=>h.IsTupleIter it a i) where
 mem:=by simp
 obj:=fun i h st b hb=>by
  have e:b=it:=by simpa using hb
  subst e
  obtain ⟨o,e,c,d⟩:=st
  exact ⟨o,e,fun v z=>by rw [d] at z;cases z⟩
 keep:=fun i h h' st k=>st.at fun o e=>k it (by simp) o e
 item:=by
  intro X hP hw hK hc i pins s σ H E I hf st hg
  subst hP hw hK
  obtain ⟨xs,x,hq,hx⟩:=hg
  obtain ⟨its,rv,p,hz⟩:=I.tuple hq
  obtain ⟨u,hu,ru⟩:=rv.get hx
  obtain ⟨f0,f1,f2,f3,f4,f5⟩:=hf it (by simp)
  refine wpAny_pyNext_tuple_item st (show s.heap.IsTuple a its.toArray from p) (x:=u) (by simpa using hu) fun h' st' sb=>?_
  have I1:Inv X pins σ H {s with heap:=h'}:=I.turned (t':=s.toks) (fun b o hb e=>(sb.2 b hb).trans e) f0 f1 f3 f4 f5
  obtain ⟨o,e,c,d⟩:=id st'
  exact ⟨u,rfl,Lz (s:={s with heap:=h'}) e c d (by decide) ⟨x,H,I1,ru,⟨rfl,fun ys hy=>by rw [I.tuple_inj hy hq];exact hx⟩,st',fun b hb=>(hf b hb).1⟩⟩
 done:=by
  intro X hP hw hK hc i pins s σ H E I hf st hg
  subst hP hw hK
  obtain ⟨xs,hq,hx⟩:=hg
  obtain ⟨its,rv,p,hz⟩:=I.tuple hq
  obtain ⟨f0,f1,f2,f3,f4,f5⟩:=hf it (by simp)
  have hl:=rv.length
  exact wpAny_pyNext_tuple_end (I.ok.hd hc) st (show s.heap.IsTuple a its.toArray from p) (by simp;omega) fun h' eb=>⟨rfl,I.turned (t':=s.toks) (fun b o hb e=>eb b o hb e) f0 f1 f3 f4 f5⟩
 self:=fun _ _ _ _ _ st h=>wpAny_pyIter_tupleiter st h
theorem Tv {P:Program} {w:World} {K:PySem.W.Frag} {tg:Expr} (it:Addr) (lo:Int) (n:Nat):Fb P w K tg (HY lo n) [it] it (fun i h=>IsRangeIter h it (lo+(i:Nat)*1) ((n:Int) - (i:Nat)) 1) where
 mem:=by simp
 obj:=fun i h st b hb=>by
  have e:b=it:=by simpa using hb
  subst e
  exact ⟨_,st,fun v z=>by
   have z':Data.fields _=Data.cell v:=z
   cases z'⟩
 keep:=fun i h h' st k=>k it (by simp) _ st
 item:=by
  intro X hP hw hK hc i pins s σ H E I hf st hg
  subst hP hw hK
  obtain ⟨f0,f1,f2,f3,f4,f5⟩:=hf it (by simp)
  have W:=Walks.range (prog:=X.prog) (w:=X.w) (I.ok.hd hc) it lo 1 n
  refine W.item i s _ _ hg st fun v h' tk hv st' kk=>?_
  obtain ⟨t,rfl⟩:=hv
  have I1:Inv X pins σ H {s with heap:=h',toks:=tk}:=I.turned (fun b o hb e=>kk b o (by simpa using hb) e) f0 f1 f3 f4 f5
  refine ⟨_,rfl,Lz (s:={s with heap:=h',toks:=tk}) (n:="range_iterator") st' rfl rfl (by decide) ⟨.int (lo+i),H,I1,⟨t,?_⟩,⟨rfl,rfl⟩,st',fun b hb=>(hf b hb).1⟩⟩
  rw [Int.mul_one]
 done:=by
  intro X hP hw hK hc i pins s σ H E I hf st hg
  subst hP hw hK
  obtain ⟨f0,f1,f2,f3,f4,f5⟩:=hf it (by simp)
  exact wpAny_pyNext_range_end (I.ok.hd hc) st (by have:n≤i:=hg;omega) fun h' eb=>⟨rfl,I.turned (t':=s.toks) (fun b o hb e=>eb b o hb e) f0 f1 f3 f4 f5⟩
 self:=fun _ _ _ _ _ st h=>wpAny_pyIter_rangeiter st h
section
variable {X:Cx} {tg:Expr}
theorem Og {pins:List (Addr×Obj)} {σ:St} {H:Hp} {s:Shared} {R:It→Hp→Prop} {E:Value→Shared→Prop} {lo hi:Int} {t u v:Tok} {tk:Nat} (I:Inv X pins σ H s) (h1:-(2^62)≤lo) (h2:lo<2^62) (h3:-(2^62)≤hi) (h4:hi<2^62)
 (q:R (HY lo (hi - lo).toNat) H):wpAny (model X.prog X.w) X.A (pyIter (.ref s.heap.objs.size)) (Ly X pins σ tg R) E {s with heap:=s.heap.push {cls:=.type "range",data:=.fields #[.int lo t,.int hi u,.int 1 v]},toks:=tk}:=by
 refine wpAny_pyIter_range (IsRange.new ..) (small_one h1 h2 h3 h4) ?_
 have I1:Inv X pins σ H {s with heap:=s.heap.push {cls:=.type "range",data:=.fields #[.int lo t,.int hi u,.int 1 v]},toks:=tk}:=I.kept fun b o e=>AE _ e
 refine ⟨(s.heap.push {cls:=.type "range",data:=.fields #[.int lo t,.int hi u,.int 1 v]}).objs.size,[(s.heap.push {cls:=.type "range",data:=.fields #[.int lo t,.int hi u,.int 1 v]}).objs.size],_,_,H,rfl,
  I1.kept (t':=tk) fun b o e=>AE _ e,Tv _ lo (hi - lo).toNat,?_,fun b hb=>?_,q⟩
 ·have e1:lo+((0:Nat):Int)*1=lo:=by simp
  have e2:(((hi - lo).toNat:Nat):Int) - ((0:Nat):Int)=Builtin.Range.rangeSize lo hi 1:=by rw [rangeSize_one];split<;>omega
  show IsRangeIter _ _ (lo+((0:Nat):Int)*1) ((((hi - lo).toNat:Nat):Int) - ((0:Nat):Int)) 1
  rw [e1,e2]
  exact Bj _ rfl
 ·have e:b=(s.heap.push {cls:=.type "range",data:=.fields #[.int lo t,.int hi u,.int 1 v]}).objs.size:=by simpa using hb
  subst e
  exact I1.fpOk (AD _) (I1.hok.fresh (AD _))
def Tw (ta:TA):TI:=fun σ H R=>ta σ H fun vs H1=>∃j:Int,vs=[.int j]∧-(2^62)≤j∧j<2^62∧R (HY 0 j.toNat) H1
def Tx (ta:TA):TI:=fun σ H R=>ta σ H fun vs H1=>∃i j:Int,vs=[.int i,.int j]∧(-(2^62)≤i∧i<2^62∧-(2^62)≤j∧j<2^62)∧R (HY i (j - i).toNat) H1
theorem Tz {a:Expr} {ta:TA} {p pos:Pos} (hg:Gl X "range") (hm:X.mg "range"=none) (ha:PA X [a] ta) (hs:starEach [a] X.env=[(false,eval a X.env)]:=by rfl):PI X tg (.Call (.Name "range" p) [a] [] pos) (Tw ta):=by
 intro pins s σ H R I h
 refine Call_ (FJ I hg hm boot_range (PyProof.Rows.callWith_type1 (Av (ha pos pins s σ H _ I h) fun us s1 z37_=>?_) hs rfl))
 obtain ⟨vs,H1,I1,r1,q1⟩:=z37_
 obtain ⟨j,e,q1,q2,q⟩:=q1
 subst e
 cases r1 with
 |cons r rr=>
  cases rr
  obtain ⟨t,rfl⟩:=r
  exact call_range_1 (Og I1 (by omega) (by omega) q1 q2 (by simpa using q))
theorem TB {a b:Expr} {ta:TA} {p pos:Pos} (hg:Gl X "range") (hm:X.mg "range"=none) (ha:PA X [a,b] ta) (hs:starEach [a,b] X.env=[(false,eval a X.env),(false,eval b X.env)]:=by rfl) (hs2:starEach [b] X.env=[(false,eval b X.env)]:=by rfl):
 PI X tg (.Call (.Name "range" p) [a,b] [] pos) (Tx ta):=by
 intro pins s σ H R I h
 refine Call_ (FJ I hg hm boot_range (PyProof.Rows.callWith_type1 (Av (ha pos pins s σ H _ I h) fun us s1 ⟨vs,H1,I1,r1,q1⟩=>?_) (by rw [hs,hs2]) (by rw [hs2];rfl)))
 obtain ⟨i,j,e,⟨q1,q2,q3,q4⟩,q⟩:=q1
 subst e
 cases r1 with
 |cons r rr=>
  cases rr with
  |cons r' rr=>
   cases rr
   obtain ⟨t,rfl⟩:=r
   obtain ⟨t',rfl⟩:=r'
   exact call_range_2 (Og I1 q1 q2 q3 q4 q)
def TC (wi:TI) (g:TG) (tb:TS):TS:=fun D σ H=>wi σ H fun J H1=>∃W:Nat→Nat→St→Hp→Prop,(∃m,W 0 m σ H1)∧∀i m σ H,W i m σ H→
 (J.stop i H∧D.nx σ H)∨(J.go i H∧∃N:St→Hp→Prop,(∀σ' H',N σ' H'→∃m',m' < m∧W (i+1) m' σ' H')∧∀x H',J.yld i H x H'→g x σ H' fun σ2 H2=>tb {D with nx:=N,ct:=N,bk:=D.nx} σ2 H2)
def HZ (fp:List Addr) (h:Heap):List (Addr×Obj):=fp.filterMap fun b=>(h.get? b).map fun o=>(b,o)
theorem JC {fp:List Addr} {h:Heap} {b:Addr} {o:Obj} (hb:b∈fp) (e:h.get? b=some o):(b,o)∈HZ fp h:=List.mem_filterMap.mpr ⟨b,hb,by rw [e];rfl⟩
theorem TF {fp:List Addr} {h:Heap} {p:Addr×Obj} (hp:p∈HZ fp h):p.1∈fp∧h.get? p.1=some p.2:=by
 obtain ⟨b,hb,e⟩:=List.mem_filterMap.mp hp
 cases q:h.get? b with
 |none=>rw [q] at e;cases e
 |some o=>
  rw [q] at e
  have e':(b,o)=p:=Option.some.inj e
  subst e'
  exact ⟨hb,q⟩
theorem Inv.pinned {pins:List (Addr×Obj)} {σ:St} {H:Hp} {s:Shared} {fp:List Addr} (I:Inv X pins σ H s) (hf:∀b∈fp,DR X pins H b) (ho:∀b∈fp,∃o,s.heap.get? b=some o∧∀v,o.data≠.cell v):Inv X (pins++HZ fp s.heap) σ H s:=
 I.pins_of fun p hp=>(qaZ.mp hp).elim (fun z=>I.pin p (CW _ z)) fun z=>by
  obtain ⟨hb,e⟩:=TF z
  obtain ⟨f0,f1,f2,_⟩:=hf p.1 hb
  obtain ⟨o,e',d⟩:=ho p.1 hb
  rw [e] at e';cases e'
  exact ⟨e,f0,f1,f2,d⟩
theorem Inv.unpinned {pins pl:List (Addr×Obj)} {σ:St} {H:Hp} {s:Shared} (I:Inv X (pins++pl) σ H s):Inv X pins σ H s:=I.pins_of fun p hp=>I.pin p (CW _ (Jp _ hp))
inductive LA (X:Cx) (pins:List (Addr×Obj)) (tn:Nat→Heap→Prop) (fp:List Addr) (W:Nat→Nat→St→Hp→Prop) (n:Nat) (s':Shared):Prop where
 |mk (i:Nat) (σ':St) (H':Hp) (ii:Inv X pins σ' H' s') (st:tn i s'.heap) (fr:∀b∈fp,H' b=none) (w:W i n σ' H'):LA X pins tn fp W n s'
theorem TH {iter:Expr} {body:List Stmt} {wi:TI} {g:TG} {tb:TS} {pos:Pos} (hp:PassesOwn (model X.prog X.w) X.A X.env X.xe) (hc:X.calm=true) (hi:PI X tg iter wi) (hg:PG X tg g) (hb:Dm X body tb)
 (hs:∀x,foldedSetIterable iter X.env x=pure x:=by intro _;rfl):PS X (.For tg iter body [] pos) (TC wi g tb):=by
 intro pins s σ H D I h
 refine wpAny_For (Av (hi pins s σ H _ I h) fun v s1 h1=>Av h1 fun itv s2 h2=>?_) hs
 obtain ⟨it,fp,tn,J,H2,e,I2,T,st2,f2,W,⟨m0,w0⟩,turn⟩:=h2
 subst e
 have stat:∀{H':Hp},(∀b∈fp,H' b=none)→∀b∈fp,DR X pins H' b:=fun hn b hb=>⟨hn b hb,(f2 b hb).2⟩
 refine codeAny_forLoop_any (LA X pins tn fp W) ?_ m0 ⟨0,σ,H2,I2,st2,fun b hb=>(f2 b hb).1,w0⟩
 rintro n s3 ⟨i,σ3,H3,I3,st3,fr3,w3⟩
 rcases turn i n σ3 H3 w3 with ⟨stop,qn⟩ |⟨go,N,hN,step⟩
 ·refine wpAny_passesOwn hp (Av (T.done X rfl rfl rfl hc i pins s3 σ3 H3 X.xe I3 (stat fr3) st3 stop) fun r s4 z39_=>?_)
  obtain ⟨hr,I4⟩:=z39_
  subst hr
  exact wpAny_execs_nil ⟨σ3,H3,I4,qn⟩
 ·refine wpAny_passesOwn hp (Av (T.item X rfl rfl rfl hc i pins s3 σ3 H3 X.xe I3 (stat fr3) st3 go) fun r s4 z40_=>?_)
  obtain ⟨u,hr,h4⟩:=z40_
  subst hr
  refine wpAny_passesOwn hp (Av h4 fun _ s5 z41_=>?_)
  obtain ⟨x,H5,I5,r5,y5,st5,fr5⟩:=z41_
  have I5':=I5.pinned (stat fr5) (T.obj _ _ st5)
  refine wpAny_passesOwn hp (Av (hg _ s5 σ3 H5 x u _ I5' r5 (step x H5 y5)) fun _ s6 z42_=>?_)
  obtain ⟨σ6,H6,I6,q6⟩:=z42_
  refine wpAny_passesOwn hp (Av (hb _ s6 σ6 H6 _ I6 q6) fun f s7 q7=>?_)
  have again:∀{σ7:St} {H7:Hp},Inv X (pins++HZ fp s5.heap) σ7 H7 s7→N σ7 H7→∃m,m<n∧LA X pins tn fp W m s7:=fun {σ7 H7} I7 n7=>by
   obtain ⟨m',hm,w7⟩:=hN σ7 H7 n7
   refine ⟨m',hm,i+1,σ7,H7,I7.unpinned,T.keep _ _ _ st5 fun b hb o e=>(I7.pin (b,o) (CW _ (CW _ (JC hb e)))).1,fun b hb=>?_,w7⟩
   obtain ⟨o,e,d⟩:=T.obj _ _ st5 b hb
   exact (I7.pin (b,o) (CW _ (CW _ (JC hb e)))).2.1
  cases f with
  |next=>obtain ⟨σ7,H7,I7,n7⟩:=q7;exact again I7 n7
  |cont=>obtain ⟨σ7,H7,I7,n7⟩:=q7;exact again I7 n7
  |brk=>obtain ⟨σ7,H7,I7,q7⟩:=q7;exact ⟨σ7,H7,I7.unpinned,q7⟩
  |ret v=>obtain ⟨x7,σ7,H7,I7,r7,q7⟩:=q7;exact ⟨x7,σ7,H7,I7.unpinned,r7,q7⟩
end
abbrev R2:=V→V→Hp→VK→Prop
def OpR (X:Cx) (f:Value→Value→Sem Value) (r:R2):Prop:=
 ∀(pins:List (Addr×Obj)) (s:Shared) (σ:St) (H:Hp) (x y:V) (v u:Value) (Q:VK),Inv X pins σ H s→RelV x v→RelV y u→r x y H Q→
  wpAny (model X.prog X.w) X.A (f v u) (EP X pins σ Q) X.xe s
def LC (X:Cx) (f:Value→Sem Value) (r:V→Hp→VK→Prop):Prop:=
 ∀(pins:List (Addr×Obj)) (s:Shared) (σ:St) (H:Hp) (x:V) (v:Value) (Q:VK),Inv X pins σ H s→RelV x v→r x H Q→
  wpAny (model X.prog X.w) X.A (f v) (EP X pins σ Q) X.xe s
def CY (X:Cx) (f:Value) (r:List V→Hp→VK→Prop):Prop:=
 ∀(pins:List (Addr×Obj)) (s:Shared) (σ:St) (H:Hp) (xs:List V) (us:List Value) (Q:VK),Inv X pins σ H s→Vals xs us→r xs H Q→
  wpAny (model X.prog X.w) X.A (call f us) (EP X pins σ Q) X.xe s
def TJ (X:Cx) (r:V→Hp→(Bool→Hp→Prop)→Prop):Prop:=
 ∀(pins:List (Addr×Obj)) (s:Shared) (σ:St) (H:Hp) (x:V) (v:Value) (Q:Bool→Hp→Prop),Inv X pins σ H s→RelV x v→r x H Q→
  wpAny (model X.prog X.w) X.A (truthy v) (TP X pins σ Q) X.xe s
def JD (r:R2) (ta tb:TE):TE:=fun σ H Q=>ta σ H fun x H1=>tb σ H1 fun y H2=>r x y H2 Q
def TK (r:V→Hp→VK→Prop) (ta:TE):TE:=fun σ H Q=>ta σ H fun x H1=>r x H1 Q
def rI (C:Int→Int→Prop) (g:Int→Int→V):R2:=fun x y H Q=>∃i j,x=.int i∧y=.int j∧C i j∧Q (g i j) H
def EG (g:Int→Int→V):R2:=fun x y H Q=>∃i j,x=.int i∧y=.int j∧Q (g i j) H
def rU (g:Int→V):V→Hp→VK→Prop:=fun x H Q=>∃i,x=.int i∧Q (g i) H
section
variable {X:Cx} {a b c:Expr} {ta tb tc:TE} {pos:Pos}
theorem LD (ha:PE X a ta) (hb:PE X b tb) {pins:List (Addr×Obj)} {s:Shared} {σ:St} {H:Hp} {R:V→V→Hp→Prop} (I:Inv X pins σ H s)
 (h:ta σ H fun x H1=>tb σ H1 fun y H2=>R x y H2) {Q:Value→Shared→Prop} {f:Value→Value→Sem Value}
 (hf:∀v u s2 x y H2,Inv X pins σ H2 s2→RelV x v→RelV y u→R x y H2→wpAny (model X.prog X.w) X.A (f v u) Q X.xe s2):
 wpAny (model X.prog X.w) X.A (eval a X.env) (fun v s₁=>wpAny (model X.prog X.w) X.A (eval b X.env) (fun u s₂=>wpAny (model X.prog X.w) X.A (f v u) Q X.xe s₂) X.xe s₁) X.xe s:=by
 refine Av (ha pins s σ H _ I h) fun v s1 z44_=>?_
 obtain ⟨x,H1,I1,r1,q1⟩:=z44_
 refine Av (hb pins s1 σ H1 _ I1 q1) fun u s2 z45_=>?_
 obtain ⟨y,H2,I2,r2,q2⟩:=z45_
 exact hf v u s2 x y H2 I2 r1 r2 q2
theorem TL {op:Operator} {r:R2} (ho:OpR X (binaryOp op) r) (ha:PE X a ta) (hb:PE X b tb):PE X (.BinOp a op b pos) (JD r ta tb):=by
 intro pins s σ H Q I h
 exact wpAny_BinOp (LD ha hb I h fun v u s2 x y H2 I2 rx ry q=>ho pins s2 σ H2 x y v u Q I2 rx ry q)
theorem TM {op:UnaryOp} {r:V→Hp→VK→Prop} (ho:LC X (unaryOp op) r) (ha:PE X a ta):PE X (.UnaryOp op a pos) (TK r ta):=by
 intro pins s σ H Q I h
 exact UnaryOp_ (Av (ha pins s σ H _ I h) fun v s1 z46_=>by obtain ⟨x,H1,I1,r1,q1⟩:=z46_;exact (ho pins s1 σ H1 x v Q I1 r1 q1))
theorem Ia {f:Value→Value→Sem Value} {C:Int→Int→Prop} {g:Int→Int→Int}
 (rule:∀(i j:Int) (t u:Tok) (s:Shared) (Q:Value→Shared→Prop) (E:Value→Shared→Prop),C i j→Q (.int (g i j) s.toks) {s with toks:=s.toks+1}→wpAny (model X.prog X.w) X.A (f (.int i t) (.int j u)) Q E s):
 OpR X f (rI C fun i j=>.int (g i j)):=by
 intro pins s σ H x y v u Q I rx ry h
 obtain ⟨i,j,rfl,rfl,hc,q⟩:=h
 obtain ⟨t,rfl⟩:=rx
 obtain ⟨t',rfl⟩:=ry
 exact rule i j t t' s _ _ hc ⟨.int (g i j),H,I.tok _,⟨_,rfl⟩,q⟩
theorem LG {f:Value→Value→Sem Value} {g:Int→Int→Int}
 (rule:∀(i j:Int) (t u:Tok) (s:Shared) (Q:Value→Shared→Prop) (E:Value→Shared→Prop),Q (.int (g i j) s.toks) {s with toks:=s.toks+1}→wpAny (model X.prog X.w) X.A (f (.int i t) (.int j u)) Q E s):
 OpR X f (EG fun i j=>.int (g i j)):=by
 intro pins s σ H x y v u Q I rx ry h
 obtain ⟨i,j,rfl,rfl,q⟩:=h
 obtain ⟨t,rfl⟩:=rx
 obtain ⟨t',rfl⟩:=ry
 exact rule i j t t' s _ _ ⟨.int (g i j),H,I.tok _,⟨_,rfl⟩,q⟩
theorem LH {f:Value→Value→Sem Value} {g:Int→Int→Bool}
 (rule:∀(i j:Int) (t u:Tok) (s:Shared) (Q:Value→Shared→Prop) (E:Value→Shared→Prop),Q (.bool (g i j)) s→wpAny (model X.prog X.w) X.A (f (.int i t) (.int j u)) Q E s):
 OpR X f (EG fun i j=>.bl (g i j)):=by
 intro pins s σ H x y v u Q I rx ry h
 obtain ⟨i,j,rfl,rfl,q⟩:=h
 obtain ⟨t,rfl⟩:=rx
 obtain ⟨t',rfl⟩:=ry
 exact rule i j t t' s _ _ ⟨.bl (g i j),H,I,rfl,q⟩
def Oh (i j:Int):Prop:=0<j∧j<1073741824
def FM (i j:Int):Prop:=0≤j∧j≤1000000∧i.natAbs<2^64
def CMul (i j:Int):Prop:=(-(2^64)<i∧i<2^64)∨(-(2^64)<j∧j<2^64)
theorem CMul.ok {i j:Int} (h:CMul i j):IntMulOk i j:=by
 rcases h with ⟨h1,h2⟩ |⟨h1,h2⟩
 ·exact .of_left (intBits_le_64 h1 h2)
 ·exact .of_right (intBits_le_64 h1 h2)
theorem op_add:OpR X (binaryOp .Add) (EG fun i j=>.int (i+j)):=LG fun _ _ _ _ _ _ _ q=>add_int q
theorem TN:OpR X (binaryOp .Sub) (EG fun i j=>.int (i - j)):=LG fun _ _ _ _ _ _ _ q=>sub_int q
theorem TQ:OpR X (binaryOp .Mod) (rI (fun _ j=>0<j) fun i j=>.int (i % j)):=Ia fun i j _ _ _ _ _ hc q=>by
 have h1:(0:Int)<j:=hc
 exact mod_int' (by omega) (by rw [Int.fmod_eq_emod_of_nonneg i (by omega)];exact q)
theorem TR:OpR X (binaryOp .Pow) (rI FM fun i j=>.int (i^j.toNat)):=Ia fun _ _ _ _ _ _ _ hc q=>pow_int_small hc.1 hc.2.1 hc.2.2 q
theorem TU:OpR X (binaryOp .LShift) (rI FM fun i j=>.int (i*2^j.toNat)):=Ia fun _ _ _ _ _ _ _ hc q=>lshift_int_small hc.1 hc.2.1 hc.2.2 q
theorem TV:OpR X (binaryOp .BitXor) (EG fun i j=>.int (Builtin.bitXor i j)):=LG fun _ _ _ _ _ _ _ q=>xor_int q
theorem TX {f:Value→Sem Value} {g:Int→Int}
 (rule:∀(i:Int) (t:Tok) (s:Shared) (Q:Value→Shared→Prop) (E:Value→Shared→Prop),Q (.int (g i) s.toks) {s with toks:=s.toks+1}→wpAny (model X.prog X.w) X.A (f (.int i t)) Q E s):
 LC X f (rU fun i=>.int (g i)):=by
 intro pins s σ H x v Q I rx h
 obtain ⟨i,rfl,q⟩:=h
 obtain ⟨t,rfl⟩:=rx
 exact rule i t s _ _ ⟨.int (g i),H,I.tok _,⟨_,rfl⟩,q⟩
theorem TY:LC X (unaryOp .USub) (rU fun i=>.int (-i)):=TX fun _ _ _ _ _ q=>neg_int q
end
def Oi:V→V→Bool
 |.non,.non=>true |.non,.int _=>true |.int _,.non=>true |.non,.bl _=>true |.bl _,.non=>true |.non,.str _=>true |.str _,.non=>true
 |.int _,.int _=>true |.bl _,.bl _=>true |.str _,.str _=>true |.byt _,.byt _=>true
 |.int _,.str _=>true |.str _,.int _=>true |.bl _,.str _=>true |.str _,.bl _=>true
 |_,_=>false
def TZ:R2:=fun x y H Q=>Oi x y=true∧Q (.bl (decide (x=y))) H
def T1:R2:=fun x y H Q=>Oi x y=true∧Q (.bl (!decide (x=y))) H
theorem Oj {i j:Int}:decide (V.int i=V.int j)=(i==j):=by
 rw [qbR]
 simp
theorem Ol {i j:Bool}:decide (V.bl i=V.bl j)=(i==j):=by
 rw [qbR]
 simp
theorem JE {i j:Str}:decide (V.str i=V.str j)=(i==j):=by
 rw [qbR]
 simp
theorem Om {i j:Array UInt8}:decide (V.byt i=V.byt j)=(i.toList==j.toList):=by
 rw [qbR]
 cases i
 cases j
 simp
section
variable {X:Cx} {a b c:Expr} {ta tb tc:TE} {pos:Pos}
theorem Bk {pins:List (Addr×Obj)} {σ:St} {H:Hp} {s:Shared} {Q:VK} {k k':Bool} (I:Inv X pins σ H s) (q:Q (.bl k) H) (e:k=k'):EP X pins σ Q (.bool k') s:=by
 subst e
 exact ⟨.bl k,H,I,rfl,q⟩
theorem op_eq:OpR X (compareOp .Eq) TZ:=by
 intro pins s σ H x y v u Q I rx ry h
 obtain ⟨hs,q⟩:=h
 cases x with
 |non=>
  cases rx
  cases y with
  |non=>cases ry;exact PySem.EqNone.eq_none_none (Bk I q (by simp))
  |bl j=>cases ry;exact PySem.EqNone.eq_none_bool (Bk I q (by simp))
  |int j=>obtain ⟨t',rfl⟩:=ry;exact PySem.EqNone.eq_none_int (Bk I q (by simp))
  |str j=>obtain ⟨t',rfl⟩:=ry;exact PySem.EqNone.eq_none_str (Bk I q (by simp))
  |_=>exact absurd (show false=true from hs) BI
 |bl i=>
  cases rx
  cases y with
  |non=>cases ry;exact PySem.EqNone.eq_bool_none (Bk I q (by simp))
  |bl j=>cases ry;exact eq_bool (Bk I q Ol)
  |str j=>obtain ⟨t',rfl⟩:=ry;exact PySem.EqMixed.eq_bool_str (Bk I q (by simp))
  |_=>exact absurd (show false=true from hs) BI
 |int i=>
  obtain ⟨t,rfl⟩:=rx
  cases y with
  |non=>cases ry;exact PySem.EqNone.eq_int_none (Bk I q (by simp))
  |int j=>obtain ⟨t',rfl⟩:=ry;exact eq_int (Bk I q Oj)
  |str j=>obtain ⟨t',rfl⟩:=ry;exact PySem.EqMixed.eq_int_str (Bk I q (by simp))
  |_=>exact absurd (show false=true from hs) BI
 |str i=>
  obtain ⟨t,rfl⟩:=rx
  cases y with
  |non=>cases ry;exact PySem.EqNone.eq_str_none (Bk I q (by simp))
  |bl j=>cases ry;exact PySem.EqMixed.eq_str_bool (Bk I q (by simp))
  |int j=>obtain ⟨t',rfl⟩:=ry;exact PySem.EqMixed.eq_str_int (Bk I q (by simp))
  |str j=>obtain ⟨t',rfl⟩:=ry;exact eq_str (Bk I q JE)
  |_=>exact absurd (show false=true from hs) BI
 |byt i=>
  obtain ⟨t,rfl⟩:=rx
  cases y with
  |byt j=>obtain ⟨t',rfl⟩:=ry;exact PySem.W.eq_bytes (Bk I q Om)
  |_=>exact absurd (show false=true from hs) BI
 |_=>cases y<;>exact absurd (show false=true from hs) BI
theorem op_ne:OpR X (compareOp .NotEq) T1:=by
 intro pins s σ H x y v u Q I rx ry h
 obtain ⟨hs,q⟩:=h
 cases x with
 |non=>
  cases rx
  cases y with
  |non=>cases ry;exact PySem.EqNone.ne_none_none (Bk I q (by simp))
  |bl j=>cases ry;exact PySem.EqNone.ne_none_bool (Bk I q (by simp))
  |int j=>obtain ⟨t',rfl⟩:=ry;exact PySem.EqNone.ne_none_int (Bk I q (by simp))
  |str j=>obtain ⟨t',rfl⟩:=ry;exact PySem.EqNone.ne_none_str (Bk I q (by simp))
  |_=>exact absurd (show false=true from hs) BI
 |bl i=>
  cases rx
  cases y with
  |non=>cases ry;exact PySem.EqNone.ne_bool_none (Bk I q (by simp))
  |bl j=>cases ry;exact ne_bool (Bk I q (congrArg not Ol))
  |str j=>obtain ⟨t',rfl⟩:=ry;exact PySem.EqMixed.ne_bool_str (Bk I q (by simp))
  |_=>exact absurd (show false=true from hs) BI
 |int i=>
  obtain ⟨t,rfl⟩:=rx
  cases y with
  |non=>cases ry;exact PySem.EqNone.ne_int_none (Bk I q (by simp))
  |int j=>obtain ⟨t',rfl⟩:=ry;exact ne_int (Bk I q (congrArg not Oj))
  |str j=>obtain ⟨t',rfl⟩:=ry;exact PySem.EqMixed.ne_int_str (Bk I q (by simp))
  |_=>exact absurd (show false=true from hs) BI
 |str i=>
  obtain ⟨t,rfl⟩:=rx
  cases y with
  |non=>cases ry;exact PySem.EqNone.ne_str_none (Bk I q (by simp))
  |bl j=>cases ry;exact PySem.EqMixed.ne_str_bool (Bk I q (by simp))
  |int j=>obtain ⟨t',rfl⟩:=ry;exact PySem.EqMixed.ne_str_int (Bk I q (by simp))
  |str j=>obtain ⟨t',rfl⟩:=ry;exact ne_str (Bk I q (congrArg not JE))
  |_=>exact absurd (show false=true from hs) BI
 |byt i=>
  obtain ⟨t,rfl⟩:=rx
  cases y with
  |byt j=>obtain ⟨t',rfl⟩:=ry;exact PySem.W.ne_bytes (Bk I q (congrArg not Om))
  |_=>exact absurd (show false=true from hs) BI
 |_=>cases y<;>exact absurd (show false=true from hs) BI
theorem T3:OpR X (compareOp .Lt) (EG fun i j=>.bl (decide (i<j))):=LH fun _ _ _ _ _ _ _ q=>lt_int q
theorem T4:OpR X (compareOp .LtE) (EG fun i j=>.bl (decide (i≤j))):=LH fun _ _ _ _ _ _ _ q=>le_int q
theorem T6:OpR X (compareOp .Gt) (EG fun i j=>.bl (decide (j<i))):=LH fun _ _ _ _ _ _ _ q=>gt_int q
theorem OpR.or {f:Value→Value→Sem Value} {r r':R2} (h:OpR X f r) (h':OpR X f r'):OpR X f (fun x y H Q=>r x y H Q∨r' x y H Q):=by
 intro pins s σ H x y v u Q I rx ry q
 rcases q with q |q
 ·exact h pins s σ H x y v u Q I rx ry q
 ·exact h' pins s σ H x y v u Q I rx ry q
theorem EH (b:Expr) {op:CmpOp} (h:op≠.In:=by decide) (h2:op≠.NotIn:=by decide):behindInMarks op b=false:=by
 have e1:(op==CmpOp.In)=false:=by cases op<;>first |rfl |exact absurd rfl h
 have e2:(op==CmpOp.NotIn)=false:=by cases op<;>first |rfl |exact absurd rfl h2
 cases b with
 |Set elts k p=>
  show (k==0&&(op==.In||op==.NotIn)&&elts.all (constantsAlone 8))=false
  rw [e1,e2,Bool.or_self,Bool.and_false,Bool.false_and]
 |_=>rfl
theorem T7 {op:CmpOp} {r:R2} (ho:OpR X (compareOp op) r) (ha:PE X a ta) (hb:PE X b tb) (hm:behindInMarks op b=false):PE X (.Compare a [op] [b] pos) (JD r ta tb):=by
 intro pins s σ H Q I h
 exact wpAny_Compare1 (LD ha hb I h fun v u s2 x y H2 I2 rx ry q=>ho pins s2 σ H2 x y v u Q I2 rx ry q) hm
def T8 (t:TE):TT:=fun σ H Q=>t σ H fun x H'=>∃k,x=.bl k∧Q k H'
theorem T9 {op:CmpOp} {r:R2} (ho:OpR X (compareOp op) r) (ha:PE X a ta) (hb:PE X b tb) (hm:behindInMarks op b=false):PT X (.Compare a [op] [b] pos) (T8 (JD r ta tb)):=by
 intro pins s σ H Q I h
 refine wpAny_isTrue_Compare1 (Av (ha pins s σ H _ I h) fun v s1 ⟨x,H1,I1,r1,q1⟩=>Av (hb pins s1 σ H1 _ I1 q1) ?_) hm
 rintro u s2 ⟨y,H2,I2,r2,q2⟩
 refine Av (ho pins s2 σ H2 x y v u _ I2 r1 r2 q2) fun c s3 z49_=>?_
 obtain ⟨z,H3,I3,r3,k,e,q3⟩:=z49_
 subst e
 cases r3
 exact wpAny_truthy_bool ⟨H3,I3,q3⟩
def On (r r':R2) (ta tb tc:TE):TE:=fun σ H Q=>ta σ H fun x H1=>tb σ H1 fun y H2=>r x y H2 fun z H3=>∃k,z=.bl k∧
 (if k=true then tc σ H3 fun w' H4=>r' y w' H4 Q else Q (.bl false) H3)
theorem Ua {op op':CmpOp} {r r':R2} (ho:OpR X (compareOp op) r) (ho':OpR X (compareOp op') r') (ha:PE X a ta) (hb:PE X b tb) (hc:PE X c tc)
 (hm:lastMarks [op,op'] [b,c]=false:=by with_unfolding_all rfl):PE X (.Compare a [op,op'] [b,c] pos) (On r r' ta tb tc):=by
 intro pins s σ H Q I h
 refine Compare_chain (Av (ha pins s σ H _ I h) fun v s1 ⟨x,H1,I1,r1,q1⟩=>chain_link (Av (hb pins s1 σ H1 _ I1 q1) ?_)) hm
 rintro u s2 ⟨y,H2,I2,r2,q2⟩
 refine Av (ho pins s2 σ H2 x y v u _ I2 r1 r2 q2) fun d s3 z52_=>?_
 obtain ⟨z,H3,I3,r3,k,e,q3⟩:=z52_
 subst e
 cases r3
 refine wpAny_truthy_bool ?_
 cases k with
 |false=>exact ite_ff ⟨.bl false,H3,I3,rfl,q3⟩
 |true=>exact ite_tt (chain_last (Av (hc pins s3 σ H3 _ I3 q3) fun w' s4 z53_=>by obtain ⟨z',H4,I4,r4,q4⟩:=z53_;exact (ho' pins s4 σ H4 y z' u w' Q I4 r2 r4 q4)))
def LI (K:PySem.W.Frag) (x:V) (H:Hp) (k:Bool):Prop:=
 match x with
 |.non=>k=false
 |.bl b=>k=b
 |.int i=>k=(i != 0)
 |.str y=>y.length≤sizeLine∧k=((y.length:Int) != 0)
 |.byt y=>y.size≤sizeLine∧k=((y.size:Int) != 0)
 |.ref p=>(∃xs,SqL K H p xs∧k=!xs.isEmpty)∨(∃xs,SqT K H p xs∧k=!xs.isEmpty)
 |_=>False
theorem Oo {xs:List V} {its:List Value} (r:Vals xs its):(!its.toArray.isEmpty)=!xs.isEmpty:=by
 cases r<;>simp
theorem GX:(sizeLine:Nat)<2^63:=by rw [sizeLine_eq];decide
theorem Ub:TJ X (fun x H Q=>∃k,LI X.K x H k∧Q k H):=by
 intro pins s σ H x v Q I rx h
 obtain ⟨k,e,q⟩:=h
 have hl:=GX
 have hs:sizeLine=16777216:=sizeLine_eq
 cases x with
 |non=>
  cases rx
  have e':k=false:=e
  subst e'
  exact truthy_none ⟨H,I,q⟩
 |bl b=>
  cases rx
  have e':k=b:=e
  subst e'
  exact wpAny_truthy_bool ⟨H,I,q⟩
 |int i=>
  obtain ⟨t,rfl⟩:=rx
  have e':k=(i != 0):=e
  subst e'
  exact PySem.P.truthy_int ⟨H,I,q⟩
 |str y=>
  obtain ⟨t,rfl⟩:=rx
  obtain ⟨hy,e'⟩:y.length≤sizeLine∧k=((y.length:Int) != 0):=e
  subst e'
  exact PySem.P.truthy_str (by omega) ⟨H,I.tok _,q⟩
 |byt y=>
  obtain ⟨t,rfl⟩:=rx
  obtain ⟨hy,e'⟩:y.size≤sizeLine∧k=((y.size:Int) != 0):=e
  subst e'
  exact PySem.W.truthy_bytes (by omega) ⟨H,I.tok _,q⟩
 |ref p=>
  cases rx
  have e':(∃xs,SqL X.K H p xs∧k=!xs.isEmpty)∨(∃xs,SqT X.K H p xs∧k=!xs.isEmpty):=e
  rcases e' with ⟨xs,hx,e'⟩ |⟨xs,hx,e'⟩
  ·subst e'
   obtain ⟨its,r,pl,hz⟩:=I.list hx
   have hlen:=r.length
   exact wpAny_truthy_list pl.isList (by simp only [AZ];omega) ⟨H,I.tok _,by rw [Oo r];exact q⟩
  ·subst e'
   obtain ⟨its,r,pl,hz⟩:=I.tuple hx
   have hlen:=r.length
   exact truthy_tuple pl (by simp only [AZ];omega) ⟨H,I.tok _,by rw [Oo r];exact q⟩
 |_=>exact (show False from e).elim
theorem Uc (ha:PE X a ta) (he:∀Eh,isTrue a X.env Eh=(do let v ←Eh;standAt a.pos;holding [v] (truthy v))):
 PT X a (fun σ H Q=>ta σ H fun x H'=>∃k,LI X.K x H' k∧Q k H'):=by
 intro pins s σ H Q I h
 exact isTrue_plain (Av (ha pins s σ H _ I h) fun v s1 z59_=>by obtain ⟨x,H1,I1,r1,q1⟩:=z59_;exact (Ub pins s1 σ H1 x v Q I1 r1 q1)) (he _)
theorem Ud:OpR X (binaryOp .Add) (fun x y H Q=>∃i j,x=.str i∧y=.str j∧i.length+j.length≤sizeLine∧Q (.str (i++j)) H):=by
 intro pins s σ H x y v u Q I rx ry h
 obtain ⟨i,j,rfl,rfl,hz,q⟩:=h
 obtain ⟨t,rfl⟩:=rx
 obtain ⟨t',rfl⟩:=ry
 exact add_str (fun t' tk=>⟨.str (i++j),H,I.tok _,⟨_,rfl⟩,q⟩) hz
theorem DS {x:V} {us:List Value} (r:Vals [x] us):∃u,us=[u]∧RelV x u:=by
 cases r with
 |cons r1 r2=>cases r2;exact ⟨_,rfl,r1⟩
theorem Ib {x y:V} {us:List Value} (r:Vals [x,y] us):∃u w',us=[u,w']∧RelV x u∧RelV y w':=by
 cases r with
 |cons r1 r2=>
  cases r2 with
  |cons r3 r4=>cases r4;exact ⟨_,_,rfl,r1,r3⟩
theorem Ue (hc:X.calm=true):CY X (.builtin "max") (fun xs H Q=>∃i j,xs=[.int i,.int j]∧Q (.int (if j>i then j else i)) H):=by
 intro pins s σ H xs us Q I r h
 obtain ⟨i,j,rfl,q⟩:=h
 obtain ⟨u,w',rfl,⟨t,rfl⟩,⟨t',rfl⟩⟩:=Ib r
 refine max_two_ints (I.ok.hd hc) fun h' tk k=>⟨_,H,I.kept k,?_,q⟩
 by_cases hj:j>i
 ·rw [if_pos hj,if_pos hj];exact ⟨_,rfl⟩
 ·rw [if_neg hj,if_neg hj];exact ⟨_,rfl⟩
theorem Ug (hc:X.calm=true):CY X (.builtin "min") (fun xs H Q=>∃i j,xs=[.int i,.int j]∧Q (.int (if j<i then j else i)) H):=by
 intro pins s σ H xs us Q I r h
 obtain ⟨i,j,rfl,q⟩:=h
 obtain ⟨u,w',rfl,⟨t,rfl⟩,⟨t',rfl⟩⟩:=Ib r
 refine min_two_ints (I.ok.hd hc) fun h' tk k=>⟨_,H,I.kept k,?_,q⟩
 by_cases hj:j<i
 ·rw [if_pos hj,if_pos hj];exact ⟨_,rfl⟩
 ·rw [if_neg hj,if_neg hj];exact ⟨_,rfl⟩
theorem Uh:CY X (.type "int") (fun xs H Q=>(∃i,xs=[.int i]∧Q (.int i) H)∨∃k,xs=[.bl k]∧Q (.int (if k then 1 else 0)) H):=by
 intro pins s σ H xs us Q I r h
 rcases h with ⟨i,rfl,q⟩ |⟨k,rfl,q⟩
 ·obtain ⟨u,rfl,t,rfl⟩:=DS r
  exact call_int_int ⟨.int i,H,I,⟨_,rfl⟩,q⟩
 ·obtain ⟨u,rfl,r1⟩:=DS r
  cases r1
  exact call_int_bool ⟨.int (if k then 1 else 0),H,I.tok _,⟨_,rfl⟩,q⟩
end
section
variable {prog:Program} {w:World} {A:Around} {E:Value→Shared→Prop} {s:Shared} {K:PySem.W.Frag} {x dx C f:Addr} {mA:Str→Option Value} {name:Str} {v:Value}
end
section
variable {P:Program} {w:World} {H H':Hp} {h h':Heap} {a C dx:Addr} {fs fs':List (Str×V)}
end
section
variable {X:Cx} {pins:List (Addr×Obj)} {σ:St} {H:Hp} {s:Shared} {a C dx:Addr} {fs:List (Str×V)} {f:Str} {v:V} {A:Around} {E:Value→Shared→Prop}
end
section
variable {X:Cx} {o e value:Expr} {f:Str} {pos pos' tpos:Pos} {ta tv:TE}
end
section
variable {X:Cx} {pins:List (Addr×Obj)} {σ:St} {H:Hp} {s:Shared} {A:Around} {E:Value→Shared→Prop} {Q:Value→Shared→Prop} {c:Value} {b:Bool}
inductive DT (K:PySem.W.Frag) (H:Hp):V→Value→Prop where
 |non:DT K H .non (.type "NoneType")
 |bl (x:Bool):DT K H (.bl x) (.type "bool")
 |int (i:Int):DT K H (.int i) (.type "int")
 |str (x:Str):DT K H (.str x) (.type "str")
 |flt (x:UInt64):DT K H (.flt x) (.type "float")
 |lst {a:Addr} {xs:List V} (e:H a=some (.lst xs)):DT K H (.ref a) (.type "list")
 |frz {a:Addr} {o:Obj} {xs:List V} (e:H a=some (.frz o (.lst xs))):DT K H (.ref a) (.type "list")
 |tup {a:Addr} {xs:List V} (e:H a=some (.tup xs)):DT K H (.ref a) (.type "tuple")
theorem Ui {x:V} {u t:Value} (I:Inv X pins σ H s) (rx:RelV x u) (ty:DT X.K H x t) (e:PySem.W.kitOne X.K t c=some b) (h:∀tk,Q (.bool b) {s with toks:=tk}):
 wpAny (model X.prog X.w) A (call (.builtin "isinstance") [u,c]) Q E s:=by
 cases ty with
 |non=>cases (show u=Value.none from rx);exact PySem.W.kia_one PySem.W.kitx_none I.kIn True.intro e (fun z=>nomatch z) h
 |bl y=>cases (show u=Value.bool y from rx);exact PySem.W.kia_one PySem.W.kitx_bool I.kIn True.intro e (fun z=>nomatch z) h
 |int i=>obtain ⟨t,q⟩:=(show ∃t,u=Value.int i t from rx);cases q;exact PySem.W.kia_one PySem.W.kitx_int I.kIn True.intro e (fun z=>nomatch z) h
 |str y=>obtain ⟨t,q⟩:=(show ∃t,u=Value.str y t from rx);cases q;exact PySem.W.kia_one PySem.W.kitx_str I.kIn True.intro e (fun z=>nomatch z) h
 |flt y=>obtain ⟨t,q⟩:=(show ∃t,u=Value.float y t from rx);cases q;exact PySem.W.kia_one PySem.W.kitx_float I.kIn True.intro e (fun z=>nomatch z) h
 |@lst a xs ea=>
  cases (show u=Value.ref a from rx)
  obtain ⟨_,_,n,_,h1⟩:=(show ObjOk X.prog X.w H s.heap a (.lst xs) from I.hok a _ ea)
  exact PySem.W.kia_one PySem.W.kitx_list I.kIn ⟨_,h1,rfl⟩ e (fun z=>nomatch z) h
 |@frz a ob xs ea=>
  cases (show u=Value.ref a from rx)
  obtain ⟨_,_,_,n,_,h1⟩:=(show ObjOk X.prog X.w H s.heap a (.frz ob (.lst xs)) from I.hok a _ ea)
  exact PySem.W.kia_one PySem.W.kitx_list I.kIn ⟨_,h1,rfl⟩ e (fun z=>nomatch z) h
 |@tup a xs ea=>
  cases (show u=Value.ref a from rx)
  obtain ⟨_,_,_,p,_⟩:=(show ObjOk X.prog X.w H s.heap a (.tup xs) from I.hok a _ ea)
  obtain ⟨o,h1,h2,_⟩:=p
  exact PySem.W.kia_one PySem.W.kitx_tuple I.kIn ⟨o,h1,h2⟩ e (fun z=>nomatch z) h
end
structure Room (k:Nat) (A:Around):Prop where
 hd:A.handled=none
 dp:A.depth+3*k+5<recursionLimit
 un:A.units+16*k+200<cLine
 gd:A.guards=some []
theorem Room.mono {j k:Nat} {A:Around} (r:Room k A) (h:j≤k):Room j A:=⟨r.hd,by have:=r.dp;omega,by have:=r.un;omega,r.gd⟩
theorem Room.deeper {k:Nat} {A:Around} (r:Room (k+1) A) (env:Env):Room k (A.deeper env):=
 ⟨r.hd,by have:=r.dp;show A.depth+1+3*k+5<_;omega,by have:=r.un;show A.units+3+16*k+200<_;omega,r.gd⟩
theorem Room.depth {k:Nat} {A:Around} (r:Room k A):A.depth<recursionLimit:=by have:=r.dp;omega
theorem Room.units {k:Nat} {A:Around} (r:Room k A):A.units+64<cLine:=by have:=r.un;omega
def Oq:TA:=fun _ H Q=>Q [] H
def Uj (ta:TE) (tr:TA):TA:=fun σ H Q=>ta σ H fun x H1=>tr σ H1 fun xs H2=>Q (x::xs) H2
section
variable {X:Cx} {e:Expr} {es:List Expr} {te:TE} {t:TA} {pos:Pos}
theorem Uk:PA X [] Oq:=fun _ _ _ _ H Q I h=>Calls.spliced_nil ⟨[],H,I,.nil,h⟩
theorem Ul (ha:PE X e te) (hr:PA X es t) (hs:starEach (e::es) X.env=(false,eval e X.env)::starEach es X.env:=by rfl):PA X (e::es) (Uj te t):=by
 intro pos pins s σ H Q I h
 rw [hs]
 show wpAny _ _ (spliced ((false,eval e X.env)::backTo pos (starEach es X.env))) _ _ s
 refine Calls.spliced_cons (Av (ha pins s σ H _ I h) fun u s1 z68_=>?_)
 obtain ⟨x,H1,I1,r1,q1⟩:=z68_
 exact Av (hr pos pins s1 σ H1 _ I1 q1) fun us s2 z69_=>by obtain ⟨xs,H2,I2,r2,q2⟩:=z69_;exact (⟨x::xs,H2,I2,.cons r1 r2,q2⟩)
def Um (t:TA):TE:=fun σ H Q=>t σ H fun xs H1=>xs.length≤sizeLine∧∀p,H1 p=none→Q (.ref p) (Am H1 p (.tup xs))
def Uo (t:TA):TE:=fun σ H Q=>t σ H fun xs H1=>xs.length≤sizeLine∧∀p,H1 p=none→Q (.ref p) (Am H1 p (.lst xs))
theorem Up {x1} (h:PA X es t):PE X (.Tuple es x1 pos) (Um t):=by
 intro pins s σ H Q I hq
 refine wpAny_Tuple_spliced (Av (h pos pins s σ H _ I hq) fun us s1 ⟨xs,H1,I1,r,z,q⟩=>⟨by rw [←r.length];exact z,?_⟩)
 have hf:H1 s1.heap.objs.size=none:=I1.hok.fresh (AD _)
 refine ⟨.ref s1.heap.objs.size,Am H1 s1.heap.objs.size (.tup xs),I1.laid (t':=s1.toks) (fun b u e=>AE _ e) (AD _) ?_,rfl,q _ hf⟩
 exact ⟨z,us,r,⟨_,Bj _ rfl,rfl,_,rfl⟩,NoDict.new⟩
theorem Uq (h:PA X es t):PE X (.List es pos) (Uo t):=by
 intro pins s σ H Q I hq
 refine wpAny_List_spliced (Av (h pos pins s σ H _ I hq) fun us s1 ⟨xs,H1,I1,r,z,q⟩=>⟨by rw [←r.length];exact z,?_⟩)
 have hf:H1 s1.heap.objs.size=none:=I1.hok.fresh (AD _)
 refine ⟨.ref s1.heap.objs.size,Am H1 s1.heap.objs.size (.lst xs),I1.laid (t':=s1.toks) (fun b u e=>AE _ e) (AD _) ?_,rfl,q _ hf⟩
 exact ⟨z,us,0,r,Bj _ rfl⟩
end
abbrev Sp:=List V→Hp→VK→XK→Prop
abbrev Dx:=List Env→Hp→Shared→XK→Value→Shared→Prop
structure Fc (P:Program) (w:World) (K:PySem.W.Frag) (mg:Str→Option Value) (base:Heap) (A:Around) (outer:List Env) (s:Shared) (H:Hp):Prop where
 frames:A.frames=some outer
 mod:Mod K mg base
 bs:∀b o,base.get? b=some o→s.heap.get? b=some o∧H b=none
 bsz:base.objs.size≤s.heap.objs.size
 funs:s.heap.FunFrames base outer
 frf:∀b∈frs outer,H b=none
 hok:HOk P w H s.heap
 bare:AllBare s.gens
inductive CE (outer:List Env) (P:Program) (w:World) (H:Hp) (s:Shared) (Q:VK) (u:Value) (s':Shared):Prop where
 |mk (v:V) (H':Hp) (os:s'.os=s.os) (bare:AllBare s'.gens) (un:Un (frs outer) [] H H' s.heap s'.heap) (hok:HOk P w H' s'.heap) (r:RelV v u) (q:Q v H'):CE outer P w H s Q u s'
def CR (CX:Dx) (outer:List Env) (P:Program) (w:World) (H:Hp) (s:Shared) (Q:VK) (E:XK) (r:Result) (s':Shared):Prop:=
 match r with
 |.ok (.ret u)=>CE outer P w H s Q u s'
 |.ok _=>False
 |.error e=>CX outer H s E e s'
structure FnOk (P:Program) (w:World) (K:PySem.W.Frag) (mg:Str→Option Value) (base:Heap) (CX:Dx) (k:Nat) (f:Addr) (fd:FuncData) (ps:List Str) (sp:Sp):Prop where
 len:∀vs H Q E,sp vs H Q E→vs.length=ps.length
 run:∀(A:Around) (outer:List Env) (s:Shared) (H:Hp) (args:Args) (us:List Value) (vs:List V) (Q:VK) (E:XK),Room k A→Fc P w K mg base A outer s H→BindsTo s fd args (ps.zip us)→Vals vs us→sp vs H Q E→
  codeAny (model P w) A (.call (.ref f) args) (CR CX outer P w H s Q E) s
theorem FnOk.mono {P:Program} {w:World} {K:PySem.W.Frag} {mg:Str→Option Value} {base:Heap} {CX:Dx} {j k:Nat} {f:Addr} {fd:FuncData} {ps:List Str} {sp:Sp} (F:FnOk P w K mg base CX j f fd ps sp) (h:j≤k):
 FnOk P w K mg base CX k f fd ps sp:=⟨F.len,fun A outer s H args us vs Q E hr=>F.run A outer s H args us vs Q E (hr.mono h)⟩
theorem FnOk.imp {P:Program} {w:World} {K:PySem.W.Frag} {mg:Str→Option Value} {base:Heap} {CX:Dx} {k:Nat} {f:Addr} {fd:FuncData} {ps:List Str} {sp sp':Sp} (F:FnOk P w K mg base CX k f fd ps sp)
 (h:∀vs H Q E,sp' vs H Q E→sp vs H Q E):FnOk P w K mg base CX k f fd ps sp':=
 ⟨fun vs H Q E q=>F.len vs H Q E (h _ _ _ _ q),fun A outer s H args us vs Q E hr he hb hv hs=>F.run A outer s H args us vs Q E hr he hb hv (h _ _ _ _ hs)⟩
section
variable {X:Cx} {pins:List (Addr×Obj)} {σ:St} {H:Hp} {s s':Shared}
theorem Inv.env0 (I:Inv X pins σ H s):Fc X.prog X.w X.K X.mg X.base X.A X.stack s H:=
 ⟨I.ok.frames,I.ok.mod,I.bs,BM I.ok.bsz I.sz,I.stack,I.stkFree,I.hok,I.bare⟩
theorem Inv.after {Q:VK} {u:Value} (I:Inv X pins σ H s) (h:CE X.stack X.prog X.w H s Q u s'):EP X pins σ Q u s':=by
 obtain ⟨v,H',os,bare,un,hok,r,q⟩:=h
 obtain ⟨hh,g,d,t,os'⟩:=s'
 obtain rfl:os'=s.os:=os
 exact ⟨v,H',I.call (h':=hh) (g':=g) (d':=d) (t':=t) (ch:=[]) un hok bare (fun b z=>absurd z (by simp)),r,q⟩
end
def Ot (sp:Sp) (dvs:List V) (E:XK) (t:TA):TE:=fun σ H Q=>t σ H fun vs H1=>sp (vs++dvs) H1 Q E
def Binds (K:PySem.W.Frag) (fd:FuncData) (ps:List Str) (ds:List Value):Prop:=
 ∀(s:Shared) (us:List Value),K.In s.heap→(us++ds).length=ps.length→BindsTo s fd ⟨us,[]⟩ (ps.zip (us++ds))
theorem Binds.all {K:PySem.W.Frag} {fd:FuncData} {ps:List Str} (h:∀us:List Value,us.length=ps.length→bindArgs fd ⟨us,[]⟩=pure (ps.zip us)):Binds K fd ps []:=fun s us _ hl=>by
 rw [GO] at hl ⊢
 exact .of_eq (h us hl)
def EI (CX:Dx) (X:Cx) (E:XK):Prop:=∀(pins:List (Addr×Obj)) (σ:St) (H:Hp) (s:Shared) (e:Value) (s':Shared),Inv X pins σ H s→CX X.stack H s E e s'→X.xe e s'
section
variable {X:Cx} {CX:Dx} {k:Nat} {f C:Addr} {fd:FuncData} {ps:List Str} {sp:Sp} {dvs:List V} {ds:List Value} {E:XK} {x m:Str} {p pos apos:Pos} {e o:Expr} {es:List Expr} {ta:TE} {t:TA}
theorem Ou {pins:List (Addr×Obj)} {σ:St} {H:Hp} {s:Shared} {Q:VK} {us:List Value} {vs:List V} (F:FnOk X.prog X.w X.K X.mg X.base CX k f fd ps sp) (hr:Room k X.A) (hb:Binds X.K fd ps ds) (hd:Vals dvs ds) (hx:EI CX X E)
 (I:Inv X pins σ H s) (r:Vals vs us) (h:sp (vs++dvs) H Q E):wpAny (model X.prog X.w) X.A (call (.ref f) us) (EP X pins σ Q) X.xe s:=by
 have r2:Vals (vs++dvs) (us++ds):=r.append hd
 have hl:(us++ds).length=ps.length:=by rw [←r2.length];exact F.len _ _ _ _ h
 refine wpAny_call (codeAny_mono (F.run X.A X.stack s H ⟨us,[]⟩ (us++ds) (vs++dvs) Q E hr I.env0 (hb s us I.kIn hl) r2 h) fun r s' hq=>?_)
 cases r with
 |error e=>exact hx pins σ H s e s' I hq
 |ok fl=>
  cases fl with
  |ret u=>exact I.after hq
  |next=>exact False.elim hq
  |brk=>exact False.elim hq
  |cont=>exact False.elim hq
theorem Ur (F:FnOk X.prog X.w X.K X.mg X.base CX k f fd ps sp) (hr:Room k X.A) (hg:Gl X x) (hm:X.mg x=some (.ref f)) (hk:PySem.W.keepIn X.K (.ref f)=true) (hb:Binds X.K fd ps ds) (hd:Vals dvs ds) (hx:EI CX X E)
 (ha:PA X (e::es) t) (hdb:(x==("__debug__":Str))=false:=by decide) (he:starEach (e::es) X.env=(false,eval e X.env)::starEach es X.env:=by rfl) (hpl:(backTo pos (starEach es X.env)).any (·.1)=false:=by rfl):
 PE X (.Call (.Name x p) (e::es) [] pos) (Ot sp dvs E t):=by
 intro pins s σ H Q I h
 refine wpAny_Call_Name_kw (FI I hg hm ?_ hdb)
 refine PySem.W.callWith_K (h₀:=X.base) I.ok.mod.kin hk (Av (ha pos pins s σ H _ I h) ?_) he hpl
 rintro us s1 ⟨vs,H1,I1,r,q⟩
 refine ⟨I1.kIn,?_⟩
 exact Ou F hr hb hd hx I1 r q
theorem Us (F:FnOk X.prog X.w X.K X.mg X.base CX k f fd ps sp) (hr:Room k X.A) (hg:Gl X x) (hm:X.mg x=some (.ref f)) (hk:PySem.W.keepIn X.K (.ref f)=true) (hb:Binds X.K fd ps ds) (hd:Vals dvs ds) (hx:EI CX X E)
 (hdb:(x==("__debug__":Str))=false:=by decide):PE X (.Call (.Name x p) [] [] pos) (Ot sp dvs E Oq):=by
 intro pins s σ H Q I h
 refine wpAny_Call_Name_kw (FI I hg hm ?_ hdb)
 exact PySem.W.callWith_K0 I.kIn hk (Ou (us:=[]) F hr hb hd hx I .nil h)
end
section
variable {X:Cx} {CX:Dx} {k:Nat} {f C:Addr} {fd:FuncData} {ps ks:List Str} {sp:Sp} {E:XK} {x m:Str} {p pos apos kpos:Pos} {e o:Expr} {es:List Expr} {kws:List Keyword} {te ta:TE} {t tk:TA} {nm:Option Str}
variable {g:List Value→List Value→List Value} {gV:List V→List V→List V}
end
structure A4 (N P:List Str) (sc:Scope):Prop where
 kind:sc.kind=.function
 co:sc.isCoroutine=false
 gen:sc.isGenerator=false
 nd:N.Nodup
 pre:N.take P.length=P
 par:∀x∈P,sc.names.lookup x=some .local∨sc.names.lookup x=some .cell
 nofree:∀y∈sc.names,y.2≠.free
theorem Ov {kindOf:Str→Option NameKind} {x:Str}:∀{binds:List (Str×Value)} {m:Str→Option Value},(∀v,(x,v)∉binds)→bindL kindOf binds m x=m x
 |[],_,_=>rfl
 |(n,v)::r,m,h=>by
  unfold bindL
  rw [Ov fun w hw=>h w (A6 _ hw)]
  split
  ·have:x≠n:=by rintro rfl;exact h v A3
   simp [this]
  ·rfl
theorem Ow {kindOf:Str→Option NameKind} {x:Str}:∀{binds:List (Str×Value)} {m:Str→Option Value},(∀v,(x,v)∉binds)→bindC kindOf binds m x=m x
 |[],_,_=>rfl
 |(n,v)::r,m,h=>by
  unfold bindC
  rw [Ow fun w hw=>h w (A6 _ hw)]
  split
  ·rfl
  ·have:x≠n:=by rintro rfl;exact h v A3
   simp [this]
theorem LJ {kindOf:Str→Option NameKind} {x:Str} {v:Value}:∀{P:List Str} {vs:List Value} {i:Nat} {m:Str→Option Value},P.Nodup→P[i]?=some x→vs[i]?=some v→kindOf x=some .local→
 bindL kindOf (P.zip vs) m x=some v
 |[],_,_,_,_,h,_,_=>by simp at h
 |_::_,[],_,_,_,_,h,_=>by simp at h
 |p::P,w::vs,0,m,nd,h1,h2,hk=>by
  simp at h1 h2;subst h1;subst h2
  show bindL kindOf ((p,w)::P.zip vs) m p=_
  unfold bindL
  rw [Ov fun v hv=>(qbM.mp nd).1 (Jt hv).1,if_pos hk]
  simp
 |p::P,w::vs,i+1,m,nd,h1,h2,hk=>by
  show bindL kindOf ((p,w)::P.zip vs) m x=_
  unfold bindL
  exact LJ (i:=i) (qbM.mp nd).2 (by simpa using h1) (by simpa using h2) hk
theorem LM {kindOf:Str→Option NameKind} {x:Str} {v:Value}:∀{P:List Str} {vs:List Value} {i:Nat} {m:Str→Option Value},P.Nodup→P[i]?=some x→vs[i]?=some v→kindOf x≠some .local→
 bindC kindOf (P.zip vs) m x=some v
 |[],_,_,_,_,h,_,_=>by simp at h
 |_::_,[],_,_,_,_,h,_=>by simp at h
 |p::P,w::vs,0,m,nd,h1,h2,hk=>by
  simp at h1 h2;subst h1;subst h2
  show bindC kindOf ((p,w)::P.zip vs) m p=_
  unfold bindC
  rw [Ow fun v hv=>(qbM.mp nd).1 (Jt hv).1,if_neg hk]
  simp
 |p::P,w::vs,i+1,m,nd,h1,h2,hk=>by
  show bindC kindOf ((p,w)::P.zip vs) m x=_
  unfold bindC
  exact LM (i:=i) (qbM.mp nd).2 (by simpa using h1) (by simpa using h2) hk
def start (N:List Str) (vs:List V):St:=vs.map some++List.replicate (N.length - vs.length) none
def AI (CX:Dx) (P:Program) (w:World) (K:PySem.W.Frag) (mg:Str→Option Value) (base:Heap) (N:List Str) (qual:Str) (scope:Scope) (f:Addr) (cd:Value) (A:Around) (outer:List Env) (s:Shared) (H:Hp) (E:XK):Cx where
 prog:=P
 w:=w
 K:=K
 mg:=mg
 base:=base
 A:=A.deeper (envOfC qual scope s.heap.objs.size f cd)
 N:=N
 s₀:=s
 H₀:=H
 env:=envOfC qual scope s.heap.objs.size f cd
 outer:=outer
 stack:=envOfC qual scope s.heap.objs.size f cd::outer
 ex:=[]
 calm:=true
 fn:=fun _=>true
 pn:=[]
 xe:=fun e s'=>wpAny (model P w) (A.deeper (envOfC qual scope s.heap.objs.size f cd)) (leaving (envOfC qual scope s.heap.objs.size f cd) e) (fun _ s''=>CX outer H s E e s'') (fun e' s''=>CX outer H s E e' s'') s'
theorem JF {sc:Scope} {n:Nat} {x:Str} (h:sc.names.lookup x=some .cell):∃c,(cellsFrom n sc.names []).lookup x=some c:=by
 have q:=PySem.W.cellsFrom_some sc.names n [] (.inl h)
 exact qbP.mp q
theorem Ox {CX:Dx} {P:Program} {w:World} {K:PySem.W.Frag} {mg:Str→Option Value} {base:Heap} {N ps:List Str} {qual:Str} {scope:Scope} {f:Addr} {cd:Value} {A:Around} {outer:List Env} {s s1:Shared} {H:Hp} {E:XK} {us:List Value} {vs:List V}
 (S:A4 N ps scope) (hd:A.handled=none) (e0:Fc P w K mg base A outer s H) (hl:vs.length=ps.length) (r:Vals vs us)
 (x:InCallC s s.heap.objs.size (bindL (envOfC qual scope s.heap.objs.size f cd).kindOf (ps.zip us) fun _=>none) (cellsFrom (s.heap.objs.size+1) scope.names []) (bindC (envOfC qual scope s.heap.objs.size f cd).kindOf (ps.zip us) fun _=>none) s1):
 Inv (AI CX P w K mg base N qual scope f cd A outer s H E) [] (start N vs) H s1:=by
 have hpl:ps.length≤N.length:=by have:=congrArg List.length S.pre;rw [Js] at this;omega
 obtain ⟨h1,tk,rfl,hk⟩:=x.done
 have noA:∀b:Addr,b∉(AI CX P w K mg base N qual scope f cd A outer s H E).ex:=fun b z=>absurd (show b∈([]:List Addr) from z) (by simp)
 refine ⟨⟨e0.mod,S.kind,rfl,rfl,AD _,fun y z c h1 h2=>?_,fun y hy=>?_,fun y c _ h=>?_,fun _=>hd,Around.frames_deeper e0.frames,.inr ⟨rfl,rfl⟩,fun b z=>absurd z (noA b),e0.bs,e0.bsz,fun b _ _=>noA b,fun b z=>absurd z (noA b),e0.funs,e0.frf⟩,
  rfl,e0.bare,Un.kept hk,⟨_,x.toInCall.ns,fun i y v h1 h2 h3=>?_⟩,fun y c h=>⟨_,x.cell y c h⟩,e0.hok.fresh (AD _),fun y c h=>?_,fun p hp=>absurd (show p∈([]:List (Addr×Obj)) from hp) (by simp),e0.hok.kept hk,?_⟩
 ·exact name_of_addr x.apart (PySem.mem_of_lookup h1) (PySem.mem_of_lookup h2)
 ·have hy:scope.names.lookup y=some .cell∨scope.names.lookup y=some .free:=hy
  rcases hy with hy |hy
  ·exact JF hy
  ·exact absurd rfl (S.nofree _ (PySem.mem_of_lookup hy))
 ·exact E8 (x.above y c (PySem.mem_of_lookup h))
 ·have hi:i<vs.length:=by
   unfold start at h2
   by_cases hi:i<vs.length
   ·exact hi
   ·rw [HK (by simpa using hi)] at h2
    rw [Ll] at h2
    split at h2<;>cases h2
  have ha:vs[i]?=some v:=by
   unfold start at h2
   rw [Ez (by simpa using hi),BX] at h2
   cases e:vs[i]? with
   |none=>rw [e] at h2;cases h2
   |some a=>rw [e] at h2;cases h2;rfl
  obtain ⟨u,hu,rv⟩:=r.get ha
  have hp:ps[i]?=some y:=by
   rw [←S.pre,List.getElem?_take_of_lt (by omega)];exact h1
  have ndP:ps.Nodup:=by rw [←S.pre];exact S.nd.sublist (List.take_sublist _ _)
  refine ⟨u,rv,?_⟩
  rcases S.par y (E5 hp) with k |k
  ·exact .inl ⟨k,LJ ndP hp hu k⟩
  ·obtain ⟨c,e⟩:=JF (n:=s.heap.objs.size+1) k
   refine .inr ⟨.inl k,c,e,?_⟩
   have q:=x.cell y c e
   rw [LM ndP hp hu (by show scope.names.lookup y≠_;rw [k];decide)] at q
   exact q
 ·exact e0.hok.fresh (E8 (x.above y c (PySem.mem_of_lookup h)))
 ·unfold start
  show _=N.length
  rw [FB,CH,List.length_replicate]
  omega
theorem Oy {CX:Dx} {P:Program} {w:World} {K:PySem.W.Frag} {mg:Str→Option Value} {base:Heap} {k:Nat} {f:Addr} {name qual:Str} {params:Arguments} {body:List Stmt} {scope:Scope} {dV kV doc pm cdv ct oc:Value} {an od:Option Addr}
 {osl:Array (Option Value)} {N ps:List Str} {sp:Sp} (lk:K.lookup f=some ⟨oc,od,.func (PySem.W.fnOf name qual params body scope dV kV doc pm an cdv ct),osl⟩) (hcd:PySem.W.codeIn K cdv qual=true) (S:A4 N ps scope)
 (len:∀vs H Q E,sp vs H Q E→vs.length=ps.length)
 (hbody:∀(A:Around) (outer:List Env) (s:Shared) (H:Hp) (vs:List V) (Q:VK) (E:XK),Room k (A.deeper (envOfC qual scope s.heap.objs.size f cdv))→sp vs H Q E→
  ∃t,Dm (AI CX P w K mg base N qual scope f cdv A outer s H E) body t∧t {nx:=fun _ H'=>Q .non H',rt:=Q} (start N vs) H):
 FnOk P w K mg base CX (k+1) f (PySem.W.fnOf name qual params body scope dV kV doc pm an cdv ct) ps sp:=by
 refine ⟨len,fun A outer s H args us vs Q E hr e0 hb r hsp=>?_⟩
 have hl:=len _ _ _ _ hsp
 have KX:K.In s.heap:=e0.mod.kin.keeps fun b o e=>(e0.bs b o e).1
 have lim:s.heap.NoLimit:=e0.mod.nolimit.keeps fun b o e=>(e0.bs b o e).1
 have hkind:∀y∈ps.zip us,scope.names.lookup y.1=some .local∨(scope.names.lookup y.1=some .cell∧((cellsFrom (s.heap.objs.size+1) scope.names []).lookup y.1).isSome=true):=fun z81_ hy=>by
  obtain ⟨n,v⟩:=z81_
  rcases S.par n (Jt hy).1 with q |q
  ·exact .inl q
  ·exact .inr ⟨q,PySem.W.cellsFrom_some _ _ _ (.inl q)⟩
 refine codeAny_call_function hr.depth (KX _ _ lk) rfl S.co S.gen rfl (PySem.W.codeRec_of KX hcd) (hb _ _ _ _ ?_)
 refine wpAny_newFunctionEnv_cells S.kind hkind fun env he s1 x=>?_
 subst he
 refine ⟨lim.keeps x.toInCall.keep,codeAny_func ?_⟩
 obtain ⟨t,ht,hq⟩:=hbody A outer s H vs Q E (hr.deeper _) hsp
 have I:Inv (AI CX P w K mg base N qual scope f cdv A outer s H E) [] (start N vs) H s1:=Ox S hr.hd e0 hl r x
 refine wpAny_mono (ht [] s1 (start N vs) H _ I hq) (fun fl s' hs=>?_) fun e s' hs=>hs
 have AX:∀{σ':St} {H':Hp} {v:V} {u:Value},Inv (AI CX P w K mg base N qual scope f cdv A outer s H E) [] σ' H' s'→RelV v u→Q v H'→CE outer P w H s Q u s':=
  fun {σ' H' v u} J rv q=>⟨v,H',J.os,J.bare,J.base,J.hok,rv,q⟩
 cases fl with
 |ret u=>
  obtain ⟨v,σ',H',J,rv,q⟩:=hs
  exact AX J rv q
 |next=>
  obtain ⟨σ',H',J,q⟩:=hs
  exact AX (v:=V.non) (u:=Value.none) J rfl q
 |brk=>
  obtain ⟨_,_,_,q⟩:=hs
  exact False.elim q
 |cont=>
  obtain ⟨_,_,_,q⟩:=hs
  exact False.elim q
section
variable {X:Cx} {x:Str} {p pos:Pos} {e:Expr} {es:List Expr} {t:TA} {id T:String} {r:List V→Hp→VK→Prop}
def Oz (r:List V→Hp→VK→Prop) (t:TA):TE:=fun σ H Q=>t σ H fun vs H1=>r vs H1 Q
theorem Ut (hc:CY X (.builtin id) r) (hg:Gl X x) (hm:X.mg x=none) (hv:bootBuiltins x=some (.builtin id)) (ha:PA X (e::es) t) (hn:x≠"__name__":=by decide) (hdb:(x==("__debug__":Str))=false:=by decide)
 (he:starEach (e::es) X.env=(false,eval e X.env)::starEach es X.env:=by rfl) (hpl:(backTo pos (starEach es X.env)).any (·.1)=false:=by rfl):PE X (.Call (.Name x p) (e::es) [] pos) (Oz r t):=by
 intro pins s σ H Q I h
 refine wpAny_Call_Name_kw (FJ I hg hm hv ?_ hn hdb)
 exact PyProof.Rows.callWith_builtin1 (Av (ha pos pins s σ H _ I h) fun us s1 z82_=>by obtain ⟨vs,H1,I1,r1,q1⟩:=z82_;exact (hc pins s1 σ H1 vs us Q I1 r1 q1)) he hpl
theorem Uu (hc:CY X (.type T) r) (hg:Gl X x) (hm:X.mg x=none) (hv:bootBuiltins x=some (.type T)) (ha:PA X (e::es) t) (hn:x≠"__name__":=by decide) (hdb:(x==("__debug__":Str))=false:=by decide)
 (he:starEach (e::es) X.env=(false,eval e X.env)::starEach es X.env:=by rfl) (hpl:(backTo pos (starEach es X.env)).any (·.1)=false:=by rfl):PE X (.Call (.Name x p) (e::es) [] pos) (Oz r t):=by
 intro pins s σ H Q I h
 refine wpAny_Call_Name_kw (FJ I hg hm hv ?_ hn hdb)
 exact PyProof.Rows.callWith_type1 (Av (ha pos pins s σ H _ I h) fun us s1 z83_=>by obtain ⟨vs,H1,I1,r1,q1⟩:=z83_;exact (hc pins s1 σ H1 vs us Q I1 r1 q1)) he hpl
end
end L2
namespace HT
open PySem PyProof.Rows
section
open PySem.SeqAt
open PySem.AutoSeq1 (wpAny_loadPart')
open PySem.MeetsSeq PySem.MeetsSeq2 PySem.MeetsSeq3
end
section
variable {prog:Program} {w:World} {A:Around} {E:Value→Shared→Prop} {s:Shared}
theorem cat_tup {t b:Addr} {vs ws:List Value} {Q:Value→Shared→Prop} (ht:IsTup s.heap t vs.toArray) (hb:IsTup s.heap b ws.toArray) (hv:vs≠[])
 (h1:ws=[]→Q (.ref t) s) (h2:ws≠[]→Q (.ref s.heap.objs.size) {s with heap:=s.heap.push {cls:=.type "tuple",data:=.seq (vs++ws).toArray}})
 (hsz:vs.length+ws.length≤sizeLine):wpAny (model prog w) A (binaryOp .Add (.ref t) (.ref b)) Q E s:=by
 obtain ⟨⟨cls,dd,data,sl⟩,ho,hc,n,hd⟩:=id ht
 obtain ⟨⟨cls2,dd2,data2,sl2⟩,ho2,hc2,n2,hd2⟩:=id hb
 simp only at hc hd hc2 hd2
 subst hc hd hc2 hd2
 have e:vs.toArray++ws.toArray=(vs++ws).toArray:=by simp
 by_cases hw:ws=[]
 ·exact concat_meets ⟨_,ho,rfl⟩ ⟨_,ho2,rfl⟩ noFill_tuple_add seq_tuple_add PySem.F.slot_tuple_add PySem.F.entry_tuple_add (PySem.F.args_tuple_add_2 _ _)
   (tuple_addW1 t b vs.toArray ws.toArray n n2 dd dd2 sl sl2 (by simpa using hv) (by simp [hw])) ⟨ho,ho2,h1 hw⟩
 ·refine concat_meets ⟨_,ho,rfl⟩ ⟨_,ho2,rfl⟩ noFill_tuple_add seq_tuple_add PySem.F.slot_tuple_add PySem.F.entry_tuple_add (PySem.F.args_tuple_add_2 _ _)
   (tuple_addW2 t b vs.toArray ws.toArray n n2 dd dd2 sl sl2 (by simpa using hv) (by simpa using hw) (by rw [AZ,AZ];exact hsz)) ⟨ho,ho2,?_⟩
  rw [e]
  exact h2 hw
def sIx (n d:Nat):Option Int→Nat
 |none=>d
 |some v=>if v<0 then (v+(n:Int)).toNat else min v.toNat n
theorem sIx_none (n d:Nat):sIx n d none=d:=rfl
theorem sIx_nat (n d k:Nat):sIx n d (some (k:Int))=min k n:=by
 show (if (k:Int)<0 then ((k:Int)+(n:Int)).toNat else min (k:Int).toNat n)=min k n
 rw [if_neg (by omega),Jr]
theorem Uv (n d:Nat) (hd:d≤n) (o:Option Int):sIx n d o≤n:=by
 cases o with
 |none=>exact hd
 |some v=>
  show (if v<0 then (v+(n:Int)).toNat else min v.toNat n)≤n
  by_cases hv:v<0
  ·rw [if_pos hv];omega
  ·rw [if_neg hv];exact Nat.min_le_right _ _
theorem OA (v:Int) (n d:Nat):(if v<0 then max (v+(n:Int)) 0 else min v (n:Int))=((sIx n d (some v):Nat):Int):=by
 show (if v<0 then max (v+(n:Int)) 0 else min v (n:Int))=(((if v<0 then (v+(n:Int)).toNat else min v.toNat n):Nat):Int)
 by_cases hv:v<0
 ·simp only [if_pos hv];omega
 ·simp only [if_neg hv];omega
theorem Uw (lo hi:Option Int) (n:Nat):Builtin.Slice.sliceAdjust lo hi 1 (n:Int)=(((sIx n 0 lo:Nat):Int),((sIx n n hi:Nat):Int)):=by
 have h1:¬((1:Int)<0):=by omega
 unfold Builtin.Slice.sliceAdjust
 simp only [h1,if_false]
 refine Prod.ext ?_ ?_
 ·cases lo with
  |none=>rfl
  |some v=>exact OA v n 0
 ·cases hi with
  |none=>rfl
  |some v=>exact OA v n n
theorem Ux (i j:Nat):Builtin.Slice.slicePlaces (i:Int) (j:Int) 1=j - i:=by
 unfold Builtin.Slice.slicePlaces
 have h1:(1:Int)>0:=by omega
 simp only [h1,if_true,Int.ediv_one]
 split<;>omega
theorem OB {v:Value} {o:Option Int} {Q:Option Int→Shared→Prop} (p:IsPart v o) (h:Q o s):wpAny (model prog w) A (Builtin.Slice.slicePartIndex v) Q E s:=by
 cases p with
 |none=>exact slicePart_none h
 |int i t=>exact slicePart_int h
theorem sliceApplied_gen {sl:Addr} {vl vu:Value} {lo hi:Option Int} {n:Nat} {Q:Int×Int×Nat→Shared→Prop} (hs:s.heap.IsSliceOf sl vl vu .none) (pl:IsPart vl lo) (pu:IsPart vu hi)
 (h:Q (((sIx n 0 lo:Nat):Int),1,sIx n n hi - sIx n 0 lo) s):wpAny (model prog w) A (Builtin.Slice.sliceApplied (.ref sl) (pure (n:Int))) Q E s:=by
 obtain ⟨os,hos,hcs,hds⟩:=id hs
 unfold Builtin.Slice.sliceApplied Builtin.Slice.sliceFields
 refine wpAny_bind (wpAny_bind (wpAny_field hos hds (x:=vl) rfl (wpAny_bind (wpAny_field hos hds (x:=vu) rfl (wpAny_bind (wpAny_field hos hds (x:=.none) rfl (wpAny_pure ?_)))))))
 refine wpAny_bind (slicePart_none ?_)
 show wpAny _ _ (if ((1:Int)==0)=true then _ else _) _ _ s
 rw [if_neg (by decide)]
 refine wpAny_bind (OB pl (wpAny_bind (OB pu (wpAny_bind (wpAny_pure ?_)))))
 show wpAny _ _ (match Builtin.Slice.sliceAdjust lo hi 1 (n:Int) with |(lo,hi)=>pure (lo,(1:Int),Builtin.Slice.slicePlaces lo hi 1)) _ _ s
 rw [Uw lo hi n]
 show wpAny _ _ (pure (((sIx n 0 lo:Nat):Int),(1:Int),Builtin.Slice.slicePlaces ((sIx n 0 lo:Nat):Int) ((sIx n n hi:Nat):Int) 1)) _ _ s
 rw [Ux]
 exact wpAny_pure h
theorem Uy (xs:Array Value) (i k:Nat):((List.range k).filterMap fun (m:Nat)=>xs[((i:Int)+(m:Int)*1).toNat]?).toArray=((xs.toList.drop i).take k).toArray:=by
 have e:(fun (m:Nat)=>xs[((i:Int)+(m:Int)*1).toNat]?)=fun m=>xs[i+m]?:=by
  funext m
  have:((i:Int)+(m:Int)*1).toNat=i+m:=by omega
  rw [this]
 rw [e]
 have:=pick_run xs i k
 rw [List.filterMap_map] at this
 have e2:((fun x=>xs[x]?)∘fun x=>i+x)=fun m=>xs[i+m]?:=rfl
 rw [e2] at this
 rw [this]
theorem getItem_tuple_cut {t sl:Addr} {items:Array Value} {vl vu:Value} {lo hi:Option Int} {Q:Value→Shared→Prop} (ht:IsTup s.heap t items) (hs:s.heap.IsSliceOf sl vl vu .none) (pl:IsPart vl lo) (pu:IsPart vu hi)
 (hw:¬(sIx items.size 0 lo=0∧sIx items.size items.size hi=items.size))
 (h:Q (.ref s.heap.objs.size) {s with heap:=s.heap.push {cls:=.type "tuple",data:=.seq ((items.toList.drop (sIx items.size 0 lo)).take (sIx items.size items.size hi - sIx items.size 0 lo)).toArray}})
 (hsz:items.size≤sizeLine):wpAny (model prog w) A (getItem (.ref t) (.ref sl)) Q E s:=by
 have htake:sizeOk (.seq ((items.toList.drop (sIx items.size 0 lo)).take (sIx items.size items.size hi - sIx items.size 0 lo)).toArray):=by
  show ((items.toList.drop (sIx items.size 0 lo)).take (sIx items.size items.size hi - sIx items.size 0 lo)).toArray.size≤sizeLine
  rw [AZ,Js,List.length_drop,Array.length_toList]
  omega
 have hj:sIx items.size items.size hi≤items.size:=Uv _ _ (AD _) hi
 obtain ⟨os,hos,hcs,hds⟩:=id hs
 have hTs:s.TypeIs (.ref sl) "slice":=⟨os,hos,hcs⟩
 unfold getItem
 try with_reducible refine wpAny_holding ?_
 first |refine wpAny_bind (wpAny_pure ?_) |skip
 refine wpAny_bind (wpAny_sequenceKey ht.typeIs (by decide) ?_)
 refine wpAny_bind (wpAny_callSpecial?_slot (name:=Str.ofString "__getitem__") ht.typeIs PyProof.Rows.slot_tuple_getitem
  (wpAny_call_entry PyProof.Rows.slot_tuple_getitem ht.typeIs entry_tuple_getitem ?_ (args_tuple_getitem _ _)))
 show wpAny _ _ (Builtin.Tuple.tupleItemsOf (.ref t) >>=_) _ _ s
 refine wpAny_bind (tupleItemsOf_ ht ?_)
 refine wpAny_bind (wpAny_typeOf hTs ?_)
 rw [if_pos (by decide)]
 refine wpAny_bind (sliceApplied_gen hs pl pu ?_)
 have hno:¬((((sIx items.size 0 lo:Nat):Int)==0&&(1:Int)==1&&(sIx items.size items.size hi - sIx items.size 0 lo)==items.size)=true):=by
  intro q
  rw [CF,CF] at q
  have q1:((sIx items.size 0 lo:Nat):Int)=0:=eq_of_beq q.1.1
  have q2:sIx items.size items.size hi - sIx items.size 0 lo=items.size:=eq_of_beq q.2
  exact hw ⟨by omega,by omega⟩
 show wpAny _ _ (if (((sIx items.size 0 lo:Nat):Int)==0&&(1:Int)==1&&(sIx items.size items.size hi - sIx items.size 0 lo)==items.size)=true then _ else _) _ _ s
 rw [if_neg hno,Uy]
 first
  |exact wpAny_bind (m:=Builtin.Tuple.tupleExact _) (wpAny_newObj_type (wpAny_pure ⟨_,rfl,wpAny_pure h⟩) htake)
  |exact wpAny_bind (m:=Builtin.Tuple.tupleExact _) (wpAny_newObj_type (wpAny_bind (wpAny_pure (wpAny_pure ⟨_,rfl,wpAny_pure h⟩))) htake)
  |exact wpAny_bind (wpAny_bind (m:=Builtin.Tuple.tupleExact _) (wpAny_newObj_type (wpAny_pure (wpAny_pure ⟨_,rfl,wpAny_pure h⟩)) htake))
  |exact wpAny_bind (wpAny_bind (m:=Builtin.Tuple.tupleExact _) (wpAny_newObj_type (wpAny_pure ⟨_,rfl,wpAny_pure h⟩) htake))
end
end HT
namespace L2
open PySem PySem.Spec PyProof.Rows
abbrev TO:=St→Hp→(Option Int→Hp→Prop)→Prop
def PO (X:Cx) (e:Option Expr) (t:TO):Prop:=
 ∀(pins:List (Addr×Obj)) (s:Shared) (σ:St) (H:Hp) (Q:Option Int→Hp→Prop),Inv X pins σ H s→t σ H Q→
  wpAny (model X.prog X.w) X.A (evalPart e X.env) (fun u s'=>∃o H',Inv X pins σ H' s'∧IsPart u o∧Q o H') X.xe s
def Uz:TO:=fun _ H Q=>Q none H
def UA (t:TE):TO:=fun σ H Q=>t σ H fun x H1=>∃i,x=.int i∧Q (some i) H1
section
variable {X:Cx} {e:Expr} {te:TE} {lo hi:Option Expr} {tl th:TO} {pos p2:Pos}
theorem UB:PO X none Uz:=by
 intro pins s σ H Q I h
 rw [evalPart_none]
 exact wpAny_pure ⟨none,H,I,.none,h⟩
theorem UC (h:PE X e te):PO X (some e) (UA te):=by
 intro pins s σ H Q I hw
 rw [evalPart_some]
 refine Av (h pins s σ H _ I hw) fun u s1 z84_=>?_
 obtain ⟨x,H1,I1,r1,q1⟩:=z84_
 obtain ⟨i,rfl,q⟩:=q1
 obtain ⟨t,rfl⟩:=r1
 exact ⟨some i,H1,I1,.int i t,q⟩
def SlR (X:Cx) (r:V→Option Int→Option Int→Hp→VK→Prop):Prop:=
 ∀(pins:List (Addr×Obj)) (s:Shared) (σ:St) (H:Hp) (x:V) (v vl vu:Value) (lo hi:Option Int) (sl:Addr) (Q:VK),Inv X pins σ H s→RelV x v→s.heap.IsSliceOf sl vl vu .none→IsPart vl lo→IsPart vu hi→r x lo hi H Q→
  ∃T id,typeLookup (.type T) "__getitem__"=pure (some (.builtin id))∧s.TypeIs v T∧wpAny (model X.prog X.w) X.A (getItem v (.ref sl)) (EP X pins σ Q) X.xe s
theorem SlR.or {r r':V→Option Int→Option Int→Hp→VK→Prop} (h:SlR X r) (h':SlR X r'):SlR X (fun x lo hi H Q=>r x lo hi H Q∨r' x lo hi H Q):=by
 intro pins s σ H x v vl vu lo hi sl Q I rx hs pl pu q
 rcases q with q |q
 ·exact h pins s σ H x v vl vu lo hi sl Q I rx hs pl pu q
 ·exact h' pins s σ H x v vl vu lo hi sl Q I rx hs pl pu q
def UD (r:V→Option Int→Option Int→Hp→VK→Prop) (te:TE) (tl th:TO):TE:=fun σ H Q=>te σ H fun x H1=>tl σ H1 fun l H2=>th σ H2 fun u H3=>r x l u H3 Q
theorem UE {r:V→Option Int→Option Int→Hp→VK→Prop} (hr:SlR X r) (he:PE X e te) (hl:PO X lo tl) (hu:PO X hi th):PE X (.Subscript e (.Slice lo hi none p2) pos) (UD r te tl th):=by
 intro pins s σ H Q I h
 refine Subscript_ (Av (he pins s σ H _ I h) fun v s1 z85_=>?_)
 obtain ⟨x,H1,I1,r1,q1⟩:=z85_
 refine wpAny_Slice (Av (hl pins s1 σ H1 _ I1 q1) ?_)
 rintro vl s2 ⟨l,H2,I2,pl,q2⟩
 refine Av (hu pins s2 σ H2 _ I2 q2) fun vu s3 z87_=>?_
 obtain ⟨u,H3,I3,pu,q3⟩:=z87_
 rw [evalPart_none]
 refine wpAny_pure ?_
 have I4:Inv X pins σ H3 {s3 with heap:=s3.heap.push {cls:=.type "slice",data:=.fields #[vl,vu,.none]}}:=I3.kept (t':=s3.toks) fun b ob q=>AE _ q
 obtain ⟨T,id,hT,ht,hg⟩:=hr pins {s3 with heap:=s3.heap.push {cls:=.type "slice",data:=.fields #[vl,vu,.none]}} σ H3 x v vl vu l u s3.heap.objs.size Q I4 r1 (Heap.IsSliceOf.new ..) pl pu q3
 show wpAny (model X.prog X.w) X.A (subscriptTail e (.Slice lo hi none p2) v (.ref s3.heap.objs.size)) (EP X pins σ Q) X.xe {s3 with heap:=s3.heap.push {cls:=.type "slice",data:=.fields #[vl,vu,.none]}}
 exact tail_any (ops:=[.ref s3.heap.objs.size,v]) ht hT hg (by with_unfolding_all rfl)
def GY (xs:List V) (lo hi:Option Int):List V:=(xs.drop (HT.sIx xs.length 0 lo)).take (HT.sIx xs.length xs.length hi - HT.sIx xs.length 0 lo)
theorem UF (xs:List V) (lo hi:Option Int):(GY xs lo hi).length≤xs.length:=by
 unfold GY
 rw [Js,List.length_drop]
 omega
def UG (K:PySem.W.Frag):V→Option Int→Option Int→Hp→VK→Prop:=fun x lo hi H Q=>∃a xs,x=.ref a∧SqT K H a xs∧
 ¬(HT.sIx xs.length 0 lo=0∧HT.sIx xs.length xs.length hi=xs.length)∧∀p,H p=none→Q (.ref p) (Am H p (.tup (GY xs lo hi)))
theorem UH:SlR X (UG X.K):=by
 intro pins s σ H x v vl vu lo hi sl Q I rx hs pl pu h
 obtain ⟨a,xs,rfl,hx,hw,q⟩:=h
 cases rx
 obtain ⟨its,r,ht,hz⟩:=I.tuple hx
 have hlen:its.toArray.size=xs.length:=by rw [AZ];exact r.length.symm
 refine ⟨"tuple",_,PyProof.Rows.slot_tuple_getitem.lookup,ht.typeIs,?_⟩
 refine HT.getItem_tuple_cut ht hs pl pu (by rw [hlen];exact hw) ?_ (by rw [hlen];exact hz)
 rw [hlen]
 refine ⟨.ref s.heap.objs.size,_,I.laid (t':=s.toks) (o:=.tup (GY xs lo hi)) (fun b ob q=>AE _ q) (AD _) ?_,rfl,q _ (I.hok.fresh (AD _))⟩
 exact ⟨BM (UF xs lo hi) hz,_,(r.drop (HT.sIx xs.length 0 lo)).take (HT.sIx xs.length xs.length hi - HT.sIx xs.length 0 lo),IsTup.new _ _,NoDict.new⟩
def UI (K:PySem.W.Frag):R2:=fun x y H Q=>∃a b xs ys,x=.ref a∧y=.ref b∧SqT K H a xs∧SqT K H b ys∧xs≠[]∧xs.length+ys.length≤sizeLine∧
 (ys=[]→Q (.ref a) H)∧(ys≠[]→∀p,H p=none→Q (.ref p) (Am H p (.tup (xs++ys))))
theorem Vals.nil_iff {xs:List V} {us:List Value} (r:Vals xs us):us=[]↔xs=[]:=by
 cases r with
 |nil=>simp
 |cons _ _=>simp
theorem op_catT:OpR X (binaryOp .Add) (UI X.K):=by
 intro pins s σ H x y v u Q I rx ry h
 obtain ⟨a,b,xs,ys,rfl,rfl,ha,hb,hx,hz,q1,q2⟩:=h
 cases rx
 cases ry
 obtain ⟨its,r1,p1,_⟩:=I.tuple ha
 obtain ⟨its2,r2,p2,_⟩:=I.tuple hb
 refine HT.cat_tup p1 p2 (fun z=>hx (r1.nil_iff.mp z)) (fun z=>⟨.ref a,H,I,rfl,q1 (r2.nil_iff.mp z)⟩) (fun z=>?_) (by rw [←r1.length,←r2.length];exact hz)
 refine ⟨.ref s.heap.objs.size,_,I.laid (t':=s.toks) (o:=.tup (xs++ys)) (fun b ob q=>AE _ q) (AD _) ?_,rfl,q2 (fun w=>z (r2.nil_iff.mpr w)) _ (I.hok.fresh (AD _))⟩
 exact ⟨by rw [FB];exact hz,_,r1.append r2,IsTup.new _ _,NoDict.new⟩
end
def Dp (n:Nat) (i:Int):Option Nat:=if 0≤i then (if i<n then some i.toNat else none) else if -(n:Int)≤i then some (i+n).toNat else none
def CK {α:Type} (xs:List α) (i:Int):Option α:=(Dp xs.length i).bind fun j=>xs[j]?
theorem OC {n:Nat} {i:Int} {j:Nat} (h:Dp n i=some j):seqIndex? i n=some j∧j<n∧-(n:Int)≤i∧i<n:=by
 unfold Dp at h
 by_cases h0:0≤i
 ·rw [if_pos h0] at h
  by_cases h1:i<n
  ·rw [if_pos h1] at h
   have e:i.toNat=j:=Option.some.inj h
   exact ⟨by rw [seqIndex_of h0 h1,e],by omega,by omega,h1⟩
  ·rw [if_neg h1] at h;cases h
 ·rw [if_neg h0] at h
  by_cases h1:-(n:Int)≤i
  ·rw [if_pos h1] at h
   have e:(i+n).toNat=j:=Option.some.inj h
   exact ⟨by rw [seqIndex_neg (by omega) h1,e],by omega,h1,by omega⟩
  ·rw [if_neg h1] at h;cases h
theorem OD {α:Type} {xs:List α} {i:Int} {v:α} (h:CK xs i=some v):∃j,seqIndex? i xs.length=some j∧xs[j]?=some v∧j<xs.length∧-(xs.length:Int)≤i∧i<xs.length:=by
 unfold CK at h
 cases e:Dp xs.length i with
 |none=>rw [e] at h;cases h
 |some j=>
  rw [e] at h
  obtain ⟨h1,h2,h3,h4⟩:=OC e
  exact ⟨j,h1,h,h2,h3,h4⟩
def OE (b:Expr):Prop:=∀o i,subscripted b false o i=operate [o,i] (getItem o i)
def IxR (X:Cx) (r:R2):Prop:=
 ∀(value slice:Expr) (pins:List (Addr×Obj)) (s:Shared) (σ:St) (H:Hp) (x y:V) (v u:Value) (Q:VK),Inv X pins σ H s→RelV x v→RelV y u→r x y H Q→
  subscripted slice false v u=operate [v,u] (getItem v u)→wpAny (model X.prog X.w) X.A (subscriptTail value slice v u) (EP X pins σ Q) X.xe s
def JG (X:Cx) (id:String) (r:V→List V→Hp→VK→Prop):Prop:=
 ∀(pins:List (Addr×Obj)) (s:Shared) (σ:St) (H:Hp) (x:V) (xs:List V) (v:Value) (us:List Value) (Q:VK),Inv X pins σ H s→RelV x v→Vals xs us→r x xs H Q→
  wpAny (model X.prog X.w) X.A (call (.builtin id) (v::us)) (EP X pins σ Q) X.xe s
section
variable {X:Cx} {a b:Expr} {ta tb:TE} {pos:Pos}
theorem IxR.or {r r':R2} (h:IxR X r) (h':IxR X r'):IxR X (fun x y H Q=>r x y H Q∨r' x y H Q):=by
 intro value slice pins s σ H x y v u Q I rx ry q hs
 rcases q with q |q
 ·exact h value slice pins s σ H x y v u Q I rx ry q hs
 ·exact h' value slice pins s σ H x y v u Q I rx ry q hs
theorem UJ {r:R2} (hr:IxR X r) (ha:PE X a ta) (hb:PE X b tb) (hs:OE b):PE X (.Subscript a b pos) (JD r ta tb):=by
 intro pins s σ H Q I h
 exact Subscript_ (LD ha hb I h fun v u s2 x y H2 I2 rx ry q=>hr a b pins s2 σ H2 x y v u Q I2 rx ry q (hs _ _))
def UK (K:PySem.W.Frag):R2:=fun x y H Q=>∃p xs i v,x=.ref p∧y=.int i∧SqL K H p xs∧CK xs i=some v∧Q v H
def UL (K:PySem.W.Frag):R2:=fun x y H Q=>∃p xs i v,x=.ref p∧y=.int i∧SqT K H p xs∧CK xs i=some v∧Q v H
theorem ix_list:IxR X (UK X.K):=by
 intro value slice pins s σ H x y v u Q I rx ry h hs
 obtain ⟨p,xs,i,z,rfl,rfl,hq,he,q⟩:=h
 cases rx
 obtain ⟨t,rfl⟩:=ry
 obtain ⟨its,r,pl,hz⟩:=I.list hq
 obtain ⟨j,h1,h2,h3,h4,h5⟩:=OD he
 obtain ⟨w,ew,rw'⟩:=r.get h2
 have hl:=r.length
 have hn:=GX
 have AX:EP X pins σ Q w s:=⟨z,H,I,rw',q⟩
 by_cases h0:0≤i
 ·have hj:i.toNat=j:=by
   rw [seqIndex_of h0 h5] at h1
   exact Option.some.inj h1
  exact item_listR pl.isList h0 (by omega) (by rw [hj];simpa using ew) AX hs
 ·have hj:(i+(its.toArray.size:Int)).toNat=j:=by
   rw [seqIndex_neg (by omega) h4] at h1
   rw [AZ,←hl]
   exact Option.some.inj h1
  exact subscriptTail_builtinR (x:=w) pl.isList.typeIs slot_list_getitem.lookup
   (wpAny_getItem_list_neg (Q:=fun r s'=>r=w∧EP X pins σ Q r s') pl.isList (by omega) (by rw [AZ]<;>omega) (by omega) (by rw [hj];simpa using ew) ⟨rfl,AX⟩) hs
theorem ix_tup:IxR X (UL X.K):=by
 intro value slice pins s σ H x y v u Q I rx ry h hs
 obtain ⟨p,xs,i,z,rfl,rfl,hq,he,q⟩:=h
 cases rx
 obtain ⟨t,rfl⟩:=ry
 obtain ⟨its,r,pl,hz⟩:=I.tuple hq
 obtain ⟨j,h1,h2,h3,h4,h5⟩:=OD he
 obtain ⟨w,ew,rw'⟩:=r.get h2
 have hl:=r.length
 have hn:=GX
 have AX:EP X pins σ Q w s:=⟨z,H,I,rw',q⟩
 exact subscriptTail_builtinR (x:=w) pl.typeIs slot_tuple_getitem.lookup
  (getItem_tuple (j:=j) (Q:=fun r s'=>r=w∧EP X pins σ Q r s') pl (by omega) (by omega) (by rw [AZ,←hl];exact h1) (by simpa using ew) ⟨rfl,AX⟩) hs
theorem UM (its:List Value) (n j:Nat) (u:Value):Obj.mapSeq (·.setIfInBounds j u) {cls:=.type "list",data:=.seq its.toArray n}={cls:=.type "list",data:=.seq (its.set j u).toArray n}:=by
 simp [Obj.mapSeq]
theorem Inv.lst {pins:List (Addr×Obj)} {σ:St} {H:Hp} {s:Shared} {p:Addr} {xs:List V} (I:Inv X pins σ H s) (h:H p=some (.lst xs)):
 ∃(its:List Value) (n:Nat),Vals xs its∧s.heap.get? p=some {cls:=.type "list",data:=.seq its.toArray n}∧xs.length≤sizeLine:=by
 obtain ⟨z,its,n,r,e⟩:=I.hok p _ h
 exact ⟨its,n,r,e,z⟩
theorem Inv.lstUpd {pins:List (Addr×Obj)} {σ:St} {H:Hp} {s:Shared} {p:Addr} {xs ys:List V} {its its':List Value} {n n':Nat} {f:Obj→Obj} (I:Inv X pins σ H s) (h:H p=some (.lst xs))
 (ho:s.heap.get? p=some {cls:=.type "list",data:=.seq its.toArray n}) (hf:f {cls:=.type "list",data:=.seq its.toArray n}={cls:=.type "list",data:=.seq its'.toArray n'}) (r:Vals ys its') (hz:ys.length≤sizeLine) (t:Nat):
 Inv X pins σ (Am H p (.lst ys)) {s with heap:=s.heap.update p f,toks:=t}:=by
 have e:(s.heap.update p f).get? p=some {cls:=.type "list",data:=.seq its'.toArray n'}:=by
  rw [Ln f ho (by rw [hf]<;>rfl),hf]
 refine I.write (x:=p) (e:=p) (by rw [h];trivial) (.inl rfl) (fun b u hb q=>(Lm _ _ (Ne.symm hb)).trans q) ⟨_,e⟩ ?_
 exact ⟨hz,its',n',r,e⟩
def UN:V→V→V→Hp→(Hp→Prop)→Prop:=fun o i v H Q=>∃p xs k j,o=.ref p∧i=.int k∧H p=some (.lst xs)∧Dp xs.length k=some j∧Q (Am H p (.lst (xs.set j v)))
theorem OF:JA X UN:=by
 intro pins s σ H o i v ov iv u Q I ro ri rv h
 obtain ⟨p,xs,k,j,rfl,rfl,hp,hj,q⟩:=h
 cases ro
 obtain ⟨t,rfl⟩:=ri
 obtain ⟨its,n,r,ho,hz⟩:=I.lst hp
 obtain ⟨h1,h2,h3,h4⟩:=OC hj
 have hl:=r.length
 have hn:=GX
 have I':Inv X pins σ (Am H p (.lst (xs.set j v))) {s with heap:=s.heap.update p (Obj.mapSeq (·.setIfInBounds j u))}:=
  I.lstUpd hp ho (UM its n j u) (r.set rv j) (by rw [List.length_set];exact hz) s.toks
 by_cases h0:0≤k
 ·have hk:k.toNat=j:=by
   rw [seqIndex_of h0 h4] at h1
   exact Option.some.inj h1
  exact PySem.W.ki_setAt ho h0 (by omega) (by rw [AZ,←hl];exact h4) (by rw [hk];exact ⟨_,I',q⟩)
 ·have hk:(k+(its.toArray.size:Int)).toNat=j:=by
   rw [seqIndex_neg (by omega) h3] at h1
   rw [AZ,←hl]
   exact Option.some.inj h1
  exact PySem.W.ki_setBack ho (by omega) (by rw [AZ,←hl];exact h3) (by omega) (by rw [hk];exact ⟨_,I',q⟩)
def Dy:V→Bool
 |.non=>true
 |.bl _=>true
 |.int _=>true
 |.str _=>true
 |_=>false
def DU:V→V→Bool
 |.non,.non=>true
 |.bl a,.bl b=>a==b
 |.bl a,.int b=>(if a then 1 else 0)==b
 |.int a,.bl b=>a==(if b then 1 else 0)
 |.int a,.int b=>a==b
 |.str a,.str b=>a==b
 |_,_=>false
theorem UO {A:Around} {s:Shared} {y x:V} {u v:Value} (ry:RelV y u) (rx:RelV x v) (fy:Dy y=true) (fx:Dy x=true):SeqAt.EqAt A s u v (DU y x):=by
 cases y with
 |non=>
  cases ry
  cases x with
  |non=>cases rx;exact SeqAt.EqAt.same _
  |bl b=>cases rx;exact SeqAt.EqAt.none_bool b
  |int b=>obtain ⟨t,rfl⟩:=rx;exact SeqAt.EqAt.none_int b t
  |str b=>obtain ⟨t,rfl⟩:=rx;exact SeqAt.EqAt.none_str b t
  |_=>exact absurd (show false=true from fx) BI
 |bl a=>
  cases ry
  cases x with
  |non=>cases rx;exact SeqAt.EqAt.bool_none a
  |bl b=>cases rx;exact SeqAt.EqAt.bool_bool a b
  |int b=>obtain ⟨t,rfl⟩:=rx;exact SeqAt.EqAt.bool_int a b t
  |str b=>obtain ⟨t,rfl⟩:=rx;exact SeqAt.EqAt.bool_str a b t
  |_=>exact absurd (show false=true from fx) BI
 |int a=>
  obtain ⟨t',rfl⟩:=ry
  cases x with
  |non=>cases rx;exact SeqAt.EqAt.int_none a t'
  |bl b=>cases rx;exact SeqAt.EqAt.int_bool a t' b
  |int b=>obtain ⟨t,rfl⟩:=rx;exact SeqAt.EqAt.int_int a t' b t
  |str b=>obtain ⟨t,rfl⟩:=rx;exact SeqAt.EqAt.int_str a t' b t
  |_=>exact absurd (show false=true from fx) BI
 |str a=>
  obtain ⟨t',rfl⟩:=ry
  cases x with
  |non=>cases rx;exact SeqAt.EqAt.str_none a t'
  |bl b=>cases rx;exact SeqAt.EqAt.str_bool a t' b
  |int b=>obtain ⟨t,rfl⟩:=rx;exact SeqAt.EqAt.str_int a t' b t
  |str b=>obtain ⟨t,rfl⟩:=rx;exact SeqAt.EqAt.str_str a t' b t
  |_=>exact absurd (show false=true from fx) BI
 |_=>exact absurd (show false=true from fy) BI
def FN (x:V) (u:Value):Bool:=match u with
 |.none=>DU .non x
 |.bool b=>DU (.bl b) x
 |.int i _=>DU (.int i) x
 |.str z _=>DU (.str z) x
 |_=>false
theorem LN {x y:V} {u:Value} (r:RelV y u) (f:Dy y=true):FN x u=DU y x:=by
 cases y with
 |non=>cases r;rfl
 |bl b=>cases r;rfl
 |int i=>obtain ⟨t,rfl⟩:=r;rfl
 |str z=>obtain ⟨t,rfl⟩:=r;rfl
 |_=>exact absurd (show false=true from f) BI
theorem LO {A:Around} {s:Shared} {x:V} {v:Value} (rx:RelV x v) (fx:Dy x=true):∀{xs:List V} {us:List Value},Vals xs us→xs.all Dy=true→∀u∈us,SeqAt.EqAt A s u v (FN x u)
 |_,_,.nil,_=>fun u hu=>by cases hu
 |y::xs,u::us,.cons r t,f=>fun u' hu=>by
  rw [List.all_cons,CF] at f
  rcases qa5.mp hu with rfl |hu
  ·rw [LN r f.1];exact UO r rx f.1 fx
  ·exact LO rx fx t f.2 u' hu
def JH (x:V) (xs:List V):Bool:=xs.any fun y=>DU y x
def rIn (K:PySem.W.Frag) (neg:Bool):R2:=fun x y H Q=>∃p xs,y=.ref p∧(SqL K H p xs∨SqT K H p xs)∧Dy x=true∧xs.all Dy=true∧Q (.bl (if neg then !JH x xs else JH x xs)) H
theorem UP:CY X (.builtin "len") (fun xs H Q=>∃p ys,xs=[.ref p]∧(SqL X.K H p ys∨SqT X.K H p ys)∧Q (.int ys.length) H):=by
 intro pins s σ H xs us Q I r h
 obtain ⟨p,ys,rfl,hq,q⟩:=h
 obtain ⟨u,rfl,rx⟩:=DS r
 cases rx
 have hn:=GX
 rcases hq with hq |hq
 ·obtain ⟨its,r',pl,hz⟩:=I.list hq
  have hlen:=r'.length
  exact Calls.call_len_list pl.isList (by simp only [AZ]<;>omega) ⟨.int ys.length,H,I.tok _,⟨s.toks+1,by rw [AZ,hlen]⟩,q⟩
 ·obtain ⟨its,r',pl,hz⟩:=I.tuple hq
  have hlen:=r'.length
  exact len_tuple pl (by simp only [AZ]<;>omega) ⟨.int ys.length,H,I.tok _,⟨s.toks+1,by rw [AZ,hlen]⟩,q⟩
theorem UQ:CY X (.type "list") (fun xs H Q=>∃p ys,xs=[.ref p]∧(SqL X.K H p ys∨SqT X.K H p ys)∧∀l,H l=none→Q (.ref l) (Am H l (.lst ys))):=by
 intro pins s σ H xs us Q I r h
 obtain ⟨p,ys,rfl,hq,q⟩:=h
 obtain ⟨u,rfl,rx⟩:=DS r
 cases rx
 have AX:∀(its:List Value),Vals ys its→ys.length≤sizeLine→∀(h':Heap) (c':Nat),(∀b o',s.heap.get? b=some o'→h'.get? b=some o')→
  h'.get? s.heap.objs.size=some {cls:=.type "list",dict:=none,data:=.seq its.toArray c',slots:=#[]}→EP X pins σ Q (.ref s.heap.objs.size) {s with heap:=h'}:=fun its r' hz h' c' kp e=>
  ⟨.ref s.heap.objs.size,_,I.laid (t':=s.toks) kp (AD _) (show ObjOk X.prog X.w _ h' _ (.lst ys) from ⟨hz,its,c',r',e⟩),rfl,q _ (I.hok.fresh (AD _))⟩
 rcases hq with hq |hq
 ·obtain ⟨its,r',pl,hz⟩:=I.list hq
  have hlen:=r'.length
  obtain ⟨o,ho,hc,n,hd⟩:=pl.isList
  exact call_list_seq p (.inl rfl) ho hc hd (fun h' c' kp e=>AX its r' hz h' c' kp e) (by simp only [AZ]<;>omega)
 ·obtain ⟨its,r',pl,hz⟩:=I.tuple hq
  have hlen:=r'.length
  obtain ⟨o,ho,hc,n,hd⟩:=pl
  exact call_list_seq p (.inr rfl) ho hc hd (fun h' c' kp e=>AX its r' hz h' c' kp e) (by simp only [AZ]<;>omega)
theorem UR:CY X (.type "tuple") (fun xs H Q=>∃p ys,xs=[.ref p]∧((SqL X.K H p ys∧∀l,H l=none→Q (.ref l) (Am H l (.tup ys)))∨(SqT X.K H p ys∧Q (.ref p) H))):=by
 intro pins s σ H xs us Q I r h
 obtain ⟨p,ys,rfl,h⟩:=h
 obtain ⟨u,rfl,rx⟩:=DS r
 cases rx
 rcases h with ⟨hq,q⟩ |⟨hq,q⟩
 ·obtain ⟨its,r',pl,hz⟩:=I.list hq
  have hlen:=r'.length
  refine call_tuple_list pl.isList (fun h' kp=>?_) (by simp only [AZ]<;>omega)
  have I1:Inv X pins σ H {s with heap:=h'}:=I.kept (t':=s.toks) kp
  have I2:Inv X pins σ (Am H h'.objs.size (.tup ys)) {s with heap:=h'.push {cls:=.type "tuple",data:=.seq its.toArray}}:=
   I1.laid (t':=s.toks) (fun b o e=>AE _ e) (AD _) (show ObjOk X.prog X.w _ _ _ (.tup ys) from ⟨hz,its,r',IsTup.new _ _,NoDict.new⟩)
  exact ⟨.ref h'.objs.size,_,I2,rfl,q _ (I1.hok.fresh (AD _))⟩
 ·obtain ⟨its,r',pl,hz⟩:=I.tuple hq
  exact call_tuple_same pl ⟨.ref p,H,I,rfl,q⟩
def OG (K:PySem.W.Frag) (T:String) (x:V) (H:Hp):Prop:=match x with
 |.str _=>T="str"
 |.int _=>T="int"
 |.ref p=>(T="list"∧∃xs,SqL K H p xs)∨(T="tuple"∧∃o,K.lookup p=some o∧o.cls=.type "tuple"∧o.dict=none)
 |_=>False
theorem OH {pins:List (Addr×Obj)} {σ:St} {H:Hp} {s:Shared} {T:String} {x:V} {v:Value} (I:Inv X pins σ H s) (r:RelV x v) (ty:OG X.K T x H):
 s.TypeIs v T∧∀a,v=.ref a→∃ob,s.heap.get? a=some ob∧ob.dict=none:=by
 cases x with
 |str z=>
  obtain ⟨t,rfl⟩:=r
  cases (show T="str" from ty)
  exact ⟨typeIs_str s z t,fun _ e=>nomatch e⟩
 |int i=>
  obtain ⟨t,rfl⟩:=r
  cases (show T="int" from ty)
  exact ⟨typeIs_int s i t,fun _ e=>nomatch e⟩
 |ref p=>
  cases r
  rcases ty with ⟨rfl,xs,hq⟩ |⟨rfl,o,hk,hc,hd⟩
  ·obtain ⟨its,_,pl,_⟩:=I.list hq
   refine ⟨pl.isList.typeIs,fun a e=>?_⟩
   cases e
   obtain ⟨o,n,e,c,hd,_⟩:=pl
   exact ⟨o,e,hd⟩
  ·refine ⟨⟨o,I.kIn p o hk,hc⟩,fun a e=>?_⟩
   cases e
   exact ⟨o,I.kIn _ o hk,hd⟩
 |_=>exact False.elim ty
def US (K:PySem.W.Frag) (T:String) (r:V→List V→Hp→VK→Prop) (to:TE) (t:TA):TE:=fun σ H Q=>to σ H fun x H1=>OG K T x H1∧t σ H1 fun xs H2=>r x xs H2 Q
variable {o e:Expr} {es:List Expr} {to:TE} {t:TA} {name:Str} {apos cpos:Pos} {T id:String} {r:V→List V→Hp→VK→Prop}
theorem UT (pa:PlainAttrs T) (slot:Slot T name id) (hty:typeOf (.builtin id)=pure (.type "method_descriptor")) (hm:JG X id r) (ho:PE X o to) (ha:PA X (e::es) t)
 (hbase:attributeBase o name X.env (eval o X.env)=eval o X.env:=by rfl)
 (hfew:((backTo cpos (starEach (e::es) X.env)).all (fun x=>!x.1)&&(backToKw cpos (keywordEach [] X.env)).all (fun x=>x.1.isSome)
  &&decide ((e::es).length+([]:List Keyword).length+(if ([]:List Keyword).isEmpty then 0 else 1)<30))=true:=by rfl)
 (hline:(apos.endLine==cpos.line)=true:=by rfl) (hs:starEach (e::es) X.env=(false,eval e X.env)::starEach es X.env:=by rfl) (hplain:(backTo cpos (starEach es X.env)).any (·.1)=false:=by rfl):
 PE X (.Call (.Attribute o name apos) (e::es) [] cpos) (US X.K T r to t):=by
 intro pins s σ H Q I h
 refine wpAny_Call_method_late hbase hfew hline rfl (Av (ho pins s σ H _ I h) fun v s1 z89_=>?_)
 obtain ⟨x,H1,I1,r1,ty,q1⟩:=z89_
 obtain ⟨h1,h2⟩:=OH I1 r1 ty
 refine ⟨T,id,pa,slot,hty,h1,h2,?_⟩
 have hA:=ha cpos pins s1 σ H1 _ I1 q1
 rw [hs] at hA ⊢
 refine Calls.callWith_builtin (by show (false||(backTo cpos (starEach es X.env)).any (·.1))=false;rw [hplain]<;>rfl) (Calls.evalArgs_plain ?_)
 exact Av hA fun us s2 z90_=>by obtain ⟨vs,H2,I2,r2,q2⟩:=z90_;exact (hm pins s2 σ H2 x vs v us Q I2 r1 r2 q2)
end
def UU (X:Cx) (id:String) (r:V→List V→Hp→VK→Prop):Prop:=
 ∀(pins:List (Addr×Obj)) (s:Shared) (σ:St) (H:Hp) (x:V) (xs:List V) (v:Value) (us:List Value) (Q:VK),Inv X pins σ H s→RelV x v→Vals xs us→r x xs H Q→
  wpAny (model X.prog X.w) X.A (call (.builtin id) (v::us)) (EP X pins σ Q) X.xe s
theorem Vals.one {x:V} {us:List Value} (h:Vals [x] us):∃u,us=[u]∧RelV x u:=by
 cases h with
 |cons r t=>cases t;exact ⟨_,rfl,r⟩
theorem Vals.reverse {xs:List V} {us:List Value} (h:Vals xs us):Vals xs.reverse us.reverse:=by
 induction h with
 |nil=>exact .nil
 |cons r t ih=>rw [List.reverse_cons,List.reverse_cons];exact Vals.append ih (.cons r .nil)
theorem Vals.rep {xs:List V} {us:List Value} (h:Vals xs us):∀k:Nat,Vals (List.replicate k xs).flatten (List.replicate k us).flatten
 |0=>.nil
 |k+1=>by
  rw [E6,E6,FC,FC]
  exact Vals.append h (Vals.rep h k)
theorem JI (its:List Value):∀(k:Nat) (acc:List Value),
 List.foldl (fun x1 x2=>x1++x2) acc.toArray (List.replicate k its.toArray)=(acc++(List.replicate k its).flatten).toArray
 |0,acc=>by simp
 |k+1,acc=>by
  have e:acc.toArray++its.toArray=(acc++its).toArray:=by simp
  have e2:(acc++its)++(List.replicate k its).flatten=acc++(List.replicate (k+1) its).flatten:=by
   rw [E6,FC,List.append_assoc]
  rw [←e2,←JI its k (acc++its),←e,E6,List.foldl_cons]
section
variable {X:Cx} {pins:List (Addr×Obj)} {σ:St} {H:Hp} {s:Shared} {l b:Addr} {xs ys zs:List V}
theorem Inv.lset {its its':List Value} {n:Nat} {f:Array Value→Array Value} {t':Nat} (I:Inv X pins σ H s) (hH:H l=some (.lst xs))
 (e:s.heap.get? l=some {cls:=.type "list",data:=.seq its.toArray n}) (hf:f its.toArray=its'.toArray) (hv:Vals ys its') (hz:ys.length≤sizeLine):
 Inv X pins σ (Am H l (.lst ys)) {s with heap:=s.heap.update l (Obj.mapSeq f),toks:=t'}:=by
 have q:=PySem.IsL.update e f
 rw [hf] at q
 refine I.write (x:=l) (e:=l) (by rw [hH];exact trivial) (.inl rfl) (fun b' u hb hu=>(Lm s.heap (Obj.mapSeq f) (Ne.symm hb)).trans hu) ⟨_,q⟩ ?_
 exact ⟨hz,its',_,hv,q⟩
theorem Inv.lnew {its:List Value} {t':Nat} (I:Inv X pins σ H s) (hv:Vals ys its) (hz:ys.length≤sizeLine):
 Inv X pins σ (Am H s.heap.objs.size (.lst ys)) {s with heap:=s.heap.push {cls:=.type "list",data:=.seq its.toArray},toks:=t'}:=
 I.laid (fun _ _ q=>AE _ q) (AD _) ⟨hz,its,0,hv,Bj _ rfl⟩
theorem Inv.fresh (I:Inv X pins σ H s):H s.heap.objs.size=none:=I.hok.fresh (AD _)
theorem Inv.lstM (I:Inv X pins σ H s) (hH:H l=some (.lst xs)):xs.length≤sizeLine∧∃(its:List Value) (n:Nat),Vals xs its∧xs.length=its.length∧s.heap.get? l=some {cls:=.type "list",data:=.seq its.toArray n}:=by
 obtain ⟨z,its,n,r,e⟩:=I.hok l _ hH
 exact ⟨z,its,n,r,r.length,e⟩
theorem UV {n:Nat} (h:n≤sizeLine):Builtin.List.listTooLong n=false:=by
 unfold Builtin.List.listTooLong
 exact decide_eq_false (by omega)
end
section
variable {X:Cx}
def UW:V→List V→Hp→VK→Prop:=fun x vs H Q=>∃l xs y,x=.ref l∧vs=[y]∧H l=some (.lst xs)∧xs.length<sizeLine∧Q .non (Am H l (.lst (xs++[y])))
theorem UX:UU X "list.append" UW:=by
 intro pins s σ H x vs v us Q I rx rv h
 obtain ⟨l,xs,y,rfl,rfl,hH,hz,q⟩:=h
 cases rx
 obtain ⟨u,rfl,ru⟩:=rv.one
 obtain ⟨z,its,n,r,hl,e⟩:=I.lstM hH
 refine call_meets F.slot_list_append ⟨_,e,rfl⟩ F.entry_list_append (F.args_list_append_2 _ _) (PySem.list_append l its.toArray n u (by rw [AZ];omega)) ⟨e,?_⟩
 refine ⟨.non,_,I.lset (its':=its++[u]) hH e (by simp) (r.append (.cons ru .nil)) ?_,rfl,q⟩
 rw [FB,List.length_singleton]
 omega
def UY:R2:=fun x y H Q=>∃l b xs zs,x=.ref l∧y=.ref b∧H l=some (.lst xs)∧H b=some (.lst zs)∧xs.length+zs.length≤sizeLine∧∀p,H p=none→Q (.ref p) (Am H p (.lst (xs++zs)))
theorem op_cat:OpR X (binaryOp .Add) UY:=by
 intro pins s σ H x y v u Q I rx ry h
 obtain ⟨l,b,xs,zs,rfl,rfl,hH,hB,hz,q⟩:=h
 cases rx
 cases ry
 obtain ⟨z,its,n,r,hl,e⟩:=I.lstM hH
 obtain ⟨z2,its2,n2,r2,hl2,e2⟩:=I.lstM hB
 refine PySem.P.add_list e e2 ?_ (by rw [AZ,AZ];omega)
 have ea:its.toArray++its2.toArray=(its++its2).toArray:=by simp
 rw [ea]
 exact ⟨.ref _,_,I.lnew (t':=s.toks) (r.append r2) (by rw [FB];omega),rfl,q _ I.fresh⟩
def UZ:R2:=fun x y H Q=>∃l k xs,x=.ref l∧y=.int k∧H l=some (.lst xs)∧-(2^63)≤k∧k<2^63∧xs.length*k.toNat≤sizeLine∧
 ∀p,H p=none→Q (.ref p) (Am H p (.lst (List.replicate k.toNat xs).flatten))
theorem JJ {α:Type} (xs:List α) (k:Nat):(List.replicate k xs).flatten.length=k*xs.length:=by
 induction k with
 |zero=>simp
 |succ k ih=>rw [E6,FC,FB,ih,GT,HQ]
theorem U0:OpR X (binaryOp .Mult) UZ:=by
 intro pins s σ H x y v u Q I rx ry h
 obtain ⟨l,k,xs,rfl,rfl,hH,h1,h2,hz,q⟩:=h
 cases rx
 obtain ⟨t,rfl⟩:=ry
 obtain ⟨z,its,n,r,hl,e⟩:=I.lstM hH
 have hlen:its.toArray.size*k.toNat≤sizeLine:=by rw [AZ,←hl];exact hz
 have hcap:¬its.toArray.size*k.toNat>(2^63 - 1) / 8:=by
  have:(sizeLine:Nat)≤(2^63 - 1) / 8:=by decide
  omega
 have hfit:¬(!Builtin.List.listFitsIndex k)=true:=by
  rw [fitsIndex_both h1 h2]
  exact BI
 have hlong:¬Builtin.List.listTooLong (its.toArray.size*k.toNat)=true:=by
  rw [UV hlen]
  exact BI
 have hnew:List.foldl (fun x1 x2=>x1++x2) #[] (List.replicate (if its.toArray.isEmpty=true then 0 else k.toNat) its.toArray)=(List.replicate k.toNat its).flatten.toArray:=by
  have f0:∀m:Nat,List.foldl (fun x1 x2=>x1++x2) #[] (List.replicate m its.toArray)=(List.replicate m its).flatten.toArray:=fun m=>by
   have:=JI its m []
   rw [GP] at this
   exact this
  rw [f0]
  cases its with
  |nil=>simp
  |cons a r'=>rw [if_neg (by simp)]
 refine wpAny_binaryOp_repeat_ref (T:="list") (U:="int") (by decide) ⟨_,e,rfl⟩ (fun s'=>typeIs_int s' k t) noFill_list_mul F.fills_int_mul F.slot_int_rmul repeat_list F.slot_int_index.lookup
  (call_meets F.slot_int_rmul (typeIs_int s k t) F.entry_int_rmul (F.args_int_rmul_2 _ _) (int___rmul___int_list k t l its.toArray n)
   ⟨e,rfl,⟨_,e,rfl⟩,call_meets F.slot_list_mul ⟨_,e,rfl⟩ F.entry_list_mul (F.args_list_mul_2 _ _) (AutoListH.list___mul___list_int_3 l its.toArray n k t hfit hcap hlong) ⟨e,?_⟩⟩)
 rw [hnew]
 exact ⟨.ref _,_,I.lnew (t':=s.toks) (r.rep k.toNat) (by rw [JJ,HU];exact hz),rfl,q _ I.fresh⟩
end
section
variable {prog:Program} {w:World} {A:Around} {E:Value→Shared→Prop} {s:Shared}
end
section
variable {X:Cx}
end
end L2
namespace Att
open PySem PySem.W PySem.Calls PyProof.Rows
theorem U1 {P:Params} {h:Heap}:∀(ns:List Int) (vs:List Value),WellAll P h vs (ns.map WData.int)→IntsAre vs ns:=by
 intro ns
 induction ns with
 |nil=>
  intro vs w
  rw [FH] at w
  cases w
  exact .nil
 |cons n ns ih=>
  intro vs w
  rw [Bf] at w
  cases w with
  |cons a b=>
   cases a
   exact .cons _ _ (ih _ b)
theorem U2 {l:OpenLaw} {n:Nat} (hn:l.most=some n) {P:Params} {h:Heap} {args:List WData} {vals:List Value}
 (hpre:l.row.toRowW.claim.pre args=true) (hwl:WellAll P h vals args):
 ∃a vs ns,vals=[Value.ref a]∧args=[WData.list (ns.map WData.int)]∧h.get? a=some {cls:=.type "list",data:=.seq vs.toArray}∧IntsAre vs ns∧ns.length≤n:=by
 have hsh:WShape.hasAll [] args [.list .int]=true:=(pre_splitW hpre).1
 have hc:l.pre.holds [] {args:=args}=true:=(pre_splitW hpre).2
 obtain ⟨d,r,rfl,h1,h2⟩:=hasAllW_cons hsh
 obtain rfl:=hasAllW_nil h2
 obtain ⟨xs,rfl,h3⟩:=hasW_list h1
 obtain ⟨ns,rfl⟩:=items_int h3
 have hlen:ns.length≤n:=by
  unfold OpenLaw.pre at hc
  have h4:(WTm.not (.lt (.lit (.int (n:Int))) (.len (.arg 0)))).holds [] {args:=[.list (ns.map .int)]}=true:=by
   have h4:=(holds_andW hc).1
   rw [hn] at h4
   exact h4
  have h5:=condW_of h4 (w_not (w_lt w_lit (w_len_list (w_arg rfl))))
  rw [CH] at h5
  refine HN fun q=>?_
  have q':(n:Int)<((ns.length:Nat):Int):=by omega
  first
   |(rw [decide_eq_true q'] at h5;exact absurd h5 (by decide))
   |(simp at h5;omega)
 cases hwl with
 |cons w1 w2=>
  cases w2
  cases w1 with
  |list ho hall=>exact ⟨_,_,ns,rfl,rfl,ho,U1 ns _ hall,hlen⟩
theorem U3 (l:OpenLaw) (args:List WData):l.row.toRowW.claim.post args (.bool true) args=true:=
 postW_of (r:=l.row.toRowW) (X:=(true==true))
  (show WShape.has [] (.bool true) .bool=true by first |rfl |decide |simp [WShape.has,WShape.arms,WShape.armsAll])
  (show (WTm.eq .res (.lit (.bool true))).value [] {args:=args,res:=some (.bool true),after:=args}=some (.bool (true==true)) from w_eq_bool (w_res rfl) w_lit) rfl
section
variable {prog:Program} {w:World} {A:Around} {E:Value→Shared→Prop} {s:Shared} {K:Frag}
end
end Att
namespace L2
open PySem PySem.Spec PyProof.Rows
theorem vals_ints:∀{vs:List Value} {ns:List Int},IntsAre vs ns→Vals (ns.map V.int) vs
 |_,_,.nil=>.nil
 |_,_,.cons n t h=>.cons ⟨t,rfl⟩ (vals_ints h)
def defArgs (s:Stmt):Arguments:=match s with
 |.FunctionDef _ a _ _ _ _ _ _ _ _=>a
 |_=>{posonlyargs:=[],args:=[],vararg:=none,kwonlyargs:=[],kw_defaults:=[],kwarg:=none,defaults:=[]}
def defBody (s:Stmt):List Stmt:=match s with
 |.FunctionDef _ _ b _ _ _ _ _ _ _=>b
 |_=>[]
def defScope (s:Stmt):Scope:=match s with
 |.FunctionDef _ _ _ _ _ _ sc _ _ _=>sc
 |_=>{kind:=.function,names:=[],isGenerator:=false,isCoroutine:=false}
abbrev OI:Dx:=fun _ _ _ _ _ _=>False
abbrev E0:XK:=fun _ _ _=>False
inductive OJ (K:PySem.W.Frag) (x qual:Str) (st:Stmt) (f:Addr) (fd:FuncData):Prop where
 |mk (oc:Value) (od:Option Addr) (kV doc pm:Value) (an:Option Addr) (cdv ct:Value) (osl:Array (Option Value)) (f1:fd=PySem.W.fnOf x qual (defArgs st) (defBody st) (defScope st) .none kV doc pm an cdv ct) (f2:K.lookup f=some ⟨oc,od,.func fd,osl⟩) (f3:PySem.W.codeIn K cdv qual=true):OJ K x qual st f fd
structure Fun (K:PySem.W.Frag) (x qual:Str) (st:Stmt) (f:Addr) (fd:FuncData):Prop where
 ex:OJ K x qual st f fd
 kp:PySem.W.keepIn K (.ref f)=true
section
variable {P:Program} {w:World} {K:PySem.W.Frag} {mg:Str→Option Value} {base:Heap}
theorem Fun.binds {x qual:Str} {st:Stmt} {f:Addr} {fd:FuncData} {ps:List Str} (F:Fun K x qual st f fd)
 (h:∀(kV doc pm:Value) (an:Option Addr) (cdv ct:Value) (us:List Value),us.length=ps.length→bindArgs (PySem.W.fnOf x qual (defArgs st) (defBody st) (defScope st) .none kV doc pm an cdv ct) ⟨us,[]⟩=pure (ps.zip us)):Binds K fd ps []:=by
 obtain ⟨oc,od,kV,doc,pm,an,cdv,ct,osl,rfl,lk,hcd⟩:=F.ex
 exact .all (h kV doc pm an cdv ct)
theorem Fd {x qual:Str} {st:Stmt} {f:Addr} {oc:Value} {od an:Option Addr} {osl:Array (Option Value)} {kV doc pm cdv ct:Value} (l:K.lookup f=some ⟨oc,od,.func (PySem.W.fnOf x qual (defArgs st) (defBody st) (defScope st) .none kV doc pm an cdv ct),osl⟩)
 (c:PySem.W.codeIn K cdv qual=true) (k:PySem.W.keepIn K (.ref f)=true):Fun K x qual st f (PySem.W.fnOf x qual (defArgs st) (defBody st) (defScope st) .none kV doc pm an cdv ct):=⟨⟨oc,od,kV,doc,pm,an,cdv,ct,osl,rfl,l,c⟩,k⟩
end
section
variable {X:Cx}
theorem pv (i:Nat) {x:Str} {pos:Pos} (hN:X.N[i]?=some x:=by rfl) (hv:Jw X.env.scope x:=by first |exact Or.inl rfl |exact Or.inr (Or.inl rfl) |exact Or.inr (Or.inr rfl)) (hd:(x==("__debug__":Str))=false:=by decide)
 (hcd:(x==("__classdict__":Str))=false:=by decide):PE X (.Name x pos) (Lr i):=Ls hN hv hd hcd
end
end L2
namespace LS
open PySem PySem.Spec PyProof.Rows L2
inductive D where
 |non |bl (b:Bool) |int (i:Int) |str (x:Str) |tup (ds:List D) |loc (l:Nat) |scr (ns:List Int) |adr (a:Addr) |ty (n:String) |exc (n:Str) (fs:List (Str×Int)) |edic |glo (n:Str) |clo (a:Addr) (vs:List V) (ds:List D)
inductive Kyd where
 |i (n:Int) |t (ns:List Int) |b (rs:List (List Int))
 deriving DecidableEq
def kD:Kyd→D
 |.i n=>.int n
 |.t ns=>.tup (ns.map D.int)
 |.b rs=>.tup (rs.map fun r=>.tup (r.map D.int))
inductive Cell where
 |lst (ds:List D) |tab |dic (fz:Bool) (kvs:List (Kyd×D))
abbrev HD:=List Cell
abbrev Ai:=List (Option D)
inductive Out (α:Type) where
 |ok (a:α) (h:HD) |err (C:Value) (fs:List (Str×D)) (h:HD) |stuck
def Out.bind {α β:Type} (o:Out α) (k:α→HD→Out β):Out β:=match o with
 |.ok a h=>k a h
 |.err C fs h=>.err C fs h
 |.stuck=>.stuck
@[simp] theorem Out.bind_ok {α β:Type} (a:α) (h:HD) (k:α→HD→Out β):(Out.ok a h).bind k=k a h:=rfl
@[simp] theorem Out.bind_err {α β:Type} (C:Value) (fs:List (Str×D)) (h:HD) (k:α→HD→Out β):(Out.err C fs h:Out α).bind k=.err C fs h:=rfl
@[simp] theorem Out.bind_stuck {α β:Type} (k:α→HD→Out β):(Out.stuck:Out α).bind k=.stuck:=rfl
def LP:HO→Bool
 |.tup _=>true
 |.frz _ _=>true
 |.ext _=>true
 |.xd _=>true
 |_=>false
def Kp (H H':Hp):Prop:=∀b o,H b=some o→LP o=true→H' b=some o
theorem Kp.refl (H:Hp):Kp H H:=fun _ _ e _=>e
theorem Kp.trans {H H1 H2:Hp} (a:Kp H H1) (b:Kp H1 H2):Kp H H2:=fun c o e i=>b c o (a c o e i) i
theorem Kp.new {H:Hp} {p:Addr} {o:HO} (h:H p=none):Kp H (Am H p o):=fun b u e _=>by rw [An (Bg e h)];exact e
theorem Kp.set {H:Hp} {p:Addr} {o u:HO} (h:H p=some o) (i:LP o=false):Kp H (Am H p u):=fun b w e iw=>by
 rw [An]
 ·exact e
 ·intro z
  rw [z,h] at e;cases e;rw [i] at iw;cases iw
def FzL (K:PySem.W.Frag) (H:Hp) (a:Addr) (xs:List V):Prop:=(∃o,H a=some (.frz o (.lst xs)))∨SqL K (fun _=>none) a xs
theorem Kp.fzL {K:PySem.W.Frag} {H H':Hp} {a:Addr} {xs:List V} (k:Kp H H') (h:FzL K H a xs):FzL K H' a xs:=by
 rcases h with ⟨o,h⟩ |h
 ·exact .inl ⟨o,k _ _ h rfl⟩
 ·exact .inr h
theorem FzL.sq {K:PySem.W.Frag} {H:Hp} {a:Addr} {xs:List V} (h:FzL K H a xs):SqL K H a xs:=by
 rcases h with ⟨o,h⟩ |(h |⟨o,h⟩) |h
 ·exact .inl (.inr ⟨o,h⟩)
 ·cases h
 ·cases h
 ·exact .inr h
def Fe (C:Addr) (da:Option Addr) (a:Addr) (h:Heap):Prop:=∃o vs,h.get? a=some o∧o.cls=.ref C∧(∀d,da=some d→o.dict=some d)∧o.data=.fields vs
def LQ (a:Addr) (h:Heap):Prop:=a≠sysModules∧∃o ep,h.get? a=some o∧o.ExactDict∧o.data=.dict #[] ep
mutual
def DV (K:PySem.W.Frag) (m:List Addr) (H:Hp):D→V→Prop
 |.non,v=>v=.non
 |.bl b,v=>v=.bl b
 |.int i,v=>v=.int i
 |.str x,v=>v=.str x
 |.tup ds,v=>∃a vs,v=.ref a∧H a=some (.tup vs)∧DVs K m H ds vs
 |.loc l,v=>∃a,v=.ref a∧m[l]?=some a
 |.scr ns,v=>∃a,v=.ref a∧FzL K H a (ns.map V.int)
 |.adr a,v=>v=.ref a
 |.ty n,v=>v=.ty n
 |.exc n fs,v=>∃a C da,v=.ref a∧PySem.W.nsIn K mainGlobals n=some (some (.ref C))∧H a=some (.ext (Fe C da a))∧∀f i,fs.lookup f=some i→∃d fv,da=some d∧H d=some (.xd fv)∧fv.lookup f=some (.int i)
 |.edic,v=>∃a,v=.ref a∧H a=some (.ext (LQ a))
 |.glo n,v=>∃a,v=.ref a∧PySem.W.nsIn K mainGlobals n=some (some (.ref a))
 |.clo a vs ds,v=>v=.ref a∧DVs K m H ds vs
def DVs (K:PySem.W.Frag) (m:List Addr) (H:Hp):List D→List V→Prop
 |[],vs=>vs=[]
 |d::ds,vs=>∃v r,vs=v::r∧DV K m H d v∧DVs K m H ds r
end
section
variable {K:PySem.W.Frag} {m m':List Addr} {H H':Hp}
theorem GZ {l:Nat} {a:Addr} (p:m <+:m') (h:m[l]?=some a):m'[l]?=some a:=by
 obtain ⟨t,rfl⟩:=p
 have hl:l<m.length:=(qa2.mp h).1
 rw [Ez hl];exact h
mutual
theorem DV.keep (p:m <+:m') (k:Kp H H'):∀{d:D} {v:V},DV K m H d v→DV K m' H' d v
 |.non,_,h=>by simpa [DV] using h
 |.bl _,_,h=>by simpa [DV] using h
 |.int _,_,h=>by simpa [DV] using h
 |.str _,_,h=>by simpa [DV] using h
 |.tup ds,_,h=>by
  simp only [DV] at h ⊢
  obtain ⟨a,vs,e,q,r⟩:=h
  exact ⟨a,vs,e,k _ _ q rfl,DVs.keep p k r⟩
 |.loc l,_,h=>by
  simp only [DV] at h ⊢
  obtain ⟨a,e,q⟩:=h
  exact ⟨a,e,GZ p q⟩
 |.scr ns,_,h=>by
  simp only [DV] at h ⊢
  obtain ⟨a,e,q⟩:=h
  exact ⟨a,e,k.fzL q⟩
 |.adr _,_,h=>by simpa [DV] using h
 |.ty _,_,h=>by simpa [DV] using h
 |.exc _ _,_,h=>by
  simp only [DV] at h ⊢
  obtain ⟨a,C,da,e,q,r,t⟩:=h
  exact ⟨a,C,da,e,q,k _ _ r rfl,fun f i z=>let ⟨d,fv,z1,z2,z3⟩:=t f i z;⟨d,fv,z1,k _ _ z2 rfl,z3⟩⟩
 |.edic,_,h=>by
  simp only [DV] at h ⊢
  obtain ⟨a,e,r⟩:=h
  exact ⟨a,e,k _ _ r rfl⟩
 |.glo _,_,h=>by simpa [DV] using h
 |.clo _ _ ds,_,h=>by
  simp only [DV] at h ⊢
  exact ⟨h.1,DVs.keep p k h.2⟩
theorem DVs.keep (p:m <+:m') (k:Kp H H'):∀{ds:List D} {vs:List V},DVs K m H ds vs→DVs K m' H' ds vs
 |[],_,h=>by simpa [DVs] using h
 |d::ds,_,h=>by
  simp only [DVs] at h ⊢
  obtain ⟨v,r,e,q,t⟩:=h
  exact ⟨v,r,e,DV.keep p k q,DVs.keep p k t⟩
end
theorem DVs.nil:DVs K m H [] []:=by simp [DVs]
theorem DVs.cons {d:D} {v:V} {ds:List D} {vs:List V} (h:DV K m H d v) (t:DVs K m H ds vs):DVs K m H (d::ds) (v::vs):=by
 simp only [DVs];exact ⟨v,vs,rfl,h,t⟩
theorem DVs.len:∀{ds:List D} {vs:List V},DVs K m H ds vs→ds.length=vs.length
 |[],_,h=>by simp only [DVs] at h;subst h;rfl
 |d::ds,_,h=>by
  simp only [DVs] at h
  obtain ⟨v,r,e,_,t⟩:=h
  subst e
  simp [DVs.len t]
theorem DVs.get:∀{ds:List D} {vs:List V} {i:Nat} {d:D},DVs K m H ds vs→ds[i]?=some d→∃v,vs[i]?=some v∧DV K m H d v
 |[],_,_,_,_,e=>by simp at e
 |d::ds,_,i,x,h,e=>by
  simp only [DVs] at h
  obtain ⟨v,r,rfl,q,t⟩:=h
  cases i with
  |zero=>simp at e;subst e;exact ⟨v,rfl,q⟩
  |succ i=>
   obtain ⟨w,h1,h2⟩:=DVs.get (i:=i) t (by simpa using e)
   exact ⟨w,by simpa using h1,h2⟩
theorem DVs.app:∀{ds es:List D} {vs ws:List V},DVs K m H ds vs→DVs K m H es ws→DVs K m H (ds++es) (vs++ws)
 |[],_,_,_,h,t=>by simp only [DVs] at h;subst h;exact t
 |d::ds,_,_,_,h,t=>by
  simp only [DVs] at h
  obtain ⟨v,r,rfl,q,u⟩:=h
  exact .cons q (DVs.app u t)
theorem DVs.set:∀{ds:List D} {vs:List V} {d:D} {v:V} (i:Nat),DVs K m H ds vs→DV K m H d v→DVs K m H (ds.set i d) (vs.set i v)
 |[],_,_,_,_,h,_=>by simp only [DVs] at h;subst h;exact .nil
 |d::ds,_,_,_,i,h,q'=>by
  simp only [DVs] at h
  obtain ⟨v,r,rfl,q,u⟩:=h
  cases i with
  |zero=>exact .cons q' u
  |succ i=>exact .cons q (DVs.set i u q')
theorem DVs.take:∀{ds:List D} {vs:List V} (n:Nat),DVs K m H ds vs→DVs K m H (ds.take n) (vs.take n)
 |_,_,0,_=>by simpa using (DVs.nil:DVs K m H [] [])
 |[],_,n+1,h=>by simp only [DVs] at h;subst h;exact .nil
 |d::ds,_,n+1,h=>by
  simp only [DVs] at h
  obtain ⟨v,r,rfl,q,u⟩:=h
  exact .cons q (DVs.take n u)
theorem DVs.drop:∀{ds:List D} {vs:List V} (n:Nat),DVs K m H ds vs→DVs K m H (ds.drop n) (vs.drop n)
 |_,_,0,h=>by simpa using h
 |[],_,n+1,h=>by simp only [DVs] at h;subst h;exact .nil
 |d::ds,_,n+1,h=>by
  simp only [DVs] at h
  obtain ⟨v,r,rfl,q,u⟩:=h
  simpa using DVs.drop n u
theorem DVs.rep {ds:List D} {vs:List V} (h:DVs K m H ds vs):∀n,DVs K m H (List.replicate n ds).flatten (List.replicate n vs).flatten
 |0=>by simpa using (DVs.nil:DVs K m H [] [])
 |n+1=>by
  rw [E6,FC,E6,FC]
  exact h.app (DVs.rep h n)
def G0 (q:Str) (c:Addr) (h:Heap):Prop:=h.CodeRec (.ref c) q
def tabP (K:PySem.W.Frag):Option (Addr×Addr):=match PySem.W.nsIn K mainGlobals "law" with
 |some (some (.ref f))=>(match K.lookup f with
  |some ⟨_,_,.func fd,_⟩=>(match fd.code with
   |.ref c=>(match K.lookup c with
    |some ⟨_,_,.fields vs,_⟩=>(match (vs[11]?:Option Value) with
     |some (.ref P)=>some (c,P)
     |_=>none)
    |_=>none)
   |_=>none)
  |_=>none)
 |_=>none
def TabIs (K:PySem.W.Frag) (H:Hp) (a:Addr):Prop:=(∃c,tabP K=some (c,a))∧∃ps,H a=some (.tbl ps)∧TriplesOk ps.toList∧∀pos cv,codeAmong pos ps.toList=some cv→∃c,cv=.ref c∧H c=some (.ext (G0 "law.<locals>.<lambda>" c))
theorem TabIs.keep {K:PySem.W.Frag} {H H':Hp} {a:Addr} (t:TabIs K H a) (k:Kp H H') (e:H' a=H a):TabIs K H' a:=by
 obtain ⟨z,ps,h1,h2,h3⟩:=t
 exact ⟨z,ps,e.trans h1,h2,fun pos cv q=>let ⟨c,q1,q2⟩:=h3 pos cv q;⟨c,q1,k _ _ q2 rfl⟩⟩
def LR (hs:List Int):Int:=reduceHash (Builtin.Tuple.tupleHashOf hs)
def U4:Kyd→Int
 |.i n=>hashInt n
 |.t ns=>LR (ns.map hashInt)
 |.b rs=>LR (rs.map fun r=>LR (r.map hashInt))
def JK (p:Kyd×V×V) (e:DictEntry):Prop:=e.hash=U4 p.1∧RelV p.2.1 e.key∧RelV p.2.2 e.val
def Bp (a:Addr) (es:List (Kyd×V×V)) (h:Heap):Prop:=(a==sysModules)=false∧es.length≤sizeLine∧(es.map (·.1)).Nodup∧∃o us ep,h.get? a=some o∧o.ExactDict∧o.data=.dict us ep∧Paired JK es us.toList
def EntD (K:PySem.W.Frag) (m:List Addr) (H:Hp):List (Kyd×D)→List (Kyd×V×V)→Prop
 |[],es=>es=[]
 |p::r,es=>∃kv vv r',es=(p.1,kv,vv)::r'∧DV K m H (kD p.1) kv∧DV K m H p.2 vv∧EntD K m H r r'
theorem EntD.keep {K:PySem.W.Frag} {m m':List Addr} {H H':Hp} (p:m <+:m') (k:Kp H H'):∀{kvs:List (Kyd×D)} {es:List (Kyd×V×V)},EntD K m H kvs es→EntD K m' H' kvs es
 |[],_,h=>h
 |_::_,_,h=>by
  obtain ⟨kv,vv,r',e,d1,d2,t⟩:=h
  exact ⟨kv,vv,r',e,d1.keep p k,d2.keep p k,t.keep p k⟩
def DicH (fz:Bool) (H:Hp) (a:Addr) (es:List (Kyd×V×V)):Prop:=match fz with
 |true=>∃o,H a=some (.frz o (.dct (Bp a es)))
 |false=>H a=some (.dct (Bp a es))
theorem DicH.some {fz:Bool} {H:Hp} {a:Addr} {es:List (Kyd×V×V)} (d:DicH fz H a es):∃o,H a=some o:=by
 cases fz with
 |true=>obtain ⟨o,e⟩:=d;exact ⟨_,e⟩
 |false=>exact ⟨_,d⟩
theorem DicH.same {fz:Bool} {H H':Hp} {a:Addr} {es:List (Kyd×V×V)} (d:DicH fz H a es) (e:H' a=H a):DicH fz H' a es:=by
 cases fz with
 |true=>obtain ⟨o,z⟩:=d;exact ⟨o,e.trans z⟩
 |false=>exact e.trans d
theorem DicH.rd {fz:Bool} {H:Hp} {a:Addr} {es:List (Kyd×V×V)} (d:DicH fz H a es):Rd H a (.dct (Bp a es)):=by
 cases fz with
 |true=>obtain ⟨o,z⟩:=d;exact .inr ⟨o,z⟩
 |false=>exact .inl d
def JL (K:PySem.W.Frag) (m:List Addr) (H:Hp):Cell→Addr→Prop
 |.lst ds,a=>∃vs,H a=some (.lst vs)∧DVs K m H ds vs
 |.tab,a=>TabIs K H a
 |.dic fz kvs,a=>∃es,DicH fz H a es∧EntD K m H kvs es
structure HR (K:PySem.W.Frag) (m:List Addr) (h:HD) (H:Hp):Prop where
 len:m.length=h.length
 nd:m.Nodup
 cells:∀(l:Nat) (c:Cell) (a:Addr),h[l]?=some c→m[l]?=some a→JL K m H c a
theorem HR.at {h:HD} {l:Nat} {c:Cell} (r:HR K m h H) (e:h[l]?=some c):∃a,m[l]?=some a∧JL K m H c a:=by
 have hl:l<h.length:=(qa2.mp e).1
 have:l<m.length:=by rw [r.len];exact hl
 exact ⟨m[l],AW this,r.cells l c _ e (AW this)⟩
theorem HR.mem {h:HD} {a:Addr} (r:HR K m h H) (ha:a∈m):H a≠none:=by
 obtain ⟨l,hl,rfl⟩:=Jq ha
 have hl':l<h.length:=by rw [←r.len];exact hl
 have:=r.cells l h[l] m[l] (AW hl') (AW hl)
 cases hc:h[l] with
 |lst ds=>
  rw [hc] at this
  obtain ⟨vs,e,_⟩:=this
  rw [e];simp
 |tab=>
  rw [hc] at this
  obtain ⟨_,ps,e,_⟩:=this
  rw [e];simp
 |dic fz kvs=>
  rw [hc] at this
  obtain ⟨es,e,_⟩:=this
  obtain ⟨o,e⟩:=e.some
  rw [e];simp
theorem HR.same {h:HD} (r:HR K m h H) (k:Kp H H') (s:∀a∈m,H' a=H a):HR K m h H':=by
 refine ⟨r.len,r.nd,fun l c a e q=>?_⟩
 have hm:a∈m:=E5 q
 have:=r.cells l c a e q
 cases c with
 |lst ds=>
  obtain ⟨vs,e1,e2⟩:=this
  exact ⟨vs,by rw [s a hm];exact e1,e2.keep (Ay _) k⟩
 |tab=>exact TabIs.keep this k (s a hm)
 |dic fz kvs=>
  obtain ⟨es,e1,e2⟩:=this
  exact ⟨es,e1.same (s a hm),e2.keep (Ay _) k⟩
theorem HR.new {h:HD} {p:Addr} {o:HO} (r:HR K m h H) (hp:H p=none):HR K m h (Am H p o):=
 r.same (.new hp) fun a ha=>An fun z=>r.mem ha (z ▸ hp)
theorem HR.newCell {h:HD} {p:Addr} {o:HO} {c:Cell} (r:HR K m h H) (hp:H p=none) (hc:JL K (m++[p]) (Am H p o) c p):HR K (m++[p]) (h++[c]) (Am H p o):=by
 have hpm:p∉m:=fun z=>r.mem z hp
 refine ⟨by simp [r.len],?_,fun l c' a e q=>?_⟩
 ·rw [List.nodup_append]
  refine ⟨r.nd,by simp,fun a ha b hb=>?_⟩
  rw [qaD] at hb
  subst hb
  intro z;subst z;exact hpm ha
 ·by_cases hl:l<m.length
  ·rw [Ez hl] at q
   rw [Ez (by rw [←r.len];exact hl)] at e
   have:=r.cells l c' a e q
   have hne:a≠p:=fun z=>hpm (z ▸ E5 q)
   cases c' with
   |lst ds=>
    obtain ⟨vs,e1,e2⟩:=this
    exact ⟨vs,by rw [An hne];exact e1,e2.keep (GM _ _) (.new hp)⟩
   |tab=>exact TabIs.keep this (.new hp) (An hne)
   |dic fz kvs=>
    obtain ⟨es,e1,e2⟩:=this
    exact ⟨es,e1.same (An hne),e2.keep (GM _ _) (.new hp)⟩
  ·have h1:m.length≤l:=HN hl
   rw [HK h1] at q
   rw [HK (by rw [←r.len];exact h1)] at e
   have e0:l - m.length=0:=by
    cases hz:l - m.length with
    |zero=>rfl
    |succ n=>rw [hz] at q;simp at q
   rw [←r.len] at e
   rw [e0] at q e
   simp at q e
   subst q e
   exact hc
theorem HR.setCell {h:HD} {p:Addr} {l:Nat} {o u:HO} {c:Cell} (r:HR K m h H) (hl:m[l]?=some p) (ho:H p=some o) (i:LP o=false) (hc:JL K m (Am H p u) c p):HR K m (h.set l c) (Am H p u):=by
 refine ⟨by simp [r.len],r.nd,fun j c' a e q=>?_⟩
 by_cases hj:j=l
 ·subst hj
  rw [hl] at q;cases q
  have hlt:j<h.length:=by rw [←r.len];exact (qa2.mp hl).1
  rw [BR hlt] at e
  cases e
  exact hc
 ·rw [Bi (Ne.symm hj)] at e
  have:=r.cells j c' a e q
  have hne:a≠p:=by
   intro z
   subst z
   obtain ⟨h1,e1⟩:=qa2.mp q
   obtain ⟨h2,e2⟩:=qa2.mp hl
   exact hj ((List.getElem_inj r.nd).mp (e1.trans e2.symm))
  cases c' with
  |lst ds=>
   obtain ⟨vs,e1,e2⟩:=this
   exact ⟨vs,by rw [An hne];exact e1,e2.keep (Ay _) (.set ho i)⟩
  |tab=>exact TabIs.keep this (.set ho i) (An hne)
  |dic fz kvs=>
   obtain ⟨es,e1,e2⟩:=this
   exact ⟨es,e1.same (An hne),e2.keep (Ay _) (.set ho i)⟩
def ER (K:PySem.W.Frag) (m:List Addr) (H:Hp) (ρ:Ai) (σ:L2.St):Prop:=ρ.length=σ.length∧∀(i:Nat) (d:D),ρ[i]?=some (some d)→∃v,σ[i]?=some (some v)∧DV K m H d v
theorem ER.keep {ρ:Ai} {σ:L2.St} (p:m <+:m') (k:Kp H H') (e:ER K m H ρ σ):ER K m' H' ρ σ:=⟨e.1,fun i d h=>let ⟨v,a,b⟩:=e.2 i d h;⟨v,a,b.keep p k⟩⟩
theorem ER.set {ρ:Ai} {σ:L2.St} {i:Nat} {d:D} {v:V} (e:ER K m H ρ σ) (r:DV K m H d v):ER K m H (ρ.set i (some d)) (σ.set i (some v)):=by
 refine ⟨by simp [e.1],fun j d' h=>?_⟩
 by_cases hj:i=j
 ·subst hj
  by_cases hl:i < ρ.length
  ·rw [BR hl] at h
   cases h
   exact ⟨v,by rw [BR (by rw [←e.1];exact hl)],r⟩
  ·rw [List.getElem?_eq_none (by simp;omega)] at h;cases h
 ·rw [Bi hj] at h
  obtain ⟨w,a,b⟩:=e.2 j d' h
  exact ⟨w,by rw [Bi hj];exact a,b⟩
theorem ER.start {N:List Str} {ds:List D} {vs:List V} (h:DVs K m H ds vs):ER K m H (ds.map some++List.replicate (N.length - ds.length) none) (L2.start N vs):=by
 refine ⟨by simp [L2.start,h.len],fun i d e=>?_⟩
 by_cases hl:i<ds.length
 ·rw [Ez (by simpa using hl),BX] at e
  obtain ⟨d',e1⟩:∃d',ds[i]?=some d':=⟨ds[i],AW hl⟩
  rw [e1] at e
  simp at e
  subst e
  obtain ⟨v,q,r⟩:=h.get e1
  refine ⟨v,?_,r⟩
  unfold L2.start
  rw [Ez (by simpa [←h.len] using hl),BX,q]
  rfl
 ·rw [HK (by simpa using HN hl)] at e
  rw [Ll] at e
  split at e<;>cases e
def XD (K:PySem.W.Frag) (m:List Addr) (H:Hp) (fs:List (Str×D)) (da:Option Addr):Prop:=
 ∀f d,fs.lookup f=some d→∃a fv v,da=some a∧H a=some (.xd fv)∧fv.lookup f=some v∧DV K m H d v
def Post {α β:Type} (K:PySem.W.Frag) (R:List Addr→Hp→α→β→Prop) (m:List Addr) (H:Hp) (E:XK) (Q:β→Hp→Prop):Out α→Prop
 |.ok a h'=>∀v m' H',m <+:m'→Kp H H'→HR K m' h' H'→R m' H' a v→Q v H'
 |.err C fs h'=>∀da m' H',m <+:m'→Kp H H'→HR K m' h' H'→XD K m' H' fs da→E C da H'
 |.stuck=>False
theorem Post.ahead {α β:Type} {R:List Addr→Hp→α→β→Prop} {E:XK} {Q:β→Hp→Prop} {o:Out α} (p:m <+:m') (k:Kp H H') (h:Post K R m H E Q o):Post K R m' H' E Q o:=by
 cases o with
 |ok a h'=>exact fun v m2 H2 p2 k2=>h v m2 H2 (p.trans p2) (k.trans k2)
 |err C fs h'=>exact fun da m2 H2 p2 k2=>h da m2 H2 (p.trans p2) (k.trans k2)
 |stuck=>exact h
theorem Post.bind {α β γ δ:Type} {R:List Addr→Hp→α→β→Prop} {R':List Addr→Hp→γ→δ→Prop} {E:XK} {Q:δ→Hp→Prop} {Q':β→Hp→Prop} {o:Out α} {k:α→HD→Out γ}
 (h:Post K R' m H E Q (o.bind k)) (f:∀a h1 v m1 H1,o=.ok a h1→m <+:m1→Kp H H1→HR K m1 h1 H1→R m1 H1 a v→Post K R' m1 H1 E Q (k a h1)→Q' v H1):Post K R m H E Q' o:=by
 cases o with
 |ok a h1=>exact fun v m1 H1 p kk hr r=>f a h1 v m1 H1 rfl p kk hr r (h.ahead p kk)
 |err C fs h1=>exact h
 |stuck=>exact h
theorem Post.mono {α β:Type} {R:List Addr→Hp→α→β→Prop} {E:XK} {Q Q':β→Hp→Prop} {o:Out α} (h:Post K R m H E Q o) (f:∀v H',Q v H'→Q' v H'):Post K R m H E Q' o:=by
 cases o with
 |ok a h1=>exact fun v m1 H1 p k hr r=>f _ _ (h v m1 H1 p k hr r)
 |err C fs h1=>exact h
 |stuck=>exact h
end
abbrev ME:=Ai→HD→Out D
abbrev MT:=Ai→HD→Out Bool
abbrev MA:=Ai→HD→Out (List D)
inductive Fl where
 |nx |bk |ct |rt (d:D)
abbrev MS:=Ai→HD→Out (Fl×Ai)
def rD (K:PySem.W.Frag):List Addr→Hp→D→V→Prop:=fun m H d v=>DV K m H d v
def rB:List Addr→Hp→Bool→Bool→Prop:=fun _ _ a b=>a=b
def Dz (K:PySem.W.Frag):List Addr→Hp→List D→List V→Prop:=fun m H d v=>DVs K m H d v
inductive tM {α β:Type} (K:PySem.W.Frag) (R:List Addr→Hp→α→β→Prop) (E:XK) (f:Ai→HD→Out α) (σ:L2.St) (H:Hp) (Q:β→Hp→Prop):Prop where
 |mk (m:List Addr) (ρ:Ai) (h:HD) (hr:HR K m h H) (er:ER K m H ρ σ) (p:Post K R m H E Q (f ρ h)):tM K R E f σ H Q
abbrev tD (K:PySem.W.Frag) (E:XK) (f:ME):TE:=tM K (rD K) E f
abbrev G1 (K:PySem.W.Frag) (E:XK) (f:MT):TT:=tM K rB E f
abbrev OK (K:PySem.W.Frag) (E:XK) (f:MA):TA:=tM K (Dz K) E f
def OL (K:PySem.W.Frag) (m:List Addr) (H:Hp) (D:Dl):Fl×Ai→Prop
 |(.nx,ρ)=>∀σ,ER K m H ρ σ→D.nx σ H
 |(.bk,ρ)=>∀σ,ER K m H ρ σ→D.bk σ H
 |(.ct,ρ)=>∀σ,ER K m H ρ σ→D.ct σ H
 |(.rt d,_)=>∀v,DV K m H d v→D.rt v H
def PostS (K:PySem.W.Frag) (m:List Addr) (H:Hp) (E:XK) (D:Dl):Out (Fl×Ai)→Prop
 |.ok a h'=>∀m' H',m <+:m'→Kp H H'→HR K m' h' H'→OL K m' H' D a
 |.err C fs h'=>∀da m' H',m <+:m'→Kp H H'→HR K m' h' H'→XD K m' H' fs da→E C da H'
 |.stuck=>False
inductive G2 (K:PySem.W.Frag) (E:XK) (g:MS) (D:Dl) (σ:L2.St) (H:Hp):Prop where
 |mk (m:List Addr) (ρ:Ai) (h:HD) (hr:HR K m h H) (er:ER K m H ρ σ) (p:PostS K m H E D (g ρ h)):G2 K E g D σ H
theorem PostS.ahead {K:PySem.W.Frag} {m m':List Addr} {H H':Hp} {E:XK} {D:Dl} {o:Out (Fl×Ai)} (p:m <+:m') (k:Kp H H') (h:PostS K m H E D o):PostS K m' H' E D o:=by
 cases o with
 |ok a h'=>exact fun m2 H2 p2 k2=>h m2 H2 (p.trans p2) (k.trans k2)
 |err C fs h'=>exact fun da m2 H2 p2 k2=>h da m2 H2 (p.trans p2) (k.trans k2)
 |stuck=>exact h
abbrev Ev (X:Cx) (E:XK) (e:Expr) (f:ME):Prop:=PE X e (tD X.K E f)
abbrev Ff (X:Cx) (E:XK) (e:Expr) (f:MT):Prop:=PT X e (G1 X.K E f)
abbrev Cn (X:Cx) (E:XK) (es:List Expr) (f:MA):Prop:=PA X es (OK X.K E f)
abbrev Ex (X:Cx) (E:XK) (st:Stmt) (g:MS):Prop:=PS X st (G2 X.K E g)
abbrev AY (X:Cx) (E:XK) (sts:List Stmt) (g:MS):Prop:=Dm X sts (G2 X.K E g)
section
variable {X:Cx}
theorem BU {e:Expr} {t t':TE} (h:PE X e t) (i:∀σ H Q,t' σ H Q→t σ H Q):PE X e t':=fun pins s σ H Q I q=>h pins s σ H Q I (i σ H Q q)
theorem LU {e:Expr} {t t':TT} (h:PT X e t) (i:∀σ H Q,t' σ H Q→t σ H Q):PT X e t':=fun pins s σ H Q I q=>h pins s σ H Q I (i σ H Q q)
theorem OM {e:List Expr} {t t':TA} (h:PA X e t) (i:∀σ H Q,t' σ H Q→t σ H Q):PA X e t':=fun pos pins s σ H Q I q=>h pos pins s σ H Q I (i σ H Q q)
theorem DW {e:Stmt} {t t':TS} (h:PS X e t) (i:∀D σ H,t' D σ H→t D σ H):PS X e t':=fun pins s σ H D I q=>h pins s σ H D I (i D σ H q)
theorem LV {e:List Stmt} {t t':TS} (h:Dm X e t) (i:∀D σ H,t' D σ H→t D σ H):Dm X e t':=fun pins s σ H D I q=>h pins s σ H D I (i D σ H q)
end
end LS
namespace LS
open PySem PySem.Spec PyProof.Rows L2
section
variable {X:Cx} {E:XK} {a b c:Expr} {pos:Pos} {f g k:ME}
def Ab (i:Nat):ME:=fun ρ h=>match ρ[i]? with
 |some (some d)=>.ok d h
 |_=>.stuck
theorem Ac {i:Nat} (h:PE X a (Lr i)):Ev X E a (Ab i):=BU h fun σ H Q z1_=>by
 obtain ⟨m,ρ,hd,hr,er,p⟩:=z1_
 unfold Ab at p
 split at p
 ·rename_i d e
  obtain ⟨v,e1,r⟩:=er.2 i d e
  exact ⟨v,e1,p v m H (Ay _) (.refl _) hr r⟩
 ·exact p.elim
def mC (d:D):ME:=fun _ h=>.ok d h
theorem G3 {d:D} {v:V} (h:PE X a (tC v)) (r:∀m H,DV X.K m H d v):Ev X E a (mC d):=BU h fun σ H Q z2_=>by obtain ⟨m,ρ,hd,hr,er,p⟩:=z2_;exact (p v m H (Ay _) (.refl _) hr (r m H))
theorem Al {i:Int} {j:Nat}:Ev X E (.Constant (.int i) j pos) (mC (.int i)):=G3 SF fun _ _=>by simp [DV]
theorem Fg {i:Bool} {j:Nat}:Ev X E (.Constant (.bool i) j pos) (mC (.bl i)):=G3 SG fun _ _=>by simp [DV]
theorem LW {j:Nat}:Ev X E (.Constant .none j pos) (mC .non):=G3 SH fun _ _=>by simp [DV]
theorem Co {x:Str} {j:Nat}:Ev X E (.Constant (.str x) j pos) (mC (.str x)):=G3 SI fun _ _=>by simp [DV]
theorem U5 {x:Str} {i:Int} {t:Tok} {pos:Pos} (hg:Gl X x) (hm:X.mg x=some (.int i t)) (hd:(x==("__debug__":Str))=false:=by decide):Ev X E (.Name x pos) (mC (.int i)):=
 G3 (SJ (v:=.int i) hg hm ⟨t,rfl⟩ hd) fun _ _=>by simp [DV]
def Af (op:D→D→HD→Out D) (f g:ME):ME:=fun ρ h=>(f ρ h).bind fun x h1=>(g ρ h1).bind fun y h2=>op x y h2
theorem JM {op:D→D→HD→Out D} {Q:VK} {R:V→V→Hp→Prop} {σ:L2.St} {H:Hp} (h:tD X.K E (Af op f g) σ H Q)
 (i:∀m H2 h2 x y v u,HR X.K m h2 H2→DV X.K m H2 x v→DV X.K m H2 y u→Post X.K (rD X.K) m H2 E Q (op x y h2)→R v u H2):tD X.K E f σ H fun v H1=>tD X.K E g σ H1 fun u H2=>R v u H2:=by
 obtain ⟨m,ρ,hd,hr,er,p⟩:=h
 refine ⟨m,ρ,hd,hr,er,Post.bind p fun x h1 v m1 H1 _ p1 k1 hr1 r1 q1=>?_⟩
 refine ⟨m1,ρ,h1,hr1,er.keep p1 k1,Post.bind q1 fun y h2 u m2 H2 _ p2 k2 hr2 r2 q2=>?_⟩
 exact i m2 H2 h2 x y v u hr2 (DV.keep p2 k2 r1) r2 q2
def BJ (X:Cx) (f:Value→Value→Sem Value) (op:D→D→HD→Out D):Prop:=
 ∃r:R2,OpR X f r∧∀m H h E x y v u Q,HR X.K m h H→DV X.K m H x v→DV X.K m H y u→Post X.K (rD X.K) m H E Q (op x y h)→r v u H Q
theorem Ap {o:Operator} {op:D→D→HD→Out D} (ho:BJ X (binaryOp o) op) (ha:Ev X E a f) (hb:Ev X E b g):Ev X E (.BinOp a o b pos) (Af op f g):=by
 obtain ⟨r,ho,i⟩:=ho
 exact BU (TL ho ha hb) fun σ H Q h=>JM h fun m H2 h2 x y v u hr rx ry q=>i m H2 h2 E x y v u Q hr rx ry q
theorem ON {o:CmpOp} {op:D→D→HD→Out D} (ho:BJ X (compareOp o) op) (ha:Ev X E a f) (hb:Ev X E b g) (hm:behindInMarks o b=false):Ev X E (.Compare a [o] [b] pos) (Af op f g):=by
 obtain ⟨r,ho,i⟩:=ho
 exact BU (T7 ho ha hb hm) fun σ H Q h=>JM h fun m H2 h2 x y v u hr rx ry q=>i m H2 h2 E x y v u Q hr rx ry q
def Ic:D→HD→Out Bool
 |.bl b,h=>.ok b h
 |_,_=>.stuck
def CL (f:ME):MT:=fun ρ h=>(f ρ h).bind Ic
theorem U6 {m:List Addr} {H:Hp} {x:D} {v:V} {h:HD} {Q:Bool→Hp→Prop} (hr:HR X.K m h H) (r:DV X.K m H x v) (q:Post X.K rB m H E Q (Ic x h)):∃k,v=.bl k∧Q k H:=by
 cases x with
 |bl b=>
  simp only [DV] at r
  exact ⟨b,r,q b m H (Ay _) (.refl _) hr rfl⟩
 |_=>exact q.elim
theorem FO {o:CmpOp} {op:D→D→HD→Out D} (ho:BJ X (compareOp o) op) (ha:Ev X E a f) (hb:Ev X E b g) (hm:behindInMarks o b=false):Ff X E (.Compare a [o] [b] pos) (CL (Af op f g)):=by
 obtain ⟨r,ho,i⟩:=ho
 refine LU (T9 ho ha hb hm) fun σ H Q h=>?_
 obtain ⟨m,ρ,hd,hr,er,p⟩:=h
 have h':tD X.K E (Af op f g) σ H fun x H'=>∃k,x=.bl k∧Q k H':=
  ⟨m,ρ,hd,hr,er,Post.bind p fun x h1 v m1 H1 _ p1 k1 hr1 r1 q1=>U6 hr1 r1 q1⟩
 exact JM h' fun m H2 h2 x y v u hr rx ry q=>i m H2 h2 E x y v u _ hr rx ry q
def DX:D→HD→Out Bool
 |.non,h=>.ok false h
 |.bl b,h=>.ok b h
 |.int i,h=>.ok (i != 0) h
 |.tup ds,h=>.ok (!ds.isEmpty) h
 |.loc l,h=>match h[l]? with
  |some (.lst ds)=>.ok (!ds.isEmpty) h
  |_=>.stuck
 |_,_=>.stuck
def DY (f:ME):MT:=fun ρ h=>(f ρ h).bind DX
theorem OO {α β:Type} {xs:List α} {ys:List β} (h:xs.length=ys.length):xs.isEmpty=ys.isEmpty:=by
 cases xs<;>cases ys<;>simp_all
theorem U7 {m:List Addr} {H:Hp} {x:D} {v:V} {h:HD} {Q:Bool→Hp→Prop} (hr:HR X.K m h H) (r:DV X.K m H x v) (q:Post X.K rB m H E Q (DX x h)):∃k,LI X.K v H k∧Q k H:=by
 have go:∀k,DX x h=.ok k h→Q k H:=fun k e=>by rw [e] at q;exact q k m H (Ay _) (.refl _) hr rfl
 cases x with
 |non=>simp only [DV] at r;subst r;exact ⟨false,rfl,go _ rfl⟩
 |bl b=>simp only [DV] at r;subst r;exact ⟨b,rfl,go _ rfl⟩
 |int i=>simp only [DV] at r;subst r;exact ⟨_,rfl,go _ rfl⟩
 |str x=>exact q.elim
 |tup ds=>
  simp only [DV] at r
  obtain ⟨p,vs,rfl,hp,dv⟩:=r
  exact ⟨_,.inr ⟨vs,SqT.of hp,rfl⟩,by rw [←OO dv.len];exact go _ rfl⟩
 |loc l=>
  simp only [DV] at r
  obtain ⟨p,rfl,hp⟩:=r
  simp only [DX] at q
  split at q
  ·rename_i ds e
   obtain ⟨vs,e1,dv⟩:=hr.cells l _ p e hp
   exact ⟨_,.inl ⟨vs,SqL.of e1,rfl⟩,by rw [←OO dv.len];exact q _ m H (Ay _) (.refl _) hr rfl⟩
  ·exact q.elim
 |scr ns=>exact q.elim
 |adr a=>exact q.elim
 |ty a=>exact q.elim
 |exc n fs=>exact q.elim
 |edic=>exact q.elim
 |glo n=>exact q.elim
 |clo a vs ds=>exact q.elim
theorem Ie (ha:Ev X E a f) (he:∀Eh,isTrue a X.env Eh=(do let v ←Eh;standAt a.pos;holding [v] (truthy v)):=by intro _;rfl):Ff X E a (DY f):=
 LU (Uc ha he) fun σ H Q z3_=>by obtain ⟨m,ρ,hd,hr,er,p⟩:=z3_;exact (⟨m,ρ,hd,hr,er,Post.bind p fun x h1 v m1 H1 _ p1 k1 hr1 r1 q1=>U7 hr1 r1 q1⟩)
variable {tf tg:MT} {rest:List Expr}
def JN (f g:MT):MT:=fun ρ h=>(f ρ h).bind fun b h1=>if b=true then g ρ h1 else .ok false h1
def FP (f g:MT):MT:=fun ρ h=>(f ρ h).bind fun b h1=>if b=true then .ok true h1 else g ρ h1
def EJ (f:MT):MT:=fun ρ h=>(f ρ h).bind fun b h1=>.ok (!b) h1
abbrev JO (X:Cx) (E:XK) (e:Expr) (f:MT):Prop:=PW X e (G1 X.K E f)
theorem U8 {e:Expr} {t t':TT} (h:PW X e t) (i:∀σ H Q,t' σ H Q→t σ H Q):PW X e t':=fun wh pins s σ H Q I q=>h wh pins s σ H Q I (i σ H Q q)
theorem OP (ha:Ff X E a tf):JO X E (.BoolOp .Or [a] pos) tf:=SO ha
theorem OQ (ha:Ff X E a tf) (hb:JO X E (.BoolOp .Or (b::rest) pos) tg):JO X E (.BoolOp .Or (a::b::rest) pos) (FP tf tg):=
 U8 (SQ ha hb) fun σ H Q z5_=>by obtain ⟨m,ρ,hd,hr,er,p⟩:=z5_;exact (⟨m,ρ,hd,hr,er,Post.bind p fun x h1 v m1 H1 _ p1 k1 hr1 r1 q1=>by
  cases r1
  cases x with
  |false=>exact ⟨m1,ρ,h1,hr1,er.keep p1 k1,q1⟩
  |true=>exact q1 true m1 H1 (Ay _) (.refl _) hr1 rfl⟩)
theorem OR (h:JO X E a tf):Ff X E a tf:=PW.pt h
theorem JP (ha:Ff X E a tf):Ff X E (.UnaryOp .Not a pos) (EJ tf):=
 LU (SS ha) fun σ H Q z6_=>by obtain ⟨m,ρ,hd,hr,er,p⟩:=z6_;exact (⟨m,ρ,hd,hr,er,Post.bind p fun x h1 v m1 H1 _ p1 k1 hr1 r1 q1=>by
  cases r1
  exact q1 _ m1 H1 (Ay _) (.refl _) hr1 rfl⟩)
def FQ (f g:ME):ME:=fun ρ h=>(f ρ h).bind fun x h1=>match x with
 |.bl true=>g ρ h1
 |.bl false=>.ok (.bl false) h1
 |_=>.stuck
def OT (f g:ME):ME:=fun ρ h=>(f ρ h).bind fun x h1=>match x with
 |.bl true=>.ok (.bl true) h1
 |.bl false=>g ρ h1
 |_=>.stuck
def JQ (f:ME):ME:=fun ρ h=>(f ρ h).bind fun x h1=>match x with
 |.bl b=>.ok (.bl (!b)) h1
 |_=>.stuck
theorem JR {o:BoolOp} (h:Ev X E a f):Ev X E (.BoolOp o [a] pos) f:=SW h
theorem JS (ha:Ev X E a f) (hb:Ev X E (.BoolOp .And (b::rest) pos) g):Ev X E (.BoolOp .And (a::b::rest) pos) (FQ f g):=
 BU (SY ha hb) fun σ H Q ⟨m,ρ,hd,hr,er,p⟩=>⟨m,ρ,hd,hr,er,Post.bind p fun x h1 v m1 H1 _ p1 k1 hr1 r1 q1=>by
  cases x with
  |bl b=>
   refine ⟨b,by simpa [rD,DV] using r1,?_⟩
   cases b with
   |true=>exact ⟨m1,ρ,h1,hr1,er.keep p1 k1,q1⟩
   |false=>exact q1 _ m1 H1 (Ay _) (.refl _) hr1 (by simp [rD,DV])
  |_=>exact q1.elim⟩
theorem U9 (ha:Ev X E a f):Ev X E (.UnaryOp .Not a pos) (JQ f):=
 BU (SZ ha) fun σ H Q z9_=>by obtain ⟨m,ρ,hd,hr,er,p⟩:=z9_;exact (⟨m,ρ,hd,hr,er,Post.bind p fun x h1 v m1 H1 _ p1 k1 hr1 r1 q1=>by
  cases x with
  |bl b=>exact ⟨b,by simpa [rD,DV] using r1,q1 _ m1 H1 (Ay _) (.refl _) hr1 (by simp [rD,DV])⟩
  |_=>exact q1.elim⟩)
def OU (t:MT) (f g:ME):ME:=fun ρ h=>(t ρ h).bind fun b h1=>if b=true then f ρ h1 else g ρ h1
def G4 (op op':D→D→HD→Out D) (f g k:ME):ME:=fun ρ h=>(f ρ h).bind fun x h1=>(g ρ h1).bind fun y h2=>(op x y h2).bind fun z h3=>match z with
 |.bl true=>(k ρ h3).bind fun w h4=>op' y w h4
 |.bl false=>.ok (.bl false) h3
 |_=>.stuck
theorem Va {r r':R2} {op op':D→D→HD→Out D} {o o':Value→Value→Sem Value} (i:∀m H h E x y v u Q,HR X.K m h H→DV X.K m H x v→DV X.K m H y u→Post X.K (rD X.K) m H E Q (op x y h)→r v u H Q)
 (i':∀m H h E x y v u Q,HR X.K m h H→DV X.K m H x v→DV X.K m H y u→Post X.K (rD X.K) m H E Q (op' x y h)→r' v u H Q) {σ:L2.St} {H:Hp} {Q:VK} (h:tD X.K E (G4 op op' f g k) σ H Q):
 On r r' (tD X.K E f) (tD X.K E g) (tD X.K E k) σ H Q:=by
 obtain ⟨m,ρ,hd,hr,er,p⟩:=h
 refine ⟨m,ρ,hd,hr,er,Post.bind p fun x h1 v m1 H1 _ p1 k1 hr1 r1 q1=>?_⟩
 refine ⟨m1,ρ,h1,hr1,er.keep p1 k1,Post.bind q1 fun y h2 u m2 H2 _ p2 k2 hr2 r2 q2=>?_⟩
 refine i m2 H2 h2 E x y v u _ hr2 (DV.keep p2 k2 r1) r2 (Post.bind q2 fun z h3 w m3 H3 _ p3 k3 hr3 r3 q3=>?_)
 cases z with
 |bl b=>
  refine ⟨b,by simpa [rD,DV] using r3,?_⟩
  cases b with
  |false=>exact q3 _ m3 H3 (Ay _) (.refl _) hr3 (by simp [rD,DV])
  |true=>
   refine ⟨m3,ρ,h3,hr3,((er.keep p1 k1).keep p2 k2).keep p3 k3,Post.bind q3 fun z h4 w' m4 H4 _ p4 k4 hr4 r4 q4=>?_⟩
   exact i' m4 H4 h4 E y z u w' Q hr4 (DV.keep p4 k4 (DV.keep p3 k3 r2)) r4 q4
 |_=>exact q3.elim
theorem OV {o o':CmpOp} {op op':D→D→HD→Out D} (ho:BJ X (compareOp o) op) (ho':BJ X (compareOp o') op') (ha:Ev X E a f) (hb:Ev X E b g) (hc:Ev X E c k)
 (hm:lastMarks [o,o'] [b,c]=false:=by with_unfolding_all rfl):Ev X E (.Compare a [o,o'] [b,c] pos) (G4 op op' f g k):=by
 obtain ⟨r,ho,i⟩:=ho
 obtain ⟨r',ho',i'⟩:=ho'
 exact BU (Ua ho ho' ha hb hc hm) fun σ H Q h=>Va (o:=compareOp o) (o':=compareOp o') i i' h
variable {es:List Expr} {fa:MA}
def Ae:MA:=fun _ h=>.ok [] h
def Aa (f:ME) (r:MA):MA:=fun ρ h=>(f ρ h).bind fun x h1=>(r ρ h1).bind fun xs h2=>.ok (x::xs) h2
theorem Ag:Cn X E [] Ae:=OM Uk fun σ H Q z11_=>by obtain ⟨m,ρ,hd,hr,er,p⟩:=z11_;exact (p [] m H (Ay _) (.refl _) hr .nil)
theorem Ad (ha:Ev X E a f) (hr:Cn X E es fa) (hs:starEach (a::es) X.env=(false,eval a X.env)::starEach es X.env:=by rfl):Cn X E (a::es) (Aa f fa):=
 OM (Ul ha hr hs) fun σ H Q z12_=>by obtain ⟨m,ρ,hd,hr,er,p⟩:=z12_;exact (⟨m,ρ,hd,hr,er,Post.bind p fun x h1 v m1 H1 _ p1 k1 hr1 r1 q1=>
  ⟨m1,ρ,h1,hr1,er.keep p1 k1,Post.bind q1 fun xs h2 vs m2 H2 _ p2 k2 hr2 r2 q2=>q2 _ m2 H2 (Ay _) (.refl _) hr2 (DVs.cons (DV.keep p2 k2 r1) r2)⟩⟩)
def Bq (fa:MA):ME:=fun ρ h=>(fa ρ h).bind fun xs h1=>if xs.length≤sizeLine then .ok (.tup xs) h1 else .stuck
def B2 (xs:List D) (h:HD):Out D:=if xs.length≤sizeLine then .ok (.loc h.length) (h++[.lst xs]) else .stuck
def Bw (fa:MA):ME:=fun ρ h=>(fa ρ h).bind B2
theorem G5 {m:List Addr} {H:Hp} {h:HD} {xs:List D} {vs:List V} {Q:VK} (hr:HR X.K m h H) (r:DVs X.K m H xs vs) (q:Post X.K (rD X.K) m H E Q (.ok (.tup xs) h)):∀p,H p=none→Q (.ref p) (Am H p (.tup vs)):=fun p hp=>
 q (.ref p) m _ (Ay _) (.new hp) (hr.new hp) (by simp only [rD,DV];exact ⟨p,vs,rfl,Bx,r.keep (Ay _) (.new hp)⟩)
theorem Ig {m:List Addr} {H:Hp} {h:HD} {xs:List D} {vs:List V} {Q:VK} (hr:HR X.K m h H) (r:DVs X.K m H xs vs) (q:Post X.K (rD X.K) m H E Q (B2 xs h)):vs.length≤sizeLine∧∀p,H p=none→Q (.ref p) (Am H p (.lst vs)):=by
 unfold B2 at q
 by_cases hz:xs.length≤sizeLine
 ·rw [if_pos hz] at q
  refine ⟨by rw [←r.len];exact hz,fun p hp=>?_⟩
  refine q (.ref p) (m++[p]) _ (GM _ _) (.new hp) (hr.newCell hp ⟨vs,Bx,r.keep (GM _ _) (.new hp)⟩) ?_
  simp only [rD,DV]
  exact ⟨p,rfl,by rw [←hr.len];simp⟩
 ·rw [if_neg hz] at q;exact q.elim
theorem B9 {x1:Nat} (h:Cn X E es fa):Ev X E (.Tuple es x1 pos) (Bq fa):=
 BU (Up h) fun σ H Q z13_=>by obtain ⟨m,ρ,hd,hr,er,p⟩:=z13_;exact (⟨m,ρ,hd,hr,er,Post.bind p fun xs h1 vs m1 H1 _ p1 k1 hr1 r1 q1=>by
  by_cases hz:xs.length≤sizeLine
  ·rw [if_pos hz] at q1
   exact ⟨by rw [←DVs.len r1];exact hz,G5 hr1 r1 q1⟩
  ·rw [if_neg hz] at q1;exact q1.elim⟩)
theorem BO (h:Cn X E es fa):Ev X E (.List es pos) (Bw fa):=
 BU (Uq h) fun σ H Q z14_=>by obtain ⟨m,ρ,hd,hr,er,p⟩:=z14_;exact (⟨m,ρ,hd,hr,er,Post.bind p fun xs h1 vs m1 H1 _ p1 k1 hr1 r1 q1=>Ig hr1 r1 q1⟩)
inductive JT (K:PySem.W.Frag) (F:List D→HD→Out D) (vs:List V) (H:Hp) (Q:VK) (E:XK):Prop where
 |mk (m:List Addr) (ds:List D) (h:HD) (hr:HR K m h H) (r:DVs K m H ds vs) (p:Post K (rD K) m H E0 Q (F ds h)):JT K F vs H Q E
def Ar (n:Nat) (F:List D→HD→Out D):Prop:=∀ds h,ds.length≠n→F ds h=.stuck
theorem Ar.len {K:PySem.W.Frag} {n:Nat} {F:List D→HD→Out D} (ar:Ar n F) {vs:List V} {H:Hp} {Q:VK} {E':XK} (h:JT K F vs H Q E'):vs.length=n:=by
 obtain ⟨m,ds,hd,hr,r,p⟩:=h
 rw [←r.len]
 by_cases e:ds.length=n
 ·exact e
 ·rw [ar ds hd e] at p;exact p.elim
def ar0 (F:HD→Out D):List D→HD→Out D:=fun ds h=>match ds with
 |[]=>F h
 |_=>.stuck
def Ao (F:D→HD→Out D):List D→HD→Out D:=fun ds h=>match ds with
 |[a]=>F a h
 |_=>.stuck
def Br (F:D→D→HD→Out D):List D→HD→Out D:=fun ds h=>match ds with
 |[a,b]=>F a b h
 |_=>.stuck
def Vb (F:D→D→D→HD→Out D):List D→HD→Out D:=fun ds h=>match ds with
 |[a,b,c]=>F a b c h
 |_=>.stuck
def Ah (F:List D→HD→Out D) (fa:MA):ME:=fun ρ h=>(fa ρ h).bind F
def Ct (X:Cx) (f:Value) (F:List D→HD→Out D):Prop:=
 ∃r:List V→Hp→VK→Prop,CY X f r∧∀m H h E ds vs Q,HR X.K m h H→DVs X.K m H ds vs→Post X.K (rD X.K) m H E Q (F ds h)→r vs H Q
theorem AN {id:String} {F:List D→HD→Out D} {x:Str} {p pos:Pos} {e:Expr} (hc:Ct X (.builtin id) F) (hg:Gl X x) (hm:X.mg x=none) (hv:bootBuiltins x=some (.builtin id)) (ha:Cn X E (e::es) fa) (hn:x≠"__name__":=by decide) (hdb:(x==("__debug__":Str))=false:=by decide)
 (hs:starEach (e::es) X.env=(false,eval e X.env)::starEach es X.env:=by rfl) (hpl:(backTo pos (starEach es X.env)).any (·.1)=false:=by rfl):Ev X E (.Call (.Name x p) (e::es) [] pos) (Ah F fa):=by
 obtain ⟨r,hc,i⟩:=hc
 exact BU (Ut hc hg hm hv ha hn hdb hs hpl) fun σ H Q z17_=>by obtain ⟨m,ρ,hd,hr,er,p⟩:=z17_;exact (⟨m,ρ,hd,hr,er,Post.bind p fun xs h1 vs m1 H1 e1 p1 k1 hr1 r1 q1=>i m1 H1 h1 E xs vs Q hr1 r1 q1⟩)
theorem EK {id:String} {F:List D→HD→Out D} {x:Str} {p pos:Pos} {e:Expr} (hc:Ct X (.type id) F) (hg:Gl X x) (hm:X.mg x=none) (hv:bootBuiltins x=some (.type id)) (ha:Cn X E (e::es) fa) (hn:x≠"__name__":=by decide) (hdb:(x==("__debug__":Str))=false:=by decide)
 (hs:starEach (e::es) X.env=(false,eval e X.env)::starEach es X.env:=by rfl) (hpl:(backTo pos (starEach es X.env)).any (·.1)=false:=by rfl):Ev X E (.Call (.Name x p) (e::es) [] pos) (Ah F fa):=by
 obtain ⟨r,hc,i⟩:=hc
 exact BU (Uu hc hg hm hv ha hn hdb hs hpl) fun σ H Q z18_=>by obtain ⟨m,ρ,hd,hr,er,p⟩:=z18_;exact (⟨m,ρ,hd,hr,er,Post.bind p fun xs h1 vs m1 H1 e1 p1 k1 hr1 r1 q1=>i m1 H1 h1 E xs vs Q hr1 r1 q1⟩)
end
section
variable {X:Cx} {E:XK}
theorem Ba {K:PySem.W.Frag} {m:List Addr} {H:Hp} {h:HD} {d:D} {v:V} {Q:VK} (hr:HR K m h H) (q:Post K (rD K) m H E Q (.ok d h)) (r:DV K m H d v):Q v H:=q v m H (Ay _) (.refl _) hr r
theorem op_catT0:OpR X (binaryOp .Add) (fun x y H Q=>∃a b ys,x=.ref a∧y=.ref b∧SqT X.K H a []∧SqT X.K H b ys∧Q (.ref b) H):=by
 intro pins s σ H x y v u Q I rx ry h
 obtain ⟨a,b,ys,rfl,rfl,ha,hb,q⟩:=h
 cases rx
 cases ry
 obtain ⟨its,r1,p1,_⟩:=I.tuple ha
 obtain ⟨its2,r2,p2,_⟩:=I.tuple hb
 cases r1
 obtain ⟨⟨cls,dd,data,sl⟩,ho,hc,n,hd⟩:=id p1
 obtain ⟨⟨cls2,dd2,data2,sl2⟩,ho2,hc2,n2,hd2⟩:=id p2
 simp only at hc hd hc2 hd2
 subst hc hd hc2 hd2
 exact concat_meets ⟨_,ho,rfl⟩ ⟨_,ho2,rfl⟩ noFill_tuple_add seq_tuple_add PySem.F.slot_tuple_add PySem.F.entry_tuple_add (PySem.F.args_tuple_add_2 _ _)
  (tuple_addW0 a b _ its2.toArray n n2 dd dd2 sl sl2 (by simp)) ⟨ho,ho2,⟨.ref b,H,I,rfl,q⟩⟩
def Aq:D→D→HD→Out D
 |.int i,.int j,h=>.ok (.int (i+j)) h
 |.str x,.str y,h=>if x.length+y.length≤sizeLine then .ok (.str (x++y)) h else .stuck
 |.tup xs,.tup ys,h=>if xs.length+ys.length≤sizeLine then .ok (.tup (xs++ys)) h else .stuck
 |.loc l,.loc k,h=>match h[l]?,h[k]? with
  |some (.lst xs),some (.lst ys)=>B2 (xs++ys) h
  |_,_=>.stuck
 |_,_,_=>.stuck
theorem AR:BJ X (binaryOp .Add) Aq:=by
 refine ⟨_,op_add.or (op_catT0.or (op_catT.or (op_cat.or Ud))),fun m H h E x y v u Q hr rx ry q=>?_⟩
 unfold Aq at q
 split at q
 ·simp only [DV] at rx ry
  subst rx ry
  exact .inl ⟨_,_,rfl,rfl,Ba hr q (by simp [DV])⟩
 ·simp only [DV] at rx ry
  subst rx ry
  split at q
  ·rename_i hz
   exact .inr (.inr (.inr (.inr ⟨_,_,rfl,rfl,hz,Ba hr q (by simp [DV])⟩)))
  ·exact q.elim
 ·rename_i xs ys
  simp only [DV] at rx ry
  obtain ⟨a,vs,rfl,ha,dx⟩:=rx
  obtain ⟨b,ws,rfl,hb,dy⟩:=ry
  split at q
  ·rename_i hz
   cases xs with
   |nil=>
    simp only [DVs] at dx
    subst dx
    exact .inr (.inl ⟨a,b,ws,rfl,rfl,SqT.of ha,SqT.of hb,Ba hr q (by simp only [DV];exact ⟨b,ws,rfl,hb,dy⟩)⟩)
   |cons x xs=>
    refine .inr (.inr (.inl ⟨a,b,vs,ws,rfl,rfl,SqT.of ha,SqT.of hb,?_,by rw [←dx.len,←dy.len];exact hz,fun e=>?_,fun e=>?_⟩))
    ·intro e;have:=dx.len;rw [e] at this;simp at this
    ·subst e
     have:ys=[]:=by have:=dy.len;simpa using this
     subst this
     exact Ba hr q (by simp only [DV];exact ⟨a,vs,rfl,ha,by simpa using dx⟩)
    ·exact G5 hr (dx.app dy) q
  ·exact q.elim
 ·simp only [DV] at rx ry
  obtain ⟨a,rfl,ha⟩:=rx
  obtain ⟨b,rfl,hb⟩:=ry
  split at q
  ·rename_i xs ys e1 e2
   obtain ⟨vs,h1,d1⟩:=hr.cells _ _ a e1 ha
   obtain ⟨ws,h2,d2⟩:=hr.cells _ _ b e2 hb
   obtain ⟨z,q'⟩:=Ig hr (d1.app d2) q
   exact .inr (.inr (.inr (.inl ⟨a,b,vs,ws,rfl,rfl,h1,h2,by simpa using z,q'⟩)))
  ·exact q.elim
 ·exact q.elim
def intD (f:Int→Int→D) (c:Int→Int→Prop) [∀i j,Decidable (c i j)]:D→D→HD→Out D
 |.int i,.int j,h=>if c i j then .ok (f i j) h else .stuck
 |_,_,_=>.stuck
theorem JU {o:Value→Value→Sem Value} {f:Int→Int→V} {g:Int→Int→D} {c c':Int→Int→Prop} [∀i j,Decidable (c' i j)] (h:OpR X o (rI c f)) (hc:∀i j,c' i j→c i j) (hg:∀m H i j,DV X.K m H (g i j) (f i j)):BJ X o (intD g c'):=by
 refine ⟨_,h,fun m H h E x y v u Q hr rx ry q=>?_⟩
 unfold intD at q
 split at q
 ·simp only [DV] at rx ry
  subst rx ry
  split at q
  ·rename_i hc'
   exact ⟨_,_,rfl,rfl,hc _ _ hc',Ba hr q (hg _ _ _ _)⟩
  ·exact q.elim
 ·exact q.elim
def Fh (f:Int→Int→D):D→D→HD→Out D
 |.int i,.int j,h=>.ok (f i j) h
 |_,_,_=>.stuck
theorem Ih {o:Value→Value→Sem Value} {f:Int→Int→V} {g:Int→Int→D} (h:OpR X o (EG f)) (hg:∀m H i j,DV X.K m H (g i j) (f i j)):BJ X o (Fh g):=by
 refine ⟨_,h,fun m H h E x y v u Q hr rx ry q=>?_⟩
 unfold Fh at q
 split at q
 ·simp only [DV] at rx ry
  subst rx ry
  exact ⟨_,_,rfl,rfl,Ba hr q (hg _ _ _ _)⟩
 ·exact q.elim
abbrev DZ:=Fh fun i j=>.int (i - j)
theorem G6:BJ X (binaryOp .Sub) DZ:=Ih TN fun _ _ _ _=>by simp [DV]
abbrev LY:=Fh fun i j=>.bl (decide (i<j))
abbrev Ii:=Fh fun i j=>.bl (decide (i≤j))
abbrev OW:=Fh fun i j=>.bl (decide (j<i))
theorem OX:BJ X (compareOp .Lt) LY:=Ih T3 fun _ _ _ _=>by simp [DV]
theorem JV:BJ X (compareOp .LtE) Ii:=Ih T4 fun _ _ _ _=>by simp [DV]
theorem Vc:BJ X (compareOp .Gt) OW:=Ih T6 fun _ _ _ _=>by simp [DV]
instance (i j:Int):Decidable (CMul i j):=by unfold CMul;infer_instance
instance (i j:Int):Decidable (Oh i j):=by unfold Oh;infer_instance
instance (i j:Int):Decidable (FM i j):=by unfold FM;infer_instance
abbrev Fi:=intD (fun i j=>.int (i % j)) fun _ j=>0<j
theorem Ij:BJ X (binaryOp .Mod) Fi:=JU TQ (fun _ _ h=>h) fun _ _ _ _=>by simp [DV]
abbrev JW:=intD (fun i j=>.int (i^j.toNat)) FM
theorem Vd:BJ X (binaryOp .Pow) JW:=JU TR (fun _ _ h=>h) fun _ _ _ _=>by simp [DV]
abbrev D0:=intD (fun i j=>.int (i*2^j.toNat)) FM
theorem JX:BJ X (binaryOp .LShift) D0:=JU TU (fun _ _ h=>h) fun _ _ _ _=>by simp [DV]
def Za4:D→D→HD→Out D
 |.int i,.int j,h=>if CMul i j then .ok (.int (i*j)) h else .stuck
 |.loc l,.int k,h=>match h[l]? with
  |some (.lst xs)=>if -(2^63)≤k∧k<2^63 then B2 (List.replicate k.toNat xs).flatten h else .stuck
  |_=>.stuck
 |_,_,_=>.stuck
def OY:D→Bool
 |.non=>true
 |_=>false
def Ve:D→D→HD→Out D
 |.bl b,.bl c,h=>.ok (.bl (b==c)) h
 |x,.non,h=>.ok (.bl (OY x)) h
 |_,_,_=>.stuck
def Vf:D→D→HD→Out D
 |.bl b,.bl c,h=>.ok (.bl (!(b==c))) h
 |x,.non,h=>.ok (.bl (!OY x)) h
 |_,_,_=>.stuck
end
def AS {α:Type}:List (Option α)→Option (List α)
 |[]=>some []
 |none::_=>none
 |some a::r=>(AS r).map (a::·)
def Bn (h:HD):Nat→D→Option PyData
 |_,.non=>some .none
 |_,.bl b=>some (.bool b)
 |_,.int i=>some (.int i)
 |_,.str x=>some (.str x)
 |n+1,.tup ds=>(AS (ds.map (Bn h n))).map .tuple
 |n+1,.loc l=>match h[l]? with
  |some (.lst ds)=>(AS (ds.map (Bn h n))).map .list
  |_=>none
 |_,_=>none
section
variable {X:Cx} {E:XK} {pins:List (Addr×Obj)} {σ:L2.St} {H:Hp} {s:Shared} {m:List Addr} {h:HD}
theorem LZ {n:Nat} (ih:∀(d:D) (v:V) (u:Value) (p:PyData),DV X.K m H d v→RelV v u→Bn h n d=some p→∃as,Reads s.heap u p as):
 ∀(ds:List D) (vs:List V) (us:List Value) (ps:List PyData),DVs X.K m H ds vs→Vals vs us→AS (ds.map (Bn h n))=some ps→∃as,ReadsAll s.heap us ps as
 |[],vs,us,ps,r,q,e=>by
  simp only [DVs] at r
  subst r
  cases q
  simp [AS] at e
  subst e
  exact ⟨[],.nil⟩
 |d::ds,vs,us,ps,r,q,e=>by
  simp only [DVs] at r
  obtain ⟨v,w,rfl,rv,rw'⟩:=r
  cases q with
  |cons q1 q2=>
   rw [Bf] at e
   cases ed:Bn h n d with
   |none=>rw [ed] at e;simp [AS] at e
   |some p=>
    rw [ed] at e
    simp only [AS,qaY] at e
    obtain ⟨ps',e1,rfl⟩:=e
    obtain ⟨as,h1⟩:=ih d v _ p rv q1 ed
    obtain ⟨bs,h2⟩:=LZ ih ds w _ ps' rw' q2 e1
    exact ⟨as++bs,.cons h1 h2⟩
theorem L4 (hok:HOk X.prog X.w H s.heap) (hr:HR X.K m h H):∀(n:Nat) (d:D) (v:V) (u:Value) (p:PyData),DV X.K m H d v→RelV v u→Bn h n d=some p→∃as,Reads s.heap u p as:=by
 intro n
 induction n with
 |zero=>
  intro d v u p r q e
  cases d<;>simp only [Bn,DV,Option.some.injEq] at e r<;>try (cases e;done)
  ·subst e r;cases q;exact ⟨[],.none⟩
  ·subst e r;cases q;exact ⟨[],.bool _⟩
  ·subst e r;obtain ⟨t,rfl⟩:=q;exact ⟨[],.int _ _⟩
  ·subst e r;obtain ⟨t,rfl⟩:=q;exact ⟨[],.str _ _⟩
 |succ n ih=>
  intro d v u p r q e
  cases d with
  |non=>simp only [Bn,DV,Option.some.injEq] at e r;subst e r;cases q;exact ⟨[],.none⟩
  |bl b=>simp only [Bn,DV,Option.some.injEq] at e r;subst e r;cases q;exact ⟨[],.bool _⟩
  |int i=>simp only [Bn,DV,Option.some.injEq] at e r;subst e r;obtain ⟨t,rfl⟩:=q;exact ⟨[],.int _ _⟩
  |str x=>simp only [Bn,DV,Option.some.injEq] at e r;subst e r;obtain ⟨t,rfl⟩:=q;exact ⟨[],.str _ _⟩
  |tup ds=>
   simp only [Bn,DV,qaY] at e r
   obtain ⟨a,vs,rfl,ha,dv⟩:=r
   obtain ⟨ps,e1,rfl⟩:=e
   cases q
   obtain ⟨_,its,rv,⟨o,ho,hc,k,hd⟩,_⟩:=hok a _ ha
   obtain ⟨as,h1⟩:=LZ ih ds vs its ps dv rv e1
   exact ⟨as,.tuple ho hc hd (by simpa using h1)⟩
  |loc l=>
   simp only [DV] at r
   obtain ⟨a,rfl,ha⟩:=r
   cases q
   simp only [Bn] at e
   split at e
   ·rename_i ds el
    simp only [qaY] at e
    obtain ⟨ps,e1,rfl⟩:=e
    obtain ⟨vs,hv,dv⟩:=hr.cells l _ a el ha
    obtain ⟨_,its,k,rv,ho⟩:=hok a _ hv
    obtain ⟨as,h1⟩:=LZ ih ds vs its ps dv rv e1
    exact ⟨_,.list ho rfl rfl (by simpa using h1)⟩
   ·cases e
  |scr ns=>simp [Bn] at e
  |adr a=>simp [Bn] at e
  |ty a=>simp [Bn] at e
  |exc n fs=>simp [Bn] at e
  |edic=>simp [Bn] at e
  |glo n=>simp [Bn] at e
  |clo a vs ds=>simp [Bn] at e
def G7 (f:PyData→PyData→Bool):D→D→HD→Out D:=fun x y h=>match Bn h 8 x,Bn h 8 y with
 |some p,some q=>if SeqAt.shaped p=true∧SeqAt.shaped q=true then .ok (.bl (f p q)) h else .stuck
 |_,_=>.stuck
abbrev Ik:=G7 PyData.eqv
abbrev Fj:=G7 fun p q=>!PyData.eqv p q
theorem OZ {o:CmpOp} {f:PyData→PyData→Bool}
 (rule:∀{s:Shared} {a b:Value} {p q:PyData} {as bs:List Addr} {Q:Value→Shared→Prop},Reads s.heap a p as→Reads s.heap b q bs→SeqAt.shaped p=true→SeqAt.shaped q=true→Q (.bool (f p q)) s→wpAny (model X.prog X.w) X.A (compareOp o a b) Q X.xe s):
 BJ X (compareOp o) (G7 f):=by
 refine ⟨fun v u H Q=>∃m h x y,HR X.K m h H∧DV X.K m H x v∧DV X.K m H y u∧Post X.K (rD X.K) m H E0 Q (G7 f x y h),?_,fun m H h E x y v u Q hr rx ry q=>⟨m,h,x,y,hr,rx,ry,?_⟩⟩
 ·intro pins s σ H x y v u Q I rx ry hq
  obtain ⟨m,h,dx,dy,hr,r1,r2,q⟩:=hq
  unfold G7 at q
  split at q
  ·rename_i p p' e1 e2
   split at q
   ·rename_i hs
    obtain ⟨as,h1⟩:=L4 I.hok hr 8 dx x v p r1 rx e1
    obtain ⟨bs,h2⟩:=L4 I.hok hr 8 dy y u p' r2 ry e2
    exact rule h1 h2 hs.1 hs.2 ⟨.bl _,H,I,rfl,Ba hr q (by simp [DV])⟩
   ·exact q.elim
  ·exact q.elim
 ·unfold G7 at q ⊢
  split
  ·split
   ·rename_i e1 e2 hs
    rw [e1,e2] at q
    simp only [hs] at q
    exact q
   ·rename_i e1 e2 hs
    rw [e1,e2] at q
    simp only [hs] at q
    exact q.elim
  ·rename_i hn
   split at q
   ·rename_i e1 e2
    exact (hn _ _ e1 e2).elim
   ·exact q.elim
theorem Vg (hu:X.A.units+64<cLine):BJ X (compareOp .Eq) Ik:=OZ fun ra rb ha hb h=>eq_dataH ra rb ha hb hu h
theorem Vh (hu:X.A.units+64<cLine):BJ X (compareOp .NotEq) Fj:=OZ fun ra rb ha hb h=>ne_dataH ra rb ha hb hu h
def CM:D→Option V
 |.non=>some .non
 |.bl b=>some (.bl b)
 |.int i=>some (.int i)
 |.str x=>some (.str x)
 |_=>none
theorem L5 {d:D} {v w:V} (r:DV X.K m H d v) (e:CM d=some w):v=w∧Dy v=true:=by
 cases d<;>simp only [CM,Option.some.injEq,DV] at e r<;>first |(subst e r;exact ⟨rfl,rfl⟩) |cases e
theorem L6:∀{ds:List D} {vs ws:List V},DVs X.K m H ds vs→AS (ds.map CM)=some ws→vs=ws∧vs.all Dy=true
 |[],vs,ws,r,e=>by
  simp only [DVs] at r
  simp [AS] at e
  subst r e
  exact ⟨rfl,rfl⟩
 |d::ds,vs,ws,r,e=>by
  simp only [DVs] at r
  obtain ⟨v,w,rfl,rv,rw'⟩:=r
  rw [Bf] at e
  cases ed:CM d with
  |none=>rw [ed] at e;simp [AS] at e
  |some p=>
   rw [ed] at e
   simp only [AS,qaY] at e
   obtain ⟨ps',e1,rfl⟩:=e
   obtain ⟨h1,h2⟩:=L5 rv ed
   obtain ⟨h3,h4⟩:=L6 rw' e1
   subst h1 h3
   exact ⟨rfl,by simp [h2,h4]⟩
def By:D→HD→Option (List D)
 |.tup ds,_=>some ds
 |.loc l,h=>match h[l]? with
  |some (.lst ds)=>some ds
  |_=>none
 |.scr ns,_=>some (ns.map .int)
 |_,_=>none
theorem O0 {ns:List Int}:DVs X.K m H (ns.map .int) (ns.map V.int):=by
 induction ns with
 |nil=>exact .nil
 |cons n ns ih=>exact .cons (by simp [DV]) ih
theorem JY {d:D} {v:V} {ds:List D} (hr:HR X.K m h H) (r:DV X.K m H d v) (e:By d h=some ds):∃p vs,v=.ref p∧(SqL X.K H p vs∨SqT X.K H p vs)∧DVs X.K m H ds vs:=by
 cases d with
 |tup xs=>
  simp only [DV,By,Option.some.injEq] at r e
  subst e
  obtain ⟨a,vs,rfl,ha,dv⟩:=r
  exact ⟨a,vs,rfl,.inr (SqT.of ha),dv⟩
 |loc l=>
  simp only [DV] at r
  obtain ⟨a,rfl,ha⟩:=r
  simp only [By] at e
  split at e
  ·rename_i xs el
   cases e
   obtain ⟨vs,hv,dv⟩:=hr.cells l _ a el ha
   exact ⟨a,vs,rfl,.inl (SqL.of hv),dv⟩
  ·cases e
 |scr ns=>
  simp only [DV,By,Option.some.injEq] at r e
  subst e
  obtain ⟨a,rfl,ha⟩:=r
  exact ⟨a,_,rfl,.inl ha.sq,O0⟩
 |_=>simp [By] at e
def inD (neg:Bool):D→D→HD→Out D:=fun x y h=>match By y h with
 |none=>.stuck
 |some ds=>match CM x,AS (ds.map CM) with
  |some v,some vs=>.ok (.bl (if neg then !JH v vs else JH v vs)) h
  |_,_=>.stuck
def AG:D→D→HD→Out D:=fun x y h=>match By x h,y with
 |some ds,.int i=>match CK ds i with
  |some d=>.ok d h
  |none=>.stuck
 |_,_=>.stuck
theorem Vi {ds:List D} {vs:List V} {i:Int} {d:D} (r:DVs X.K m H ds vs) (e:CK ds i=some d):∃v,CK vs i=some v∧DV X.K m H d v:=by
 unfold CK at e ⊢
 rw [r.len] at e
 cases k:Dp vs.length i with
 |none=>rw [k] at e;cases e
 |some j=>
  rw [k] at e
  exact r.get e
theorem BN {a b:Expr} {pos:Pos} {f g:ME} (ha:Ev X E a f) (hb:Ev X E b g) (hs:OE b):Ev X E (.Subscript a b pos) (Af AG f g):=
 BU (UJ (ix_list.or ix_tup) ha hb hs) fun σ H Q hq=>JM hq fun m H2 h2 x y v u hr rx ry q=>by
  unfold AG at q
  split at q
  ·rename_i ds i e
   split at q
   ·rename_i d ed
    simp only [DV] at ry
    subst ry
    obtain ⟨p,vs,rfl,hsq,dv⟩:=JY hr rx e
    obtain ⟨w,e1,r1⟩:=Vi dv ed
    rcases hsq with hsq |hsq
    ·exact .inl ⟨p,vs,i,w,rfl,rfl,hsq,e1,Ba hr q r1⟩
    ·exact .inr ⟨p,vs,i,w,rfl,rfl,hsq,e1,Ba hr q r1⟩
   ·exact q.elim
  ·exact q.elim
def A2:D→HD→Out D:=fun x h=>match By x h with
 |some ds=>.ok (.int ds.length) h
 |none=>.stuck
theorem Fm {F:D→HD→Out D} {ds:List D} {vs:List V} {Q:VK} {C:Prop} (r:DVs X.K m H ds vs) (q:Post X.K (rD X.K) m H E Q (Ao F ds h)) (k:∀d v,vs=[v]→DV X.K m H d v→Post X.K (rD X.K) m H E Q (F d h)→C):C:=by
 unfold Ao at q
 split at q
 ·simp only [DVs] at r
  obtain ⟨v,w,rfl,rv,rfl⟩:=r
  exact k _ v rfl rv q
 ·exact q.elim
theorem JZ {F:D→D→HD→Out D} {ds:List D} {vs:List V} {Q:VK} {C:Prop} (r:DVs X.K m H ds vs) (q:Post X.K (rD X.K) m H E Q (Br F ds h)) (k:∀d d' v v',vs=[v,v']→DV X.K m H d v→DV X.K m H d' v'→Post X.K (rD X.K) m H E Q (F d d' h)→C):C:=by
 unfold Br at q
 split at q
 ·simp only [DVs] at r
  obtain ⟨v,w,rfl,rv,v',w',rfl,rv',rfl⟩:=r
  exact k _ _ v v' rfl rv rv' q
 ·exact q.elim
theorem Ca:Ct X (.builtin "len") (Ao A2):=by
 refine ⟨_,UP,fun m H h E ds vs Q hr r q=>Fm r q fun d v ev rv q=>?_⟩
 unfold A2 at q
 split at q
 ·rename_i xs e
  obtain ⟨p,ws,rfl,hs,dv⟩:=JY hr rv e
  exact ⟨p,ws,ev,hs,by rw [←dv.len];exact Ba hr q (by simp [DV])⟩
 ·exact q.elim
def CDv (i j:Int):Prop:=0<j∧j<18446744073709551616
instance (i j:Int):Decidable (CDv i j):=by unfold CDv;infer_instance
theorem CDv.no {i j:Int} (h:CDv i j):Builtin.divisionGoesByPylong i j=false:=by
 refine PyProof.noPylong_of_log2 ?_
 have h0:j.natAbs≠0:=by have:=h.1;omega
 have h1:j.natAbs<2^64:=by have:=h.2;have:=h.1;omega
 exact Nat.lt_trans ((Nat.log2_lt h0).mpr h1) (by decide)
theorem Vj:CY X (.builtin "divmod") (fun xs H Q=>∃i j,xs=[.int i,.int j]∧CDv i j∧∀p,H p=none→Q (.ref p) (Am H p (.tup [.int (i / j),.int (i % j)]))):=by
 intro pins s σ H xs us Q I r h
 obtain ⟨i,j,rfl,hc,q⟩:=h
 obtain ⟨u,w',rfl,⟨t,rfl⟩,⟨t',rfl⟩⟩:=Ib r
 have h1:=hc.1
 refine divmod_int (by omega) ?_ (.inl hc.no)
 rw [Int.fdiv_eq_ediv_of_nonneg i (by omega),Int.fmod_eq_emod_of_nonneg i (by omega)]
 have hn:H s.heap.objs.size=none:=I.hok.fresh (AD _)
 refine ⟨.ref s.heap.objs.size,_,?_,rfl,q _ hn⟩
 refine I.laid (fun b o e=>AE _ e) (AD _) ⟨by simp only [E7,GQ];rw [sizeLine_eq];decide,[.int (i / j) s.toks,.int (i % j) (s.toks+1)],.cons ⟨_,rfl⟩ (.cons ⟨_,rfl⟩ .nil),?_,NoDict.new⟩
 exact ⟨_,Bj s.heap rfl,rfl,0,rfl⟩
def Il:D→D→HD→Out D
 |.int i,.int j,h=>if CDv i j then .ok (.tup [.int (i / j),.int (i % j)]) h else .stuck
 |_,_,_=>.stuck
theorem Vk:Ct X (.builtin "divmod") (Br Il):=by
 refine ⟨_,Vj,fun m H h E ds vs Q hr r q=>JZ r q fun d d' v v' ev rv rv' q=>?_⟩
 unfold Il at q
 split at q
 ·split at q
  ·rename_i i j hc
   simp only [DV] at rv rv'
   subst rv rv'
   exact ⟨i,j,ev,hc,G5 hr (.cons (by simp [DV]) (.cons (by simp [DV]) .nil)) q⟩
  ·exact q.elim
 ·exact q.elim
theorem Vl:OpR X (binaryOp .FloorDiv) (rI CDv fun i j=>.int (i / j)):=Ia fun i j _ _ _ _ _ hc q=>by
 have h1:=hc.1
 exact floordiv_int (by omega) (by rw [Int.fdiv_eq_ediv_of_nonneg i (by omega)];exact q) (.inl hc.no)
abbrev Im:=intD (fun i j=>.int (i / j)) CDv
theorem O1:BJ X (binaryOp .FloorDiv) Im:=JU Vl (fun _ _ h=>h) fun _ _ _ _=>by simp [DV]
def Io:D→D→HD→Out D
 |.int i,.int j,h=>.ok (.int (if j>i then j else i)) h
 |_,_,_=>.stuck
def G8:D→D→HD→Out D
 |.int i,.int j,h=>.ok (.int (if j<i then j else i)) h
 |_,_,_=>.stuck
theorem Vm (hc:X.calm=true):Ct X (.builtin "max") (Br Io):=by
 refine ⟨_,Ue hc,fun m H h E ds vs Q hr r q=>JZ r q fun d d' v v' ev rv rv' q=>?_⟩
 unfold Io at q
 split at q
 ·simp only [DV] at rv rv'
  subst rv rv'
  exact ⟨_,_,ev,Ba hr q (by simp [DV])⟩
 ·exact q.elim
theorem O2 (hc:X.calm=true):Ct X (.builtin "min") (Br G8):=by
 refine ⟨_,Ug hc,fun m H h E ds vs Q hr r q=>JZ r q fun d d' v v' ev rv rv' q=>?_⟩
 unfold G8 at q
 split at q
 ·simp only [DV] at rv rv'
  subst rv rv'
  exact ⟨_,_,ev,Ba hr q (by simp [DV])⟩
 ·exact q.elim
def Ip:D→HD→Out D
 |.int i,h=>.ok (.int i) h
 |.bl b,h=>.ok (.int (if b then 1 else 0)) h
 |_,_=>.stuck
theorem Vn:Ct X (.type "int") (Ao Ip):=by
 refine ⟨_,Uh,fun m H h E ds vs Q hr r q=>Fm r q fun d v ev rv q=>?_⟩
 unfold Ip at q
 split at q
 ·simp only [DV] at rv;subst rv
  exact .inl ⟨_,ev,Ba hr q (by simp [DV])⟩
 ·simp only [DV] at rv;subst rv
  exact .inr ⟨_,ev,Ba hr q (by simp [DV])⟩
 ·exact q.elim
def BZ:D→HD→Out D:=fun x h=>match x with
 |.tup ds=>.ok (.tup ds) h
 |.loc l=>match h[l]? with
  |some (.lst ds)=>.ok (.tup ds) h
  |_=>.stuck
 |_=>.stuck
theorem G9:Ct X (.type "tuple") (Ao BZ):=by
 refine ⟨_,UR,fun m H h E ds vs Q hr r q=>Fm r q fun d v ev rv q=>?_⟩
 unfold BZ at q
 split at q
 ·simp only [DV] at rv
  obtain ⟨a,ws,rfl,ha,dv⟩:=rv
  exact ⟨a,ws,ev,.inr ⟨SqT.of ha,Ba hr q (by simp only [DV];exact ⟨a,ws,rfl,ha,dv⟩)⟩⟩
 ·split at q
  ·rename_i ds' el
   simp only [DV] at rv
   obtain ⟨a,rfl,ha⟩:=rv
   obtain ⟨ws,hv,dv⟩:=hr.cells _ _ a el ha
   exact ⟨a,ws,ev,.inl ⟨SqL.of hv,G5 hr dv q⟩⟩
  ·exact q.elim
 ·exact q.elim
end
theorem PostS.bind {α β:Type} {K:PySem.W.Frag} {m:List Addr} {H:Hp} {R:List Addr→Hp→α→β→Prop} {E:XK} {Q':β→Hp→Prop} {Dn:Dl} {o:Out α} {k:α→HD→Out (Fl×Ai)}
 (h:PostS K m H E Dn (o.bind k)) (f:∀a h1 v m1 H1,o=.ok a h1→m <+:m1→Kp H H1→HR K m1 h1 H1→R m1 H1 a v→PostS K m1 H1 E Dn (k a h1)→Q' v H1):Post K R m H E Q' o:=by
 cases o with
 |ok a h1=>exact fun v m1 H1 p kk hr r=>f a h1 v m1 H1 rfl p kk hr r (h.ahead p kk)
 |err C fs h1=>exact h
 |stuck=>exact h
theorem PostS.here {K:PySem.W.Frag} {m:List Addr} {H:Hp} {E:XK} {Dn:Dl} {a:Fl×Ai} {h:HD} (hr:HR K m h H) (p:PostS K m H E Dn (.ok a h)):OL K m H Dn a:=p m H (Ay _) (.refl _) hr
section
variable {X:Cx} {E:XK} {st:Stmt} {sts b1 b2:List Stmt} {g g1 g2:MS} {e:Expr} {f:ME} {pos:Pos} {t:MT}
def Cu:MS:=fun ρ h=>.ok (.nx,ρ) h
def Aj (g1 g2:MS):MS:=fun ρ h=>(g1 ρ h).bind fun x h1=>match x with
 |(.nx,ρ1)=>g2 ρ1 h1
 |y=>.ok y h1
theorem D3:AY X E [] Cu:=LV S6 fun Dn σ H z1_=>by obtain ⟨m,ρ,h,hr,er,p⟩:=z1_;exact ((p.here hr) σ er)
theorem AF (h:Ex X E st g):AY X E [st] g:=S8 h
theorem As (h1:Ex X E st g1) (h2:AY X E sts g2):AY X E (st::sts) (Aj g1 g2):=
 LV (S7 h1 h2) fun Dn σ H z2_=>by
  obtain ⟨m,ρ,h,hr,er,p⟩:=z2_
  refine ⟨m,ρ,h,hr,er,?_⟩
  unfold Aj at p
  cases o:g1 ρ h with
  |stuck=>rw [o] at p;exact p
  |err C fs h1=>rw [o] at p;exact p
  |ok x h1=>
   rw [o] at p
   obtain ⟨fl,ρ1⟩:=x
   intro m1 H1 p1 k1 hr1
   cases fl with
   |nx=>exact fun σ1 er1=>⟨m1,ρ1,h1,hr1,er1,PostS.ahead p1 k1 p⟩
   |bk=>exact p m1 H1 p1 k1 hr1
   |ct=>exact p m1 H1 p1 k1 hr1
   |rt d=>exact p m1 H1 p1 k1 hr1
def CN (f:ME):MS:=fun ρ h=>(f ρ h).bind fun _ h1=>.ok (.nx,ρ) h1
theorem FR (he:Ev X E e f) (hs:swapsWith e none pos.line X.env=pure false:=by rfl):Ex X E (.Expr e pos) (CN f):=
 DW (Ta he hs) fun Dn σ H z3_=>by obtain ⟨m,ρ,h,hr,er,p⟩:=z3_;exact (⟨m,ρ,h,hr,er,PostS.bind p fun x h1 v m1 H1 _ p1 k1 hr1 r1 q1=>(q1.here hr1) σ (er.keep p1 k1)⟩)
def AO (f:ME):MS:=fun ρ h=>(f ρ h).bind fun d h1=>.ok (.rt d,ρ) h1
theorem A8 (he:Ev X E e f):Ex X E (.Return (some e) pos) (AO f):=
 DW (Tc he) fun Dn σ H z4_=>by obtain ⟨m,ρ,h,hr,er,p⟩:=z4_;exact (⟨m,ρ,h,hr,er,PostS.bind p fun x h1 v m1 H1 _ p1 k1 hr1 r1 q1=>(q1.here hr1) v r1⟩)
def Cb (t:MT) (g1 g2:MS):MS:=fun ρ h=>(t ρ h).bind fun b h1=>if b=true then g1 ρ h1 else g2 ρ h1
theorem D7 {c:Expr} (hc:Ff X E c t) (ha:AY X E b1 g1) (hb:AY X E b2 g2):Ex X E (.If c b1 b2 pos) (Cb t g1 g2):=
 DW (Te hc ha hb) fun Dn σ H z5_=>by obtain ⟨m,ρ,h,hr,er,p⟩:=z5_;exact (⟨m,ρ,h,hr,er,PostS.bind p fun x h1 v m1 H1 _ p1 k1 hr1 r1 q1=>by
  cases r1
  cases x with
  |true=>exact ⟨m1,ρ,h1,hr1,er.keep p1 k1,q1⟩
  |false=>exact ⟨m1,ρ,h1,hr1,er.keep p1 k1,q1⟩⟩)
def O3:MS:=fun _ _=>.stuck
theorem Vo:AY X E sts O3:=LV Tg fun Dn σ H z7_=>by obtain ⟨m,ρ,h,hr,er,p⟩:=z7_;exact (p)
def Au (i:Nat) (f:ME):MS:=fun ρ h=>(f ρ h).bind fun d h1=>.ok (.nx,ρ.set i (some d)) h1
theorem AU {i:Nat} {x:Str} {pos':Pos} (hN:X.N.Nodup) (hi:X.N[i]?=some x) (hx:GV X.env.scope x) (he:Ev X E e f) (hs:swapsWith e (some (.Name x pos')) pos.line X.env=pure false:=by rfl) (hf:X.fn x=true∨X.env.scope.names.lookup x=some .local:=by first |exact .inl rfl |exact .inr rfl |assumption):
 Ex X E (.Assign [.Name x pos'] e pos) (Au i f):=
 DW (Ti hN hi hx he hs hf) fun Dn σ H z9_=>by obtain ⟨m,ρ,h,hr,er,p⟩:=z9_;exact (⟨m,ρ,h,hr,er,PostS.bind p fun x h1 v m1 H1 _ p1 k1 hr1 r1 q1=>(q1.here hr1) _ ((er.keep p1 k1).set r1)⟩)
def Fo (i j:Nat) (fa:MA):MS:=fun ρ h=>(fa ρ h).bind fun ds h1=>match ds with
 |[x,y]=>.ok (.nx,(ρ.set i (some x)).set j (some y)) h1
 |_=>.stuck
theorem L7 {i j:Nat} {x y:Str} {a b:Expr} {fa:MA} {px py pt:Pos} {kt k2:Nat} {pt2:Pos} (hc:X.calm=true) (hN:X.N.Nodup) (hi:X.N[i]?=some x) (hj:X.N[j]?=some y) (hij:i≠j)
 (hx:X.env.scope.names.lookup x=some .local) (hy:X.env.scope.names.lookup y=some .local) (ha:Cn X E [a,b] fa)
 (hw:swappedStores [.Tuple [.Name x px,.Name y py] kt pt] (.Tuple [a,b] k2 pt2) X.env=pure (some [x,y]))
 (hs:swapsWithSole [.Tuple [.Name x px,.Name y py] kt pt] (.Tuple [a,b] k2 pt2) pos.line X.env=pure false:=by rfl):
 Ex X E (.Assign [.Tuple [.Name x px,.Name y py] kt pt] (.Tuple [a,b] k2 pt2) pos) (Fo i j fa):=
 DW (Tn hc hN hi hj hij hx hy ha hw hs) fun Dn σ H z10_=>by obtain ⟨m,ρ,h,hr,er,p⟩:=z10_;exact (⟨m,ρ,h,hr,er,PostS.bind p fun x h1 v m1 H1 _ p1 k1 hr1 r1 q1=>by
  split at q1
  ·simp only [Dz,DVs] at r1
   obtain ⟨v,w,rfl,rv,v',w',rfl,rv',rfl⟩:=r1
   exact ⟨v,v',rfl,(q1.here hr1) _ (((er.keep p1 k1).set rv).set rv')⟩
  ·exact q1.elim⟩)
abbrev MG:=D→Ai→Option Ai
def Iq (X:Cx) (tg:Expr) (sg:MG):Prop:=
 ∃gg:TG,PG X tg gg∧∀m H d v ρ σ ρ' Q,DV X.K m H d v→ER X.K m H ρ σ→sg d ρ=some ρ'→(∀σ',ER X.K m H ρ' σ'→Q σ' H)→gg v σ H Q
def A7 (i:Nat):MG:=fun d ρ=>some (ρ.set i (some d))
def BV (i j:Nat):MG:=fun d ρ=>match d with
 |.tup [x,y]=>some ((ρ.set i (some x)).set j (some y))
 |_=>none
theorem DA {i:Nat} {x:Str} (h:PG X (.Name x pos) (Cm i)):Iq X (.Name x pos) (A7 i):=⟨_,h,fun m H d v ρ σ ρ' Q r er e q=>by
 simp only [A7,Option.some.injEq] at e
 subst e
 exact q _ (er.set r)⟩
theorem Ir {i j:Nat} {x y:Str} {px py:Pos} {kt:Nat} (h:PG X (.Tuple [.Name x px,.Name y py] kt pos) (FL X.K 2 (Do (Cm i) (Do (Cm j) FK)))):Iq X (.Tuple [.Name x px,.Name y py] kt pos) (BV i j):=⟨_,h,fun m H d v ρ σ ρ' Q r er e q=>by
 unfold BV at e
 split at e
 ·rename_i a b
  cases e
  simp only [DV,DVs] at r
  obtain ⟨p,vs,rfl,hp,v1,w1,rfl,r1,v2,w2,rfl,r2,rfl⟩:=r
  exact ⟨p,_,rfl,SqT.of hp,rfl,v1,_,rfl,v2,_,rfl,rfl,q _ ((er.set r1).set r2)⟩
 ·cases e⟩
def Ha (sg:MG) (f:ME):MS:=fun ρ h=>(f ρ h).bind fun d h1=>match sg d ρ with
 |some ρ1=>.ok (.nx,ρ1) h1
 |none=>.stuck
theorem L8 {tg:Expr} {sg:MG} (he:Ev X E e f) (hg:Iq X tg sg) (hs:swapsWithSole [tg] e pos.line X.env=pure false:=by rfl) (hw:swappedStores [tg] e X.env=pure none:=by rfl)
 (h1:(assignEach [tg] X.env).map (·.2)=[assign tg X.env]:=by rfl):Ex X E (.Assign [tg] e pos) (Ha sg f):=by
 obtain ⟨gg,hg,i⟩:=hg
 exact DW (Lx he hg hs hw h1) fun Dn σ H z11_=>by obtain ⟨m,ρ,h,hr,er,p⟩:=z11_;exact (⟨m,ρ,h,hr,er,PostS.bind p fun x h1 v m1 H1 _ p1 k1 hr1 r1 q1=>by
  split at q1
  ·rename_i ρ1 es
   exact i m1 H1 x v ρ σ ρ1 _ r1 (er.keep p1 k1) es fun σ' er'=>(q1.here hr1) σ' er'
  ·exact q1.elim⟩)
abbrev A0:=List (Nat×List D)
def Bz (src:A0) (items:List D) (h:HD):Prop:=∀p∈src,h[p.1]?=some (.lst p.2)
theorem Dq {items:List D} {h:HD}:Bz [] items h:=fun p z=>nomatch z
theorem Iu {items ds:List D} {h:HD} {l:Nat} (e:h[l]?=some (.lst ds)):Bz [(l,ds)] items h:=fun p z=>by
 rw [qaD] at z
 subst z
 exact e
def Iv (K:PySem.W.Frag):List Addr→Hp→(List D×A0)→It→Prop:=fun m1 H1 x J=>
 ∀i m2 h2 H2,m1 <+:m2→Kp H1 H2→HR K m2 h2 H2→Bz x.2 x.1 h2→
  (i<x.1.length→J.go i H2∧∀y H3,J.yld i H2 y H3→Kp H2 H3∧HR K m2 h2 H3∧∃d,x.1[i]?=some d∧DV K m2 H3 d y)∧(i=x.1.length→J.stop i H2)
abbrev MI:=Ai→HD→Out (List D×A0)
abbrev EL (X:Cx) (E:XK) (tg iter:Expr) (it:MI):Prop:=PI X tg iter (tM X.K (Iv X.K) E it)
theorem Iw {tg iter:Expr} {w w':TI} (h:PI X tg iter w) (i:∀σ H R,w' σ H R→w σ H R):PI X tg iter w':=fun pins s σ H R I q=>h pins s σ H R I (i σ H R q)
theorem Vp {tg l:Expr} {tl:TE} (hl:PE X l tl):PI X tg l (fun σ H R=>tl σ H fun x H1=>∃a,x=.ref a∧(((∃xs,SqL X.K H1 a xs)∧R (HW X.K a) H1)∨((∃xs,SqT X.K H1 a xs)∧R (HX X.K a) H1))):=by
 intro pins s σ H R I h
 refine Av (hl pins s σ H _ I h) fun v s1 z12_=>?_
 obtain ⟨x,H1,I1,r1,q1⟩:=z12_
 obtain ⟨a,e,q⟩:=q1
 subst e
 cases r1
 rcases q with ⟨⟨xs,hq⟩,q⟩ |⟨⟨xs,hq⟩,q⟩
 ·obtain ⟨its,rv,p,hz⟩:=I1.list hq
  refine wpAny_pyIter_list p.isList ?_
  refine ⟨s1.heap.objs.size,[s1.heap.objs.size],_,_,H1,rfl,I1.kept (t':=s1.toks) fun b o e=>AE _ e,Tt a _,⟨_,Bj _ rfl,rfl,rfl⟩,fun b hb=>?_,q⟩
  have e:b=s1.heap.objs.size:=by simpa using hb
  subst e
  exact I1.fpOk (AD _) (I1.hok.fresh (AD _))
 ·obtain ⟨its,rv,p,hz⟩:=I1.tuple hq
  refine wpAny_pyIter_tuple (show s1.heap.IsTuple a its.toArray from p) ?_
  refine ⟨s1.heap.objs.size,[s1.heap.objs.size],_,_,H1,rfl,I1.kept (t':=s1.toks) fun b o e=>AE _ e,Tu a _,⟨_,Bj _ rfl,rfl,rfl⟩,fun b hb=>?_,q⟩
  have e:b=s1.heap.objs.size:=by simpa using hb
  subst e
  exact I1.fpOk (AD _) (I1.hok.fresh (AD _))
def O4:D→List D→A0
 |.loc l,ds=>[(l,ds)]
 |_,_=>[]
def Hb (d:D) (h:HD):Out (List D×A0):=match By d h with
 |some ds=>.ok (ds,O4 d ds) h
 |none=>.stuck
def BP (f:ME):MI:=fun ρ h=>(f ρ h).bind Hb
theorem Kp.lget {H H':Hp} {a:Addr} {K:PySem.W.Frag} {xs:List V} (k:Kp H H') (h:FzL K H a xs):SqL K H' a xs:=(k.fzL h).sq
theorem O5 {K:PySem.W.Frag} {a:Addr} {m:List Addr} {H:Hp} {h:HD} {i:Nat} {items:List D} {vs:List V} (hr:HR K m h H) (hs:SqL K H a vs) (dv:DVs K m H items vs) (uniq:∀ys,SqL K H a ys→ys=vs∨True):
 (i<items.length→(HW K a).go i H∧∀y H3,(HW K a).yld i H y H3→Kp H H3∧HR K m h H3∧∃d,items[i]?=some d∧DV K m H3 d y)∧(i=items.length→(HW K a).stop i H):=by
 refine ⟨fun hi=>?_,fun hi=>⟨vs,hs,by rw [←dv.len];exact Nat.le_of_eq hi.symm⟩⟩
 have hd:items[i]?=some items[i]:=AW hi
 obtain ⟨v,e1,r1⟩:=dv.get hd
 refine ⟨⟨vs,v,hs,e1⟩,fun y H3 z13_=>?_⟩
 obtain ⟨e3,hy⟩:=z13_
 subst e3
 have:=hy vs hs
 rw [e1] at this
 cases this
 exact ⟨.refl _,hr,_,hd,r1⟩
theorem Vq {K:PySem.W.Frag} {a:Addr} {m:List Addr} {H:Hp} {h:HD} {i:Nat} {items:List D} {vs:List V} (hr:HR K m h H) (hs:SqT K H a vs) (dv:DVs K m H items vs):
 (i<items.length→(HX K a).go i H∧∀y H3,(HX K a).yld i H y H3→Kp H H3∧HR K m h H3∧∃d,items[i]?=some d∧DV K m H3 d y)∧(i=items.length→(HX K a).stop i H):=by
 refine ⟨fun hi=>?_,fun hi=>⟨vs,hs,by rw [←dv.len];exact Nat.le_of_eq hi.symm⟩⟩
 have hd:items[i]?=some items[i]:=AW hi
 obtain ⟨v,e1,r1⟩:=dv.get hd
 refine ⟨⟨vs,v,hs,e1⟩,fun y H3 z14_=>?_⟩
 obtain ⟨e3,hy⟩:=z14_
 subst e3
 have:=hy vs hs
 rw [e1] at this
 cases this
 exact ⟨.refl _,hr,_,hd,r1⟩
theorem CO {tg a:Expr} (ha:Ev X E a f):EL X E tg a (BP f):=
 Iw (Vp ha) fun σ H R ⟨m,ρ,h,hr,er,p⟩=>⟨m,ρ,h,hr,er,Post.bind p fun x h1 v m1 H1 _ p1 k1 hr1 r1 q1=>by
  unfold Hb at q1
  split at q1
  ·rename_i ds eds
   cases x with
   |tup xs=>
    simp only [By,Option.some.injEq] at eds
    subst eds
    simp only [rD,DV] at r1
    obtain ⟨a,vs,rfl,ha,dv⟩:=r1
    refine ⟨a,rfl,.inr ⟨⟨vs,SqT.of ha⟩,q1 _ m1 H1 (Ay _) (.refl _) hr1 fun i m2 h2 H2 p2 k2 hr2 _=>?_⟩⟩
    exact Vq hr2 (SqT.of (k2 _ _ ha rfl)) (dv.keep p2 k2)
   |loc l=>
    simp only [rD,DV] at r1
    obtain ⟨a,rfl,ha⟩:=r1
    simp only [By] at eds
    split at eds
    ·rename_i xs el
     cases eds
     obtain ⟨vs,hv,dv⟩:=hr1.cells l _ a el ha
     refine ⟨a,rfl,.inl ⟨⟨vs,SqL.of hv⟩,q1 _ m1 H1 (Ay _) (.refl _) hr1 fun i m2 h2 H2 p2 k2 hr2 hs=>?_⟩⟩
     obtain ⟨ws,hw,dw⟩:=hr2.cells l _ a (hs _ A3) (GZ p2 ha)
     exact O5 hr2 (SqL.of hw) dw fun _ _=>.inr trivial
    ·cases eds
   |scr ns=>
    simp only [By,Option.some.injEq] at eds
    subst eds
    simp only [rD,DV] at r1
    obtain ⟨a,rfl,ha⟩:=r1
    refine ⟨a,rfl,.inl ⟨⟨_,ha.sq⟩,q1 _ m1 H1 (Ay _) (.refl _) hr1 fun i m2 h2 H2 p2 k2 hr2 _=>?_⟩⟩
    exact O5 hr2 (k2.lget ha) O0 fun _ _=>.inr trivial
   |_=>simp [By] at eds
  ·exact q1.elim⟩
def Fp (lo:Int) (n:Nat):List D:=(List.range n).map fun k=>.int (lo+(k:Nat))
theorem O6 {K:PySem.W.Frag} {m1:List Addr} {H1:Hp} (lo:Int) (n:Nat):Iv K m1 H1 (Fp lo n,[]) (HY lo n):=fun i m2 h2 H2 p2 k2 hr2 _=>by
 refine ⟨fun hi=>?_,fun hi=>?_⟩
 ·have hi':i<n:=by simpa [Fp] using hi
  refine ⟨hi',fun y H3 z16_=>?_⟩
  obtain ⟨e3,ey⟩:=z16_
  subst e3 ey
  refine ⟨.refl _,hr2,.int (lo+i),?_,by simp [DV]⟩
  simp [Fp,FA,hi']
 ·show n≤i
  have hi':i=n:=by simpa [Fp] using hi
  omega
@[irreducible] noncomputable def Hc:List D→HD→Out (List D×A0):=fun ds h=>match ds with
  |[.int j]=>@ite _ (-(2^62)≤j∧j<2^62) (Classical.propDecidable _) (.ok (Fp 0 j.toNat,[]) h) .stuck
  |_=>.stuck
@[irreducible] noncomputable def Iz:List D→HD→Out (List D×A0):=fun ds h=>match ds with
  |[.int i,.int j]=>@ite _ ((-(2^62)≤i∧i<2^62)∧-(2^62)≤j∧j<2^62) (Classical.propDecidable _) (.ok (Fp i (j - i).toNat,[]) h) .stuck
  |_=>.stuck
noncomputable def Cw (fa:MA):MI:=fun ρ h=>(fa ρ h).bind Hc
noncomputable def IA (fa:MA):MI:=fun ρ h=>(fa ρ h).bind Iz
theorem EN {tg a:Expr} {fa:MA} {p pos:Pos} (hg:Gl X "range") (hm:X.mg "range"=none) (ha:Cn X E [a] fa) (hs:starEach [a] X.env=[(false,eval a X.env)]:=by rfl):EL X E tg (.Call (.Name "range" p) [a] [] pos) (Cw fa):=
 Iw (Tz hg hm ha hs) fun σ H R z17_=>by obtain ⟨m,ρ,h,hr,er,p⟩:=z17_;exact (⟨m,ρ,h,hr,er,Post.bind p fun x h1 v m1 H1 _ p1 k1 hr1 r1 q1=>by
  unfold Hc at q1
  split at q1
  ·split at q1
   ·rename_i hj
    simp only [Dz,DVs,DV] at r1
    obtain ⟨v,w,rfl,rfl,rfl⟩:=r1
    exact ⟨_,rfl,hj.1,hj.2,q1 _ m1 H1 (Ay _) (.refl _) hr1 (O6 0 _)⟩
   ·exact q1.elim
  ·exact q1.elim⟩)
theorem O7 {tg a b:Expr} {fa:MA} {p pos:Pos} (hg:Gl X "range") (hm:X.mg "range"=none) (ha:Cn X E [a,b] fa) (hs:starEach [a,b] X.env=[(false,eval a X.env),(false,eval b X.env)]:=by rfl) (hs2:starEach [b] X.env=[(false,eval b X.env)]:=by rfl):EL X E tg (.Call (.Name "range" p) [a,b] [] pos) (IA fa):=
 Iw (TB hg hm ha hs hs2) fun σ H R z18_=>by obtain ⟨m,ρ,h,hr,er,p⟩:=z18_;exact (⟨m,ρ,h,hr,er,Post.bind p fun x h1 v m1 H1 _ p1 k1 hr1 r1 q1=>by
  unfold Iz at q1
  split at q1
  ·split at q1
   ·rename_i hj
    simp only [Dz,DVs,DV] at r1
    obtain ⟨v,w,rfl,rfl,v',w',rfl,rfl,rfl⟩:=r1
    exact ⟨_,_,rfl,⟨hj.1.1,hj.1.2,hj.2.1,hj.2.2⟩,q1 _ m1 H1 (Ay _) (.refl _) hr1 (O6 _ _)⟩
   ·exact q1.elim
  ·exact q1.elim⟩)
open Classical in
noncomputable def D8 (src:A0) (items:List D) (sg:MG) (body:MS):List D→MS
 |[]=>fun ρ h=>if Bz src items h then .ok (.nx,ρ) h else .stuck
 |d::ds=>fun ρ h=>if Bz src items h then match sg d ρ with
   |none=>.stuck
   |some ρ1=>(body ρ1 h).bind fun x h2=>match x with
    |(.nx,ρ2)=>D8 src items sg body ds ρ2 h2
    |(.ct,ρ2)=>D8 src items sg body ds ρ2 h2
    |(.bk,ρ2)=>.ok (.nx,ρ2) h2
    |(.rt d,ρ2)=>.ok (.rt d,ρ2) h2
  else .stuck
noncomputable def BE (it:MI) (sg:MG) (body:MS):MS:=fun ρ h=>(it ρ h).bind fun x h1=>D8 x.2 x.1 sg body x.1 ρ h1
inductive O8 (K:PySem.W.Frag) (E:XK) (Dn:Dl) (src:A0) (items:List D) (sg:MG) (g:MS) (m1:List Addr) (H1:Hp) (i n:Nat) (σ2:L2.St) (H2:Hp):Prop where
 |mk (e:n=items.length - i) (l:i≤items.length) (m2:List Addr) (ρ2:Ai) (h2:HD) (p:m1 <+:m2) (k:Kp H1 H2) (hr:HR K m2 h2 H2) (er:ER K m2 H2 ρ2 σ2) (q:PostS K m2 H2 E Dn (D8 src items sg g (items.drop i) ρ2 h2)):O8 K E Dn src items sg g m1 H1 i n σ2 H2
inductive O9 (K:PySem.W.Frag) (E:XK) (Dn:Dl) (src:A0) (items:List D) (sg:MG) (g:MS) (m1:List Addr) (H1:Hp) (i:Nat) (σ2:L2.St) (H2:Hp):Prop where
 |mk (m2:List Addr) (ρ2:Ai) (h2:HD) (p:m1 <+:m2) (k:Kp H1 H2) (hr:HR K m2 h2 H2) (er:ER K m2 H2 ρ2 σ2) (q:PostS K m2 H2 E Dn (D8 src items sg g (items.drop i) ρ2 h2)):O9 K E Dn src items sg g m1 H1 i σ2 H2
theorem Cy {tg iter:Expr} {body:List Stmt} {it:MI} {sg:MG} {g:MS} (hp:PassesOwn (model X.prog X.w) X.A X.env X.xe) (hc:X.calm=true) (hi:EL X E tg iter it) (hg:Iq X tg sg) (hb:AY X E body g)
 (hs:∀x,foldedSetIterable iter X.env x=pure x:=by intro _;rfl):Ex X E (.For tg iter body [] pos) (BE it sg g):=by
 obtain ⟨gg,hg,ig⟩:=hg
 refine DW (TH hp hc hi hg hb hs) ?_
 rintro Dn σ H ⟨m,ρ,h,hr,er,p⟩
 refine ⟨m,ρ,h,hr,er,PostS.bind p fun x h1 J m1 H1 _ p1 k1 hr1 r1 q1=>?_⟩
 obtain ⟨items,src⟩:=x
 refine ⟨O8 X.K E Dn src items sg g m1 H1,⟨items.length,rfl,EF _,m1,ρ,h1,Ay _,.refl _,hr1,er.keep p1 k1,by simpa using q1⟩,?_⟩
 rintro i n σ2 H2 ⟨rfl,hi,m2,ρ2,h2,p2,k2,hr2,er2,q2⟩
 by_cases hlt:i<items.length
 ·rw [Lj hlt] at q2
  unfold D8 at q2
  split at q2
  ·rename_i hs
   obtain ⟨hgo,hy⟩:=(r1 i m2 h2 H2 p2 k2 hr2 hs).1 hlt
   refine .inr ⟨hgo,O9 X.K E Dn src items sg g m1 H1 (i+1),fun σ5 H5 z20_=>by obtain ⟨m5,ρ5,h5,a1,a2,a3,a4,a5⟩:=z20_;exact (⟨items.length - (i+1),by omega,rfl,hlt,m5,ρ5,h5,a1,a2,a3,a4,a5⟩),fun y H3 hyl=>?_⟩
   obtain ⟨k3,hr3,d,ed,rd⟩:=hy y H3 hyl
   have ed':d=items[i]:=by rw [AW hlt] at ed;exact (Option.some.inj ed).symm
   subst ed'
   split at q2
   ·exact q2.elim
   ·rename_i ρ3 es
    refine ig m2 H3 _ y ρ2 σ2 ρ3 _ rd (er2.keep (Ay _) k3) es fun σ4 er4=>?_
    refine ⟨m2,ρ3,h2,hr3,er4,?_⟩
    have q3:=PostS.ahead (Ay _) k3 q2
    cases o:g ρ3 h2 with
    |stuck=>rw [o] at q3;exact q3
    |err C fs h5=>rw [o] at q3;exact q3
    |ok z h5=>
     rw [o] at q3
     obtain ⟨fl,ρ5⟩:=z
     intro m5 H5 p5 k5 hr5
     have pk:m1 <+:m5:=p2.trans p5
     have kk:Kp H1 H5:=(k2.trans k3).trans k5
     cases fl with
     |nx=>exact fun σ5 er5=>⟨m5,ρ5,h5,pk,kk,hr5,er5,PostS.ahead p5 k5 q3⟩
     |ct=>exact fun σ5 er5=>⟨m5,ρ5,h5,pk,kk,hr5,er5,PostS.ahead p5 k5 q3⟩
     |bk=>exact fun σ5 er5=>q3 m5 H5 p5 k5 hr5 σ5 er5
     |rt d=>exact fun v rv=>q3 m5 H5 p5 k5 hr5 v rv
  ·exact q2.elim
 ·have he:i=items.length:=Nat.le_antisymm hi (HN hlt)
  subst he
  rw [List.drop_length] at q2
  unfold D8 at q2
  split at q2
  ·rename_i hs
   exact .inl ⟨(r1 _ m2 h2 H2 p2 k2 hr2 hs).2 rfl,(q2.here hr2) σ2 er2⟩
  ·exact q2.elim
end
section
variable {M:Model} {A:Around} {E:Value→Shared→Prop} {s:Shared}
theorem L9 {env:Env}:∀(names:List (Str×NameKind)) (acc:List (Str×Addr)),(∀y∈names,y.2=.free→∃c,env.cells.lookup y.1=some c)→
 ∃cl:List (Str×Addr),(forIn names acc (fun (x:Str×NameKind) (cs:List (Str×Addr))=>match x with
  |(name,kind)=>if (kind==NameKind.free)=true then do let y ←cellOf env name;pure (ForInStep.yield ((name,y)::cs)) else pure (ForInStep.yield cs)):Sem (List (Str×Addr)))=pure cl∧
  (∀x c,(x,c)∈cl→(x,c)∈acc∨(env.cells.lookup x=some c∧(x,NameKind.free)∈names))∧(∀y∈names,y.2=.free→∃c,(y.1,c)∈cl)∧(∀p∈acc,p∈cl)
 |[],acc,_=>⟨acc,rfl,fun x c h=>.inl h,fun y hy=>absurd hy (by simp),fun p h=>h⟩
 |(name,kind)::r,acc,h=>by
  rw [List.forIn_cons]
  by_cases hk:kind=.free
  ·subst hk
   obtain ⟨c,hc⟩:=h (name,.free) A3 rfl
   obtain ⟨cl,e,h1,h2,h3⟩:=L9 (env:=env) r ((name,c)::acc) (fun y hy=>h y (A6 _ hy))
   refine ⟨cl,?_,fun x c' hm=>?_,fun y hy hf=>?_,fun p hp=>h3 p (A6 _ hp)⟩
   ·rw [←e]
    have:cellOf env name=pure c:=by unfold cellOf;rw [hc]
    simp only [this,beq_self_eq_true,if_true,pure_bind]
   ·rcases h1 x c' hm with q |⟨q1,q2⟩
    ·rcases qa5.mp q with q |q
     ·cases q;exact .inr ⟨hc,A3⟩
     ·exact .inl q
    ·exact .inr ⟨q1,A6 _ q2⟩
   ·rcases qa5.mp hy with q |q
    ·subst q;exact ⟨c,h3 _ A3⟩
    ·exact h2 y q hf
  ·obtain ⟨cl,e,h1,h2,h3⟩:=L9 (env:=env) r acc (fun y hy=>h y (A6 _ hy))
   refine ⟨cl,?_,fun x c' hm=>?_,fun y hy hf=>?_,h3⟩
   ·rw [←e]
    have hk':(kind==NameKind.free)=false:=by simpa using hk
    simp only [hk',CD,if_false,pure_bind]
   ·rcases h1 x c' hm with q |⟨q1,q2⟩
    ·exact .inl q
    ·exact .inr ⟨q1,A6 _ q2⟩
   ·rcases qa5.mp hy with q |q
    ·subst q;exact absurd hf hk
    ·exact h2 y q hf
theorem Pa {scope:Scope} {env:Env} (h:∀y∈scope.names,y.2=.free→∃c,env.cells.lookup y.1=some c):
 ∃cl:List (Str×Addr),closureFor scope env=pure cl∧(∀x c,(x,c)∈cl→env.cells.lookup x=some c∧(x,NameKind.free)∈scope.names)∧(∀y∈scope.names,y.2=.free→∃c,(y.1,c)∈cl):=by
 obtain ⟨cl,e,h1,h2,h3⟩:=L9 (env:=env) scope.names [] h
 refine ⟨cl,?_,fun x c hm=>?_,h2⟩
 ·unfold closureFor
  simp only [bind_pure]
  exact e
 ·rcases h1 x c hm with q |q
  ·exact nomatch q
  ·exact q
theorem Vr {scope:Scope} {globals:Addr} {cl:List (Str×Addr)} {qual:Str} {around:Env} {Q:Env→Shared→Prop}
 (h:Q (newEnv scope s.heap.objs.size globals (cellsFrom (s.heap.objs.size+1) scope.names cl) qual none .none (some around) builtinsNs) {s with heap:=pushCells (s.heap.push {cls:=.type "dict",data:=.dict #[]}) scope.names}):
 wpAny M A (newFunctionEnv scope globals cl [] qual none .none (some around)) Q E s:=by
 simp only [newFunctionEnv,Option.isSome_some,if_true]
 refine wpAny_bind (wpAny_alloc ?_)
 refine wpAny_bind (wpAny_layCells _ (fun name kind cells=>by cases hkc:kind==NameKind.cell<;>simp [hkc]) _ _ _ _ ?_)
 simp only [List.forIn_nil,pure_bind]
 refine wpAny_pure ?_
 rw [show ({s with heap:=s.heap.push {cls:=.type "dict",data:=.dict #[]}}:Shared).heap.objs.size=s.heap.objs.size+1 from Ck ..]
 exact h
end
section
variable {prog:Program} {w:World} {A:Around} {R:Result→Shared→Prop} {s:Shared}
theorem Vs {elt target iter:Expr} {ifs:List Expr} {scope:Scope} {pos:Pos} {it acc:Value} {env:Env} (I:Nat→Shared→Prop)
 (turn:∀n s,I n s→wpAny (model prog w) A (pyNext it) (fun r s₁=>match r with
  |none=>R (.ok .next) s₁
  |some v=>wpAny (model prog w) A (letOwnedTupleGo target it v) (fun _ s₁'=>wpAny (model prog w) A (assign target env v) (fun _ s₂=>
   wpAny (model prog w) A (forIn ifs true fun c r=>if r=true then do let ok ←isTrue c env (eval c env);pure (ForInStep.yield ok) else pure (ForInStep.yield r)) (fun ok s₃=>
    if ok=true then wpAny (model prog w) A (eval elt env) (fun x s₄=>
     wpAny (model prog w) A (call (.builtin "list.append") [acc,x]) (fun _ s₅=>∃m,m<n∧I m s₅) (notedBy (model prog w) A env fun e s'=>R (.error e) s') s₄) (notedBy (model prog w) A env fun e s'=>R (.error e) s') s₃
    else ∃m,m<n∧I m s₃) (notedBy (model prog w) A env fun e s'=>R (.error e) s') s₂) (notedBy (model prog w) A env fun e s'=>R (.error e) s') s₁') (notedBy (model prog w) A env fun e s'=>R (.error e) s') s₁) (notedBy (model prog w) A env fun e s'=>R (.error e) s') s)
 (n:Nat) (h:I n s):
 codeAny (model prog w) A (.compLoop (.ListComp elt [⟨target,iter,ifs,0⟩] scope pos) 0 it acc env) R s:=by
 refine codeAny_loop rfl I (fun n s hI=>?_) n h
 show wpAny _ A ((compTurn (.ListComp elt [⟨target,iter,ifs,0⟩] scope pos) 0 it acc env).onRaise (fun x=>do noteFrame x env;theTreesLotGoes x)) _ _ s
 refine wpAny_noted ?_
 rw [compTurn_list]
 refine wpAny_bind (wpAny_standAt (wpAny_bind (wpAny_mono (turn n s hI) (fun r s₁ h₁=>?_) fun _ _ h'=>h')))
 cases r with
 |none=>exact wpAny_pure h₁
 |some v=>
  refine wpAny_bind (wpAny_mono h₁ (fun _ s₁' h₁'=>?_) fun _ _ h'=>h')
  refine wpAny_bind (wpAny_mono h₁' (fun _ s₂ h₂=>wpAny_bind (wpAny_mono h₂ (fun ok s₃ h₃=>?_) fun _ _ h'=>h')) fun _ _ h'=>h')
  cases ok with
  |false=>exact wpAny_pure ⟨rfl,h₃⟩
  |true=>
   exact wpAny_bind (wpAny_bind (wpAny_mono h₃ (fun x s₄ h₄=>wpAny_bind (wpAny_mono h₄ (fun _ s₅ h₅=>wpAny_pure (wpAny_pure ⟨rfl,h₅⟩)) fun _ _ h'=>h')) fun _ _ h'=>h'))
end
def J0 (X:Cx) (ifs:List Expr) (t:TT):Prop:=∀(pins:List (Addr×Obj)) (s:Shared) (σ:L2.St) (H:Hp) (Q:Bool→Hp→Prop),Inv X pins σ H s→t σ H Q→
 wpAny (model X.prog X.w) X.A (forIn ifs true fun c r=>if r=true then do let ok ←isTrue c X.env (eval c X.env);pure (ForInStep.yield ok) else pure (ForInStep.yield r)) (TP X pins σ Q) X.xe s
theorem Vt {X:Cx}:J0 X [] (fun _ H Q=>Q true H):=fun _ _ _ H _ I h=>wpAny_tests_nil ⟨H,I,h⟩
def Pb (env:Env) (scope:Scope) (C:Addr) (cells:List (Str×Addr)):Env:=
 {scope:=relabel scope env,locals:=C,globals:=env.globals,cells:=cells,qual:=env.qual,func:=none,code:=env.code,frame:=env.frame,builtins:=env.builtins}
def B3 (X:Cx) (Nc:List Str) (scope:Scope) (C D:Addr) (cells:List (Str×Addr)) (fp:List Addr) (s₀:Shared) (H₀:Hp) (pins:List (Addr×Obj)):Cx:=
 {X with N:=Nc,s₀:=s₀,H₀:=H₀,env:=Pb X.env scope C cells,outer:=X.stack,stack:=X.stack,ex:=D::fp,fn:=fun x=>scope.names.lookup x==some .cell,pn:=X.pn++pins,xe:=fun _ _=>False}
def BA (cs:List (Option Nat)) (σ:L2.St):L2.St:=cs.map fun o=>o.bind fun j=>(σ[j]?).join
def Sub (σ σ':L2.St):Prop:=σ.length=σ'.length∧∀(i:Nat) v,σ[i]?=some (some v)→σ'[i]?=some (some v)
def J1 (cs:List (Option Nat)) (wi:TI) (g:TG) (tc:TT) (te:TE):TE:=fun σ H Q=>wi σ H fun J H1=>∃W:Nat→Nat→List V→Hp→Prop,(∃n,W 0 n [] H1)∧∀i n acc H,W i n acc H→
 (J.stop i H∧acc.length≤sizeLine∧∀p,H p=none→Q (.ref p) (Am H p (.lst acc)))∨
 (J.go i H∧acc.length<sizeLine∧∀x H',J.yld i H x H'→g x (BA cs σ) H' fun σ2 H2=>Sub (BA cs σ) σ2∧tc σ2 H2 fun b H3=>if b=true then te σ2 H3 fun y H4=>∃n',n' < n∧W (i+1) n' (acc++[y]) H4 else ∃n',n' < n∧W (i+1) n' acc H3)
theorem Ma:∀(names:List (Str×NameKind)) (h:Heap) (acc:List (Str×Addr)) (x:Str) (c:Addr),(x,c)∈cellsFrom h.objs.size names acc→(x,c)∈acc∨(h.objs.size≤c∧(x,NameKind.cell)∈names∧(pushCells h names).IsCell c none)
 |[],_,_,_,_,m=>.inl m
 |(name,kind)::r,h,acc,x,c,m=>by
  unfold cellsFrom at m
  unfold pushCells
  split at m
  ·rename_i hk
   rw [if_pos hk]
   have hk':kind=.cell:=by simpa using hk
   have e:h.objs.size+1=(h.push {cls:=.type "cell",data:=.cell none}).objs.size:=(Ck ..).symm
   rw [e] at m
   rcases Ma r _ _ x c m with q |⟨q1,q2,q3⟩
   ·rcases qa5.mp q with q |q
    ·cases q
     refine .inr ⟨AD _,by rw [hk'];exact A3,?_⟩
     exact (show (h.push {cls:=.type "cell",data:=.cell none}).IsCell h.objs.size none from ⟨_,Bj _ rfl,rfl⟩).keeps fun b o e=>pushCells_keeps _ _ b o e
    ·exact .inl q
   ·exact .inr ⟨by rw [←e] at q1;exact Nat.le_of_succ_le q1,A6 _ q2,q3⟩
  ·rename_i hk
   rw [if_neg hk]
   rcases Ma r h acc x c m with q |⟨q1,q2,q3⟩
   ·exact .inl q
   ·exact .inr ⟨q1,A6 _ q2,q3⟩
theorem Mb:∀(names:List (Str×NameKind)) (h:Heap) (acc:List (Str×Addr)),(∀x c,(x,c)∈acc→c<h.objs.size)→(∀x y c,(x,c)∈acc→(y,c)∈acc→x=y)→
 ∀x y c,(x,c)∈cellsFrom h.objs.size names acc→(y,c)∈cellsFrom h.objs.size names acc→x=y
 |[],_,_,_,i=>i
 |(name,kind)::r,h,acc,lt,i=>by
  unfold cellsFrom
  split
  ·have e:h.objs.size+1=(h.push {cls:=.type "cell",data:=.cell none}).objs.size:=(Ck ..).symm
   rw [e]
   refine Mb r _ _ (fun x c m=>?_) (fun x y c m m'=>?_)
   ·rw [←e]
    rcases qa5.mp m with q |q
    ·cases q;exact Nat.lt_succ_self _
    ·exact FD (lt x c q)
   ·rcases qa5.mp m with q |q<;>rcases qa5.mp m' with q' |q'
    ·cases q;cases q';rfl
    ·cases q;exact absurd (lt y _ q') (CI _)
    ·cases q';exact absurd (lt x _ q) (CI _)
    ·exact i x y c q q'
  ·exact Mb r h acc lt i
theorem lookup_mem {α:Type} {l:List (Str×α)} {x:Str} {k:α} (nd:(l.map (·.1)).Nodup) (h:(x,k)∈l):l.lookup x=some k:=by
 induction l with
 |nil=>cases h
 |cons p r ih=>
  obtain ⟨y,j⟩:=p
  rw [Bf,qbM] at nd
  rw [FE]
  rcases qa5.mp h with e |e
  ·cases e;simp
  ·have:x≠y:=by
    rintro rfl
    exact nd.1 (qaM.mpr ⟨(x,k),e,rfl⟩)
   have hb:(x==y)=false:=by simpa using this
   rw [hb]
   exact ih nd.2 e
theorem Vu {env:Env} {x n:Str} {j:NameKind} {r:List (Str×NameKind)} {k:NameKind} (h:List.lookup x ((if (j==NameKind.free&&env.scope.kind==.function&&env.kindOf n==some .cell)=true then (n,NameKind.cell) else (n,j))::r)=some k):
 (x=n∧(k=j∨(j=.free∧k=.cell)))∨(x≠n∧List.lookup x r=some k):=by
 by_cases hx:x=n
 ·subst hx
  refine .inl ⟨rfl,?_⟩
  split at h
  ·rename_i hc
   rw [FE] at h
   simp only [beq_self_eq_true] at h
   cases h
   simp only [CF] at hc
   exact .inr ⟨by simpa using hc.1.1,rfl⟩
  ·rw [FE] at h
   simp only [beq_self_eq_true] at h
   cases h
   exact .inl rfl
 ·have hb:(x==n)=false:=by simpa using hx
  refine .inr ⟨hx,?_⟩
  split at h<;>(rw [FE] at h;simp only [hb] at h;exact h)
theorem Pc {scope:Scope} {env:Env} {x:Str} {k:NameKind}:(relabel scope env).names.lookup x=some k→∃k0,scope.names.lookup x=some k0∧(k=k0∨(k0=.free∧k=.cell)):=by
 show (scope.names.map _).lookup x=some k→_
 induction scope.names with
 |nil=>intro h;cases h
 |cons p r ih=>
  obtain ⟨n,j⟩:=p
  intro h
  rw [Bf] at h
  rw [FE]
  rcases Vu h with ⟨hx,hk⟩ |⟨hx,hr⟩
  ·subst hx
   simp only [beq_self_eq_true]
   exact ⟨j,rfl,hk⟩
  ·have hb:(x==n)=false:=by simpa using hx
   rw [hb]
   exact ih hr
structure Hd (X:Cx) (scope:Scope) (Nc:List Str) (cs:List (Option Nat)):Prop where
 kind:scope.kind=.function
 loc:∀y∈scope.names,y.2=.local→scope.names.lookup y.1=some .local
 free:∀y∈scope.names,y.2=.free→X.env.kindOf y.1=some .cell∨X.env.kindOf y.1=some .free
 nd:(scope.names.map (·.1)).Nodup
 len:cs.length=Nc.length
 out:∀(i:Nat) (x:Str) (j:Nat),Nc[i]?=some x→cs[i]?=some (some j)→X.N[j]?=some x∧scope.names.lookup x=some .free
theorem Vv {a b:Addr} (h:a<b):@LT.lt Nat instLTNat a b:=h
theorem BF {a b:Addr} (h:@LT.lt Nat instLTNat a b):a≠b:=BD h
theorem EO {a b:Addr} (h:@LT.lt Nat instLTNat a b):b≠a:=Ne.symm (BD h)
section
variable {X:Cx} {pins:List (Addr×Obj)} {σ:L2.St} {H:Hp} {s:Shared}
theorem Vw {scope:Scope} {Nc:List Str} {cs:List (Option Nat)} {fp:List Addr} {cl:List (Str×Addr)} (S:Hd X scope Nc cs) (I:Inv X pins σ H s) (f:∀b∈fp,DR X pins H b) (ob:∀b∈fp,∃o,s.heap.get? b=some o)
 (hcl:∀x c,(x,c)∈cl→X.env.cells.lookup x=some c∧(x,NameKind.free)∈scope.names) (hcl2:∀y∈scope.names,y.2=.free→∃c,(y.1,c)∈cl) {s3:Shared} (e3:s3={s with heap:=s.heap.push {cls:=.type "list",data:=.seq ([]:List Value).toArray}}):
 Inv (B3 X Nc scope s3.heap.objs.size s.heap.objs.size (cellsFrom (s3.heap.objs.size+1) scope.names cl) fp s3 H pins) [] (BA cs σ) H
  {s3 with heap:=pushCells (s3.heap.push {cls:=.type "dict",data:=.dict #[]}) scope.names}:=by
 have k3:∀b o,s.heap.get? b=some o→s3.heap.get? b=some o:=fun b o e=>by subst e3;exact AE _ e
 have J9:s3.heap.objs.size=s.heap.objs.size+1:=by subst e3;exact Ck ..
 have szd:(s3.heap.push {cls:=.type "dict",data:=.dict #[]}).objs.size=s3.heap.objs.size+1:=Ck ..
 have k34:∀b o,s3.heap.get? b=some o→(pushCells (s3.heap.push {cls:=.type "dict",data:=.dict #[]}) scope.names).get? b=some o:=fun b o e=>pushCells_keeps _ _ b o (AE _ e)
 have k4:∀b o,s.heap.get? b=some o→(pushCells (s3.heap.push {cls:=.type "dict",data:=.dict #[]}) scope.names).get? b=some o:=fun b o e=>k34 b o (k3 b o e)
 have cllt:∀x c,(x,c)∈cl→c<s.heap.objs.size:=fun x c m=>by
  obtain ⟨v,q⟩:=I.cell x c (hcl x c m).1
  exact q.lt
 have cm:∀x c,(cellsFrom (s3.heap.objs.size+1) scope.names cl).lookup x=some c→(x,c)∈cl∨(s3.heap.objs.size+1≤c∧(x,NameKind.cell)∈scope.names∧(pushCells (s3.heap.push {cls:=.type "dict",data:=.dict #[]}) scope.names).IsCell c none):=fun x c e=>by
  have m:=mem_of_lookup e
  rw [←szd] at m
  have:=Ma scope.names _ cl x c m
  rw [szd] at this
  exact this
 have frs_lt:∀b∈frs X.stack,b<s.heap.objs.size:=fun b hb=>by
  obtain ⟨_,o,ho,_⟩:=I.stack.mem hb
  exact AB ho
 have nfs:∀b,b≠X.env.locals→b∉X.fs→b∉frs X.stack:=fun b h1 h2 hb=>by
  rcases qa5.mp (I.stkSub b hb) with q |q
  ·exact h1 q
  ·exact h2 q
 have ok:(B3 X Nc scope s3.heap.objs.size s.heap.objs.size (cellsFrom (s3.heap.objs.size+1) scope.names cl) fp s3 H pins).Ok:=by
  refine ⟨I.ok.mod,S.kind,I.ok.glob,I.ok.blt,AD _,fun x y c e1 e2=>?_,fun x hx=>?_,fun x c hf e=>?_,I.ok.hd,I.ok.frames,.inl rfl,fun b hb=>?_,fun b o e=>?_,?_,fun b o e hb=>?_,fun b hb=>?_,?_,I.stkFree⟩
  ·have m1:=mem_of_lookup e1
   have m2:=mem_of_lookup e2
   have m1':(x,c)∈cellsFrom (s3.heap.push {cls:=.type "dict",data:=.dict #[]}).objs.size scope.names cl:=by rw [szd];exact m1
   have m2':(y,c)∈cellsFrom (s3.heap.push {cls:=.type "dict",data:=.dict #[]}).objs.size scope.names cl:=by rw [szd];exact m2
   exact Mb scope.names (s3.heap.push {cls:=.type "dict",data:=.dict #[]}) cl (fun x c m=>by rw [szd,J9];exact AL (cllt x c m) (by omega))
    (fun x y c a b=>I.ok.inj x y c (hcl x c a).1 (hcl y c b).1) x y c m1' m2'
  ·have:∃k,(relabel scope X.env).names.lookup x=some k∧(k=.cell∨k=.free):=by
    rcases hx with q |q
    ·exact ⟨_,q,.inl rfl⟩
    ·exact ⟨_,q,.inr rfl⟩
   obtain ⟨k,e1,hk⟩:=this
   obtain ⟨k0,e0,hk0⟩:=Pc e1
   refine qbP.mp (PySem.W.cellsFrom_some _ _ _ ?_)
   have:k0=.cell∨k0=.free:=by
    rcases hk0 with q |⟨q,_⟩
    ·rw [←q];exact hk
    ·exact .inr q
   rcases this with q |q
   ·subst q;exact .inl e0
   ·subst q
    obtain ⟨c,hc⟩:=hcl2 _ (mem_of_lookup e0) rfl
    refine .inr ?_
    cases hl:cl.lookup x with
    |some c'=>rfl
    |none=>
     exfalso
     have:∀p∈cl,p.1≠x:=fun p hp e=>by
      have h2:=List.lookup_eq_none_iff.mp hl p hp
      rw [e] at h2
      simp at h2
     exact this _ hc rfl
  ·have hk:scope.names.lookup x=some .cell:=by
    have:(scope.names.lookup x==some NameKind.cell)=true:=hf
    simpa using this
   rcases cm x c e with q |⟨q1,_,_⟩
   ·have:=lookup_mem S.nd (hcl x c q).2
    rw [hk] at this
    cases this
   ·exact Nat.le_of_succ_le q1
  ·rcases qa5.mp hb with q |q
   ·subst q
    refine ⟨BF (show _<s3.heap.objs.size by omega),fun x c e=>?_⟩
    rcases cm x c e with q |⟨q1,_,_⟩
    ·exact BD (cllt x c q)
    ·exact EO (AL (by omega) q1)
   ·obtain ⟨o,ho⟩:=ob b q
    have hlt:=Vv (AB ho)
    refine ⟨BF (show _<s3.heap.objs.size by omega),fun x c e=>?_⟩
    rcases cm x c e with q2 |⟨q1,_,_⟩
    ·exact (f b q).2.2.2.2.1 x c (hcl x c q2).1
    ·exact EO (AL (by omega) q1)
  ·obtain ⟨h1,h2⟩:=I.bs b o e
   exact ⟨k3 b o h1,h2⟩
  ·show X.base.objs.size≤s3.heap.objs.size
   have:=BM I.ok.bsz I.sz
   omega
  ·obtain ⟨h1,h2⟩:=I.bs b o e
   rcases qa5.mp hb with q |q
   ·exact absurd q (BF (AB h1))
   ·rcases (f b q).2.2.2.1 with z |z
    ·exact I.ok.noex b o e z
    ·exact absurd (AL (AB (I.ok.bs b o e).1) z) (CI _)
  ·rcases qa5.mp hb with q |q
   ·subst q
    intro z
    exact absurd (frs_lt _ z) (CI _)
   ·exact nfs b (f b q).2.1 (f b q).2.2.1
  ·exact I.stack.of_keeps fun b o e _=>⟨o,k3 b o e,rfl⟩
 refine ⟨ok,rfl,?_,?_,?_,fun x c e=>?_,?_,fun x c e=>?_,fun p hp=>?_,I.hok.kept k4,?_⟩
 ·show AllBare s3.gens
  subst e3;exact I.bare
 ·exact Un.kept k34
 ·refine ⟨fun _=>none,(Heap.Ns.new s3.heap (.type "dict")).keeps (pushCells_keeps _ _),fun i x v e1 e2 e3'=>?_⟩
  unfold BA at e2
  rw [BX] at e2
  cases ec:cs[i]? with
  |none=>rw [ec] at e2;cases e2
  |some o=>
   rw [ec] at e2
   cases o with
   |none=>cases e2
   |some j=>
    simp only [HP,Option.bind_some,Option.some.injEq] at e2
    have e2':σ[j]?=some (some v):=by
     cases ej:σ[j]? with
     |none=>rw [ej] at e2;cases e2
     |some w=>rw [ej] at e2;simp at e2;rw [e2]
    obtain ⟨hN,hfr⟩:=S.out i x j e1 ec
    have hfm:=mem_of_lookup hfr
    have hkind:=S.free _ hfm rfl
    obtain ⟨m,hn,hl⟩:=I.loc
    obtain ⟨u,r,look⟩:=hl j x v hN e2' (by
     rcases hkind with q |q
     ·exact .inr (.inl q)
     ·exact .inr (.inr q))
    refine ⟨u,r,.inr ?_⟩
    rcases look with ⟨q,_⟩ |⟨_,c,ec',hc⟩
    ·rcases hkind with z |z<;>(rw [q] at z;cases z)
    ·obtain ⟨c',hc'⟩:=hcl2 _ hfm rfl
     have hv:(B3 X Nc scope s3.heap.objs.size s.heap.objs.size (cellsFrom (s3.heap.objs.size+1) scope.names cl) fp s3 H pins).env.kindOf x=some .cell∨(B3 X Nc scope s3.heap.objs.size s.heap.objs.size (cellsFrom (s3.heap.objs.size+1) scope.names cl) fp s3 H pins).env.kindOf x=some .free:=by
      rcases e3' with z |z |z
      ·obtain ⟨k0,a1,a2⟩:=Pc z
       rw [hfr] at a1
       cases a1
       rcases a2 with a2 |⟨_,a2⟩<;>cases a2
      ·exact .inl z
      ·exact .inr z
     refine ⟨hv,c,?_,hc.keeps k4⟩
     obtain ⟨c2,h2⟩:=ok.has x hv
     rw [h2]
     rcases cm x c2 h2 with q |⟨_,q,_⟩
     ·rw [←ec',(hcl x c2 q).1]
     ·have:=lookup_mem S.nd q
      rw [hfr] at this
      cases this
 ·rcases cm x c e with q |⟨_,_,q⟩
  ·obtain ⟨v,z⟩:=I.cell x c (hcl x c q).1
   exact ⟨v,z.keeps k4⟩
  ·exact ⟨none,q⟩
 ·exact I.hok.fresh (show s.heap.objs.size≤s3.heap.objs.size by omega)
 ·rcases cm x c e with q |⟨q,_,_⟩
  ·exact I.freeC x c (hcl x c q).1
  ·exact I.hok.fresh (by omega)
 ·have hp':p∈X.pn++pins:=by
   rcases qaZ.mp hp with q |q
   ·exact q
   ·exact absurd q (by simp)
  obtain ⟨a1,a2,a3,a4,a5⟩:=I.pin p hp'
  refine ⟨k4 _ _ a1,a2,?_,nfs p.1 a3 a4,a5⟩
  show p.1≠s3.heap.objs.size
  exact BF (AL (AB a1) (by omega))
 ·show (BA cs σ).length=Nc.length
  simp [BA,S.len]
end
section
variable {X:Cx} {elt tg iter:Expr} {ifs:List Expr} {scope:Scope} {pos:Pos} {Nc:List Str} {cs:List (Option Nat)} {wi:TI} {g:TG} {tc:TT} {te:TE}
theorem Vx {pins:List (Addr×Obj)} {σ:L2.St} {H H':Hp} {s s3 s':Shared} {fp:List Addr} {C:Addr} {cells:List (Str×Addr)} {po:List (Addr×Obj)} {σc:L2.St} {acc:List V} {its:List Value} {n:Nat}
 (I:Inv X pins σ H s) (f:∀b∈fp,DR X pins H b) (e3:s3={s with heap:=s.heap.push {cls:=.type "list",data:=.seq ([]:List Value).toArray}}) (hC:C=s3.heap.objs.size)
 (I':Inv (B3 X Nc scope C s.heap.objs.size cells fp s3 H pins) po σc H' s') (hD:H' s.heap.objs.size=none) (hl:acc.length≤sizeLine) (rv:Vals acc its) (ho:s'.heap.get? s.heap.objs.size=some {cls:=.type "list",data:=.seq its.toArray n})
 {h':Heap} (sb:Heap.SameBut C s'.heap h'):Inv X pins σ (Am H' s.heap.objs.size (.lst acc)) {s' with heap:=h'}:=by
 have k3:∀b o,s.heap.get? b=some o→s3.heap.get? b=some o:=fun b o e=>by subst e3;exact AE _ e
 have J9:s3.heap.objs.size=s.heap.objs.size+1:=by subst e3;exact Ck ..
 have Fj:∀b o,s.heap.get? b=some o→b≠s.heap.objs.size:=fun b o e=>BF (AB e)
 have neC:∀b o,s.heap.get? b=some o→b≠C:=fun b o e=>by rw [hC];exact BF (AL (AB e) (by omega))
 have DC:s.heap.objs.size≠C:=by rw [hC];exact BF (by omega)
 have U:Un (frs X.stack) (s.heap.objs.size::fp) H H' s3.heap s'.heap:=I'.base
 have exn:∀b o,s.heap.get? b=some o→b∉fp→b∉s.heap.objs.size::fp:=fun b o e hx hb=>by
  rcases qa5.mp hb with z |z
  ·exact Fj b o e z
  ·exact hx z
 have neT:∀b u,H' b=some u→b≠s.heap.objs.size:=fun b u e=>Bg e hD
 have hCn:H' C=none:=I'.free
 refine I.call' (s':={s' with heap:=h'}) (ch:=fp) ?_ ?_ ?_ I'.bare ?_
 ·show s'.os=s.os
  have:=I'.os
  rw [this]
  show s3.os=s.os
  subst e3;rfl
 ·refine ⟨fun b o e nn hb hx=>?_,fun b o e nn hb hx=>?_,fun b o e nn hx=>?_,fun b o e hx=>?_,fun b xs e=>?_,fun b o u e=>?_,fun b ps e=>?_⟩
  ·exact (sb.2 b (neC b o e)).trans (U.keep b o (k3 b o e) nn hb (exn b o e hx))
  ·obtain ⟨sl,z⟩:=U.slot b o (k3 b o e) nn hb (exn b o e hx)
   exact ⟨sl,(sb.2 b (neC b o e)).trans z⟩
  ·rw [An (Fj b o e)]
   exact U.free b o (k3 b o e) nn (exn b o e hx)
  ·obtain ⟨o',z⟩:=U.there b o (k3 b o e) (exn b o e hx)
   exact ⟨o',(sb.2 b (neC b o e)).trans z⟩
  ·have z:=U.tups b xs e
   rw [An (neT b _ z)]
   exact z
  ·have z:=U.frzs b o u e
   rw [An (neT b _ z)]
   exact z
  ·obtain ⟨more,z⟩:=U.tbls b ps e
   exact ⟨more,by rw [An (neT b _ z)];exact z⟩
 ·intro b u e
  by_cases hb:b=s.heap.objs.size
  ·subst hb
   rw [Bx] at e
   cases e
   exact ⟨hl,its,n,rv,(sb.2 _ DC).trans ho⟩
  ·rw [An hb] at e
   refine (I'.hok b u e).stay (fun c v hc z=>(sb.2 c ?_).trans z) (fun c z=>by rw [An (neT c _ z)];exact z) fun c xs z=>by rw [An (neT c _ z)];exact z
   rcases hc with rfl |hc
   ·exact Bg e hCn
   ·exact Bg hc hCn
 ·intro b hb
  obtain ⟨_,f1,_,f3,f4,f5⟩:=f b hb
  exact ⟨f3,f1,f4,f5⟩
inductive Pd (W:Nat→Nat→List V→Hp→Prop) (Xc:Cx) (σc:L2.St) (tn:Nat→Heap→Prop) (fp:List Addr) (Da:Addr) (n:Nat) (s':Shared):Prop where
 |mk (i:Nat) (acc:List V) (H':Hp) (its:List Value) (k:Nat) (w:W i n acc H') (ii:Inv Xc [] σc H' s') (st:tn i s'.heap) (fr:∀b∈fp,H' b=none) (hD:H' Da=none) (rv:Vals acc its) (ho:s'.heap.get? Da=some {cls:=.type "list",data:=.seq its.toArray k}):Pd W Xc σc tn fp Da n s'
theorem Pe {use:Option (Value→Sem Unit)} {QQ:Value→Shared→Prop} {ppos:Pos} {pins:List (Addr×Obj)} {s:Shared} {σ:L2.St} {H:Hp} {Q:VK} (hcalm:X.calm=true) (S:Hd X scope Nc cs) (hi:PI X tg iter wi)
 (hb:∀(C D:Addr) (cells:List (Str×Addr)) (fp:List Addr) (s₀:Shared) (H₀:Hp) (pins:List (Addr×Obj)),PG (B3 X Nc scope C D cells fp s₀ H₀ pins) tg g∧J0 (B3 X Nc scope C D cells fp s₀ H₀ pins) ifs tc∧PE (B3 X Nc scope C D cells fp s₀ H₀ pins) elt te)
 (hsf:∀x,foldedSetIterable iter X.env x=pure x) (I:Inv X pins σ H s) (h:J1 cs wi g tc te σ H Q)
 (AX:∀(s6:Shared) (C D:Addr) (H7:Hp) (m6:Str→Option Value),s6.heap.Ns C m6→H7 C=none→X.s₀.heap.objs.size≤C→C≠X.env.locals→(∀x c,X.env.cells.lookup x=some c→c≠C)→(∀p∈X.pn++pins,p.1≠C)→
  (∀h',Heap.SameBut C s6.heap h'→Inv X pins σ H7 {s6 with heap:=h'})→Q (.ref D) H7→compPost (model X.prog X.w) X.A X.xe use QQ (.ref D) C (.ok .next) s6):
 wpAny (model X.prog X.w) X.A (comprehension (.ListComp elt [⟨tg,iter,ifs,0⟩] scope pos) scope X.env ppos (newList []) false (eval iter X.env) use) QQ X.xe s:=by
 obtain ⟨cl,hclos,hcl,hcl2⟩:=Pa (scope:=scope) (env:=X.env) fun y hy hf=>I.ok.has y.1 (S.free y hy hf)
 refine wpAny_comprehension_free (use:=use) rfl hsf hclos S.kind S.loc (Av (hi pins s σ H _ I h) fun xv s1 h1=>Av h1 fun itv s2 h2=>?_)
 obtain ⟨it,fp,tn,J,H2,e,I2,T,st2,f2,W,⟨n0,w0⟩,turn⟩:=h2
 subst e
 refine wpAny_newObj_type ?_
 generalize e3:({s2 with heap:=s2.heap.push {cls:=.type "list",data:=.seq ([]:List Value).toArray}}:Shared)=s3
 refine Vr ?_
 have ob2:∀b∈fp,∃o,s2.heap.get? b=some o:=fun b hb=>let ⟨o,e,_⟩:=T.obj _ _ st2 b hb;⟨o,e⟩
 have I4:=Vw (fp:=fp) (cl:=cl) S I2 f2 ob2 hcl hcl2 e3.symm
 generalize e4:({s3 with heap:=pushCells (s3.heap.push {cls:=.type "dict",data:=.dict #[]}) scope.names}:Shared)=s4 at I4
 generalize ecl:cellsFrom (s3.heap.objs.size+1) scope.names cl=cells at I4
 obtain ⟨pg,pt,pe⟩:=hb s3.heap.objs.size s2.heap.objs.size cells fp s3 H2 pins
 generalize eX:B3 X Nc scope s3.heap.objs.size s2.heap.objs.size cells fp s3 H2 pins=Xc at I4 pg pt pe
 have xP:Xc.prog=X.prog:=by subst eX;rfl
 have xw:Xc.w=X.w:=by subst eX;rfl
 have xK:Xc.K=X.K:=by subst eX;rfl
 have xA:Xc.A=X.A:=by subst eX;rfl
 have xE:Xc.env=Pb X.env scope s3.heap.objs.size cells:=by subst eX;rfl
 have xL:Xc.env.locals=s3.heap.objs.size:=by subst eX;rfl
 have xe:Xc.xe=fun _ _=>False:=by subst eX;rfl
 have xc:Xc.calm=true:=by subst eX;exact hcalm
 have xex:Xc.ex=s2.heap.objs.size::fp:=by subst eX;rfl
 have okc:=I4.ok
 have k3:∀b o,s2.heap.get? b=some o→s3.heap.get? b=some o:=fun b o e=>by subst e3;exact AE _ e
 have J9:s3.heap.objs.size=s2.heap.objs.size+1:=by subst e3;exact Ck ..
 have k34:∀b o,s3.heap.get? b=some o→s4.heap.get? b=some o:=fun b o e=>by subst e4;exact pushCells_keeps _ _ b o (AE _ e)
 have hDC:s2.heap.objs.size≠Xc.env.locals:=by rw [xL];exact BF (by omega)
 have hDcell:∀x c,Xc.env.cells.lookup x=some c→c≠s2.heap.objs.size:=fun x c e=>(okc.exf _ (by rw [xex];exact A3)).2 x c e
 have hDpin:∀p∈Xc.pn,p.1≠s2.heap.objs.size:=fun p hp=>by
  have hp':p∈X.pn++pins:=by subst eX;exact hp
  exact BF (AB (I2.pin p hp').1)
 have hDfp:s2.heap.objs.size∉fp:=fun hm=>by
  obtain ⟨o,e⟩:=ob2 _ hm
  exact absurd (AB e) (CI _)
 have hDex:s2.heap.objs.size∈Xc.ex:=by rw [xex];exact A3
 have hDfs:s2.heap.objs.size∉Xc.fs:=okc.exfs _ hDex
 have fpC:∀{po:List (Addr×Obj)} {H':Hp},(∀b∈fp,H' b=none)→(∀p∈po,p.1=s2.heap.objs.size)→∀b∈fp,DR Xc po H' b:=fun {po H'} hn hp b hb=>by
  have hbx:b∈Xc.ex:=by rw [xex];exact A6 _ hb
  refine ⟨hn b hb,(okc.exf b hbx).1,okc.exfs b hbx,.inl hbx,(okc.exf b hbx).2,fun p hpp=>?_⟩
  rcases qaZ.mp hpp with z |z
  ·have hp':p∈X.pn++pins:=by subst eX;exact z
   exact (f2 b hb).2.2.2.2.2 p hp'
  ·rw [hp p z]
   intro e
   exact hDfp (e ▸ hb)
 have loop:∀sx,sx=s4→codeAny (model X.prog X.w) X.A (.compLoop (.ListComp elt [⟨tg,iter,ifs,0⟩] scope pos) 0 (.ref it) (.ref s2.heap.objs.size) Xc.env)
  (compPost (model X.prog X.w) X.A X.xe use QQ (.ref s2.heap.objs.size) s3.heap.objs.size) sx:=by
  rintro sx rfl
  refine Vs (Pd W Xc (BA cs σ) tn fp s2.heap.objs.size) ?_ n0
   ⟨0,[],H2,[],0,w0,I4,?_,fun b hb=>(f2 b hb).1,I2.hok.fresh (AD _),.nil,?_⟩
  ·rintro n s5 ⟨i,acc,H5,its,k,w5,I5,st5,fr5,hD5,rv5,ho5⟩
   have pin1:Inv Xc [(s2.heap.objs.size,{cls:=.type "list",data:=.seq its.toArray k})] (BA cs σ) H5 s5:=I5.pins_of fun p hp=>by
    rw [qaD] at hp
    subst hp
    exact ⟨ho5,hD5,hDC,hDfs,fun v z=>by cases z⟩
   have pone:∀p∈[((s2.heap.objs.size:Addr),({cls:=.type "list",data:=.seq its.toArray k}:Obj))],p.1=s2.heap.objs.size:=fun p hp=>by
    rw [qaD] at hp;subst hp;rfl
   rcases turn i n acc H5 w5 with ⟨stop,hlen,qn⟩ |⟨go,hlen,step⟩
   ·have z1:=T.done Xc xP xw xK xc i _ s5 (BA cs σ) H5 (fun _ _=>False) pin1 (fpC fr5 pone) st5 stop
    rw [xA] at z1
    refine wpAny_mono z1 (fun r s6 z1_=>?_) fun _ _ z=>False.elim z
    obtain ⟨hr,I6⟩:=z1_
    subst hr
    obtain ⟨m6,hn6,_⟩:=I6.loc
    obtain ⟨ho6,hD6,_⟩:=I6.pin _ (CW _ A3)
    rw [xL] at hn6
    have lt2:∀b,b<s2.heap.objs.size→b≠s3.heap.objs.size:=fun b hb=>BF (AL hb (by omega))
    refine AX s6 s3.heap.objs.size s2.heap.objs.size (Am H5 s2.heap.objs.size (.lst acc)) m6 hn6 ?_ (BM I2.sz (by omega)) ?_ ?_ ?_ ?_ (qn _ hD6)
    ·rw [An (EO (by omega))]
     have:=I6.free
     rw [xL] at this
     exact this
    ·obtain ⟨m2,hn2,_⟩:=I2.loc
     exact Ne.symm (lt2 _ hn2.lt)
    ·intro x c hx
     obtain ⟨v,hv⟩:=I2.cell x c hx
     obtain ⟨o,ho,_⟩:=hv
     exact lt2 _ (AB ho)
    ·intro p hp
     exact lt2 _ (AB (I2.pin p hp).1)
    ·intro h' sb
     subst eX
     exact Vx I2 f2 e3.symm rfl I6 hD6 hlen rv5 ho6 sb
   ·have z1:=T.item Xc xP xw xK xc i _ s5 (BA cs σ) H5 (fun _ _=>False) pin1 (fpC fr5 pone) st5 go
    rw [xA] at z1
    refine wpAny_mono z1 (fun r s6 z2_=>?_) fun _ _ z=>False.elim z
    obtain ⟨u,hr,h6⟩:=z2_
    subst hr
    refine wpAny_mono h6 (fun _ s7 z3_=>?_) fun _ _ z=>False.elim z
    obtain ⟨x,H7,I7,r7,y7,st7,fr7⟩:=z3_
    have I7':=I7.pinned (fp:=fp) (fpC fr7 pone) (T.obj _ _ st7)
    have z2:=pg _ s7 (BA cs σ) H7 x u _ I7' r7 (step x H7 y7)
    rw [xP,xw,xA,xe] at z2
    refine wpAny_mono z2 (fun _ s8 z4_=>?_) fun _ _ z=>False.elim z
    obtain ⟨σ8,H8,I8,sub8,q8⟩:=z4_
    have z3:=pt _ s8 σ8 H8 _ I8 q8
    rw [xP,xw,xA,xe] at z3
    refine wpAny_mono z3 (fun ok s9 z5_=>?_) fun _ _ z=>False.elim z
    obtain ⟨H9,I9,q9⟩:=z5_
    have back:∀{sy:Shared} {Hy:Hp},Inv Xc ([(s2.heap.objs.size,{cls:=.type "list",data:=.seq its.toArray k})]++HZ fp s7.heap) σ8 Hy sy→
     Inv Xc [] (BA cs σ) Hy sy∧tn (i+1) sy.heap∧(∀b∈fp,Hy b=none)∧Hy s2.heap.objs.size=none∧sy.heap.get? s2.heap.objs.size=some {cls:=.type "list",data:=.seq its.toArray k}:=fun {sy Hy} Iy=>by
     obtain ⟨ho,hD,_⟩:=Iy.pin _ (CW _ (Jp _ A3))
     refine ⟨(Iy.pins_of fun p hp=>absurd hp (by simp)).weak (sub8.1) (fun j v z=>sub8.2 j v z),T.keep _ _ _ st7 fun b hb o e=>(Iy.pin (b,o) (CW _ (CW _ (JC hb e)))).1,fun b hb=>?_,hD,ho⟩
     obtain ⟨o,e,_⟩:=T.obj _ _ st7 b hb
     exact (Iy.pin (b,o) (CW _ (CW _ (JC hb e)))).2.1
    cases ok with
    |false=>
     simp only [CD,if_false] at q9 ⊢
     obtain ⟨n',hn',w'⟩:=q9
     obtain ⟨a1,a2,a3,a4,a5⟩:=back I9
     exact ⟨n',hn',i+1,acc,H9,its,k,w',a1,a2,a3,a4,rv5,a5⟩
    |true=>
     simp only [if_true] at q9 ⊢
     have z4:=pe _ s9 σ8 H9 _ I9 q9
     rw [xP,xw,xA,xe] at z4
     refine wpAny_mono z4 (fun y s10 z6_=>?_) fun _ _ z=>False.elim z
     obtain ⟨yv,H10,I10,r10,n',hn',w'⟩:=z6_
     obtain ⟨a1,a2,a3,a4,a5⟩:=back I10
     have hlen':=rv5.length
     refine wpAny_list_append_plain ⟨k,a5⟩ (fun h' ⟨k',hl'⟩ sb=>?_) (by rw [AZ];omega)
     have tu:Inv Xc [] (BA cs σ) H10 {s10 with heap:=h'}:=a1.turned (t':=s10.toks) (it:=s2.heap.objs.size) (fun b o hb e=>(sb.2 b hb).trans e) a4 hDC (.inl hDex) hDcell (fun p hp=>by
      rcases qaZ.mp hp with z |z
      ·exact hDpin p z
      ·exact absurd z (by simp))
     refine ⟨n',hn',i+1,acc++[yv],H10,its++[y],k',w',tu,T.keep _ _ _ a2 (fun b hb o e=>(sb.2 b (fun z=>hDfp (z ▸ hb))).trans e),a3,a4,rv5.append (.cons r10 .nil),?_⟩
     rw [hl']
     simp
  ·exact T.keep _ _ _ st2 fun b hb o e=>k34 b o (k3 b o e)
  ·refine k34 _ _ ?_
   subst e3
   exact Bj _ rfl
 have AX:=loop s4 rfl
 have hst4:tn 0 s4.heap:=T.keep _ _ _ st2 fun b hb o e=>k34 b o (k3 b o e)
 rw [xE] at AX
 have:=codeAny_compStart_list AX (T.self X.A 0 s4 _ _ hst4 AX)
 exact this
theorem Vy (hcalm:X.calm=true) (S:Hd X scope Nc cs) (hi:PI X tg iter wi)
 (hb:∀(C D:Addr) (cells:List (Str×Addr)) (fp:List Addr) (s₀:Shared) (H₀:Hp) (pins:List (Addr×Obj)),PG (B3 X Nc scope C D cells fp s₀ H₀ pins) tg g∧J0 (B3 X Nc scope C D cells fp s₀ H₀ pins) ifs tc∧PE (B3 X Nc scope C D cells fp s₀ H₀ pins) elt te)
 (hsf:∀x,foldedSetIterable iter X.env x=pure x:=by intro _;rfl):PE X (.ListComp elt [⟨tg,iter,ifs,0⟩] scope pos) (J1 cs wi g tc te):=by
 intro pins s σ H Q I h
 rw [eval_ListComp]
 exact Pe (use:=none) hcalm S hi hb hsf I h fun s6 C D H7 m6 hn _ _ _ _ _ inv q=>⟨m6,hn,fun h' sb=>⟨.ref D,H7,inv h' sb,rfl,q⟩⟩
end
def noErr {α:Type}:Out α→Out α
 |.ok a h=>.ok a h
 |_=>.stuck
@[simp] theorem Za5 {α:Type} (a:α) (h:HD):noErr (.ok a h)=.ok a h:=rfl
theorem Pf {α β γ δ:Type} {K:PySem.W.Frag} {R:List Addr→Hp→α→β→Prop} {R':List Addr→Hp→γ→δ→Prop} {m:List Addr} {H:Hp} {E:XK} {Q:δ→Hp→Prop} {Q':β→Hp→Prop} {o:Out α} {k:α→HD→Out γ}
 (h:Post K R' m H E Q ((noErr o).bind k)) (f:∀a h1 v m1 H1,o=.ok a h1→m <+:m1→Kp H H1→HR K m1 h1 H1→R m1 H1 a v→Post K R' m1 H1 E Q (k a h1)→Q' v H1):Post K R m H E0 Q' o:=by
 cases o with
 |ok a h1=>exact fun v m1 H1 p kk hr r=>f a h1 v m1 H1 rfl p kk hr r (Post.ahead p kk h)
 |err C fs h1=>exact False.elim h
 |stuck=>exact False.elim h
def B4 (cs:List (Option Nat)) (ρ:Ai):Ai:=cs.map fun o=>o.bind fun j=>(ρ[j]?).join
theorem join_some {α:Type} {l:List (Option α)} {j:Nat} {a:α}:(l[j]?).join=some a↔l[j]?=some (some a):=by
 cases h:l[j]? with
 |none=>simp
 |some o=>simp
theorem ER.comp {K:PySem.W.Frag} {m:List Addr} {H:Hp} {ρ:Ai} {σ:L2.St} (cs:List (Option Nat)) (er:ER K m H ρ σ):ER K m H (B4 cs ρ) (BA cs σ):=by
 refine ⟨by simp [B4,BA],fun i d e=>?_⟩
 unfold B4 at e
 rw [BX] at e
 cases ec:cs[i]? with
 |none=>rw [ec] at e;cases e
 |some o=>
  rw [ec] at e
  cases o with
  |none=>cases e
  |some j=>
   simp only [HP,Option.bind_some,Option.some.injEq] at e
   obtain ⟨v,e1,r⟩:=er.2 j d (join_some.mp e)
   refine ⟨v,?_,r⟩
   unfold BA
   rw [BX,ec]
   simp only [HP,Option.bind_some,Option.some.injEq]
   exact join_some.mpr e1
theorem Sub.set {cs:List (Option Nat)} {σ:L2.St} {σ':L2.St} {i:Nat} {v:V} (h:cs[i]?=some none) (s:Sub (BA cs σ) σ'):Sub (BA cs σ) (σ'.set i (some v)):=by
 refine ⟨by rw [s.1];simp,fun j w e=>?_⟩
 have hj:i≠j:=by
  rintro rfl
  unfold BA at e
  rw [BX,h] at e
  cases e
 rw [Bi hj]
 exact s.2 j w e
theorem Sub.refl (σ:L2.St):Sub σ σ:=⟨rfl,fun _ _ h=>h⟩
def IB (K:PySem.W.Frag) (cs:List (Option Nat)) (gg:TG) (sg:MG):Prop:=
 ∀m H d v ρ σ0 ρ' Q,DV K m H d v→ER K m H ρ (BA cs σ0)→sg d ρ=some ρ'→(∀σ',Sub (BA cs σ0) σ'→ER K m H ρ' σ'→Q σ' H)→gg v (BA cs σ0) H Q
theorem Dr {K:PySem.W.Frag} {cs:List (Option Nat)} {i:Nat} (h:cs[i]?=some none):IB K cs (Cm i) (A7 i):=fun m H d v ρ σ0 ρ' Q r er e q=>by
 simp only [A7,Option.some.injEq] at e
 subst e
 exact q _ ((Sub.refl _).set h) (er.set r)
theorem IC {K:PySem.W.Frag} {cs:List (Option Nat)} {i j:Nat} (h:cs[i]?=some none) (h':cs[j]?=some none):IB K cs (FL K 2 (Do (Cm i) (Do (Cm j) FK))) (BV i j):=fun m H d v ρ σ0 ρ' Q r er e q=>by
 unfold BV at e
 split at e
 ·rename_i a b
  cases e
  simp only [DV,DVs] at r
  obtain ⟨p,vs,rfl,hp,v1,w1,rfl,r1,v2,w2,rfl,r2,rfl⟩:=r
  exact ⟨p,_,rfl,SqT.of hp,rfl,v1,_,rfl,v2,_,rfl,rfl,q _ (((Sub.refl _).set h).set h') ((er.set r1).set r2)⟩
 ·cases e
abbrev Mc (X:Cx) (E:XK) (ifs:List Expr) (t:MT):Prop:=J0 X ifs (G1 X.K E t)
def Bo:MT:=fun _ h=>.ok true h
theorem Cd {X:Cx} {E:XK}:Mc X E [] Bo:=fun pins s σ H Q I z1_=>by obtain ⟨m,ρ,h,hr,er,p⟩:=z1_;exact (Vt pins s σ H Q I (p true m H (Ay _) (.refl _) hr rfl))
open Classical in
noncomputable def CZ (src:A0) (items:List D) (sg:MG) (t:MT) (f:ME) (ρc:Ai):List D→HD→Out (List D)
 |[],h=>if Bz src items h then .ok [] h else .stuck
 |d::ds,h=>if Bz src items h then match sg d ρc with
   |none=>.stuck
   |some ρ1=>(noErr (t ρ1 h)).bind fun b h1=>if b=true then (noErr (f ρ1 h1)).bind fun y h2=>(CZ src items sg t f ρc ds h2).bind fun ys h3=>.ok (y::ys) h3 else CZ src items sg t f ρc ds h1
  else .stuck
noncomputable def AV (cs:List (Option Nat)) (it:MI) (sg:MG) (t:MT) (f:ME):ME:=fun ρ h=>(it ρ h).bind fun x h1=>if x.1.length≤sizeLine then (CZ x.2 x.1 sg t f (B4 cs ρ) x.1 h1).bind B2 else .stuck
theorem Out.bind_assoc {α β γ:Type} (o:Out α) (k:α→HD→Out β) (l:β→HD→Out γ):(o.bind k).bind l=o.bind fun a h=>(k a h).bind l:=by cases o<;>rfl
section
variable {X:Cx} {E:XK} {elt tg iter:Expr} {ifs:List Expr} {scope:Scope} {pos:Pos} {Nc:List Str} {cs:List (Option Nat)} {it:MI} {gg:TG} {sg:MG} {t:MT} {f:ME}
inductive Pg (K:PySem.W.Frag) (E:XK) (Q:VK) (src:A0) (items:List D) (sg:MG) (t:MT) (f:ME) (ρc:Ai) (m1:List Addr) (H1:Hp) (i n:Nat) (acc:List V) (H2:Hp):Prop where
 |mk (e:n=items.length - i) (l:i≤items.length) (a:acc.length≤i) (m2:List Addr) (h2:HD) (dacc:List D) (p:m1 <+:m2) (k:Kp H1 H2) (hr:HR K m2 h2 H2) (da:DVs K m2 H2 dacc acc) (q:Post K (rD K) m2 H2 E Q ((CZ src items sg t f ρc (items.drop i) h2).bind fun ys h3=>B2 (dacc++ys) h3)):Pg K E Q src items sg t f ρc m1 H1 i n acc H2
theorem Ph (hg:IB X.K cs gg sg):∀σ H Q,tD X.K E (AV cs it sg t f) σ H Q→J1 cs (tM X.K (Iv X.K) E it) gg (G1 X.K E0 t) (tD X.K E0 f) σ H Q:=by
 refine ?_
 rintro σ H Q ⟨m,ρ,h,hr,er,p⟩
 refine ⟨m,ρ,h,hr,er,Post.bind p fun x h1 J m1 H1 _ p1 k1 hr1 r1 q1=>?_⟩
 obtain ⟨items,src⟩:=x
 dsimp only at q1
 split at q1
 ·rename_i hz
  have er1:ER X.K m1 H1 (B4 cs ρ) (BA cs σ):=(er.keep p1 k1).comp cs
  refine ⟨Pg X.K E Q src items sg t f (B4 cs ρ) m1 H1,
   ⟨items.length,rfl,EF _,AD _,m1,h1,[],Ay _,.refl _,hr1,.nil,by simpa using q1⟩,?_⟩
  rintro i n acc H2 ⟨rfl,hi',ha,m2,h2,dacc,p2,k2,hr2,da,q2⟩
  by_cases hlt:i<items.length
  ·rw [Lj hlt] at q2
   unfold CZ at q2
   split at q2
   ·rename_i hs
    obtain ⟨hgo,hy⟩:=(r1 i m2 h2 H2 p2 k2 hr2 hs).1 hlt
    refine .inr ⟨hgo,by omega,fun y H3 hyl=>?_⟩
    obtain ⟨k3,hr3,d,ed,rd⟩:=hy y H3 hyl
    have ed':d=items[i]:=by rw [AW hlt] at ed;exact (Option.some.inj ed).symm
    subst ed'
    split at q2
    ·exact q2.elim
    ·rename_i ρ3 es
     have er3:ER X.K m2 H3 (B4 cs ρ) (BA cs σ):=er1.keep p2 (k2.trans k3)
     refine hg m2 H3 _ y (B4 cs ρ) σ ρ3 _ rd er3 es fun σ4 sub4 er4=>⟨sub4,m2,ρ3,h2,hr3,er4,?_⟩
     rw [Out.bind_assoc] at q2
     refine Pf (Post.ahead (Ay _) k3 q2) fun b h5 v m5 H5 _ p5 k5 hr5 r5 q5=>?_
     cases r5
     cases b with
     |false=>
      simp only [CD,if_false] at q5 ⊢
      exact ⟨items.length - (i+1),by omega,rfl,hlt,by omega,m5,h5,dacc,p2.trans p5,(k2.trans k3).trans k5,hr5,DVs.keep p5 (k3.trans k5) da,q5⟩
     |true=>
      simp only [if_true] at q5 ⊢
      rw [Out.bind_assoc] at q5
      refine ⟨m5,ρ3,h5,hr5,er4.keep p5 k5,Pf q5 fun z h6 w m6 H6 _ p6 k6 hr6 r6 q6=>?_⟩
      refine ⟨items.length - (i+1),by omega,rfl,hlt,by simp;omega,m6,h6,dacc++[z],(p2.trans p5).trans p6,((k2.trans k3).trans k5).trans k6,hr6,(DVs.keep (p5.trans p6) ((k3.trans k5).trans k6) da).app (.cons r6 .nil),?_⟩
      rw [Out.bind_assoc] at q6
      simp only [Out.bind_ok] at q6
      simpa using q6
   ·exact q2.elim
  ·have he:i=items.length:=Nat.le_antisymm hi' (HN hlt)
   subst he
   rw [List.drop_length] at q2
   unfold CZ at q2
   split at q2
   ·rename_i hs
    simp only [Out.bind_ok,GO] at q2
    obtain ⟨z1,z2⟩:=Ig hr2 da q2
    exact .inl ⟨(r1 _ m2 h2 H2 p2 k2 hr2 hs).2 rfl,z1,z2⟩
   ·exact q2.elim
 ·exact q1.elim
theorem Ds (hcalm:X.calm=true) (S:Hd X scope Nc cs) (hi:EL X E tg iter it) (hg:IB X.K cs gg sg)
 (hb:∀(C D:Addr) (cells:List (Str×Addr)) (fp:List Addr) (s₀:Shared) (H₀:Hp) (pins:List (Addr×Obj)),PG (B3 X Nc scope C D cells fp s₀ H₀ pins) tg gg∧Mc (B3 X Nc scope C D cells fp s₀ H₀ pins) E0 ifs t∧Ev (B3 X Nc scope C D cells fp s₀ H₀ pins) E0 elt f)
 (hsf:∀x,foldedSetIterable iter X.env x=pure x:=by intro _;rfl):Ev X E (.ListComp elt [⟨tg,iter,ifs,0⟩] scope pos) (AV cs it sg t f):=by
 exact BU (Vy (g:=gg) (tc:=G1 X.K E0 t) (te:=tD X.K E0 f) hcalm S hi hb hsf) (Ph hg)
theorem ID {i:Nat} {x:Str} {pos' pos2:Pos} (hcalm:X.calm=true) (hN:X.N.Nodup) (hix:X.N[i]?=some x) (hx:GV X.env.scope x) (S:Hd X scope Nc cs) (hi:EL X E tg iter it) (hg:IB X.K cs gg sg)
 (hb:∀(C D:Addr) (cells:List (Str×Addr)) (fp:List Addr) (s₀:Shared) (H₀:Hp) (pins:List (Addr×Obj)),PG (B3 X Nc scope C D cells fp s₀ H₀ pins) tg gg∧Mc (B3 X Nc scope C D cells fp s₀ H₀ pins) E0 ifs t∧Ev (B3 X Nc scope C D cells fp s₀ H₀ pins) E0 elt f)
 (hsf:∀x,foldedSetIterable iter X.env x=pure x:=by intro _;rfl) (hsw:swapsWith (.ListComp elt [⟨tg,iter,ifs,0⟩] scope pos) (some (.Name x pos')) pos2.line X.env=pure true:=by rfl)
 (hf:X.fn x=true∨X.env.scope.names.lookup x=some .local:=by first |exact .inl rfl |exact .inr rfl |assumption):Ex X E (.Assign [.Name x pos'] (.ListComp elt [⟨tg,iter,ifs,0⟩] scope pos) pos2) (Au i (AV cs it sg t f)):=by
 rintro pins s σ H D I ⟨m,ρ,h,hr,er,p⟩
 have hq:J1 cs (tM X.K (Iv X.K) E it) gg (G1 X.K E0 t) (tD X.K E0 f) σ H (fun v H1=>D.nx (σ.set i (some v)) H1):=Ph hg σ H _ ⟨m,ρ,h,hr,er,PostS.bind p fun y h1 v m1 H1 _ p1 k1 hr1 r1 q1=>(q1.here hr1) _ ((er.keep p1 k1).set r1)⟩
 rw [exec_Assign_Name_used _ _ _ _ hsw]
 refine wpAny_bind (wpAny_standAt (wpAny_bind ?_))
 show wpAny _ X.A (do let _ ←comprehension (.ListComp elt [⟨tg,iter,ifs,0⟩] scope pos) scope X.env _ (newList []) false (eval iter X.env) (some (assign (.Name x pos') X.env))) _ _ s
 refine wpAny_bind (wpAny_mono (Pe (QQ:=fun _ s'=>SP X pins D .next s') hcalm S hi hb hsf I hq fun s6 C Dd H7 m6 hn hC h0 hL hc hp inv q=>?_) (fun _ s' z=>wpAny_pure (wpAny_pure z)) fun _ _ z=>z)
 have I6:Inv X pins σ H7 s6:=inv s6.heap ⟨rfl,fun _ _=>rfl⟩
 refine wpAny_assign_Name (Jx I6 hN hix hx (v:=.ref Dd) rfl (fun s7 I7 z3_=>?_) hf)
 obtain ⟨a,sb7,ha⟩:=z3_
 have nCa:C≠a:=by
  rcases ha with z |z
  ·rw [z];exact hL
  ·exact Ne.symm (hc x a z)
 obtain ⟨o,es,ep,e1,e2⟩:=hn
 refine ⟨m6,⟨o,es,ep,(sb7.2 C nCa).trans e1,e2⟩,fun h' sb=>?_⟩
 exact ⟨_,H7,I7.turned (t':=s7.toks) (it:=C) (fun b o hb e=>(sb.2 b hb).trans e) hC hL (.inr h0) hc hp,q⟩
end
section
variable {X:Cx} {E:XK}
def DB:D→HD→Option String
 |.non,_=>some "NoneType"
 |.bl _,_=>some "bool"
 |.int _,_=>some "int"
 |.str _,_=>some "str"
 |.tup _,_=>some "tuple"
 |.loc l,h=>match h[l]? with
  |some (.lst _)=>some "list"
  |_=>none
 |_,_=>none
theorem Vz {m:List Addr} {H:Hp} {h:HD} {d:D} {v:V} {t:String} (hr:HR X.K m h H) (r:DV X.K m H d v) (e:DB d h=some t):DT X.K H v (.type t):=by
 cases d with
 |non=>simp only [DB,Option.some.injEq,DV] at e r;subst e r;exact .non
 |bl b=>simp only [DB,Option.some.injEq,DV] at e r;subst e r;exact .bl _
 |int i=>simp only [DB,Option.some.injEq,DV] at e r;subst e r;exact .int _
 |str x=>simp only [DB,Option.some.injEq,DV] at e r;subst e r;exact .str _
 |tup ds=>simp only [DB,Option.some.injEq,DV] at e r;subst e;obtain ⟨a,vs,rfl,ha,_⟩:=r;exact .tup ha
 |loc l=>
  simp only [DV] at r
  obtain ⟨a,rfl,ha⟩:=r
  simp only [DB] at e
  split at e
  ·rename_i ds el
   cases e
   obtain ⟨vs,hv,_⟩:=hr.cells l _ a el ha
   exact .lst hv
  ·cases e
 |_=>simp [DB] at e
def subL:List (String×String×Bool):=[("NoneType","int",false),("bool","int",true),("int","int",true),("str","int",false),("tuple","int",false),("list","int",false),("NoneType","bool",false),("bool","bool",true),("int","bool",false),("str","bool",false),("tuple","bool",false),("list","bool",false),("NoneType","tuple",false),("bool","tuple",false),("int","tuple",false),("str","tuple",false),("tuple","tuple",true),("list","tuple",false),("NoneType","str",false),("bool","str",false),("int","str",false),("str","str",true),("tuple","str",false),("list","str",false),("NoneType","list",false),("bool","list",false),("int","list",false),("str","list",false),("tuple","list",false),("list","list",true),("dict","int",false),("dict","bool",false),("dict","tuple",false),("dict","str",false),("dict","list",false)]
def J2 (t c:String):Option Bool:=(subL.find? fun p=>p.1==t&&p.2.1==c).map fun p=>p.2.2
theorem VA {K:PySem.W.Frag}:∀p∈subL,PySem.W.kitOne K (.type p.1) (.type p.2.1)=some p.2.2:=by
 unfold subL
 simp only [List.forall_mem_cons]
 exact ⟨rfl,rfl,rfl,rfl,rfl,rfl,rfl,rfl,rfl,rfl,rfl,rfl,rfl,rfl,rfl,rfl,rfl,rfl,rfl,rfl,rfl,rfl,rfl,rfl,rfl,rfl,rfl,rfl,rfl,rfl,rfl,rfl,rfl,rfl,rfl,fun _ h=>nomatch h⟩
theorem Pi {K:PySem.W.Frag} {t c:String} {b:Bool} (h:J2 t c=some b):PySem.W.kitOne K (.type t) (.type c)=some b:=by
 unfold J2 at h
 rw [qaY] at h
 obtain ⟨p,hp,rfl⟩:=h
 have e:=List.find?_some hp
 rw [CF,beq_iff_eq,beq_iff_eq] at e
 rw [←e.1,←e.2]
 exact VA p (List.mem_of_find?_eq_some hp)
def BB:D→D→HD→Out D:=fun x y h=>match y,DB x h with
 |.ty T,some t=>match J2 t T with
  |some b=>.ok (.bl b) h
  |none=>.stuck
 |_,_=>.stuck
theorem J3 {x:Str} {T:String} {pos:Pos} (hg:Gl X x) (hm:X.mg x=none) (hv:bootBuiltins x=some (.type T)) (hn:x≠"__name__":=by decide) (hd:(x==("__debug__":Str))=false:=by decide):Ev X E (.Name x pos) (mC (.ty T)):=
 G3 (SK (v:=.ty T) hg hm hv rfl hn hd) fun _ _=>by simp [DV]
theorem Md (ns:List Int):∀j,j≤ns.length→preSum (fun i=>ns.getD i 0) j=(ns.take j).sum
 |0,_=>by simp [preSum]
 |j+1,h=>by
  rw [preSum,Md ns j (by omega),List.take_succ_eq_append_getElem (by omega),B7]
  simp [DO,AW (show j<ns.length by omega)]
theorem Me {h h2 h':Heap} {it:Addr} (k:∀b o,h.get? b=some o→h2.get? b=some o) (hit:h.objs.size≤it) (hk:∀b o,b∉[it]→h2.get? b=some o→h'.get? b=some o):∀b o,h.get? b=some o→h'.get? b=some o:=fun b o e=>
 hk b o (by rw [qaD];exact BF (AL (AB e) hit)) (k b o e)
theorem Pj {ns:List Int} {its:List Value} (r:Vals (ns.map V.int) its) {i:Nat} {v:Value} (e:its.toArray[i]?=some v):∃t,v=.int (ns.getD i 0) t:=by
 have e':its[i]?=some v:=by simpa using e
 have hi:i<its.length:=(qa2.mp e').1
 have hl:ns.length=its.length:=by have:=r.length;simpa using this
 have hn:(ns.map V.int)[i]?=some (V.int (ns.getD i 0)):=by
  rw [BX,AW (by omega)]
  simp [DO,AW (show i<ns.length by omega)]
 obtain ⟨u,h1,t,h2⟩:=r.get hn
 rw [e'] at h1
 cases h1
 exact ⟨t,h2⟩
theorem VB (hc:X.calm=true):CY X (.builtin "sum") (fun xs H Q=>∃(p:Addr) (ns:List Int),xs=[.ref p]∧(SqL X.K H p (ns.map V.int)∨SqT X.K H p (ns.map V.int))∧Q (.int ns.sum) H):=by
 intro pins s σ H xs us Q I r h
 obtain ⟨p,ns,rfl,hs,q⟩:=h
 obtain ⟨u,rfl,rx⟩:=DS r
 cases rx
 have hh:X.A.in1.handled=none:=I.ok.hd hc
 rcases hs with hs |hs
 ·obtain ⟨its,rv,pl,hz⟩:=I.list hs
  have hl:=rv.length
  rw [CH] at hl
  have hlt:p<s.heap.objs.size:=by obtain ⟨_,e,_⟩:=pl.isList;exact AB e
  refine call_sum_walkG (wpAny_pyIter_list pl.isList ?_)
  refine ⟨s.heap.objs.size,[s.heap.objs.size,p],[s.heap.objs.size],its.toArray.size,_,_,fun i=>ns.getD i 0,rfl,Walks.list (A:=X.A.in1) hh _ p (BF hlt) its.toArray,⟨⟨_,Bj _ rfl,rfl,rfl⟩,pl.isList.push _⟩,fun b hb=>?_,fun i v e=>Pj rv e,fun h' tk t' hk=>?_⟩
  ·show b<(s.heap.push _).objs.size
   rw [Ck]
   rcases qa5.mp hb with z |z
   ·rw [z];exact Nat.lt_succ_self _
   ·rw [qaD.mp z];exact FD hlt
  ·have e:preSum (fun i=>ns.getD i 0) its.toArray.size=ns.sum:=by
    rw [AZ,←hl,Md ns _ (AD _),List.take_length]
   rw [e]
   exact ⟨.int ns.sum,H,I.kept (Me (fun b o e=>AE _ e) (AD _) hk),⟨t',rfl⟩,q⟩
 ·obtain ⟨its,rv,pl,hz⟩:=I.tuple hs
  have hl:=rv.length
  rw [CH] at hl
  have hT:s.heap.IsTuple p its.toArray:=pl
  have hlt:p<s.heap.objs.size:=pl.lt
  refine call_sum_walkG (wpAny_pyIter_tuple hT ?_)
  refine ⟨s.heap.objs.size,[s.heap.objs.size,p],[s.heap.objs.size],its.toArray.size,_,_,fun i=>ns.getD i 0,rfl,Walks.tuple (A:=X.A.in1) hh _ p (BF hlt) its.toArray,⟨⟨_,Bj _ rfl,rfl,rfl⟩,hT.push _⟩,fun b hb=>?_,fun i v e=>Pj rv e,fun h' tk t' hk=>?_⟩
  ·show b<(s.heap.push _).objs.size
   rw [Ck]
   rcases qa5.mp hb with z |z
   ·rw [z];exact Nat.lt_succ_self _
   ·rw [qaD.mp z];exact FD hlt
  ·have e:preSum (fun i=>ns.getD i 0) its.toArray.size=ns.sum:=by
    rw [AZ,←hl,Md ns _ (AD _),List.take_length]
   rw [e]
   exact ⟨.int ns.sum,H,I.kept (Me (fun b o e=>AE _ e) (AD _) hk),⟨t',rfl⟩,q⟩
def Fq:D→Option Int
 |.int i=>some i
 |_=>none
def Dc:D→HD→Out D:=fun x h=>match By x h with
 |some ds=>match AS (ds.map Fq) with
  |some ns=>.ok (.int ns.sum) h
  |none=>.stuck
 |none=>.stuck
theorem Mf {m:List Addr} {H:Hp}:∀{ds:List D} {vs:List V} {ns:List Int},DVs X.K m H ds vs→AS (ds.map Fq)=some ns→vs=ns.map V.int
 |[],vs,ns,r,e=>by
  simp only [DVs] at r
  simp [AS] at e
  subst r e
  rfl
 |d::ds,vs,ns,r,e=>by
  simp only [DVs] at r
  obtain ⟨v,w,rfl,rv,rw'⟩:=r
  rw [Bf] at e
  cases d with
  |int i=>
   simp only [Fq,AS,qaY] at e
   obtain ⟨ns',e1,rfl⟩:=e
   simp only [DV] at rv
   subst rv
   rw [Mf rw' e1]
   rfl
  |_=>simp [Fq,AS] at e
theorem J4 (hc:X.calm=true):Ct X (.builtin "sum") (Ao Dc):=by
 refine ⟨_,VB hc,fun m H h E ds vs Q hr r q=>Fm r q fun d v ev rv q=>?_⟩
 unfold Dc at q
 split at q
 ·rename_i xs e
  split at q
  ·rename_i ns en
   obtain ⟨p,ws,rfl,hs,dv⟩:=JY hr rv e
   have:=Mf dv en
   subst this
   exact ⟨p,ns,ev,hs,Ba hr q (by simp [DV])⟩
  ·exact q.elim
 ·exact q.elim
theorem VC (hc:X.calm=true):CY X (.builtin "all") (fun xs H Q=>∃(p:Addr) (bs:List Bool),xs=[.ref p]∧SqL X.K H p (bs.map V.bl)∧Q (.bl (bs.all id)) H):=by
 intro pins s σ H xs us Q I r h
 obtain ⟨p,bs,rfl,hs,q⟩:=h
 obtain ⟨u,rfl,rx⟩:=DS r
 cases rx
 have hh:X.A.in1.handled=none:=I.ok.hd hc
 obtain ⟨its,rv,pl,hz⟩:=I.list hs
 have hl:=rv.length
 rw [CH] at hl
 have hlt:p<s.heap.objs.size:=by obtain ⟨_,e,_⟩:=pl.isList;exact AB e
 have item:∀(i:Nat) (v:Value),its.toArray[i]?=some v→v=.bool (bs.getD i true):=fun i v e=>by
  have e':its[i]?=some v:=by simpa using e
  have hi:i<its.length:=(qa2.mp e').1
  have hn:(bs.map V.bl)[i]?=some (V.bl (bs.getD i true)):=by
   rw [BX,AW (by omega)]
   simp [DO,AW (show i<bs.length by omega)]
  obtain ⟨u,h1,h2⟩:=rv.get hn
  rw [e'] at h1
  cases h1
  exact h2
 refine call_all_walk (wpAny_pyIter_list pl.isList ?_)
 refine ⟨s.heap.objs.size,[s.heap.objs.size,p],[s.heap.objs.size],its.toArray.size,_,_,fun i=>bs.getD i true,rfl,Walks.list (A:=X.A.in1) hh _ p (BF hlt) its.toArray,⟨⟨_,Bj _ rfl,rfl,rfl⟩,pl.isList.push _⟩,fun i v s' Q' E' e hQ=>?_,fun h' tk hk=>?_⟩
 ·rw [item i v e]
  exact wpAny_truthy_bool hQ
 ·have e:(List.range its.toArray.size).all (fun i=>bs.getD i true)=bs.all id:=by
   rw [AZ,←hl]
   apply qbR.mpr
   simp only [qaO,qbA,id]
   constructor
   ·intro h b hb
    obtain ⟨i,hi,rfl⟩:=Jq hb
    have:=h i hi
    simpa [DO,AW hi] using this
   ·intro h i hi
    have:=h bs[i] (GN hi)
    simpa [DO,AW hi] using this
  rw [e]
  exact ⟨.bl _,H,I.kept (Me (fun b o e=>AE _ e) (AD _) hk),rfl,q⟩
def He:D→Option Bool
 |.bl b=>some b
 |_=>none
def DD:D→HD→Out D:=fun x h=>match x with
 |.loc l=>match h[l]? with
  |some (.lst ds)=>match AS (ds.map He) with
   |some bs=>.ok (.bl (bs.all id)) h
   |none=>.stuck
  |_=>.stuck
 |_=>.stuck
theorem Pk {m:List Addr} {H:Hp}:∀{ds:List D} {vs:List V} {bs:List Bool},DVs X.K m H ds vs→AS (ds.map He)=some bs→vs=bs.map V.bl
 |[],vs,ns,r,e=>by
  simp only [DVs] at r
  simp [AS] at e
  subst r e
  rfl
 |d::ds,vs,ns,r,e=>by
  simp only [DVs] at r
  obtain ⟨v,w,rfl,rv,rw'⟩:=r
  rw [Bf] at e
  cases d with
  |bl i=>
   simp only [He,AS,qaY] at e
   obtain ⟨ns',e1,rfl⟩:=e
   simp only [DV] at rv
   subst rv
   rw [Pk rw' e1]
   rfl
  |_=>simp [He,AS] at e
theorem Mg (hc:X.calm=true):Ct X (.builtin "all") (Ao DD):=by
 refine ⟨_,VC hc,fun m H h E ds vs Q hr r q=>Fm r q fun d v ev rv q=>?_⟩
 unfold DD at q
 split at q
 ·rename_i l
  split at q
  ·rename_i xs el
   split at q
   ·rename_i bs eb
    simp only [DV] at rv
    obtain ⟨a,rfl,ha⟩:=rv
    obtain ⟨ws,hv,dv⟩:=hr.cells _ _ a el ha
    have:=Pk dv eb
    subst this
    exact ⟨a,bs,ev,SqL.of hv,Ba hr q (by simp [DV])⟩
   ·exact q.elim
  ·exact q.elim
 ·exact q.elim
def Hf:D→D→HD→Out D:=fun x y h=>match x with
 |.loc l=>match h[l]? with
  |some (.lst ds)=>if ds.length<sizeLine then .ok .non (h.set l (.lst (ds++[y]))) else .stuck
  |_=>.stuck
 |_=>.stuck
def Cp:D→HD→Out D:=fun x h=>match x with
 |.loc l=>match h[l]? with
  |some (.lst _)=>.ok x h
  |_=>.stuck
 |_=>.stuck
def ES (f g:ME):ME:=fun ρ h=>((f ρ h).bind Cp).bind fun x h1=>(g ρ h1).bind fun y h2=>Hf x y h2
theorem J5 {o e:Expr} {f g:ME} {apos cpos:Pos} (ho:Ev X E o f) (he:Ev X E e g)
 (hbase:attributeBase o "append" X.env (eval o X.env)=eval o X.env:=by rfl)
 (hfew:((backTo cpos (starEach [e] X.env)).all (fun x=>!x.1)&&(backToKw cpos (keywordEach [] X.env)).all (fun x=>x.1.isSome)
  &&decide ([e].length+([]:List Keyword).length+(if ([]:List Keyword).isEmpty then 0 else 1)<30))=true:=by rfl)
 (hline:(apos.endLine==cpos.line)=true:=by rfl) (hs:starEach [e] X.env=(false,eval e X.env)::starEach [] X.env:=by rfl) (hplain:(backTo cpos (starEach [] X.env)).any (·.1)=false:=by rfl):
 Ev X E (.Call (.Attribute o "append" apos) [e] [] cpos) (ES f g):=
 BU (UT PySem.F.plainAttrs_list PySem.F.slot_list_append PySem.F.type_list_append UX ho (Ad he Ag hs) hbase hfew hline hs hplain) fun σ H Q z1_=>by
  obtain ⟨m,ρ,h,hr,er,p⟩:=z1_
  refine ⟨m,ρ,h,hr,er,?_⟩
  unfold ES at p
  rw [Out.bind_assoc] at p
  refine Post.bind p fun x h1 v m1 H1 eo p1 k1 hr1 r1 q1=>?_
  clear eo
  unfold Cp at q1
  split at q1
  ·rename_i l
   split at q1
   ·rename_i ds el
    simp only [Out.bind_ok] at q1
    have r1':=r1
    simp only [rD,DV] at r1'
    obtain ⟨a,rfl,ha⟩:=r1'
    obtain ⟨ws,hv,dv⟩:=hr1.cells l _ a el ha
    refine ⟨.inl ⟨rfl,ws,SqL.of hv⟩,m1,ρ,h1,hr1,er.keep p1 k1,?_⟩
    have q2:Post X.K (rD X.K) m1 H1 E Q ((Aa g Ae ρ h1).bind fun ys h2=>match ys with
     |[y]=>Hf (.loc l) y h2
     |_=>.stuck):=by
     unfold Aa Ae
     rw [Out.bind_assoc]
     exact q1
    refine Post.bind q2 fun ys h2 vs m2 H2 eo p2 k2 hr2 r2 q3=>?_
    clear eo
    split at q3
    ·rename_i y
     simp only [Dz,DVs] at r2
     obtain ⟨yv,w,rfl,ry,rfl⟩:=r2
     unfold Hf at q3
     simp only at q3
     split at q3
     ·rename_i ds2 el2
      split at q3
      ·rename_i hz
       have ha2:=GZ p2 ha
       obtain ⟨ws2,hv2,dv2⟩:=hr2.cells l _ a el2 ha2
       refine ⟨a,ws2,yv,rfl,rfl,hv2,by rw [←dv2.len];exact hz,?_⟩
       refine q3 .non m2 _ (Ay _) (.set hv2 rfl) (hr2.setCell ha2 hv2 rfl ⟨_,Bx,?_⟩) (by simp [rD,DV])
       exact (dv2.app (.cons ry .nil)).keep (Ay _) (.set hv2 rfl)
      ·exact q3.elim
     ·exact q3.elim
    ·exact q3.elim
   ·exact q1.elim
  ·exact q1.elim
def FS:D→D→D→HD→Out (Fl×Ai)→Out (Fl×Ai):=fun o i v h k=>match o,i with
 |.loc l,.int n=>match h[l]? with
  |some (.lst ds)=>match Dp ds.length n with
   |some j=>match k with
    |.ok a _=>.ok a (h.set l (.lst (ds.set j v)))
    |_=>.stuck
   |none=>.stuck
  |_=>.stuck
 |_,_=>.stuck
def Hg (fo fi fv:ME):MS:=fun ρ h=>(fv ρ h).bind fun v h1=>(fo ρ h1).bind fun o h2=>(fi ρ h2).bind fun i h3=>FS o i v h3 (.ok (.nx,ρ) h3)
theorem Pl {o i e:Expr} {fo fi fv:ME} {pos pos':Pos} (ho:Ev X E o fo) (hi:Ev X E i fi) (he:Ev X E e fv)
 (ha:∀v,assign (.Subscript o i pos') X.env v=(do
  let ov ←holding [v] (eval o X.env)
  let iv ←holding [v,ov] (eval i X.env)
  standAt pos'
  holding [v,ov,iv] (setItem ov iv v)
  release [v,ov,iv] []):=by intro _;rfl)
 (hs:swapsWithSole [.Subscript o i pos'] e pos.line X.env=pure false:=by rfl) (hw:swappedStores [.Subscript o i pos'] e X.env=pure none:=by rfl)
 (h1:(assignEach [.Subscript o i pos'] X.env).map (·.2)=[assign (.Subscript o i pos') X.env]:=by rfl):Ex X E (.Assign [.Subscript o i pos'] e pos) (Hg fo fi fv):=
 DW (Lx he (Od ho hi OF ha) hs hw h1) fun Dn σ H ⟨m,ρ,h,hr,er,p⟩=>⟨m,ρ,h,hr,er,PostS.bind p fun v h1 vv m1 H1 eo1 p1 k1 hr1 r1 q1=>by
  refine ⟨m1,ρ,h1,hr1,er.keep p1 k1,PostS.bind q1 fun ov h2 vo m2 H2 eo2 p2 k2 hr2 r2 q2=>?_⟩
  refine ⟨m2,ρ,h2,hr2,(er.keep p1 k1).keep p2 k2,PostS.bind q2 fun iv h3 vi m3 H3 eo3 p3 k3 hr3 r3 q3=>?_⟩
  clear eo1 eo2 eo3
  unfold FS at q3
  split at q3
  ·rename_i l n
   split at q3
   ·rename_i ds el
    split at q3
    ·rename_i j ej
     have ro:=DV.keep p3 k3 r2
     simp only [DV] at ro
     obtain ⟨a,rfl,ha⟩:=ro
     have ri:=r3
     simp only [rD,DV] at ri
     subst ri
     obtain ⟨ws,hv,dv⟩:=hr3.cells l _ a el ha
     refine ⟨a,ws,n,j,rfl,rfl,hv,by rw [←dv.len];exact ej,?_⟩
     have rvv:=DV.keep p3 k3 (DV.keep p2 k2 r1)
     have hr4:HR X.K m3 (h3.set l (.lst (ds.set j v))) (Am H3 a (.lst (ws.set j vv))):=hr3.setCell ha hv rfl ⟨_,Bx,(dv.set j rvv).keep (Ay _) (.set hv rfl)⟩
     exact q3 m3 _ (Ay _) (.set hv rfl) hr4 σ ((((er.keep p1 k1).keep p2 k2).keep p3 k3).keep (Ay _) (.set hv rfl))
    ·exact q3.elim
   ·exact q3.elim
  ·exact q3.elim⟩
end
def Aw (n:Nat) (g:MS):List D→HD→Out D:=fun ds h=>(g (ds.map some++List.replicate (n - ds.length) none) h).bind fun x h1=>match x with
 |(.nx,_)=>.ok .non h1
 |(.rt d,_)=>.ok d h1
 |_=>.stuck
open AutoSeq1 (wpAny_loadPart')
section
variable {prog:Program} {w:World} {A:Around} {E:Value→Shared→Prop} {s:Shared}
theorem VD {it l:Addr} {i:Nat} {items:Array Value} {x:Value} {Q:Value→Shared→Prop} (hit:s.heap.IsTupleIter it l i)
 (hl:s.heap.IsTuple l items) (hx:items[i]?=some x)
 (hQ:∀h',h'.IsTupleIter it l (i+1)→Heap.SameBut it s.heap h'→Q x {s with heap:=h'}):
 wpAny (model prog w) A (Builtin.SmallTypes.nextOf (.ref it)) Q E s:=by
 obtain ⟨o,ho,hc,hd⟩:=id hit
 obtain ⟨ol,hol,_,nl,hdl⟩:=hl
 unfold Builtin.SmallTypes.nextOf
 refine wpAny_bind (wpAny_callSpecial?_slot (name:=Str.ofString "__next__") hit.typeIs F.slot_tuple_iterator_next
  (wpAny_call_entry F.slot_tuple_iterator_next hit.typeIs F.entry_tuple_iterator_next ?_ (F.args_tuple_iterator_next_1 _)))
 show wpAny _ _ (field (.ref it) 0 >>=_) _ _ s
 refine wpAny_bind (wpAny_field ho hd (x:=.ref l) rfl ?_)
 show wpAny _ _ (if (Value.ref l==Value.none)=true then _ else _) _ _ s
 rw [if_neg (show ¬((Value.ref l==Value.none)=true) from BI)]
 show wpAny _ _ (field (.ref it) 1 >>=_) _ _ s
 refine wpAny_bind (wpAny_field ho hd (x:=.int i 0) rfl ?_)
 show wpAny _ _ (seqItems? (.ref l) >>=_) _ _ s
 refine wpAny_bind (wpAny_seqItems hol hdl ?_)
 simp only [Jr,hx]
 refine wpAny_bind (wpAny_setField ho hd (by simp) (wpAny_pure ⟨x,rfl,wpAny_pure (hQ _ ?_ (Heap.SameBut.update ..))⟩))
 exact ⟨_,Ln _ ho (Obj.isFreed_of_fields (Obj.data_mapFields hd _)),(Obj.cls_mapFields ..).trans hc,by
  rw [Obj.data_mapFields hd];simp [rawInt]⟩
theorem VE {it l:Addr} {i:Nat} {items:Array Value} {Q:Value→Shared→Prop} (hh:A.handled=none)
 (hit:s.heap.IsTupleIter it l i) (hl:s.heap.IsTuple l items) (hx:items[i]?=none)
 (hE:∀h' e,Heap.ExtBut it s.heap h'→(∃o,h'.get? e=some o∧o.cls=.type "StopIteration")→E (.ref e) {s with heap:=h'}):
 wpAny (model prog w) A (Builtin.SmallTypes.nextOf (.ref it)) Q E s:=by
 obtain ⟨o,ho,hc,hd⟩:=id hit
 obtain ⟨ol,hol,_,nl,hdl⟩:=hl
 unfold Builtin.SmallTypes.nextOf
 refine wpAny_bind (wpAny_callSpecial?_slot (name:=Str.ofString "__next__") hit.typeIs F.slot_tuple_iterator_next
  (wpAny_call_entry F.slot_tuple_iterator_next hit.typeIs F.entry_tuple_iterator_next ?_ (F.args_tuple_iterator_next_1 _)))
 show wpAny _ _ (field (.ref it) 0 >>=_) _ _ s
 refine wpAny_bind (wpAny_field ho hd (x:=.ref l) rfl ?_)
 show wpAny _ _ (if (Value.ref l==Value.none)=true then _ else _) _ _ s
 rw [if_neg (show ¬((Value.ref l==Value.none)=true) from BI)]
 show wpAny _ _ (field (.ref it) 1 >>=_) _ _ s
 refine wpAny_bind (wpAny_field ho hd (x:=.int i 0) rfl ?_)
 show wpAny _ _ (seqItems? (.ref l) >>=_) _ _ s
 refine wpAny_bind (wpAny_seqItems hol hdl ?_)
 simp only [Jr,hx]
 refine wpAny_bind (wpAny_rule (wpAny_bind (wpAny_setField ho hd (by simp) ?_)))
 show wpAny _ _ (newExc (.type "StopIteration") [] >>=_) _ _ _
 refine wpAny_bind ?_
 simp only [newExc,newTuple]
 refine wpAny_bind (wpAny_newObj_type ?_ (by size_fits))
 refine wpAny_bind (m:=firstArgMember _ _) (wpAny_of_eq (a:=Value.none) (by first |rfl |(simp only [firstArgMember];rfl)) ?_)
 refine wpAny_newObj_type ?_ (by size_fits)
 simp only [raiseNew]
 refine wpAny_bind (wpAny_handled ?_)
 first |rw [show A.in1.handled=none from hh] |rw [hh]
 refine wpAny_bind (wpAny_pure (wpAny_throw ?_))
 exact hE _ _ (((Heap.SameBut.update ..).extBut.push _).push _) ⟨_,Bj _ rfl,rfl⟩
end
theorem Mh {prog:Program} {w:World} {A:Around} (hh:A.handled=none) (it l:Addr) (hne:l≠it) (items:Array Value):
 Draws prog w A it [it,l] items.size (fun i v=>items[i]?=some v) (fun i h=>h.IsTupleIter it l i∧h.IsTuple l items) where
 live:=fun _ _ st=>let ⟨o,ho,_⟩:=st.1;⟨o,ho⟩
 frame:=fun _ _ _ st hk=>⟨st.1.at fun o e=>hk it (by simp) o e,st.2.at fun o e=>hk l (by simp) o e⟩
 item:=fun i s Q E hi st hQ=>by
  refine VD st.1 st.2 (x:=items[i]) (by simp [hi]) fun h' hit' hs'=>?_
  exact hQ _ h' s.toks (by simp [hi]) ⟨hit',st.2.extBut hs'.extBut hne⟩ hs'
 done:=fun s Q E st hE=>VE hh st.1 st.2 (by simp) hE
theorem VF (l:Addr) (items:Array Value) (n:Nat) (dct:Option Addr) (sl:Array (Option Value)):
 Meets (Builtin.«enumerate.__new__» ⟨[.type "enumerate",.ref l],[]⟩) (fun _ R s=>s.heap.get? l=some {cls:=.type "tuple",dict:=dct,data:=.seq items n,slots:=sl}∧
  R (.ok (.ret (.ref (s.heap.push {cls:=.type "tuple_iterator",data:=.fields #[.ref l,.int 0 0]}).objs.size)))
    {s with heap:=(s.heap.push {cls:=.type "tuple_iterator",data:=.fields #[.ref l,.int 0 0]}).push {cls:=.type "enumerate",data:=.fields #[.none,.bool false,.ref s.heap.objs.size,rawInt 0,.none,.none]}}):=
 .of_wp fun prog w A R s h=>by
  obtain ⟨hp,g,d,tk,os⟩:=s;obtain ⟨hl,h⟩:=h
  have hsub:=sub_enumerate
  have hL:Heap.IsTuple (Shared.heap ⟨hp,g,d,tk,os⟩) l items:=⟨_,hl,rfl,n,rfl⟩
  wp_walk using wpAny_loadPart' hl
  refine wpAny_stack_any fun st=>wpAny_pure ?_
  split
  ·rename_i c _ _ _ _ _
   cases (c==Value.type "enumerate")
   ·wp_walk using wpAny_loadPart' hl,wpAny_pyIter_tuple hL
    exact ⟨_,rfl,h⟩
   ·wp_walk using wpAny_loadPart' hl,wpAny_pyIter_tuple hL
    exact ⟨_,rfl,h⟩
  ·wp_walk using wpAny_loadPart' hl,wpAny_pyIter_tuple hL
   exact ⟨_,rfl,h⟩
section
variable {prog:Program} {w:World} {A:Around} {E:Value→Shared→Prop} {s:Shared}
theorem VG {l:Addr} {items:Array Value} {Q:Value→Shared→Prop} (hL:s.heap.IsTuple l items)
 (h:∀h',IsEnum h' (s.heap.objs.size+1) s.heap.objs.size 0 .none→h'.IsTupleIter s.heap.objs.size l 0→h'.objs.size=s.heap.objs.size+2→
  (∀b o,s.heap.get? b=some o→h'.get? b=some o)→Q (.ref (s.heap.objs.size+1)) {s with heap:=h'}):
 wpAny (model prog w) A (call (.type "enumerate") [.ref l]) Q E s:=by
 obtain ⟨⟨c,dct,dt,sl⟩,hl,hc,n,hd⟩:=hL
 replace hc:c=.type "tuple":=hc
 replace hd:dt=.seq items n:=hd
 subst hc hd
 refine callType_new F.called_enumerate (by decide) (F.typeCall_enumerate_1 _) (F.newCall_enumerate_1 _) (fun obj=>F.args_object_init_2 obj _) F.entry_enumerate_new
  (VF l items n dct sl) ⟨hl,?_⟩
 have hz:(s.heap.push {cls:=.type "tuple_iterator",data:=.fields #[.ref l,.int 0 0]}).objs.size=s.heap.objs.size+1:=Ck ..
 show _∧_
 rw [hz]
 have he:IsEnum ((s.heap.push {cls:=.type "tuple_iterator",data:=.fields #[.ref l,.int 0 0]}).push
  {cls:=.type "enumerate",data:=.fields #[.none,.bool false,.ref s.heap.objs.size,rawInt 0,.none,.none]}) (s.heap.objs.size+1) s.heap.objs.size 0 .none:=by
  have:=Bj (s.heap.push {cls:=.type "tuple_iterator",data:=.fields #[.ref l,.int 0 0]})
   (o:={cls:=.type "enumerate",data:=.fields #[.none,.bool false,.ref s.heap.objs.size,rawInt 0,.none,.none]}) rfl
  rw [hz] at this;exact this
 refine ⟨⟨_,he,rfl⟩,h _ he ⟨_,AE _ (Bj _ rfl),rfl,rfl⟩ (by rw [Ck,hz]) fun b o x=>AE _ (AE _ x)⟩
end
def Pm (K:PySem.W.Frag) (t:Addr) (xs:List V):It:=⟨fun i H=>i<xs.length∧SqT K H t xs,fun i H x H'=>∃p v,H p=none∧x=.ref p∧xs[i]?=some v∧H'=Am H p (.tup [.int i,v]),fun i H=>i=xs.length∧SqT K H t xs⟩
theorem VH {P:Program} {w:World} {K:PySem.W.Frag} {elts:List Expr} {kt:Nat} {tpos:Pos} (e it t:Addr) (hei:e≠it) (hte:t≠e) (hti:t≠it) (xs:List V):
 Fb P w K (.Tuple elts kt tpos) (Pm K t xs) [e,it] e (fun i h=>(∃old,IsEnum h e it i old)∧h.IsTupleIter it t i) where
 mem:=by simp
 obj:=fun i h st b hb=>by
  obtain ⟨⟨old,h1⟩,o,h2,hc,hd⟩:=st
  rcases qa5.mp hb with z |z
  ·subst z;exact ⟨_,h1,fun v z=>by cases z⟩
  ·rw [qaD] at z
   subst z
   exact ⟨o,h2,fun v z=>by rw [hd] at z;cases z⟩
 keep:=fun i h h' st k=>by
  obtain ⟨⟨old,h1⟩,h2⟩:=st
  exact ⟨⟨old,k e (by simp) _ h1⟩,h2.at fun o z=>k it (by simp) o z⟩
 item:=by
  intro X hP hw hK hc i pins s σ H E I hf st hg
  subst hP hw hK
  obtain ⟨⟨old,he⟩,hit⟩:=st
  obtain ⟨hi,hq⟩:=hg
  obtain ⟨its,rv,p,hz⟩:=I.tuple hq
  have hT:s.heap.IsTuple t its.toArray:=p
  have hl:=rv.length
  obtain ⟨e0,e1,e2,e3,e4,e5⟩:=hf e (by simp)
  obtain ⟨i0,i1,i2,i3,i4,i5⟩:=hf it (by simp)
  have hx:xs[i]?=some xs[i]:=AW hi
  refine wpAny_pyNext_enum_itemD (Mh (A:=X.A.in1) (I.ok.hd hc) it t hti its.toArray) he ⟨hit,hT⟩ (by rw [AZ];omega) hei (by simp [hei,Ne.symm hte]) fun x h1 tk hPx ho hs1 hTup hsz hk=>?_
  obtain ⟨u,hu,ru⟩:=rv.get hx
  have hux:u=x:=by
   have:its[i]?=some x:=by simpa using hPx
   rw [hu] at this
   exact Option.some.inj this
  subst hux
  refine ⟨.ref s.heap.objs.size,rfl,wpAny_letOwnedTupleGo_enum ho fun h2 he2 sb=>?_⟩
  have hfr:H s.heap.objs.size=none:=I.hok.fresh (AD _)
  have kk:∀b o,b∉[e,it]→s.heap.get? b=some o→h2.get? b=some o:=fun b o hb z=>by
   have n1:b≠e:=fun q=>hb (by simp [q])
   have n2:b≠it:=fun q=>hb (by simp [q])
   exact (sb.2 b n1).trans (hk b o n1 n2 z)
  have na:s.heap.objs.size≠e:=EO (AB he)
  have hnew:h2.get? s.heap.objs.size=some {cls:=.type "tuple",data:=.seq #[.int i tk,u]}:=(sb.2 _ na).trans hTup
  have ntr:∀b w,H b=some w→b∉[e,it]:=fun b w z hb=>by
   rcases qa5.mp hb with q |q
   ·rw [q,e0] at z;cases z
   ·rw [qaD.mp q,i0] at z;cases z
  have nal:∀b o,s.heap.get? b=some o→b≠s.heap.objs.size:=fun b o z=>BF (AB z)
  have it2:h2.IsTupleIter it t (i+1):=by
   obtain ⟨o,q,r⟩:=hs1.1
   exact ⟨o,(sb.2 it (Ne.symm hei)).trans q,r⟩
  refine ⟨.ref s.heap.objs.size,Am H s.heap.objs.size (.tup [.int i,xs[i]]),?_,rfl,⟨s.heap.objs.size,xs[i],hfr,rfl,hx,rfl⟩,⟨⟨u,he2⟩,it2⟩,fun b hb=>?_⟩
  ·show Inv X pins σ _ {s with heap:=h2,gens:=s.gens,drawn:=s.drawn,toks:=tk+1}
   refine I.step (g':=s.gens) (d':=s.drawn) (t':=tk+1) (h':=h2) (ch:=[e,it]) (fun b hb=>?_) (fun b o _ _ hc z _=>kk b o hc z) (fun b o _ _ hc z _=>⟨o.slots,kk b o hc z⟩) (fun b o _ z n=>by rw [An (nal b o z)];exact n)
    (fun b o hc z=>⟨o,kk b o hc z⟩) (fun b ys z=>by rw [An (Bg z hfr)];exact z) (fun b o u z=>by rw [An (Bg z hfr)];exact z) (fun b ps z=>⟨#[],by rw [An (Bg z hfr),z];simp⟩) (fun m hm=>?_) (fun b w z=>?_) I.bare
   ·rcases qa5.mp hb with q |q
    ·subst q;exact ⟨e3,e1,e4,e5⟩
    ·rw [qaD] at q;subst q;exact ⟨i3,i1,i4,i5⟩
   ·obtain ⟨o,es,ep,q,r⟩:=hm
    exact ⟨o,es,ep,kk _ o (by simp [Ne.symm e1,Ne.symm i1]) q,r⟩
   ·by_cases hb:b=s.heap.objs.size
    ·subst hb
     rw [Bx] at z
     cases z
     exact ⟨by simp only [E7,GQ];rw [sizeLine_eq];decide,[.int i tk,u],.cons ⟨tk,rfl⟩ (.cons ru .nil),⟨_,hnew,rfl,0,rfl⟩,fun o e=>by rw [hnew] at e;cases e;rfl⟩
    ·rw [An hb] at z
     refine (I.hok b w z).stay (fun c v hc q=>kk c v ?_ q) (fun c q=>by rw [An (Bg q hfr)];exact q) fun c ys q=>by rw [An (Bg q hfr)];exact q
     rcases hc with rfl |hc
     ·exact ntr c _ z
     ·exact ntr c _ hc
  ·have nb:b≠s.heap.objs.size:=by
    rcases qa5.mp hb with q |q
    ·rw [q];exact na.symm
    ·rw [qaD.mp q]
     obtain ⟨o,z,_⟩:=hit
     exact nal _ _ z
   rw [An nb]
   exact (hf b hb).1
 done:=by
  intro X hP hw hK hc i pins s σ H E I hf st hg
  subst hP hw hK
  obtain ⟨⟨old,he⟩,hit⟩:=st
  obtain ⟨hi,hq⟩:=hg
  obtain ⟨its,rv,p,hz⟩:=I.tuple hq
  have hT:s.heap.IsTuple t its.toArray:=p
  have hl:=rv.length
  obtain ⟨i0,i1,i2,i3,i4,i5⟩:=hf it (by simp)
  have hin:i=its.toArray.size:=by rw [AZ];omega
  refine wpAny_pyNext_enum_endD (Mh (A:=X.A.in1) (I.ok.hd hc) it t hti its.toArray) he (hin ▸ ⟨hit,hT⟩) fun h' eb=>⟨rfl,I.turned (t':=s.toks) (fun b o hb z=>eb b o hb z) i0 i1 i3 i4 i5⟩
 self:=fun A i s Q E st h=>by
  obtain ⟨⟨old,he⟩,_⟩:=st
  exact wpAny_pyIter_enum he h
section
variable {X:Cx} {E:XK}
def DE (ds:List D):List D:=ds.mapIdx fun i d=>.tup [.int (i:Nat),d]
def Pn:List D→HD→Out (List D×A0):=fun ds h=>match ds with
 |[.tup xs]=>.ok (DE xs,[]) h
 |_=>.stuck
def Po (fa:MA):MI:=fun ρ h=>(fa ρ h).bind Pn
end
end LS
namespace LS
open PySem PySem.Spec PyProof.Rows L2
section
variable {prog:Program} {w:World} {A:Around} {E:Value→Shared→Prop} {s:Shared}
end
section
variable {X:Cx} {E:XK} {e:Expr} {f:ME}
def Mi:D→HD→Out D:=fun x h=>match x with
 |.tup [a,b]=>.ok (.tup [b,a]) h
 |_=>.stuck
def Pp (f:ME):ME:=fun ρ h=>(f ρ h).bind Mi
end
structure CSc (X:Cx) (scope:Scope) (Nc:List Str) (cs:List (Option Nat)):Prop where
 kind:scope.kind=.function
 loc:(scope.names.all fun y=>y.2 != .local||scope.names.lookup y.1==some .local)=true
 free:(scope.names.all fun y=>y.2 != .free||(X.env.kindOf y.1==some .cell||X.env.kindOf y.1==some .free))=true
 nd:(scope.names.map (·.1)).Nodup
 len:cs.length=Nc.length
 out:((Nc.zip cs).all fun p=>match p.2 with
  |none=>true
  |some j=>X.N[j]?==some p.1&&scope.names.lookup p.1==some .free)=true
theorem CSc.ok {X:Cx} {scope:Scope} {Nc:List Str} {cs:List (Option Nat)} (S:CSc X scope Nc cs):Hd X scope Nc cs:=by
 refine ⟨S.kind,fun y hy e=>?_,fun y hy e=>?_,S.nd,S.len,fun i x j h1 h2=>?_⟩
 ·have:=qaO.mp S.loc y hy
  rw [e] at this
  simpa using this
 ·have:=qaO.mp S.free y hy
  rw [e] at this
  simpa using this
 ·have hz:(Nc.zip cs)[i]?=some (x,some j):=by
   rw [List.getElem?_zip_eq_some]
   exact ⟨h1,h2⟩
  have:=qaO.mp S.out (x,some j) (E5 hz)
  simpa using this
structure Dn (K:PySem.W.Frag) (mg:Str→Option Value) (x:Str) (ps:List Str) (st:Stmt) (f:Addr) (fd:FuncData):Prop where
 fn:Fun K x x st f fd
 bd:Binds K fd ps []
 mg:mg x=some (.ref f)
section
variable {X:Cx} {E:XK}
theorem Pq {a:Expr} {f:ME} {pos:Pos} (ha:Ev X E a f):Ev X E (.UnaryOp .USub a pos) (fun ρ h=>(f ρ h).bind fun x h1=>match x with
 |.int i=>.ok (.int (-i)) h1
 |_=>.stuck):=
 BU (TM TY ha) fun σ H Q z1_=>by obtain ⟨m,ρ,h,hr,er,p⟩:=z1_;exact (⟨m,ρ,h,hr,er,Post.bind p fun x h1 v m1 H1 eo p1 k1 hr1 r1 q1=>by
  clear eo
  split at q1
  ·simp only [rD,DV] at r1
   subst r1
   exact ⟨_,rfl,Ba hr1 q1 (by simp [DV])⟩
  ·exact q1.elim⟩)
def J6 (f:ME):ME:=fun ρ h=>(f ρ h).bind fun x h1=>match x with
    |.int i=>.ok (.int (-i)) h1
    |_=>.stuck
theorem D9 {i j:Nat} {x y:Str} {px py tp:Pos} {kt:Nat} (hc:X.calm=true) (h1:PG X (.Name x px) (Cm i)) (h2:PG X (.Name y py) (Cm j)):PG X (.Tuple [.Name x px,.Name y py] kt tp) (FL X.K 2 (Do (Cm i) (Do (Cm j) FK))):=
 Lw hc (GW h1 (GW h2 Lu))
end
def CMl (i j:Int):Prop:=CMul i j∨(Builtin.Int.intBits i≤16777216∧Builtin.Int.intBits j≤16777216)
instance (i j:Int):Decidable (CMl i j):=by unfold CMl;infer_instance
theorem CMl.ok {i j:Int} (h:CMl i j):IntMulOk i j:=by
 rcases h with h |⟨h1,h2⟩
 ·exact h.ok
 ·unfold IntMulOk
  intro z
  simp only [CF,decide_eq_true_eq] at z
  have:=z.2
  unfold Builtin.Int.intTooBig at this
  simp only [decide_eq_true_eq] at this
  have hb:(bitsLine:Int)=134217728:=by first |rfl |decide
  omega
variable {X:Cx}
theorem op_mul':OpR X (binaryOp .Mult) (rI CMl fun i j=>.int (i*j)):=Ia fun _ _ _ _ _ _ _ hc q=>mul_int q hc.ok
def De:D→D→HD→Out D
 |.int i,.int j,h=>if CMl i j then .ok (.int (i*j)) h else .stuck
 |.loc l,.int k,h=>match h[l]? with
  |some (.lst xs)=>if -(2^63)≤k∧k<2^63 then B2 (List.replicate k.toNat xs).flatten h else .stuck
  |_=>.stuck
 |_,_,_=>.stuck
theorem VI:BJ X (binaryOp .Mult) De:=by
 refine ⟨_,op_mul'.or U0,fun m H h E x y v u Q hr rx ry q=>?_⟩
 unfold De at q
 split at q
 ·simp only [DV] at rx ry
  subst rx ry
  split at q
  ·rename_i hc
   exact .inl ⟨_,_,rfl,rfl,hc,Ba hr q (by simp [DV])⟩
  ·exact q.elim
 ·simp only [DV] at rx ry
  obtain ⟨a,rfl,ha⟩:=rx
  subst ry
  split at q
  ·rename_i k _ xs e
   split at q
   ·rename_i hk
    obtain ⟨vs,h1,d1⟩:=hr.cells _ _ a e ha
    obtain ⟨z,q'⟩:=Ig hr (d1.rep k.toNat) q
    refine .inr ⟨a,k,vs,rfl,rfl,h1,hk.1,hk.2,?_,q'⟩
    rw [JJ] at z
    rw [HU];exact z
   ·exact q.elim
  ·exact q.elim
 ·exact q.elim
end LS
namespace Att
open PySem PySem.W PySem.Calls PyProof.Rows
theorem VJ {ns:List Int} (h:WData.layable (.list (ns.map WData.int))=true):∀n∈ns,Builtin.Int.intBits n≤2^20:=by
 have hw:WData.weight (.list (ns.map WData.int))≤2^20:=(layableW_iff.mp h).2.2
 have key:∀(ns:List Int) (b:Nat),WData.weightAll (ns.map WData.int)≤b→∀n∈ns,Builtin.Int.intBits n≤b:=by
  intro ns
  induction ns with
  |nil=>intro b _ n hn;cases hn
  |cons m r ih=>
   intro b hb n hn
   have e:WData.weightAll ((m::r).map WData.int)=Builtin.Int.intBits m+1+WData.weightAll (r.map WData.int):=by
    simp only [Bf,WData.weightAll,WData.weight]
    rfl
   rw [e] at hb
   rcases qa5.mp hn with z |z
   ·subst z;omega
   ·exact ih b (by omega) n z
 exact key ns _ (by simpa only [WData.weight] using hw)
theorem attach_bits {l:OpenLaw} {n:Nat} {q:Program} {loose:List Str} {XP:(Str→Option Value)→Heap→Prop} {YP:World→Heap→Prop} {d:DefRec}
 (hn:l.most=some n) (hdf:d.params.defaults=[])
 (call:∀(w:World) (s₀ s₁:Shared) (mg mb:Str→Option Value) (fa:Addr) (o:Obj) (pm cd doc:Value) (a:Addr) (vs:List Value) (ns:List Int),(∀n∈ns,Builtin.Int.intBits n≤2^20)→
  Ground q loose [] XP w s₀ mg mb s₁.heap→YP w s₁.heap→
  s₁.heap.get? fa=some o→o.data=.func (docDef d.name d.params d.body d.scope pm cd doc)→s₁.heap.CodeRec cd d.name→mg d.name=some (.ref fa)→
  s₁.heap.get? a=some {cls:=.type "list",data:=.seq vs.toArray}→IntsAre vs ns→ns.length≤n→s₁.gens=#[]→
  codeAny (model l.prog w) callerA (.call (.ref fa) ⟨[.ref a],[]⟩) (fun r s'=>r=.ok (.ret (.bool true))∧OldK s₁.heap s'.heap∧s'.os=s₁.os∧AllBare s'.gens) s₁):
 WalkO q loose XP YP l.row.toRowW d [] (fun f vs=>PySem.call f vs):=by
 intro w s₀ s₁ mg mb G Y fa o pm cd doc dV kV ho hd hcd hD hmg hg args vals as hpre hlay hrd hwl hlo
 obtain rfl:dV=.none:=Dflts.none hD hdf
 obtain rfl:kV=.none:=Dflts.noKw hD
 obtain ⟨a,vs,ns,rfl,rfl,hobj,hints,hlen⟩:=U2 hn hpre hwl
 have hb:=VJ (layableW_arg hlay _ A3)
 refine enter_call (codeAny_mono (call w s₀ s₁ mg mb fa o pm cd doc a vs ns hb G Y ho (fd_plain hd) hcd hmg hobj hints hlen hg) fun r s' hq=>?_)
 obtain ⟨rfl,h2,h3,h4⟩:=hq
 exact ⟨.inl ⟨.bool true,.bool true,[],rfl,fun _=>rfl,.bool true,U3 l _,fun _=>⟨List.Pairwise.nil,fun _ hm=>(nomatch hm)⟩⟩,h2,h3,h4⟩
end Att
namespace LS
open PySem PySem.Spec PyProof.Rows L2
def Wp {α:Type} (o:Out α) (Q:α→HD→Prop):Prop:=match o with
 |.ok a h=>Q a h
 |_=>False
section
variable {α β:Type} {o:Out α} {Q Q':α→HD→Prop}
@[simp] theorem Bs (a:α) (h:HD):Wp (.ok a h) Q=Q a h:=rfl
@[simp] theorem Za6:Wp .stuck Q=False:=rfl
theorem Ax {o':Out α} (e:o=o') (h:Wp o' Q):Wp o Q:=e ▸ h
theorem AC {k:α→HD→Out β} {Q:β→HD→Prop}:Wp (o.bind k) Q=Wp o fun a h=>Wp (k a h) Q:=by cases o<;>rfl
theorem Wp.mono (h:Wp o Q) (f:∀a h,Q a h→Q' a h):Wp o Q':=by
 cases o with
 |ok a h'=>exact f _ _ h
 |_=>exact h.elim
theorem Wp.ex (h:Wp o Q):∃a h',o=.ok a h'∧Q a h':=by
 cases o with
 |ok a h'=>exact ⟨a,h',rfl,h⟩
 |_=>exact h.elim
end
def Sm (h h':HD):Prop:=∀(l:Nat) (c:Cell),h[l]?=some c→h'[l]?=some c
theorem Sm.refl (h:HD):Sm h h:=fun _ _ e=>e
theorem Sm.trans {h h1 h2:HD} (a:Sm h h1) (b:Sm h1 h2):Sm h h2:=fun l c e=>b l c (a l c e)
theorem Sm.app (h t:HD):Sm h (h++t):=fun l c e=>by
 rw [Ez (qa2.mp e).1];exact e
def Pu {α:Type} (o:Out α) (h:HD) (a:α):Prop:=Wp o fun x h'=>x=a∧Sm h h'
section
variable {α β:Type} {o:Out α} {h:HD} {a:α}
theorem Pu.wp {Q:α→HD→Prop} (p:Pu o h a) (k:∀h',Sm h h'→Q a h'):Wp o Q:=Wp.mono p fun x h' z1_=>by obtain ⟨e,s⟩:=z1_;subst e;exact k h' s
theorem Pu.ok:Pu (.ok a h) h a:=⟨rfl,.refl _⟩
theorem Pu.bind {k:α→HD→Out β} {b:β} (p:Pu o h a) (q:∀h',Sm h h'→Pu (k a h') h' b):Pu (o.bind k) h b:=by
 unfold Pu
 rw [AC]
 exact p.wp fun h' s=>Wp.mono (q h' s) fun x h2 z2_=>by obtain ⟨e,s2⟩:=z2_;exact (⟨e,s.trans s2⟩)
theorem Pu.noErr (p:Pu o h a):Pu (noErr o) h a:=by
 obtain ⟨x,h',e,q⟩:=Wp.ex p
 rw [e];exact q
end
def Pr (i j:Nat) (ρ:Ai) (ds:List D) (h:HD):Out (Fl×Ai):=match ds with
 |[x,y]=>.ok (.nx,(ρ.set i (some x)).set j (some y)) h
 |_=>.stuck
def Pt (o:Option Ai) (h:HD):Out (Fl×Ai):=match o with
 |some ρ1=>.ok (.nx,ρ1) h
 |none=>.stuck
def J7 (g:HD→Out D) (x:D) (h:HD):Out D:=match x with
 |.bl true=>g h
 |.bl false=>.ok (.bl false) h
 |_=>.stuck
def Mj (g:HD→Out D) (x:D) (h:HD):Out D:=match x with
 |.bl true=>.ok (.bl true) h
 |.bl false=>g h
 |_=>.stuck
def Pv (x:D) (h:HD):Out D:=match x with
 |.bl b=>.ok (.bl (!b)) h
 |_=>.stuck
def Pw (x:D) (h:HD):Out D:=match x with
 |.int i=>.ok (.int (-i)) h
 |_=>.stuck
@[simp] theorem Za7 {i j:Nat} {ρ:Ai} {x y:D} {h:HD} {Q:Fl×Ai→HD→Prop}:Wp (Pr i j ρ [x,y] h) Q=Q (.nx,(ρ.set i (some x)).set j (some y)) h:=rfl
@[simp] theorem Za8 {ρ:Ai} {h:HD} {Q:Fl×Ai→HD→Prop}:Wp (Pt (some ρ) h) Q=Q (.nx,ρ) h:=rfl
@[simp] theorem Za9 {g:HD→Out D} {h:HD}:J7 g (.bl true) h=g h:=rfl
@[simp] theorem Zba {g:HD→Out D} {h:HD}:J7 g (.bl false) h=.ok (.bl false) h:=rfl
@[simp] theorem Zbb {g:HD→Out D} {h:HD}:Mj g (.bl true) h=.ok (.bl true) h:=rfl
@[simp] theorem Zbc {g:HD→Out D} {h:HD}:Mj g (.bl false) h=g h:=rfl
@[simp] theorem Zbd {b:Bool} {h:HD}:Pv (.bl b) h=.ok (.bl (!b)) h:=rfl
@[simp] theorem Zbe {i:Int} {h:HD}:Pw (.int i) h=.ok (.int (-i)) h:=rfl
def Mk (g:MS) (Q:Fl×Ai→HD→Prop):Fl×Ai→HD→Prop
 |(.nx,ρ),h=>Wp (g ρ h) Q
 |y,h=>Q y h
def IE (Q:D→HD→Prop):Fl×Ai→HD→Prop
 |(.nx,_),h=>Q .non h
 |(.rt d,_),h=>Q d h
 |_,_=>False
section
variable {ρ:Ai} {h:HD} {Q:Fl×Ai→HD→Prop} {QB:D→HD→Prop} {g g1 g2:MS} {f:ME} {t:MT}
@[simp] theorem Ak:Mk g Q (.nx,ρ) h=Wp (g ρ h) Q:=rfl
@[simp] theorem Zbf {d:D}:Mk g Q (.rt d,ρ) h=Q (.rt d,ρ) h:=rfl
@[simp] theorem Zbg:IE QB (.nx,ρ) h=QB .non h:=rfl
@[simp] theorem Zbh {d:D}:IE QB (.rt d,ρ) h=QB d h:=rfl
@[simp] theorem Ce:Wp (Aj g1 g2 ρ h) Q=Wp (g1 ρ h) (Mk g2 Q):=by
  unfold Aj
  rw [AC]
  congr 1
  funext x h'
  obtain ⟨fl,ρ1⟩:=x
  cases fl<;>rfl
theorem Bt {n:Nat} {ds:List D}:Wp (Aw n g ds h) QB=Wp (g (ds.map some++List.replicate (n - ds.length) none) h) (IE QB):=by
 unfold Aw
 rw [AC]
 congr 1
 funext x h'
 obtain ⟨fl,ρ1⟩:=x
 cases fl<;>rfl
@[simp] theorem Zbi:Wp (Cu ρ h) Q=Q (.nx,ρ) h:=rfl
@[simp] theorem Zbj:Wp (CN f ρ h) Q=Wp (f ρ h) fun _ h1=>Q (.nx,ρ) h1:=by unfold CN;rw [AC];rfl
@[simp] theorem Zbk:Wp (AO f ρ h) Q=Wp (f ρ h) fun d h1=>Q (.rt d,ρ) h1:=by unfold AO;rw [AC];rfl
@[simp] theorem Ml {i:Nat}:Wp (Au i f ρ h) Q=Wp (f ρ h) fun d h1=>Q (.nx,ρ.set i (some d)) h1:=by unfold Au;rw [AC];rfl
@[simp] theorem Zbl:Wp (Cb t g1 g2 ρ h) Q=Wp (t ρ h) fun b h1=>Wp (if b=true then g1 ρ h1 else g2 ρ h1) Q:=by unfold Cb;rw [AC]
@[simp] theorem Zbm {i j:Nat} {fa:MA}:Wp (Fo i j fa ρ h) Q=Wp (fa ρ h) fun ds h1=>Wp (Pr i j ρ ds h1) Q:=by unfold Fo;rw [AC];rfl
@[simp] theorem Zbn {sg:MG}:Wp (Ha sg f ρ h) Q=Wp (f ρ h) fun d h1=>Wp (Pt (sg d ρ) h1) Q:=by unfold Ha;rw [AC];rfl
@[simp] theorem Zbo {fo fi fv:ME}:Wp (Hg fo fi fv ρ h) Q=Wp (fv ρ h) fun v h1=>Wp (fo ρ h1) fun o h2=>Wp (fi ρ h2) fun i h3=>Wp (FS o i v h3 (.ok (.nx,ρ) h3)) Q:=by
  unfold Hg;simp only [AC]
end
section
variable {ρ:Ai} {h:HD} {Q:D→HD→Prop} {QB:Bool→HD→Prop} {QA:List D→HD→Prop} {f g k:ME} {t u:MT} {fa:MA} {op op':D→D→HD→Out D} {F:List D→HD→Out D}
@[simp] theorem FT {d:D} {r:Ai}:Wp (Ab 0 (some d::r) h) Q=Q d h:=rfl
@[simp] theorem Hh {i:Nat} {x:Option D} {r:Ai}:Wp (Ab (i+1) (x::r) h) Q=Wp (Ab i r h) Q:=rfl
@[simp] theorem Px {d:D}:Wp (mC d ρ h) Q=Q d h:=rfl
@[simp] theorem Mm:Wp (Af op f g ρ h) Q=Wp (f ρ h) fun x h1=>Wp (g ρ h1) fun y h2=>Wp (op x y h2) Q:=by unfold Af;simp only [AC]
@[simp] theorem IF:Wp (Ah F fa ρ h) Q=Wp (fa ρ h) fun ds h1=>Wp (F ds h1) Q:=by unfold Ah;rw [AC]
@[simp] theorem Fs:Wp (Ae ρ h) QA=QA [] h:=rfl
@[simp] theorem FU:Wp (Aa f fa ρ h) QA=Wp (f ρ h) fun x h1=>Wp (fa ρ h1) fun xs h2=>QA (x::xs) h2:=by unfold Aa;simp only [AC];rfl
@[simp] theorem Zbp:Wp (Bq fa ρ h) Q=Wp (fa ρ h) fun xs h1=>Wp (if xs.length≤sizeLine then .ok (.tup xs) h1 else .stuck) Q:=by unfold Bq;simp only [AC]
@[simp] theorem VL:Wp (Bw fa ρ h) Q=Wp (fa ρ h) fun xs h1=>Wp (B2 xs h1) Q:=by unfold Bw;simp only [AC]
@[simp] theorem Zbq:Wp (CL f ρ h) QB=Wp (f ρ h) fun x h1=>Wp (Ic x h1) QB:=by unfold CL;rw [AC]
@[simp] theorem Zbr:Wp (DY f ρ h) QB=Wp (f ρ h) fun x h1=>Wp (DX x h1) QB:=by unfold DY;rw [AC]
@[simp] theorem Zbs:Wp (EJ t ρ h) QB=Wp (t ρ h) fun b h1=>QB (!b) h1:=by unfold EJ;rw [AC];rfl
@[simp] theorem Zbt:Wp (JN t u ρ h) QB=Wp (t ρ h) fun b h1=>Wp (if b=true then u ρ h1 else .ok false h1) QB:=by unfold JN;rw [AC]
@[simp] theorem Zbu:Wp (FP t u ρ h) QB=Wp (t ρ h) fun b h1=>Wp (if b=true then .ok true h1 else u ρ h1) QB:=by unfold FP;rw [AC]
@[simp] theorem Zbv:Wp (FQ f g ρ h) Q=Wp (f ρ h) fun x h1=>Wp (J7 (g ρ) x h1) Q:=by unfold FQ;rw [AC];rfl
@[simp] theorem Zbw:Wp (OT f g ρ h) Q=Wp (f ρ h) fun x h1=>Wp (Mj (g ρ) x h1) Q:=by unfold OT;rw [AC];rfl
@[simp] theorem Zbx:Wp (JQ f ρ h) Q=Wp (f ρ h) fun x h1=>Wp (Pv x h1) Q:=by unfold JQ;rw [AC];rfl
@[simp] theorem Zby:Wp (J6 f ρ h) Q=Wp (f ρ h) fun x h1=>Wp (Pw x h1) Q:=by unfold J6;rw [AC];rfl
@[simp] theorem Zbz:Wp (OU t f g ρ h) Q=Wp (t ρ h) fun b h1=>Wp (if b=true then f ρ h1 else g ρ h1) Q:=by unfold OU;rw [AC]
@[simp] theorem ZbA:Wp (G4 op op' f g k ρ h) Q=Wp (f ρ h) fun x h1=>Wp (g ρ h1) fun y h2=>Wp (op x y h2) fun z h3=>Wp (J7 (fun h=>(k ρ h).bind fun w h4=>op' y w h4) z h3) Q:=by unfold G4;simp only [AC];rfl
@[simp] theorem ZbB:Wp (Pp f ρ h) Q=Wp (f ρ h) fun x h1=>Wp (Mi x h1) Q:=by unfold Pp;rw [AC]
@[simp] theorem ZbC:Wp (ES f g ρ h) Q=Wp (f ρ h) fun x h1=>Wp (Cp x h1) fun x h1=>Wp (g ρ h1) fun y h2=>Wp (Hf x y h2) Q:=by unfold ES;simp only [AC]
@[simp] theorem ZbD:Wp (Bo ρ h) QB=QB true h:=rfl
theorem A9 {xs:List D} (hn:xs.length≤sizeLine) (q:∀l h',Sm h h'→h'[l]?=some (.lst xs)→l=h.length→h'=h++[.lst xs]→Q (.loc l) h'):Wp (B2 xs h) Q:=by
 unfold B2
 rw [if_pos hn]
 exact q h.length _ (.app _ _) (by simp) rfl rfl
end
section
variable {ρ:Ai} {h:HD} {QI:(List D×A0)→HD→Prop} {f:ME} {fa:MA}
@[simp] theorem Pz:Wp (BP f ρ h) QI=Wp (f ρ h) fun d h1=>Wp (Hb d h1) QI:=by unfold BP;rw [AC]
@[simp] theorem VM:Wp (Cw fa ρ h) QI=Wp (fa ρ h) fun d h1=>Wp (Hc d h1) QI:=by unfold Cw;rw [AC]
@[simp] theorem ZbE:Wp (IA fa ρ h) QI=Wp (fa ρ h) fun d h1=>Wp (Iz d h1) QI:=by unfold IA;rw [AC]
@[simp] theorem ZbF:Wp (Po fa ρ h) QI=Wp (fa ρ h) fun d h1=>Wp (Pn d h1) QI:=by unfold Po;rw [AC]
theorem FV {n:Nat} (hn:n≤1000):Hc [.int (n:Int)] h=.ok ((List.range n).map fun k=>D.int ((k:Nat):Int),[]) h:=by
 have:(-(2^62):Int)≤(n:Int)∧(n:Int)<2^62:=by omega
 unfold Hc
 simp only
 rw [if_pos this]
 simp [Fp]
end
theorem Mn {α:Type} {src:A0} {items:List D} {sg:MG} {t:MT} {f:ME} {ρc:Ai} (φ:α→D) (g:α→Bool) (e:α→D) (ρ1:α→Ai):
 ∀(xs:List α) (h:HD),(∀h',Sm h h'→Bz src items h')→(∀x∈xs,sg (φ x) ρc=some (ρ1 x))→(∀x∈xs,∀h',Sm h h'→Pu (t (ρ1 x) h') h' (g x))→(∀x∈xs,g x=true→∀h',Sm h h'→Pu (f (ρ1 x) h') h' (e x))→
  Pu (CZ src items sg t f ρc (xs.map φ) h) h ((xs.filter g).map e)
 |[],h,hs,_,_,_=>by
  simp only [FH,List.filter_nil,CZ]
  rw [if_pos (hs h (.refl _))]
  exact .ok
 |x::xs,h,hs,hg,ht,hf=>by
  simp only [Bf,CZ]
  rw [if_pos (hs h (.refl _)),hg x A3]
  simp only
  refine Pu.bind (ht x A3 h (.refl _)).noErr fun h1 s1=>?_
  have ih:∀h2,Sm h h2→Pu (CZ src items sg t f ρc (xs.map φ) h2) h2 ((xs.filter g).map e):=fun h2 s2=>Mn φ g e ρ1 xs h2 (fun h' s'=>hs h' (s2.trans s'))
   (fun y hy=>hg y (A6 _ hy)) (fun y hy h' s'=>ht y (A6 _ hy) h' (s2.trans s')) (fun y hy gy h' s'=>hf y (A6 _ hy) gy h' (s2.trans s'))
  cases hgx:g x with
  |false=>
   rw [if_neg BI,List.filter_cons_of_neg (by simp [hgx])]
   exact ih h1 s1
  |true=>
   rw [if_pos rfl,List.filter_cons_of_pos hgx]
   refine Pu.bind (hf x A3 hgx h1 s1).noErr fun h2 s2=>?_
   exact Pu.bind (ih h2 (s1.trans s2)) fun h3 _=>.ok
theorem FW {α:Type} {xs:List α}:xs.filter (fun _=>true)=xs:=List.filter_eq_self.mpr fun _ _=>rfl
section
variable {α:Type} {cs:List (Option Nat)} {it:MI} {sg:MG} {t:MT} {f:ME} {ρ:Ai} {h:HD} {src:A0} {xs:List α} {φ:α→D}
theorem Hi {Q:D→HD→Prop} (g:α→Bool) (e:α→D) (ρ1:α→Ai) (hi:Wp (it ρ h) fun x h'=>x=(xs.map φ,src)∧Sm h h'∧∀h2,Sm h' h2→Bz src (xs.map φ) h2) (hn:xs.length≤sizeLine)
 (hg:∀x∈xs,sg (φ x) (B4 cs ρ)=some (ρ1 x)) (ht:∀x∈xs,∀h',Sm h h'→Pu (t (ρ1 x) h') h' (g x)) (hf:∀x∈xs,g x=true→∀h',Sm h h'→Pu (f (ρ1 x) h') h' (e x))
 (q:∀l h',Sm h h'→h'[l]?=some (.lst ((xs.filter g).map e))→Q (.loc l) h'):Wp (AV cs it sg t f ρ h) Q:=by
 unfold AV
 rw [AC]
 refine Wp.mono hi fun x h1 z4_=>?_
 obtain ⟨ex,s1,hs⟩:=z4_
 subst ex
 rw [if_pos (by simpa using hn),AC]
 refine (Mn φ g e ρ1 xs h1 hs hg (fun x hx h' s'=>ht x hx h' (s1.trans s')) (fun x hx gx h' s'=>hf x hx gx h' (s1.trans s'))).wp fun h2 s2=>?_
 refine A9 ?_ fun l h3 s3 e3 _ _=>q l h3 ((s1.trans s2).trans s3) e3
 rw [CH]
 exact BM (Jo _ _) hn
theorem VN (g:α→Bool) (e:α→D) (ρ1:α→Ai) (hi:Wp (it ρ h) fun x h'=>x=(xs.map φ,src)∧Sm h h'∧∀h2,Sm h' h2→Bz src (xs.map φ) h2) (hn:xs.length≤sizeLine)
 (hg:∀x∈xs,sg (φ x) (B4 cs ρ)=some (ρ1 x)) (ht:∀x∈xs,∀h',Sm h h'→Pu (t (ρ1 x) h') h' (g x)) (hf:∀x∈xs,g x=true→∀h',Sm h h'→Pu (f (ρ1 x) h') h' (e x)):
 Pu (Ah (Ao BZ) (Aa (AV cs it sg t f) Ae) ρ h) h (.tup ((xs.filter g).map e)):=by
 unfold Pu
 rw [IF,FU]
 refine Hi g e ρ1 hi hn hg ht hf fun l h' s' e'=>?_
 rw [Fs]
 simp only [Ao,BZ,e']
 exact ⟨rfl,s'⟩
theorem VO (e:α→D) (ρ1:α→Ai) (hi:Wp (it ρ h) fun x h'=>x=(xs.map φ,src)∧Sm h h'∧∀h2,Sm h' h2→Bz src (xs.map φ) h2) (hn:xs.length≤sizeLine)
 (hg:∀x∈xs,sg (φ x) (B4 cs ρ)=some (ρ1 x)) (hf:∀x∈xs,∀h',Sm h h'→Pu (f (ρ1 x) h') h' (e x)):
 Pu (Ah (Ao BZ) (Aa (AV cs it sg Bo f) Ae) ρ h) h (.tup (xs.map e)):=by
 have:=VN (t:=Bo) (f:=f) (fun _=>true) e ρ1 hi hn hg (fun x hx h' s'=>(.ok:Pu (.ok true h') h' true)) (fun x hx _ h' s'=>hf x hx h' s')
 rw [FW] at this
 exact this
theorem J8 {β γ:Type} {f:β→Option γ} {g:β→γ}:∀{xs:List β},(∀x∈xs,f x=some (g x))→AS (xs.map f)=some (xs.map g)
 |[],_=>rfl
 |x::xs,hf=>by
  simp only [Bf,hf x A3,AS,J8 (fun y hy=>hf y (A6 _ hy)),HP]
theorem VP (b:α→Bool) (ρ1:α→Ai) (hi:Wp (it ρ h) fun x h'=>x=(xs.map φ,src)∧Sm h h'∧∀h2,Sm h' h2→Bz src (xs.map φ) h2) (hn:xs.length≤sizeLine)
 (hg:∀x∈xs,sg (φ x) (B4 cs ρ)=some (ρ1 x)) (hf:∀x∈xs,∀h',Sm h h'→Pu (f (ρ1 x) h') h' (.bl (b x))):
 Pu (Ah (Ao DD) (Aa (AV cs it sg Bo f) Ae) ρ h) h (.bl (xs.all b)):=by
 unfold Pu
 rw [IF,FU]
 refine Hi (fun _=>true) (fun x=>.bl (b x)) ρ1 hi hn hg (fun x hx h' s'=>(.ok:Pu (.ok true h') h' true)) (fun x hx _ h' s'=>hf x hx h' s') fun l h' s' e'=>?_
 rw [Fs]
 rw [FW] at e'
 simp only [Ao,DD,e',B8]
 rw [J8 (f:=He∘fun x=>D.bl (b x)) (g:=b) (fun x _=>rfl)]
 refine ⟨?_,s'⟩
 simp [List.all_map]
end
def Dt (I:Ai→HD→Prop) (Q:Fl×Ai→HD→Prop):Fl×Ai→HD→Prop
 |(.nx,ρ),h=>I ρ h
 |(.ct,ρ),h=>I ρ h
 |(.bk,ρ),h=>Q (.nx,ρ) h
 |(.rt d,ρ),h=>Q (.rt d,ρ) h
theorem Mo {α:Type} {src:A0} {items:List D} {sg:MG} {body:MS} {Q:Fl×Ai→HD→Prop} (φ:α→D) (I:List α→Ai→HD→Prop) (ho:∀xs ρ h,I xs ρ h→Bz src items h)
 (step:∀x xs ρ h,I (x::xs) ρ h→∃ρ1,sg (φ x) ρ=some ρ1∧Wp (body ρ1 h) (Dt (I xs) Q)) (done:∀ρ h,I [] ρ h→Q (.nx,ρ) h):∀(xs:List α) (ρ:Ai) (h:HD),I xs ρ h→Wp (D8 src items sg body (xs.map φ) ρ h) Q
 |[],ρ,h,i=>by
  simp only [FH,D8]
  rw [if_pos (ho _ _ _ i)]
  exact done ρ h i
 |x::xs,ρ,h,i=>by
  simp only [Bf,D8]
  rw [if_pos (ho _ _ _ i)]
  obtain ⟨ρ1,e,w⟩:=step x xs ρ h i
  rw [e]
  simp only
  rw [AC]
  refine Wp.mono w fun y h' k=>?_
  obtain ⟨fl,ρ2⟩:=y
  cases fl with
  |nx=>exact Mo φ I ho step done xs ρ2 h' k
  |ct=>exact Mo φ I ho step done xs ρ2 h' k
  |bk=>exact k
  |rt d=>exact k
theorem CP {α:Type} {src:A0} {it:MI} {sg:MG} {body:MS} {Q:Fl×Ai→HD→Prop} {ρ:Ai} {h:HD} {xs:List α} (φ:α→D) (I:List α→Ai→HD→Prop) (hi:Wp (it ρ h) fun x h'=>x=(xs.map φ,src)∧I xs ρ h') (ho:∀ys ρ h,I ys ρ h→Bz src (xs.map φ) h)
 (step:∀x xs ρ h,I (x::xs) ρ h→∃ρ1,sg (φ x) ρ=some ρ1∧Wp (body ρ1 h) (Dt (I xs) Q)) (done:∀ρ h,I [] ρ h→Q (.nx,ρ) h):Wp (BE it sg body ρ h) Q:=by
 unfold BE
 rw [AC]
 refine Wp.mono hi fun x h1 z5_=>?_
 obtain ⟨e,i⟩:=z5_
 subst e
 exact Mo φ I ho step done xs ρ h1 i
def Py (d:D) (p:PyData):Prop:=Bn [] 8 d=some p∧SeqAt.shaped p=true
@[simp] theorem sz0:(0≤sizeLine)=True:=eq_true (EF _)
@[simp] theorem sz1:(1≤sizeLine)=True:=eq_true (by unfold sizeLine;omega)
@[simp] theorem sz2:(2≤sizeLine)=True:=eq_true (by unfold sizeLine;omega)
@[simp] theorem J9:(3≤sizeLine)=True:=eq_true (by unfold sizeLine;omega)
@[simp] theorem sz4:(4≤sizeLine)=True:=eq_true (by unfold sizeLine;omega)
@[simp] theorem sz5:(5≤sizeLine)=True:=eq_true (by unfold sizeLine;omega)
section
variable {h:HD} {a b c:D} {ds es:List D} {i j:Int} {F1:D→HD→Out D} {F2:D→D→HD→Out D} {F3:D→D→D→HD→Out D}
@[simp] theorem VQ:Ao F1 [a] h=F1 a h:=rfl
@[simp] theorem ZbG:Br F2 [a,b] h=F2 a b h:=rfl
@[simp] theorem ZbH:Vb F3 [a,b,c] h=F3 a b c h:=rfl
@[simp] theorem ZbI {b:Bool}:Ic (.bl b) h=.ok b h:=rfl
@[simp] theorem ZbJ {b:Bool}:DX (.bl b) h=.ok b h:=rfl
@[simp] theorem ZbK:DX .non h=.ok false h:=rfl
@[simp] theorem ZbL:DX (.int i) h=.ok (i != 0) h:=rfl
@[simp] theorem ZbM:DX (.tup ds) h=.ok (!ds.isEmpty) h:=rfl
@[simp] theorem ZbN:BB (.int i) (.ty "int") h=.ok (.bl true) h:=rfl
@[simp] theorem ZbO:BB (.int i) (.ty "bool") h=.ok (.bl false) h:=rfl
@[simp] theorem ZbP:BB (.int i) (.ty "tuple") h=.ok (.bl false) h:=rfl
@[simp] theorem ZbQ:BB (.tup ds) (.ty "tuple") h=.ok (.bl true) h:=rfl
@[simp] theorem ZbR:BB (.tup ds) (.ty "int") h=.ok (.bl false) h:=rfl
@[simp] theorem ZbS:Aq (.int i) (.int j) h=.ok (.int (i+j)) h:=rfl
@[simp] theorem VR {f:Int→Int→D}:Fh f (.int i) (.int j) h=.ok (f i j) h:=rfl
@[simp] theorem ZbT {b c:Bool}:Ve (.bl b) (.bl c) h=.ok (.bl (b==c)) h:=rfl
@[simp] theorem ZbU {b c:Bool}:Vf (.bl b) (.bl c) h=.ok (.bl (!(b==c))) h:=rfl
@[simp] theorem ZbV:A2 (.tup ds) h=.ok (.int ds.length) h:=rfl
@[simp] theorem ZbW {ns:List Int}:A2 (.scr ns) h=.ok (.int ns.length) h:=by simp [A2,By]
@[simp] theorem ZbX:Hb (.tup ds) h=.ok (ds,[]) h:=rfl
@[simp] theorem ZbY:BZ (.tup ds) h=.ok (.tup ds) h:=rfl
@[simp] theorem ZbZ:Mi (.tup [a,b]) h=.ok (.tup [b,a]) h:=rfl
@[simp] theorem Zb0:Io (.int i) (.int j) h=.ok (.int (if j>i then j else i)) h:=rfl
@[simp] theorem Zb1:G8 (.int i) (.int j) h=.ok (.int (if j<i then j else i)) h:=rfl
@[simp] theorem VS {b:Bool}:Ip (.bl b) h=.ok (.int (if b then 1 else 0)) h:=rfl
@[simp] theorem Zb2:Ip (.int i) h=.ok (.int i) h:=rfl
@[simp] theorem Zb3 {ρ:Ai} {k:Nat}:A7 k a ρ=some (ρ.set k (some a)):=rfl
@[simp] theorem Zb4 {ρ:Ai} {k l:Nat}:BV k l (.tup [a,b]) ρ=some ((ρ.set k (some a)).set l (some b)):=rfl
@[simp] theorem Zb5 {b c:Bool}:Ik (.bl b) (.bl c) h=.ok (.bl (b==c)) h:=rfl
@[simp] theorem Zb6 {b c:Bool}:Fj (.bl b) (.bl c) h=.ok (.bl (!(b==c))) h:=rfl
@[simp] theorem Zb7:Ik (.int i) (.int j) h=.ok (.bl (i==j)) h:=rfl
@[simp] theorem Zb8:Fj (.int i) (.int j) h=.ok (.bl (!(i==j))) h:=rfl
theorem PB {l:Nat} (e:h[l]?=some (.lst ds)):BZ (.loc l) h=.ok (.tup ds) h:=by simp only [BZ,e]
theorem IG {l:Nat} (e:h[l]?=some (.lst ds)):Cp (.loc l) h=.ok (.loc l) h:=by simp only [Cp,e]
theorem Mp {l:Nat} (e:h[l]?=some (.lst ds)) (hn:ds.length<sizeLine):Hf (.loc l) a h=.ok .non (h.set l (.lst (ds++[a]))):=by simp only [Hf,e];rw [if_pos hn]
theorem ix_tup {k:Nat} (e:ds[k]?=some a):AG (.tup ds) (.int (k:Nat)) h=.ok a h:=by
 have hk:k<ds.length:=(qa2.mp e).1
 have e1:CK ds ((k:Nat):Int)=some a:=by
  unfold CK Dp
  rw [if_pos (by omega),if_pos (by omega)]
  simpa using e
 simp only [AG,By,e1]
theorem Ka {n k:Nat} {e:Nat→D} (hk:k<n):AG (.tup ((List.range n).map e)) (.int (k:Nat)) h=.ok (e k) h:=ix_tup (by simp [FA,hk])
theorem PC {n:Nat} {e:Nat→D} (hk:0<n):AG (.tup ((List.range n).map e)) (.int 0) h=.ok (e 0) h:=Ka (k:=0) hk
@[simp] theorem Zb9:AG (.tup [a,b]) (.int 0) h=.ok a h:=rfl
@[simp] theorem Zca:AG (.tup [a,b]) (.int 1) h=.ok b h:=rfl
theorem VT {ns:List Int} {k:Nat} (e:ns[k]?=some i):AG (.scr ns) (.int (k:Nat)) h=.ok (.int i) h:=by
 have hk:k<ns.length:=(qa2.mp e).1
 have e1:CK (ns.map D.int) ((k:Nat):Int)=some (.int i):=by
  unfold CK Dp
  rw [if_pos (by omega),if_pos (by simpa using hk)]
  simp [e]
 simp only [AG,By,e1]
theorem EU {l k:Nat} (el:h[l]?=some (.lst ds)) (e:ds[k]?=some a):AG (.loc l) (.int (k:Nat)) h=.ok a h:=by
 have hk:k<ds.length:=(qa2.mp e).1
 have e1:CK ds ((k:Nat):Int)=some a:=by
  unfold CK Dp
  rw [if_pos (by omega),if_pos (by omega)]
  simpa using e
 simp only [AG,By,el,e1]
theorem Mq {l k:Nat} {ρ:Ai} (el:h[l]?=some (.lst ds)) (hk:k<ds.length):FS (.loc l) (.int (k:Nat)) a h (.ok (.nx,ρ) h)=.ok (.nx,ρ) (h.set l (.lst (ds.set k a))):=by
 have:Dp ds.length ((k:Nat):Int)=some k:=by
  unfold Dp
  rw [if_pos (by omega),if_pos (by omega)]
  simp
 simp only [FS,el,this]
end
noncomputable def Kb (cs:List (Option Nat)) (it:MI) (sg:MG) (t:MT) (f:ME):ME:=Ah (Ao BZ) (Aa (AV cs it sg t f) Ae)
noncomputable def PD (cs:List (Option Nat)) (it:MI) (sg:MG) (t:MT) (f:ME):ME:=Ah (Ao DD) (Aa (AV cs it sg t f) Ae)
section
variable {α:Type} {cs:List (Option Nat)} {it:MI} {sg:MG} {t:MT} {f:ME} {ρ:Ai} {h:HD} {src:A0} {xs:List α} {φ:α→D}
@[simp] theorem Zcb:Ah (Ao BZ) (Aa (AV cs it sg t f) Ae) ρ h=Kb cs it sg t f ρ h:=rfl
@[simp] theorem Zcc:Ah (Ao DD) (Aa (AV cs it sg t f) Ae) ρ h=PD cs it sg t f ρ h:=rfl
def EV (o:Out (List D×A0)) (h:HD) (ds:List D) (src:A0):Prop:=Wp o fun x h'=>x=(ds,src)∧Sm h h'∧∀h2,Sm h' h2→Bz src ds h2
theorem Kc (e:α→D) (ρ1:α→Ai) (hi:EV (it ρ h) h (xs.map φ) src) (hg:∀x∈xs,sg (φ x) (B4 cs ρ)=some (ρ1 x)) (hf:∀x∈xs,∀h',Sm h h'→Pu (f (ρ1 x) h') h' (e x)) (hn:xs.length≤sizeLine):
 Pu (Kb cs it sg Bo f ρ h) h (.tup (xs.map e)):=VO e ρ1 hi hn hg hf
theorem Mr (b:α→Bool) (ρ1:α→Ai) (hi:EV (it ρ h) h (xs.map φ) src) (hg:∀x∈xs,sg (φ x) (B4 cs ρ)=some (ρ1 x)) (hf:∀x∈xs,∀h',Sm h h'→Pu (f (ρ1 x) h') h' (.bl (b x))) (hn:xs.length≤sizeLine):
 Pu (PD cs it sg Bo f ρ h) h (.bl (xs.all b)):=VP b ρ1 hi hn hg hf
theorem Kd {ds:List D}:EV (BP (Ab 0) (some (.tup ds)::ρ) h) h ds []:=by
 simp [EV,Sm.refl,Bz]
end
theorem VU {α:Type} {xs:List α} {n:α→Int} {h:HD}:Dc (.tup (xs.map fun x=>.int (n x))) h=.ok (.int (xs.map n).sum) h:=by
 simp only [Dc,By,B8]
 rw [J8 (f:=Fq∘fun x=>D.int (n x)) (g:=n) (fun x _=>rfl)]
section
variable {h:HD} {i j:Int}
theorem Ke (h1:-18446744073709551616<j) (h2:j<18446744073709551616):De (.int i) (.int j) h=.ok (.int (i*j)) h:=by
 have:CMl i j:=.inl (.inr ⟨by omega,by omega⟩)
 simp only [De];rw [if_pos this]
theorem IH (h1:-18446744073709551616<i) (h2:i<18446744073709551616):De (.int i) (.int j) h=.ok (.int (i*j)) h:=by
 have:CMl i j:=.inl (.inl ⟨by omega,by omega⟩)
 simp only [De];rw [if_pos this]
theorem VV (h1:Builtin.Int.intBits i≤16777216) (h2:Builtin.Int.intBits j≤16777216):De (.int i) (.int j) h=.ok (.int (i*j)) h:=by
 have:CMl i j:=.inr ⟨h1,h2⟩
 simp only [De];rw [if_pos this]
theorem II (h1:0<j):Fi (.int i) (.int j) h=.ok (.int (i % j)) h:=by
 simp only [Fi,intD];rw [if_pos h1]
theorem PF (h1:0<j) (h2:j<18446744073709551616):Im (.int i) (.int j) h=.ok (.int (i / j)) h:=by
 have:CDv i j:=⟨h1,h2⟩
 simp only [Im,intD];rw [if_pos this]
theorem VW (h1:0<j) (h2:j<18446744073709551616):Il (.int i) (.int j) h=.ok (.tup [.int (i / j),.int (i % j)]) h:=by
 have:CDv i j:=⟨h1,h2⟩
 simp only [Il];rw [if_pos this]
end
theorem PH {α:Type} {o:Out α} {Q:α→HD→Prop}:Wp (noErr o) Q=Wp o Q:=by cases o<;>rfl
theorem PJ {src:A0} {items:List D} {sg:MG} {t:MT} {f:ME} {ρc:Ai} (φ:Nat→D) (I:HD→Prop) (T:Nat→Bool→Prop) (R:Nat→D→Prop) (ρ1:Nat→Ai) (hs:∀h,I h→Bz src items h):
 ∀(xs:List Nat) (h:HD),xs.Nodup→I h→(∀x∈xs,sg (φ x) ρc=some (ρ1 x))→(∀x∈xs,∀h,I h→Wp (t (ρ1 x) h) fun b h1=>T x b∧if b=true then Wp (f (ρ1 x) h1) (fun y h2=>I h2∧R x y) else I h1)→
  Wp (CZ src items sg t f ρc (xs.map φ) h) fun ys h'=>I h'∧∃(g:Nat→Bool) (e:Nat→D),ys=(xs.filter g).map e∧(∀x∈xs,g x=true→R x (e x))∧∀x∈xs,T x (g x)
 |[],h,_,i,_,_=>by
  simp only [FH,CZ]
  rw [if_pos (hs h i)]
  exact ⟨i,fun _=>true,fun _=>.non,rfl,by simp,by simp⟩
 |x::xs,h,hd,i,hg,ht=>by
  simp only [Bf,CZ]
  rw [if_pos (hs h i),hg x A3]
  simp only
  rw [AC,PH]
  rw [qbM] at hd
  refine Wp.mono (ht x A3 h i) fun b h1 z1_=>?_
  obtain ⟨tb,w⟩:=z1_
  have ih:∀h2,I h2→_:=fun h2 i2=>PJ φ I T R ρ1 hs xs h2 hd.2 i2 (fun y hy=>hg y (A6 _ hy)) (fun y hy=>ht y (A6 _ hy))
  cases b with
  |false=>
   rw [if_neg BI] at w ⊢
   refine Wp.mono (ih h1 w) ?_
   rintro ys h' ⟨i',g,e,ey,hr,tr⟩
   refine ⟨i',fun y=>if y=x then false else g y,e,?_,?_,?_⟩
   ·rw [List.filter_cons_of_neg (by simp),ey]
    congr 1
    refine List.filter_congr fun y hy=>?_
    rw [if_neg]
    intro z;subst z;exact hd.1 hy
   ·intro y hy gy
    rcases qa5.mp hy with z |z
    ·subst z;simp at gy
    ·refine hr y z ?_
     by_cases hz:y=x
     ·subst hz;exact absurd z hd.1
     ·simpa [hz] using gy
   ·intro y hy
    by_cases hz:y=x
    ·subst hz;simpa using tb
    ·simp only [if_neg hz]
     exact tr y (by rcases qa5.mp hy with z |z;exact absurd z hz;exact z)
  |true=>
   rw [if_pos rfl] at w ⊢
   rw [AC,PH]
   refine Wp.mono w fun y h2 z3_=>?_
   obtain ⟨i2,ry⟩:=z3_
   rw [AC]
   refine Wp.mono (ih h2 i2) ?_
   rintro ys h' ⟨i',g,e,ey,hr,tr⟩
   refine ⟨i',fun z=>if z=x then true else g z,fun z=>if z=x then y else e z,?_,?_,?_⟩
   ·rw [List.filter_cons_of_pos (by simp),Bf,if_pos rfl,ey]
    congr 1
    rw [show xs.filter (fun z=>if z=x then true else g z)=xs.filter g from List.filter_congr fun z hz=>by
     rw [if_neg]
     intro q;subst q;exact hd.1 hz]
    refine Dk fun z hz=>?_
    rw [if_neg]
    intro q;subst q;exact hd.1 (List.mem_filter.mp hz).1
   ·intro z hz gz
    by_cases q:z=x
    ·subst q;simpa using ry
    ·rcases qa5.mp hz with w |w
     ·exact absurd w q
     ·simp only [if_neg q] at gz ⊢
      exact hr z w gz
   ·intro z hz
    by_cases q:z=x
    ·subst q;simpa using tb
    ·simp only [if_neg q]
     exact tr z (by rcases qa5.mp hz with w |w;exact absurd w q;exact w)
theorem VX {cs:List (Option Nat)} {it:MI} {sg:MG} {t:MT} {f:ME} {ρ:Ai} {h:HD} {src:A0} {xs:List Nat} {Q:D→HD→Prop} (φ:Nat→D) (I:HD→Prop) (T:Nat→Bool→Prop) (R:Nat→D→Prop) (ρ1:Nat→Ai) (hi:Wp (it ρ h) fun x h'=>x=(xs.map φ,src)∧I h') (hs:∀h,I h→Bz src (xs.map φ) h)
 (hnew:∀h c,I h→I (h++[c])) (hd:xs.Nodup) (hn:xs.length≤sizeLine) (hg:∀x∈xs,sg (φ x) (B4 cs ρ)=some (ρ1 x)) (ht:∀x∈xs,∀h,I h→Wp (t (ρ1 x) h) fun b h1=>T x b∧if b=true then Wp (f (ρ1 x) h1) (fun y h2=>I h2∧R x y) else I h1)
 (q:∀h' (g:Nat→Bool) (e:Nat→D),I h'→(∀x∈xs,g x=true→R x (e x))→(∀x∈xs,T x (g x))→Q (.tup ((xs.filter g).map e)) h'):Wp (Kb cs it sg t f ρ h) Q:=by
 unfold Kb
 rw [IF,FU]
 unfold AV
 rw [AC]
 refine Wp.mono hi fun x h1 z5_=>?_
 obtain ⟨ex,i1⟩:=z5_
 subst ex
 rw [if_pos (by simpa using hn),AC]
 refine Wp.mono (PJ φ I T R ρ1 hs xs h1 hd i1 hg ht) fun ys h2 z6_=>?_
 obtain ⟨i2,g,e,ey,hr,tr⟩:=z6_
 subst ey
 refine A9 ?_ fun l h3 s3 e3 _ eh=>?_
 ·rw [CH]
  exact BM (Jo _ _) hn
 ·rw [Fs]
  simp only [Ao,BZ,e3]
  refine q h3 g e ?_ hr tr
  rw [eh]
  exact hnew _ _ i2
structure PyN (n:Nat) (d:D) (p:PyData):Prop where
 rd:∀k,n≤k→Bn [] k d=some p
 ly:p.canLay0=true
 dp:p.depth≤n
theorem PyN.py {n:Nat} {d:D} {p:PyData} (h:PyN n d p) (hn:n≤8):Py d p:=⟨h.rd 8 hn,by
 unfold SeqAt.shaped
 rw [h.ly]
 have:=h.dp
 simp
 omega⟩
def KD {α:Type}:Sem α→Prop
 |.pure _=>True
 |.raise _=>True
 |.unsupported _=>True
 |.finish _=>True
 |.rule _ k=>KD (k ())
 |.at _ k=>KD (k ())
 |.load _ _ k=>∀o,KD (k o)
 |.update _ _ f k=>(∀o,(f o).dict=o.dict∧(o.isFreed=false→(f o).isFreed=false))∧KD (k ())
 |.loadIfAlive _ k=>∀o,KD (k o)
 |.point _ k=>KD (k ())
 |.register _ _=>True
 |.alloc _ k=>∀a,KD (k a)
 |.fresh k=>∀a,KD (k a)
 |.ask k=>∀a,KD (k a)
 |.choose _ _ k=>∀a,KD (k a)
 |.os _ _ k=>∀a,KD (k a)
 |.call ..=>False
 |.handled _ k=>∀a,KD (k a)
 |.genState _ k=>∀a,KD (k a)
 |.newGen _ k=>∀a,KD (k a)
 |.resume ..=>False
 |.yield ..=>True
 |.stack k=>∀a,KD (k a)
 |.fork ..=>True
 |.thread k=>∀a,KD (k a)
 |.await ..=>True
def Dicts (h h':Heap):Prop:=∀b o,h.get? b=some o→∃o',h'.get? b=some o'∧o'.dict=o.dict
theorem Dicts.refl (h:Heap):Dicts h h:=fun _ o e=>⟨o,e,rfl⟩
theorem Dicts.trans {h h1 h2:Heap} (a:Dicts h h1) (b:Dicts h1 h2):Dicts h h2:=fun c o e=>by
 obtain ⟨o1,e1,d1⟩:=a c o e
 obtain ⟨o2,e2,d2⟩:=b c o1 e1
 exact ⟨o2,e2,d2.trans d1⟩
theorem VY {α:Type} {M:Model} {Γ:PySem.Ctx} {Q:α→Pos→Shared→Prop} {E:Value→Pos→Shared→Prop}:∀(t:Sem α) (p:Pos) (s:Shared),KD t→Sem.wp M Γ t Q E p s→Sem.wp M Γ t (fun a p s'=>Q a p s'∧Dicts s.heap s'.heap) (fun a p s'=>E a p s'∧Dicts s.heap s'.heap) p s:=by
 have lift:∀(t:Sem α) (p:Pos) (h0:Heap) (s:Shared),Dicts h0 s.heap→Sem.wp M Γ t (fun a p s'=>Q a p s'∧Dicts s.heap s'.heap) (fun a p s'=>E a p s'∧Dicts s.heap s'.heap) p s→Sem.wp M Γ t (fun a p s'=>Q a p s'∧Dicts h0 s'.heap) (fun a p s'=>E a p s'∧Dicts h0 s'.heap) p s:=
  fun t p h0 s d w=>Sem.wp_mono M Γ t (fun a p s' z=>⟨z.1,d.trans z.2⟩) (fun a p s' z=>⟨z.1,d.trans z.2⟩) p s w
 intro t
 induction t with
 |pure a=>exact fun p s _ w=>⟨w,.refl _⟩
 |raise e=>exact fun p s _ w=>⟨w,.refl _⟩
 |unsupported w=>exact fun p s _ w=>w.elim
 |finish w=>exact fun p s _ w=>w.elim
 |rule t k ih=>exact fun p s kd w=>ih () p s kd w
 |«at» t k ih=>exact fun p s kd w=>ih () t s kd w
 |load a x k ih=>exact fun p s kd ⟨o,e,w⟩=>⟨o,e,ih o p s (kd o) w⟩
 |update a x f k ih=>
  refine fun p s kd ⟨e,w⟩=>⟨e,lift _ p s.heap {s with heap:=s.heap.update a f} (fun b o eb=>?_) (ih () p _ kd.2 w)⟩
  by_cases hb:b=a
  ·subst hb
   obtain ⟨d1,d2⟩:=kd.1 o
   exact ⟨f o,Ln f eb (d2 (Heap.get?_some_iff.mp eb).2),d1⟩
  ·exact ⟨o,(Lm s.heap f (Ne.symm hb)).trans eb,rfl⟩
 |alloc o k ih=>exact fun p s kd w=>lift _ p s.heap {s with heap:=s.heap.push o} (fun b ob eb=>⟨ob,AE _ eb,rfl⟩) (ih _ p {s with heap:=s.heap.push o} (kd _) w)
 |loadIfAlive a k ih=>exact fun p s kd w=>ih _ p s (kd _) w
 |point l k ih=>exact fun p s kd w=>ih () p s kd w
 |register a k ih=>exact fun p s kd w=>w.elim
 |fresh k ih=>exact fun p s kd w=>ih _ p {s with toks:=s.toks+1} (kd _) w
 |ask k ih=>exact fun p s kd w=>ih _ p s (kd _) w
 |choose src n k ih=>exact fun p s kd ⟨z,w⟩=>⟨z,ih _ p {s with drawn:=s.drawn.bump src} (kd _) w⟩
 |os q l k ih=>exact fun p s kd w=>ih _ p {s with os:=(Os.step s.os q).1} (kd _) w
 |call c h g l k ih=>exact fun p s kd w=>kd.elim
 |handled o k ih=>exact fun p s kd w=>ih _ p s (kd _) w
 |newGen c k ih=>exact fun p s kd w=>ih _ p {s with gens:=s.gens.push (.fresh c)} (kd _) w
 |genState g k ih=>exact fun p s kd ⟨st,e,w⟩=>⟨st,e,ih _ p s (kd _) w⟩
 |resume g r l k ih=>exact fun p s kd w=>kd.elim
 |yield v g l k ih=>exact fun p s kd w=>w.elim
 |stack k ih=>exact fun p s kd w=>ih _ p s (kd _) w
 |fork c k ih=>exact fun p s kd w=>w.elim
 |thread k ih=>exact fun p s kd w=>ih _ p s (kd _) w
 |await a t b l k ih=>exact fun p s kd w=>w.elim
theorem IJ {α:Type} {M:Model} {A:Around} {t:Sem α} {Q:α→Shared→Prop} {E:Value→Shared→Prop} {s:Shared} (kd:KD t) (h:wpAny M A t Q E s):wpAny M A t (fun a s'=>Q a s'∧Dicts s.heap s'.heap) (fun a s'=>E a s'∧Dicts s.heap s'.heap) s:=
 fun Γ p hΓ=>VY t p s kd (h Γ p hΓ)
theorem KD.bind {α β:Type} {f:α→Sem β}:∀{t:Sem α},KD t→(∀a,KD (f a))→KD (t >>=f):=by
 intro t
 induction t with
 |pure a=>exact fun _ h=>h a
 |raise e=>exact fun _ _=>True.intro
 |unsupported w=>exact fun _ _=>True.intro
 |finish w=>exact fun _ _=>True.intro
 |rule t k ih=>exact fun kd h=>ih () kd h
 |«at» t k ih=>exact fun kd h=>ih () kd h
 |load a x k ih=>exact fun kd h o=>ih o (kd o) h
 |update a x g k ih=>exact fun kd h=>⟨kd.1,ih () kd.2 h⟩
 |alloc o k ih=>exact fun kd h a=>ih a (kd a) h
 |loadIfAlive a k ih=>exact fun kd h a=>ih a (kd a) h
 |point l k ih=>exact fun kd h=>ih () kd h
 |register a k ih=>exact fun kd h=>True.intro
 |fresh k ih=>exact fun kd h a=>ih a (kd a) h
 |ask k ih=>exact fun kd h a=>ih a (kd a) h
 |choose src n k ih=>exact fun kd h a=>ih a (kd a) h
 |os q l k ih=>exact fun kd h a=>ih a (kd a) h
 |call c h g l k ih=>exact fun kd h=>kd.elim
 |handled o k ih=>exact fun kd h a=>ih a (kd a) h
 |newGen c k ih=>exact fun kd h a=>ih a (kd a) h
 |genState g k ih=>exact fun kd h a=>ih a (kd a) h
 |resume g r l k ih=>exact fun kd h=>kd.elim
 |yield v g l k ih=>exact fun kd h=>True.intro
 |stack k ih=>exact fun kd h a=>ih a (kd a) h
 |fork c k ih=>exact fun kd h=>True.intro
 |thread k ih=>exact fun kd h a=>ih a (kd a) h
 |await a t b l k ih=>exact fun kd h=>True.intro
theorem Ft {α:Type} {c:Prop} [Decidable c] {a b:Sem α} (ha:KD a) (hb:KD b):KD (if c then a else b):=by split<;>assumption
theorem Ms {a:Addr}:KD (load a):=fun _=>True.intro
theorem VZ {f:Array Value→Array Value} (o:Obj):(Obj.mapFields f o).dict=o.dict∧(o.isFreed=false→(Obj.mapFields f o).isFreed=false):=by
 obtain ⟨c,d,dt,sl⟩:=o
 cases dt<;>exact ⟨rfl,fun h=>h⟩
theorem V0 {v:Value}:KD (fieldsOf v):=by
 unfold fieldsOf
 split
 ·exact KD.bind Ms fun o=>by split<;>exact True.intro
 ·exact True.intro
theorem Kf {v:Value} {i:Nat}:KD (field v i):=by
 unfold field
 exact KD.bind V0 fun o=>by split<;>exact True.intro
theorem Mt {v x:Value} {i:Nat}:KD (setField v i x):=by
 unfold setField
 split
 ·unfold updateField
  refine KD.bind Ms fun o=>?_
  split
  ·exact Ft ⟨VZ,True.intro⟩ True.intro
  ·exact True.intro
 ·exact True.intro
theorem Mu {v:Value} {o:Option Addr}:KD (setFlight v o):=by
 unfold setFlight
 exact KD.bind Kf fun o=>Ft Mt True.intro
theorem V1 {n:String} {vs:List Value}:KD (newFields n vs):=by
 unfold newFields newObj
 unfold newObjAsIs
 dsimp only
 split
 ·exact True.intro
 ·exact fun a=>True.intro
theorem PK:∀{l:List Env},KD (readyFrames l)
 |[]=>True.intro
 |env::outer=>by
  unfold readyFrames
  split
  ·refine KD.bind Ms fun o=>Ft True.intro (KD.bind ?_ fun b=>KD.bind ?_ fun v=>KD.bind ⟨fun o=>⟨rfl,fun h=>?_⟩,True.intro⟩ fun _=>PK)
   ·unfold behindIsImport
    exact Ft True.intro (Ft True.intro (KD.bind Kf fun _=>True.intro))
   ·unfold keptBack
    split
    ·exact Ft True.intro fun _=>True.intro
    ·exact True.intro
   ·obtain ⟨c,d,dt,sl⟩:=o
    cases dt<;>exact h
  ·exact True.intro
theorem V2 {env:Env}:KD (PySem.frameOf env):=by
 unfold PySem.frameOf
 refine KD.bind (fun _=>True.intro) fun l=>KD.bind ?_ fun o=>?_
 ·unfold frameObject
  split
  ·exact True.intro
  ·exact KD.bind PK fun _=>True.intro
 ·split<;>exact True.intro
theorem V3 {f:Addr} {b:Bool}:KD (entryPlaceOf f b):=by
 unfold entryPlaceOf
 intro l
 show KD (match l.find? _ with |some (_,pos)=>_ |none=>_)
 split<;>exact True.intro
theorem PL {e:Value} {env:Env}:KD (noteFrame e env):=by
 unfold noteFrame
 split
 ·refine KD.bind Kf fun hd=>?_
  have AX:∀f:Addr,KD (do setField e 1 (←EntryCells.newEntry hd (←PySem.frameOf env) .none (rawInt f) .none (←entryPlaceOf f (hd != .none)))):=fun f=>
   KD.bind V2 fun _=>KD.bind V3 fun _=>KD.bind V1 fun _=>Mt
  refine Ft (KD.bind Kf fun x=>Ft True.intro (KD.bind Mt fun _=>?_)) ?_
  ·exact AX _
  ·exact AX _
 ·exact True.intro
theorem PM {e:Value} {env:Env}:KD (leaving env e):=by
 unfold leaving
 exact KD.bind PL fun _=>Mu
open Classical in
noncomputable def blank (p:Addr→Prop) (h:Heap):Heap:=⟨h.objs.mapIdx fun i o=>if p i then {o with data:=.freed} else o,h.life⟩
theorem FX {p:Addr→Prop} {h:Heap} {b:Addr} (hp:p b):(blank p h).get? b=none:=by
 unfold blank Heap.get?
 simp only [Array.getElem?_mapIdx]
 cases e:h.objs[b]? with
 |none=>rfl
 |some o=>simp [hp]
theorem FY {p:Addr→Prop} {h:Heap} {b:Addr} (hp:¬p b):(blank p h).get? b=h.get? b:=by
 unfold blank Heap.get?
 simp only [Array.getElem?_mapIdx]
 cases e:h.objs[b]? with
 |none=>rfl
 |some o=>simp [hp]
theorem Mv {p:Addr→Prop} {h:Heap}:(blank p h).StaysIn h:=fun b o e=>by
 by_cases hp:p b
 ·rw [FX hp] at e;cases e
 ·rw [FY hp] at e;exact e
inductive Kg (h0 h:Heap) (H:Hp) (a:Addr) (C:Value) (da:Option Addr):Prop where
 |mk (new:h0.get? a=none) (no:H a=none) (oe:Obj) (vs:Array Value) (a0:Value) (T:Addr) (oT:Obj) (ts:Array Value) (e1:h.get? a=some oe) (e2:oe.cls=C∧vs[0]?=some a0) (e3:oe.data=.fields vs) (e4:vs[1]?=some (.ref T)) (e5:h0.get? T=none) (e6:H T=none) (e7:T≠a) (e8:h.get? T=some oT) (e9:oT.data=.fields ts) (e10:ts[3]?=some .none) (e11:oe.dict=da):Kg h0 h H a C da
abbrev Ea (n:Str):Value:=.str n 0
inductive Az (P:Program) (w:World) (K:PySem.W.Frag) (outer:List Env) (H:Hp) (s:Shared) (E:XK) (e:Value) (s':Shared):Prop where
 |mk (a C:Addr) (n:Str) (da:Option Addr) (H':Hp) (ee:e=.ref a) (os:s'.os=s.os) (bare:AllBare s'.gens) (un:Un (frs outer) [] H H' s.heap s'.heap) (hok:HOk P w H' s'.heap) (fly:Kg s.heap s'.heap H' a (.ref C) da) (nm:PySem.W.nsIn K mainGlobals n=some (some (.ref C))) (q:E (Ea n) da H'):Az P w K outer H s E e s'
theorem Kh {h base:Heap} {p:Addr→Prop}:∀{l:List Env},h.FunFrames base l→(∀b∈frs l,p b)→h.FunFrames (blank p h) l
 |[],_,_=>trivial
 |env::rest,⟨k,⟨L,o,hf,_,ho,hd⟩,r⟩,hp=>⟨k,⟨L,o,hf,FX (hp L (by unfold frs;rw [GL,hf];exact A3)),ho,hd⟩,
  Kh r fun b hb=>hp b (by
   unfold frs at hb ⊢
   rw [GL,hf]
   exact A6 _ hb)⟩
theorem Mw {P:Program} {w:World} {H:Hp} {h:Heap} {a:Addr} {o:HO} (x:ObjOk P w H h a o):∃ob,h.get? a=some ob:=by
 cases o with
 |lst xs=>obtain ⟨_,_,_,_,e⟩:=x;exact ⟨_,e⟩
 |tup xs=>obtain ⟨_,_,_,⟨_,e,_⟩,_⟩:=x;exact ⟨_,e⟩
 |own y=>exact x
 |xd fs=>obtain ⟨_,⟨_,_,_,e,_⟩,_⟩:=x;exact ⟨_,e⟩
 |frz ob u=>obtain ⟨e,_⟩:=x;exact ⟨_,e⟩
 |tbl ps=>exact ⟨_,x⟩
 |ext φ=>exact x.2.1
 |mex φ=>exact x.2.1
 |dct φ=>exact x.2.1
structure Lv (X:Cx) (E:XK):Prop where
 xe:∀e s',wpAny (model X.prog X.w) X.A (leaving X.env e) (fun _ s''=>Az X.prog X.w X.K X.outer X.H₀ X.s₀ E e s'') (fun e' s''=>Az X.prog X.w X.K X.outer X.H₀ X.s₀ E e' s'') s'→X.xe e s'
 stk:X.stack=X.env::X.outer
 fr:X.env.frame=some X.env.locals
 ex:X.ex=[]
theorem Ki {P:Program} {w:World} {K:PySem.W.Frag} {mg:Str→Option Value} {base:Heap} {N:List Str} {qual:Str} {scope:Scope} {f:Addr} {cd:Value} {A:Around} {outer:List Env} {s:Shared} {H:Hp} {E:XK}:Lv (AI (Az P w K) P w K mg base N qual scope f cd A outer s H E) E:=
 ⟨fun _ _ h=>h,rfl,rfl,rfl⟩
section
variable {X:Cx} {E:XK}
theorem Lv.frs (lv:Lv X E):L2.frs X.stack=X.env.locals::X.fs:=by
 rw [lv.stk];unfold L2.frs;rw [GL,lv.fr];rfl
theorem PN {pins:List (Addr×Obj)} {σ:L2.St} {H':Hp} {s':Shared} {h':Heap} {a T:Addr} {C:Value} (lv:Lv X E)
 (I:Inv X pins σ H' s')
 (na:X.s₀.heap.get? a=none) (nT:X.s₀.heap.get? T=none) (ha:H' a=none) (hT:H' T=none) {a0:Value}
 (L:Heap.LeftW (blank (fun b=>b=a∨b=T∨b∈frs X.stack) s'.heap) X.stack a C a0 s'.heap h') {da:Option Addr} {oa:Obj} (ea:s'.heap.get? a=some oa) (ed:oa.dict=da) (dd:Dicts s'.heap h'):
 Un X.fs [] X.H₀ H' X.s₀.heap h'∧HOk X.prog X.w H' h'∧Kg X.s₀.heap h' H' a C da:=by
 obtain ⟨stay,ff,⟨oe,vs,T2,oT,ts,e1,e2,e3,e4,e5,e6,e7,e8,e9⟩,ups⟩:=L
 have e11:oe.dict=da:=by
  obtain ⟨o',q1,q2⟩:=dd a oa ea
  rw [e1] at q1
  cases q1
  exact q2.trans ed
 have B:Un X.fs [] X.H₀ H' X.s₀.heap s'.heap:=by have:=I.base;rw [lv.ex] at this;exact this
 have stk:=I.stack
 have frNone:∀b∈frs X.stack,H' b=none:=fun b hb=>I.stkFree b hb
 have keepOf:∀b o,¬(b=a∨b=T∨b∈frs X.stack)→s'.heap.get? b=some o→h'.get? b=some o:=fun b o hb e=>stay b o (by rw [FY hb];exact e)
 have notL:∀b o,X.s₀.heap.get? b=some o→b∉X.fs→b∉frs X.stack:=fun b o e hb z=>by
  rw [lv.frs] at z
  rcases qa5.mp z with z |z
  ·have:=AB e
   rw [z] at this
   exact absurd (AL this I.ok.above) (CI _)
  ·exact hb z
 have old:∀b o,X.s₀.heap.get? b=some o→b≠a∧b≠T:=fun b o e=>⟨fun z=>(by rw [z,na] at e;cases e),fun z=>(by rw [z,nT] at e;cases e)⟩
 have noFields:∀b,b∈frs X.stack→∃o,s'.heap.get? b=some o∧∀vs,o.data≠.fields vs:=fun b hb=>(stk.mem hb).2
 have any:∀b o,X.s₀.heap.get? b=some o→s'.heap.get? b≠none→∃o',h'.get? b=some o':=fun b o e hn=>by
  cases e':s'.heap.get? b with
  |none=>exact absurd e' hn
  |some o'=>
   by_cases hb:b∈frs X.stack
   ·obtain ⟨o2,h2,d2⟩:=noFields b hb
    obtain ⟨sl,h3⟩:=ups b o2 h2 d2
    exact ⟨_,h3⟩
   ·exact ⟨o',keepOf b o' (fun z=>by rcases z with z |z |z;exact (old b o e).1 z;exact (old b o e).2 z;exact hb z) e'⟩
 refine ⟨⟨fun b o e n hb hx=>?_,fun b o e n hb hx=>?_,B.free,fun b o e hx=>?_,B.tups,B.frzs,B.tbls⟩,fun b o e=>?_,na,ha,oe,vs,a0,T2,oT,ts,e1,e2,e3,e4,?_,?_,e6,e7,e8,e9,e11⟩
 ·exact keepOf b o (fun z=>by rcases z with z |z |z;exact (old b o e).1 z;exact (old b o e).2 z;exact notL b o e hb z) (B.keep b o e n hb hx)
 ·obtain ⟨sl,h1⟩:=B.slot b o e n hb hx
  have hb':b∈frs X.stack:=by rw [lv.frs];exact A6 _ hb
  obtain ⟨o2,h2,d2⟩:=noFields b hb'
  rw [h1] at h2
  cases h2
  obtain ⟨sl2,h3⟩:=ups b _ h1 d2
  exact ⟨sl2,h3⟩
 ·obtain ⟨o',h1⟩:=B.there b o e hx
  exact any b o e (by rw [h1];simp)
 ·refine (I.hok b o e).stay (fun c u hc q=>keepOf c u (fun z=>?_) q) (fun _ q=>q) fun _ _ q=>q
  have hc':H' c≠none:=by
   rcases hc with rfl |hc
   ·rw [e];simp
   ·rw [hc];simp
  rcases z with z |z |z
  ·exact hc' (z ▸ ha)
  ·exact hc' (z ▸ hT)
  ·exact hc' (frNone c z)
 ·cases q:X.s₀.heap.get? T2 with
  |none=>rfl
  |some o=>
   exfalso
   obtain ⟨o',h1⟩:=B.there T2 o q (by simp)
   by_cases hb:T2∈frs X.stack
   ·obtain ⟨o2,h2,d2⟩:=noFields T2 hb
    obtain ⟨sl,h3⟩:=ups T2 o2 h2 d2
    rw [h3] at e7
    cases e7
    exact d2 _ e8
   ·rw [FY (fun z=>by rcases z with z |z |z;exact (old T2 o q).1 z;exact (old T2 o q).2 z;exact hb z),h1] at e5
    cases e5
 ·cases q:H' T2 with
  |none=>rfl
  |some o=>
   exfalso
   by_cases hb:T2=a∨T2=T∨T2∈frs X.stack
   ·rcases hb with z |z |z
    ·rw [z,ha] at q;cases q
    ·rw [z,hT] at q;cases q
    ·rw [frNone T2 z] at q;cases q
   ·rw [FY hb] at e5
    obtain ⟨ob,eb⟩:=Mw (I.hok T2 o q)
    rw [eb] at e5
    cases e5
theorem Lv.older (lv:Lv X E) {pins:List (Addr×Obj)} {σ:L2.St} {H1:Hp} {s1:Shared} (I:Inv X pins σ H1 s1):∀b,s1.heap.get? b=none→X.s₀.heap.get? b=none:=fun b hb=>by
 cases q:X.s₀.heap.get? b with
 |none=>rfl
 |some o=>
  obtain ⟨o',h1⟩:=I.base.there b o q (by rw [lv.ex];simp)
  rw [hb] at h1;cases h1
theorem Mx (lv:Lv X E):EI (Az X.prog X.w X.K) X E:=by
 rintro pins σ H1 s1 e s' I ⟨a,C,n,da,H',ee,os,bare,un,hok,fly,nm,q⟩
 subst ee
 have I':Inv X pins σ H' s':=I.call' os un hok bare (fun b hb=>absurd hb (by simp))
 obtain ⟨fnew,fno,oe,vs,a0,T,oT,ts,e1,e2,e3,e4,e5,e6,e7,e8,e9,e10,e11⟩:=fly
 have fro:X.A.frames=some (X.env::X.outer):=by rw [←lv.stk];exact I'.ok.frames
 have stk:s'.heap.FunFrames X.base (X.env::X.outer):=by have:=I'.stack;rw [lv.stk] at this;exact this
 have run:=IJ PM (wpAny_leaving_nextW (M:=model X.prog X.w) (E:=fun _ _=>False) (Q:=fun _ s''=>∃h',s''={s' with heap:=h'}∧Heap.LeftW (blank (fun b=>b=a∨b=T∨b∈frs X.stack) s'.heap) (X.env::X.outer) a (.ref C) a0 s'.heap h') (base:=blank (fun b=>b=a∨b=T∨b∈frs X.stack) s'.heap) (cls:=.ref C) (a0:=a0) fro (Kh stk fun b hb=>.inr (.inr (by rw [lv.stk];exact hb))) lv.fr
  ⟨oe,vs,T,oT,ts,e1,e2,e3,e4,FX (.inr (.inl rfl)),e7,e8,e9,e10⟩ Mv (FX (.inl rfl)) fun h' L=>⟨h',rfl,L⟩)
 refine lv.xe _ _ (wpAny_mono run (fun _ s'' z=>?_) fun _ _ z=>z.1.elim)
 obtain ⟨⟨h',rfl,L⟩,D⟩:=z
 obtain ⟨u1,u2,u3⟩:=PN lv I' (lv.older I a fnew) (lv.older I T e5) fno e6 (by rw [lv.stk] at *;exact L) e1 e11 D
 exact ⟨a,C,n,da,H',rfl,I'.os,bare,u1,u2,u3,nm,q⟩
theorem V4 (lv:Lv X E) {pins:List (Addr×Obj)} {σ:L2.St} {H1:Hp} {s1:Shared} {a C:Addr} {n:Str} {da:Option Addr} {oe:Obj} {vs:Array Value} {a0:Value} (I':Inv X pins σ H1 s1)
 (e1:s1.heap.get? a=some oe) (ec:oe.cls=.ref C) (e3:oe.data=.fields vs) (v0:vs[0]?=some a0) (v1:vs[1]?=some .none) (ed:oe.dict=da) (new:X.s₀.heap.get? a=none) (fresh:H1 a=none) (nm:PySem.W.nsIn X.K mainGlobals n=some (some (.ref C))) (q:E (Ea n) da H1):X.xe (.ref a) s1:=by
 have fro:X.A.frames=some (X.env::X.outer):=by rw [←lv.stk];exact I'.ok.frames
 have stk:s1.heap.FunFrames X.base (X.env::X.outer):=by have:=I'.stack;rw [lv.stk] at this;exact this
 have run:=IJ PM (wpAny_leaving_firstW (M:=model X.prog X.w) (E:=fun _ _=>False) (Q:=fun _ s''=>∃h',s''={s1 with heap:=h'}∧Heap.LeftW (blank (fun b=>b=a∨b=a∨b∈frs X.stack) s1.heap) (X.env::X.outer) a oe.cls a0 s1.heap h') (base:=blank (fun b=>b=a∨b=a∨b∈frs X.stack) s1.heap) (a0:=a0) fro (Kh stk fun b hb=>.inr (.inr (by rw [lv.stk];exact hb))) lv.fr
  e1 Mv (FX (.inl rfl)) e3 v1 v0 fun h2 L=>⟨h2,rfl,L⟩)
 refine lv.xe _ _ (wpAny_mono run (fun _ s'' z=>?_) fun _ _ z=>z.1.elim)
 obtain ⟨⟨h',rfl,L⟩,D⟩:=z
 obtain ⟨u1,u2,u3⟩:=PN lv I' new new fresh fresh (by rw [lv.stk] at *;exact L) e1 ed D
 rw [ec] at u3
 exact ⟨a,C,n,da,H1,rfl,I'.os,I'.bare,u1,u2,u3,nm,q⟩
theorem V5 (lv:Lv X E) {pins:List (Addr×Obj)} {σ:L2.St} {H1:Hp} {s1:Shared} {h':Heap} {a C:Addr} {n:Str} {vs:List Value} (I:Inv X pins σ H1 s1)
 (m:Heap.MadeExcOf s1.heap h' a (.ref C) vs) (nm:PySem.W.nsIn X.K mainGlobals n=some (some (.ref C))) (q:E (Ea n) none H1):X.xe (.ref a) {s1 with heap:=h'}:=by
 have I':Inv X pins σ H1 {s1 with heap:=h'}:=I.kept m.keeps
 obtain ⟨t,e1,e2,e3⟩:=m.there
 have fresh:H1 a=none:=by
  cases q:H1 a with
  |none=>rfl
  |some o=>
   obtain ⟨ob,eb⟩:=Mw (I.hok a o q)
   rw [m.new] at eb;cases eb
 exact V4 lv I' e1 rfl rfl rfl rfl rfl (lv.older I a m.new) fresh nm q
end
section
variable {P:Program} {w:World} {K:PySem.W.Frag} {mg:Str→Option Value} {base:Heap} {N:List Str} {qual:Str} {scope:Scope} {f:Addr} {cd:Value} {A:Around} {outer:List Env} {s:Shared} {H:Hp} {E:XK}
theorem Bb:EI (Az P w K) (AI (Az P w K) P w K mg base N qual scope f cd A outer s H E) E:=Mx Ki
theorem V6 {pins:List (Addr×Obj)} {σ:L2.St} {H1:Hp} {s1:Shared} {h':Heap} {a C:Addr} {n:Str} {vs:List Value} (I:Inv (AI (Az P w K) P w K mg base N qual scope f cd A outer s H E) pins σ H1 s1)
 (m:Heap.MadeExcOf s1.heap h' a (.ref C) vs) (nm:PySem.W.nsIn K mainGlobals n=some (some (.ref C))) (q:E (Ea n) none H1):(AI (Az P w K) P w K mg base N qual scope f cd A outer s H E).xe (.ref a) {s1 with heap:=h'}:=V5 Ki I m nm q
end
inductive PP (h:Heap) (C:Addr) (bmB:List Value) (newId:String):Prop where
 |mk (bm:List Value) (N:Addr) (nm q:Str) (bs:List Value) (hdct:Bool) (sn:List Str) (sub:List Value) (ab:Bool) (col:Option Bool) (dd:Option Addr) (k0 k1 k2 k3 k5:Option Value) (mN:Str→Option Value)
  (hC:h.get? C=some (excClassObj nm q C N bs bm hdct sn sub ab col dd k0 k1 k2 k3 k5 newId)) (hN:h.Ns N mN) (hni:mN "__init__"=none) (T:OwnTail h bmB bm):PP h C bmB newId
def My (K:PySem.W.Frag) (C:Addr) (bmB:List Value) (newId:String):Prop:=∀h:Heap,K.In h→PP h C bmB newId
def clsOf:Data→Option ClassData
 |.cls c=>some c
 |_=>none
theorem V7 {d:Data} {c:ClassData} (h:clsOf d=some c):d=.cls c:=by
 cases d<;>first |(cases h;rfl) |cases h
inductive PQ {α:Type} (l:List α):Prop where
 |mk (a b c d e f:α) (q:l=[a,b,c,d,e,f]):PQ l
theorem V8 {α:Type} {l:List α} (h:l.length=6):PQ l:=by
 cases l with
 |nil=>cases h
 |cons a l=>cases l with
  |nil=>cases h
  |cons b l=>cases l with
   |nil=>cases h
   |cons c l=>cases l with
    |nil=>cases h
    |cons d l=>cases l with
     |nil=>cases h
     |cons e l=>cases l with
      |nil=>cases h
      |cons f l=>cases l with
       |nil=>exact ⟨a,b,c,d,e,f,rfl⟩
       |cons g l=>cases h
def Kj (K:PySem.W.Frag) (C:Addr) (bmB:List Value) (newId:String) (o:Obj) (cd:ClassData):Bool:=
 decide (o.cls=.type "type")&&(decide (cd.mro=.ref C::cd.mro.tail)&&(!cd.hasDel&&(PySem.W.tailIn K bmB cd.mro.tail&&(PySem.W.nsOkIn K cd.ns&&(PySem.W.nsIn K cd.ns "__init__"==some none&&(decide (o.slots.toList.length=6)&&decide (o.slots.toList[4]?=some (some (.builtin newId)))))))))
def Mz (K:PySem.W.Frag) (C:Addr) (bmB:List Value) (newId:String):Bool:=match K.lookup C with
 |some o=>(match clsOf o.data with
  |some cd=>Kj K C bmB newId o cd
  |none=>false)
 |none=>false
theorem V9 {K:PySem.W.Frag} {C:Addr} {bmB:List Value} {newId:String} (q:Mz K C bmB newId=true):My K C bmB newId:=by
 intro h X
 unfold Mz at q
 cases lk:K.lookup C with
 |none=>rw [lk] at q;cases q
 |some o=>
  rw [lk] at q
  replace q:(match clsOf o.data with |some cd=>Kj K C bmB newId o cd |none=>false)=true:=q
  cases ec:clsOf o.data with
  |none=>rw [ec] at q;cases q
  |some cd=>
   rw [ec] at q
   replace q:Kj K C bmB newId o cd=true:=q
   unfold Kj at q
   simp only [CF,decide_eq_true_eq,Bool.not_eq_true',beq_iff_eq] at q
   obtain ⟨e1,e2,e3,e4,e5,e6,e7,e8⟩:=q
   obtain ⟨cls,od,dt,⟨sl⟩⟩:=o
   obtain ⟨nm,bs,mro,ns,qn,hd,sn,sub,ab,col,del⟩:=cd
   replace ec:=V7 ec
   simp only at ec e1 e2 e3 e4 e5 e6 e7 e8
   obtain ⟨k0,k1,k2,k3,k4,k5,rfl⟩:=V8 e7
   cases mro with
   |nil=>cases e2
   |cons c bm=>
    cases e2
    cases Option.some.inj e8
    subst ec e1 e3
    exact ⟨_,_,_,_,_,_,_,_,_,_,_,_,_,_,_,_,h.nsMap ns,X _ _ lk,.of_isNs (PySem.W.isNs_of_in X e5),PySem.W.nsMap_none_of_in X e5 e6,PySem.W.tail_of_in X e4⟩
abbrev IK:List Value:=[.type "ValueError",.type "Exception",.type "BaseException",.type "object"]
def MB (X:Cx) (E:XK):Prop:=∀(pins:List (Addr×Obj)) (σ:L2.St) (H1:Hp) (s1:Shared) (h':Heap) (a C:Addr) (n:Str) (vs:List Value),Inv X pins σ H1 s1→Heap.MadeExcOf s1.heap h' a (.ref C) vs→PySem.W.nsIn X.K mainGlobals n=some (some (.ref C))→E (Ea n) none H1→X.xe (.ref a) {s1 with heap:=h'}
theorem Wa {P:Program} {w:World} {K:PySem.W.Frag} {mg:Str→Option Value} {base:Heap} {N:List Str} {qual:Str} {scope:Scope} {f:Addr} {cd:Value} {A:Around} {outer:List Env} {s:Shared} {H:Hp} {E:XK}:
 MB (AI (Az P w K) P w K mg base N qual scope f cd A outer s H E) E:=fun pins σ H1 s1 h' a C n vs I m nm q=>V6 I m nm q
section
variable {X:Cx} {E:XK}
def IP (n:Str) (fa:MA):MS:=fun ρ h=>(fa ρ h).bind fun xs h1=>if xs.length≤sizeLine then .err (Ea n) [] h1 else .stuck
theorem Wb {x:Str} {C:Addr} {e:Expr} {es:List Expr} {fa:MA} {np cpos pos:Pos} (O:My X.K C IK "ValueError.__new__") (nmC:PySem.W.nsIn X.K mainGlobals x=some (some (.ref C))) (hg:Gl X x) (hc:X.calm=true) (th:MB X E) (ha:Cn X E (e::es) fa)
 (hdb:(x==("__debug__":Str))=false:=by decide) (he:starEach (e::es) X.env=(false,eval e X.env)::starEach es X.env:=by rfl) (hpl:(backTo cpos (starEach (e::es) X.env)).any (·.1)=false:=by rfl):
 Ex X E (.Raise (some (.Call (.Name x np) (e::es) [] cpos)) none pos) (IP x fa):=by
 rintro pins s σ H D I ⟨m,ρ,h,hr,er,p⟩
 have hm:X.mg x=some (.ref C):=PySem.W.mg_of I.mod.kin I.mod.glob nmC
 obtain ⟨bm,NN,nm,q,bs,hdct,sn,sub,ab,col,dd,k0,k1,k2,k3,k5,mN,hC,hN,hni,T⟩:=O X.base I.mod.kin
 refine wpAny_Raise_call_subT (C:=C) (nm:=nm) (q:=q) (N:=NN) (bs:=bs) (bm:=bm) (hdct:=hdct) (sn:=sn) (sub:=sub) (ab:=ab) (col:=col) (dd:=dd) (k0:=k0) (k1:=k1) (k2:=k2) (k3:=k3) (k5:=k5)
  PySem.F.excBase_ValueError (mN:=mN) (T.hasType PySem.F.excBase_ValueError.hasBase) (I.ok.hd hc) hpl hni (FI I hg hm ⟨rfl,?_⟩ hdb)
 have hh:=ha cpos pins s σ H (fun vs H1=>vs.length≤sizeLine∧E (Ea x) none H1) I ⟨m,ρ,h,hr,er,PostS.bind p fun xs h1 vs m1 H1 _ p1 k1 hr1 r1 q1=>by
  split at q1
  ·rename_i hz
   exact ⟨by rw [←DVs.len r1];exact hz,q1 none m1 H1 (Ay _) (.refl _) hr1 (fun f d z=>by cases z)⟩
  ·exact q1.elim⟩
 rw [he] at hh ⊢
 exact Calls.evalArgs_plain (Av hh fun us s1 z1_=>by obtain ⟨vs,H1,I1,r,hl,q1⟩:=z1_;exact (⟨rfl,by rw [←r.length];exact hl,I1.bk _ _ hC,hN.keeps I1.bk,T.keeps I1.bk,fun h' a z=>th pins σ H1 s1 h' a C x us I1 z nmC q1⟩))
inductive EW (K:PySem.W.Frag) (F:List D→HD→Out D) (vs:List V) (H:Hp) (Q:VK) (E:XK):Prop where
 |mk (m:List Addr) (ds:List D) (h:HD) (hr:HR K m h H) (r:DVs K m H ds vs) (p:Post K (rD K) m H E Q (F ds h)):EW K F vs H Q E
theorem Kk {P:Program} {w:World} {K:PySem.W.Frag} {X:Cx}:EI (Az P w K) X E0:=fun _ _ _ _ _ _ _ z2_=>by obtain ⟨_,_,_,_,_,_,_,_,_,_,_,_,q⟩:=z2_;exact (q.elim)
theorem Kl {K:PySem.W.Frag} {n:Nat} {F:List D→HD→Out D} (ar:Ar n F) {vs:List V} {H:Hp} {Q:VK} {E':XK} (h:EW K F vs H Q E'):vs.length=n:=by
 obtain ⟨m,ds,hd,hr,r,p⟩:=h
 rw [←r.len]
 by_cases e:ds.length=n
 ·exact e
 ·rw [ar ds hd e] at p;exact p.elim
structure CaE (P:Program) (w:World) (K:PySem.W.Frag) (mg:Str→Option Value) (base:Heap) (x:Str) (k:Nat) (F:List D→HD→Out D):Prop where
 ex:∃(f:Addr) (fd:FuncData) (ps:List Str),FnOk P w K mg base (Az P w K) k f fd ps (EW K F)∧Binds K fd ps []∧mg x=some (.ref f)∧PySem.W.keepIn K (.ref f)=true
theorem A5 {k k':Nat} {F:List D→HD→Out D} {fa:MA} {x:Str} {p pos:Pos} {e:Expr} {es:List Expr} (C:CaE X.prog X.w X.K X.mg X.base x k F) (hr:Room k' X.A) (hx:EI (Az X.prog X.w X.K) X E) (ha:Cn X E (e::es) fa) (hk:k≤k':=by decide) (hg:Gl X x:=by rfl)
 (hdb:(x==("__debug__":Str))=false:=by decide) (he:starEach (e::es) X.env=(false,eval e X.env)::starEach es X.env:=by rfl) (hpl:(backTo pos (starEach es X.env)).any (·.1)=false:=by rfl):
 Ev X E (.Call (.Name x p) (e::es) [] pos) (Ah F fa):=by
 obtain ⟨f,fd,ps,G,hb,hm,hkp⟩:=C.ex
 exact BU (Ur (E:=E) G (hr.mono hk) hg hm hkp hb .nil hx ha hdb he hpl) fun σ H Q z3_=>by obtain ⟨m,ρ,hd,hr,er,p⟩:=z3_;exact (⟨m,ρ,hd,hr,er,Post.bind p fun xs h1 vs m1 H1 e1 p1 k1 hr1 r1 q1=>by
  rw [GO]
  exact ⟨m1,xs,h1,hr1,r1,q1⟩⟩)
theorem BG {P:Program} {w:World} {K:PySem.W.Frag} {mg:Str→Option Value} {base:Heap} {x qual:Str} {st:Stmt} {f:Addr} {fd:FuncData} {N ps:List Str} {k:Nat} {F:List D→HD→Out D} {g:MS} (Fn:Fun K x qual st f fd) (S:A4 N ps (defScope st)) (ar:Ar ps.length F)
 (hg:∀ds h,ds.length=ps.length→F ds h=Aw N.length g ds h)
 (hbody:∀(cdv:Value) (A:Around) (outer:List Env) (s:Shared) (H:Hp) (E:XK),Room k (A.deeper (envOfC qual (defScope st) s.heap.objs.size f cdv))→AY (AI (Az P w K) P w K mg base N qual (defScope st) f cdv A outer s H E) E (defBody st) g):FnOk P w K mg base (Az P w K) (k+1) f fd ps (EW K F):=by
 obtain ⟨oc,od,kV,doc,pm,an,cdv,ct,osl,rfl,lk,hcd⟩:=Fn.ex
 refine Oy lk hcd S (fun vs H Q E h=>Kl ar h) fun A outer s H vs Q E hr h=>?_
 refine ⟨_,hbody cdv A outer s H E hr,?_⟩
 have hl:=Kl ar h
 obtain ⟨m,ds,hd,hr1,r,p⟩:=h
 have hld:ds.length=ps.length:=by rw [r.len];exact hl
 refine ⟨m,ds.map some++List.replicate (N.length - ds.length) none,hd,hr1,ER.start r,?_⟩
 rw [hg ds hd hld] at p
 unfold Aw at p
 cases o:g (ds.map some++List.replicate (N.length - ds.length) none) hd with
 |stuck=>rw [o] at p;exact p
 |err C fs h1=>rw [o] at p;exact p
 |ok a h1=>
  rw [o] at p
  obtain ⟨fl,ρ1⟩:=a
  intro m1 H1 p1 k1 hr1
  cases fl with
  |nx=>exact fun σ er=>p .non m1 H1 p1 k1 hr1 (by simp [rD,DV])
  |bk=>exact False.elim p
  |ct=>exact False.elim p
  |rt d=>exact fun v rv=>p v m1 H1 p1 k1 hr1 rv
end
theorem Cz {P:Program} {w:World} {K:PySem.W.Frag} {mg:Str→Option Value} {base:Heap} {N:List Str} {qual:Str} {scope:Scope} {f:Addr} {cd:Value} {A:Around} {outer:List Env} {s:Shared} {H:Hp} {E:XK}:
 PassesOwn (model P w) (AI (Az P w K) P w K mg base N qual scope f cd A outer s H E).A (AI (Az P w K) P w K mg base N qual scope f cd A outer s H E).env (AI (Az P w K) P w K mg base N qual scope f cd A outer s H E).xe:=by
 passes_own
section
variable {X:Cx} {E:XK}
abbrev MO:=Ai→HD→Out (Option Int)
abbrev Km (X:Cx) (E:XK) (e:Option Expr) (f:MO):Prop:=PO X e (tM X.K (fun _ _ a b=>a=b) E f)
def EX:MO:=fun _ h=>.ok none h
def Eb (f:ME):MO:=fun ρ h=>(f ρ h).bind fun x h1=>match x with
 |.int i=>.ok (some i) h1
 |_=>.stuck
theorem PR {e:Option Expr} {t t':TO} (h:PO X e t) (i:∀σ H Q,t' σ H Q→t σ H Q):PO X e t':=fun pins s σ H Q I q=>h pins s σ H Q I (i σ H Q q)
theorem IQ:Km X E none EX:=PR UB fun σ H Q z1_=>by obtain ⟨m,ρ,h,hr,er,p⟩:=z1_;exact (p none m H (Ay _) (.refl _) hr rfl)
theorem IS {e:Expr} {f:ME} (he:Ev X E e f):Km X E (some e) (Eb f):=PR (UC he) fun σ H Q z2_=>by obtain ⟨m,ρ,h,hr,er,p⟩:=z2_;exact (⟨m,ρ,h,hr,er,Post.bind p fun x h1 v m1 H1 eo p1 k1 hr1 r1 q1=>by
 clear eo
 split at q1
 ·rename_i i
  simp only [rD,DV] at r1
  exact ⟨i,r1,q1 (some i) m1 H1 (Ay _) (.refl _) hr1 rfl⟩
 ·exact q1.elim⟩)
def Fu (xs:List D) (lo hi:Option Int):List D:=(xs.drop (HT.sIx xs.length 0 lo)).take (HT.sIx xs.length xs.length hi - HT.sIx xs.length 0 lo)
def PU (x:D) (lo hi:Option Int) (h:HD):Out D:=match x with
 |.tup xs=>if HT.sIx xs.length 0 lo=0∧HT.sIx xs.length xs.length hi=xs.length then .stuck else .ok (.tup (Fu xs lo hi)) h
 |_=>.stuck
def PV (f:ME) (lo hi:MO):ME:=fun ρ h=>(f ρ h).bind fun x h1=>(lo ρ h1).bind fun l h2=>(hi ρ h2).bind fun u h3=>PU x l u h3
theorem DVs.cut {K:PySem.W.Frag} {m:List Addr} {H:Hp} {ds:List D} {vs:List V} (r:DVs K m H ds vs) (lo hi:Option Int):DVs K m H (Fu ds lo hi) (GY vs lo hi):=by
 unfold Fu GY
 rw [r.len]
 exact (r.drop _).take _
def Hj (o i x y:D) (ρ:Ai) (h:HD):Out (Fl×Ai):=match x,y with
 |.int a,.int b=>FS o i (.int (a+b)) h (.ok (.nx,ρ) h)
 |_,_=>.stuck
def Hk (o i:D) (h:HD):Out D:=match o,i with
 |.loc l,.int n=>if 0≤n then (match h[l]? with
  |some (.lst ds)=>(match ds[n.toNat]? with
   |some d=>.ok d h
   |none=>.stuck)
  |_=>.stuck) else .stuck
 |_,_=>.stuck
def IT (fo fi fv:ME):MS:=fun ρ h=>(fo ρ h).bind fun o h1=>(fi ρ h1).bind fun i h2=>(Hk o i h2).bind fun x h3=>(fv ρ h3).bind fun y h4=>Hj o i x y ρ h4
theorem Wc:Of X (fun x y H Q=>∃(p:Addr) (xs:List V) (i:Nat) (v:V),x=.ref p∧y=.int i∧SqL X.K H p xs∧xs[i]?=some v∧Q v H):=by
 intro pins s σ H o i ov iv Q I ro ri h
 obtain ⟨p,xs,k,z,rfl,rfl,hq,he,q⟩:=h
 cases ro
 obtain ⟨t,rfl⟩:=ri
 obtain ⟨its,r,pl,hz⟩:=I.list hq
 obtain ⟨w,ew,rw'⟩:=r.get he
 have hk:k<xs.length:=(qa2.mp he).1
 have hn:sizeLine≤2^30:=by unfold sizeLine;omega
 exact wpAny_getItem_list pl.isList (by omega) (by omega) (by simpa using ew) ⟨z,H,I,rw',q⟩
theorem PX {o i e:Expr} {fo fi fv:ME} {tpos pos:Pos} (ho:Ev X E o fo) (hi:Ev X E i fi) (he:Ev X E e fv)
 (ha:∀ov iv new,augStore i ov iv new=(do holding [new,ov,iv] (setItem ov iv new);release [new,ov,iv] [];pure .next):=by intros;rfl):Ex X E (.AugAssign (.Subscript o i tpos) .Add e pos) (IT fo fi fv):=
 DW (Tq ho hi Wc he Ts OF ha) fun Dn σ H ⟨m,ρ,h,hr,er,p⟩=>⟨m,ρ,h,hr,er,PostS.bind p fun ov h1 vo m1 H1 eo1 p1 k1 hr1 r1 q1=>
  ⟨m1,ρ,h1,hr1,er.keep p1 k1,PostS.bind q1 fun iv h2 vi m2 H2 eo2 p2 k2 hr2 r2 q2=>by
   clear eo1 eo2
   have ro:=DV.keep p2 k2 r1
   unfold Hk at q2
   split at q2
   ·rename_i l n
    split at q2
    ·rename_i hn
     split at q2
     ·rename_i ds el
      split at q2
      ·rename_i d ek
       simp only [Out.bind_ok] at q2
       obtain ⟨k,rfl⟩:∃k:Nat,n=(k:Int):=⟨n.toNat,by omega⟩
       simp only [DV] at ro
       obtain ⟨a,rfl,ha⟩:=ro
       simp only [rD,DV] at r2
       subst r2
       obtain ⟨ws,hv,dv⟩:=hr2.cells l _ a el ha
       obtain ⟨wv,ew,rw'⟩:=dv.get (by simpa using ek)
       refine ⟨a,ws,k,wv,rfl,rfl,SqL.of hv,ew,m2,ρ,h2,hr2,(er.keep p1 k1).keep p2 k2,PostS.bind q2 fun y h4 vy m4 H4 eo4 p4 k4 hr4 r4 q4=>?_⟩
       clear eo4
       unfold Hj at q4
       split at q4
       ·rename_i a1 b1
        have rx:=DV.keep p4 k4 rw'
        simp only [DV] at rx
        simp only [rD,DV] at r4
        subst rx r4
        refine ⟨a1,b1,rfl,rfl,?_⟩
        unfold FS at q4
        simp only at q4
        split at q4
        ·rename_i ds4 el4
         split at q4
         ·rename_i j ej
          have ha4:=GZ p4 ha
          obtain ⟨ws4,hv4,dv4⟩:=hr4.cells l _ a el4 ha4
          refine ⟨a,ws4,k,j,rfl,rfl,hv4,by rw [←dv4.len];exact ej,?_⟩
          have hr5:HR X.K m4 (h4.set l (.lst (ds4.set j (.int (a1+b1))))) (Am H4 a (.lst (ws4.set j (.int (a1+b1))))):=hr4.setCell ha4 hv4 rfl ⟨_,Bx,(dv4.set j (by simp [DV])).keep (Ay _) (.set hv4 rfl)⟩
          exact q4 m4 _ (Ay _) (.set hv4 rfl) hr5 σ ((((er.keep p1 k1).keep p2 k2).keep p4 k4).keep (Ay _) (.set hv4 rfl))
         ·exact q4.elim
        ·exact q4.elim
       ·exact q4.elim
      ·exact q2.elim
     ·exact q2.elim
    ·exact q2.elim
   ·exact q2.elim⟩⟩
end
theorem vals_ints:∀{ns:List Int} {its:List Value},Vals (ns.map V.int) its→∃ys:List (Int×Tok),its=ys.map (fun p=>Value.int p.1 p.2)∧ys.map (·.1)=ns
 |[],its,r=>by cases r;exact ⟨[],rfl,rfl⟩
 |n::ns,its,r=>by
  cases r with
  |cons r1 r2=>
   obtain ⟨t,rfl⟩:=r1
   obtain ⟨ys,rfl,e⟩:=vals_ints r2
   exact ⟨(n,t)::ys,rfl,by simp [e]⟩
section
variable {X:Cx}
theorem Wd (hc:X.calm=true):CY X (.builtin "min") (fun xs H Q=>∃(p:Addr) (ns:List Int),xs=[.ref p]∧SqL X.K H p (ns.map V.int)∧ns≠[]∧∀M,M∈ns→(∀a∈ns,M≤a)→Q (.int M) H):=by
 intro pins s σ H xs us Q I r h
 obtain ⟨p,ns,rfl,hs,hne,q⟩:=h
 obtain ⟨u,rfl,rx⟩:=DS r
 cases rx
 obtain ⟨its,rv,pl,hz⟩:=I.list hs
 obtain ⟨ys,rfl,en⟩:=vals_ints rv
 have hlen:ys.length=ns.length:=by rw [←en];simp
 have hpos:0<ys.length:=by rw [hlen];exact List.length_pos_iff.mpr hne
 have hl:s.heap.IsList p (intItems ys.toArray):=by
  have:=pl.isList
  simpa [intItems] using this
 refine min_intList (I.ok.hd hc) hl (by simpa using hpos) fun v h' tk hv hk=>?_
 obtain ⟨t,rfl⟩:=intItems_at hv
 obtain ⟨h1,h2⟩:=argBest_lt (numAt ys.toArray) (ys.toArray.size - 1)
 have hsz:ys.toArray.size=ys.length:=by simp
 have at':∀j,j<ys.length→numAt ys.toArray j∈ns:=fun j hj=>by
  rw [numAt_eq]
  simp only [DO]
  rw [←en,AW (by simpa using hj)]
  simp only [Option.getD_some]
  exact GN _
 refine ⟨.int (numAt ys.toArray (argBest _ (ys.toArray.size - 1))),H,I.kept hk,⟨t,rfl⟩,q _ (at' _ (by omega)) fun a ha=>?_⟩
 rw [←en] at ha
 obtain ⟨j,hj,rfl⟩:=Jq ha
 have hj':j<ys.length:=by simpa using hj
 have:=h2 j (by omega)
 rw [numAt_eq ys.toArray j] at this
 simpa [DO,AW hj'] using this
def Hl:List Int→Int
 |[]=>0
 |n::ns=>ns.foldl min n
theorem MC:∀(ns:List Int) (n:Int),(ns.foldl min n∈n::ns)∧∀a∈n::ns,ns.foldl min n≤a
 |[],n=>by simp
 |m::ns,n=>by
  obtain ⟨h1,h2⟩:=MC ns (min n m)
  rw [List.foldl_cons]
  refine ⟨?_,fun a ha=>?_⟩
  ·rcases qa5.mp h1 with z |z
   ·rw [z]
    rcases Int.le_total n m with q |q
    ·rw [Int.min_eq_left q];simp
    ·rw [Int.min_eq_right q];simp
   ·exact A6 _ (A6 _ z)
  ·have h0:=h2 (min n m) A3
   rcases qa5.mp ha with z |z
   ·subst z;omega
   ·rcases qa5.mp z with z |z
    ·subst z;omega
    ·exact h2 a (A6 _ z)
theorem Wf {ns:List Int} (h:ns≠[]):Hl ns∈ns:=by
 cases ns with
 |nil=>exact absurd rfl h
 |cons n ns=>exact (MC ns n).1
theorem Wg {ns:List Int} {a:Int} (h:a∈ns):Hl ns≤a:=by
 cases ns with
 |nil=>cases h
 |cons n ns=>exact (MC ns n).2 a h
def IU (f:List Int→Int):D→HD→Out D:=fun x h=>match x with
 |.loc l=>match h[l]? with
  |some (.lst ds)=>match AS (ds.map Fq) with
   |some ns=>if ns=[] then .stuck else .ok (.int (f ns)) h
   |none=>.stuck
  |_=>.stuck
 |_=>.stuck
theorem Wh (hc:X.calm=true):Ct X (.builtin "min") (Ao (IU Hl)):=by
 refine ⟨_,Wd hc,fun m H h E ds vs Q hr r q=>Fm r q fun d v ev rv q=>?_⟩
 unfold IU at q
 split at q
 ·rename_i l
  split at q
  ·rename_i ds el
   split at q
   ·rename_i ns en
    split at q
    ·exact q.elim
    ·rename_i hne
     simp only [DV] at rv
     obtain ⟨a,rfl,ha⟩:=rv
     obtain ⟨ws,hv,dv⟩:=hr.cells l _ a el ha
     have ew:=Mf dv en
     subst ew
     refine ⟨a,ns,ev,SqL.of hv,hne,fun M h1 h2=>?_⟩
     have:M=Hl ns:=Int.le_antisymm (h2 _ (Wf hne)) (Wg h1)
     subst this
     exact Ba hr q (by simp [DV])
   ·exact q.elim
  ·exact q.elim
 ·exact q.elim
end
def PY (K:PySem.W.Frag) (t:Addr):It:=⟨fun i H=>∃xs,SqL K H t xs∧i<xs.length,fun i H x H'=>∃p v,H p=none∧x=.ref p∧(∀xs:List V,SqL K H t xs→xs[i]?=some v)∧H'=Am H p (.tup [.int i,v]),fun i H=>∃xs,SqL K H t xs∧i=xs.length⟩
theorem Wi {P:Program} {w:World} {K:PySem.W.Frag} {elts:List Expr} {kt:Nat} {tpos:Pos} (e it t:Addr) (hei:e≠it) (hte:t≠e) (hti:t≠it):
 Fb P w K (.Tuple elts kt tpos) (PY K t) [e,it] e (fun i h=>(∃old,IsEnum h e it i old)∧h.IsListIter it t i) where
 mem:=by simp
 obj:=fun i h st b hb=>by
  obtain ⟨⟨old,h1⟩,o,h2,hc,hd⟩:=st
  rcases qa5.mp hb with z |z
  ·subst z;exact ⟨_,h1,fun v z=>by cases z⟩
  ·rw [qaD] at z
   subst z
   exact ⟨o,h2,fun v z=>by rw [hd] at z;cases z⟩
 keep:=fun i h h' st k=>by
  obtain ⟨⟨old,h1⟩,h2⟩:=st
  exact ⟨⟨old,k e (by simp) _ h1⟩,h2.at fun o z=>k it (by simp) o z⟩
 item:=by
  intro X hP hw hK hc i pins s σ H E I hf st hg
  subst hP hw hK
  obtain ⟨⟨old,he⟩,hit⟩:=st
  obtain ⟨xs,hq,hi⟩:=hg
  obtain ⟨its,rv,p,hz⟩:=I.list hq
  have hT:s.heap.IsList t its.toArray:=p.isList
  have hl:=rv.length
  obtain ⟨e0,e1,e2,e3,e4,e5⟩:=hf e (by simp)
  obtain ⟨i0,i1,i2,i3,i4,i5⟩:=hf it (by simp)
  have hx:xs[i]?=some xs[i]:=AW hi
  refine wpAny_pyNext_enum_itemD (Draws.list (A:=X.A.in1) (I.ok.hd hc) it t hti its.toArray) he ⟨hit,hT⟩ (by rw [AZ];omega) hei (by simp [hei,Ne.symm hte]) fun x h1 tk hPx ho hs1 hTup hsz hk=>?_
  obtain ⟨u,hu,ru⟩:=rv.get hx
  have hux:u=x:=by
   have:its[i]?=some x:=by simpa using hPx
   rw [hu] at this
   exact Option.some.inj this
  subst hux
  refine ⟨.ref s.heap.objs.size,rfl,wpAny_letOwnedTupleGo_enum ho fun h2 he2 sb=>?_⟩
  have hfr:H s.heap.objs.size=none:=I.hok.fresh (AD _)
  have kk:∀b o,b∉[e,it]→s.heap.get? b=some o→h2.get? b=some o:=fun b o hb z=>by
   have n1:b≠e:=fun q=>hb (by simp [q])
   have n2:b≠it:=fun q=>hb (by simp [q])
   exact (sb.2 b n1).trans (hk b o n1 n2 z)
  have na:s.heap.objs.size≠e:=EO (AB he)
  have hnew:h2.get? s.heap.objs.size=some {cls:=.type "tuple",data:=.seq #[.int i tk,u]}:=(sb.2 _ na).trans hTup
  have ntr:∀b w,H b=some w→b∉[e,it]:=fun b w z hb=>by
   rcases qa5.mp hb with q |q
   ·rw [q,e0] at z;cases z
   ·rw [qaD.mp q,i0] at z;cases z
  have nal:∀b o,s.heap.get? b=some o→b≠s.heap.objs.size:=fun b o z=>BF (AB z)
  have it2:h2.IsListIter it t (i+1):=by
   obtain ⟨o,q,r⟩:=hs1.1
   exact ⟨o,(sb.2 it (Ne.symm hei)).trans q,r⟩
  refine ⟨.ref s.heap.objs.size,Am H s.heap.objs.size (.tup [.int i,xs[i]]),?_,rfl,⟨s.heap.objs.size,xs[i],hfr,rfl,fun ys hy=>by rw [I.list_inj hy hq];exact hx,rfl⟩,⟨⟨u,he2⟩,it2⟩,fun b hb=>?_⟩
  ·show Inv X pins σ _ {s with heap:=h2,gens:=s.gens,drawn:=s.drawn,toks:=tk+1}
   refine I.step (g':=s.gens) (d':=s.drawn) (t':=tk+1) (h':=h2) (ch:=[e,it]) (fun b hb=>?_) (fun b o _ _ hc z _=>kk b o hc z) (fun b o _ _ hc z _=>⟨o.slots,kk b o hc z⟩) (fun b o _ z n=>by rw [An (nal b o z)];exact n)
    (fun b o hc z=>⟨o,kk b o hc z⟩) (fun b ys z=>by rw [An (Bg z hfr)];exact z) (fun b o u z=>by rw [An (Bg z hfr)];exact z) (fun b ps z=>⟨#[],by rw [An (Bg z hfr),z];simp⟩) (fun m hm=>?_) (fun b w z=>?_) I.bare
   ·rcases qa5.mp hb with q |q
    ·subst q;exact ⟨e3,e1,e4,e5⟩
    ·rw [qaD] at q;subst q;exact ⟨i3,i1,i4,i5⟩
   ·obtain ⟨o,es,ep,q,r⟩:=hm
    exact ⟨o,es,ep,kk _ o (by simp [Ne.symm e1,Ne.symm i1]) q,r⟩
   ·by_cases hb:b=s.heap.objs.size
    ·subst hb
     rw [Bx] at z
     cases z
     exact ⟨by simp only [E7,GQ];rw [sizeLine_eq];decide,[.int i tk,u],.cons ⟨tk,rfl⟩ (.cons ru .nil),⟨_,hnew,rfl,0,rfl⟩,fun o e=>by rw [hnew] at e;cases e;rfl⟩
    ·rw [An hb] at z
     refine (I.hok b w z).stay (fun c v hc q=>kk c v ?_ q) (fun c q=>by rw [An (Bg q hfr)];exact q) fun c ys q=>by rw [An (Bg q hfr)];exact q
     rcases hc with rfl |hc
     ·exact ntr c _ z
     ·exact ntr c _ hc
  ·have nb:b≠s.heap.objs.size:=by
    rcases qa5.mp hb with q |q
    ·rw [q];exact na.symm
    ·rw [qaD.mp q]
     obtain ⟨o,z,_⟩:=hit
     exact nal _ _ z
   rw [An nb]
   exact (hf b hb).1
 done:=by
  intro X hP hw hK hc i pins s σ H E I hf st hg
  subst hP hw hK
  obtain ⟨⟨old,he⟩,hit⟩:=st
  obtain ⟨xs,hq,hi⟩:=hg
  obtain ⟨its,rv,p,hz⟩:=I.list hq
  have hT:s.heap.IsList t its.toArray:=p.isList
  have hl:=rv.length
  obtain ⟨i0,i1,i2,i3,i4,i5⟩:=hf it (by simp)
  have hin:i=its.toArray.size:=by rw [AZ];omega
  refine wpAny_pyNext_enum_endD (Draws.list (A:=X.A.in1) (I.ok.hd hc) it t hti its.toArray) he (hin ▸ ⟨hit,hT⟩) fun h' eb=>⟨rfl,I.turned (t':=s.toks) (fun b o hb z=>eb b o hb z) i0 i1 i3 i4 i5⟩
 self:=fun A i s Q E st h=>by
  obtain ⟨⟨old,he⟩,_⟩:=st
  exact wpAny_pyIter_enum he h
section
variable {X:Cx} {E:XK}
theorem Wj {elts:List Expr} {kt:Nat} {tpos p pos:Pos} {a:Expr} {ta:TA} (hg:Gl X "enumerate") (hm:X.mg "enumerate"=none) (ha:PA X [a] ta) (hs:starEach [a] X.env=[(false,eval a X.env)]:=by rfl):
 PI X (.Tuple elts kt tpos) (.Call (.Name "enumerate" p) [a] [] pos) (fun σ H R=>ta σ H fun vs H1=>(∃t xs,vs=[.ref t]∧SqT X.K H1 t xs∧R (Pm X.K t xs) H1)∨∃t xs,vs=[.ref t]∧SqL X.K H1 t xs∧R (PY X.K t) H1):=by
 intro pins s σ H R I h
 refine Call_ (FJ I hg hm boot_enumerate (PyProof.Rows.callWith_type1 (Av (ha pos pins s σ H _ I h) fun us s1 z1_=>?_) hs rfl))
 obtain ⟨vs,H1,I1,r1,q1⟩:=z1_
 rcases q1 with ⟨t,xs,e,hq,q⟩ |⟨t,xs,e,hq,q⟩
 ·subst e
  cases r1 with
  |cons r rr=>
   cases rr
   cases r
   obtain ⟨its,rv,p,hz⟩:=I1.tuple hq
   have hT:s1.heap.IsTuple t its.toArray:=p
   have hlt:t<s1.heap.objs.size:=p.lt
   refine VG hT fun h' he hit hsz hk=>wpAny_pyIter_enum (s:={s1 with heap:=h'}) he ?_
   have I2:Inv X pins σ H1 {s1 with heap:=h'}:=I1.kept (t':=s1.toks) hk
   refine ⟨s1.heap.objs.size+1,[s1.heap.objs.size+1,s1.heap.objs.size],_,_,H1,rfl,I2,VH (s1.heap.objs.size+1) s1.heap.objs.size t (Nat.succ_ne_self _) (BF (FD hlt)) (BF hlt) xs,⟨⟨.none,he⟩,hit⟩,fun b hb=>?_,q⟩
   rcases qa5.mp hb with z |z
   ·subst z;exact I1.fpOk (GU _) (I1.hok.fresh (GU _))
   ·rw [qaD] at z;subst z;exact I1.fpOk (AD _) (I1.hok.fresh (AD _))
 ·subst e
  cases r1 with
  |cons r rr=>
   cases rr
   cases r
   obtain ⟨its,rv,p,hz⟩:=I1.list hq
   have hT:s1.heap.IsList t its.toArray:=p.isList
   have hlt:t<s1.heap.objs.size:=by obtain ⟨_,z,_⟩:=hT;exact AB z
   refine call_enumerate_list hT fun h' he hit hsz hk=>wpAny_pyIter_enum (s:={s1 with heap:=h'}) he ?_
   have I2:Inv X pins σ H1 {s1 with heap:=h'}:=I1.kept (t':=s1.toks) hk
   refine ⟨s1.heap.objs.size+1,[s1.heap.objs.size+1,s1.heap.objs.size],_,_,H1,rfl,I2,Wi (s1.heap.objs.size+1) s1.heap.objs.size t (Nat.succ_ne_self _) (BF (FD hlt)) (BF hlt),⟨⟨.none,he⟩,hit⟩,fun b hb=>?_,q⟩
   rcases qa5.mp hb with z |z
   ·subst z;exact I1.fpOk (GU _) (I1.hok.fresh (GU _))
   ·rw [qaD] at z;subst z;exact I1.fpOk (AD _) (I1.hok.fresh (AD _))
def FZ:List D→HD→Out (List D×A0):=fun ds h=>match ds with
 |[.tup xs]=>.ok (DE xs,[]) h
 |[.loc l]=>match h[l]? with
  |some (.lst xs)=>.ok (DE xs,[(l,xs)]) h
  |_=>.stuck
 |_=>.stuck
def F0 (fa:MA):MI:=fun ρ h=>(fa ρ h).bind FZ
theorem MD {elts:List Expr} {kt:Nat} {tpos p pos:Pos} {a:Expr} {fa:MA} (hg:Gl X "enumerate") (hm:X.mg "enumerate"=none) (ha:Cn X E [a] fa) (hs:starEach [a] X.env=[(false,eval a X.env)]:=by rfl):
 EL X E (.Tuple elts kt tpos) (.Call (.Name "enumerate" p) [a] [] pos) (F0 fa):=
 Iw (Wj hg hm ha hs) fun σ H R ⟨m,ρ,h,hr,er,p⟩=>⟨m,ρ,h,hr,er,Post.bind p fun x h1 v m1 H1 eo p1 k1 hr1 r1 q1=>by
  clear eo
  unfold FZ at q1
  split at q1
  ·rename_i xs
   simp only [Dz,DVs,DV] at r1
   obtain ⟨v,w,rfl,⟨a,vs,rfl,ha,dv⟩,rfl⟩:=r1
   refine .inl ⟨a,vs,rfl,SqT.of ha,q1 _ m1 H1 (Ay _) (.refl _) hr1 fun i m2 h2 H2 p2 k2 hr2 _=>⟨fun hi=>?_,fun hi=>?_⟩⟩
   ·have hi':i<xs.length:=by simpa [DE] using hi
    refine ⟨⟨by rw [←dv.len];exact hi',SqT.of (k2 _ _ ha rfl)⟩,fun y H3 ⟨pp,vv,hp,ey,ev,eH⟩=>?_⟩
    subst ey eH
    have hd:xs[i]?=some xs[i]:=AW hi'
    obtain ⟨v2,e2,r2⟩:=dv.get hd
    rw [ev] at e2
    cases e2
    refine ⟨.new hp,hr2.new hp,.tup [.int i,xs[i]],?_,?_⟩
    ·simp [DE,hd]
    ·simp only [DV]
     exact ⟨pp,_,rfl,Bx,.cons (by simp [DV]) (.cons (DV.keep p2 (k2.trans (.new hp)) r2) .nil)⟩
   ·exact ⟨by rw [←dv.len];simpa [DE] using hi,SqT.of (k2 _ _ ha rfl)⟩
  ·rename_i l
   split at q1
   ·rename_i xs el
    simp only [Dz,DVs,DV] at r1
    obtain ⟨v,w,rfl,⟨a,rfl,ha⟩,rfl⟩:=r1
    obtain ⟨vs,hv,dv⟩:=hr1.cells l _ a el ha
    refine .inr ⟨a,vs,rfl,SqL.of hv,q1 _ m1 H1 (Ay _) (.refl _) hr1 fun i m2 h2 H2 p2 k2 hr2 hsr=>?_⟩
    obtain ⟨ws,hw,dw⟩:=hr2.cells l _ a (hsr _ A3) (GZ p2 ha)
    refine ⟨fun hi=>?_,fun hi=>⟨ws,SqL.of hw,by rw [←dw.len];simpa [DE] using hi⟩⟩
    have hi':i<xs.length:=by simpa [DE] using hi
    refine ⟨⟨ws,SqL.of hw,by rw [←dw.len];exact hi'⟩,fun y H3 ⟨pp,vv,hp,ey,ev,eH⟩=>?_⟩
    subst ey eH
    have hd:xs[i]?=some xs[i]:=AW hi'
    obtain ⟨v2,e2,r2⟩:=dw.get hd
    rw [ev ws (SqL.of hw)] at e2
    cases e2
    refine ⟨.new hp,hr2.new hp,.tup [.int i,xs[i]],?_,?_⟩
    ·simp [DE,hd]
    ·simp only [DV]
     exact ⟨pp,_,rfl,Bx,.cons (by simp [DV]) (.cons (DV.keep (Ay _) (.new hp) r2) .nil)⟩
   ·exact q1.elim
  ·exact q1.elim⟩
end
structure Hm (z TI TO p q:Addr) (f g:List Addr):Prop where
 a1:TI≠z
 a2:TO≠z
 a3:p≠z
 a4:q≠z
 a5:TI≠TO
 a6:TI≠p
 a7:TI≠q
 a8:TO≠p
 a9:TO≠q
 b1:p≠q
 b2:z∉f
 b3:z∉g
 b4:TO∉f
 b5:TO∉g
 b6:p∉g
 b7:q∉f
section
variable {prog:Program} {w:World} {A:Around} {E:Value→Shared→Prop} {s:Shared} {z TI TO p q:Addr} {f g:List Addr} {n1 n2 k:Nat} {P1 P2:Nat→Value→Prop} {S1 S2:Nat→Heap→Prop} {a b:Value}
theorem Wk {Q:Value→Shared→Prop} (D1:Draws prog w A p f n1 P1 S1) (D2:Draws prog w A q g n2 P2 S2) (ap:Hm z TI TO p q f g)
 (zz:IsZip s.heap z TI TO .none) (zi:IsPair s.heap TI (.ref p) (.ref q)) (zo:IsPair s.heap TO a b) (s1:S1 k s.heap) (s2:S2 k s.heap) (l1:k<n1) (l2:k<n2)
 (hQ:∀h' tk x y,P1 k x→P2 k y→IsZip h' z TI TO (rawInt s.heap.objs.size)→IsPair h' TO x y→S1 (k+1) h'→S2 (k+1) h'→IsPair h' s.heap.objs.size x y→
  (∀c o,c≠z→c≠TO→c≠p→c≠q→s.heap.get? c=some o→h'.get? c=some o)→Q (.ref s.heap.objs.size) {s with heap:=h',toks:=tk}):
 wpAny (model prog w) A (Builtin.«zip.__next__» ⟨[.ref z],[]⟩) (fun AX s'=>∃v,AX=.done (.ret v)∧Q v s') E s:=by
 show wpAny _ _ (field (.ref z) 2 >>=_) _ _ _
 refine wpAny_bind (wpAny_field zz rfl (x:=.bool false) rfl ?_)
 show wpAny _ _ (field (.ref z) 3 >>=_) _ _ _
 refine wpAny_bind (wpAny_field zz rfl (x:=.ref TI) rfl ?_)
 refine wpAny_bind (wpAny_seqItems zi rfl ?_)
 show wpAny _ _ (Builtin.SmallTypes.ownedTupleIsFree (.ref z) >>=_) _ _ _
 refine wpAny_bind ?_
 unfold Builtin.SmallTypes.ownedTupleIsFree
 refine wpAny_bind (wpAny_field zz rfl (x:=.none) rfl (wpAny_pure ?_))
 simp only [if_true]
 refine wpAny_bind (wpAny_rule ?_)
 refine wpAny_bind (wpAny_field zz rfl (x:=.ref TO) rfl ?_)
 refine wpAny_bind (wpAny_setField_rec zz (by simp) fun m1 zz1 t1=>?_)
 replace zz1:IsZip m1 z TI TO .ellipsis:=zz1
 refine wpAny_bind ?_
 simp only [List.zipIdx_cons,List.zipIdx_nil,List.forIn_cons,List.forIn_nil]
 refine wpAny_bind (wpAny_bind (wpAny_onRaise ?_))
 show wpAny _ _ (Builtin.SmallTypes.nextOf (.ref p) >>=_) _ _ _
 refine wpAny_bind (D1.item k _ _ _ l1 (D1.frame k _ _ s1 fun c hc o e=>t1.extBut _ _ (fun y=>ap.b2 (y ▸ hc)) e) fun x m2 tk2 px s12 t2=>wpAny_pure ?_)
 have zo2:IsPair m2 TO a b:=t2.extBut _ _ ap.a8 (t1.extBut _ _ ap.a2 zo)
 refine wpAny_bind (wpAny_seqItems zo2 rfl ?_)
 refine wpAny_bind (wpAny_updateSeq_pair zo2 fun m3 zo3 t3=>?_)
 replace zo3:IsPair m3 TO x b:=zo3
 refine wpAny_bind (wpAny_letGo (wpAny_pure ?_))
 refine wpAny_bind (wpAny_bind (wpAny_onRaise ?_))
 show wpAny _ _ (Builtin.SmallTypes.nextOf (.ref q) >>=_) _ _ _
 have s23:S2 k m3:=D2.frame k _ _ s2 fun c hc o e=>t3.extBut _ _ (fun y=>ap.b5 (y ▸ hc)) (t2.extBut _ _ (fun y=>ap.b6 (y ▸ hc)) (t1.extBut _ _ (fun y=>ap.b3 (y ▸ hc)) e))
 refine wpAny_bind (D2.item k _ _ _ l2 s23 fun y m4 tk4 py s24 t4=>wpAny_pure ?_)
 have zo4:IsPair m4 TO x b:=t4.extBut _ _ ap.a9 zo3
 refine wpAny_bind (wpAny_seqItems zo4 rfl ?_)
 refine wpAny_bind (wpAny_updateSeq_pair zo4 fun m5 zo5 t5=>?_)
 replace zo5:IsPair m5 TO x y:=zo5
 refine wpAny_bind (wpAny_letGo (wpAny_pure (wpAny_pure ?_)))
 refine wpAny_bind (wpAny_seqItems zo5 rfl ?_)
 refine wpAny_bind (wpAny_newTuple ?_)
 have sz:m5.objs.size=s.heap.objs.size:=by rw [t5.1,t4.1,t3.1,t2.1,t1.1]
 have zz5:IsZip m5 z TI TO .ellipsis:=t5.extBut _ _ ap.a2.symm (t4.extBut _ _ ap.a4.symm (t3.extBut _ _ ap.a2.symm (t2.extBut _ _ ap.a3.symm zz1)))
 have kp:∀c o,c≠z→c≠TO→c≠p→c≠q→s.heap.get? c=some o→m5.get? c=some o:=fun c o c1 c2 c3 c4 e=>t5.extBut _ _ c2 (t4.extBut _ _ c4 (t3.extBut _ _ c2 (t2.extBut _ _ c3 (t1.extBut _ _ c1 e))))
 have zlt:z<m5.objs.size:=AB zz5
 show wpAny _ _ (Builtin.SmallTypes.ownedTupleHandOut (.ref z) (.ref m5.objs.size) >>=_) _ _ _
 refine wpAny_bind ?_
 unfold Builtin.SmallTypes.ownedTupleHandOut
 have zz6:IsZip (m5.push {cls:=.type "tuple",data:=.seq #[x,y]}) z TI TO .ellipsis:=AE _ zz5
 refine wpAny_bind (wpAny_setField_rec zz6 (by simp) fun m7 zz7 t7=>?_)
 replace zz7:IsZip m7 z TI TO (rawInt m5.objs.size):=zz7
 refine wpAny_setField_rec zz7 (by simp) fun m8 zz8 t8=>?_
 replace zz8:IsZip m8 z TI TO (rawInt m5.objs.size):=zz8
 have up:∀c o,c≠z→m5.get? c=some o→m8.get? c=some o:=fun c o c1 e=>t8.extBut _ _ c1 (t7.extBut _ _ c1 (AE _ e))
 have nw:IsPair m8 m5.objs.size x y:=t8.extBut _ _ (BS zlt) (t7.extBut _ _ (BS zlt) (Bj _ rfl))
 rw [sz] at zz8 nw
 refine wpAny_pure ⟨_,rfl,?_⟩
 show Q (.ref m5.objs.size) _
 rw [sz]
 refine hQ m8 tk4 x y px py zz8 (up _ _ ap.a2 zo5) (D1.frame _ m2 m8 s12 fun c hc o e=>?_) (D2.frame _ m4 m8 s24 fun c hc o e=>?_) nw fun c o c1 c2 c3 c4 e=>up c o c1 (kp c o c1 c2 c3 c4 e)
 ·have n1:c≠TO:=fun y=>ap.b4 (y ▸ hc)
  exact up c o (fun y=>ap.b2 (y ▸ hc)) (t5.extBut _ _ n1 (t4.extBut _ _ (fun y=>ap.b7 (y ▸ hc)) (t3.extBut _ _ n1 e)))
 ·exact up c o (fun y=>ap.b3 (y ▸ hc)) (t5.extBut _ _ (fun y=>ap.b5 (y ▸ hc)) e)
theorem Wl {Q:Fin→Shared→Prop} (D1:Draws prog w A p f n1 P1 S1) (D2:Draws prog w A q g n2 P2 S2) (ap:Hm z TI TO p q f g)
 (zz:IsZip s.heap z TI TO .none) (zi:IsPair s.heap TI (.ref p) (.ref q)) (zo:IsPair s.heap TO a b) (s1:S1 k s.heap) (s2:S2 k s.heap) (hk:k=n1∨(k<n1∧k=n2))
 (hE:∀h' tk e,(∀c o,c≠z→c≠TO→c≠p→c≠q→s.heap.get? c=some o→h'.get? c=some o)→(∃o,h'.get? e=some o∧o.cls=.type "StopIteration")→E (.ref e) {s with heap:=h',toks:=tk}):
 wpAny (model prog w) A (Builtin.«zip.__next__» ⟨[.ref z],[]⟩) Q E s:=by
 show wpAny _ _ (field (.ref z) 2 >>=_) _ _ _
 refine wpAny_bind (wpAny_field zz rfl (x:=.bool false) rfl ?_)
 show wpAny _ _ (field (.ref z) 3 >>=_) _ _ _
 refine wpAny_bind (wpAny_field zz rfl (x:=.ref TI) rfl ?_)
 refine wpAny_bind (wpAny_seqItems zi rfl ?_)
 show wpAny _ _ (Builtin.SmallTypes.ownedTupleIsFree (.ref z) >>=_) _ _ _
 refine wpAny_bind ?_
 unfold Builtin.SmallTypes.ownedTupleIsFree
 refine wpAny_bind (wpAny_field zz rfl (x:=.none) rfl (wpAny_pure ?_))
 simp only [if_true]
 refine wpAny_bind (wpAny_rule ?_)
 refine wpAny_bind (wpAny_field zz rfl (x:=.ref TO) rfl ?_)
 refine wpAny_bind (wpAny_setField_rec zz (by simp) fun m1 zz1 t1=>?_)
 replace zz1:IsZip m1 z TI TO .ellipsis:=zz1
 refine wpAny_bind ?_
 simp only [List.zipIdx_cons,List.zipIdx_nil,List.forIn_cons,List.forIn_nil]
 refine wpAny_bind (wpAny_bind (wpAny_onRaise ?_))
 show wpAny _ _ (Builtin.SmallTypes.nextOf (.ref p) >>=_) _ _ _
 have s11:=D1.frame k _ m1 s1 fun c hc o e=>t1.extBut _ _ (fun y=>ap.b2 (y ▸ hc)) e
 rcases hk with hk |⟨hk,hk2⟩
 ·subst hk
  refine wpAny_bind (D1.done _ _ _ s11 fun m2 e t2 he=>?_)
  obtain ⟨oe,e1,e2⟩:=he
  have zz2:IsZip m2 z TI TO .ellipsis:=t2 _ _ ap.a3.symm zz1
  have ne:e≠z:=fun y=>by subst y;rw [zz2] at e1;cases e1;simp at e2
  exact wpAny_setField_rec zz2 (by simp) fun m3 _ t3=>hE m3 _ e (fun c o c1 _ c3 _ y=>t3.extBut _ _ c1 (t2 _ _ c3 (t1.extBut _ _ c1 y))) ⟨oe,t3.extBut _ _ ne e1,e2⟩
 ·subst hk2
  refine wpAny_bind (D1.item k _ _ _ hk s11 fun x m2 tk2 px s12 t2=>wpAny_pure ?_)
  have zo2:IsPair m2 TO a b:=t2.extBut _ _ ap.a8 (t1.extBut _ _ ap.a2 zo)
  refine wpAny_bind (wpAny_seqItems zo2 rfl ?_)
  refine wpAny_bind (wpAny_updateSeq_pair zo2 fun m3 zo3 t3=>?_)
  refine wpAny_bind (wpAny_letGo (wpAny_pure ?_))
  refine wpAny_bind (wpAny_bind (wpAny_onRaise ?_))
  show wpAny _ _ (Builtin.SmallTypes.nextOf (.ref q) >>=_) _ _ _
  have s23:S2 k m3:=D2.frame k _ _ s2 fun c hc o e=>t3.extBut _ _ (fun y=>ap.b5 (y ▸ hc)) (t2.extBut _ _ (fun y=>ap.b6 (y ▸ hc)) (t1.extBut _ _ (fun y=>ap.b3 (y ▸ hc)) e))
  refine wpAny_bind (D2.done _ _ _ s23 fun m4 e t4 he=>?_)
  obtain ⟨oe,e1,e2⟩:=he
  have zz4:IsZip m4 z TI TO .ellipsis:=t4 _ _ ap.a4.symm (t3.extBut _ _ ap.a2.symm (t2.extBut _ _ ap.a3.symm zz1))
  have ne:e≠z:=fun y=>by subst y;rw [zz4] at e1;cases e1;simp at e2
  exact wpAny_setField_rec zz4 (by simp) fun m5 _ t5=>hE m5 _ e (fun c o c1 c2 c3 c4 y=>t5.extBut _ _ c1 (t4 _ _ c4 (t3.extBut _ _ c2 (t2.extBut _ _ c3 (t1.extBut _ _ c1 y))))) ⟨oe,t5.extBut _ _ ne e1,e2⟩
theorem Wm {Q:Option Value→Shared→Prop} (D1:Draws prog w A.in1 p f n1 P1 S1) (D2:Draws prog w A.in1 q g n2 P2 S2) (ap:Hm z TI TO p q f g)
 (zz:IsZip s.heap z TI TO .none) (zi:IsPair s.heap TI (.ref p) (.ref q)) (zo:IsPair s.heap TO a b) (s1:S1 k s.heap) (s2:S2 k s.heap) (l1:k<n1) (l2:k<n2)
 (hQ:∀h' tk x y,P1 k x→P2 k y→IsZip h' z TI TO (rawInt s.heap.objs.size)→IsPair h' TO x y→S1 (k+1) h'→S2 (k+1) h'→IsPair h' s.heap.objs.size x y→
  (∀c o,c≠z→c≠TO→c≠p→c≠q→s.heap.get? c=some o→h'.get? c=some o)→Q (some (.ref s.heap.objs.size)) {s with heap:=h',toks:=tk}):
 wpAny (model prog w) A (pyNext (.ref z)) Q E s:=by
 have hT:s.TypeIs (.ref z) "zip":=⟨_,zz,rfl⟩
 unfold pyNext
 exact wpAny_bind (wpAny_attempt (wpAny_callSpecial?_slot (name:=Str.ofString "__next__") hT F.slot_zip_next (wpAny_call_entry F.slot_zip_next hT F.entry_zip_next
  (Wk D1 D2 ap zz zi zo s1 s2 l1 l2 fun h' tk x y c1 c2 c3 c4 c5 c6 c7 c8=>wpAny_pure (hQ h' tk x y c1 c2 c3 c4 c5 c6 c7 c8)) (F.args_zip_next_1 _))))
theorem Wn {Q:Option Value→Shared→Prop} (D1:Draws prog w A.in1 p f n1 P1 S1) (D2:Draws prog w A.in1 q g n2 P2 S2) (ap:Hm z TI TO p q f g)
 (zz:IsZip s.heap z TI TO .none) (zi:IsPair s.heap TI (.ref p) (.ref q)) (zo:IsPair s.heap TO a b) (s1:S1 k s.heap) (s2:S2 k s.heap) (hk:k=n1∨(k<n1∧k=n2))
 (hQ:∀h' tk,(∀c o,c≠z→c≠TO→c≠p→c≠q→s.heap.get? c=some o→h'.get? c=some o)→Q none {s with heap:=h',toks:=tk}):wpAny (model prog w) A (pyNext (.ref z)) Q E s:=by
 have hT:s.TypeIs (.ref z) "zip":=⟨_,zz,rfl⟩
 unfold pyNext
 refine wpAny_bind (wpAny_attempt (wpAny_callSpecial?_slot (name:=Str.ofString "__next__") hT F.slot_zip_next (wpAny_call_entry F.slot_zip_next hT F.entry_zip_next
  (Wl D1 D2 ap zz zi zo s1 s2 hk fun h' tk e kp he=>?_) (F.args_zip_next_1 _))))
 obtain ⟨o,ho,hc⟩:=he
 refine wpAny_bind (wpAny_isInstance (T:="StopIteration") (b:=true) ⟨o,ho,hc⟩ isSubtype_stop ?_)
 exact wpAny_pure (hQ _ _ kp)
end
open AutoSeq1 (wpAny_loadPart')
def ItAt:Bool→Heap→Addr→Addr→Nat→Prop
 |true,h,it,l,i=>h.IsTupleIter it l i
 |false,h,it,l,i=>h.IsListIter it l i
def SqA:Bool→Heap→Addr→Array Value→Prop
 |true,h,l,xs=>h.IsTuple l xs
 |false,h,l,xs=>h.IsList l xs
def Du:Bool→PySem.W.Frag→Hp→Addr→List V→Prop
 |true,K,H,a,xs=>SqT K H a xs
 |false,K,H,a,xs=>SqL K H a xs
def F4 (k:Bool) (l:Addr):Obj:={cls:=.type (if k then "tuple_iterator" else "list_iterator"),data:=.fields #[.ref l,.int 0 0]}
theorem Kn {prog:Program} {w:World} {A:Around} (k:Bool) (hh:A.handled=none) (it l:Addr) (hne:l≠it) (items:Array Value):
 Draws prog w A it [it,l] items.size (fun i v=>items[i]?=some v) (fun i h=>ItAt k h it l i∧SqA k h l items):=by
 cases k
 ·exact Draws.list hh it l hne items
 ·exact Mh hh it l hne items
theorem ItAt.obj {k:Bool} {h:Heap} {it l:Addr} {i:Nat} (x:ItAt k h it l i):∃o,h.get? it=some o∧∀v,o.data≠.cell v:=by
 cases k
 ·obtain ⟨o,e,c,d⟩:=x
  exact ⟨o,e,fun v z=>by rw [d] at z;cases z⟩
 ·obtain ⟨o,e,c,d⟩:=x
  exact ⟨o,e,fun v z=>by rw [d] at z;cases z⟩
theorem ItAt.at {k:Bool} {h h':Heap} {it l:Addr} {i:Nat} (x:ItAt k h it l i) (f:∀o,h.get? it=some o→h'.get? it=some o):ItAt k h' it l i:=by
 cases k
 ·exact Heap.IsListIter.at x f
 ·exact Heap.IsTupleIter.at x f
section
variable {X:Cx} {pins:List (Addr×Obj)} {σ:L2.St} {H:Hp} {s:Shared}
theorem Ho {k:Bool} {a:Addr} {xs:List V} (I:Inv X pins σ H s) (h:Du k X.K H a xs):∃its:List Value,Vals xs its∧SqA k s.heap a its.toArray∧a<s.heap.objs.size:=by
 cases k
 ·obtain ⟨its,r,p,_⟩:=I.list h
  have q:=p.isList
  exact ⟨its,r,q,by obtain ⟨_,e,_⟩:=q;exact AB e⟩
 ·obtain ⟨its,r,p,_⟩:=I.tuple h
  exact ⟨its,r,p,p.lt⟩
theorem PZ {k:Bool} {a:Addr} {xs ys:List V} (I:Inv X pins σ H s) (h:Du k X.K H a xs) (h':Du k X.K H a ys):xs=ys:=by
 cases k
 ·exact I.list_inj h h'
 ·exact I.tuple_inj h h'
end
def P0 (K:PySem.W.Frag) (k1 k2:Bool) (t u:Addr):It:=⟨fun i H=>∃xs ys,Du k1 K H t xs∧Du k2 K H u ys∧i<xs.length∧i<ys.length,
 fun i H x H'=>∃p v v',H p=none∧x=.ref p∧(∀xs:List V,Du k1 K H t xs→xs[i]?=some v)∧(∀ys:List V,Du k2 K H u ys→ys[i]?=some v')∧H'=Am H p (.tup [v,v']),
 fun i H=>∃xs ys,Du k1 K H t xs∧Du k2 K H u ys∧(i=xs.length∨(i<xs.length∧i=ys.length))⟩
inductive P3 (k1 k2:Bool) (z TI TO p q t u:Addr) (i:Nat) (h:Heap):Prop where
 |mk (zz:IsZip h z TI TO .none) (zi:IsPair h TI (.ref p) (.ref q)) (zo:∃a b,IsPair h TO a b) (x1:ItAt k1 h p t i) (x2:ItAt k2 h q u i):P3 k1 k2 z TI TO p q t u i h
theorem Wo {P:Program} {w:World} {K:PySem.W.Frag} {elts:List Expr} {kt:Nat} {tpos:Pos} (k1 k2:Bool) (z TI TO p q t u:Addr) (ap:Hm z TI TO p q [p,t] [q,u]) (n1:t≠p) (n2:u≠q):
 Fb P w K (.Tuple elts kt tpos) (P0 K k1 k2 t u) [z,TI,TO,p,q] z (P3 k1 k2 z TI TO p q t u) where
 mem:=by simp
 obj:=fun i h st c hc=>by
  obtain ⟨zz,zi,⟨a,b,zo⟩,x1,x2⟩:=st
  simp only [qa5,CG,or_false] at hc
  rcases hc with rfl |rfl |rfl |rfl |rfl
  ·exact ⟨_,zz,fun v y=>by cases y⟩
  ·exact ⟨_,zi,fun v y=>by cases y⟩
  ·exact ⟨_,zo,fun v y=>by cases y⟩
  ·exact x1.obj
  ·exact x2.obj
 keep:=fun i h h' st kp=>by
  obtain ⟨zz,zi,⟨a,b,zo⟩,x1,x2⟩:=st
  exact ⟨kp z (by simp) _ zz,kp TI (by simp) _ zi,⟨a,b,kp TO (by simp) _ zo⟩,x1.at fun o e=>kp p (by simp) o e,x2.at fun o e=>kp q (by simp) o e⟩
 item:=by
  intro X hP hw hK hc i pins s σ H E I hf st hg
  subst hP hw hK
  obtain ⟨zz,zi,⟨a,b,zo⟩,x1,x2⟩:=st
  obtain ⟨xs,ys,hq1,hq2,l1,l2⟩:=hg
  obtain ⟨it1,rv1,sq1,lt1⟩:=Ho I hq1
  obtain ⟨it2,rv2,sq2,lt2⟩:=Ho I hq2
  have e1:=rv1.length
  have e2:=rv2.length
  have hh:X.A.in1.handled=none:=I.ok.hd hc
  refine Wm (Kn k1 hh p t n1 it1.toArray) (Kn k2 hh q u n2 it2.toArray) ap zz zi zo ⟨x1,sq1⟩ ⟨x2,sq2⟩ (by rw [AZ];omega) (by rw [AZ];omega) fun h1 tk x y px py zz1 zo1 st1 st2 nw kp=>?_
  refine ⟨.ref s.heap.objs.size,rfl,wpAny_letOwnedTupleGo_zip zz1 fun h2 zz2 sb=>?_⟩
  have hx:xs[i]?=some xs[i]:=AW l1
  have hy:ys[i]?=some ys[i]:=AW l2
  obtain ⟨u1,hu1,ru1⟩:=rv1.get hx
  obtain ⟨u2,hu2,ru2⟩:=rv2.get hy
  have hux:u1=x:=by
   have:it1[i]?=some x:=by simpa using px
   rw [hu1] at this
   exact Option.some.inj this
  have huy:u2=y:=by
   have:it2[i]?=some y:=by simpa using py
   rw [hu2] at this
   exact Option.some.inj this
  subst hux huy
  have hfr:H s.heap.objs.size=none:=I.hok.fresh (AD _)
  have kk:∀c o,c∉[z,TI,TO,p,q]→s.heap.get? c=some o→h2.get? c=some o:=fun c o hc e=>by
   simp only [qa5,CG,or_false,not_or] at hc
   exact (sb.2 c hc.1).trans (kp c o hc.1 hc.2.2.1 hc.2.2.2.1 hc.2.2.2.2 e)
  have nal:∀c o,s.heap.get? c=some o→c≠s.heap.objs.size:=fun c o e=>BF (AB e)
  have na:s.heap.objs.size≠z:=Ne.symm (nal z _ zz)
  have hnew:h2.get? s.heap.objs.size=some {cls:=.type "tuple",data:=.seq #[u1,u2]}:=(sb.2 _ na).trans nw
  have ntr:∀c o,H c=some o→c∉[z,TI,TO,p,q]:=fun c o e hc=>by
   rw [(hf c hc).1] at e;cases e
  refine ⟨.ref s.heap.objs.size,Am H s.heap.objs.size (.tup [xs[i],ys[i]]),?_,rfl,⟨s.heap.objs.size,xs[i],ys[i],hfr,rfl,fun zs hz=>by rw [PZ I hz hq1];exact hx,fun zs hz=>by rw [PZ I hz hq2];exact hy,rfl⟩,
   ⟨zz2,(sb.2 TI ap.a1).trans (kp TI _ ap.a1 ap.a5 ap.a6 ap.a7 zi),⟨u1,u2,(sb.2 TO ap.a2).trans zo1⟩,st1.1.at fun o e=>(sb.2 p ap.a3).trans e,st2.1.at fun o e=>(sb.2 q ap.a4).trans e⟩,fun c hc=>?_⟩
  ·show Inv X pins σ _ {s with heap:=h2,gens:=s.gens,drawn:=s.drawn,toks:=tk}
   refine I.step (g':=s.gens) (d':=s.drawn) (t':=tk) (h':=h2) (ch:=[z,TI,TO,p,q]) (fun c hc=>?_) (fun c o _ _ hc e _=>kk c o hc e) (fun c o _ _ hc e _=>⟨o.slots,kk c o hc e⟩) (fun c o _ e n=>by rw [An (nal c o e)];exact n)
    (fun c o hc e=>⟨o,kk c o hc e⟩) (fun c zs e=>by rw [An (Bg e hfr)];exact e) (fun c o v e=>by rw [An (Bg e hfr)];exact e) (fun c ps e=>⟨#[],by rw [An (Bg e hfr),e];simp⟩) (fun m hm=>?_) (fun c o e=>?_) I.bare
   ·obtain ⟨_,c1,_,c3,c4,c5⟩:=hf c hc
    exact ⟨c3,c1,c4,c5⟩
   ·obtain ⟨o,es,ep,e,r⟩:=hm
    exact ⟨o,es,ep,kk _ o (fun hc=>(hf _ hc).2.1 rfl) e,r⟩
   ·by_cases hb:c=s.heap.objs.size
    ·subst hb
     rw [Bx] at e
     cases e
     exact ⟨by simp only [E7,GQ];rw [sizeLine_eq];decide,[u1,u2],.cons ru1 (.cons ru2 .nil),⟨_,hnew,rfl,0,rfl⟩,fun o e=>by rw [hnew] at e;cases e;rfl⟩
    ·rw [An hb] at e
     refine (I.hok c o e).stay (fun d v hd e'=>kk d v ?_ e') (fun d e'=>by rw [An (Bg e' hfr)];exact e') fun d zs e'=>by rw [An (Bg e' hfr)];exact e'
     rcases hd with rfl |hd
     ·exact ntr d _ e
     ·exact ntr d _ hd
  ·have nc:c≠s.heap.objs.size:=by
    simp only [qa5,CG,or_false] at hc
    rcases hc with rfl |rfl |rfl |rfl |rfl
    ·exact nal _ _ zz
    ·exact nal _ _ zi
    ·exact nal _ _ zo
    ·obtain ⟨o,e,_⟩:=x1.obj;exact nal _ _ e
    ·obtain ⟨o,e,_⟩:=x2.obj;exact nal _ _ e
   rw [An nc]
   exact (hf c hc).1
 done:=by
  intro X hP hw hK hc i pins s σ H E I hf st hg
  subst hP hw hK
  obtain ⟨zz,zi,⟨a,b,zo⟩,x1,x2⟩:=st
  obtain ⟨xs,ys,hq1,hq2,hl⟩:=hg
  obtain ⟨it1,rv1,sq1,lt1⟩:=Ho I hq1
  obtain ⟨it2,rv2,sq2,lt2⟩:=Ho I hq2
  have e1:=rv1.length
  have e2:=rv2.length
  have hh:X.A.in1.handled=none:=I.ok.hd hc
  refine Wn (Kn k1 hh p t n1 it1.toArray) (Kn k2 hh q u n2 it2.toArray) ap zz zi zo ⟨x1,sq1⟩ ⟨x2,sq2⟩ (by simp only [AZ];omega) fun h' tk kp=>⟨rfl,?_⟩
  have kk:∀c o,c∉[z,TI,TO,p,q]→s.heap.get? c=some o→h'.get? c=some o:=fun c o hc e=>by
   simp only [qa5,CG,or_false,not_or] at hc
   exact kp c o hc.1 hc.2.2.1 hc.2.2.2.1 hc.2.2.2.2 e
  have ntr:∀c o,H c=some o→c∉[z,TI,TO,p,q]:=fun c o e hc=>by
   rw [(hf c hc).1] at e;cases e
  show Inv X pins σ _ {s with heap:=h',gens:=s.gens,drawn:=s.drawn,toks:=tk}
  refine I.step (g':=s.gens) (d':=s.drawn) (t':=tk) (h':=h') (ch:=[z,TI,TO,p,q]) (fun c hc=>?_) (fun c o _ _ hc e _=>kk c o hc e) (fun c o _ _ hc e _=>⟨o.slots,kk c o hc e⟩) (fun c o _ e n=>n)
   (fun c o hc e=>⟨o,kk c o hc e⟩) (fun c zs e=>e) (fun c o v e=>e) (fun c ps e=>⟨#[],by rw [e];simp⟩) (fun m hm=>?_) (fun c o e=>?_) I.bare
  ·obtain ⟨_,c1,_,c3,c4,c5⟩:=hf c hc
   exact ⟨c3,c1,c4,c5⟩
  ·obtain ⟨o,es,ep,e,r⟩:=hm
   exact ⟨o,es,ep,kk _ o (fun hc=>(hf _ hc).2.1 rfl) e,r⟩
  ·refine (I.hok c o e).stay (fun d v hd e'=>kk d v ?_ e') (fun d e'=>e') fun d zs e'=>e'
   rcases hd with rfl |hd
   ·exact ntr d _ e
   ·exact ntr d _ hd
 self:=fun A i s Q E st h=>by cases st with |mk zz zi zo x1 x2=>exact wpAny_pyIter_zip zz h
abbrev zA (h:Heap) (k1:Bool) (t:Addr):Heap:=h.push (F4 k1 t)
abbrev zB (h:Heap) (k1 k2:Bool) (t u:Addr):Heap:=(zA h k1 t).push (F4 k2 u)
abbrev zC (h:Heap) (k1 k2:Bool) (t u:Addr):Heap:=(zB h k1 k2 t u).push {cls:=.type "tuple",data:=.seq #[.ref h.objs.size,.ref (zA h k1 t).objs.size]}
abbrev zD (h:Heap) (k1 k2:Bool) (t u:Addr):Heap:=(zC h k1 k2 t u).push {cls:=.type "tuple",data:=.seq #[.none,.none]}
abbrev zE (h:Heap) (k1 k2:Bool) (t u:Addr):Heap:=(zD h k1 k2 t u).push {cls:=.type "zip",data:=.fields #[.none,.bool false,.bool false,.ref (zB h k1 k2 t u).objs.size,.ref (zC h k1 k2 t u).objs.size]}
theorem SqA.push {k:Bool} {h:Heap} {l:Addr} {xs:Array Value} (x:SqA k h l xs) (o:Obj):SqA k (h.push o) l xs:=by
 cases k
 ·exact Heap.IsList.push x o
 ·exact Heap.IsTuple.push x o
theorem P4 {prog:Program} {w:World} {A:Around} {E:Value→Shared→Prop} {s:Shared} {k:Bool} {l:Addr} {xs:Array Value} {Q:Value→Shared→Prop} (x:SqA k s.heap l xs) (hQ:Q (.ref s.heap.objs.size) {s with heap:=s.heap.push (F4 k l)}):
 wpAny (model prog w) A (pyIter (.ref l)) Q E s:=by
 cases k
 ·exact wpAny_pyIter_list x hQ
 ·exact wpAny_pyIter_tuple x hQ
theorem Wq (k1 k2:Bool) (t u:Addr) (xs ys:Array Value):
 Meets (Builtin.«zip.__new__» ⟨[.type "zip",.ref t,.ref u],[]⟩) (fun _ R s=>SqA k1 s.heap t xs∧SqA k2 s.heap u ys∧
  R (.ok (.ret (.ref (zD s.heap k1 k2 t u).objs.size))) {s with heap:=zE s.heap k1 k2 t u}):=
 .of_wp fun prog w A R s h=>by
  obtain ⟨hp,g,d,tk,os⟩:=s;obtain ⟨hl1,hl2,h⟩:=h
  have hsub:=sub_zip
  have hL1:SqA k1 (Shared.heap ⟨hp,g,d,tk,os⟩) t xs:=hl1
  have hL2:SqA k2 (Shared.heap ⟨hp.push (F4 k1 t),g,d,tk,os⟩) u ys:=SqA.push hl2 _
  wp_walk using P4 hL1,P4 hL2
  exact ⟨_,rfl,h⟩
theorem ItAt.new {k:Bool} {h:Heap} {it l:Addr} (e:h.get? it=some (F4 k l)):ItAt k h it l 0:=by
 cases k
 ·exact ⟨_,e,rfl,rfl⟩
 ·exact ⟨_,e,rfl,rfl⟩
theorem Wr {prog:Program} {w:World} {A:Around} {E:Value→Shared→Prop} {s:Shared} {k1 k2:Bool} {t u:Addr} {xs ys:Array Value} {Q:Value→Shared→Prop} (h1:SqA k1 s.heap t xs) (h2:SqA k2 s.heap u ys)
 (h:∀h',IsZip h' (s.heap.objs.size+4) (s.heap.objs.size+2) (s.heap.objs.size+3) .none→IsPair h' (s.heap.objs.size+2) (.ref s.heap.objs.size) (.ref (s.heap.objs.size+1))→
  IsPair h' (s.heap.objs.size+3) .none .none→ItAt k1 h' s.heap.objs.size t 0→ItAt k2 h' (s.heap.objs.size+1) u 0→(∀c o,s.heap.get? c=some o→h'.get? c=some o)→Q (.ref (s.heap.objs.size+4)) {s with heap:=h'}):
 wpAny (model prog w) A (call (.type "zip") [.ref t,.ref u]) Q E s:=by
 refine callType_new F.called_zip (by decide) (F.typeCall_zip_2 _ _) (F.newCall_zip_2 _ _) (fun obj=>F.args_object_init_3 obj _ _) F.entry_zip_new
  (Wq k1 k2 t u xs ys) ⟨h1,h2,?_⟩
 have y1:(zA s.heap k1 t).objs.size=s.heap.objs.size+1:=Ck ..
 have y2:(zB s.heap k1 k2 t u).objs.size=s.heap.objs.size+2:=by rw [Ck,y1]
 have y3:(zC s.heap k1 k2 t u).objs.size=s.heap.objs.size+3:=by rw [Ck,y2]
 have y4:(zD s.heap k1 k2 t u).objs.size=s.heap.objs.size+4:=by rw [Ck,y3]
 have g5:(zE s.heap k1 k2 t u).get? (zD s.heap k1 k2 t u).objs.size=some _:=Bj _ rfl
 have g4:(zE s.heap k1 k2 t u).get? (zC s.heap k1 k2 t u).objs.size=some _:=AE _ (Bj _ rfl)
 have g3:(zE s.heap k1 k2 t u).get? (zB s.heap k1 k2 t u).objs.size=some _:=AE _ (AE _ (Bj _ rfl))
 have g2:(zE s.heap k1 k2 t u).get? (zA s.heap k1 t).objs.size=some (F4 k2 u):=AE _ (AE _ (AE _ (Bj _ rfl)))
 have g1:(zE s.heap k1 k2 t u).get? s.heap.objs.size=some (F4 k1 t):=AE _ (AE _ (AE _ (AE _ (Bj _ rfl))))
 show _∧_
 rw [y2,y3,y4] at g5
 rw [y1,y2] at g3
 rw [y3] at g4
 rw [y1] at g2
 rw [y4]
 exact ⟨⟨_,g5,rfl⟩,h _ g5 g3 g4 (.new g1) (.new g2) fun c o x=>AE _ (AE _ (AE _ (AE _ (AE _ x))))⟩
section
variable {X:Cx} {E:XK}
theorem Ws {elts:List Expr} {kt:Nat} {tpos p pos:Pos} {a b:Expr} {ta:TA} (hg:Gl X "zip") (hm:X.mg "zip"=none) (ha:PA X [a,b] ta) (hs:starEach [a,b] X.env=[(false,eval a X.env),(false,eval b X.env)]:=by rfl) (hs2:starEach [b] X.env=[(false,eval b X.env)]:=by rfl):
 PI X (.Tuple elts kt tpos) (.Call (.Name "zip" p) [a,b] [] pos) (fun σ H R=>ta σ H fun vs H1=>∃k1 k2 t u xs ys,vs=[.ref t,.ref u]∧Du k1 X.K H1 t xs∧Du k2 X.K H1 u ys∧R (P0 X.K k1 k2 t u) H1):=by
 intro pins s σ H R I h
 refine Call_ (FJ I hg hm PyProof.Rows.boot_zip (PyProof.Rows.callWith_type1 (Av (ha pos pins s σ H _ I h) fun us s1 ⟨vs,H1,I1,r1,q1⟩=>?_) (by rw [hs,hs2]) (by rw [hs2];rfl)))
 obtain ⟨k1,k2,t,u,xs,ys,e,hq1,hq2,q⟩:=q1
 subst e
 cases r1 with
 |cons r rr=>
  cases rr with
  |cons r' rr=>
   cases rr
   cases r
   cases r'
   obtain ⟨it1,rv1,sq1,lt1⟩:=Ho I1 hq1
   obtain ⟨it2,rv2,sq2,lt2⟩:=Ho I1 hq2
   refine Wr sq1 sq2 fun h' zz zi zo x1 x2 kp=>wpAny_pyIter_zip (s:={s1 with heap:=h'}) zz ?_
   have I2:Inv X pins σ H1 {s1 with heap:=h'}:=I1.kept (t':=s1.toks) kp
   have fr:∀c,s1.heap.objs.size≤c→DR X pins H1 c:=fun c hc=>I1.fpOk hc (I1.hok.fresh hc)
   have m0:s1.heap.objs.size≠s1.heap.objs.size+4:=BD (by omega)
   have ap:Hm (s1.heap.objs.size+4) (s1.heap.objs.size+2) (s1.heap.objs.size+3) s1.heap.objs.size (s1.heap.objs.size+1) [s1.heap.objs.size,t] [s1.heap.objs.size+1,u]:=by
    generalize s1.heap.objs.size=n at lt1 lt2
    exact ⟨BD (by omega),BD (by omega),BD (by omega),BD (by omega),BD (by omega),BS (by omega),BS (by omega),BS (by omega),BS (by omega),BD (by omega),
     fun z=>by simp only [qa5,CG,or_false] at z;rcases z with z |z;exact absurd z (BS (by omega));exact absurd z (BS (AL lt1 (EB _ _))),
     fun z=>by simp only [qa5,CG,or_false] at z;rcases z with z |z;exact absurd z (BS (by omega));exact absurd z (BS (AL lt2 (EB _ _))),
     fun z=>by simp only [qa5,CG,or_false] at z;rcases z with z |z;exact absurd z (BS (by omega));exact absurd z (BS (AL lt1 (EB _ _))),
     fun z=>by simp only [qa5,CG,or_false] at z;rcases z with z |z;exact absurd z (BS (by omega));exact absurd z (BS (AL lt2 (EB _ _))),
     fun z=>by simp only [qa5,CG,or_false] at z;rcases z with z |z;exact absurd z (BD (by omega));exact absurd z (BS lt2),
     fun z=>by simp only [qa5,CG,or_false] at z;rcases z with z |z;exact absurd z (BS (by omega));exact absurd z (BS (AL lt1 (EB _ _)))⟩
   refine ⟨s1.heap.objs.size+4,[s1.heap.objs.size+4,s1.heap.objs.size+2,s1.heap.objs.size+3,s1.heap.objs.size,s1.heap.objs.size+1],_,_,H1,rfl,I2,Wo k1 k2 _ _ _ _ _ t u ap (BF lt1) (BF (FD lt2)),⟨zz,zi,⟨_,_,zo⟩,x1,x2⟩,fun c hc=>?_,q⟩
   simp only [qa5,CG,or_false] at hc
   rcases hc with rfl |rfl |rfl |rfl |rfl
   ·exact fr _ (EB _ _)
   ·exact fr _ (EB _ _)
   ·exact fr _ (EB _ _)
   ·exact fr _ (AD _)
   ·exact fr _ (EB _ _)
def Hq (xs ys:List D):List D:=List.zipWith (fun a b=>.tup [a,b]) xs ys
def CA:D→HD→Option (List D×A0)
 |.tup xs,_=>some (xs,[])
 |.loc l,h=>match h[l]? with
  |some (.lst xs)=>some (xs,[(l,xs)])
  |_=>none
 |_,_=>none
def IV:List D→HD→Out (List D×A0):=fun ds h=>match ds with
 |[x,y]=>match CA x h,CA y h with
  |some (xs,s1),some (ys,s2)=>.ok (Hq xs ys,s1++s2) h
  |_,_=>.stuck
 |_=>.stuck
def Hr (fa:MA):MI:=fun ρ h=>(fa ρ h).bind IV
theorem P5 {m:List Addr} {h:HD} {d:D} {v:V} {H:Hp} {xs:List D} {sr:A0} (hr:HR X.K m h H) (r:DV X.K m H d v) (e:CA d h=some (xs,sr)):
 ∃k t,v=.ref t∧∀m2 h2 H2,m <+:m2→Kp H H2→HR X.K m2 h2 H2→(∀p∈sr,h2[p.1]?=some (.lst p.2))→∃vs,Du k X.K H2 t vs∧DVs X.K m2 H2 xs vs:=by
 cases d with
 |tup zs=>
  simp only [CA,Option.some.injEq,Prod.mk.injEq] at e
  obtain ⟨rfl,rfl⟩:=e
  simp only [DV] at r
  obtain ⟨a,vs,rfl,ha,dv⟩:=r
  exact ⟨true,a,rfl,fun m2 h2 H2 p2 k2 hr2 _=>⟨vs,SqT.of (k2 _ _ ha rfl),dv.keep p2 k2⟩⟩
 |loc l=>
  simp only [CA] at e
  split at e
  ·rename_i zs el
   simp only [Option.some.injEq,Prod.mk.injEq] at e
   obtain ⟨rfl,rfl⟩:=e
   simp only [DV] at r
   obtain ⟨a,rfl,ha⟩:=r
   refine ⟨false,a,rfl,fun m2 h2 H2 p2 k2 hr2 hs=>?_⟩
   obtain ⟨ws,hw,dw⟩:=hr2.cells l _ a (hs _ A3) (GZ p2 ha)
   exact ⟨ws,SqL.of hw,dw⟩
  ·cases e
 |_=>simp [CA] at e
theorem P6 {h:HD} {d:D} {xs:List D} {sr:A0} (e:CA d h=some (xs,sr)):∀p∈sr,h[p.1]?=some (.lst p.2):=by
 cases d with
 |tup zs=>
  simp only [CA,Option.some.injEq,Prod.mk.injEq] at e
  obtain ⟨rfl,rfl⟩:=e
  exact fun p hp=>nomatch hp
 |loc l=>
  simp only [CA] at e
  split at e
  ·rename_i zs el
   simp only [Option.some.injEq,Prod.mk.injEq] at e
   obtain ⟨rfl,rfl⟩:=e
   intro p hp
   rw [qaD] at hp
   subst hp
   exact el
  ·cases e
 |_=>simp [CA] at e
theorem P7 {elts:List Expr} {kt:Nat} {tpos p pos:Pos} {a b:Expr} {fa:MA} (hg:Gl X "zip") (hm:X.mg "zip"=none) (ha:Cn X E [a,b] fa) (hs:starEach [a,b] X.env=[(false,eval a X.env),(false,eval b X.env)]:=by rfl) (hs2:starEach [b] X.env=[(false,eval b X.env)]:=by rfl):
 EL X E (.Tuple elts kt tpos) (.Call (.Name "zip" p) [a,b] [] pos) (Hr fa):=
 Iw (Ws hg hm ha hs hs2) fun σ H R ⟨m,ρ,h,hr,er,p⟩=>⟨m,ρ,h,hr,er,Post.bind p fun x h1 v m1 H1 eo p1 k1 hr1 r1 q1=>by
  clear eo
  unfold IV at q1
  split at q1
  ·rename_i d1 d2
   split at q1
   ·rename_i xs s1 ys s2 e1 e2
    simp only [Dz,DVs] at r1
    obtain ⟨v1,w1,rfl,rv1,v2,w2,rfl,rv2,rfl⟩:=r1
    obtain ⟨kd1,t,rfl,f1⟩:=P5 hr1 rv1 e1
    obtain ⟨kd2,u,rfl,f2⟩:=P5 hr1 rv2 e2
    obtain ⟨vs1,sq1,_⟩:=f1 m1 h1 H1 (Ay _) (.refl _) hr1 (P6 e1)
    obtain ⟨vs2,sq2,_⟩:=f2 m1 h1 H1 (Ay _) (.refl _) hr1 (P6 e2)
    refine ⟨kd1,kd2,t,u,vs1,vs2,rfl,sq1,sq2,q1 _ m1 H1 (Ay _) (.refl _) hr1 fun i m2 h2 H2 p2 k2 hr2 hsr=>?_⟩
    obtain ⟨ws1,sw1,dw1⟩:=f1 m2 h2 H2 p2 k2 hr2 fun p hp=>hsr p (Jp _ hp)
    obtain ⟨ws2,sw2,dw2⟩:=f2 m2 h2 H2 p2 k2 hr2 fun p hp=>hsr p (CW _ hp)
    have n1:=dw1.len
    have n2:=dw2.len
    have nl:(Hq xs ys).length=min xs.length ys.length:=by simp [Hq]
    refine ⟨fun hi=>?_,fun hi=>⟨ws1,ws2,sw1,sw2,by dsimp only at hi;omega⟩⟩
    dsimp only at hi
    have i1:i<xs.length:=by omega
    have i2:i<ys.length:=by omega
    refine ⟨⟨ws1,ws2,sw1,sw2,by omega,by omega⟩,fun y H3 z3_=>?_⟩
    obtain ⟨pp,vv,vv',hp,ey,ev,ev',eH⟩:=z3_
    subst ey eH
    have g1:xs[i]?=some xs[i]:=AW i1
    have g2:ys[i]?=some ys[i]:=AW i2
    obtain ⟨c1,z1,r1'⟩:=dw1.get g1
    obtain ⟨c2,z2,r2'⟩:=dw2.get g2
    rw [ev ws1 sw1] at z1
    rw [ev' ws2 sw2] at z2
    cases z1
    cases z2
    refine ⟨.new hp,hr2.new hp,.tup [xs[i],ys[i]],?_,?_⟩
    ·simp [Hq,List.getElem?_zipWith,g1,g2]
    ·simp only [DV]
     exact ⟨pp,_,rfl,Bx,.cons (DV.keep (Ay _) (.new hp) r1') (.cons (DV.keep (Ay _) (.new hp) r2') .nil)⟩
   ·exact q1.elim
  ·exact q1.elim⟩
end
end LS
namespace LS
open PySem PySem.Spec PyProof.Rows L2
section
variable {ρ:Ai} {h:HD} {QI:(List D×A0)→HD→Prop} {Q:D→HD→Prop} {QO:Option Int→HD→Prop} {QS:Fl×Ai→HD→Prop} {f fo fi fv:ME} {lo hi:MO} {fa:MA}
@[simp] theorem Zcd:Wp (F0 fa ρ h) QI=Wp (fa ρ h) fun d h1=>Wp (FZ d h1) QI:=by unfold F0;rw [AC]
@[simp] theorem Zce:Wp (Hr fa ρ h) QI=Wp (fa ρ h) fun d h1=>Wp (IV d h1) QI:=by unfold Hr;rw [AC]
@[simp] theorem Zcf:Wp (PV f lo hi ρ h) Q=Wp (f ρ h) fun x h1=>Wp (lo ρ h1) fun l h2=>Wp (hi ρ h2) fun u h3=>Wp (PU x l u h3) Q:=by unfold PV;simp only [AC]
@[simp] theorem Zcg:Wp (EX ρ h) QO=QO none h:=id rfl
@[simp] theorem Zch:Wp (Eb f ρ h) QO=Wp (f ρ h) fun x h1=>Wp (match x with
  |.int i=>(.ok (some i) h1:Out (Option Int))
  |_=>.stuck) QO:=by unfold Eb;rw [AC]<;>rfl
@[simp] theorem Zci:Wp (IT fo fi fv ρ h) QS=Wp (fo ρ h) fun o h1=>Wp (fi ρ h1) fun i h2=>Wp (Hk o i h2) fun x h3=>Wp (fv ρ h3) fun y h4=>Wp (Hj o i x y ρ h4) QS:=by unfold IT;simp only [AC]
theorem P8 {n:Nat} {e:Nat→D}:DE ((List.range n).map e)=(List.range n).map fun k=>D.tup [.int ((k:Nat):Int),e k]:=by
 unfold DE
 apply FG
 ·simp
 ·intro i h1 h2;simp
theorem Wt {n:Nat} {e:Nat→D}:FZ [.tup ((List.range n).map e)] h=.ok ((List.range n).map fun k=>D.tup [.int ((k:Nat):Int),e k],[]) h:=by
 simp only [FZ,P8]
theorem Wu {n l:Nat} {e:Nat→D} (he:h[l]?=some (.lst ((List.range n).map e))):FZ [.loc l] h=.ok ((List.range n).map fun k=>D.tup [.int ((k:Nat):Int),e k],[(l,(List.range n).map e)]) h:=by
 simp only [FZ,he,P8]
theorem Wv {n:Nat} {e e':Nat→D}:Hq ((List.range n).map e) ((List.range n).map e')=(List.range n).map fun k=>D.tup [e k,e' k]:=by
 unfold Hq
 apply FG
 ·simp
 ·intro i h1 h2;simp
theorem P9 {n:Nat} {e e':Nat→D} {x y:D} {s1 s2:A0} (hx:CA x h=some ((List.range n).map e,s1)) (hy:CA y h=some ((List.range n).map e',s2)):
 IV [x,y] h=.ok ((List.range n).map fun k=>D.tup [e k,e' k],s1++s2) h:=by
 simp only [IV,hx,hy,Wv]
theorem Qa {ds:List D}:CA (.tup ds) h=some (ds,[]):=rfl
theorem Qb {l:Nat} {ds:List D} (e:h[l]?=some (.lst ds)):CA (.loc l) h=some (ds,[(l,ds)]):=by simp only [CA,e]
theorem Ko {l:Nat} {ds:List D} (e:h[l]?=some (.lst ds)):Hb (.loc l) h=.ok (ds,[(l,ds)]) h:=by
 simp only [Hb,By,e,O4]
theorem Ww {l k:Nat} {xs ys:List D} (e:h[l]?=some (.lst xs)) (e':h[k]?=some (.lst ys)):Aq (.loc l) (.loc k) h=B2 (xs++ys) h:=by
 simp only [Aq,e,e']
theorem Wx {xs ys:List D} (hn:xs.length+ys.length≤sizeLine):Aq (.tup xs) (.tup ys) h=.ok (.tup (xs++ys)) h:=by
 simp only [Aq];rw [if_pos hn]
theorem Qc {l:Nat} {ds:List D} (e:h[l]?=some (.lst ds)):A2 (.loc l) h=.ok (.int ds.length) h:=by
 simp only [A2,By,e]
theorem Qd {a:D}:∀n:Nat,(List.replicate n [a]).flatten=List.replicate n a
 |0=>rfl
 |n+1=>by rw [E6,FC,Qd n];rfl
theorem MF {l n:Nat} {a:D} (e:h[l]?=some (.lst [a])) (hn:n≤1000):De (.loc l) (.int (n:Nat)) h=B2 (List.replicate n a) h:=by
 have:(-(2^63):Int)≤(n:Int)∧(n:Int)<2^63:=by omega
 simp only [De,e]
 rw [if_pos this]
 simp [Qd]
theorem Wy {l k:Nat} {ds:List D} {d:D} (e:h[l]?=some (.lst ds)) (ek:ds[k]?=some d):Hk (.loc l) (.int (k:Nat)) h=.ok d h:=by
 simp only [Hk,e]
 rw [if_pos (by omega)]
 simp [ek]
theorem Wz {l k:Nat} {ds:List D} {a b:Int} (e:h[l]?=some (.lst ds)) (hk:k<ds.length):Hj (.loc l) (.int (k:Nat)) (.int a) (.int b) ρ h=.ok (.nx,ρ) (h.set l (.lst (ds.set k (.int (a+b))))):=by
 simp only [Hj]
 exact Mq e hk
end
noncomputable def MH (cs:List (Option Nat)) (it:MI) (sg:MG) (t:MT) (f:ME):ME:=Ah (Ao Dc) (Aa (AV cs it sg t f) Ae)
noncomputable def WA (F:List Int→Int) (cs:List (Option Nat)) (it:MI) (sg:MG) (t:MT) (f:ME):ME:=Ah (Ao (IU F)) (Aa (AV cs it sg t f) Ae)
section
variable {α:Type} {cs:List (Option Nat)} {it:MI} {sg:MG} {t:MT} {f:ME} {ρ:Ai} {h:HD} {src:A0} {xs:List α} {φ:α→D} {F:List Int→Int}
@[simp] theorem Zcj:Ah (Ao Dc) (Aa (AV cs it sg t f) Ae) ρ h=MH cs it sg t f ρ h:=rfl
@[simp] theorem Zck:Ah (Ao (IU F)) (Aa (AV cs it sg t f) Ae) ρ h=WA F cs it sg t f ρ h:=rfl
theorem WB (n:α→Int) (ρ1:α→Ai) (hi:EV (it ρ h) h (xs.map φ) src) (hg:∀x∈xs,sg (φ x) (B4 cs ρ)=some (ρ1 x)) (hf:∀x∈xs,∀h',Sm h h'→Pu (f (ρ1 x) h') h' (.int (n x))) (hn:xs.length≤sizeLine):
 Pu (MH cs it sg Bo f ρ h) h (.int (xs.map n).sum):=by
 unfold Pu MH
 rw [IF,FU]
 refine Hi (fun _=>true) (fun x=>.int (n x)) ρ1 hi hn hg (fun x hx h' s'=>(.ok:Pu (.ok true h') h' true)) (fun x hx _ h' s'=>hf x hx h' s') fun l h' s' e'=>?_
 rw [FW] at e'
 rw [Fs]
 simp only [Ao,Dc,By,e',B8]
 rw [J8 (f:=Fq∘fun x=>D.int (n x)) (g:=n) (fun x _=>rfl)]
 exact ⟨rfl,s'⟩
end
section
variable {X:Cx} {E:XK}
end
section
variable {X:Cx}
def Qe:D→HD→Out D:=fun x h=>match x with
 |.loc l=>match h[l]? with
  |some (.lst ds)=>match AS (ds.map He) with
   |some bs=>.ok (.bl (bs.any id)) h
   |none=>.stuck
  |_=>.stuck
 |_=>.stuck
end
noncomputable def WC (cs:List (Option Nat)) (it:MI) (sg:MG) (t:MT) (f:ME):ME:=Ah (Ao Qe) (Aa (AV cs it sg t f) Ae)
section
variable {α:Type} {cs:List (Option Nat)} {it:MI} {sg:MG} {t:MT} {f:ME} {ρ:Ai} {h:HD} {src:A0} {xs:List α} {φ:α→D}
@[simp] theorem Zcl:Ah (Ao Qe) (Aa (AV cs it sg t f) Ae) ρ h=WC cs it sg t f ρ h:=rfl
end
end LS
namespace LK
open LS
def Bh (n:Nat) (r:Nat→Bool):Int:=((List.range n).map fun j=>if r j then (1:Int) else 0).sum
theorem MK {α:Type} {f g:α→Int}:∀{xs:List α},(xs.map fun x=>f x+g x).sum=(xs.map f).sum+(xs.map g).sum
 |[]=>rfl
 |x::xs=>by simp only [Bf,CJ,MK (xs:=xs)];omega
theorem Kq {α:Type}:∀{xs:List α},(xs.map fun _=>(0:Int)).sum=0
 |[]=>rfl
 |x::xs=>by simp only [Bf,CJ,Kq (xs:=xs)];rfl
theorem IW {α β:Type} {f:α→β→Int} {ys:List β}:∀{xs:List α},(xs.map fun x=>(ys.map fun y=>f x y).sum).sum=(ys.map fun y=>(xs.map fun x=>f x y).sum).sum
 |[]=>by simp [Kq]
 |x::xs=>by
  simp only [Bf,CJ,IW (xs:=xs)]
  rw [←MK]
theorem ML {α:Type} {f g:α→Int}:∀{xs:List α},(∀x∈xs,f x≤g x)→(xs.map f).sum≤(xs.map g).sum
 |[],_=>Int.le_refl _
 |x::xs,h=>by
  simp only [Bf,CJ]
  have:=h x A3
  have:=ML (xs:=xs) fun y hy=>h y (A6 _ hy)
  omega
theorem Bc {α:Type} {f g:α→Int} {xs:List α} (h:∀x∈xs,f x=g x):(xs.map f).sum=(xs.map g).sum:=by
 rw [Dk h]
theorem Hs {n:Nat} {r r':Nat→Bool} (h:∀i,i<n→r i=r' i):Bh n r=Bh n r':=
 Bc fun i hi=>by rw [h i (by simpa using hi)]
theorem WD {n:Nat} {r:Nat→Bool}:Bh n (fun i=>!r i)=n - Bh n r:=by
 have:Bh n (fun i=>!r i)+Bh n r=n:=by
  unfold Bh
  rw [←MK]
  have:∀m:Nat,((List.range m).map fun i=>(if (!r i)=true then (1:Int) else 0)+if r i=true then 1 else 0).sum=m:=fun m=>by
   induction m with
   |zero=>rfl
   |succ m ih=>
    rw [Cs,BY,B7,ih]
    cases e:r m<;>simp [e]
  exact this n
 omega
theorem Kr {n:Nat} {r:Nat→Bool}:0≤Bh n r∧Bh n r≤n:=by
 unfold Bh
 induction n with
 |zero=>simp
 |succ n ih=>
  rw [Cs,BY,B7]
  cases r n<;>simp<;>omega
def cc (H:Nat) (f:Nat→Nat→Bool) (R:Nat→Bool) (j:Nat):Int:=Bh H fun i=>Bool.xor (f i j) (R i)
def CQ (W:Nat) (H:Int) (c:Nat→Int) (C:Nat→Bool):Int:=((List.range W).map fun j=>if C j then H - c j else c j).sum
def WE (W:Nat) (H:Int) (c:Nat→Int):Int:=((List.range W).map fun j=>if H - c j<c j then H - c j else c j).sum
def TT (H W:Nat) (f:Nat→Nat→Bool) (R C:Nat→Bool):Int:=CQ W H (cc H f R) C
theorem WG {H:Nat} {f:Nat→Nat→Bool} {R R':Nat→Bool} {j:Nat} (h:∀i,i<H→R i=R' i):cc H f R j=cc H f R' j:=Hs fun i hi=>by rw [h i hi]
theorem MM {H W:Nat} {f:Nat→Nat→Bool} {R R' C C':Nat→Bool} (h:∀i,i<H→R i=R' i) (h':∀j,j<W→C j=C' j):TT H W f R C=TT H W f R' C':=
 Bc fun j hj=>by rw [WG h,h' j (by simpa using hj)]
theorem IX {H W:Nat} {f:Nat→Nat→Bool} {R C:Nat→Bool}:TT H W f R C=((List.range W).map fun j=>Bh H fun i=>Bool.xor (f i j) (Bool.xor (R i) (C j))).sum:=by
 refine Bc fun j _=>?_
 cases C j
 ·simp only [CD,if_false,Bool.xor_false];rfl
 ·simp only [if_true,cc]
  rw [←WD]
  exact Hs fun i _=>by cases f i j<;>cases R i<;>rfl
theorem WH {H W:Nat} {f:Nat→Nat→Bool} {R C:Nat→Bool}:((List.range H).map fun i=>Bh W fun j=>Bool.xor (f i j) (Bool.xor (R i) (C j))).sum=TT H W f R C:=by
 rw [IX];exact IW
theorem WI {H W:Nat} {f:Nat→Nat→Bool} {R C:Nat→Bool}:TT W H (fun i j=>f j i) C R=TT H W f R C:=by
 rw [IX,←WH]
 exact Bc fun i _=>Hs fun j _=>by cases f i j<;>cases R i<;>cases C j<;>rfl
theorem WJ {H W:Nat} {f:Nat→Nat→Bool} {R C:Nat→Bool}:TT H W f (fun i=>!R i) (fun j=>!C j)=TT H W f R C:=by
 rw [IX,IX]
 exact Bc fun j _=>Hs fun i _=>by cases f i j<;>cases R i<;>cases C j<;>rfl
def ext (n:Nat) (R:Nat→Bool):Nat→Bool:=fun i=>if i=n then true else R i
def LL (s:Nat):Nat→List (Nat→Bool)
 |0=>[fun _=>false]
 |k+1=>LL s k++(LL s k).map (ext (s+k))
theorem Df {s:Nat}:∀{k:Nat} {R:Nat→Bool},R∈LL s k→∀i,i<s∨s+k≤i→R i=false
 |0,R,h,i,_=>by
  simp only [LL,qaD] at h
  subst h;rfl
 |k+1,R,h,i,hi=>by
  rcases qaZ.mp h with z |z
  ·exact Df z i (by omega)
  ·obtain ⟨R',z1,rfl⟩:=qaM.mp z
   unfold ext
   rw [if_neg (by omega)]
   exact Df z1 i (by omega)
theorem Ks {s:Nat}:∀k,(LL s k).length=2^k
 |0=>rfl
 |k+1=>by simp only [LL,FB,CH,Ks k];omega
def Zcm (H W:Nat) (f:Nat→Nat→Bool):Int:=Hl ((LL 1 (H - 1)).map fun R=>WE W H (cc H f R))
def setb (n:Nat) (b:Bool) (R:Nat→Bool):Nat→Bool:=fun i=>if i=n then b else R i
def F5 (n:Nat) (g:(Nat→Bool)→Int):Prop:=∀R R':Nat→Bool,(∀i,i<n→R i=R' i)→g R=g R'
theorem Fv {n:Nat} {g:(Nat→Bool)→Int} (d:F5 (n+1) g) (b:Bool):F5 n fun R=>g (setb n b R):=fun R R' h=>d _ _ fun i hi=>by
 unfold LK.setb
 by_cases hz:i=n
 ·rw [if_pos hz,if_pos hz]
 ·rw [if_neg hz,if_neg hz];exact h i (by omega)
theorem MN {g:(Nat→Bool)→Int} {xs ys:List (Nat→Bool)}:((xs++ys).map g).sum=(xs.map g).sum+(ys.map g).sum:=by rw [BY,B7]
theorem Kt:∀(n:Nat) (g:(Nat→Bool)→Int) (p:Nat→Bool),F5 n g→((LL 0 n).map fun R=>g fun i=>Bool.xor (R i) (p i)).sum=((LL 0 n).map g).sum
 |0,g,p,d=>by
  simp only [LL,Bf,FH]
  rw [d (fun i=>Bool.xor false (p i)) (fun _=>false) fun i h=>by omega]
 |n+1,g,p,d=>by
  simp only [LL,MN,B8,Nat.zero_add]
  have e0:∀R∈LL 0 n,g R=g (setb n false R):=fun R h=>d _ _ fun i hi=>by
   unfold setb
   by_cases hz:i=n
   ·rw [if_pos hz,hz];exact Df h n (by omega)
   ·rw [if_neg hz]
  have e1:∀R∈LL 0 n,(g∘ext n) R=g (setb n true R):=fun R h=>rfl
  have x0:∀R∈LL 0 n,(g fun i=>Bool.xor (R i) (p i))=g (setb n (p n) fun i=>Bool.xor (R i) (p i)):=fun R h=>d _ _ fun i hi=>by
   unfold setb
   by_cases hz:i=n
   ·rw [if_pos hz,hz,Df h n (by omega)];simp
   ·rw [if_neg hz]
  have x1:∀R∈LL 0 n,((fun R=>g fun i=>Bool.xor (R i) (p i))∘ext n) R=g (setb n (!p n) fun i=>Bool.xor (R i) (p i)):=fun R h=>d _ _ fun i hi=>by
   unfold setb ext
   by_cases hz:i=n
   ·rw [if_pos hz,if_pos hz,hz];simp
   ·rw [if_neg hz,if_neg hz]
  rw [Bc e0,Bc e1,Bc x0,Bc x1,Kt n _ p (Fv d (p n)),Kt n _ p (Fv d (!p n))]
  cases p n
  ·rfl
  ·simp only [Bool.not_true];omega
theorem MP:∀(n:Nat) (g:(Nat→Bool)→Int),F5 (n+1) g→((LL 0 (n+1)).map g).sum=((LL 1 n).map g).sum+((LL 1 n).map fun R=>g fun i=>!R i).sum
 |0,g,d=>by
  simp only [LL,MN,Bf,FH,CJ,List.sum_nil,GP,ED]
  rw [d (ext (0+0) fun _=>false) (fun i=>!false) fun i h=>by
   have:i=0:=by omega
   subst this;rfl]
  omega
 |n+1,g,d=>by
  have hL:LL 0 (n+1+1)=LL 0 (n+1)++(LL 0 (n+1)).map (ext (n+1)):=by rw [LL];simp
  have hR:LL 1 (n+1)=LL 1 n++(LL 1 n).map (ext (n+1)):=by rw [LL,HQ 1 n]
  rw [hL,hR]
  simp only [MN,B8]
  have e0:∀R∈LL 0 (n+1),g R=g (setb (n+1) false R):=fun R h=>d _ _ fun i hi=>by
   unfold setb
   by_cases hz:i=n+1
   ·rw [if_pos hz,hz];exact Df h _ (by omega)
   ·rw [if_neg hz]
  have e1:∀R∈LL 0 (n+1),(g∘ext (n+1)) R=g (setb (n+1) true R):=fun R h=>rfl
  have f0:∀R∈LL 1 n,g R=g (setb (n+1) false R):=fun R h=>d _ _ fun i hi=>by
   unfold setb
   by_cases hz:i=n+1
   ·rw [if_pos hz,hz];exact Df h _ (by omega)
   ·rw [if_neg hz]
  have f1:∀R∈LL 1 n,(g∘ext (n+1)) R=g (setb (n+1) true R):=fun R h=>rfl
  have f2:∀R∈LL 1 n,(g fun i=>!R i)=g (setb (n+1) true fun i=>!R i):=fun R h=>d _ _ fun i hi=>by
   unfold setb
   by_cases hz:i=n+1
   ·rw [if_pos hz,hz,Df h _ (by omega)];rfl
   ·rw [if_neg hz]
  have f3:∀R∈LL 1 n,((fun R=>g fun i=>!R i)∘ext (n+1)) R=g (setb (n+1) false fun i=>!R i):=fun R h=>d _ _ fun i hi=>by
   unfold setb ext
   by_cases hz:i=n+1
   ·rw [if_pos hz,if_pos hz];rfl
   ·rw [if_neg hz,if_neg hz]
  rw [Bc e0,Bc e1,Bc f0,Bc f1,Bc f2,Bc f3,MP n _ (Fv d false),MP n _ (Fv d true)]
  omega
def AM (L:List Int) (k:Int):Int:=(L.map fun x=>if x=k then (1:Int) else 0).sum
def hk (H W:Nat) (f:Nat→Nat→Bool) (k:Int) (R:Nat→Bool):Int:=AM ((LL 0 W).map (TT H W f R)) k
def NN (H W:Nat) (f:Nat→Nat→Bool) (k:Int):Int:=((LL 1 (H - 1)).map (hk H W f k)).sum
theorem hk_eq {H W:Nat} {f:Nat→Nat→Bool} {k:Int} {R:Nat→Bool}:hk H W f k R=((LL 0 W).map fun C=>if TT H W f R C=k then (1:Int) else 0).sum:=by
 unfold hk AM
 rw [B8]
 rfl
theorem Qf {H W:Nat} {f:Nat→Nat→Bool} {k:Int} {R:Nat→Bool}:hk H W f k (fun i=>!R i)=hk H W f k R:=by
 rw [hk_eq,hk_eq]
 have:=Kt W (fun C=>if TT H W f (fun i=>!R i) C=k then (1:Int) else 0) (fun _=>true) fun C C' h=>by dsimp only;rw [MM (fun _ _=>rfl) h]
 rw [←this]
 refine Bc fun C _=>?_
 rw [←WJ (R:=R) (C:=C)]
 rw [MM (R:=fun i=>!R i) (R':=fun i=>!R i) (C:=fun i=>Bool.xor (C i) true) (C':=fun j=>!C j) (fun _ _=>rfl) fun j _=>by cases C j<;>rfl]
theorem Qg {H W:Nat} {f:Nat→Nat→Bool} {k:Int}:F5 H (hk H W f k):=fun R R' h=>by
 rw [hk_eq,hk_eq]
 exact Bc fun C _=>by rw [MM h fun _ _=>rfl]
theorem MQ {H W:Nat} {f:Nat→Nat→Bool} {k:Int} (hH:1≤H):((LL 0 H).map (hk H W f k)).sum=2*NN H W f k:=by
 obtain ⟨n,rfl⟩:∃n,H=n+1:=⟨H - 1,by omega⟩
 rw [MP n _ Qg]
 have:((LL 1 n).map fun R=>hk (n+1) W f k fun i=>!R i).sum=((LL 1 n).map (hk (n+1) W f k)).sum:=Bc fun R _=>Qf
 rw [this]
 show _=2*((LL 1 n).map (hk (n+1) W f k)).sum
 omega
theorem WK {L:List Int} {k:Int}:0≤AM L k:=by
 unfold AM
 induction L with
 |nil=>simp
 |cons x L ih=>
  simp only [Bf,CJ]
  split<;>omega
theorem WL {L:List Int} {k:Int} (h:k∉L):AM L k=0:=by
 unfold AM
 rw [show L.map (fun x=>if x=k then (1:Int) else 0)=L.map fun _=>(0:Int) from Dk fun x hx=>by
  rw [if_neg];intro z;subst z;exact h hx]
 exact Kq
theorem MR {α:Type} {f:α→Int} {xs:List α} (h:∀x∈xs,0≤f x):0≤(xs.map f).sum:=by
 have:=ML (f:=fun _=>0) h
 rw [Kq] at this
 exact this
theorem WM {H W:Nat} {f:Nat→Nat→Bool} {R C:Nat→Bool}:0≤TT H W f R C∧TT H W f R C≤H*W:=by
 rw [IX]
 refine ⟨MR fun j _=>Kr.1,?_⟩
 refine Int.le_trans (ML (g:=fun _=>(H:Int)) fun j _=>Kr.2) ?_
 have:∀n:Nat,((List.range n).map fun _=>(H:Int)).sum=H*n:=fun n=>by
  induction n with
  |zero=>simp
  |succ n ih=>
   rw [Cs,BY,B7,ih]
   simp [Int.mul_add]
 rw [this W]
 exact Int.le_refl _
theorem WN {L:List Int} {n:Nat} (h:∀x∈L,0≤x∧x<n):((List.range n).map fun k=>AM L ((k:Nat):Int)).sum=L.length:=by
 unfold AM
 rw [IW (xs:=List.range n) (ys:=L) (f:=fun k x=>if x=((k:Nat):Int) then (1:Int) else 0)]
 induction L with
 |nil=>simp
 |cons x L ih=>
  simp only [Bf,CJ]
  rw [ih fun y hy=>h y (A6 _ hy)]
  obtain ⟨h0,h1⟩:=h x A3
  have one:∀m:Nat,((List.range m).map fun k=>if x=((k:Nat):Int) then (1:Int) else 0).sum=if x<m then 1 else 0:=fun m=>by
   induction m with
   |zero=>simp;omega
   |succ m ih2=>
    rw [Cs,BY,B7,ih2]
    simp only [Bf,FH,CJ,List.sum_nil]
    by_cases a:x<m
    ·rw [if_pos a,if_neg (by omega),if_pos (by omega)];rfl
    ·rw [if_neg a]
     by_cases b:x=m
     ·rw [if_pos b,if_pos (by omega)];rfl
     ·rw [if_neg b,if_neg (by omega)];rfl
  rw [one n,if_pos h1]
  simp
  omega
theorem WO {H W:Nat} {f:Nat→Nat→Bool}:((List.range (H*W+1)).map fun k=>NN H W f ((k:Nat):Int)).sum=2^(H - 1)*2^W:=by
 unfold NN
 rw [IW (xs:=List.range (H*W+1)) (ys:=LL 1 (H - 1)) (f:=fun k R=>hk H W f ((k:Nat):Int) R)]
 have:∀R∈LL 1 (H - 1),((List.range (H*W+1)).map fun k=>hk H W f ((k:Nat):Int) R).sum=(2:Int)^W:=fun R _=>by
  unfold hk
  rw [WN (L:=(LL 0 W).map (TT H W f R)) fun x hx=>by
   obtain ⟨C,_,rfl⟩:=qaM.mp hx
   have:=WM (H:=H) (W:=W) (f:=f) (R:=R) (C:=C)
   refine ⟨this.1,?_⟩
   have h2:=this.2
   have:((H*W+1:Nat):Int)=H*W+1:=by simp
   omega]
  rw [CH,Ks]
  simp
 rw [Bc this]
 have len:=Ks (s:=1) (H - 1)
 generalize LL 1 (H - 1)=xs at len
 have:∀xs:List (Nat→Bool),(xs.map fun _=>(2:Int)^W).sum=xs.length*2^W:=fun xs=>by
  induction xs with
  |nil=>simp
  |cons x xs ih=>
   simp only [Bf,CJ,ih,E7]
   push_cast
   rw [Int.add_mul]
   omega
 rw [this xs,len]
 simp
end LK
namespace LS
open PySem PySem.Spec PyProof.Rows L2 PySem.W
structure EC (K:Frag) (C:Addr):Prop where
 ga:findIn K (.ref C) "__getattribute__"=some (some (.builtin "BaseException.__getattribute__"))
 gt:findIn K (.ref C) "__getattr__"=some none
 cl:(clsIn K C).isSome=true
 ac:findIn K (.ref C) "__class__"=some (some (.builtin "object.__class__"))
 sg:specialIn K (.builtin "object.__class__") "__get__"=some (some (.builtin "getset_descriptor.__get__"))
 tk:takesIn K (.builtin "object.__class__")=some true
 mo:mroIn K C (.type "object")=some true
 mb:mroIn K C (.type "BaseException")=some true
section
variable {prog:Program} {w:World} {A:Around} {E:Value→Shared→Prop} {s:Shared} {K:Frag} {x C:Addr} {ox:Obj} {od:Option Obj}
def TyAt (x C:Addr) (h:Heap):Prop:=∃o,h.get? x=some o∧o.cls=.ref C
theorem TyAt.type {M:Model} {h:Heap} (t:TyAt x C h):Looks M h (typeOf (.ref x)) (.ref C):=by
 obtain ⟨o,h1,h2⟩:=t
 exact h2 ▸ (Looks.ld h1).andThen .now
theorem WQ {M:Model} {h:Heap} (c:EC K C) (X:K.In h):Looks M h (Builtin.ObjectAttr.find (.ref x) (.ref C) "__class__") (.bind (.builtin "getset_descriptor.__get__") (.builtin "object.__class__")):=by
 have L1:=looks_findIn (M:=M) X c.ac
 have L2:Looks M h (Builtin.ObjectAttr.getOf (some (.builtin "object.__class__"))) (some (.builtin "getset_descriptor.__get__")):=looks_specialIn X c.sg
 have L3:=looks_takesIn (M:=M) X c.tk
 refine L1.andThen (L2.andThen ?_)
 exact (show Looks M h (Builtin.ObjectAttr.dataDescriptor? (some (.builtin "object.__class__")) (some (.builtin "getset_descriptor.__get__"))) (some (.builtin "getset_descriptor.__get__",.builtin "object.__class__")) from L3.andThen .now).andThen (Looks.tag .now)
theorem WR {R:Result→Shared→Prop} {tp:Value} (X:K.In s.heap) (I:TyAt x C s.heap) (hm:mroIn K C (.type "object")=some true)
 (h:R (.ok (.ret (.ref C))) s):codeAny (model prog w) A (.call (.builtin "getset_descriptor.__get__") ⟨[.builtin "object.__class__",.ref x,tp],[]⟩) R s:=by
 obtain ⟨hh,g,dr,t,os⟩:=s
 have L0:=I.type (M:=model prog w)
 have L1:=looks_mroIn (M:=model prog w) X hm
 refine codeAny_call_builtin KF.slot_gs.plain KF.entry_gs (KF.slot_gs.check _ _ _ _ _ _ _ _ KF.type_class (KF.args_gs _ _ _) ?_)
 unfold Builtin.«getset_descriptor.__get__» Builtin.Getset_descriptor.descrGet
 rw [dga_obj]
 refine wpAny_bind (wpAny_pure ?_)
 unfold Builtin.Getset_descriptor.descrGetter Builtin.Getset_descriptor.descrCheckInstance Builtin.Getset_descriptor.descrNameAndClass isInstance
 simp only [KF.owner_class]
 repeat lk
 refine ⟨Code.quiet_builtin _ (by decide +kernel),codeAny_builtin KF.entry_class ?_⟩
 unfold Builtin.«object.__class__» shownTypeOf
 repeat lk
 exact h
theorem WS {Q:Option Value→Shared→Prop} (c:EC K C) (X:K.In s.heap) (I:TyAt x C s.heap) (h:Q (some (.ref C)) {s with toks:=s.toks+1}):wpAny (model prog w) A (getAttr? (.ref x) "__class__") Q E s:=by
 obtain ⟨hh,g,d,t,os⟩:=s
 have L0:=I.type (M:=model prog w)
 have L1:=looks_findIn (M:=model prog w) X c.ga
 have L2:=looks_findIn (M:=model prog w) X c.gt
 have LF:=WQ (M:=model prog w) (x:=x) c X
 have LB:=looks_mroIn (M:=model prog w) X c.mb
 have ha:=F.args_bexc_ga (.ref x) (.str "__class__" t)
 have hk:builtinKind "BaseException.__getattribute__"=some .slot:=by decide +kernel
 have hsplit:splitId "BaseException.__getattribute__"=some ("BaseException","__getattribute__"):=by decide +kernel
 have hx2:(Value.builtin "BaseException.__getattribute__"==Value.builtin "object.__getattribute__")=false:=by decide +kernel
 have hx1:(onTheHeap (Value.ref C)&&Value.builtin "BaseException.__getattribute__"==Value.builtin "object.__getattribute__")=false:=by rw [hx2];rfl
 unfold getAttr? getAttrBy? getAttrBy
 refine wpAny_bind (wpAny_mkText (wpAny_bind (wpAny_attempt (wpAny_holding (wpAny_bind (L0.at (wpAny_bind (L1.at ?_))))))))
 dsimp only
 rw [hx1]
 simp only [CD,if_false]
 unfold getAttrByItsOwn hookBefore
 refine wpAny_bind ?_
 show wpAny _ _ (typeLookup (.ref C) "__getattr__") _ _ _
 refine L2.at ?_
 refine wpAny_bind (wpAny_attempt (wpAny_holding ?_))
 unfold callGetattribute boundAndCalled
 simp only [Bool.false_and,CD,if_false]
 rw [PySem.F.attr_ValueError.ga.bind (.ref x)]
 refine wpAny_bind (wpAny_pure (wpAny_call (codeAny_call_builtin PySem.F.attr_ValueError.ga.plain F.entry_bexc_ga ?_)))
 simp only [checkBuiltinCall,hk,hsplit]
 refine wpAny_bind ?_
 unfold isInstance
 refine wpAny_bind (L0.at (LB.at ?_))
 wp_step
 unfold Builtin.«object.__getattribute__»
 repeat lk
 refine wpAny_run (WR (s:=⟨hh,g,d,t+1,os⟩) X I c.mo ?_) (by intro z;cases z)
 refine wpAny_pure (wpAny_pure ?_)
 exact handed_on rfl (wpAny_pure h)
theorem WT (c:EC K C):KitX K (.ref x) (.ref C) (TyAt x C) where
 ty:=fun _ _ _ I=>I.type
 it:=fun _ _ X _=>by
  obtain ⟨cdD,hcD⟩:=qbP.mp c.cl
  unfold clsIn at hcD
  split at hcD
  ·rename_i c' d' cd' sl' ho
   intro A' Q' E' s' k q
   unfold isType loadHead
   exact wpAny_bind (wpAny_loadPart (k _ _ (X _ _ ho)) (wpAny_pure q))
  ·cases hcD
 ne:=fun h tp dd its n sl X htp=>by
  obtain ⟨cdD,hcD⟩:=qbP.mp c.cl
  refine Bool.eq_false_iff.mpr fun q=>?_
  have e:C=tp:=Value.ref.inj (beq_iff_eq.mp q)
  subst e
  unfold clsIn at hcD
  split at hcD
  ·rename_i c' d' cd' sl' ho
   have z:=(X _ _ ho).symm.trans htp
   cases z
  ·cases hcD
 ca:=fun X I k=>WS c X I k
end
def excNames:List Str:=["NoBoard","NoLine","NoSwitching","NoNumber","Unlike","NoNet","NoPlace","NoText","NoRow","TooMany","SwitchError"]
def BH (n n':Str):Bool:=n==n'||n'=="SwitchError"
def MU (K:Frag) (C:Addr):Bool:=
 findIn K (.ref C) "__getattribute__"==some (some (.builtin "BaseException.__getattribute__"))&&findIn K (.ref C) "__getattr__"==some none&&(clsIn K C).isSome&&
 findIn K (.ref C) "__class__"==some (some (.builtin "object.__class__"))&&specialIn K (.builtin "object.__class__") "__get__"==some (some (.builtin "getset_descriptor.__get__"))&&
 takesIn K (.builtin "object.__class__")==some true&&mroIn K C (.type "object")==some true&&mroIn K C (.type "BaseException")==some true
theorem WU {K:Frag} {C:Addr} (h:MU K C=true):EC K C:=by
 unfold MU at h
 simp only [CF,beq_iff_eq] at h
 obtain ⟨⟨⟨⟨⟨⟨⟨h1,h2⟩,h3⟩,h4⟩,h5⟩,h6⟩,h7⟩,h8⟩:=h
 exact ⟨h1,h2,h3,h4,h5,h6,h7,h8⟩
def Ec (K:Frag) (n:Str):Option Addr:=match nsIn K mainGlobals n with
 |some (some (.ref C))=>some C
 |_=>none
theorem Qh {K:Frag} {n:Str} {C:Addr} (h:Ec K n=some C):nsIn K mainGlobals n=some (some (.ref C)):=by
 unfold Ec at h
 split at h
 ·rename_i e;cases h;exact e
 ·cases h
def MV (K:Frag) (n:Str) (C S:Addr):Bool:=
 MU K C&&kitOne K (.ref C) (.type "ValueError")==some true&&(n=="TooMany"||Mz K C IK "ValueError.__new__")&&exmOne K (.ref C) (.ref S)==some true&&
  excNames.all fun n'=>match Ec K n' with
   |some C'=>kitOne K (.ref C) (.ref C')==some (BH n n')
   |none=>false
def etOk (K:Frag):Bool:=match Ec K "SwitchError" with
 |some S=>excNames.all fun n=>match Ec K n with
  |some C=>MV K n C S
  |none=>false
 |none=>false
structure ET (K:Frag) (n:Str) (C:Addr):Prop where
 ec:EC K C
 ve:kitOne K (.ref C) (.type "ValueError")=some true
 at_:n≠"TooMany"→My K C IK "ValueError.__new__"
 sw:∀S,nsIn K mainGlobals "SwitchError"=some (some (.ref S))→exmOne K (.ref C) (.ref S)=some true
 sub:∀n' C',n'∈excNames→nsIn K mainGlobals n'=some (some (.ref C'))→kitOne K (.ref C) (.ref C')=some (BH n n')
theorem Ku {K:Frag} (h:etOk K=true) {n:Str} {C:Addr} (hn:n∈excNames) (hC:nsIn K mainGlobals n=some (some (.ref C))):ET K n C:=by
 unfold etOk at h
 split at h
 ·rename_i S hS
  have h1:=qaO.mp h n hn
  have e:Ec K n=some C:=by unfold Ec;rw [hC]
  rw [e] at h1
  have h1:MV K n C S=true:=h1
  unfold MV at h1
  simp only [CF,beq_iff_eq,Bool.or_eq_true] at h1
  obtain ⟨⟨⟨⟨a1,a2⟩,a3⟩,a4⟩,a5⟩:=h1
  refine ⟨WU a1,a2,fun z=>V9 (a3.resolve_left z),fun S' hS'=>?_,fun n' C' hn' hC'=>?_⟩
  ·have:=Qh hS
   rw [this] at hS'
   cases hS'
   exact a4
  ·have z:=qaO.mp a5 n' hn'
   have e':Ec K n'=some C':=by unfold Ec;rw [hC']
   rw [e'] at z
   exact beq_iff_eq.mp z
 ·cases h
section
variable {X:Cx} {E:XK}
theorem WV {x:Str} {a:Addr} {pos:Pos} (hg:Gl X x) (hn:nsIn X.K mainGlobals x=some (some (.ref a))) (hd:(x==("__debug__":Str))=false:=by decide):Ev X E (.Name x pos) (mC (.glo x)):=
 fun pins s σ H Q I z1_=>by obtain ⟨m,ρ,h,hr,er,p⟩:=z1_;exact (FI I hg (mg_of I.mod.kin I.mod.glob hn) ⟨.ref a,H,I,rfl,p (.ref a) m H (Ay _) (.refl _) hr (by simp only [rD,DV];exact ⟨a,rfl,hn⟩)⟩ hd)
def F6 {α:Type}:Out α→Prop
 |.err _ _ _=>False
 |_=>True
theorem Post.noE {α β:Type} {K:Frag} {R:List Addr→Hp→α→β→Prop} {m:List Addr} {H:Hp} {E E':XK} {Q:β→Hp→Prop} {o:Out α} (n:F6 o) (h:Post K R m H E Q o):Post K R m H E' Q o:=by
 cases o with
 |ok a h1=>exact h
 |err C fs h1=>exact False.elim n
 |stuck=>exact h
theorem Qi {f:Value} {F:List D→HD→Out D} (hF:∀ds h,F6 (F ds h))
 (hc:∀(pins:List (Addr×Obj)) (s:Shared) (σ:L2.St) (H:Hp) (m:List Addr) (h:HD) (ds:List D) (vs:List V) (us:List Value) (Q:VK),Inv X pins σ H s→HR X.K m h H→DVs X.K m H ds vs→Vals vs us→Post X.K (rD X.K) m H E0 Q (F ds h)→
  wpAny (model X.prog X.w) X.A (call f us) (EP X pins σ Q) X.xe s):Ct X f F:=
 ⟨fun vs H Q=>∃m h ds,HR X.K m h H∧DVs X.K m H ds vs∧Post X.K (rD X.K) m H E0 Q (F ds h),fun pins s σ H vs us Q I r z2_=>by obtain ⟨m,h,ds,hr,rd,q⟩:=z2_;exact (hc pins s σ H m h ds vs us Q I hr rd r q),fun m H h E ds vs Q hr rd q=>⟨m,h,ds,hr,rd,Post.noE (hF ds h) q⟩⟩
def AJ:D→D→HD→Out D:=fun x y h=>match x with
 |.exc n _=>(match y with
  |.glo n'=>if n∈excNames∧n'∈excNames then .ok (.bl (BH n n')) h else .stuck
  |.ty T=>if n∈excNames∧T="ValueError" then .ok (.bl true) h else .stuck
  |_=>.stuck)
 |.edic=>(match y with
  |.ty T=>(match J2 "dict" T with
   |some b=>.ok (.bl b) h
   |none=>.stuck)
  |_=>.stuck)
 |_=>BB x y h
theorem WW (pins:List (Addr×Obj)) (s:Shared) (σ:L2.St) (H:Hp) (m:List Addr) (h:HD) (x y:D) (v v':V) (u u':Value) (Q:VK) (I:Inv X pins σ H s) (hr:HR X.K m h H) (rx:DV X.K m H x v) (ry:DV X.K m H y v') (r:RelV v u) (r':RelV v' u')
 (q:Post X.K (rD X.K) m H E0 Q (BB x y h)):wpAny (model X.prog X.w) X.A (call (.builtin "isinstance") [u,u']) (EP X pins σ Q) X.xe s:=by
 unfold BB at q
 split at q
 ·rename_i T t et
  split at q
  ·rename_i b eb
   simp only [DV] at ry
   subst ry
   cases (show u'=Value.type T from r')
   exact Ui I r (Vz hr rx et) (Pi eb) fun tk=>⟨.bl b,H,I.tok _,rfl,Ba hr q (by simp [DV])⟩
  ·exact q.elim
 ·exact q.elim
theorem CS (et:etOk X.K=true):Ct X (.builtin "isinstance") (Br AJ):=by
 refine Qi (fun ds h=>?_) fun pins s σ H m h ds vs us Q I hr rd r q=>JZ rd q fun x y v v' ev rx ry q=>?_
 ·unfold Br AJ BB
  repeat' split
  all_goals trivial
 ·subst ev
  obtain ⟨u,u',rfl,r1,r2⟩:=Ib r
  unfold AJ at q
  split at q
  ·rename_i n fs
   simp only [DV] at rx
   obtain ⟨a,C,da,rfl,hC,ha,_⟩:=rx
   cases (show u=Value.ref a from r1)
   obtain ⟨⟨o,ws,ho,hcl,hdi,hdat⟩,_⟩:=(show ObjOk X.prog X.w H s.heap a (.ext (Fe C da a)) from I.hok a _ ha)
   have key:∀(c:Value) (b:Bool),EC X.K C→kitOne X.K (.ref C) c=some b→Q (.bl b) H→wpAny (model X.prog X.w) X.A (call (.builtin "isinstance") [.ref a,c]) (EP X pins σ Q) X.xe s:=by
    intro c b ec e q
    exact kia_one (WT ec) I.kIn ⟨o,ho,hcl⟩ e (fun z=>nomatch z) fun tk=>⟨.bl b,H,I.tok _,rfl,q⟩
   split at q
   ·rename_i n'
    split at q
    ·rename_i hn
     simp only [DV] at ry
     obtain ⟨C',rfl,hC'⟩:=ry
     cases (show u'=Value.ref C' from r2)
     have t:=Ku et hn.1 hC
     exact key _ _ t.ec (t.sub n' C' hn.2 hC') (Ba hr q (by simp [DV]))
    ·exact q.elim
   ·rename_i T
    split at q
    ·rename_i hn
     simp only [DV] at ry
     subst ry
     cases (show u'=Value.type T from r2)
     obtain ⟨hn,rfl⟩:=hn
     have t:=Ku et hn hC
     exact key _ _ t.ec t.ve (Ba hr q (by simp [DV]))
    ·exact q.elim
   ·exact q.elim
  ·split at q
   ·rename_i T
    split at q
    ·rename_i b eb
     simp only [DV] at rx ry
     obtain ⟨a,rfl,ha⟩:=rx
     subst ry
     cases (show u=Value.ref a from r1)
     cases (show u'=Value.type T from r2)
     obtain ⟨⟨_,o,ep,ho,hx,hd⟩,_⟩:=(show ObjOk X.prog X.w H s.heap a (.ext (LQ a)) from I.hok a _ ha)
     exact kia_one kitx_dict I.kIn ⟨o,ho,hx.1⟩ (Pi eb) (fun z=>nomatch z) fun tk=>⟨.bl b,H,I.tok _,rfl,Ba hr q (by simp [DV])⟩
    ·exact q.elim
   ·exact q.elim
  ·exact WW pins s σ H m h x y v v' u u' Q I hr rx ry r1 r2 q
end
section
variable {X:Cx} {E:XK}
def Ht (chk:D→HD→Out D) (op:D→D→HD→Out D) (f g:ME):ME:=fun ρ h=>((f ρ h).bind chk).bind fun x h1=>(g ρ h1).bind fun y h2=>op x y h2
def Qj (X:Cx) (T:String) (x:V) (H:Hp):Prop:=∀(pins:List (Addr×Obj)) (σ:L2.St) (s:Shared) (u:Value),Inv X pins σ H s→RelV x u→s.TypeIs u T∧∀a,u=.ref a→∃ob,s.heap.get? a=some ob∧ob.dict=none
def WX (X:Cx) (T:String) (r:V→List V→Hp→VK→Prop) (to:TE) (t:TA):TE:=fun σ H Q=>to σ H fun x H1=>Qj X T x H1∧t σ H1 fun xs H2=>r x xs H2 Q
theorem Qk {o e:Expr} {es:List Expr} {to:TE} {t:TA} {name:Str} {apos cpos:Pos} {T id:String} {r:V→List V→Hp→VK→Prop} (pa:PlainAttrs T) (slot:Slot T name id) (hty:typeOf (.builtin id)=pure (.type "method_descriptor")) (hm:JG X id r) (ho:PE X o to) (ha:PA X (e::es) t)
 (hbase:attributeBase o name X.env (eval o X.env)=eval o X.env:=by rfl)
 (hfew:((backTo cpos (starEach (e::es) X.env)).all (fun x=>!x.1)&&(backToKw cpos (keywordEach [] X.env)).all (fun x=>x.1.isSome)
  &&decide ((e::es).length+([]:List Keyword).length+(if ([]:List Keyword).isEmpty then 0 else 1)<30))=true:=by rfl)
 (hline:(apos.endLine==cpos.line)=true:=by rfl) (hs:starEach (e::es) X.env=(false,eval e X.env)::starEach es X.env:=by rfl) (hplain:(backTo cpos (starEach es X.env)).any (·.1)=false:=by rfl):
 PE X (.Call (.Attribute o name apos) (e::es) [] cpos) (WX X T r to t):=by
 intro pins s σ H Q I h
 refine wpAny_Call_method_late hbase hfew hline rfl (Av (ho pins s σ H _ I h) fun v s1 z1_=>?_)
 obtain ⟨x,H1,I1,r1,ty,q1⟩:=z1_
 obtain ⟨h1,h2⟩:=ty pins σ s1 v I1 r1
 refine ⟨T,id,pa,slot,hty,h1,h2,?_⟩
 have hA:=ha cpos pins s1 σ H1 _ I1 q1
 rw [hs] at hA ⊢
 refine Calls.callWith_builtin (by show (false||(backTo cpos (starEach es X.env)).any (·.1))=false;rw [hplain]<;>rfl) (Calls.evalArgs_plain ?_)
 exact Av hA fun us s2 z2_=>by obtain ⟨vs,H2,I2,r2,q2⟩:=z2_;exact (hm pins s2 σ H2 x vs v us Q I2 r1 r2 q2)
structure MW (X:Cx) (T:String) (chk:D→HD→Out D):Prop where
 two:∀x h,chk x h=.ok x h∨chk x h=.stuck
 ty:∀m H h x v,HR X.K m h H→DV X.K m H x v→chk x h=.ok x h→Qj X T v H
def MX (X:Cx) (id:String) (op:D→D→HD→Out D):Prop:=
 ∀(pins:List (Addr×Obj)) (s:Shared) (σ:L2.St) (H:Hp) (m:List Addr) (h:HD) (x y:D) (v yv:V) (u uy:Value) (Q:VK),Inv X pins σ H s→HR X.K m h H→DV X.K m H x v→DV X.K m H y yv→RelV v u→RelV yv uy→Post X.K (rD X.K) m H E0 Q (op x y h)→
  wpAny (model X.prog X.w) X.A (call (.builtin id) [u,uy]) (EP X pins σ Q) X.xe s
theorem Ql {o e:Expr} {f g:ME} {name:Str} {T id:String} {chk:D→HD→Out D} {op:D→D→HD→Out D} {apos cpos:Pos} (pa:PlainAttrs T) (slot:Slot T name id) (hty:typeOf (.builtin id)=pure (.type "method_descriptor"))
 (hc:MW X T chk) (hn:∀x y h,F6 (op x y h)) (hm:MX X id op) (ho:Ev X E o f) (he:Ev X E e g)
 (hbase:attributeBase o name X.env (eval o X.env)=eval o X.env:=by rfl)
 (hfew:((backTo cpos (starEach [e] X.env)).all (fun x=>!x.1)&&(backToKw cpos (keywordEach [] X.env)).all (fun x=>x.1.isSome)
  &&decide ([e].length+([]:List Keyword).length+(if ([]:List Keyword).isEmpty then 0 else 1)<30))=true:=by rfl)
 (hline:(apos.endLine==cpos.line)=true:=by rfl) (hs:starEach [e] X.env=(false,eval e X.env)::starEach [] X.env:=by rfl) (hplain:(backTo cpos (starEach [] X.env)).any (·.1)=false:=by rfl):
 Ev X E (.Call (.Attribute o name apos) [e] [] cpos) (Ht chk op f g):=by
 have hr:JG X id (fun v vs H Q=>∃m h x y yv,vs=[yv]∧HR X.K m h H∧DV X.K m H x v∧DV X.K m H y yv∧Post X.K (rD X.K) m H E0 Q (op x y h)):=by
  rintro pins s σ H v vs u us Q I r rs ⟨m,h,x,y,yv,ev,hr,rx,ry,q⟩
  subst ev
  obtain ⟨uy,rfl,r2⟩:=DS rs
  exact hm pins s σ H m h x y v yv u uy Q I hr rx ry r r2 q
 refine BU (Qk pa slot hty hr ho (Ad he Ag hs) hbase hfew hline hs hplain) fun σ H Q z3_=>?_
 obtain ⟨m,ρ,h,hr,er,p⟩:=z3_
 refine ⟨m,ρ,h,hr,er,?_⟩
 unfold Ht at p
 rw [Out.bind_assoc] at p
 refine Post.bind p fun x h1 v m1 H1 eo p1 k1 hr1 r1 q1=>?_
 clear eo
 rcases hc.two x h1 with ec |ec
 ·rw [ec] at q1
  simp only [Out.bind_ok] at q1
  refine ⟨hc.ty m1 H1 h1 x v hr1 r1 ec,m1,ρ,h1,hr1,er.keep p1 k1,?_⟩
  have q2:Post X.K (rD X.K) m1 H1 E Q ((Aa g Ae ρ h1).bind fun ys h2=>match ys with
   |[y]=>op x y h2
   |_=>.stuck):=by
   unfold Aa Ae
   rw [Out.bind_assoc]
   exact q1
  refine Post.bind q2 fun ys h2 vs m2 H2 eo p2 k2 hr2 r2 q3=>?_
  clear eo
  split at q3
  ·rename_i y
   simp only [Dz,DVs] at r2
   obtain ⟨yv,w,rfl,ry,rfl⟩:=r2
   exact ⟨m2,h2,x,y,yv,rfl,hr2,DV.keep p2 k2 r1,ry,Post.noE (hn x y h2) q3⟩
  ·exact q3.elim
 ·rw [ec] at q1
  exact q1.elim
theorem MY:MW X "list" Cp where
 two:=fun x h=>by
  unfold Cp
  split
  ·split
   ·exact .inl rfl
   ·exact .inr rfl
  ·exact .inr rfl
 ty:=fun m H h x v hr r e=>by
  unfold Cp at e
  split at e
  ·rename_i l
   split at e
   ·rename_i ds el
    simp only [DV] at r
    obtain ⟨a,rfl,ha⟩:=r
    obtain ⟨ws,hv,dv⟩:=hr.cells l _ a el ha
    exact fun pins σ s u I ru=>OH I ru (.inl ⟨rfl,ws,SqL.of hv⟩)
   ·cases e
  ·cases e
def Hu (x:V) (xs:List V):Nat:=xs.countP fun y=>DU y x
theorem Qm {x:V}:∀{xs:List V} {us:List Value},Vals xs us→xs.all Dy=true→us.countP (FN x)=Hu x xs
 |_,_,.nil,_=>rfl
 |y::xs,u::us,.cons r t,f=>by
  rw [List.all_cons,CF] at f
  unfold Hu
  rw [List.countP_cons,List.countP_cons,LN r f.1,Qm t f.2]
  rfl
def Hv:D→D→HD→Out D:=fun x y h=>match By x h with
 |none=>.stuck
 |some ds=>match CM y,AS (ds.map CM) with
  |some v,some vs=>.ok (.int (Hu v vs)) h
  |_,_=>.stuck
theorem WY (x y:D) (h:HD):F6 (Hv x y h):=by
 unfold Hv
 repeat' split
 all_goals trivial
def F7:D→D→HD→Out D:=fun x y h=>(Cp x h).bind fun _ _=>Hv x y h
theorem WZ:MX X "list.count" F7:=by
 intro pins s σ H m h x y v yv u uy Q I hr rx ry r r2 q
 unfold F7 at q
 rcases (MY (X:=X)).two x h with ec |ec
 ·rw [ec] at q
  simp only [Out.bind_ok] at q
  unfold Cp at ec
  split at ec
  ·rename_i l
   split at ec
   ·rename_i ds el
    unfold Hv By at q
    simp only [el] at q
    split at q
    ·rename_i w ws e1 e2
     simp only [DV] at rx
     obtain ⟨a,rfl,ha⟩:=rx
     cases (show u=Value.ref a from r)
     obtain ⟨vs,hv,dv⟩:=hr.cells l _ a el ha
     obtain ⟨h1,h2⟩:=L5 ry e1
     obtain ⟨h3,h4⟩:=L6 dv e2
     subst h1 h3
     obtain ⟨z,its,n,rr,hl,e⟩:=I.lstM hv
     refine call_meets F.slot_list_count ⟨_,e,rfl⟩ F.entry_list_count (F.args_list_count_2 _ _) (PySem.SeqAt.list_countAt a its.toArray n none #[] uy (FN yv)) ⟨e,fun w hw=>LO r2 h2 rr h4 w (by simpa using hw),?_⟩
     refine ⟨.int _,H,I.tok _,⟨_,rfl⟩,?_⟩
     rw [show (its.toArray.toList.countP (FN yv))=Hu yv vs by rw [←Qm rr h4]]
     exact Ba hr q (by simp [DV])
    ·exact q.elim
   ·cases ec
  ·cases ec
 ·rw [ec] at q;exact q.elim
def Kv (x:V) (xs:List V):Option Nat:=xs.findIdx? fun y=>DU y x
def F8:D→D→HD→Out D:=fun x y h=>match x with
 |.loc l=>(match h[l]? with
  |some (.lst ds)=>(match CM y,AS (ds.map CM) with
   |some v,some vs=>(match Kv v vs with
    |some j=>.ok (.int j) h
    |none=>.stuck)
   |_,_=>.stuck)
  |_=>.stuck)
 |_=>.stuck
theorem W0 (x y:D) (h:HD):F6 (F8 x y h):=by
 unfold F8
 repeat' split
 all_goals trivial
theorem W1 (x y:D) (h:HD):F6 (F7 x y h):=by
 unfold F7
 rcases (show Cp x h=.ok x h∨Cp x h=.stuck by
  unfold Cp
  split
  ·split
   ·exact .inl rfl
   ·exact .inr rfl
  ·exact .inr rfl) with e |e
 ·rw [e];exact WY x y h
 ·rw [e];trivial
theorem Qn {xs:List V} {us:List Value} (r:Vals xs us) {x:V} (f:xs.all Dy=true) {j:Nat} (hj:j<us.length):FN x us[j]=DU (xs[j]'(by rw [r.length];exact hj)) x:=by
 have hx:j<xs.length:=by rw [r.length];exact hj
 obtain ⟨u,e,ru⟩:=r.get (AW hx)
 rw [AW hj] at e
 cases e
 exact LN ru (qaO.mp f _ (GN hx))
theorem W2:MX X "list.index" F8:=by
 intro pins s σ H m h x y v yv u uy Q I hr rx ry r r2 q
 unfold F8 at q
 split at q
 ·rename_i l
  split at q
  ·rename_i ds el
   split at q
   ·rename_i w ws e1 e2
    split at q
    ·rename_i j ej
     simp only [DV] at rx
     obtain ⟨a,rfl,ha⟩:=rx
     cases (show u=Value.ref a from r)
     obtain ⟨vs,hv,dv⟩:=hr.cells l _ a el ha
     obtain ⟨h1,h2⟩:=L5 ry e1
     obtain ⟨h3,h4⟩:=L6 dv e2
     subst h1 h3
     obtain ⟨z,its,n,rr,hl,e⟩:=I.lstM hv
     unfold Kv at ej
     rw [List.findIdx?_eq_some_iff_getElem] at ej
     obtain ⟨hj,hit,hno⟩:=ej
     have hji:j<its.length:=by rw [←hl];exact hj
     have hsl:(j:Int)<2^63 - 1:=by have:=GX;omega
     refine call_meets F.slot_list_index ⟨_,e,rfl⟩ F.entry_list_index (F.args_list_index_2 _ _) (PySem.SeqAt.list_indexAt a its.toArray n none #[] uy (FN yv) j (by simpa using hji) hsl ?_ ?_) ⟨e,fun w hw=>LO r2 h2 rr h4 w (by simpa using hw),?_⟩
     ·have:=Qn rr h4 (x:=yv) hji
      simp only [List.getElem_toArray]
      rw [this];exact hit
     ·intro k hk hkj
      have hk':k<its.length:=by simpa using hk
      have:=Qn rr h4 (x:=yv) hk'
      simp only [List.getElem_toArray]
      rw [this]
      simpa using hno k hkj
     ·exact ⟨.int _,H,I.tok _,⟨_,rfl⟩,Ba hr q (by simp [DV])⟩
    ·exact q.elim
   ·exact q.elim
  ·exact q.elim
 ·exact q.elim
end
theorem W3 {pos:Pos} {l r:List Value} {cv:Value} (_:TriplesOk l) (e:codeAmong pos l=some cv):codeAmong pos (l++r)=some cv:=by
 rename_i ht
 clear ht
 fun_induction codeAmong pos l with
 |case1 line t col u c rest h=>rw [ED,ED,ED,codeAmong,if_pos h];exact e
 |case2 line t col u c rest h ih=>rw [ED,ED,ED,codeAmong,if_neg h];exact ih e
 |case3=>cases e
theorem Qo {pos p2:Pos} {c cv:Value}:∀{l:List Value},TriplesOk l→codeAmong p2 (l++[rawInt pos.line,rawInt pos.col,c])=some cv→codeAmong p2 l=some cv∨cv=c
 |[],_,e=>by
  simp only [GP,rawInt,codeAmong] at e
  split at e
  ·exact .inr (Option.some.inj e).symm
  ·cases e
 |.int i t::.int j u::c'::l,h,e=>by
  simp only [codeAmong,ED] at e ⊢
  split at e
  ·rename_i z
   rw [if_pos z];exact .inl e
  ·rename_i z
   rw [if_neg z];exact Qo (by simpa [TriplesOk] using h) e
theorem HR.tab {K:Frag} {m:List Addr} {h:HD} {H H':Hp} {P:Addr} (r:HR K m h H) (k:Kp H H') (s:∀b,b≠P→H b≠none→H' b=H b) (t:TabIs K H' P) (tt:TabIs K H P):HR K m h H':=by
 refine ⟨r.len,r.nd,fun l c a e q=>?_⟩
 have hm:a∈m:=E5 q
 have hn:H a≠none:=r.mem hm
 have:=r.cells l c a e q
 cases c with
 |lst ds=>
  obtain ⟨vs,e1,e2⟩:=this
  have ha:a≠P:=by
   rintro rfl
   obtain ⟨_,ps,z,_⟩:=tt
   rw [z] at e1;cases e1
  exact ⟨vs,by rw [s a ha hn];exact e1,e2.keep (Ay _) k⟩
 |tab=>
  by_cases ha:a=P
  ·subst ha;exact t
  ·exact TabIs.keep this k (s a ha hn)
 |dic fz kvs=>
  obtain ⟨es,e1,e2⟩:=this
  have ha:a≠P:=by
   rintro rfl
   obtain ⟨_,ps,z,_⟩:=tt
   cases fz with
   |true=>obtain ⟨o,q⟩:=e1;rw [z] at q;cases q
   |false=>exact absurd (z.symm.trans e1) (by intro w;cases w)
  exact ⟨es,e1.same (s a ha hn),e2.keep (Ay _) k⟩
structure LamX (X:Cx) (c P:Addr):Prop where
 code:X.env.code=.ref c
 tp:tabP X.K=some (c,P)
 hd:codeHdIn X.K c P=true
 qual:X.env.qual="law.<locals>."
 bm:∃bm o,X.mg "__builtins__"=some (.ref bm)∧bm≠builtinsNs∧X.base.get? bm=some o∧o.cls=.type "module"∧o.dict=some builtinsNs∧o.data=.plain
section
variable {X:Cx} {E:Value→Shared→Prop} {c P:Addr} {pins:List (Addr×Obj)} {σ:L2.St} {H:Hp} {s:Shared}
theorem LamX.builtins (L:LamX X c P) (I:Inv X pins σ H s) (t:TabIs X.K H P):s.heap.BuiltinsAt X.mg P:=by
 obtain ⟨bm,o,h1,h2,h3,h4,h5,h6⟩:=L.bm
 obtain ⟨e,n⟩:=I.bs bm o h3
 refine ⟨bm,o,h1,h2,fun z=>?_,fun z=>?_,e,h4,h5,h6⟩
 ·obtain ⟨og,es,ep,e1,e2,_⟩:=I.mod.glob
  rw [z,e1] at h3
  cases h3
  rw [e2] at h6;cases h6
 ·obtain ⟨_,ps,q,_⟩:=t
  rw [z,q] at n;cases n
abbrev Bu:Str:="law.<locals>.<lambda>"
theorem W4 {params:Arguments} {body:Expr} {scope:Scope} {pos:Pos} {clos:List (Str×Addr)} {Q:Value→Shared→Prop} {A:Around} (L:LamX X c P) (I:Inv X pins σ H s) (t:TabIs X.K H P) (hdef:defaultsOf params X.env=([],[])) (hcl:closureFor scope X.env=pure clos)
 (k:∀(f' c':Addr) (ctv pm:Value) (h':Heap) (tk:Nat) (H':Hp),Inv X pins σ H' {s with heap:=h',toks:=tk}→Kp H H'→TabIs X.K H' P→(∀b,b≠P→H b≠none→H' b=H b)→(∀b o,b≠P→s.heap.get? b=some o→h'.get? b=some o)→s.heap.objs.size≤f'→
  H' f'=none→h'.get? f'=some (kla_obj "<lambda>" Bu params body scope clos pm c' ctv)→(∃ps,H' P=some (.tbl ps)∧codeAmong pos ps.toList=some (.ref c'))→Q (.ref f') {s with heap:=h',toks:=tk}):
 wpAny (model X.prog X.w) A (eval (.Lambda params body scope pos) X.env) Q E s:=by
 have hB:=L.builtins I t
 have hg:s.heap.Ns mainGlobals X.mg:=I.mod.glob.keeps I.bk
 have hCd:CodeHd s.heap c P:=codeHd_of_K I.kIn L.hd
 obtain ⟨ht1,ps,hps,htr,hcs⟩:=id t
 have hP:s.heap.get? P=some (tabObj ps):=I.hok P _ hps
 have hgP:mainGlobals≠P:=fun z=>by
  obtain ⟨og,es,ep,e1,e2,_⟩:=I.mod.glob
  have:=(I.bs _ _ e1).2
  rw [z,hps] at this;cases this
 have hq:X.env.qual++"<lambda>"=Bu:=by rw [L.qual];decide +kernel
 refine kla_eval hdef ?_
 rw [hq]
 cases hc:codeAmong pos ps.toList with
 |some cv=>
  obtain ⟨c',rfl,hx⟩:=hcs pos cv hc
  refine kla_makeFunctionHit (mg:=X.mg) hcl I.ok.glob hg L.code hCd hP htr hc hB fun ctv h' tk hk hsz=>?_
  have hk2:∀b o,s.heap.get? b=some o→(h'.push (kla_obj "<lambda>" Bu params body scope clos ((X.mg "__name__").getD .none) c' ctv)).get? b=some o:=fun b o e=>AE _ (hk b o e)
  exact k _ c' ctv _ _ tk H (I.kept hk2) (.refl _) t (fun _ _ _=>rfl) (fun b o _ e=>hk2 b o e) hsz (I.hok.fresh hsz) (Bj _ rfl) ⟨ps,hps,hc⟩
 |none=>
  refine kla_makeFunction (mg:=X.mg) hcl I.ok.glob hg L.code hCd hP htr hc hgP hB fun c' ctv h' tk hx hge hlt hrec htb=>?_
  generalize ho:kla_obj "<lambda>" Bu params body scope clos ((X.mg "__name__").getD .none) c' ctv=fo
  have hk2:∀b o,b≠P→s.heap.get? b=some o→(h'.push fo).get? b=some o:=fun b o hb e=>AE _ (hx b o hb e)
  have hPs:P<s.heap.objs.size:=AB hP
  have hc'P:c'≠P:=EO (AL hPs hge)
  have hc'n:H c'=none:=I.hok.fresh hge
  generalize hps':ps++#[rawInt pos.line,rawInt pos.col,.ref c']=ps' at htb
  have tl:ps'.toList=ps.toList++[rawInt pos.line,rawInt pos.col,.ref c']:=by rw [←hps'];simp
  have hH:∀b,b≠P→H b≠none→Am (Am H P (.tbl ps')) c' (.ext (G0 Bu c')) b=H b:=fun b hb hn=>by
   have:b≠c':=fun z=>hn (z ▸ hc'n)
   rw [An this,An hb]
  have hHP:Am (Am H P (.tbl ps')) c' (.ext (G0 Bu c')) P=some (.tbl ps'):=by rw [An (Ne.symm hc'P),Bx]
  have kp:Kp H (Am (Am H P (.tbl ps')) c' (.ext (G0 Bu c'))):=fun b o e i=>by
   have:b≠P:=fun z=>by rw [z,hps] at e;cases e;cases i
   rw [hH b this (by rw [e];simp)];exact e
  have lt':∀b o,s.heap.get? b=some o→b≠c':=fun b o e=>BF (AL (AB e) hge)
  have un:Un X.fs [] H (Am (Am H P (.tbl ps')) c' (.ext (G0 Bu c'))) s.heap (h'.push fo):=by
   have neP:∀{b},H b=none→b≠P:=fun {b} n z=>by rw [z,hps] at n;cases n
   refine ⟨fun b o e n _ _=>hk2 b o (neP n) e,fun b o e n _ _=>⟨o.slots,hk2 b o (neP n) e⟩,fun b o e n _=>?_,fun b o e _=>?_,fun b xs e=>?_,fun b o u e=>?_,fun b qs e=>?_⟩
   ·rw [An (lt' b o e),An (neP n)];exact n
   ·by_cases hb:b=P
    ·subst hb;exact ⟨_,AE _ htb⟩
    ·exact ⟨o,hk2 b o hb e⟩
   ·rw [hH b (fun z=>by rw [z,hps] at e;cases e) (by rw [e];simp)];exact e
   ·rw [hH b (fun z=>by rw [z,hps] at e;cases e) (by rw [e];simp)];exact e
   ·by_cases hb:b=P
    ·subst hb
     rw [hps] at e;cases e
     exact ⟨_,by rw [hHP,←hps']⟩
    ·exact ⟨#[],by rw [hH b hb (by rw [e];simp),e];simp⟩
  have hok:HOk X.prog X.w (Am (Am H P (.tbl ps')) c' (.ext (G0 Bu c'))) (h'.push fo):=by
   intro b o e
   by_cases hb:b=c'
   ·subst hb
    rw [Bx] at e
    cases e
    have r1:(h'.push fo).CodeRec (.ref b) Bu:=hrec.keeps fun b o e=>AE _ e
    refine ⟨r1,?_,fun h1 h2 z1 z2=>?_⟩
    ·obtain ⟨c2,oc,vs,t2,e1,e2,_⟩:=r1
     cases e1
     exact ⟨oc,e2⟩
    ·obtain ⟨c2,oc,vs,t2,e1,e2,e3⟩:=z1
     cases e1
     exact ⟨_,oc,vs,t2,rfl,z2 _ e2,e3⟩
   ·by_cases hbP:b=P
    ·subst hbP
     rw [hHP] at e
     cases e
     exact AE _ htb
    ·rw [An hb,An hbP] at e
     refine (I.hok b o e).stay (fun d u hd q=>hk2 d u ?_ q) (fun d q=>?_) fun d xs q=>?_
     ·rcases hd with rfl |hd
      ·exact hbP
      ·exact fun z=>by rw [z,hps] at hd;cases hd
     ·rw [hH d (fun z=>by rw [z,hps] at q;cases q) (by rw [q];simp)];exact q
     ·rw [hH d (fun z=>by rw [z,hps] at q;cases q) (by rw [q];simp)];exact q
  have hsz:s.heap.objs.size≤h'.objs.size:=E8 (Nat.lt_of_le_of_lt hge hlt)
  refine k _ c' ctv ((X.mg "__name__").getD .none) _ tk _ (I.un un hok) kp ⟨ht1,ps',hHP,?_,fun p2 cv e=>?_⟩ hH hk2 hsz ?_ (by rw [←ho];exact Bj _ rfl) ⟨ps',hHP,?_⟩
  ·rw [tl];exact TriplesOk_snoc _ _ _ _ htr
  ·rw [tl] at e
   rcases Qo htr e with z |z
   ·obtain ⟨c2,z1,z2⟩:=hcs p2 cv z
    exact ⟨c2,z1,kp _ _ z2 rfl⟩
   ·exact ⟨c',z,Bx⟩
  ·have n1:h'.objs.size≠c':=EO hlt
   have n2:h'.objs.size≠P:=EO (AL hPs hsz)
   rw [An n1,An n2];exact I.hok.fresh hsz
  ·rw [tl];exact codeAmong_snoc _ htr hc
end
def EY (P:Program) (w:World) (K:Frag) (mg:Str→Option Value) (base:Heap) (N:List Str) (scope:Scope) (a:Addr) (cd:Value) (cl:List (Str×Addr)) (A:Around) (outer:List Env) (s:Shared) (H:Hp) (E:XK):Cx where
 prog:=P
 w:=w
 K:=K
 mg:=mg
 base:=base
 A:=A.deeper (envX Bu scope s.heap.objs.size a cd cl)
 N:=N
 s₀:=s
 H₀:=H
 env:=envX Bu scope s.heap.objs.size a cd cl
 outer:=outer
 stack:=envX Bu scope s.heap.objs.size a cd cl::outer
 ex:=[]
 calm:=true
 fn:=fun _=>false
 pn:=[]
 xe:=fun e s'=>wpAny (model P w) (A.deeper (envX Bu scope s.heap.objs.size a cd cl)) (leaving (envX Bu scope s.heap.objs.size a cd cl) e) (fun _ s''=>Az P w K outer H s E e s'') (fun e' s''=>Az P w K outer H s E e' s'') s'
theorem W5 {P:Program} {w:World} {K:Frag} {mg:Str→Option Value} {base:Heap} {N:List Str} {scope:Scope} {a:Addr} {cd:Value} {cl:List (Str×Addr)} {A:Around} {outer:List Env} {s:Shared} {H:Hp} {E:XK}:
 Lv (EY P w K mg base N scope a cd cl A outer s H E) E:=⟨fun _ _ h=>h,rfl,rfl,rfl⟩
theorem W6 {P:Program} {w:World} {K:Frag} {mg:Str→Option Value} {base:Heap} {N:List Str} {scope:Scope} {a:Addr} {cd:Value} {cl:List (Str×Addr)} {A:Around} {outer:List Env} {s:Shared} {H:Hp} {E:XK}:
 EI (Az P w K) (EY P w K mg base N scope a cd cl A outer s H E) E:=Mx W5
structure IY (h:Heap) (H:Hp) (outer:List Env) (N:List Str) (scope:Scope) (cl:List (Str×Addr)) (vs:List V):Prop where
 len:vs.length=N.length
 inj:∀x y c,cl.lookup x=some c→cl.lookup y=some c→x=y
 has:∀x,scope.names.lookup x=some .free→∃c,cl.lookup x=some c
 cell:∀x c,cl.lookup x=some c→(∃v,h.IsCell c v)∧H c=none∧c∉frs outer
 val:∀(i:Nat) (x:Str) (v:V),N[i]?=some x→vs[i]?=some v→scope.names.lookup x=some .free∧∃c u,cl.lookup x=some c∧h.IsCell c (some u)∧RelV v u
structure LamSc (scope:Scope):Prop where
 kind:scope.kind=.function
 co:scope.isCoroutine=false
 gen:scope.isGenerator=false
 only:(scope.names.all fun y=>y.2 != .cell)=true
theorem LamSc.nocell {scope:Scope} (S:LamSc scope):∀x∈scope.names,x.2≠.cell:=fun x hx e=>by
 have:=qaO.mp S.only x hx
 rw [e] at this
 simp at this
section
variable {P:Program} {w:World} {K:Frag} {mg:Str→Option Value} {base:Heap} {N:List Str} {scope:Scope} {a c':Addr} {pm ctv:Value} {params:Arguments} {body:Expr} {cl:List (Str×Addr)} {A:Around} {outer:List Env} {s:Shared} {H:Hp} {E:XK} {vs:List V}
theorem W7 {cd:Value} {h1:Heap} {t1:Nat} (S:LamSc scope) (hd:A.handled=none) (e0:Fc P w K mg base A outer s H) (C:IY s.heap H outer N scope cl vs) (ns:h1.Ns s.heap.objs.size (fun _=>none)) (hk:∀b o,s.heap.get? b=some o→h1.get? b=some o):
 Inv (EY P w K mg base N scope a cd cl A outer s H E) [] (vs.map some) H {s with heap:=h1,toks:=t1}:=by
 have noA:∀b:Addr,b∉(EY P w K mg base N scope a cd cl A outer s H E).ex:=fun b z=>absurd (show b∈([]:List Addr) from z) (by simp)
 refine ⟨⟨e0.mod,S.kind,rfl,rfl,AD _,C.inj,fun x hx=>?_,fun x c hf=>(by cases hf),fun _=>hd,Around.frames_deeper e0.frames,.inr ⟨rfl,rfl⟩,fun b z=>absurd z (noA b),e0.bs,e0.bsz,fun b _ _=>noA b,fun b z=>absurd z (noA b),e0.funs,e0.frf⟩,
  rfl,e0.bare,Un.kept hk,⟨_,ns,fun i x v e1 e2 _=>?_⟩,fun x c e=>?_,e0.hok.fresh (AD _),fun x c e=>(C.cell x c e).2.1,fun p hp=>absurd (show p∈([]:List (Addr×Obj)) from hp) (by simp),e0.hok.kept hk,?_⟩
 ·have hx':scope.names.lookup x=some .cell∨scope.names.lookup x=some .free:=hx
  rcases hx' with z |z
  ·exact absurd rfl (S.nocell _ (mem_of_lookup z))
  ·exact C.has x z
 ·rw [BX] at e2
  cases ev:vs[i]? with
  |none=>rw [ev] at e2;cases e2
  |some v'=>
   rw [ev] at e2
   cases e2
   obtain ⟨hf,c,u,e3,e4,r⟩:=C.val i x v e1 ev
   exact ⟨u,r,.inr ⟨.inr hf,c,e3,e4.keeps hk⟩⟩
 ·obtain ⟨⟨v,q⟩,_⟩:=C.cell x c e
  exact ⟨v,q.keeps hk⟩
 ·show (vs.map some).length=N.length
  rw [CH];exact C.len
theorem W8 {k:Nat} {f:ME} {Q:VK} (S:LamSc scope) (hr:Room (k+1) A) (e0:Fc P w K mg base A outer s H) (C:IY s.heap H outer N scope cl vs) (ho:s.heap.get? a=some (kla_obj "<lambda>" Bu params body scope cl pm c' ctv)) (hcd:s.heap.CodeRec (.ref c') Bu)
 (hbind:bindArgs (kla_fn "<lambda>" Bu params body scope cl pm (.ref c') ctv) ⟨[],[]⟩=pure [])
 (hb:Room k (A.deeper (envX Bu scope s.heap.objs.size a (.ref c') cl))→Ev (EY P w K mg base N scope a (.ref c') cl A outer s H E) E body f)
 (q:∃m ds h,HR K m h H∧DVs K m H ds vs∧Post K (rD K) m H E Q (f (ds.map some) h)):codeAny (model P w) A (.call (.ref a) ⟨[],[]⟩) (CR (Az P w K) outer P w H s Q E) s:=by
 refine kla_callFunE hr.depth ho rfl S.co S.gen rfl hcd ?_
 rw [hbind]
 have lim:s.heap.NoLimit:=e0.mod.nolimit.keeps fun b o e=>(e0.bs b o e).1
 refine wpAny_pure (wpAny_newFunctionEnv S.nocell (fun y hy=>by cases hy) (fun h₁ hns hsb=>⟨lim.fresh _ hsb,?_⟩) S.kind)
 have hk₁:∀b o,s.heap.get? b=some o→h₁.get? b=some o:=fun b o e=>hsb.extBut b o (BD (AB e)) (AE _ e)
 have I:Inv (EY P w K mg base N scope a (.ref c') cl A outer s H E) [] (vs.map some) H {s with heap:=h₁,toks:=s.toks+0}:=W7 S hr.hd e0 C hns hk₁
 obtain ⟨m,ds,h,hr1,r,p⟩:=q
 have er:ER K m H (ds.map some) (vs.map some):=by
  refine ⟨by simp [r.len],fun i d e=>?_⟩
  rw [BX] at e
  cases ed:ds[i]? with
  |none=>rw [ed] at e;cases e
  |some d'=>
   rw [ed] at e
   cases e
   obtain ⟨v,e1,r1⟩:=r.get ed
   exact ⟨v,by rw [BX,e1];rfl,r1⟩
 refine kla_codeExpr (wpAny_mono (hb (hr.deeper _) [] _ _ H Q I ⟨m,ds.map some,h,hr1,er,p⟩) (fun u s' hs=>?_) fun e s' hs=>hs)
 obtain ⟨v,H',J,rv,qv⟩:=hs
 exact ⟨v,H',J.os,J.bare,J.base,J.hok,rv,qv⟩
end
structure RoomM (k:Nat) (A:Around):Prop where
 dp:A.depth+3*k+5<recursionLimit
 un:A.units+16*k+200<cLine
 gd:A.guards=some []
theorem RoomM.deeper {k:Nat} {A:Around} (r:RoomM (k+1) A) (env:Env):RoomM k (A.deeper env):=
 ⟨by have:=r.dp;show A.depth+1+3*k+5<_;omega,by have:=r.un;show A.units+3+16*k+200<_;omega,r.gd⟩
theorem RoomM.units {k:Nat} {A:Around} (r:RoomM k A):A.units+64<cLine:=by have:=r.un;omega
theorem RoomM.mono {j k:Nat} {A:Around} (r:RoomM k A) (h:j≤k):RoomM j A:=⟨by have:=r.dp;omega,by have:=r.un;omega,r.gd⟩
theorem RoomM.of {k:Nat} {A:Around} (r:Room k A) (e:Option Value):RoomM k (A.mark e):=⟨r.dp,r.un,r.gd⟩
def Hw (P:Program) (w:World) (K:Frag) (mg:Str→Option Value) (base:Heap) (N:List Str) (qual:Str) (scope:Scope) (f:Addr) (cd:Value) (A:Around) (outer:List Env) (s:Shared) (H:Hp):Cx:=
 {AI OI P w K mg base N qual scope f cd A outer s H E0 with calm:=false,xe:=fun _ _=>False}
theorem W9 {P:Program} {w:World} {K:Frag} {mg:Str→Option Value} {base:Heap} {N ps:List Str} {qual:Str} {scope:Scope} {f:Addr} {cd:Value} {A:Around} {outer:List Env} {s s1:Shared} {H:Hp} {us:List Value} {vs:List V}
 (S:A4 N ps scope) (e0:Fc P w K mg base A outer s H) (hl:vs.length=ps.length) (r:Vals vs us)
 (x:InCallC s s.heap.objs.size (bindL (envOfC qual scope s.heap.objs.size f cd).kindOf (ps.zip us) fun _=>none) (cellsFrom (s.heap.objs.size+1) scope.names []) (bindC (envOfC qual scope s.heap.objs.size f cd).kindOf (ps.zip us) fun _=>none) s1):
 Inv (Hw P w K mg base N qual scope f cd A outer s H) [] (start N vs) H s1:=by
 have hpl:ps.length≤N.length:=by have:=congrArg List.length S.pre;rw [Js] at this;omega
 obtain ⟨h1,tk,rfl,hk⟩:=x.done
 have noA:∀b:Addr,b∉(Hw P w K mg base N qual scope f cd A outer s H).ex:=fun b z=>absurd (show b∈([]:List Addr) from z) (by simp)
 refine ⟨⟨e0.mod,S.kind,rfl,rfl,AD _,fun y z c h1 h2=>?_,fun y hy=>?_,fun y c _ h=>?_,fun z=>(nomatch z),Around.frames_deeper e0.frames,.inr ⟨rfl,rfl⟩,fun b z=>absurd z (noA b),e0.bs,e0.bsz,fun b _ _=>noA b,fun b z=>absurd z (noA b),e0.funs,e0.frf⟩,
  rfl,e0.bare,Un.kept hk,⟨_,x.toInCall.ns,fun i y v h1 h2 h3=>?_⟩,fun y c h=>⟨_,x.cell y c h⟩,e0.hok.fresh (AD _),fun y c h=>?_,fun p hp=>absurd (show p∈([]:List (Addr×Obj)) from hp) (by simp),e0.hok.kept hk,?_⟩
 ·exact name_of_addr x.apart (PySem.mem_of_lookup h1) (PySem.mem_of_lookup h2)
 ·have hy:scope.names.lookup y=some .cell∨scope.names.lookup y=some .free:=hy
  rcases hy with hy |hy
  ·exact JF hy
  ·exact absurd rfl (S.nofree _ (PySem.mem_of_lookup hy))
 ·exact E8 (x.above y c (PySem.mem_of_lookup h))
 ·have hi:i<vs.length:=by
   unfold L2.start at h2
   by_cases hi:i<vs.length
   ·exact hi
   ·rw [HK (by simpa using hi)] at h2
    rw [Ll] at h2
    split at h2<;>cases h2
  have ha:vs[i]?=some v:=by
   unfold L2.start at h2
   rw [Ez (by simpa using hi),BX] at h2
   cases e:vs[i]? with
   |none=>rw [e] at h2;cases h2
   |some a=>rw [e] at h2;cases h2;rfl
  obtain ⟨u,hu,rv⟩:=r.get ha
  have hp:ps[i]?=some y:=by
   rw [←S.pre,List.getElem?_take_of_lt (by omega)];exact h1
  have ndP:ps.Nodup:=by rw [←S.pre];exact S.nd.sublist (List.take_sublist _ _)
  refine ⟨u,rv,?_⟩
  rcases S.par y (E5 hp) with k |k
  ·exact .inl ⟨k,LJ ndP hp hu k⟩
  ·obtain ⟨c,e⟩:=JF (n:=s.heap.objs.size+1) k
   refine .inr ⟨.inl k,c,e,?_⟩
   have q:=x.cell y c e
   rw [LM ndP hp hu (by show scope.names.lookup y≠_;rw [k];decide)] at q
   exact q
 ·exact e0.hok.fresh (E8 (x.above y c (PySem.mem_of_lookup h)))
 ·unfold L2.start
  show _=N.length
  rw [FB,CH,List.length_replicate]
  omega
structure Qp (P:Program) (w:World) (K:Frag) (mg:Str→Option Value) (base:Heap) (k:Nat) (f:Addr) (fd:FuncData) (ps:List Str) (F:List D→HD→Out D):Prop where
 run:∀(A:Around) (outer:List Env) (s:Shared) (H:Hp) (args:Args) (us:List Value) (vs:List V) (Q:VK),RoomM k A→Fc P w K mg base A outer s H→BindsTo s fd args (ps.zip us)→Vals vs us→JT K F vs H Q E0→
  codeAny (model P w) A (.call (.ref f) args) (CR OI outer P w H s Q E0) s
theorem Xa {P:Program} {w:World} {K:Frag} {mg:Str→Option Value} {base:Heap} {x qual:Str} {st:Stmt} {f:Addr} {fd:FuncData} {N ps:List Str} {k:Nat} {F:List D→HD→Out D} {g:MS} (Fn:Fun K x qual st f fd) (S:A4 N ps (defScope st)) (ar:Ar ps.length F)
 (hg:∀ds h,ds.length=ps.length→F ds h=Aw N.length g ds h)
 (hbody:∀(cdv:Value) (A:Around) (outer:List Env) (s:Shared) (H:Hp),RoomM k (A.deeper (envOfC qual (defScope st) s.heap.objs.size f cdv))→AY (Hw P w K mg base N qual (defScope st) f cdv A outer s H) E0 (defBody st) g):Qp P w K mg base (k+1) f fd ps F:=by
 obtain ⟨oc,od,kV,doc,pm,an,cdv,ct,osl,rfl,lk,hcd⟩:=Fn.ex
 refine ⟨fun A outer s H args us vs Q hr e0 hb r hsp=>?_⟩
 have hl:vs.length=ps.length:=ar.len hsp
 have KX:K.In s.heap:=e0.mod.kin.keeps fun b o e=>(e0.bs b o e).1
 have lim:s.heap.NoLimit:=e0.mod.nolimit.keeps fun b o e=>(e0.bs b o e).1
 have hkind:∀y∈ps.zip us,(defScope st).names.lookup y.1=some .local∨((defScope st).names.lookup y.1=some .cell∧((cellsFrom (s.heap.objs.size+1) (defScope st).names []).lookup y.1).isSome=true):=fun z1_ hy=>by
  obtain ⟨n,v⟩:=z1_
  rcases S.par n (Jt hy).1 with q |q
  ·exact .inl q
  ·exact .inr ⟨q,PySem.W.cellsFrom_some _ _ _ (.inl q)⟩
 refine codeAny_call_function (by have:=hr.dp;omega) (KX _ _ lk) rfl S.co S.gen rfl (PySem.W.codeRec_of KX hcd) (hb _ _ _ _ ?_)
 refine wpAny_newFunctionEnv_cells S.kind hkind fun env he s1 x=>?_
 subst he
 refine ⟨lim.keeps x.toInCall.keep,codeAny_func ?_⟩
 have I:Inv (Hw P w K mg base N qual (defScope st) f cdv A outer s H) [] (start N vs) H s1:=W9 S e0 hl r x
 have AX:∀{σ':L2.St} {H':Hp} {v:V} {u:Value} {s':Shared},Inv (Hw P w K mg base N qual (defScope st) f cdv A outer s H) [] σ' H' s'→RelV v u→Q v H'→CE outer P w H s Q u s':=
  fun {σ' H' v u s'} J rv q=>⟨v,H',J.os,J.bare,J.base,J.hok,rv,q⟩
 have post:G2 K E0 g {nx:=fun _ H'=>Q .non H',rt:=Q} (start N vs) H:=by
  obtain ⟨m,ds,hd,hr1,r,p⟩:=hsp
  have hld:ds.length=ps.length:=by rw [r.len];exact hl
  refine ⟨m,ds.map some++List.replicate (N.length - ds.length) none,hd,hr1,ER.start r,?_⟩
  rw [hg ds hd hld] at p
  unfold Aw at p
  cases o:g (ds.map some++List.replicate (N.length - ds.length) none) hd with
  |stuck=>rw [o] at p;exact p
  |err C fs h1=>rw [o] at p;exact p
  |ok a h1=>
   rw [o] at p
   obtain ⟨fl,ρ1⟩:=a
   intro m1 H1 p1 k1 hr1
   cases fl with
   |nx=>exact fun σ er=>p .non m1 H1 p1 k1 hr1 (by simp [rD,DV])
   |bk=>exact False.elim p
   |ct=>exact False.elim p
   |rt d=>exact fun v rv=>p v m1 H1 p1 k1 hr1 rv
 refine wpAny_mono (hbody cdv A outer s H (hr.deeper _) [] s1 (start N vs) H _ I post) (fun fl s' hs=>?_) fun e s' hs=>hs.elim
 cases fl with
 |ret u=>
  obtain ⟨v,σ',H',J,rv,q⟩:=hs
  exact AX J rv q
 |next=>
  obtain ⟨σ',H',J,q⟩:=hs
  exact AX (v:=V.non) (u:=Value.none) J rfl q
 |brk=>
  obtain ⟨_,_,_,q⟩:=hs
  exact False.elim q
 |cont=>
  obtain ⟨_,_,_,q⟩:=hs
  exact False.elim q
structure CaM (P:Program) (w:World) (K:Frag) (mg:Str→Option Value) (base:Heap) (x:Str) (k:Nat) (F:List D→HD→Out D):Prop where
 ex:∃(f:Addr) (fd:FuncData) (ps:List Str),Qp P w K mg base k f fd ps F∧Binds K fd ps []∧mg x=some (.ref f)∧PySem.W.keepIn K (.ref f)=true∧Ar ps.length F
section
variable {X:Cx} {E:XK}
theorem Xb {k k':Nat} {F:List D→HD→Out D} {fa:MA} {x:Str} {p pos:Pos} {e:Expr} {es:List Expr} (C:CaM X.prog X.w X.K X.mg X.base x k F) (hr:RoomM k' X.A) (ha:Cn X E0 (e::es) fa) (hk:k≤k':=by decide) (hg:Gl X x:=by rfl)
 (hdb:(x==("__debug__":Str))=false:=by decide) (he:starEach (e::es) X.env=(false,eval e X.env)::starEach es X.env:=by rfl) (hpl:(backTo pos (starEach es X.env)).any (·.1)=false:=by rfl):
 Ev X E0 (.Call (.Name x p) (e::es) [] pos) (Ah F fa):=by
 obtain ⟨f,fd,ps,G,hb,hm,hkp,ar⟩:=C.ex
 rintro pins s σ H Q I ⟨m,ρ,hd,hr1,er,pp⟩
 refine wpAny_Call_Name_kw (FI I hg hm ?_ hdb)
 have post:OK X.K E0 fa σ H (fun vs H1=>JT X.K F vs H1 Q E0):=⟨m,ρ,hd,hr1,er,Post.bind pp fun xs h1 vs m1 H1 e1 p1 k1 hr1 r1 q1=>⟨m1,xs,h1,hr1,r1,q1⟩⟩
 refine PySem.W.callWith_K (h₀:=X.base) I.ok.mod.kin hkp (Av (ha pos pins s σ H _ I post) ?_) he hpl
 rintro us s1 ⟨vs,H1,I1,r,q⟩
 refine ⟨I1.kIn,?_⟩
 have hl:us.length=ps.length:=by rw [←r.length];exact ar.len q
 have hb':=hb s1 us I1.kIn (by rw [GO];exact hl)
 rw [GO] at hb'
 refine wpAny_call (codeAny_mono (G.run X.A X.stack s1 H1 ⟨us,[]⟩ us vs Q (hr.mono hk) I1.env0 hb' r q) fun r s' hq=>?_)
 cases r with
 |error e=>exact False.elim hq
 |ok fl=>
  cases fl with
  |ret u=>exact I1.after hq
  |next=>exact False.elim hq
  |brk=>exact False.elim hq
  |cont=>exact False.elim hq
end
theorem Qq {P:Program} {w:World} {fs:List Addr} {H H':Hp} {h0 h h':Heap} {a T:Addr} {C a0:Value} (B:Un fs [] H H' h0 h) (hok:HOk P w H' h) (na:h0.get? a=none) (nT:h0.get? T=none) (ha:H' a=none) (hT:H' T=none)
 (frNone:∀b∈fs,H' b=none) (noFields:∀b∈fs,∃o,h.get? b=some o∧∀vs,o.data≠.fields vs) (stay:(blank (fun b=>b=a∨b=T∨b∈fs) h).StaysIn h') (ups:∀b o,h.get? b=some o→(∀vs,o.data≠.fields vs)→∃sl,h'.get? b=some {o with slots:=sl})
 (tr:h'.TracedW (blank (fun b=>b=a∨b=T∨b∈fs) h) a C a0) {da:Option Addr} {oa:Obj} (ea:h.get? a=some oa) (ed:oa.dict=da) (dd:Dicts h h'):Un fs [] H H' h0 h'∧HOk P w H' h'∧Kg h0 h' H' a C da:=by
 obtain ⟨oe,vs,T2,oT,ts,e1,e2,e3,e4,e5,e6,e7,e8,e9⟩:=tr
 have e11:oe.dict=da:=by
  obtain ⟨o',q1,q2⟩:=dd a oa ea
  rw [e1] at q1
  cases q1
  exact q2.trans ed
 have keepOf:∀b o,¬(b=a∨b=T∨b∈fs)→h.get? b=some o→h'.get? b=some o:=fun b o hb e=>stay b o (by rw [FY hb];exact e)
 have old:∀b o,h0.get? b=some o→b≠a∧b≠T:=fun b o e=>⟨fun z=>(by rw [z,na] at e;cases e),fun z=>(by rw [z,nT] at e;cases e)⟩
 have any:∀b o,h0.get? b=some o→h.get? b≠none→∃o',h'.get? b=some o':=fun b o e hn=>by
  cases e':h.get? b with
  |none=>exact absurd e' hn
  |some o'=>
   by_cases hb:b∈fs
   ·obtain ⟨o2,h2,d2⟩:=noFields b hb
    obtain ⟨sl,h3⟩:=ups b o2 h2 d2
    exact ⟨_,h3⟩
   ·exact ⟨o',keepOf b o' (fun z=>by rcases z with z |z |z;exact (old b o e).1 z;exact (old b o e).2 z;exact hb z) e'⟩
 refine ⟨⟨fun b o e n hb hx=>?_,fun b o e n hb hx=>?_,B.free,fun b o e hx=>?_,B.tups,B.frzs,B.tbls⟩,fun b o e=>?_,na,ha,oe,vs,a0,T2,oT,ts,e1,e2,e3,e4,?_,?_,e6,e7,e8,e9,e11⟩
 ·exact keepOf b o (fun z=>by rcases z with z |z |z;exact (old b o e).1 z;exact (old b o e).2 z;exact hb z) (B.keep b o e n hb hx)
 ·obtain ⟨sl,h1⟩:=B.slot b o e n hb hx
  obtain ⟨o2,h2,d2⟩:=noFields b hb
  rw [h1] at h2
  cases h2
  obtain ⟨sl2,h3⟩:=ups b _ h1 d2
  exact ⟨sl2,h3⟩
 ·obtain ⟨o',h1⟩:=B.there b o e hx
  exact any b o e (by rw [h1];simp)
 ·refine (hok b o e).stay (fun c u hc q=>keepOf c u (fun z=>?_) q) (fun _ q=>q) fun _ _ q=>q
  have hc':H' c≠none:=by
   rcases hc with rfl |hc
   ·rw [e];simp
   ·rw [hc];simp
  rcases z with z |z |z
  ·exact hc' (z ▸ ha)
  ·exact hc' (z ▸ hT)
  ·exact hc' (frNone c z)
 ·cases q:h0.get? T2 with
  |none=>rfl
  |some o=>
   exfalso
   obtain ⟨o',h1⟩:=B.there T2 o q (by simp)
   by_cases hb:T2∈fs
   ·obtain ⟨o2,h2,d2⟩:=noFields T2 hb
    obtain ⟨sl,h3⟩:=ups T2 o2 h2 d2
    rw [h3] at e7
    cases e7
    exact d2 _ e8
   ·rw [FY (fun z=>by rcases z with z |z |z;exact (old T2 o q).1 z;exact (old T2 o q).2 z;exact hb z),h1] at e5
    cases e5
 ·cases q:H' T2 with
  |none=>rfl
  |some o=>
   exfalso
   by_cases hb:T2=a∨T2=T∨T2∈fs
   ·rcases hb with z |z |z
    ·rw [z,ha] at q;cases q
    ·rw [z,hT] at q;cases q
    ·rw [frNone T2 z] at q;cases q
   ·rw [FY hb] at e5
    obtain ⟨ob,eb⟩:=Mw (hok T2 o q)
    rw [eb] at e5
    cases e5
theorem Xd {M:Model} {A:Around} {E:Value→Shared→Prop} {s:Shared} {base:Heap} {env:Env} {outer:List Env} {L e:Addr} {C a0:Value} {Q:Unit→Shared→Prop} (fr:A.frames=some (env::outer)) (lo:env.frame=some L) (fl:Heap.FlyingW base (env::outer) e C a0 s.heap)
 (q:∀h',Heap.HeldW base (env::outer) e C a0 L h'→s.heap.UpToSlots h'→Dicts s.heap h'→Q () {s with heap:=h'}):wpAny M A (noteFrame (.ref e) env) Q E s:=by
 refine wpAny_mono (IJ PL (wpAny_looks_onW (M:=M) (A:=A) (E:=fun _ _=>False) (Q:=fun _ s'=>∃h',s'={s with heap:=h'}∧Heap.HeldW base (env::outer) e C a0 L h'∧s.heap.UpToSlots h') fr lo fl fun h' z1 z2=>⟨h',rfl,z1,z2⟩)) (fun _ s' z=>?_) fun _ _ z=>z.1.elim
 obtain ⟨⟨h',rfl,z1,z2⟩,D⟩:=z
 exact q h' z1 z2 D
theorem Xe {M:Model} {A:Around} {E:Value→Shared→Prop} {s:Shared} {base:Heap} {l:List Env} {e L:Addr} {C a0:Value} {Q:Unit→Shared→Prop} (held:Heap.HeldW base l e C a0 L s.heap)
 (q:∀h',Heap.FlyingW base l e C a0 h'→s.heap.UpToSlots h'→Dicts s.heap h'→Q () {s with heap:=h'}):wpAny M A (setFlight (.ref e) none) Q E s:=by
 refine wpAny_mono (IJ Mu (wpAny_landsW (M:=M) (A:=A) (E:=fun _ _=>False) (Q:=fun _ s'=>∃h',s'={s with heap:=h'}∧Heap.FlyingW base l e C a0 h'∧s.heap.UpToSlots h') held fun h' z1 z2=>⟨h',rfl,z1,z2⟩)) (fun _ s' z=>?_) fun _ _ z=>z.1.elim
 obtain ⟨⟨h',rfl,z1,z2⟩,D⟩:=z
 exact q h' z1 z2 D
theorem Xf {M:Model} {A:Around} {E:Value→Shared→Prop} {s:Shared} {base:Heap} {l:List Env} {e:Addr} {C a0:Value} {Q:Unit→Shared→Prop} (held:Heap.FlyingW base l e C a0 s.heap)
 (q:∀h',Heap.FlyingW base l e C a0 h'→s.heap.UpToSlots h'→Dicts s.heap h'→Q () {s with heap:=h'}):wpAny M A (setFlight (.ref e) none) Q E s:=by
 refine wpAny_mono (IJ Mu (lands_againW (M:=M) (A:=A) (E:=fun _ _=>False) (Q:=fun _ s'=>∃h',s'={s with heap:=h'}∧Heap.FlyingW base l e C a0 h'∧s.heap.UpToSlots h') held fun h' z1 z2=>⟨h',rfl,z1,z2⟩)) (fun _ s' z=>?_) fun _ _ z=>z.1.elim
 obtain ⟨⟨h',rfl,z1,z2⟩,D⟩:=z
 exact q h' z1 z2 D
section
variable {X:Cx} {pins:List (Addr×Obj)} {σ:L2.St} {H:Hp} {s:Shared}
theorem Inv.track {a:Addr} {o:HO} (I:Inv X pins σ H s) (new:X.s₀.heap.get? a=none) (no:H a=none) (hL:a≠X.env.locals) (hc:∀x c,X.env.cells.lookup x=some c→c≠a) (hp:∀p∈X.pn++pins,p.1≠a) (ok:ObjOk X.prog X.w (Am H a o) s.heap a o):
 Inv X pins σ (Am H a o) s:=by
 have ne:∀b u,H b=some u→b≠a:=fun b u e=>Bg e no
 refine ⟨I.ok,I.os,I.bare,⟨I.base.keep,I.base.slot,fun b ob e n hx=>?_,I.base.there,fun b xs e=>?_,fun b ob u e=>?_,fun b ps e=>?_⟩,I.loc,I.cell,?_,fun x c e=>?_,fun p hp'=>?_,fun b u e=>?_,I.len⟩
 ·rw [An (fun z=>by rw [z,new] at e;cases e)];exact I.base.free b ob e n hx
 ·have:=I.base.tups b xs e
  rw [An (ne _ _ this)];exact this
 ·have:=I.base.frzs b ob u e
  rw [An (ne _ _ this)];exact this
 ·obtain ⟨more,this⟩:=I.base.tbls b ps e
  exact ⟨more,by rw [An (ne _ _ this)];exact this⟩
 ·rw [An (Ne.symm hL)];exact I.free
 ·rw [An (hc x c e)];exact I.freeC x c e
 ·obtain ⟨a1,a2,a3⟩:=I.pin p hp'
  exact ⟨a1,by rw [An (hp p hp')];exact a2,a3⟩
 ·by_cases hb:b=a
  ·subst hb
   rw [Bx] at e
   cases e
   exact ok
  ·rw [An hb] at e
   exact (I.hok b u e).stay (fun _ _ _ q=>q) (fun c q=>by rw [An (ne _ _ q)];exact q) fun c xs q=>by rw [An (ne _ _ q)];exact q
theorem Inv.locals {σ':L2.St} {h':Heap} {m':Str→Option Value} {t':Nat} (I:Inv X pins σ H s) (hn':h'.Ns X.env.locals m') (hs:Heap.SameBut X.env.locals s.heap h')
 (hl:∀(i:Nat) (x:Str) (v:V),X.N[i]?=some x→σ'[i]?=some (some v)→Jw X.env.scope x→∃u,RelV v u∧Ob X.env h' m' x u) (len:σ'.length=σ.length):Inv X pins σ' H {s with heap:=h',toks:=t'}:=by
 obtain ⟨m,hn,_⟩:=id I.loc
 obtain ⟨oL,_,_,hoL,_⟩:=id hn
 have neL:∀b o,X.s₀.heap.get? b=some o→b≠X.env.locals:=fun b o e=>BD (AL (AB e) I.ok.above)
 refine ⟨I.ok,I.os,I.bare,⟨fun b o e n hb hx=>?_,fun b o e n hb hx=>?_,I.base.free,fun b o e hx=>?_,I.base.tups,I.base.frzs,I.base.tbls⟩,⟨_,hn',hl⟩,fun y c e=>?_,I.free,I.freeC,fun p hp=>?_,fun b ob e=>?_,len.trans I.len⟩
 ·exact (hs.2 b (neL b o e)).trans (I.base.keep b o e n hb hx)
 ·obtain ⟨sl,e1⟩:=I.base.slot b o e n hb hx
  exact ⟨sl,(hs.2 b (neL b o e)).trans e1⟩
 ·obtain ⟨o',e1⟩:=I.base.there b o e hx
  exact ⟨o',(hs.2 b (neL b o e)).trans e1⟩
 ·obtain ⟨v,z⟩:=I.cell y c e
  exact ⟨v,z.sameBut hs (I.cne y c e)⟩
 ·obtain ⟨a1,a2,a3,a4⟩:=I.pin p hp
  exact ⟨(hs.2 _ a3).trans a1,a2,a3,a4⟩
 ·refine (I.hok b ob e).stay (fun c w' hc q=>(hs.2 c ?_).trans q) (fun _ q=>q) fun _ _ q=>q
  rintro rfl
  have hfree:=I.free
  rcases hc with rfl |hc
  ·rw [hfree] at e;cases e
  ·rw [hfree] at hc;cases hc
theorem Xg {M:Model} {A:Around} {E:Value→Shared→Prop} {n:Str} {pos:Pos} {i:Nat} {Q:Unit→Shared→Prop} (I:Inv X pins σ H s) (hN:X.N.Nodup) (hi:X.N[i]?=some n) (hl:X.env.kindOf n=some .local)
 (h:∀s',Inv X pins (σ.set i none) H s'→Q () s'):wpAny M A (do bindName X.env n .none;unbindBehindTheSuite X.env n pos) Q E s:=by
 have hp:(X.env.scope.kind==.class||(X.env.scope.kind==.module&&X.env.locals != X.env.globals))=false:=by rw [I.ok.kind];rfl
 refine wpAny_bind (wpAny_bindName (Jx (v:=.non) I hN hi (.inl hl) rfl (fun s1 I1 _=>?_) (.inr hl)))
 unfold unbindBehindTheSuite
 refine wpAny_onRaise ?_
 unfold unbindName
 refine wpAny_bind (wpAny_point (wpAny_bind ?_))
 unfold deleteName
 simp only [hl,hp]
 rw [if_neg (by decide)]
 obtain ⟨m1,hn1,hl1⟩:=I1.loc
 have hin:(m1 n).isSome=true:=by
  have hiσ:i < σ.length:=by rw [I.len];exact (qa2.mp hi).1
  obtain ⟨u,_,lk⟩:=hl1 i n .non hi (by rw [BR hiσ]) (.inl hl)
  rcases lk with ⟨_,z⟩ |⟨z,_⟩
  ·rw [z];rfl
  ·rcases z with z |z<;>(rw [hl] at z;cases z)
 refine wpAny_bind (wpAny_nsDel_keeps hn1 fun h2 v hn2 hs2=>?_)
 simp only [hin,if_true,Bool.not_true,CD,if_false]
 refine wpAny_pure (wpAny_point (h _ (Inv.locals (t':=s1.toks) (I1.weak (σ':=σ.set i none) (by simp) fun j v' e=>?_) hn2 hs2 (fun j x v' e1 e2 e3=>?_) rfl)))
 ·by_cases hj:i=j
  ·subst hj
   have hiσ:i < σ.length:=by rw [I.len];exact (qa2.mp hi).1
   rw [BR hiσ] at e;cases e
  ·rw [Bi hj] at e ⊢;exact e
 ·have hj:i≠j:=by
   rintro rfl
   have hiσ:i < σ.length:=by rw [I.len];exact (qa2.mp hi).1
   rw [BR hiσ] at e2;cases e2
  rw [Bi hj] at e2
  obtain ⟨u,r,lk⟩:=hl1 j x v' e1 (by rw [Bi hj];exact e2) e3
  have hx:x≠n:=fun z=>hj (Lq hN hi (z ▸ e1))
  refine ⟨u,r,?_⟩
  rcases lk with ⟨k1,k2⟩ |⟨k1,c,k2,k3⟩
  ·exact .inl ⟨k1,(if_neg hx).trans k2⟩
  ·exact .inr ⟨k1,c,k2,k3.sameBut hs2 (I1.cne x c k2)⟩
end
def EZ:List (Str×D)→Option (List (Str×Int))
 |[]=>some []
 |(f,.int i)::r=>(EZ r).map fun l=>(f,i)::l
 |_=>none
theorem Qr:∀{fs:List (Str×D)} {is:List (Str×Int)} {f:Str} {i:Int},EZ fs=some is→is.lookup f=some i→fs.lookup f=some (.int i)
 |[],is,f,i,e,l=>by cases e;cases l
 |(g,d)::r,is,f,i,e,l=>by
  cases d with
  |int j=>
   simp only [EZ] at e
   cases er:EZ r with
   |none=>rw [er] at e;cases e
   |some l2=>
    rw [er] at e
    cases e
    rw [FE] at l ⊢
    cases hb:f==g with
    |true=>rw [hb] at l;cases l;rfl
    |false=>rw [hb] at l;exact Qr er l
  |_=>cases e
open Classical in
noncomputable def Kw (a:Addr) (vs:List V) (Fk:List D→HD→Out D) (f:ME):MS:=fun ρ h=>match (ρ[0]?:Option (Option D)),(h[0]?:Option Cell) with
 |some (some (.clo a' vs' ds)),some .tab=>if a'=a∧vs'=vs then (match f (ds.map some) h with
  |.ok _ h1=>.ok (.nx,ρ) h1
  |.err (.str n _) fs h1=>if n∈excNames then (match EZ fs with
   |some is=>(match Fk [.exc n is] h1 with
    |.ok d h2=>.ok (.nx,(ρ.set 1 (some d)).set 2 none) h2
    |_=>.stuck)
   |none=>.stuck) else .stuck
  |_=>.stuck) else .stuck
 |_,_=>.stuck
structure SaidX (X:Cx) (P a c':Addr) (lpos:Pos) (Nc:List Str) (params:Arguments) (body:Expr) (scope:Scope) (cl:List (Str×Addr)) (pm ctv:Value) (vs:List V):Prop where
 N:X.N=(["_law_call","_law_word","_law_e"]:List Str)
 k0:X.env.kindOf "_law_call"=some .local
 k1:X.env.kindOf "_law_word"=some .local
 k2:X.env.kindOf "_law_e"=some .local
 tp:∃c,tabP X.K=some (c,P)
 tb:∃ps,X.H₀ P=some (.tbl ps)∧TriplesOk ps.toList∧codeAmong lpos ps.toList=some (.ref c')
 ob:X.s₀.heap.get? a=some (kla_obj "<lambda>" Bu params body scope cl pm c' ctv)
 no:X.H₀ a=none
 nf:a∉X.fs
 clo:IY X.s₀.heap X.H₀ X.outer Nc scope cl vs
section
variable {X:Cx} {E:XK} {P a c':Addr} {lpos:Pos} {Nc:List Str} {params:Arguments} {body:Expr} {scope:Scope} {cl:List (Str×Addr)} {pm ctv:Value} {vs:List V}
theorem Xh {M:Model} {A:Around} {E:Value→Shared→Prop} {s:Shared} {a:Addr} {o:Obj} {fd:FuncData} {Q:Value→Shared→Prop} {env:Env} {pos:Pos} (h0:s.heap.get? a=some o) (hd:o.data=.func fd) (h:wpAny M A (call (.ref a) []) Q E s):
 wpAny M A (callWith pos (.ref a) [] (backTo pos (starEach [] env)) []) Q E s:=
 callWith_of (P:=fun h=>h.get? a=some o) rfl (fun h e=>⟨.frame,.inl rfl,(Looks.ld (part:=none) e).andThen (by rw [hd];exact .now)⟩) (evalArgs_nil3 ⟨h0,h⟩)
theorem SaidX.cloNow (S:SaidX X P a c' lpos Nc params body scope cl pm ctv vs) (lv:Lv X E) {pins:List (Addr×Obj)} {σ:L2.St} {H:Hp} {s:Shared} (I:Inv X pins σ H s):IY s.heap H X.stack Nc scope cl vs∧s.heap.get? a=some (kla_obj "<lambda>" Bu params body scope cl pm c' ctv):=by
 have B:Un X.fs [] X.H₀ H X.s₀.heap s.heap:=by have:=I.base;rw [lv.ex] at this;exact this
 have keep:∀c v,X.s₀.heap.IsCell c v→X.H₀ c=none→c∉X.fs→s.heap.IsCell c v:=fun c v z1_ n f=>by obtain ⟨o,e,d⟩:=z1_;exact (⟨o,B.keep c o e n f (by simp),d⟩)
 refine ⟨⟨S.clo.len,S.clo.inj,S.clo.has,fun x c e=>?_,fun i x v e1 e2=>?_⟩,B.keep a _ S.ob S.no S.nf (by simp)⟩
 ·obtain ⟨⟨v,q⟩,n,f⟩:=S.clo.cell x c e
  obtain ⟨o,e1,d⟩:=id q
  refine ⟨⟨v,keep c v q n f⟩,B.free c o e1 n (by simp),fun z=>?_⟩
  rw [lv.frs] at z
  rcases qa5.mp z with z |z
  ·exact absurd (AL (AB e1) I.ok.above) (by rw [z];exact CI _)
  ·exact f z
 ·obtain ⟨hf,c,u,e3,e4,r⟩:=S.clo.val i x v e1 e2
  obtain ⟨_,n,f⟩:=S.clo.cell x c e3
  exact ⟨hf,c,u,e3,keep c _ e4 n f,r⟩
def Fw (X:Cx) (e:Addr):Cx:={X with A:=X.A.mark (some (.ref e)),calm:=false,xe:=fun _ _=>False}
theorem Inv.marked {pins:List (Addr×Obj)} {σ:L2.St} {H:Hp} {s:Shared} {e:Addr} (I:Inv X pins σ H s):Inv (Fw X e) pins σ H s:=
 ⟨⟨I.ok.mod,I.ok.kind,I.ok.glob,I.ok.blt,I.ok.above,I.ok.inj,I.ok.has,I.ok.cab,fun z=>(nomatch z),I.ok.frames,I.ok.stk,I.ok.exf,I.ok.bs,I.ok.bsz,I.ok.noex,I.ok.exfs,I.ok.funs,I.ok.frf⟩,I.os,I.bare,I.base,I.loc,I.cell,I.free,I.freeC,I.pin,I.hok,I.len⟩
theorem Inv.unmarked {pins:List (Addr×Obj)} {σ:L2.St} {H:Hp} {s:Shared} {e:Addr} (ok:X.Ok) (I:Inv (Fw X e) pins σ H s):Inv X pins σ H s:=
 ⟨ok,I.os,I.bare,I.base,I.loc,I.cell,I.free,I.freeC,I.pin,I.hok,I.len⟩
theorem Xi {k:Nat} {Fk:List D→HD→Out D} {f:ME} {p4 p5 p6 p7 p8 p9 p10 p11 p12 p13 p14:Pos} (lv:Lv X E) (S:SaidX X P a c' lpos Nc params body scope cl pm ctv vs) (hr:Room (k+1) X.A) (et:etOk X.K=true) (hsw:∃Sw,nsIn X.K mainGlobals "SwitchError"=some (some (.ref Sw)))
 (hgS:X.env.kindOf "SwitchError"=some .globalImplicit) (hgK:X.env.kindOf "_law_kind"=some .globalImplicit)
 (hkind:CaM X.prog X.w X.K X.mg X.base "_law_kind" k Fk) (hL:LamSc scope) (hbind:bindArgs (kla_fn "<lambda>" Bu params body scope cl pm (.ref c') ctv) ⟨[],[]⟩=pure [])
 (hb:∀(s:Shared) (H:Hp) (E':XK),Room k (X.A.deeper (envX Bu scope s.heap.objs.size a (.ref c') cl))→Ev (EY X.prog X.w X.K X.mg X.base Nc scope a (.ref c') cl X.A X.stack s H E') E' body f):
 Ex X E (.Try [.Expr (.Call (.Name "_law_call" p4) [] [] p5) p6] [.ExceptHandler (some (.Name "SwitchError" p7)) (some "_law_e") [.Assign [.Name "_law_word" p8] (.Call (.Name "_law_kind" p9) [.Name "_law_e" p10] [] p11) p12] p13] [] [] p14) (Kw a vs Fk f):=by
 rintro pins s σ H Dn I ⟨m,ρ,h,hr1,er,p⟩
 refine Classical.byContradiction fun nG=>?_
 have hN0:X.N[0]?=some ("_law_call":Str):=by rw [S.N];rfl
 have hN1:X.N[1]?=some ("_law_word":Str):=by rw [S.N];rfl
 have hN2:X.N[2]?=some ("_law_e":Str):=by rw [S.N];rfl
 have nd:X.N.Nodup:=by rw [S.N];decide +kernel
 obtain ⟨Sw,hSw⟩:=hsw
 unfold Kw at p
 split at p
 ·rename_i a' vs' ds e0 et0
  split at p
  ·rename_i hav
   obtain ⟨rfl,rfl⟩:=hav
   obtain ⟨C,ob⟩:=S.cloNow lv I
   obtain ⟨v0,hv0,rv0⟩:=er.2 0 _ e0
   simp only [DV] at rv0
   obtain ⟨rfl,rds⟩:=rv0
   obtain ⟨aP,haP,tab⟩:=hr1.at et0
   obtain ⟨⟨cc,htp⟩,ps2,hps2,htr2,hcs2⟩:=tab
   obtain ⟨cc',htp'⟩:=S.tp
   rw [htp'] at htp
   cases htp
   obtain ⟨ps,hps,htr,hca⟩:=S.tb
   obtain ⟨more,hmore⟩:=I.base.tbls P ps hps
   have hca2:codeAmong lpos ps2.toList=some (.ref c'):=by
    have e:=hmore.symm.trans hps2
    cases e
    rw [Array.toList_append]
    exact W3 htr hca
   obtain ⟨c2,e2,hx2⟩:=hcs2 lpos _ hca2
   cases e2
   have hcd:s.heap.CodeRec (.ref c') Bu:=(I.hok c' _ hx2).1
   have run:∀(Q:VK) (E':XK),Post X.K (rD X.K) m H E' Q (f (ds.map some) h)→codeAny (model X.prog X.w) X.A (.call (.ref a') ⟨[],[]⟩) (CR (Az X.prog X.w X.K) X.stack X.prog X.w H s Q E') s:=fun Q E' q=>
    W8 hL hr I.env0 C ob hcd hbind (hb s H E') ⟨m,ds,h,hr1,rds,q⟩
   have start:∀{Q:Flow→Shared→Prop} {EE:Value→Shared→Prop},codeAny (model X.prog X.w) X.A (.call (.ref a') ⟨[],[]⟩) (fun r s'=>match r with |.ok (.ret u)=>Q .next s' |.error e=>EE e s' |_=>False) s→
    wpAny (model X.prog X.w) X.A (execs [.Expr (.Call (.Name "_law_call" p4) [] [] p5) p6] X.env) Q EE s:=fun {Q EE} hc=>by
    refine wpAny_execs_cons (wpAny_Expr_any (wpAny_Call_Name_kw ?_) I.quiet rfl)
    obtain ⟨m0,hn0,hl0⟩:=I.loc
    obtain ⟨u,ru,lk⟩:=hl0 0 "_law_call" (.ref a') hN0 hv0 (.inl S.k0)
    cases (show u=Value.ref a' from ru)
    rcases lk with ⟨hk,hm⟩ |⟨z,_⟩
    ·refine wpAny_Name (wpAny_loadName_local I.ok.kind hk hn0 hm (Xh ob rfl (wpAny_call (codeAny_mono hc fun r s' hq=>?_)))) (by decide)
     cases r with
     |error e=>exact hq
     |ok fl=>
      cases fl with
      |ret u=>exact wpAny_execs_nil hq
      |next=>exact hq.elim
      |brk=>exact hq.elim
      |cont=>exact hq.elim
    ·rcases z with z |z<;>(rw [S.k0] at z;cases z)
   refine nG (wpAny_Try_except (start ?_))
   clear nG
   refine Classical.byContradiction fun nG=>?_
   cases ho:f (ds.map some) h with
   |stuck=>rw [ho] at p;exact p.elim
   |ok d h1=>
    rw [ho] at p
    refine nG (codeAny_mono (run (fun v H'=>∃m',m <+:m'∧Kp H H'∧HR X.K m' h1 H') E0 (by rw [ho];exact fun v m' H' p1 k1 hr' _=>⟨m',p1,k1,hr'⟩)) fun r s' hq=>?_)
    cases r with
    |error e=>
     obtain ⟨_,_,_,_,_,_,_,_,_,_,_,_,q⟩:=hq
     exact q.elim
    |ok fl=>
     cases fl with
     |ret u=>
      obtain ⟨v,H',os,bare,un,hok,_,m',p1,k1,hr'⟩:=hq
      exact wpAny_execs_nil ⟨σ,H',I.call' os un hok bare (fun b hb=>absurd hb (by simp)),p m' H' p1 k1 hr' σ (er.keep p1 k1)⟩
     |next=>exact hq.elim
     |brk=>exact hq.elim
     |cont=>exact hq.elim
   |err Cv fs h1=>
    rw [ho] at p
    cases Cv with
    |str n t=>
     simp only at p
     split at p
     ·rename_i hn
      refine nG (codeAny_mono (run (fun _ _=>False) (fun C' da H'=>C'=.str n t∧∃m',m <+:m'∧Kp H H'∧HR X.K m' h1 H'∧XD X.K m' H' fs da) (by rw [ho];exact fun da m' H' p1 k1 hr' xd=>⟨rfl,m',p1,k1,hr',xd⟩)) fun r s1 hq=>?_)
      clear nG
      cases r with
      |ok fl=>
       cases fl with
       |ret u=>obtain ⟨_,_,_,_,_,_,_,z⟩:=hq;exact z.elim
       |next=>exact hq.elim
       |brk=>exact hq.elim
       |cont=>exact hq.elim
      |error e=>
       obtain ⟨ae,Cc,n',da,H',rfl,os,bare,un,hok,fly,nm,hE,m',p1,k1,hr',xd⟩:=hq
       refine Classical.byContradiction fun nG=>?_
       have hnn:n'=n:=by cases hE;rfl
       subst hnn
       have I1:Inv X pins σ H' s1:=I.call' os un hok bare (fun b hb=>absurd hb (by simp))
       obtain ⟨fnew,fno,oe,ws,a0,T,oT,ts,e1,e2,e3,e4,e5,e6,e7,e8,e9,e10,e11⟩:=fly
       have fro:X.A.frames=some (X.env::X.outer):=by rw [←lv.stk];exact I1.ok.frames
       have stk:s1.heap.FunFrames X.base (X.env::X.outer):=by have:=I1.stack;rw [lv.stk] at this;exact this
       have frN:∀b∈frs X.stack,H' b=none:=fun b hb=>I1.stkFree b hb
       have frO:∀b∈frs X.stack,∃o,s1.heap.get? b=some o∧∀vs,o.data≠.fields vs:=fun b hb=>(I1.stack.mem hb).2
       have fly0:Heap.FlyingW (blank (fun b=>b=ae∨b=T∨b∈frs X.stack) s1.heap) (X.env::X.outer) ae (.ref Cc) a0 s1.heap:=
        ⟨Mv,FX (.inl rfl),Kh stk fun b hb=>.inr (.inr (by rw [lv.stk];exact hb)),oe,ws,T,oT,ts,e1,e2,e3,e4,FX (.inr (.inl rfl)),e7,e8,e9,e10⟩
       refine nG (Xd fro lv.fr fly0 fun h4 held4 sm4 D4=>?_)
       clear nG
       refine Xe held4 fun h5 held5 sm5 D5=>?_
       refine Classical.byContradiction fun nG=>?_
       obtain ⟨un5,hok5,fly5⟩:=Qq un hok fnew e5 fno e6 frN frO held5.1 (sm4.trans sm5) held5.2.2.2 e1 e11 (D4.trans D5)
       have I5:Inv X pins σ H' {s1 with heap:=h5}:=I.call' (s':={s1 with heap:=h5}) os un5 hok5 bare (fun b hb=>absurd hb (by simp))
       have hmS:X.mg "SwitchError"=some (.ref Sw):=mg_of I.mod.kin I.mod.glob hSw
       have T5:=Ku et hn nm
       obtain ⟨_,_,oe5,ws5,_,_,_,_,f1,f2,f3,_⟩:=id fly5
       refine nG (wpAny_handleBy_cons (codeAny_handlers_test ?_) (by intro q;cases q))
       clear nG
       refine Calls.Name_function_global I5.ok.kind hgS (Calls.loadGlobal_global (by rw [I5.ok.glob];exact I5.mod.glob.keeps I5.bk) hmS ?_) (by decide)
       refine (exm_one (M:=model X.prog X.w) I5.kIn (TyAt.type ⟨oe5,f1,f2.1⟩) (T5.sw Sw hSw)).here ?_
       simp only [if_true]
       refine codeAny_handlers_suite_as (Xf held5 fun h6 held6 sm6 D6=>?_)
       obtain ⟨un6,hok6,fly6⟩:=Qq un hok fnew e5 fno e6 frN frO held6.1 ((sm4.trans sm5).trans sm6) held6.2.2.2 e1 e11 ((D4.trans D5).trans D6)
       have I6:Inv X pins σ H' {s1 with heap:=h6}:=I.call' (s':={s1 with heap:=h6}) os un6 hok6 bare (fun b hb=>absurd hb (by simp))
       obtain ⟨_,_,oe6,ws6,_,_,_,_,g1,g2,g3,_,_,_,_,_,_,_,g11⟩:=id fly6
       have older:∀b,s.heap.get? b=none→X.s₀.heap.get? b=none:=lv.older I
       have xok:ObjOk X.prog X.w (Am H' ae (.ext (Fe Cc da ae))) h6 ae (.ext (Fe Cc da ae)):=
        ⟨⟨oe6,ws6,g1,g2.1,fun d z=>g11.trans z,g3⟩,⟨oe6,g1⟩,fun ha hb' z2_ k'=>by obtain ⟨o,w',z1,z2,z3,z4⟩:=z2_;exact (⟨o,w',k' o z1,z2,z3,z4⟩)⟩
       have neL:ae≠X.env.locals:=fun z=>by
        obtain ⟨mL,⟨oL,_,_,hoL,_⟩,_⟩:=I.loc
        rw [←z,fnew] at hoL;cases hoL
       have neC:∀x c,X.env.cells.lookup x=some c→c≠ae:=fun x c ex z=>by
        obtain ⟨v,o,hoc,_⟩:=I.cell x c ex
        rw [z,fnew] at hoc;cases hoc
       have neP:∀q∈X.pn++pins,q.1≠ae:=fun q hq z=>by
        have:=(I.pin q hq).1
        rw [z,fnew] at this;cases this
       have I6':=LS.Inv.track I6 (older ae fnew) fno neL neC neP xok
       have kx:Kp H' (Am H' ae (.ext (Fe Cc da ae))):=.new fno
       refine Jx (v:=.ref ae) I6' nd hN2 (.inl S.k2) rfl (fun s7 I7 _=>?_) (.inr S.k2)
       split at p
       rename_i is his
       split at p
       ·rename_i d h2 hk2
        have hr7:HR X.K m' h1 (Am H' ae (.ext (Fe Cc da ae))):=hr'.new fno
        have er7:ER X.K m' (Am H' ae (.ext (Fe Cc da ae))) (ρ.set 2 (some (.exc n' is))) (σ.set 2 (some (.ref ae))):=
         ((er.keep p1 k1).keep (Ay _) kx).set (by simp only [DV];exact ⟨ae,Cc,da,rfl,nm,Bx,fun f i z=>by
           obtain ⟨b,fv,v,q1,q2,q3,q4⟩:=xd f _ (Qr his z)
           simp only [DV] at q4
           exact ⟨b,fv,q1,by rw [An (Bg q2 fno)];exact q2,by rw [q3,q4]⟩⟩)
        have hρ:2 < ρ.length:=by rw [er.1,I.len,S.N];decide
        have sx:AY (Fw X ae) E0 [.Assign [.Name "_law_word" p8] (.Call (.Name "_law_kind" p9) [.Name "_law_e" p10] [] p11) p12] (Au 1 (Ah Fk (Aa (Ab 2) Ae))):=
         AF (AU (X:=Fw X ae) (i:=1) nd hN1 (Or.inl S.k1) (Xb (X:=Fw X ae) hkind (RoomM.of hr _) (Ad (Ac (X:=Fw X ae) (Ls (X:=Fw X ae) hN2 (.inl S.k2))) Ag) (GU _) hgK) (hf:=.inr S.k1))
        have post:G2 (Fw X ae).K E0 (Au 1 (Ah Fk (Aa (Ab 2) Ae))) {nx:=fun σ' H''=>Dn.nx (σ'.set 2 none) H'',rt:=fun _ _=>False} (σ.set 2 (some (.ref ae))) (Am H' ae (.ext (Fe Cc da ae))):=by
         refine ⟨m',ρ.set 2 (some (.exc n' is)),h1,hr7,er7,?_⟩
         have ev:Au 1 (Ah Fk (Aa (Ab 2) Ae)) (ρ.set 2 (some (.exc n' is))) h1=.ok (.nx,(ρ.set 2 (some (.exc n' is))).set 1 (some d)) h2:=by
          unfold Au Ah Aa Ae Ab
          rw [BR hρ]
          simp only [Out.bind_ok]
          rw [hk2]
          rfl
         rw [ev]
         intro m2 H2 p2 k2 hr2 σ' er2
         refine p m2 H2 (p1.trans p2) ((k1.trans kx).trans k2) hr2 _ ⟨by simp [er2.1.symm],fun i di e=>?_⟩
         by_cases hi:2=i
         ·subst hi
          rw [BR (by simpa using hρ)] at e
          cases e
         ·rw [Bi hi] at e
          obtain ⟨v,z1,z2⟩:=er2.2 i di (by
           by_cases h1i:1=i
           ·subst h1i
            rw [BR (by omega)] at e
            rw [BR (by simp;omega)];exact e
           ·rw [Bi h1i] at e
            rw [Bi h1i,Bi hi];exact e)
          exact ⟨v,by rw [Bi hi];exact z1,z2⟩
        refine wpAny_mono (sx pins s7 _ _ _ (Inv.marked I7) post) (fun fl s8 h8=>?_) fun _ _ z=>False.elim z
        cases fl with
        |next=>
         obtain ⟨σ',H'',I8,q8⟩:=h8
         exact Xg (Inv.unmarked I.ok I8) nd hN2 S.k2 fun s9 I9=>⟨_,H'',I9,q8⟩
        |ret u=>obtain ⟨_,_,_,_,_,z⟩:=h8;exact False.elim z
        |brk=>obtain ⟨_,_,_,z⟩:=h8;exact False.elim z
        |cont=>obtain ⟨_,_,_,z⟩:=h8;exact False.elim z
       ·exact p.elim
       ·exact p.elim
     ·exact p.elim
    |_=>exact p.elim
  ·exact p.elim
 ·exact p.elim
end
noncomputable def MZ (Fk:List D→HD→Out D):Out D→Out D
 |.ok _ h1=>.ok (.str "told") h1
 |.err (.str n _) fs h1=>if n∈excNames then (match EZ fs with
  |some is=>(match Fk [.exc n is] h1 with
   |.ok d h2=>.ok d h2
   |_=>.stuck)
  |none=>.stuck) else .stuck
 |_=>.stuck
noncomputable def Fx (cs:List Nat) (Fk:List D→HD→Out D) (f:ME):ME:=fun ρ h=>match (h[0]?:Option Cell),AS (cs.map fun j=>(ρ[j]?).join) with
 |some .tab,some ds=>MZ Fk (f (ds.map some) h)
 |_,_=>.stuck
structure LSc (X:Cx) (scope:Scope) (Nc:List Str) (cs:List Nat):Prop where
 lam:LamSc scope
 nd:(scope.names.map (·.1)).Nodup
 free:(scope.names.all fun y=>y.2 != .free||(X.env.kindOf y.1==some .cell||X.env.kindOf y.1==some .free))=true
 len:cs.length=Nc.length
 out:((Nc.zip cs).all fun p=>X.N[p.2]?==some p.1&&scope.names.lookup p.1==some .free)=true
theorem LSc.at_ {X:Cx} {scope:Scope} {Nc:List Str} {cs:List Nat} (S:LSc X scope Nc cs) {i j:Nat} {x:Str} (h1:Nc[i]?=some x) (h2:cs[i]?=some j):X.N[j]?=some x∧scope.names.lookup x=some .free:=by
 have hz:(Nc.zip cs)[i]?=some (x,j):=by
  rw [List.getElem?_zip_eq_some]
  exact ⟨h1,h2⟩
 have:=qaO.mp S.out (x,j) (E5 hz)
 simpa using this
theorem LSc.fr {X:Cx} {scope:Scope} {Nc:List Str} {cs:List Nat} (S:LSc X scope Nc cs):∀y∈scope.names,y.2=.free→X.env.kindOf y.1=some .cell∨X.env.kindOf y.1=some .free:=fun y hy e=>by
 have:=qaO.mp S.free y hy
 rw [e] at this
 simpa using this
theorem Qs {K:Frag} {m:List Addr} {H:Hp} {ρ:Ai} {σ:L2.St} (er:ER K m H ρ σ):∀{cs:List Nat} {ds:List D},AS (cs.map fun j=>(ρ[j]?).join)=some ds→∃vs,DVs K m H ds vs∧vs.length=cs.length∧∀(i:Nat) (v:V),vs[i]?=some v→∃j,cs[i]?=some j∧σ[j]?=some (some v)
 |[],ds,e=>by
  simp [AS] at e
  subst e
  exact ⟨[],.nil,rfl,fun i v z=>by simp at z⟩
 |j::cs,ds,e=>by
  rw [Bf] at e
  cases ed:(ρ[j]?).join with
  |none=>rw [ed] at e;simp [AS] at e
  |some d=>
   rw [ed] at e
   simp only [AS,qaY] at e
   obtain ⟨ds',e1,rfl⟩:=e
   obtain ⟨vs,h1,h2,h3⟩:=Qs er e1
   obtain ⟨v,e2,r⟩:=er.2 j d (join_some.mp ed)
   refine ⟨v::vs,.cons r h1,by simp [h2],fun i v' z=>?_⟩
   cases i with
   |zero=>simp at z;subst z;exact ⟨j,rfl,e2⟩
   |succ i=>simpa using h3 i v' (by simpa using z)
section
variable {X:Cx} {E:XK} {c P:Addr} {Nc:List Str} {cs:List Nat} {params:Arguments} {body:Expr} {scope:Scope}
theorem Xj {α:Type} {l:List (Str×α)} {x:Str} {v:α} (h:(x,v)∈l):∃w,l.lookup x=some w:=by
 cases e:l.lookup x with
 |some w=>exact ⟨w,rfl⟩
 |none=>
  have:=List.lookup_eq_none_iff.mp e _ h
  simp at this
theorem Xk {k:Nat} {Fk:List D→HD→Out D} {f:ME} {fs:Addr} {fd:FuncData} {st:Stmt} {lpos p pos p1 p2 p3 p4 p5 p6 p7 p8 p9 p10 p11 p12 p13 p14 p15 p16:Pos} {j1:Nat} (L:LamX X c P) (fna:∀x,X.fn x=true) (hr:Room (k+2) X.A) (lv:Lv X E) (et:etOk X.K=true)
 (hsw:∃Sw,nsIn X.K mainGlobals "SwitchError"=some (some (.ref Sw)))
 (Fn:Fun X.K "_law_said" "_law_said" st fs fd) (hbd:Binds X.K fd ["_law_call"] []) (hm:X.mg "_law_said"=some (.ref fs)) (hkp:keepIn X.K (.ref fs)=true)
 (Sf:A4 ["_law_call","_law_word","_law_e"] ["_law_call"] (defScope st)) (hk0:(defScope st).names.lookup ("_law_call":Str)=some .local) (hk1:(defScope st).names.lookup ("_law_word":Str)=some .local) (hk2:(defScope st).names.lookup ("_law_e":Str)=some .local)
 (hgS:∀L' cd,(envOfC "_law_said" (defScope st) L' fs cd).kindOf "SwitchError"=some .globalImplicit) (hgK:∀L' cd,(envOfC "_law_said" (defScope st) L' fs cd).kindOf "_law_kind"=some .globalImplicit)
 (hst:defBody st=[.Assign [.Name "_law_word" p1] (.Constant (.str "told") j1 p2) p3,.Try [.Expr (.Call (.Name "_law_call" p4) [] [] p5) p6] [.ExceptHandler (some (.Name "SwitchError" p7)) (some "_law_e") [.Assign [.Name "_law_word" p8] (.Call (.Name "_law_kind" p9) [.Name "_law_e" p10] [] p11) p12] p13] [] [] p14,.Return (some (.Name "_law_word" p15)) p16])
 (hkind:CaM X.prog X.w X.K X.mg X.base "_law_kind" k Fk) (hg:Gl X "_law_said") (S:LSc X scope Nc cs) (hdef:defaultsOf params X.env=([],[]))
 (hbind:∀(cl:List (Str×Addr)) (pm cv ctv:Value),bindArgs (kla_fn "<lambda>" Bu params body scope cl pm cv ctv) ⟨[],[]⟩=pure [])
 (hb:∀(a:Addr) (cd:Value) (cl:List (Str×Addr)) (A:Around) (outer:List Env) (s:Shared) (H:Hp) (E':XK),Room k (A.deeper (envX Bu scope s.heap.objs.size a cd cl))→Ev (EY X.prog X.w X.K X.mg X.base Nc scope a cd cl A outer s H E') E' body f)
 (he:starEach [.Lambda params body scope lpos] X.env=(false,eval (.Lambda params body scope lpos) X.env)::starEach [] X.env:=by rfl) (hpl:(backTo pos (starEach [] X.env)).any (·.1)=false:=by rfl):
 Ev X E (.Call (.Name "_law_said" p) [.Lambda params body scope lpos] [] pos) (Fx cs Fk f):=by
 rintro pins s σ H Q I ⟨m,ρ,h,hr1,er,pp⟩
 unfold Fx at pp
 split at pp
 ·rename_i ds et0 eds
  obtain ⟨aP,haP,tab⟩:=hr1.at et0
  obtain ⟨⟨cc,htp⟩,tabr⟩:=id tab
  rw [L.tp] at htp
  cases htp
  obtain ⟨vs,dvs,vlen,vat⟩:=Qs er eds
  obtain ⟨cl,hclos,hcl,hcl2⟩:=Pa (scope:=scope) (env:=X.env) fun y hy hf=>I.ok.has y.1 (S.fr y hy hf)
  refine wpAny_Call_Name_kw (FI I hg hm ?_ (by decide))
  refine PySem.W.callWith_K (h₀:=X.base) I.ok.mod.kin hkp ?_ he hpl
  rw [he]
  show wpAny _ _ (spliced ((false,eval (.Lambda params body scope lpos) X.env)::[])) _ _ s
  refine Calls.spliced_cons (W4 L I tab hdef hclos fun a c' ctv pm h' tk H' I' kp tab' same keep hsz no ob code=>?_)
  refine wpAny_pure ⟨I'.kIn,wpAny_call ?_⟩
  generalize hs1:({s with heap:=h',toks:=tk}:Shared)=s1 at I'
  have hh1:s1.heap=h':=by rw [←hs1]
  have hrN:HR X.K m h H':=hr1.tab kp same tab' tab
  have frLt:∀b∈frs X.stack,b<s.heap.objs.size:=fun b hb=>by
   obtain ⟨_,o,ho,_⟩:=I.stack.mem hb
   exact AB ho
  have cof:∀x c,cl.lookup x=some c→X.env.cells.lookup x=some c:=fun x c e=>(hcl x c (mem_of_lookup e)).1
  have hasC:∀x,scope.names.lookup x=some .free→∃c,cl.lookup x=some c:=fun x e=>by
   obtain ⟨c,hc⟩:=hcl2 _ (mem_of_lookup e) rfl
   exact Xj hc
  have C1:IY s1.heap H' X.stack Nc scope cl vs:=by
   refine ⟨by rw [vlen,S.len],fun x y c e1 e2=>I.ok.inj x y c (cof x c e1) (cof y c e2),hasC,fun x c e=>?_,fun i x v e1 e2=>?_⟩
   ·refine ⟨I'.cell x c (cof x c e),I'.freeC x c (cof x c e),fun z=>?_⟩
    rcases qa5.mp (I.stkSub c z) with z |z
    ·exact I.cne x c (cof x c e) z
    ·obtain ⟨_,o,ho,_⟩:=I.ok.funs.mem z
     exact absurd (AL (AB ho) (I.ok.cab x c (fna x) (cof x c e))) (CI _)
   ·obtain ⟨j,ej,sj⟩:=vat i v e2
    obtain ⟨hN,hf⟩:=S.at_ e1 ej
    have hk:=S.fr _ (mem_of_lookup hf) rfl
    obtain ⟨m0,hn0,hl0⟩:=I'.loc
    obtain ⟨u,r,lk⟩:=hl0 j x v hN sj (by rcases hk with z |z;exact .inr (.inl z);exact .inr (.inr z))
    refine ⟨hf,?_⟩
    rcases lk with ⟨z,_⟩ |⟨_,c,e3,e4⟩
    ·rcases hk with y |y<;>(rw [z] at y;cases y)
    ·obtain ⟨c2,e5⟩:=hasC x hf
     have:=cof x c2 e5
     rw [e3] at this
     cases this
     exact ⟨c,u,e5,e4,r⟩
  obtain ⟨oc,od,kV,doc,pm2,an,cdv,ct,osl,rfl,lk,hcd⟩:=Fn.ex
  have e0:=I'.env0
  have KX:X.K.In s1.heap:=I'.kIn
  have lim:s1.heap.NoLimit:=I'.nolimit
  have hkind2:∀y∈(["_law_call"]:List Str).zip [Value.ref a],(defScope st).names.lookup y.1=some .local∨((defScope st).names.lookup y.1=some .cell∧((cellsFrom (s1.heap.objs.size+1) (defScope st).names []).lookup y.1).isSome=true):=fun y hy=>by
   have:y=(("_law_call":Str),Value.ref a):=by simpa using hy
   subst this
   exact .inl hk0
  have bt:=hbd s1 [.ref a] I'.kIn rfl
  rw [GO] at bt
  refine codeAny_mono (R:=CR (Az X.prog X.w X.K) X.stack X.prog X.w H' s1 Q E) ?_ fun r s' hq=>?_
  ·refine codeAny_call_function hr.depth (KX _ _ lk) rfl Sf.co Sf.gen rfl (PySem.W.codeRec_of KX hcd) (bt _ _ _ _ ?_)
   refine wpAny_newFunctionEnv_cells Sf.kind hkind2 fun env he2 s2 x=>?_
   subst he2
   refine ⟨lim.keeps x.toInCall.keep,codeAny_func ?_⟩
   have I2:Inv (AI (Az X.prog X.w X.K) X.prog X.w X.K X.mg X.base ["_law_call","_law_word","_law_e"] "_law_said" (defScope st) fs cdv X.A X.stack s1 H' E) [] (L2.start ["_law_call","_law_word","_law_e"] [.ref a]) H' s2:=
    Ox Sf hr.hd e0 rfl (.cons rfl .nil) x
   obtain ⟨ps,hps,hca⟩:=code
   have tri:TriplesOk ps.toList:=by
    obtain ⟨_,ps',z1,z2,_⟩:=tab'
    rw [hps] at z1;cases z1;exact z2
   have SX:SaidX (AI (Az X.prog X.w X.K) X.prog X.w X.K X.mg X.base ["_law_call","_law_word","_law_e"] "_law_said" (defScope st) fs cdv X.A X.stack s1 H' E) P a c' lpos Nc params body scope cl pm ctv vs:=
    ⟨rfl,hk0,hk1,hk2,⟨c,L.tp⟩,⟨ps,hps,tri,hca⟩,by show s1.heap.get? a=_;rw [hh1];exact ob,no,fun z=>absurd (AL (frLt a z) hsz) (CI _),C1⟩
   have hrS:Room (k+1) (AI (Az X.prog X.w X.K) X.prog X.w X.K X.mg X.base ["_law_call","_law_word","_law_e"] "_law_said" (defScope st) fs cdv X.A X.stack s1 H' E).A:=hr.deeper _
   have bx:=As (AU (X:=AI (Az X.prog X.w X.K) X.prog X.w X.K X.mg X.base ["_law_call","_law_word","_law_e"] "_law_said" (defScope st) fs cdv X.A X.stack s1 H' E) (E:=E) (i:=1) (pos:=p3) (pos':=p1) Sf.nd rfl (Or.inl hk1) (Co (x:="told") (j:=j1) (pos:=p2)))
    (As (Xi (p4:=p4) (p5:=p5) (p6:=p6) (p7:=p7) (p8:=p8) (p9:=p9) (p10:=p10) (p11:=p11) (p12:=p12) (p13:=p13) (p14:=p14) Ki SX hrS et hsw (hgS _ _) (hgK _ _) hkind S.lam (hbind cl pm (.ref c') ctv) (fun s H E'=>hb a (.ref c') cl _ _ s H E'))
     (AF (A8 (pos:=p16) (Ac (Ls (i:=1) (x:="_law_word") (pos:=p15) rfl (.inl hk1))))))
   rw [←hst] at bx
   have post:G2 X.K E (Aj (Au 1 (mC (.str "told"))) (Aj (Kw a vs Fk f) (AO (Ab 1)))) {nx:=fun _ H''=>Q .non H'',rt:=Q} (L2.start ["_law_call","_law_word","_law_e"] [.ref a]) H':=by
    refine ⟨m,[some (.clo a vs ds),none,none],h,hrN,?_,?_⟩
    ·refine ⟨rfl,fun i d e=>?_⟩
     match i,e with
     |0,e=>cases e;exact ⟨.ref a,rfl,by unfold DV;exact ⟨rfl,DVs.keep (Ay _) kp dvs⟩⟩
     |1,e=>cases e
     |2,e=>cases e
     |i+3,e=>cases e
    ·have p2:=Post.ahead (Ay m) kp pp
     unfold Aj Au mC
     simp only [Out.bind_ok]
     unfold Kw
     simp only [List.set_cons_succ,List.set_cons_zero,List.getElem?_cons_zero,et0,and_self,if_true]
     unfold MZ at p2
     cases ho:f (ds.map some) h with
     |stuck=>rw [ho] at p2;exact p2.elim
     |ok d h1=>
      rw [ho] at p2
      exact fun m' H'' p1 k1 hr' v rv=>p2 v m' H'' p1 k1 hr' rv
     |err Cv fs h1=>
      rw [ho] at p2
      cases Cv with
      |str n t=>
       simp only at p2 ⊢
       split at p2
       ·rename_i hn
        simp only [hn,if_true]
        cases hi:EZ fs with
        |none=>rw [hi] at p2;exact p2.elim
        |some is=>
         rw [hi] at p2
         simp only at p2 ⊢
         cases hk:Fk [.exc n is] h1 with
         |stuck=>rw [hk] at p2;exact p2.elim
         |err _ _ _=>rw [hk] at p2;exact p2.elim
         |ok d h2=>
          rw [hk] at p2
          exact fun m' H'' p1 k1 hr' v rv=>p2 v m' H'' p1 k1 hr' rv
       ·exact p2.elim
      |_=>exact p2.elim
   refine wpAny_mono (bx [] s2 _ H' _ I2 post) (fun fl s' hs=>?_) fun e s' hs=>hs
   cases fl with
   |ret u=>
    obtain ⟨v,σ',H'',J,rv,q⟩:=hs
    exact ⟨v,H'',J.os,J.bare,J.base,J.hok,rv,q⟩
   |next=>
    obtain ⟨σ',H'',J,q⟩:=hs
    exact ⟨V.non,H'',J.os,J.bare,J.base,J.hok,rfl,q⟩
   |brk=>
    obtain ⟨_,_,_,q⟩:=hs
    exact False.elim q
   |cont=>
    obtain ⟨_,_,_,q⟩:=hs
    exact False.elim q
  ·cases r with
   |error e=>exact Mx lv pins σ H' s1 e s' I' hq
   |ok fl=>
    cases fl with
    |ret u=>exact I'.after hq
    |next=>exact False.elim hq
    |brk=>exact False.elim hq
    |cont=>exact False.elim hq
 ·exact pp.elim
end
def Hx (mg:Str→Option Value) (base:Heap):Prop:=∃bm o,mg "__builtins__"=some (.ref bm)∧bm≠builtinsNs∧base.get? bm=some o∧o.cls=.type "module"∧o.dict=some builtinsNs∧o.data=.plain
theorem Xl {P:Program} {w:World} {K:Frag} {mg mb:Str→Option Value} {k:Nat} {fa a c T:Addr} {fd:FuncData} {x:Str} {F:List D→HD→Out D} {s₁:Shared} {vs:List Value} {ns:List Int}
 (KX:K.In s₁.heap) (hns:s₁.heap.Ns mainGlobals mg) (hb:s₁.heap.Ns builtinsNs mb) (hbb:∀x:Str,x≠"__name__"→mb x=bootBuiltins x) (hlim:s₁.heap.NoLimit) (hg:s₁.gens=#[]) (hbm:Hx mg s₁.heap)
 (ha:s₁.heap.get? a=some {cls:=.type "list",data:=.seq vs.toArray}) (hi:IntsAre vs ns) (hl:ns.length≤sizeLine) (hr:Room k callerA)
 (htp:tabP K=some (c,T)) (hcd:codeHdIn K c T=true) (hT:s₁.heap.get? T=some (tabObj #[])) (hKT:K.lookup T=none)
 (FF:∀base:Heap,K.In base→base.Ns mainGlobals mg→Hx mg base→FnOk P w K mg base (Az P w K) k fa fd [x] (EW K F)) (hbind:∀(s:Shared) (u:Value),BindsTo s fd ⟨[u],[]⟩ [(x,u)])
 (hF:∃h',F [.scr ns] [.tab]=.ok (.bl true) h'):
 codeAny (model P w) callerA (.call (.ref fa) ⟨[.ref a],[]⟩) (fun r s'=>r=.ok (.ret (.bool true))∧OldK s₁.heap s'.heap∧s'.os=s₁.os∧AllBare s'.gens) s₁:=by
 have rv:=L2.vals_ints hi
 have lenV:=hi.length
 have aT:a≠T:=fun z=>by rw [z,hT] at ha;cases ha
 have core:∀H:Hp,(∀b,b=T∨H b=none∨∃o xs,H b=some (.frz o (.lst xs)))→H T=some (.tbl #[])→FzL K H a (ns.map V.int)→HOk P w H s₁.heap→(∀b,H b≠none→b=a∨b=T)→(H a≠none→K.lookup a=none)→
  codeAny (model P w) callerA (.call (.ref fa) ⟨[.ref a],[]⟩) (fun r s'=>r=.ok (.ret (.bool true))∧OldK s₁.heap s'.heap∧s'.os=s₁.os∧AllBare s'.gens) s₁:=by
  intro H hO hHT hS hok hA hK
  have base_of:∀{b:Addr} {o:Obj},s₁.heap.get? b=some o→H b=none→(DQ s₁.heap H).get? b=some o:=fun e n=>SC e n
  have noA:∀{b:Addr} {o:Obj},s₁.heap.get? b=some o→(∀its n,o.data≠.seq its n)→(∀ws,o.data≠.fields ws)→H b=none:=fun {b o} e d1 d2=>by
   cases q:H b with
   |none=>rfl
   |some u=>
    rcases hA b (by rw [q];simp) with e' |e'
    ·subst e'
     rw [ha] at e;cases e
     exact absurd rfl (d1 _ _)
    ·subst e'
     rw [hT] at e;cases e
     exact absurd rfl (d2 _)
  have nsK:∀{b:Addr} {m:Str→Option Value},s₁.heap.Ns b m→(DQ s₁.heap H).Ns b m:=fun {b m} ⟨o,es,ep,e,d,r⟩=>⟨o,es,ep,base_of e (noA e (fun _ _ z=>by rw [d] at z;cases z) (fun _ z=>by rw [d] at z;cases z)),d,r⟩
  have hKb:K.In (DQ s₁.heap H):=fun b o e=>base_of (KX b o e) (by
   cases q:H b with
   |none=>rfl
   |some u=>
    rcases hA b (by rw [q];simp) with e' |e'
    ·subst e'
     rw [hK (by rw [q];simp)] at e;cases e
    ·subst e'
     rw [hKT] at e;cases e)
  have hM:Mod K mg (DQ s₁.heap H):=⟨hKb,nsK hns,⟨mb,nsK hb,hbb⟩,let ⟨mc,h1,h2⟩:=hlim;⟨mc,nsK h1,h2⟩⟩
  have e0:Fc P w K mg (DQ s₁.heap H) callerA [] s₁ H:=⟨rfl,hM,fun b o e=>SD e,Nat.le_of_eq (SB _ _),trivial,fun b hb=>absurd (show b∈([]:List Addr) from hb) (by simp),hok,.of_eq hg⟩
  have hBM:Hx mg (DQ s₁.heap H):=by
   obtain ⟨bm,o,h1,h2,h3,h4,h5,h6⟩:=hbm
   exact ⟨bm,o,h1,h2,base_of h3 (noA h3 (fun _ _ z=>by rw [h6] at z;cases z) (fun _ z=>by rw [h6] at z;cases z)),h4,h5,h6⟩
  have hsp:EW K F [.ref a] H (fun v _=>v=.bl true) fun _ _ _=>False:=by
   obtain ⟨h',e⟩:=hF
   refine ⟨[T],[.scr ns],[.tab],⟨rfl,by simp,fun l cc b e1 e2=>?_⟩,.cons (by simp only [DV];exact ⟨a,rfl,hS⟩) .nil,?_⟩
   ·cases l with
    |zero=>
     simp at e1 e2
     subst e1 e2
     exact ⟨⟨c,htp⟩,#[],hHT,trivial,fun pos cv z=>by simp [codeAmong] at z⟩
    |succ l=>simp at e1
   ·rw [e]
    intro v m' H' _ _ _ r
    simpa [rD,DV] using r
  refine codeAny_mono ((FF _ hKb (nsK hns) hBM).run callerA [] s₁ H ⟨[.ref a],[]⟩ [.ref a] [.ref a] _ _ hr e0 (hbind s₁ (.ref a)) (.cons rfl .nil) hsp) fun r s' h=>?_
  cases r with
  |error e=>
   obtain ⟨_,_,_,_,_,_,_,_,_,_,_,_,q⟩:=h
   exact q.elim
  |ok fl=>
   cases fl with
   |next=>exact False.elim h
   |brk=>exact False.elim h
   |cont=>exact False.elim h
   |ret u=>
    obtain ⟨v,H',os,bare,un,hok',r',q⟩:=h
    have q':v=.bl true:=q
    subst q'
    obtain rfl:u=Value.bool true:=r'
    obtain ⟨more,hT'⟩:=un.tbls T _ hHT
    have hT2:s'.heap.get? T=some (tabObj (#[]++more)):=hok' T _ hT'
    have keepO:∀b o,b≠T→s₁.heap.get? b=some o→s'.heap.get? b=some o:=fun b o hbT e=>by
     cases q:H b with
     |none=>exact un.keep b o e q (by intro z;exact absurd (show b∈([]:List Addr) from z) (by simp)) (by simp)
     |some u=>
      rcases hO b with z |z |⟨ob,xs,z⟩
      ·exact absurd z hbT
      ·rw [q] at z;cases z
      ·have z2:=un.frzs b ob _ z
       obtain ⟨e1,_⟩:=hok b _ z
       obtain ⟨e2,_⟩:=hok' b _ z2
       rw [e] at e1;cases e1
       exact e2
    have hC:=codeHd_of_K KX hcd
    refine ⟨rfl,⟨fun b o e=>?_,fun b o e=>?_⟩,os,bare⟩
    ·by_cases hbT:b=T
     ·subst hbT
      rw [hT] at e
      cases e
      exact .inr (.inl ⟨(hC.tab hT).isCodeTable,rfl,#[],more,rfl,hT2⟩)
     ·exact .inl (keepO b o hbT e)
    ·by_cases hbT:b=T
     ·subst hbT;exact ⟨_,hT2⟩
     ·exact ⟨o,keepO b o hbT e⟩
 cases hk:K.lookup a with
 |some o=>
  have e:=KX a o hk
  rw [ha] at e
  cases e
  refine core (fun b=>if b=T then some (.tbl #[]) else none) (fun b=>?_) (if_pos rfl) (.inr (.inr ⟨_,vs.toArray,_,hk,rfl,rfl,rfl,by rw [AZ,lenV];exact hl,by simpa using rv⟩)) (fun b u z=>?_) (fun b z=>?_) fun z=>absurd (if_neg aT) z
  ·by_cases hb:b=T
   ·exact .inl hb
   ·exact .inr (.inl (if_neg hb))
  ·by_cases hb:b=T
   ·have z':=(if_pos hb).symm.trans z
    cases z'
    subst hb
    exact hT
   ·have z':=(if_neg hb).symm.trans z
    cases z'
  ·by_cases hb:b=T
   ·exact .inr hb
   ·exact absurd (if_neg hb) z
 |none=>
  refine core (fun b=>if b=T then some (.tbl #[]) else if b=a then some (.frz {cls:=.type "list",data:=.seq vs.toArray} (.lst (ns.map V.int))) else none) (fun b=>?_) (if_pos rfl) (.inl ⟨{cls:=.type "list",data:=.seq vs.toArray},(if_neg aT).trans (if_pos rfl)⟩) (fun b u z=>?_) (fun b z=>?_) fun _=>hk
  ·by_cases hb:b=T
   ·exact .inl hb
   ·by_cases hba:b=a
    ·exact .inr (.inr ⟨_,_,(if_neg hb).trans (if_pos hba)⟩)
    ·exact .inr (.inl ((if_neg hb).trans (if_neg hba)))
  ·by_cases hb:b=T
   ·have z':=(if_pos hb).symm.trans z
    cases z'
    subst hb
    exact hT
   ·have z1:=(if_neg hb).symm.trans z
    by_cases hba:b=a
    ·have z':=(if_pos hba).symm.trans z1
     cases z'
     subst hba
     exact ⟨ha,by rw [CH];exact hl,vs,_,rv,ha⟩
    ·have z':=(if_neg hba).symm.trans z1
     cases z'
  ·by_cases hb:b=T
   ·exact .inr hb
   ·by_cases hba:b=a
    ·exact .inl hba
    ·exact absurd ((if_neg hb).trans (if_neg hba)) z
open AutoSeq1 (wpAny_loadPart')
theorem Xm:fillsNumberSlot (.type "tuple") "mul"=pure false:=by
 first |exact noFill_tuple_mul' |(unfold fillsNumberSlot;kernel_rfl)
theorem Xn:seqRepeat? (.type "tuple")=pure (some (.builtin "tuple.__mul__")):=by
 unfold seqRepeat?
 rw [PySem.seqSlot_of (T:="tuple") (name:="__mul__") (id:="tuple.__mul__") F.slot_tuple_mul.lookup (by decide +kernel),PySem.seqSlot_of (T:="tuple") (name:="__rmul__") (id:="tuple.__rmul__") (by rw [typeLookup_type,builtinLookup_eq_fast];kernel_rfl) (by decide +kernel)]
 rfl
theorem Xo (a:Int) (t:Tok) (l:Addr) (items:Array Value) (n:Nat) (dd:Option Addr) (sl:Array (Option Value)):
 Meets (Builtin.«int.__rmul__» ⟨[.int a t,.ref l],[]⟩) (fun _ R s=>s.heap.get? l=some {cls:=.type "tuple",dict:=dd,data:=.seq items n,slots:=sl}∧R (.ok (.ret Value.notImplemented)) s):=
 .of_wp fun prog w A R s h=>by
  obtain ⟨hp,g,d,tk,os⟩:=s;obtain ⟨hl,h⟩:=h
  wp_walk;exact ⟨_,rfl,h⟩
theorem Xp (l:Addr) (items:Array Value) (n:Nat) (dd:Option Addr) (sl:Array (Option Value)) (x:Int) (u:Tok) (h1:1<x) (h2:x<2^63) (hne:items.isEmpty=false) (hz:items.size*x.toNat≤sizeLine):
 Meets (Builtin.«tuple.__mul__» ⟨[.ref l,.int x u],[]⟩) (fun _ R s=>s.heap.get? l=some {cls:=.type "tuple",dict:=dd,data:=.seq items n,slots:=sl}∧R (.ok (.ret (Value.ref s.heap.objs.size))) {s with heap:=s.heap.push {cls:=Value.type "tuple",data:=Data.seq (List.foldl (fun x1 x2=>x1++x2) #[] (List.replicate x.toNat items))}}):=
 .of_wp fun prog w A R s h=>by
  obtain ⟨hp,g,d,tk,os⟩:=s;obtain ⟨hl,h⟩:=h
  have c1:(decide (x < -2^63)||decide (x≥2^63))=false:=by simp;omega
  have c2:(items.isEmpty||x==1)=false:=by
   rw [hne,Bool.false_or]
   exact beq_eq_false_iff_ne.mpr (by omega)
  have c3:(decide (x≤0)||items.isEmpty)=false:=by
   rw [hne,Bool.or_false]
   exact decide_eq_false (by omega)
  have hx:(x.toNat:Int)=x:=Int.toNat_of_nonneg (by omega)
  have hz':(items.size:Int)*x≤sizeLine:=by rw [←hx];exact_mod_cast hz
  have c4:¬((items.size:Int)*x>(2^63 - 1) / 8):=by
   have:(sizeLine:Int)≤(2^63 - 1) / 8:=by decide
   omega
  have c5:Builtin.Tuple.tupleTooMany ((items.size:Int)*x)=false:=by
   unfold Builtin.Tuple.tupleTooMany
   exact decide_eq_false (by omega)
  have c6:(List.foldl (fun x1 x2=>x1++x2) #[] (List.replicate x.toNat items)).size≤sizeLine:=by
   have f0:=JI items.toList x.toNat []
   rw [GP] at f0
   have:List.foldl (fun x1 x2=>x1++x2) #[] (List.replicate x.toNat items)=(List.replicate x.toNat items.toList).flatten.toArray:=by simpa using f0
   rw [this,AZ,JJ,HU]
   simpa using hz
  wp_walk using wpAny_loadPart' hl
  rw [c1]
  simp only [CD,if_false]
  refine wpAny_bind ?_
  unfold Builtin.Tuple.tupleItemsOf
  wp_walk using wpAny_loadPart' hl
  rw [c2]
  simp only [CD,if_false]
  rw [c3]
  simp only [CD,if_false]
  rw [if_neg c4,c5]
  simp only [CD,if_false]
  refine wpAny_bind (wpAny_newObj_type (wpAny_pure ⟨_,rfl,h⟩) c6)
theorem Xq (l:Addr) (items:Array Value) (n:Nat) (dd:Option Addr) (sl:Array (Option Value)) (u:Tok):
 Meets (Builtin.«tuple.__mul__» ⟨[.ref l,.int 1 u],[]⟩) (fun _ R s=>s.heap.get? l=some {cls:=.type "tuple",dict:=dd,data:=.seq items n,slots:=sl}∧R (.ok (.ret (Value.ref l))) s):=
 .of_wp fun prog w A R s h=>by
  obtain ⟨hp,g,d,tk,os⟩:=s;obtain ⟨hl,h⟩:=h
  have c1:(decide ((1:Int) < -2^63)||decide ((1:Int)≥2^63))=false:=by decide
  have c2:(items.isEmpty||(1:Int)==1)=true:=by simp
  wp_walk using wpAny_loadPart' hl
  exact ⟨_,rfl,h⟩
theorem Xr (l:Addr) (items:Array Value) (n:Nat) (dd:Option Addr) (sl:Array (Option Value)) (x:Int) (u:Tok) (h1:-(2^63)≤x) (h2:x≤0) (hne:items.isEmpty=false):
 Meets (Builtin.«tuple.__mul__» ⟨[.ref l,.int x u],[]⟩) (fun _ R s=>s.heap.get? l=some {cls:=.type "tuple",dict:=dd,data:=.seq items n,slots:=sl}∧R (.ok (.ret (Value.ref s.heap.objs.size))) {s with heap:=s.heap.push {cls:=Value.type "tuple",data:=Data.seq #[]}}):=
 .of_wp fun prog w A R s h=>by
  obtain ⟨hp,g,d,tk,os⟩:=s;obtain ⟨hl,h⟩:=h
  have c1:(decide (x < -2^63)||decide (x≥2^63))=false:=by simp;omega
  have c2:(items.isEmpty||x==1)=false:=by
   rw [hne,Bool.false_or]
   exact beq_eq_false_iff_ne.mpr (by omega)
  have c3:(decide (x≤0)||items.isEmpty)=true:=by
   rw [hne,Bool.or_false]
   exact decide_eq_true h2
  wp_walk using wpAny_loadPart' hl
  rw [c1]
  simp only [CD,if_false]
  refine wpAny_bind ?_
  unfold Builtin.Tuple.tupleItemsOf
  wp_walk using wpAny_loadPart' hl
  rw [c2]
  simp only [CD,if_false]
  rw [c3]
  simp only [if_true]
  refine wpAny_bind (wpAny_newObj_type (wpAny_pure ⟨_,rfl,h⟩) (by show (#[]:Array Value).size≤sizeLine;simp))
section
variable {X:Cx} {E:XK}
def Xs (K:Frag):R2:=fun x y H Q=>∃l k xs,x=.ref l∧y=.int k∧H l=some (.tup xs)∧xs≠[]∧-(2^63)≤k∧k<2^63∧xs.length*k.toNat≤sizeLine∧(k=1→Q (.ref l) H)∧
 ∀p,H p=none→Q (.ref p) (Am H p (.tup (List.replicate k.toNat xs).flatten))
theorem Inv.tnew {pins:List (Addr×Obj)} {σ:L2.St} {H:Hp} {s:Shared} {ys:List V} {its:List Value} {t':Nat} (I:Inv X pins σ H s) (hv:Vals ys its) (hz:ys.length≤sizeLine):
 Inv X pins σ (Am H s.heap.objs.size (.tup ys)) {s with heap:=s.heap.push {cls:=.type "tuple",data:=.seq its.toArray},toks:=t'}:=
 I.laid (fun _ _ q=>AE _ q) (AD _) ⟨hz,its,hv,⟨_,Bj _ rfl,rfl,0,rfl⟩,NoDict.new⟩
theorem op_repT:OpR X (binaryOp .Mult) (Xs X.K):=by
 intro pins s σ H x y v u Q I rx ry h
 obtain ⟨l,k,xs,rfl,rfl,hH,hne,h1,h2,hz,q1,q⟩:=h
 cases rx
 obtain ⟨t,rfl⟩:=ry
 obtain ⟨z,its,r,⟨o,ho,hc,n,hd⟩,_⟩:=(show ObjOk X.prog X.w H s.heap l (.tup xs) from I.hok l _ hH)
 obtain ⟨oc,dd,dat,sl⟩:=o
 simp only at hc hd
 subst hc hd
 have hl:=r.length
 have hine:its.toArray.isEmpty=false:=by
  cases its with
  |nil=>exfalso;cases xs with
   |nil=>exact hne rfl
   |cons _ _=>simp at hl
  |cons a b=>simp
 have mul:∀{Q':Value→Shared→Prop},wpAny (model X.prog X.w) X.A (call (.builtin "tuple.__mul__") [.ref l,.int k t]) Q' X.xe s→wpAny (model X.prog X.w) X.A (binaryOp .Mult (.ref l) (.int k t)) Q' X.xe s:=fun {Q'} hq=>
  wpAny_binaryOp_repeat_ref (T:="tuple") (U:="int") (by decide) ⟨_,ho,rfl⟩ (fun s'=>typeIs_int s' k t) Xm F.fills_int_mul F.slot_int_rmul Xn F.slot_int_index.lookup
   (call_meets F.slot_int_rmul (typeIs_int s k t) F.entry_int_rmul (F.args_int_rmul_2 _ _) (Xo k t l its.toArray n dd sl) ⟨ho,rfl,⟨_,ho,rfl⟩,hq⟩)
 refine mul ?_
 rcases Int.lt_trichotomy k 1 with hk |hk |hk
 ·refine call_meets F.slot_tuple_mul ⟨_,ho,rfl⟩ F.entry_tuple_mul (F.args_tuple_mul_2 _ _) (Xr l its.toArray n dd sl k t h1 (by omega) hine) ⟨ho,?_⟩
  have e:(List.replicate k.toNat xs).flatten=[]:=by
   have:k.toNat=0:=by omega
   rw [this];rfl
  have:=q _ I.fresh
  rw [e] at this
  exact ⟨.ref _,_,LS.Inv.tnew (its:=[]) (t':=s.toks) I .nil (EF _),rfl,this⟩
 ·subst hk
  refine call_meets F.slot_tuple_mul ⟨_,ho,rfl⟩ F.entry_tuple_mul (F.args_tuple_mul_2 _ _) (Xq l its.toArray n dd sl t) ⟨ho,?_⟩
  exact ⟨.ref l,H,I,rfl,q1 rfl⟩
 ·refine call_meets F.slot_tuple_mul ⟨_,ho,rfl⟩ F.entry_tuple_mul (F.args_tuple_mul_2 _ _) (Xp l its.toArray n dd sl k t hk h2 hine (by rw [AZ,←hl];exact hz)) ⟨ho,?_⟩
  have f0:=JI its k.toNat []
  rw [GP] at f0
  have f1:List.foldl (fun x1 x2=>x1++x2) #[] (List.replicate k.toNat its.toArray)=(List.replicate k.toNat its).flatten.toArray:=f0
  rw [f1]
  exact ⟨.ref _,_,LS.Inv.tnew (t':=s.toks) I (r.rep k.toNat) (by rw [JJ,HU];exact hz),rfl,q _ I.fresh⟩
noncomputable def BC:D→D→HD→Out D:=fun x y h=>match x,y with
 |.tup xs,.int k=>@ite _ (xs≠[]∧-(2^63)≤k∧k<2^63∧xs.length*k.toNat≤sizeLine) (Classical.propDecidable _) (.ok (.tup (List.replicate k.toNat xs).flatten) h) .stuck
 |_,_=>De x y h
theorem Cf:BJ X (binaryOp .Mult) BC:=by
 obtain ⟨r0,hr0,i0⟩:=VI (X:=X)
 refine ⟨_,op_repT.or hr0,fun m H h E x y v u Q hr rx ry q=>?_⟩
 unfold BC at q
 split at q
 ·rename_i xs k
  split at q
  ·rename_i hc
   obtain ⟨hne,h1,h2,hz⟩:=hc
   simp only [DV] at rx ry
   obtain ⟨a,vs,rfl,ha,dv⟩:=rx
   subst ry
   refine .inl ⟨a,k,vs,rfl,rfl,ha,?_,h1,h2,by rw [←dv.len];exact hz,fun e=>?_,?_⟩
   ·intro e;have:=dv.len;rw [e] at this;exact hne (qc8.mp this)
   ·subst e
    refine Ba hr q ?_
    simp only [DV]
    exact ⟨a,vs,rfl,ha,by simpa using dv⟩
   ·exact G5 hr (DVs.rep dv k.toNat) q
  ·exact q.elim
 ·exact .inr (i0 m H h E x y v u Q hr rx ry q)
end
end LS
namespace LS
open PySem PySem.Spec PyProof.Rows L2 PySem.W
section
variable {X:Cx} {E:XK}
abbrev MJ:=Str→Ai→HD→Out Str
def Xu:MJ:=fun acc _ h=>if acc.length≤sizeLine then .ok acc h else .stuck
def Xv (y:Str) (r:MJ):MJ:=fun acc ρ h=>if (acc++y).length≤sizeLine then r (acc++y) ρ h else .stuck
def Qt (f:ME) (r:MJ):MJ:=fun acc ρ h=>(f ρ h).bind fun d h1=>match d with
 |.int i=>if i.natAbs.log2<1920∧(acc++(toString i:Str)).length≤sizeLine then r (acc++(toString i:Str)) ρ h1 else .stuck
 |_=>.stuck
def M0 (fj:MJ):ME:=fun ρ h=>(fj Str.empty ρ h).bind fun x h1=>.ok (.str x) h1
def Ed:D→HD→Out D:=fun x h=>match Bn h 8 x with
 |some p=>if p.showable=true∧p.hasDict=false∧p.depth≤40∧p.shown.length≤sizeLine then .ok (.str p.shown) h else .stuck
 |none=>.stuck
theorem Qu (hu:X.A.units+64<cLine) (hg:X.A.guards=some []):Ct X (.builtin "repr") (Ao Ed):=by
 refine Qi (fun ds h=>?_) fun pins s σ H m h ds vs us Q I hr rd r q=>Fm rd q fun x v ev rx q=>?_
 ·unfold Ao Ed
  repeat' split
  all_goals trivial
 ·subst ev
  obtain ⟨u,rfl,ru⟩:=DS r
  unfold Ed at q
  split at q
  ·rename_i p e
   split at q
   ·rename_i hc
    obtain ⟨h1,h2,h3,h4⟩:=hc
    obtain ⟨as,hd⟩:=L4 I.hok hr 8 x v u p rx ru e
    have AX:∀(h':Heap) (t tk:Tok),(∀b o,s.heap.get? b=some o→h'.get? b=some o)→EP X pins σ Q (.str p.shown t) {s with heap:=h',toks:=tk}:=fun h' t tk hk=>⟨.str p.shown,H,I.kept hk,⟨t,rfl⟩,Ba hr q (by simp [DV])⟩
    cases hd with
    |list a1 a2 a3 a4=>exact repr_of_reads' (.list a1 a2 a3 a4) h1 (fun z=>by rw [h2] at z;cases z) hg (by omega) (fun _ _ e=>e) AX h4
    |tuple a1 a2 a3 a4=>exact repr_of_reads' (.tuple a1 a2 a3 a4) h1 (fun z=>by rw [h2] at z;cases z) hg (by omega) (fun _ _ e=>e) AX h4
    |dict a1 a2 a3 a4 a5=>cases h2
    |int i t=>
     have h1':i.natAbs.log2<1920:=by simpa [PyData.showable] using h1
     exact PySem.P.repr_of_int h1' (AX s.heap _ _ fun _ _ e=>e)
    |none=>exact PySem.P.repr_of_none (AX s.heap _ _ fun _ _ e=>e)
    |bool b=>exact PySem.P.repr_of_bool (AX s.heap _ _ fun _ _ e=>e)
    |str x t=>exact PySem.P.repr_of_str (AX s.heap _ _ fun _ _ e=>e) (by simpa [PyData.shown] using h4)
   ·exact q.elim
  ·exact q.elim
def E1:D→D→HD→Out D:=fun x y h=>match x,y with
 |.str a,.str b=>.ok (.bl (a==b)) h
 |_,_=>Ik x y h
def DF:D→D→HD→Out D:=fun x y h=>match x,y with
 |.str a,.str b=>.ok (.bl (!(a==b))) h
 |_,_=>Fj x y h
theorem M1 (hu:X.A.units+64<cLine):BJ X (compareOp .Eq) E1:=by
 obtain ⟨r0,hr0,i0⟩:=Vg (X:=X) hu
 refine ⟨_,op_eq.or hr0,fun m H h E x y v u Q hr rx ry q=>?_⟩
 unfold E1 at q
 split at q
 ·simp only [DV] at rx ry
  subst rx ry
  exact .inl ⟨rfl,by rw [JE];exact Ba hr q (by simp [DV])⟩
 ·exact .inr (i0 m H h E x y v u Q hr rx ry q)
theorem M3 (hu:X.A.units+64<cLine):BJ X (compareOp .NotEq) DF:=by
 obtain ⟨r0,hr0,i0⟩:=Vh (X:=X) hu
 refine ⟨_,op_ne.or hr0,fun m H h E x y v u Q hr rx ry q=>?_⟩
 unfold DF at q
 split at q
 ·simp only [DV] at rx ry
  subst rx ry
  exact .inl ⟨rfl,by rw [JE];exact Ba hr q (by simp [DV])⟩
 ·exact .inr (i0 m H h E x y v u Q hr rx ry q)
def Kx:List Nat→List D→Ai→Option Ai
 |[],[],ρ=>some ρ
 |i::is,d::ds,ρ=>Kx is ds (ρ.set i (some d))
 |_,_,_=>none
def Hz (is:List Nat):MG:=fun d ρ=>match d with
 |.tup ds=>Kx is ds ρ
 |_=>none
def M4:List Nat→E9
 |[]=>FK
 |i::is=>Do (Cm i) (M4 is)
theorem Qv:∀{is:List Nat} {ds:List D} {ρ ρ':Ai},Kx is ds ρ=some ρ'→ds.length=is.length
 |[],[],_,_,_=>rfl
 |[],_::_,_,_,e=>by cases e
 |_::_,[],_,_,e=>by cases e
 |_::is,_::ds,_,_,e=>by simpa using Qv (is:=is) (ds:=ds) e
theorem Qw {K:Frag} {m:List Addr} {H:Hp}:∀{is:List Nat} {ds:List D} {vs:List V} {ρ ρ':Ai} {σ:L2.St} {Q:L2.St→Hp→Prop},DVs K m H ds vs→ER K m H ρ σ→Kx is ds ρ=some ρ'→(∀σ',ER K m H ρ' σ'→Q σ' H)→M4 is vs σ H Q
 |[],[],vs,ρ,ρ',σ,Q,r,er,e,q=>by
  simp only [DVs] at r
  subst r
  cases e
  exact ⟨rfl,q σ er⟩
 |[],_::_,_,_,_,_,_,_,_,e,_=>by cases e
 |_::_,[],_,_,_,_,_,_,_,e,_=>by cases e
 |i::is,d::ds,vs,ρ,ρ',σ,Q,r,er,e,q=>by
  simp only [DVs] at r
  obtain ⟨v,w,rfl,rv,rw'⟩:=r
  exact ⟨v,w,rfl,Qw rw' (er.set rv) e q⟩
theorem Qx {es:List Expr} {is:List Nat} {kt:Nat} {pos:Pos} (h:PG X (.Tuple es kt pos) (FL X.K is.length (M4 is))):Iq X (.Tuple es kt pos) (Hz is):=⟨_,h,fun m H d v ρ σ ρ' Q r er e q=>by
 unfold Hz at e
 split at e
 ·rename_i ds
  simp only [DV] at r
  obtain ⟨p,vs,rfl,hp,dv⟩:=r
  exact ⟨p,vs,rfl,SqT.of hp,by rw [←dv.len];exact Qv e,Qw dv er e q⟩
 ·cases e⟩
end
theorem M5 {K:Frag} (h:etOk K=true) {n:Str} (hn:n∈excNames):∃C,nsIn K mainGlobals n=some (some (.ref C)):=by
 unfold etOk at h
 split at h
 ·rename_i S hS
  have h1:=qaO.mp h n hn
  cases e:Ec K n with
  |none=>rw [e] at h1;cases h1
  |some C=>exact ⟨C,Qh e⟩
 ·cases h
section
variable {X:Cx} {E:XK}
theorem Ee {x:Str} {pos:Pos} (et:etOk X.K=true) (hn:x∈excNames) (hg:Gl X x:=by rfl) (hd:(x==("__debug__":Str))=false:=by decide):Ev X E (.Name x pos) (mC (.glo x)):=by
 obtain ⟨a,h⟩:=M5 et hn
 exact WV hg h hd
theorem Xw {x:Str} {e:Expr} {es:List Expr} {fa:MA} {np cpos pos:Pos} (et:etOk X.K=true) (hn:x∈excNames) (hne:x≠"TooMany") (hg:Gl X x) (hc:X.calm=true) (th:MB X E) (ha:Cn X E (e::es) fa)
 (hdb:(x==("__debug__":Str))=false:=by decide) (he:starEach (e::es) X.env=(false,eval e X.env)::starEach es X.env:=by rfl) (hpl:(backTo cpos (starEach (e::es) X.env)).any (·.1)=false:=by rfl):
 Ex X E (.Raise (some (.Call (.Name x np) (e::es) [] cpos)) none pos) (IP x fa):=by
 obtain ⟨C,h⟩:=M5 et hn
 exact Wb ((Ku et hn h).at_ hne) h hg hc th ha hdb he hpl
end
theorem CaM.mono {P:Program} {w:World} {K:Frag} {mg:Str→Option Value} {base:Heap} {x:Str} {j k:Nat} {F:List D→HD→Out D} (C:CaM P w K mg base x j F) (h:j≤k):CaM P w K mg base x k F:=by
 obtain ⟨f,fd,ps,G,r⟩:=C.ex
 exact ⟨f,fd,ps,⟨fun A outer s H args us vs Q hr=>G.run A outer s H args us vs Q (hr.mono h)⟩,r⟩
structure SaidD (K:Frag) (mg:Str→Option Value) (st:Stmt) (fs:Addr) (fd:FuncData):Prop where
 fn:Fun K "_law_said" "_law_said" st fs fd
 bd:Binds K fd ["_law_call"] []
 mg:mg "_law_said"=some (.ref fs)
structure Qy (st:Stmt):Prop where
 sc:A4 ["_law_call","_law_word","_law_e"] ["_law_call"] (defScope st)
 k0:(defScope st).names.lookup ("_law_call":Str)=some .local
 k1:(defScope st).names.lookup ("_law_word":Str)=some .local
 k2:(defScope st).names.lookup ("_law_e":Str)=some .local
 gS:(defScope st).names.lookup ("SwitchError":Str)=some .globalImplicit
 gK:(defScope st).names.lookup ("_law_kind":Str)=some .globalImplicit
 tx:∃p1 j1 p2 p3 p4 p5 p6 p7 p8 p9 p10 p11 p12 p13 p14 p15 p16,defBody st=[.Assign [.Name "_law_word" p1] (.Constant (.str "told") j1 p2) p3,.Try [.Expr (.Call (.Name "_law_call" p4) [] [] p5) p6] [.ExceptHandler (some (.Name "SwitchError" p7)) (some "_law_e") [.Assign [.Name "_law_word" p8] (.Call (.Name "_law_kind" p9) [.Name "_law_e" p10] [] p11) p12] p13] [] [] p14,.Return (some (.Name "_law_word" p15)) p16]
theorem Xx {X:Cx} {E:XK} {c P:Addr} {Nc:List Str} {cs:List Nat} {params:Arguments} {body:Expr} {scope:Scope} {k kk:Nat} {Fk:List D→HD→Out D} {f:ME} {fs:Addr} {fd:FuncData} {st:Stmt} {lpos p pos:Pos}
 (L:LamX X c P) (fna:∀x,X.fn x=true) (hr:Room kk X.A) (lv:Lv X E) (et:etOk X.K=true) (Sd:SaidD X.K X.mg st fs fd) (St:Qy st) (hkind:CaM X.prog X.w X.K X.mg X.base "_law_kind" k Fk) (S:LSc X scope Nc cs)
 (hb:∀(a:Addr) (cd:Value) (cl:List (Str×Addr)) (A:Around) (outer:List Env) (s:Shared) (H:Hp) (E':XK),Room k (A.deeper (envX Bu scope s.heap.objs.size a cd cl))→Ev (EY X.prog X.w X.K X.mg X.base Nc scope a cd cl A outer s H E') E' body f)
 (hg:Gl X "_law_said") (hkk:k+2≤kk:=by decide) (hdef:defaultsOf params X.env=([],[]):=by rfl)
 (hbind:∀(cl:List (Str×Addr)) (pm cv ctv:Value),bindArgs (kla_fn "<lambda>" Bu params body scope cl pm cv ctv) ⟨[],[]⟩=pure []:=by exact fun _ _ _ _=>rfl)
 (he:starEach [.Lambda params body scope lpos] X.env=(false,eval (.Lambda params body scope lpos) X.env)::starEach [] X.env:=by rfl) (hpl:(backTo pos (starEach [] X.env)).any (·.1)=false:=by rfl):
 Ev X E (.Call (.Name "_law_said" p) [.Lambda params body scope lpos] [] pos) (Fx cs Fk f):=by
 obtain ⟨p1,j1,p2,p3,p4,p5,p6,p7,p8,p9,p10,p11,p12,p13,p14,p15,p16,hst⟩:=St.tx
 exact Xk L fna (hr.mono hkk) lv et (M5 et (by decide +kernel)) Sd.fn Sd.bd Sd.mg Sd.fn.kp St.sc St.k0 St.k1 St.k2 (fun _ _=>St.gS) (fun _ _=>St.gK) hst hkind hg S hdef hbind hb he hpl
theorem Xy {P:Program} {w:World} {K:Frag} {mg:Str→Option Value} {base:Heap} {x qual:Str} {st:Stmt} {f:Addr} {kV doc pm cdv ct oc:Value} {an od:Option Addr} {osl:Array (Option Value)} {N ps:List Str} {k:Nat} {F:List D→HD→Out D} {g:MS}
 (lk:K.lookup f=some ⟨oc,od,.func (PySem.W.fnOf x qual (defArgs st) (defBody st) (defScope st) .none kV doc pm an cdv ct),osl⟩) (hcd:PySem.W.codeIn K cdv qual=true) (S:A4 N ps (defScope st)) (ar:Ar ps.length F)
 (hg:∀ds h,ds.length=ps.length→F ds h=Aw N.length g ds h)
 (hbody:∀(A:Around) (outer:List Env) (s:Shared) (H:Hp) (E:XK),Room k (A.deeper (envOfC qual (defScope st) s.heap.objs.size f cdv))→AY (AI (Az P w K) P w K mg base N qual (defScope st) f cdv A outer s H E) E (defBody st) g):
 FnOk P w K mg base (Az P w K) (k+1) f (PySem.W.fnOf x qual (defArgs st) (defBody st) (defScope st) .none kV doc pm an cdv ct) ps (EW K F):=by
 refine Oy lk hcd S (fun vs H Q E h=>Kl ar h) fun A outer s H vs Q E hr h=>?_
 refine ⟨_,hbody A outer s H E hr,?_⟩
 have hl:=Kl ar h
 obtain ⟨m,ds,hd,hr1,r,p⟩:=h
 have hld:ds.length=ps.length:=by rw [r.len];exact hl
 refine ⟨m,ds.map some++List.replicate (N.length - ds.length) none,hd,hr1,ER.start r,?_⟩
 rw [hg ds hd hld] at p
 unfold Aw at p
 cases o:g (ds.map some++List.replicate (N.length - ds.length) none) hd with
 |stuck=>rw [o] at p;exact p
 |err C fs h1=>rw [o] at p;exact p
 |ok a h1=>
  rw [o] at p
  obtain ⟨fl,ρ1⟩:=a
  intro m1 H1 p1 k1 hr1
  cases fl with
  |nx=>exact fun σ er=>p .non m1 H1 p1 k1 hr1 (by simp [rD,DV])
  |bk=>exact False.elim p
  |ct=>exact False.elim p
  |rt d=>exact fun v rv=>p v m1 H1 p1 k1 hr1 rv
def Zcn (K:Frag) (T:Addr):Bool:=match tabP K with
 |some (c,T')=>T'==T&&codeHdIn K c T
 |none=>false
end LS
namespace LS
open PySem PySem.Spec PyProof.Rows L2
def We {α:Type} (o:Out α) (Q:α→HD→Prop) (R:Str→List (Str×D)→HD→Prop):Prop:=match o with
 |.ok a h=>Q a h
 |.err (.str n _) fs h=>R n fs h
 |_=>False
section
variable {α β:Type} {o:Out α} {Q Q':α→HD→Prop} {R R':Str→List (Str×D)→HD→Prop}
@[simp] theorem Zco (a:α) (h:HD):We (.ok a h) Q R=Q a h:=rfl
@[simp] theorem Zcp (n:Str) (t:Tok) (fs:List (Str×D)) (h:HD):We (.err (.str n t) fs h:Out α) Q R=R n fs h:=rfl
@[simp] theorem Zcq:We .stuck Q R=False:=rfl
theorem CB {k:α→HD→Out β} {Q:β→HD→Prop}:We (o.bind k) Q R=We o (fun a h=>We (k a h) Q R) R:=by
 cases o with
 |ok a h=>rfl
 |err C fs h=>cases C<;>rfl
 |stuck=>rfl
theorem Wp.we (h:Wp o Q):We o Q R:=by
 cases o with
 |ok a h'=>exact h
 |_=>exact h.elim
theorem We.mono (h:We o Q R) (f:∀a h,Q a h→Q' a h) (g:∀n fs h,R n fs h→R' n fs h):We o Q' R':=by
 cases o with
 |ok a h'=>exact f _ _ h
 |err C fs h'=>cases C<;>first |exact g _ _ _ h |exact h.elim
 |stuck=>exact h
theorem Pu.we {h:HD} {a:α} (p:Pu o h a) (k:∀h',Sm h h'→Q a h'):We o Q R:=Wp.we (p.wp k)
end
def Er {α:Type} (o:Out α) (h:HD) (n:Str):Prop:=We o (fun _ _=>False) fun n' fs h'=>n'=n∧fs=[]∧Sm h h'
theorem Er.we {α:Type} {o:Out α} {h:HD} {n:Str} {Q:α→HD→Prop} {R:Str→List (Str×D)→HD→Prop} (e:Er o h n) (k:∀h',Sm h h'→R n [] h'):We o Q R:=We.mono e (fun _ _ z=>z.elim) fun n' fs h' z1_=>by obtain ⟨rfl,rfl,s⟩:=z1_;exact k h' s
theorem Qz {N:Nat} {g:MS} {ds:List D} {h:HD} {Q:D→HD→Prop} {R:Str→List (Str×D)→HD→Prop}:We (Aw N g ds h) Q R=We (g (ds.map some++List.replicate (N - ds.length) none) h) (IE Q) R:=by
 unfold Aw
 cases o:g (ds.map some++List.replicate (N - ds.length) none) h with
 |ok a h1=>
  obtain ⟨fl,ρ⟩:=a
  cases fl<;>rfl
 |err C fs h1=>cases C<;>rfl
 |stuck=>rfl
section
variable {ρ:Ai} {h:HD} {Q:Fl×Ai→HD→Prop} {QD:D→HD→Prop} {QB:Bool→HD→Prop} {R:Str→List (Str×D)→HD→Prop} {g g1 g2:MS} {f:ME} {t:MT} {fa:MA} {F:List D→HD→Out D}
def M6 (g2:MS) (Q:Fl×Ai→HD→Prop) (R:Str→List (Str×D)→HD→Prop):Fl×Ai→HD→Prop
 |(.nx,ρ),h=>We (g2 ρ h) Q R
 |y,h=>Q y h
@[simp] theorem Zcr:M6 g2 Q R (.nx,ρ) h=We (g2 ρ h) Q R:=rfl
@[simp] theorem Zcs {d:D}:M6 g2 Q R (.rt d,ρ) h=Q (.rt d,ρ) h:=rfl
@[simp] theorem Zct:We (Aj g1 g2 ρ h) Q R=We (g1 ρ h) (M6 g2 Q R) R:=by
  unfold Aj
  rw [CB]
  congr 1
  funext x h1
  obtain ⟨fl,ρ1⟩:=x
  cases fl<;>rfl
@[simp] theorem Zcu:We (Cu ρ h) Q R=Q (.nx,ρ) h:=rfl
@[simp] theorem Zcv:We (CN f ρ h) Q R=We (f ρ h) (fun _ h1=>Q (.nx,ρ) h1) R:=by unfold CN;rw [CB];rfl
@[simp] theorem Zcw:We (AO f ρ h) Q R=We (f ρ h) (fun d h1=>Q (.rt d,ρ) h1) R:=by unfold AO;rw [CB];rfl
@[simp] theorem Zcx {i:Nat}:We (Au i f ρ h) Q R=We (f ρ h) (fun d h1=>Q (.nx,ρ.set i (some d)) h1) R:=by unfold Au;rw [CB];rfl
@[simp] theorem Zcy:We (Cb t g1 g2 ρ h) Q R=We (t ρ h) (fun b h1=>We (if b=true then g1 ρ h1 else g2 ρ h1) Q R) R:=by unfold Cb;rw [CB]
@[simp] theorem Zcz:We (Ah F fa ρ h) QD R=We (fa ρ h) (fun ds h1=>We (F ds h1) QD R) R:=by unfold Ah;rw [CB]
@[simp] theorem ZcA {n:Str}:We (IP n fa ρ h) Q R=We (fa ρ h) (fun xs h1=>We (if xs.length≤sizeLine then (.err (Ea n) [] h1:Out (Fl×Ai)) else .stuck) Q R) R:=by unfold IP;rw [CB]
@[simp] theorem ZcB:We (EJ t ρ h) QB R=We (t ρ h) (fun b h1=>QB (!b) h1) R:=by unfold EJ;rw [CB];rfl
@[simp] theorem ZcC {u:MT}:We (JN t u ρ h) QB R=We (t ρ h) (fun b h1=>We (if b=true then u ρ h1 else .ok false h1) QB R) R:=by unfold JN;rw [CB]
@[simp] theorem ZcD {u:MT}:We (FP t u ρ h) QB R=We (t ρ h) (fun b h1=>We (if b=true then .ok true h1 else u ρ h1) QB R) R:=by unfold FP;rw [CB]
@[simp] theorem ZcE:We (DY f ρ h) QB R=We (f ρ h) (fun x h1=>We (DX x h1) QB R) R:=by unfold DY;rw [CB]
@[simp] theorem ZcF:We (CL f ρ h) QB R=We (f ρ h) (fun x h1=>We (Ic x h1) QB R) R:=by unfold CL;rw [CB]
@[simp] theorem ZcG {QA:List D→HD→Prop}:We (Ae ρ h) QA R=QA [] h:=rfl
@[simp] theorem ZcH {QA:List D→HD→Prop}:We (Aa f fa ρ h) QA R=We (f ρ h) (fun x h1=>We (fa ρ h1) (fun xs h2=>QA (x::xs) h2) R) R:=by
  unfold Aa;simp only [CB];rfl
@[simp] theorem ZcI {d:D} {r:Ai}:We (Ab 0 (some d::r) h) QD R=QD d h:=rfl
@[simp] theorem ZcJ {i:Nat} {x:Option D} {r:Ai}:We (Ab (i+1) (x::r) h) QD R=We (Ab i r h) QD R:=rfl
@[simp] theorem ZcK {d:D}:We (mC d ρ h) QD R=QD d h:=rfl
@[simp] theorem ZcL {op:D→D→HD→Out D} {f':ME}:We (Af op f f' ρ h) QD R=We (f ρ h) (fun x h1=>We (f' ρ h1) (fun y h2=>We (op x y h2) QD R) R) R:=by unfold Af;simp only [CB]
@[simp] theorem ZcM {fj:MJ}:We (M0 fj ρ h) QD R=We (fj Str.empty ρ h) (fun x h1=>QD (.str x) h1) R:=by unfold M0;rw [CB];rfl
end
def Et {α:Type} (o:Out α) (h:HD) (n:Str) (fs:List (Str×D)):Prop:=We o (fun _ _=>False) fun n' fs' h'=>n'=n∧fs'=fs∧Sm h h'
theorem Et.we {α:Type} {o:Out α} {h:HD} {n:Str} {fs:List (Str×D)} {Q:α→HD→Prop} {R:Str→List (Str×D)→HD→Prop} (e:Et o h n fs) (k:∀h',Sm h h'→R n fs h'):We o Q R:=We.mono e (fun _ _ z=>z.elim) fun n' fs h' z1_=>by obtain ⟨rfl,rfl,s⟩:=z1_;exact k h' s
theorem Xz {cs:List Nat} {Fk:List D→HD→Out D} {f:ME} {ρ:Ai} {h:HD} {ds:List D} {Q:D→HD→Prop} (ht:h[0]?=some .tab) (hd:AS (cs.map fun j=>(ρ[j]?).join)=some ds)
 (q:We (f (ds.map some) h) (fun _ h1=>Q (.str "told") h1) fun n fs h1=>n∈excNames∧∃is,EZ fs=some is∧Wp (Fk [.exc n is] h1) Q):Wp (Fx cs Fk f ρ h) Q:=by
 unfold Fx
 rw [ht,hd]
 simp only
 unfold MZ
 cases o:f (ds.map some) h with
 |ok a h1=>rw [o] at q;exact q
 |stuck=>rw [o] at q;exact q.elim
 |err C fs h1=>
  rw [o] at q
  cases C with
  |str n t=>
   obtain ⟨hn,is,hi,hk⟩:=(show n∈excNames∧∃is,EZ fs=some is∧Wp (Fk [.exc n is] h1) Q from q)
   simp only [hn,if_true,hi]
   cases e:Fk [.exc n is] h1 with
   |ok d h2=>rw [e] at hk;exact hk
   |_=>rw [e] at hk;exact hk.elim
  |_=>exact q.elim
def Rp (n L:Nat) (d:D):Prop:=∃p:PyData,(∀(h:HD) (m:Nat),Bn h (n+m) d=some p)∧p.showable=true∧p.hasDict=false∧p.depth≤n∧p.shown.length≤L
theorem QC {n L:Nat}:∀{ds:List D},(∀d∈ds,Rp n L d)→∃ps:List PyData,(∀(h:HD) (m:Nat),AS (ds.map (Bn h (n+m)))=some ps)∧PyData.showableAll ps=true∧PyData.hasDictAll ps=false∧PyData.depthAll ps≤n∧ps.length=ds.length∧∀t∈PyData.shownAll ps,t.length≤L
 |[],_=>⟨[],fun _ _=>rfl,rfl,rfl,EF _,rfl,fun t ht=>by cases ht⟩
 |d::ds,hd=>by
  obtain ⟨p,a1,a2,a3,a4,a5⟩:=hd d A3
  obtain ⟨ps,b1,b2,b3,b4,b5,b6⟩:=QC (fun x hx=>hd x (A6 _ hx))
  refine ⟨p::ps,fun h m=>?_,by simp [PyData.showableAll,a2,b2],by simp [PyData.hasDictAll,a3,b3],by simp only [PyData.depthAll];omega,by simp [b5],fun t ht=>?_⟩
  ·rw [Bf,a1 h m]
   simp only [AS,b1 h m]
   rfl
  ·simp only [PyData.shownAll] at ht
   rcases qa5.mp ht with e |e
   ·rw [e];exact a5
   ·exact b6 t e
theorem QE:∀{ps:List PyData},(PyData.shownAll ps).length=ps.length
 |[]=>rfl
 |p::ps=>by simp [PyData.shownAll,QE (ps:=ps)]
section
variable {h:HD} {i j:Int} {ds:List D} {a b:D} {l:Nat} {x y:Str}
@[simp] theorem ZcN:DF (.str x) (.str y) h=.ok (.bl (!(x==y))) h:=rfl
@[simp] theorem ZcO:E1 (.str x) (.str y) h=.ok (.bl (x==y)) h:=rfl
@[simp] theorem ZcP:DF (.int i) (.int j) h=.ok (.bl (!(i==j))) h:=rfl
@[simp] theorem ZcQ:E1 (.int i) (.int j) h=.ok (.bl (i==j)) h:=rfl
@[simp] theorem ZcR {c d:Bool}:DF (.bl c) (.bl d) h=.ok (.bl (!(c==d))) h:=rfl
@[simp] theorem ZcS {c d:Bool}:E1 (.bl c) (.bl d) h=.ok (.bl (c==d)) h:=rfl
@[simp] theorem ZcT {es:List D}:DF (.tup ds) (.tup es) h=Fj (.tup ds) (.tup es) h:=rfl
@[simp] theorem ZcU {es:List D}:E1 (.tup ds) (.tup es) h=Ik (.tup ds) (.tup es) h:=rfl
@[simp] theorem ZcV:BC (.int i) (.int j) h=De (.int i) (.int j) h:=rfl
@[simp] theorem QF:BC (.loc l) b h=De (.loc l) b h:=rfl
@[simp] theorem ZcW:AJ (.int i) b h=BB (.int i) b h:=rfl
@[simp] theorem ZcX {c:Bool}:AJ (.bl c) b h=BB (.bl c) b h:=rfl
@[simp] theorem ZcY:AJ .non b h=BB .non b h:=rfl
@[simp] theorem ZcZ:AJ (.str x) b h=BB (.str x) b h:=rfl
@[simp] theorem Zc0:AJ (.tup ds) b h=BB (.tup ds) b h:=rfl
@[simp] theorem XA:AJ (.loc l) b h=BB (.loc l) b h:=rfl
@[simp] theorem Zc1 {c:Bool}:BB (.bl c) (.ty "int") h=.ok (.bl true) h:=rfl
@[simp] theorem Zc2 {c:Bool}:BB (.bl c) (.ty "bool") h=.ok (.bl true) h:=rfl
@[simp] theorem Zc3 {c:Bool}:BB (.bl c) (.ty "tuple") h=.ok (.bl false) h:=rfl
@[simp] theorem Zc4:BB .non (.ty "int") h=.ok (.bl false) h:=rfl
@[simp] theorem Zc5:BB .non (.ty "tuple") h=.ok (.bl false) h:=rfl
@[simp] theorem Zc6:BB (.str x) (.ty "int") h=.ok (.bl false) h:=rfl
@[simp] theorem Zc7:BB (.str x) (.ty "tuple") h=.ok (.bl false) h:=rfl
theorem XB (e:h[l]?=some (.lst ds)):BB (.loc l) (.ty "int") h=.ok (.bl false) h:=by
 simp only [BB,DB,e];rfl
theorem XC (e:h[l]?=some (.lst ds)):BB (.loc l) (.ty "tuple") h=.ok (.bl false) h:=by
 simp only [BB,DB,e];rfl
@[simp] theorem Zc8:AJ .edic (.ty "int") h=.ok (.bl false) h:=rfl
@[simp] theorem Zc9:AJ .edic (.ty "tuple") h=.ok (.bl false) h:=rfl
theorem Ef {n n':Str} {fs:List (Str×Int)} (h1:n∈excNames) (h2:n'∈excNames):AJ (.exc n fs) (.glo n') h=.ok (.bl (BH n n')) h:=if_pos ⟨h1,h2⟩
theorem XE {n:Str} {fs:List (Str×Int)} (h1:n∈excNames):AJ (.exc n fs) (.ty "ValueError") h=.ok (.bl true) h:=if_pos ⟨h1,rfl⟩
@[simp] theorem Zda {ρ:Ai} {c d:D} {i j k l:Nat}:Hz [i,j,k,l] (.tup [a,b,c,d]) ρ=some ((((ρ.set i (some a)).set j (some b)).set k (some c)).set l (some d)):=rfl
theorem XF (hz:x.length+y.length≤1000):Aq (.str x) (.str y) h=.ok (.str (x++y)) h:=by
 simp only [Aq]
 rw [if_pos (by unfold sizeLine;omega)]
theorem Ky {xs ys:List D} {k:Nat} (e1:h[l]?=some (.lst xs)) (e2:h[k]?=some (.lst ys)):Aq (.loc l) (.loc k) h=B2 (xs++ys) h:=by simp only [Aq,e1,e2]
theorem XG {vs:List V} {w:V} (e:h[l]?=some (.lst ds)) (e1:AS (ds.map CM)=some vs) (e2:CM a=some w):F7 (.loc l) a h=.ok (.int (Hu w vs)) h:=by
 simp only [F7,Cp,e,Out.bind_ok,Hv,By,e1,e2]
theorem XH {vs:List V} {w:V} {j:Nat} (e:h[l]?=some (.lst ds)) (e1:AS (ds.map CM)=some vs) (e2:CM a=some w) (e3:Kv w vs=some j):F8 (.loc l) a h=.ok (.int j) h:=by
 simp only [F8,e,e1,e2,e3]
@[simp] theorem Zdb {chk:D→HD→Out D} {op:D→D→HD→Out D} {f g:ME} {ρ:Ai} {Q:D→HD→Prop}:Wp (Ht chk op f g ρ h) Q=Wp (f ρ h) fun x h1=>Wp (chk x h1) fun x h2=>Wp (g ρ h2) fun y h3=>Wp (op x y h3) Q:=by unfold Ht;simp only [AC]
@[simp] theorem sz6:(6≤sizeLine)=True:=eq_true (by unfold sizeLine;omega)
@[simp] theorem sz7:(7≤sizeLine)=True:=eq_true (by unfold sizeLine;omega)
@[simp] theorem sz8:(8≤sizeLine)=True:=eq_true (by unfold sizeLine;omega)
@[simp] theorem sz9:(9≤sizeLine)=True:=eq_true (by unfold sizeLine;omega)
@[simp] theorem Zdc:(10≤sizeLine)=True:=eq_true (by unfold sizeLine;omega)
theorem QG {k:Nat} (hne:ds≠[]) (hz:ds.length*k≤1000) (hk:1<k:=by decide):BC (.tup ds) (.int (k:Nat)) h=.ok (.tup (List.replicate k ds).flatten) h:=by
 simp only [BC]
 have h1:k≤1000:=by
  have:1≤ds.length:=by
   cases ds with
   |nil=>exact absurd rfl hne
   |cons _ _=>simp
  have:=Nat.mul_le_mul_right k this
  omega
 rw [if_pos ⟨hne,by omega,by omega,by simp;unfold sizeLine;omega⟩]
 simp
end
section
variable {ρ:Ai} {h:HD} {Q:Str→HD→Prop} {R:Str→List (Str×D)→HD→Prop} {acc y:Str} {r:MJ} {f:ME} {n:Nat} {i:Int}
end
end LS
namespace LS
open PySem PySem.Spec PyProof.Rows L2 PySem.W
section
variable {X:Cx} {E:XK}
def HA:D→HD→Out D:=fun x h=>match By x h with
 |some ds=>B2 ds h
 |none=>.stuck
theorem QH:Ct X (.type "list") (Ao HA):=by
 refine ⟨_,UQ,fun m H h E ds vs Q hr r q=>Fm r q fun d v ev rv q=>?_⟩
 unfold HA at q
 split at q
 ·rename_i ds' e
  obtain ⟨p,ws,rfl,hs,dv⟩:=JY hr rv e
  exact ⟨p,ws,ev,hs,(Ig hr dv q).2⟩
 ·exact q.elim
theorem QJ {pos:Pos}:Ev X E (.Dict [] [] pos) (mC .edic):=fun pins s σ H Q I z1_=>by
 obtain ⟨m,ρ,h,hr,er,p⟩:=z1_
 have hf:H s.heap.objs.size=none:=I.hok.fresh (AD _)
 refine wpAny_Dict_empty ⟨.ref s.heap.objs.size,Am H s.heap.objs.size (.ext (LQ s.heap.objs.size)),I.laid (t':=s.toks) (fun _ _ q=>AE _ q) (AD _) ?_,rfl,?_⟩
 ·have ne:s.heap.objs.size≠sysModules:=by
   obtain ⟨og,_,_,eg,_⟩:=I.ok.mod.glob
   obtain ⟨ml,⟨ol,_,_,el,_⟩,_⟩:=I.loc
   have h1:(3:Nat)<X.base.objs.size:=AB eg
   have h2:(X.env.locals:Nat)<s.heap.objs.size:=AB el
   have h3:X.base.objs.size≤X.s₀.heap.objs.size:=I.ok.bsz
   have h4:X.s₀.heap.objs.size≤(X.env.locals:Nat):=I.ok.above
   have h5:(1:Nat)<s.heap.objs.size:=AL (AL (show 1<4 by decide) h1) (BM h3 (BM h4 (E8 h2)))
   exact fun z=>BS h5 z
  exact ⟨⟨ne,_,_,Bj _ rfl,⟨rfl,rfl,rfl⟩,rfl⟩,⟨_,Bj _ rfl⟩,fun h1 h2 z2_ k=>by obtain ⟨ne,o,ep,z1,z2⟩:=z2_;exact (⟨ne,o,ep,k o z1,z2⟩)⟩
 ·exact p (.ref s.heap.objs.size) m _ (Ay _) (.new hf) (hr.new hf) (by simp only [rD,DV];exact ⟨_,rfl,Bx⟩)
def Zdd (T:List (Str×(List D→HD→Out D))) (fv:ME) (fa:MA):ME:=fun ρ h=>(fv ρ h).bind fun d h1=>match d with
 |.glo n=>(match T.lookup n with
  |some F=>(fa ρ h1).bind F
  |none=>.stuck)
 |_=>.stuck
def Zde (P:Program) (w:World) (K:Frag) (mg:Str→Option Value) (base:Heap) (k:Nat) (T:List (Str×(List D→HD→Out D))):Prop:=∀n F,T.lookup n=some F→CaE P w K mg base n k F
theorem CaE.mono {P:Program} {w:World} {K:Frag} {mg:Str→Option Value} {base:Heap} {x:Str} {j k:Nat} {F:List D→HD→Out D} (C:CaE P w K mg base x j F) (h:j≤k):CaE P w K mg base x k F:=by
 obtain ⟨f,fd,ps,G,r⟩:=C.ex
 exact ⟨f,fd,ps,G.mono h,r⟩
end
def Zdf (K:Frag) (c:Addr):Bool:=match tabP K with
 |some (c',T)=>c'==c&&codeHdIn K c T
 |none=>false
section
variable {prog:Program} {w:World} {A:Around} {E:Str→Value→Shared→Prop}
end
section
variable {X:Cx} {E:XK}
def XI (K:PySem.W.Frag):V→Option Int→Option Int→Hp→VK→Prop:=fun x lo hi H Q=>∃a xs,x=.ref a∧SqT K H a xs∧HT.sIx xs.length 0 lo=0∧HT.sIx xs.length xs.length hi=xs.length∧Q (.ref a) H
theorem sl_whole:SlR X (XI X.K):=by
 rintro pins s σ H x v vl vu lo hi sl Q I rx hs pl pu ⟨a,xs,rfl,hx,w0,w1,q⟩
 cases rx
 obtain ⟨its,r,ht,hz⟩:=I.tuple hx
 have hl:its.toArray.size=xs.length:=by rw [AZ];exact r.length.symm
 rw [←hl] at w0 w1
 obtain ⟨os,hos,hcs,hds⟩:=id hs
 refine ⟨"tuple",_,slot_tuple_getitem.lookup,ht.typeIs,?_⟩
 unfold getItem
 try with_reducible refine wpAny_holding ?_
 first |refine wpAny_bind (wpAny_pure ?_) |skip
 refine wpAny_bind (wpAny_sequenceKey ht.typeIs (by decide) (wpAny_bind (wpAny_callSpecial?_slot (name:=Str.ofString "__getitem__") ht.typeIs slot_tuple_getitem
  (wpAny_call_entry slot_tuple_getitem ht.typeIs entry_tuple_getitem ?_ (args_tuple_getitem _ _)))))
 show wpAny _ _ (Builtin.Tuple.tupleItemsOf (.ref a) >>=_) _ _ s
 refine wpAny_bind (tupleItemsOf_ ht (wpAny_bind (wpAny_typeOf (show s.TypeIs (.ref sl) "slice" from ⟨os,hos,hcs⟩) ?_)))
 rw [if_pos (by decide)]
 refine wpAny_bind (HT.sliceApplied_gen hs pl pu ?_)
 have hy:(((HT.sIx its.toArray.size 0 lo:Nat):Int)==0&&(1:Int)==1&&(HT.sIx its.toArray.size its.toArray.size hi - HT.sIx its.toArray.size 0 lo)==its.toArray.size)=true:=by
  rw [w0,w1]
  simp
 show wpAny _ _ (if (((HT.sIx its.toArray.size 0 lo:Nat):Int)==0&&(1:Int)==1&&(HT.sIx its.toArray.size its.toArray.size hi - HT.sIx its.toArray.size 0 lo)==its.toArray.size)=true then _ else _) _ _ s
 rw [if_pos hy]
 unfold Builtin.Tuple.tupleIsExact
 refine wpAny_bind (wpAny_bind (wpAny_typeOf ht.typeIs (wpAny_pure ?_)))
 rw [if_pos (by decide)]
 refine wpAny_bind (wpAny_rule ?_)
 have AX:EP X pins σ Q (.ref a) s:=⟨.ref a,H,I,rfl,q⟩
 first
  |exact wpAny_pure ⟨_,rfl,wpAny_pure AX⟩
  |exact wpAny_pure AX
def E2 (x:D) (lo hi:Option Int) (h:HD):Out D:=match x with
 |.tup xs=>.ok (.tup (Fu xs lo hi)) h
 |_=>.stuck
def Eg (f:ME) (lo hi:MO):ME:=fun ρ h=>(f ρ h).bind fun x h1=>(lo ρ h1).bind fun l h2=>(hi ρ h2).bind fun u h3=>E2 x l u h3
theorem XJ {α:Type} {xs:List α} {lo hi:Option Int} (h0:HT.sIx xs.length 0 lo=0) (h1:HT.sIx xs.length xs.length hi=xs.length):(xs.drop (HT.sIx xs.length 0 lo)).take (HT.sIx xs.length xs.length hi - HT.sIx xs.length 0 lo)=xs:=by
 rw [h0,h1];simp
theorem IZ {e:Expr} {lo hi:Option Expr} {f:ME} {fl fh:MO} {p2 pos:Pos} (he:Ev X E e f) (hl:Km X E lo fl) (hu:Km X E hi fh):Ev X E (.Subscript e (.Slice lo hi none p2) pos) (Eg f fl fh):=
 BU (UE (sl_whole.or UH) he hl hu) fun σ H Q ⟨m,ρ,h,hr,er,p⟩=>⟨m,ρ,h,hr,er,Post.bind p fun x h1 v m1 H1 eo1 p1 k1 hr1 r1 q1=>
  ⟨m1,ρ,h1,hr1,er.keep p1 k1,Post.bind q1 fun l h2 l' m2 H2 eo2 p2 k2 hr2 r2 q2=>
   ⟨m2,ρ,h2,hr2,(er.keep p1 k1).keep p2 k2,Post.bind q2 fun u h3 u' m3 H3 eo3 p3 k3 hr3 r3 q3=>by
    clear eo1 eo2 eo3
    subst r2 r3
    have rx:=DV.keep p3 k3 (DV.keep p2 k2 r1)
    unfold E2 at q3
    split at q3
    ·rename_i xs
     have rx0:=rx
     simp only [DV] at rx
     obtain ⟨a,vs,rfl,ha,dv⟩:=rx
     by_cases hz:HT.sIx xs.length 0 l=0∧HT.sIx xs.length xs.length u=xs.length
     ·refine .inl ⟨a,vs,rfl,SqT.of ha,by rw [←dv.len];exact hz.1,by rw [←dv.len];exact hz.2,?_⟩
      have e:Fu xs l u=xs:=XJ hz.1 hz.2
      rw [e] at q3
      exact q3 (.ref a) m3 H3 (Ay _) (.refl _) hr3 rx0
     ·rw [dv.len] at hz
      exact .inr ⟨a,vs,rfl,SqT.of ha,hz,G5 hr3 (dv.cut l u) q3⟩
    ·exact q3.elim⟩⟩⟩
theorem QK {xs:List D} {k:Nat} {h:HD} (hk:k≤xs.length):E2 (.tup xs) none (some (k:Int)) h=.ok (.tup (xs.take k)) h:=by
 simp only [E2]
 unfold Fu
 rw [HT.sIx_nat,HT.sIx_none,List.drop_zero,show min k xs.length - 0=k from by omega]
theorem QL {xs:List D} {k:Nat} {i:Int} {h:HD} (hi:i=((k+1:Nat):Int)) (hk:k<xs.length):E2 (.tup xs) (some i) none h=.ok (.tup (xs.drop (k+1))) h:=by
 subst hi
 simp only [E2]
 unfold Fu
 rw [HT.sIx_nat,HT.sIx_none,show min (k+1) xs.length=k+1 from by omega]
 congr 2
 exact List.take_of_length_le (by simp)
theorem XM {xs:List D} {h:HD} (hk:1≤xs.length):E2 (.tup xs) none (some (-1)) h=.ok (.tup (xs.take (xs.length - 1))) h:=by
 have e:HT.sIx xs.length xs.length (some (-1))=xs.length - 1:=by
  simp only [HT.sIx]
  rw [if_pos (by decide)]
  omega
 simp only [E2]
 unfold Fu
 rw [e,HT.sIx_none,List.drop_zero,Nat.sub_zero]
end
section
variable {f:ME} {lo hi:MO} {ρ:Ai} {h:HD} {Q:D→HD→Prop}
@[simp] theorem Zdg:Wp (Eg f lo hi ρ h) Q=Wp (f ρ h) fun x h1=>Wp (lo ρ h1) fun l h2=>Wp (hi ρ h2) fun u h3=>Wp (E2 x l u h3) Q:=by unfold Eg;simp only [AC]
end
section
variable {K:Frag} {mg:Str→Option Value} {h:Heap}
theorem XN {us:List Value} (h:us.length=0):us=[]:=qc8.mp h
theorem QM {us:List Value} (h:us.length=1):∃v0,us=[v0]:=by
 cases us with
 |nil=>cases h
 |cons v t=>
  obtain rfl:=XN (Nat.succ.inj h)
  exact ⟨v,rfl⟩
theorem QN {us:List Value} (h:us.length=2):∃v0 v1,us=[v0,v1]:=by
 cases us with
 |nil=>cases h
 |cons v t=>
  obtain ⟨w0,rfl⟩:=QM (Nat.succ.inj h)
  exact ⟨v,w0,rfl⟩
theorem XO {us:List Value} (h:us.length=3):∃v0 v1 v2,us=[v0,v1,v2]:=by
 cases us with
 |nil=>cases h
 |cons v t=>
  obtain ⟨w0,w1,rfl⟩:=QN (Nat.succ.inj h)
  exact ⟨v,w0,w1,rfl⟩
theorem Cq {x p0:Str} {st:Stmt} {f:Addr} {oc:Value} {od an:Option Addr} {osl:Array (Option Value)} {kV doc pm cdv ct:Value} (X:K.In h) (G:h.Ns mainGlobals mg) (l:K.lookup f=some ⟨oc,od,.func (fnOf x x (defArgs st) (defBody st) (defScope st) .none kV doc pm an cdv ct),osl⟩) (c:codeIn K cdv x=true) (k:keepIn K (.ref f)=true) (a:nsIn K mainGlobals x=some (some (.ref f)))
 (b:∀(kV doc pm:Value) (an:Option Addr) (cdv ct v0:Value),bindArgs (fnOf x x (defArgs st) (defBody st) (defScope st) .none kV doc pm an cdv ct) ⟨[v0],[]⟩=pure (([p0]:List Str).zip [v0])):Dn K mg x [p0] st f (fnOf x x (defArgs st) (defBody st) (defScope st) .none kV doc pm an cdv ct):=
 ⟨Fd l c k,(Fd l c k).binds (fun kV doc pm an cdv ct us hl=>by obtain ⟨v0,rfl⟩:=QM hl;exact b kV doc pm an cdv ct v0),mg_of X G a⟩
theorem F9 {x p0 p1:Str} {st:Stmt} {f:Addr} {oc:Value} {od an:Option Addr} {osl:Array (Option Value)} {kV doc pm cdv ct:Value} (X:K.In h) (G:h.Ns mainGlobals mg) (l:K.lookup f=some ⟨oc,od,.func (fnOf x x (defArgs st) (defBody st) (defScope st) .none kV doc pm an cdv ct),osl⟩) (c:codeIn K cdv x=true) (k:keepIn K (.ref f)=true) (a:nsIn K mainGlobals x=some (some (.ref f)))
 (b:∀(kV doc pm:Value) (an:Option Addr) (cdv ct v0 v1:Value),bindArgs (fnOf x x (defArgs st) (defBody st) (defScope st) .none kV doc pm an cdv ct) ⟨[v0,v1],[]⟩=pure (([p0,p1]:List Str).zip [v0,v1])):Dn K mg x [p0,p1] st f (fnOf x x (defArgs st) (defBody st) (defScope st) .none kV doc pm an cdv ct):=
 ⟨Fd l c k,(Fd l c k).binds (fun kV doc pm an cdv ct us hl=>by obtain ⟨v0,v1,rfl⟩:=QN hl;exact b kV doc pm an cdv ct v0 v1),mg_of X G a⟩
theorem M7 {x p0 p1 p2:Str} {st:Stmt} {f:Addr} {oc:Value} {od an:Option Addr} {osl:Array (Option Value)} {kV doc pm cdv ct:Value} (X:K.In h) (G:h.Ns mainGlobals mg) (l:K.lookup f=some ⟨oc,od,.func (fnOf x x (defArgs st) (defBody st) (defScope st) .none kV doc pm an cdv ct),osl⟩) (c:codeIn K cdv x=true) (k:keepIn K (.ref f)=true) (a:nsIn K mainGlobals x=some (some (.ref f)))
 (b:∀(kV doc pm:Value) (an:Option Addr) (cdv ct v0 v1 v2:Value),bindArgs (fnOf x x (defArgs st) (defBody st) (defScope st) .none kV doc pm an cdv ct) ⟨[v0,v1,v2],[]⟩=pure (([p0,p1,p2]:List Str).zip [v0,v1,v2])):Dn K mg x [p0,p1,p2] st f (fnOf x x (defArgs st) (defBody st) (defScope st) .none kV doc pm an cdv ct):=
 ⟨Fd l c k,(Fd l c k).binds (fun kV doc pm an cdv ct us hl=>by obtain ⟨v0,v1,v2,rfl⟩:=XO hl;exact b kV doc pm an cdv ct v0 v1 v2),mg_of X G a⟩
theorem SaidD.of {st:Stmt} {f:Addr} {fd:FuncData} (d:Dn K mg "_law_said" ["_law_call"] st f fd):SaidD K mg st f fd:=⟨d.fn,d.bd,d.mg⟩
end
open AutoSeq1 (wpAny_loadPart')
section
variable {prog:Program} {w:World} {A:Around} {E:Value→Shared→Prop} {s:Shared}
end
def QP (r:Addr) (n:Nat) (h:Heap):Prop:=∃t u v,IsRange h r 0 (n:Int) 1 t u v
section
variable {X:Cx} {E:XK}
inductive XQ (vs:List V) (H:Hp) (Q:VK):Prop where
 |mk (n:Nat) (e:vs=[.int (n:Int)]) (hn:n≤1000) (q:∀p,H p=none→Q (.ref p) (Am H p (.ext (QP p n)))):XQ vs H Q
inductive XR (vs:List V) (H:Hp) (Q:VK):Prop where
 |mk (r:Addr) (n:Nat) (e:vs=[.ref r]) (hr:H r=some (.ext (QP r n))) (hn:n≤1000) (q:∀p,H p=none→Q (.ref p) (Am H p (.tup ((List.range n).map fun i=>V.int ((i:Nat):Int))))):XR vs H Q
noncomputable def XS:D→HD→Out D:=fun d h=>match d with
 |.int i=>@ite _ (0≤i∧i≤1000) (Classical.propDecidable _) (.ok (.tup ((List.range i.toNat).map fun k=>D.int ((k:Nat):Int))) h) .stuck
 |_=>.stuck
noncomputable def Zdh (f:ME):ME:=fun ρ h=>(f ρ h).bind XS
end
end LS
namespace LS
open PySem PySem.Spec PyProof.Rows L2 PySem.W
section
variable {X:Cx} {E:XK}
def XT:D→HD→Out D:=fun x h=>match x with
 |.tup _=>.ok x h
 |_=>.stuck
def Zdi:D→D→HD→Out D:=fun x y h=>(XT x h).bind fun _ _=>Hv x y h
mutual
def M8:PyData→Bool
 |.list _=>false
 |.tuple xs=>M9 xs
 |_=>true
def M9:List PyData→Bool
 |[]=>true
 |x::xs=>M8 x&&M9 xs
end
def Na (h:HD):Nat→D→Option PyData
 |_,.non=>some .none
 |_,.bl b=>some (.bool b)
 |_,.int i=>some (.int i)
 |_,.str x=>some (.str x)
 |_,.edic=>some (.dict [])
 |n+1,.tup ds=>(AS (ds.map (Na h n))).map .tuple
 |n+1,.loc l=>match h[l]? with
  |some (.lst ds)=>(AS (ds.map (Na h n))).map .list
  |_=>none
 |_,_=>none
inductive XU (h:Heap) (u:Value) (p:PyData):Prop where
 |mk (as:List Addr) (f1:Reads h u p as) (f2:M8 p=true→sysModules∉as):XU h u p
inductive XW (h:Heap) (us:List Value) (ps:List PyData):Prop where
 |mk (as:List Addr) (f1:ReadsAll h us ps as) (f2:M9 ps=true→sysModules∉as):XW h us ps
variable {pins:List (Addr×Obj)} {σ:L2.St} {H:Hp} {s:Shared} {m:List Addr} {h:HD}
def Zdj:D→HD→Out D:=fun x h=>match Na h 8 x with
 |some p=>if p.showable=true∧(p.hasDict=false∨M8 p=true)∧p.depth≤40∧p.shown.length≤sizeLine then .ok (.str p.shown) h else .stuck
 |none=>.stuck
end
end LS
namespace HT
open PySem PyProof.Rows
def lexLe:List Int→List Int→Bool
 |[],[]=>true
 |[],_::_=>true
 |_::_,[]=>false
 |x::xs,y::ys=>if x=y then lexLe xs ys else decide (x≤y)
section
open PySem.SeqAt
open PySem.AutoSeq1 (wpAny_loadPart')
open PySem.MeetsSeq PySem.MeetsSeq2 PySem.MeetsSeq3
end
section
variable {prog:Program} {w:World} {A:Around} {E:Value→Shared→Prop} {s:Shared}
end
end HT
namespace L2
open PySem PySem.Spec PyProof.Rows
section
variable {X:Cx}
def Zdk (K:PySem.W.Frag):R2:=fun x y H Q=>∃a b ns ms,x=.ref a∧y=.ref b∧SqT K H a (ns.map V.int)∧SqT K H b (ms.map V.int)∧Q (.bl (HT.lexLe ns ms)) H
end
end L2
namespace LS
open PySem PySem.Spec PyProof.Rows L2
section
variable {X:Cx} {E:XK}
def QR:D→Option (List Int)
 |.tup ds=>AS (ds.map Fq)
 |_=>none
def Zdl (f:List Int→List Int→Bool):D→D→HD→Out D:=fun x y h=>match QR x,QR y with
 |some ns,some ms=>.ok (.bl (f ns ms)) h
 |_,_=>.stuck
end
section
variable {prog:Program} {w:World} {A:Around} {E:Value→Shared→Prop} {s:Shared}
end
section
variable {X:Cx} {E:XK} {e:Expr} {f:ME}
def XX:D→HD→Out D:=fun x h=>match x with
 |.tup ds=>.ok (.tup ds.reverse) h
 |_=>.stuck
def Zdm (f:ME):ME:=fun ρ h=>(f ρ h).bind XX
end
end LS
namespace LS
open PySem
section
variable {prog:Program} {w:World} {A:Around} {E:Value→Shared→Prop} {h:Heap} {g:Array GenState} {d:Drawn} {t:Nat} {os:OsState}
variable {nm q:Str} {C N:Addr} {bs bm bmB:List Value} {hdct:Bool} {sn:List Str} {sub:List Value} {ab:Bool} {col:Option Bool} {dd:Option Addr} {k0 k1 k2 k3 k5:Option Value} {B newId initId:String}
end
end LS
namespace LS
open PySem PySem.Spec PyProof.Rows L2
def Zdn (i j k:Nat):MG:=fun d ρ=>match d with
 |.tup [x,.tup [y,z]]=>some (((ρ.set i (some x)).set j (some y)).set k (some z))
 |_=>none
abbrev Zdo (K:PySem.W.Frag) (i j k:Nat):TG:=FL K 2 (Do (Cm i) (Do (FL K 2 (Do (Cm j) (Do (Cm k) FK))) FK))
def emS (elt:Expr) (gens:List Comprehension) (scope:Scope) (pos:Pos) (d:Nat) (acc:Value) (env:Env):Sem Unit:=match gens[d+1]? with
 |some g=>eval g.iter env >>=fun x=>standAt g.iter.pos >>=fun _=>foldedSetIterable g.iter env x >>=fun y=>holding [y] (pyIter y) >>=fun it=>
  runOwn (.compStart (.ListComp elt gens scope pos) (d+1) it acc env) env >>=fun _=>pure ()
 |none=>eval elt env >>=fun x=>call (.builtin "list.append") [acc,x] >>=fun _=>pure ()
section
variable {prog:Program} {w:World} {A:Around} {R:Result→Shared→Prop} {s:Shared} {elt tg iter:Expr} {gens:List Comprehension} {ifs:List Expr} {scope:Scope} {pos:Pos} {d:Nat} {it acc:Value} {env:Env}
end
abbrev Nb (its:List Value) (k:Nat):Obj:={cls:=.type "list",data:=.seq its.toArray k}
structure Zdp (X:Cx) (D:Addr):Prop where
 lo:D≠X.env.locals
 ce:∀x c,X.env.cells.lookup x=some c→c≠D
 pn:∀p∈X.pn,p.1≠D
 ex:D∈X.ex
 fs:D∉X.fs
section
variable {X:Cx} {D:Addr} {its its':List Value} {k k':Nat} {rest:List (Addr×Obj)} {σ:L2.St} {H:Hp} {s:Shared} {h':Heap}
def EM (X:Cx) (D:Addr) (em:Sem Unit) (te:L2.St→Hp→List V→(List V→Hp→Prop)→Prop):Prop:=
 ∀(rest:List (Addr×Obj)) (its:List Value) (k:Nat) (acc:List V) (σ:L2.St) (H:Hp) (s:Shared) (Q:List V→Hp→Prop),Inv X ((D,Nb its k)::rest) σ H s→(∀p∈rest,p.1≠D)→Vals acc its→te σ H acc Q→
  wpAny (model X.prog X.w) X.A em (fun _ s'=>∃its' k' acc' H',Inv X ((D,Nb its' k')::rest) σ H' s'∧Vals acc' its'∧Q acc' H') (fun _ _=>False) s
def Zdq (te:TE):L2.St→Hp→List V→(List V→Hp→Prop)→Prop:=fun σ H acc Q=>acc.length<sizeLine∧te σ H fun y H'=>Q (acc++[y]) H'
def Zdr (wi:TI) (g:TG) (tc:TT) (te:L2.St→Hp→List V→(List V→Hp→Prop)→Prop):L2.St→Hp→List V→(List V→Hp→Prop)→Prop:=fun σ H acc Q=>wi σ H fun J H1=>∃W:Nat→Nat→List V→Hp→Prop,(∃n,W 0 n acc H1)∧∀i n acc H,W i n acc H→
 (J.stop i H∧Q acc H)∨
 (J.go i H∧∀x H',J.yld i H x H'→g x σ H' fun σ2 H2=>Sub σ σ2∧tc σ2 H2 fun b H3=>if b=true then te σ2 H3 acc fun acc' H4=>∃n',n' < n∧W (i+1) n' acc' H4 else ∃n',n' < n∧W (i+1) n' acc H3)
inductive XY (X:Cx) (D:Addr) (rest:List (Addr×Obj)) (σ:L2.St) (W:Nat→Nat→List V→Hp→Prop) (tn:Nat→Heap→Prop) (fp:List Addr) (n:Nat) (s':Shared):Prop where
 |mk (i:Nat) (acc:List V) (H':Hp) (its:List Value) (k:Nat) (w:W i n acc H') (ii:Inv X ((D,Nb its k)::rest) σ H' s') (st:tn i s'.heap) (fr:∀b∈fp,H' b=none) (rv:Vals acc its):XY X D rest σ W tn fp n s'
end
def Zds (cs:List (Option Nat)) (wi:TI) (g:TG) (tc:TT) (te:L2.St→Hp→List V→(List V→Hp→Prop)→Prop):TE:=fun σ H Q=>wi σ H fun J H1=>∃W:Nat→Nat→List V→Hp→Prop,(∃n,W 0 n [] H1)∧∀i n acc H,W i n acc H→
 (J.stop i H∧acc.length≤sizeLine∧∀p,H p=none→Q (.ref p) (Am H p (.lst acc)))∨
 (J.go i H∧∀x H',J.yld i H x H'→g x (BA cs σ) H' fun σ2 H2=>Sub (BA cs σ) σ2∧tc σ2 H2 fun b H3=>if b=true then te σ2 H3 acc fun acc' H4=>∃n',n' < n∧W (i+1) n' acc' H4 else ∃n',n' < n∧W (i+1) n' acc H3)
section
variable {X:Cx} {elt tg iter:Expr} {ifs:List Expr} {gs:List Comprehension} {scope:Scope} {pos:Pos} {Nc:List Str} {cs:List (Option Nat)} {wi:TI} {g:TG} {tc:TT} {te:L2.St→Hp→List V→(List V→Hp→Prop)→Prop}
end
abbrev Dv:=Ai→HD→List D→Out (List D)
abbrev QT:=L2.St→Hp→List V→(List V→Hp→Prop)→Prop
def Frs (js:List Nat) (σ:L2.St):Prop:=∀j∈js,σ[j]?=some none
def Zdt (K:PySem.W.Frag) (is js:List Nat) (gg:TG) (sg:MG):Prop:=
 ∀m H d v ρ σ ρ' Q,DV K m H d v→ER K m H ρ σ→Frs (is++js) σ→sg d ρ=some ρ'→(∀σ',Sub σ σ'→Frs js σ'→ER K m H ρ' σ'→Q σ' H)→gg v σ H Q
theorem Frs.set {js:List Nat} {σ:L2.St} {i:Nat} {v:Option V} (h:Frs js σ) (n:i∉js):Frs js (σ.set i v):=fun j hj=>by
 have hn:i≠j:=by
  rintro rfl
  exact n hj
 rw [Bi hn]
 exact h j hj
noncomputable def Zdu (f:ME):Dv:=fun ρ h acc=>if acc.length<sizeLine then (noErr (f ρ h)).bind fun y h2=>.ok (acc++[y]) h2 else .stuck
open Classical in
noncomputable def I0 (src:A0) (items:List D) (sg:MG) (t:MT) (e:Dv) (ρ:Ai):List D→HD→List D→Out (List D)
 |[],h,acc=>if Bz src items h then .ok acc h else .stuck
 |d::ds,h,acc=>if Bz src items h then match sg d ρ with
   |none=>.stuck
   |some ρ1=>(noErr (t ρ1 h)).bind fun b h1=>if b=true then (noErr (e ρ1 h1 acc)).bind fun acc2 h2=>I0 src items sg t e ρ ds h2 acc2 else I0 src items sg t e ρ ds h1 acc
  else .stuck
noncomputable def Zdv (it:MI) (sg:MG) (t:MT) (e:Dv):Dv:=fun ρ h acc=>(noErr (it ρ h)).bind fun x h1=>I0 x.2 x.1 sg t e ρ x.1 h1 acc
noncomputable def Kz (cs:List (Option Nat)) (it:MI) (sg:MG) (t:MT) (e:Dv):ME:=fun ρ h=>(it ρ h).bind fun x h1=>(I0 x.2 x.1 sg t e (B4 cs ρ) x.1 h1 []).bind B2
def tEm (K:PySem.W.Frag) (js:List Nat) (e:Dv):QT:=fun σ H acc Q=>∃m ρ h dacc,HR K m h H∧ER K m H ρ σ∧DVs K m H dacc acc∧Frs js σ∧Post K (Dz K) m H E0 Q (e ρ h dacc)
theorem EM.imp {X:Cx} {D:Addr} {em:Sem Unit} {te te':QT} (h:EM X D em te) (f:∀σ H acc Q,te' σ H acc Q→te σ H acc Q):EM X D em te':=
 fun rest its k acc σ H s Q I hr rv z=>h rest its k acc σ H s Q I hr rv (f _ _ _ _ z)
inductive XZ {β:Type} (K:PySem.W.Frag) (E:XK) (α:Type) (R:List Addr→Hp→α→β→Prop) (Q:β→Hp→Prop) (kk:List D→HD→Out α) (src:A0) (items:List D) (sg:MG) (t:MT) (e:Dv) (ρ:Ai) (m1:List Addr) (H1:Hp) (i n:Nat) (acc:List V) (H2:Hp):Prop where
 |mk (en:n=items.length - i) (l:i≤items.length) (m2:List Addr) (h2:HD) (dacc:List D) (p:m1 <+:m2) (k:Kp H1 H2) (hr:HR K m2 h2 H2) (da:DVs K m2 H2 dacc acc) (q:Post K R m2 H2 E Q ((I0 src items sg t e ρ (items.drop i) h2 dacc).bind kk)):XZ K E α R Q kk src items sg t e ρ m1 H1 i n acc H2
section
variable {X:Cx} {E:XK} {D:Addr} {elt tg iter:Expr} {ifs:List Expr} {gs gens:List Comprehension} {scope:Scope} {pos:Pos} {Nc:List Str} {cs:List (Option Nat)} {it:MI} {gg:TG} {sg:MG} {t:MT} {f:ME} {e:Dv} {d:Nat} {is js:List Nat}
end
section
variable {α β:Type} {cs:List (Option Nat)} {it:MI} {sg:MG} {t:MT} {f:ME} {e:Dv} {ρ:Ai} {h:HD} {src:A0} {xs:List α} {φ:α→D} {acc:List D}
noncomputable def X0 (cs:List (Option Nat)) (it:MI) (sg:MG) (t:MT) (e:Dv):ME:=Ah (Ao BZ) (Aa (Kz cs it sg t e) Ae)
noncomputable def X1 (cs:List (Option Nat)) (it:MI) (sg:MG) (t:MT) (e:Dv):ME:=Ah (Ao DD) (Aa (Kz cs it sg t e) Ae)
@[simp] theorem Zdw:Ah (Ao BZ) (Aa (Kz cs it sg t e) Ae) ρ h=X0 cs it sg t e ρ h:=rfl
@[simp] theorem Zdx:Ah (Ao DD) (Aa (Kz cs it sg t e) Ae) ρ h=X1 cs it sg t e ρ h:=rfl
end
end LS
namespace LS
open PySem
inductive TlN (h:Heap) (ns:List Str) (bB:List Value):List Value→Prop
 |base:TlN h ns bB bB
 |own {a:Addr} {c0:Value} {dd:Option Addr} {cd:ClassData} {sl:Array (Option Value)} {m:Str→Option Value} {tl:List Value} (ha:h.get? a=some {cls:=c0,dict:=dd,data:=.cls cd,slots:=sl}) (hm:h.Ns cd.ns m) (no:∀n∈ns,m n=none) (r:TlN h ns bB tl):TlN h ns bB (.ref a::tl)
theorem TlN.keeps {h h':Heap} {ns:List Str} {bB tl:List Value} (T:TlN h ns bB tl) (k:∀b o,h.get? b=some o→h'.get? b=some o):TlN h' ns bB tl:=by
 induction T with
 |base=>exact .base
 |own ha hm no _ ih=>exact .own (k _ _ ha) (hm.keeps k) no ih
theorem TlN.has {h:Heap} {ns:List Str} {bB tl:List Value} {v:Value} (T:TlN h ns bB tl) (hv:bB.contains v=true):tl.contains v=true:=by
 induction T with
 |base=>exact hv
 |own ha hm no _ ih=>rw [List.contains_cons,ih,Bool.or_true]
section
variable {M:Model} {A:Around} {E:Value→Shared→Prop} {h:Heap} {g:Array GenState} {d:Drawn} {t:Nat} {os:OsState}
theorem TlN.look {ns:List Str} {bB tl:List Value} {n:Str} {y:Option Value} {Q:Option Value→Shared→Prop} (T:TlN h ns bB tl) (hn:n∈ns) (e:lookupAlong bB n=pure y) (q:Q y ⟨h,g,d,t,os⟩):wpAny M A (lookupAlong tl n) Q E ⟨h,g,d,t,os⟩:=by
 induction T with
 |base=>rw [e];exact wpAny_pure q
 |own ha hm no _ ih=>
  rw [lookupAlong_cons];refine wpAny_bind (wpAny_classOwn_cls ha hm ?_);rw [no n hn]
  exact ih
variable {nm q:Str} {C N x:Addr} {bs bm bB:List Value} {hd:Bool} {sn:List Str} {sub:List Value} {ab:Bool} {col:Option Bool} {dd:Option Addr} {k0 k1 k2 k3 k5:Option Value} {B newId sa owner:String} {ns:List Str} {mN mA:Str→Option Value} {name:Str} {v:Value}
end
section
variable {prog:Program} {w:World} {A:Around} {E:Value→Shared→Prop} {h:Heap} {g:Array GenState} {d:Drawn} {t:Nat} {os:OsState}
variable {nm q:Str} {C N x:Addr} {bs bm bB:List Value} {sn:List Str} {sub:List Value} {ab:Bool} {col:Option Bool} {dd:Option Addr} {k0 k1 k2 k3 k5:Option Value} {B newId sa owner:String} {ns:List Str} {mN mA:Str→Option Value} {name:Str} {v:Value}
structure Zdy (h h':Heap) (x C:Addr) (name:Str) (v:Value) (mA:Str→Option Value):Prop where
 inst:h'.Inst x C (fun y=>if y=name then some v else mA y)
 keep:∀b o,b≠x→(∀o0 dx,h.get? x=some o0→o0.dict=some dx→b≠dx)→h.get? b=some o→h'.get? b=some o
 new:∀o0,h.get? x=some o0→o0.dict=none→∃o1,h'.get? x=some o1∧o1.dict=some h.objs.size
 same:∀o0,h.get? x=some o0→∃o1,h'.get? x=some o1∧o1.cls=o0.cls∧o1.data=o0.data∧o1.slots=o0.slots∧∀dx,o0.dict=some dx→o1.dict=some dx
end
section
variable {prog:Program} {w:World} {A:Around} {E:Value→Shared→Prop} {h:Heap} {g:Array GenState} {d:Drawn} {t:Nat} {os:OsState}
variable {nm q:Str} {C N x:Addr} {bs bm bB:List Value} {sn:List Str} {sub:List Value} {ab:Bool} {col:Option Bool} {dd:Option Addr} {k0 k1 k2 k3 k5:Option Value} {B newId:String} {ns:List Str} {mN mA:Str→Option Value} {name:Str} {v:Value}
end
end LS
namespace LS
open PySem PySem.Spec PyProof.Rows L2
def tmNames:List Str:=["__init__","__setattr__","__getattribute__","__getattr__","many","most"]
def QU (K:PySem.W.Frag) (ns:List Str) (bB:List Value):List Value→Bool
 |[]=>bB==[]
 |v::r=>(v::r)==bB||match v with
  |.ref a=>(match K.lookup a with
   |some o=>(match clsOf o.data with
    |some cd=>PySem.W.nsOkIn K cd.ns&&(ns.all (fun n=>PySem.W.nsIn K cd.ns n==some none)&&QU K ns bB r)
    |none=>false)
   |none=>false)
  |_=>false
theorem TlN.tail {h:Heap} {ns:List Str} {bB tl:List Value} (T:TlN h ns bB tl) (hi:("__init__":Str)∈ns):OwnTail h bB tl:=by
 induction T with
 |base=>exact .base
 |own ha hm no _ ih=>exact .own ha hm (no _ hi) ih
inductive X2 (h:Heap) (C fI:Addr):Prop where
 |mk (bm:List Value) (N:Addr) (nm q:Str) (bs:List Value) (sn:List Str) (sub:List Value) (ab:Bool) (col:Option Bool) (dd:Option Addr) (k0 k1 k2 k3 k5:Option Value) (mN:Str→Option Value)
  (hC:h.get? C=some (excClassObj nm q C N bs bm true sn sub ab col dd k0 k1 k2 k3 k5 "ValueError.__new__")) (hN:h.Ns N mN) (hi:mN "__init__"=some (.ref fI)) (no:∀n∈tmNames.tail,mN n=none) (T:TlN h tmNames IK bm):X2 h C fI
def X3 (K:PySem.W.Frag) (C fI:Addr) (o:Obj) (cd:ClassData):Bool:=
 decide (o.cls=.type "type")&&(decide (cd.mro=.ref C::cd.mro.tail)&&(!cd.hasDel&&(QU K tmNames IK cd.mro.tail&&(PySem.W.nsOkIn K cd.ns&&(PySem.W.nsIn K cd.ns "__init__"==some (some (.ref fI))&&(tmNames.tail.all (fun n=>PySem.W.nsIn K cd.ns n==some none)&&(decide (o.slots.toList.length=6)&&(decide (o.slots.toList[4]?=some (some (.builtin "ValueError.__new__")))&&cd.hasDict))))))))
def tmX (K:PySem.W.Frag) (C fI:Addr):Bool:=match K.lookup C with
 |some o=>(match clsOf o.data with
  |some cd=>X3 K C fI o cd
  |none=>false)
 |none=>false
def X4 (C t0:Addr) (da:Option Addr):Obj:={cls:=.ref C,dict:=da,data:=.fields #[.ref t0,.none,.none,.none,.bool false,.none]}
def KA (C e:Addr) (da:Option Addr) (h:Heap):Prop:=∃t0,h.get? e=some (X4 C t0 da)
def Zdz (d:Addr) (m:Str→Option Value) (h:Heap):Prop:=h.Ns1 d m
def one (n:Str) (u:Value):Str→Option Value:=fun y=>if y=n then some u else none
section
variable {X:Cx} {pins:List (Addr×Obj)} {σ:L2.St} {H:Hp} {s:Shared} {E:Value→Shared→Prop} {A:Around} {C fI e da:Addr} {n:Str} {u:Value}
def del (H:Hp) (a:Addr):Hp:=fun b=>if b=a then none else H b
theorem QV {H:Hp} {a b:Addr} (h:b≠a):del H a b=H b:=by unfold del;rw [if_neg h]
theorem Kp.del {H:Hp} {a:Addr} {φ:Heap→Prop} (h:H a=some (.mex φ)):Kp H (LS.del H a):=fun b o e i=>by
 rw [QV]
 ·exact e
 ·intro z
  rw [z,h] at e;cases e;cases i
theorem HR.del {K:PySem.W.Frag} {m:List Addr} {h:HD} {H:Hp} {a:Addr} {φ:Heap→Prop} (r:HR K m h H) (e:H a=some (.mex φ)):HR K m h (LS.del H a):=r.same (.del e) fun b hb=>QV fun z=>by
 subst z
 obtain ⟨l,hl,el⟩:=Jq hb
 have hl':l<h.length:=by rw [←r.len];exact hl
 have c:=r.cells l h[l] m[l] (AW hl') (AW hl)
 rw [el] at c
 cases hc:h[l] with
 |lst ds=>rw [hc] at c;obtain ⟨vs,q,_⟩:=c;rw [e] at q;cases q
 |tab=>rw [hc] at c;obtain ⟨_,ps,q,_⟩:=c;rw [e] at q;cases q
 |dic fz kvs=>
  rw [hc] at c
  obtain ⟨es,q,_⟩:=c
  cases fz with
  |true=>obtain ⟨o,q⟩:=q;rw [e] at q;cases q
  |false=>exact absurd (e.symm.trans q) (by intro z;cases z)
end
end LS
namespace LS
open PySem PySem.Spec PyProof.Rows L2 PySem.Calls PySem.W
def swX (K:PySem.W.Frag) (S:Addr):Bool:=PySem.W.readsIn K S (.type "type")&&(match PySem.W.findCls K (.ref S) (.type "type") "__init__" with
 |some (.val (.builtin b))=>b=="ValueError.__init__"
 |_=>false)
def ZdA (H₀:Hp) (C:Addr) (ta:TA):TE:=fun σ H Q=>∃e,H₀ e≠none∧H e=some (.mex (KA C e none))∧ta σ (del H e) fun vs H1=>∃x,vs=[.ref e,.str x]∧(H1 e=none→Q .non (Am H1 e (.mex (KA C e none))))
section
variable {X:Cx} {C fI S:Addr} {ta:TA} {a1 a2:Expr} {p1 p2 p5:Pos}
end
end LS
namespace LS
open PySem PySem.Spec PyProof.Rows L2 PySem.Calls
section
variable {X:Cx} {C fI S:Addr}
end
noncomputable abbrev QW:ME:=M0 (Qt (Ab 1) (Xv " are more than " (Qt (Ab 2) Xu)))
inductive QX (K:PySem.W.Frag) (C:Addr) (vs:List V) (H:Hp) (Q:VK) (E:XK):Prop
 |mk (e:Addr) (a b:Int) (m:List Addr) (h h2:HD) (x:Str) (ev:vs=[.ref e,.int a,.int b]) (hr:HR K m h H) (hH:H e=some (.mex (KA C e none))) (hj:QW [none,some (.int a),some (.int b)] h=.ok (.str x) h2)
  (q:∀m1 H1 da,m <+:m1→Kp (del H e) H1→HR K m1 h2 H1→H1 e=none→H1 da=none→da≠e→Q .non (Am (Am H1 e (.mex (KA C e (some da)))) da (.xd [("many",.int a),("most",.int b)]))):QX K C vs H Q E
section
variable {P:Program} {w:World} {K:PySem.W.Frag} {mg:Str→Option Value} {base:Heap} {C f S:Addr} {k:Nat} {qual:Str} {scope:Scope} {p1 p2 p3 p4 p5 p6 q1 q2 q3 q4 r1 r2 r3 r4:Pos} {js:Expr}
abbrev ZdB (js:Expr) (p1 p2 p3 p5 p6 q1 q2 q3 q4 r1 r2 r3 r4:Pos):List Stmt:=[.Expr (.Call (.Attribute (.Name "SwitchError" p1) "__init__" p2) [.Name "self" p3,js] [] p5) p6,.Assign [.Attribute (.Name "self" q1) "many" q2] (.Name "many" q3) q4,.Assign [.Attribute (.Name "self" r1) "most" r2] (.Name "most" r3) r4]
end
noncomputable def ZdC (fa:MA):MS:=fun ρ h=>(fa ρ h).bind fun xs h1=>match xs with
 |[.int a,.int b]=>(match QW [none,some (.int a),some (.int b)] h1 with
  |.ok (.str _) h2=>.err (Ea "TooMany") [("many",.int a),("most",.int b)] h2
  |_=>.stuck)
 |_=>.stuck
section
variable {X:Cx} {E:XK} {C fI:Addr} {fd:FuncData} {k:Nat}
end
def X5 (nm:Str):D→HD→Out D
 |.exc n fs,h=>if n="TooMany" then (match fs.lookup nm with
  |some i=>.ok (.int i) h
  |none=>.stuck) else .stuck
 |_,_=>.stuck
noncomputable def ZdD (f:ME) (nm:Str):ME:=fun ρ h=>(f ρ h).bind fun d h1=>X5 nm d h1
section
variable {X:Cx} {E:XK} {C fI:Addr}
end
end LS
namespace Tp
open PySem PySem.W PySem.Spec PySem.Calls PyProof.Rows
section
variable {α β:Type}
noncomputable def fN (n:Nat) (k:Nat→α):α:=@Nat.rec (fun _=>α) (k 0) (fun m _=>k (Nat.succ m)) n
theorem KB (n:Nat) (k:Nat→α):fN n k=k n:=by cases n<;>rfl
noncomputable def fL (l:List β):(List β→α)→α:=@List.rec β (fun _=>(List β→α)→α) (fun k=>k []) (fun a _ ih k=>ih fun l'=>k (a::l')) l
theorem Ja:∀(l:List β) (k:List β→α),fL l k=k l
 |[],_=>rfl
 |a::l,k=>Ja l fun l'=>k (a::l')
noncomputable def fE (l:List DictEntry):(List DictEntry→α)→α:=@List.rec DictEntry (fun _=>(List DictEntry→α)→α) (fun k=>k []) (fun a _ ih k=>ih fun l'=>@DictEntry.rec (fun _=>α) (fun x y z=>k (⟨x,y,z⟩::l')) a) l
theorem QY:∀(l:List DictEntry) (k:List DictEntry→α),fE l k=k l
 |[],_=>rfl
 |⟨_,_,_⟩::l,k=>QY l fun l'=>k (_::l')
noncomputable def fD (d:Data) (k:Data→α):α:=@Data.rec (fun _=>α) (k .plain) (fun v=>k (.prim v)) (fun x n=>@Array.rec Value (fun _=>α) (fun l=>fL l fun l=>fN n fun n=>k (.seq ⟨l⟩ n)) x)
 (fun x n=>@Array.rec DictEntry (fun _=>α) (fun l=>fE l fun l=>fN n fun n=>k (.dict ⟨l⟩ n)) x) (fun x n t=>k (.set x n t)) (fun b n=>k (.bytearray b n)) (fun v=>k (.cell v)) (fun f=>k (.func f)) (fun c=>k (.cls c))
 (fun x=>@Array.rec Value (fun _=>α) (fun l=>fL l fun l=>k (.fields ⟨l⟩)) x) (k .freed) d
theorem X6 (d:Data) (k:Data→α):fD d k=k d:=by
 cases d with
 |seq x n=>cases x;simp only [fD,Ja,KB]
 |dict x n=>cases x;simp only [fD,QY,KB]
 |fields x=>cases x;simp only [fD,Ja]
 |_=>rfl
noncomputable def fO (o:Obj) (k:Obj→α):α:=@Obj.rec (fun _=>α) (fun c d da sl=>fD da fun da=>k ⟨c,d,da,sl⟩) o
theorem QZ (o:Obj) (k:Obj→α):fO o k=k o:=by cases o;simp only [fO,X6]
noncomputable def fT (t:BT):(BT→α)→α:=@BT.rec (fun _=>(BT→α)→α) (fun k=>k .nil) (fun v _ _ il ir k=>fO v fun v=>il fun l=>ir fun r=>k (.node v l r)) t
theorem Nd:∀(t:BT) (k:BT→α),fT t k=k t
 |.nil,_=>rfl
 |.node v l r,k=>by
  show fO v (fun v=>fT l fun l=>fT r fun r=>k (.node v l r))=_
  rw [QZ,Nd l,Nd r]
noncomputable def fS (s:SharedT) (k:SharedT→α):α:=@SharedT.rec (fun _=>α) (fun t n li g d tk os=>fT t fun t=>fN n fun n=>fN tk fun tk=>@Drawn.rec (fun _=>α) (fun a b c e=>@Array.rec GenState (fun _=>α) (fun g=>fL g fun g=>k ⟨t,n,li,⟨g⟩,⟨a,b,c,e⟩,tk,os⟩) g) d) s
theorem Nf (s:SharedT) (k:SharedT→α):fS s k=k s:=by
 obtain ⟨t,n,li,⟨g⟩,⟨a,b,c,e⟩,tk,os⟩:=s
 simp only [fS,Nd,KB,Ja]
noncomputable def fP (p:Pos) (k:Pos→α):α:=@Pos.rec (fun _=>α) (fun a b c d=>fN a fun a=>fN b fun b=>fN c fun c=>fN d fun d=>k ⟨a,b,c,d⟩) p
theorem Ng (p:Pos) (k:Pos→α):fP p k=k p:=by cases p;simp only [fP,KB]
end
section
variable (stp:SharedT→Thread→Option (SharedT×Thread)) (ok:Thread→Bool) (seg:Nat→SharedT→Thread→Option (Flow×SharedT×Code×Pos))
noncomputable def HB (env:Env) (c:Code) (f:Nat):List (List Stmt)→SharedT→Pos→List Code→Option (SharedT×Pos×List Code)
 |[],s,pos,cs=>some (s,pos,cs)
 |l::ls,s,pos,cs=>match seg f s (piecesOf l env c pos [topFrame ⟨0,0,0,0⟩]) with
  |some (.next,s',c',pos')=>fS s' fun s'=>fP pos' fun pos'=>HB env c f ls s' pos' (c'::cs)
  |_=>none
def KC:Nat→SharedT→Thread→Option (SharedT×Thread)
 |0,s,t=>some (s,t)
 |n+1,s,t=>match through t with
  |true=>none
  |false=>match ok t with
   |false=>none
   |true=>match stp s t with
    |some (s',t')=>KC n s' t'
    |none=>none
def KG:Nat→SharedT→Thread→Option SharedT
 |0,_,_=>none
 |n+1,s,t=>match through t with
  |true=>some s
  |false=>match ok t with
   |false=>none
   |true=>match stp s t with
    |some (s',t')=>KG n s' t'
    |none=>none
def cut:Nat→List Stmt→List (List Stmt)
 |0,l=>[l]
 |n+1,l=>match l with
  |[]=>[]
  |x::l=>[x]::cut n l
theorem Q0:∀(n:Nat) (l:List Stmt),(cut n l).flatten=l
 |0,l=>by simp [cut]
 |_+1,[]=>rfl
 |n+1,x::l=>by simp [cut,Q0 n l]
theorem Q1:∀(n:Nat) (l:List Stmt),(cut n l).length≤n+1
 |0,l=>AD _
 |_+1,[]=>EF _
 |n+1,x::l=>Nat.succ_le_succ (Q1 n l)
def Nh (p:Program):Env:={scope:=p.main.scope,locals:=mainNs,globals:=mainNs,cells:=[],code:=.ref 13,frame:=some 14}
def Ga (p:Program):Code:=.body (behindTheImports p) (Nh p)
noncomputable def Eh (p:Program) (S0:SharedT):Option (Thread×List Code×SharedT):=match KC stp ok 12 S0 (topStub p) with
 |some (sa,ta)=>match seg 1 sa (blockOf (behindTheImports p) (Nh p) (Ga p) ⟨0,0,0,0⟩ [topFrame ⟨0,0,0,0⟩]) with
  |some (.next,sb,cb,pb)=>fS sb fun sb=>fP pb fun pb=>match HB seg (Nh p) (Ga p) 2000 (cut 400 (behindTheImports p)) sb pb [cb] with
   |some (sf,pf,cs)=>match KG stp ok 2 sf ⟨doneF .next,Ga p,pf,[topFrame ⟨0,0,0,0⟩]⟩ with
    |some sg=>some (ta,cs,sg)
    |none=>none
   |none=>none
  |_=>none
 |none=>none
end
noncomputable def Q2 (P:Params) (os:OsState):SharedT:=⟨((boot_heap P).objs.toList.foldl (fun (x:BT×Nat) o=>(x.1.ins x.2 o,x.2+1)) (.nil,0)).1,11,(boot_heap P).life,⟨[]⟩,boot_drawn,boot_toks,os⟩
theorem X7 (P:Params) (os:OsState):(Q2 P os).abs=⟨boot_heap P,⟨[]⟩,boot_drawn,boot_toks,os⟩:=by kernel_rfl
section
variable {α:Type}
noncomputable def Ni (l:List Obj):(List Obj→α)→α:=@List.rec Obj (fun _=>(List Obj→α)→α) (fun k=>k []) (fun a _ ih k=>fO a fun a=>ih fun l'=>k (a::l')) l
theorem Q3:∀(l:List Obj) (k:List Obj→α),Ni l k=k l
 |[],_=>rfl
 |a::l,k=>by show fO a (fun a=>Ni l fun l'=>k (a::l'))=_;rw [QZ,Q3]
noncomputable def AX (s:SharedT) (k:Shared→α):α:=Ni (s.tree.list s.n) fun l=>k ⟨⟨⟨l⟩,s.life⟩,s.gens,s.drawn,s.toks,s.os⟩
theorem X8 (s:SharedT) (k:Shared→α):AX s k=k s.abs:=Q3 _ _
end
section
variable {tb:String→Option Builtin} {p:Program} {w:World} {m0:Nat} {ann:Option Value}
theorem Q4:∀{n:Nat} {s s':SharedT} {t t':Thread},KC (stepT (denote tb) p w) (stepOk m0 ann) n s t=some (s',t')→topGo tb p w m0 ann n s.abs t=some (s'.abs,t')
 |0,_,_,_,_,h=>by cases h;rfl
 |n+1,s,s',t,t',h=>by
  unfold KC at h
  unfold topGo
  cases he:through t with
  |true=>rw [he] at h;cases h
  |false=>
   rw [he] at h
   cases hk:stepOk m0 ann t with
   |false=>rw [hk] at h;cases h
   |true=>
    rw [hk] at h
    cases hs:stepT (denote tb) p w s t with
    |none=>rw [hs] at h;cases h
    |some r=>obtain ⟨s₂,t₂⟩:=r;rw [hs] at h;rw [stepT_spec hs];exact Q4 h
theorem Q5:∀{n:Nat} {s s':SharedT} {t:Thread},KG (stepT (denote tb) p w) (stepOk m0 ann) n s t=some s'→topRun tb p w m0 ann n s.abs t=some s'.abs
 |0,_,_,_,h=>by cases h
 |n+1,s,s',t,h=>by
  unfold KG at h
  unfold topRun
  cases he:through t with
  |true=>rw [he] at h;cases h;rfl
  |false=>
   rw [he] at h
   cases hk:stepOk m0 ann t with
   |false=>rw [hk] at h;cases h
   |true=>
    rw [hk] at h
    cases hs:stepT (denote tb) p w s t with
    |none=>rw [hs] at h;cases h
    |some r=>obtain ⟨s₂,t₂⟩:=r;rw [hs] at h;rw [stepT_spec hs];exact Q5 h
theorem Nj {seg:Nat→SharedT→Thread→Option (Flow×SharedT×Code×Pos)} {env:Env} {c:Code} {f:Nat}:∀{ls:List (List Stmt)} {s sf:SharedT} {pos pf:Pos} {c0 cs:List Code},HB seg env c f ls s pos c0=some (sf,pf,cs)→∀x∈c0,x∈cs
 |[],_,_,_,_,_,_,h,x,hx=>by cases h;exact hx
 |l::ls,s,sf,pos,pf,c0,cs,h,x,hx=>by
  unfold HB at h
  split at h
  ·rw [Nf,Ng] at h;exact Nj h x (.tail _ hx)
  ·cases h
theorem Q6 {env:Env} {c:Code} {f:Nat}:∀{ls:List (List Stmt)} {s sf:SharedT} {pos pf:Pos} {c0 cs:List Code},HB (segRunT tb p w m0 ann 1) env c f ls s pos c0=some (sf,pf,cs)→(∀x∈cs,x=c)→∀{N:Nat} {r:Shared},
 topRun tb p w m0 ann N sf.abs ⟨doneF .next,c,pf,[topFrame ⟨0,0,0,0⟩]⟩=some r→topRun tb p w m0 ann (ls.length*f+N) s.abs (restOf ls.flatten env c pos [topFrame ⟨0,0,0,0⟩])=some r
 |[],s,sf,pos,pf,c0,cs,h,hc,N,r,k=>by
  cases h
  rw [GQ,Nat.zero_mul,Nat.zero_add]
  exact piece_nil k
 |l::ls,s,sf,pos,pf,c0,cs,h,hc,N,r,k=>by
  unfold HB at h
  split at h
  ·rename_i s' c' pos' e
   rw [Nf,Ng] at h
   have e1:=segRun_of e
   rw [hc c' (Nj h c' (.head _))] at e1
   have:=piece_app (rest:=ls.flatten) e1 (Q6 h hc k)
   rw [E7,GT,HQ (ls.length*f) f,Nat.add_assoc]
   exact this
  ·cases h
end
noncomputable def X9 {α:Type} (OS:Program→List Str→List Str→(Shared→Bool)→Bool→Shared→_) (IM:List Stmt→List Str) (p q:Program) (loose:List Str) (Yf:Shared→α) (H₀:Heap) (s:Shared):=
 ((staticsOk (IM p.main.body) H₀ s.heap&&namesBound p s.heap&&gensDone s&&laidKept H₀ s.heap),(OS q loose (IM p.main.body) (fun _=>true) true s:type_of% (openSeen q loose [] (fun _=>true) true s)),Yf s)
theorem left_of {p q:Program} {loose:List Str} {α:Type} {Yf:Shared→α} {Ya:World→α} {n:Nat} (e:opening p=plainProg p.main.scope.names) (fm:∀s,fenceModules? p s=some s)
 (size:∀w:World,((boot_heap w.params).isNs mainGlobals&&(Array.mk ([]:List GenState)).size==0,(boot_heap w.params).objs.size,(boot_heap w.params).nsMap mainGlobals "__annotations__")=(true,11,some (.ref 6)))
 (h:∀(w:World) (os:OsState),(Eh (stepT (denote treeTable) p w) (stepOk 11 (some (.ref 6))) (segRunT treeTable p w 11 (some (.ref 6)) 1) p (Q2 w.params os)).map (fun r=>(r.1,r.2.1,AX r.2.2 (X9 openSeen importedModules p q loose Yf (boot_heap w.params))))=
  some (⟨denote treeTable (Ga p),Ga p,⟨0,0,0,0⟩,[topFrame ⟨0,0,0,0⟩]⟩,List.replicate n (Ga p),(true,openGood q loose,Ya w))):
 LeftO p q loose (fun _=>true) Yf Ya 1000000:=fun w=>by
 obtain ⟨⟨hp,gs,d,k,os⟩,e0,e'⟩:=qaY.mp (boot_open (N:=1000000) e rfl fm w)
 obtain ⟨rfl,rfl,rfl,rfl⟩:hp=boot_heap w.params∧gs=Array.mk []∧d=boot_drawn∧k=boot_toks:=by simpa using e'
 obtain ⟨z1,z2,z3⟩:_∧_∧_:=by simpa only [Prod.mk.injEq] using size w
 obtain ⟨⟨ta,cs,sg⟩,h1,h2⟩:=qaY.mp (h w os)
 dsimp only at h2
 rw [X8] at h2
 obtain ⟨h3,h4⟩:=Prod.mk.inj h2
 obtain ⟨h5,h6⟩:=Prod.mk.inj h4
 obtain ⟨l1,h7⟩:=Prod.mk.inj h6
 obtain ⟨l2,l3⟩:=Prod.mk.inj h7
 have hcs:∀x∈cs,x=Ga p:=fun x hx=>by rw [h5] at hx;exact Lk hx
 have run:topRun treeTable p w 11 (some (.ref 6)) 1000000 ⟨boot_heap w.params,Array.mk [],boot_drawn,boot_toks,os⟩ (topStub p)=some sg.abs:=by
  rw [←X7]
  unfold Eh at h1
  split at h1
  ·rename_i sa ta' ea
   split at h1
   ·rename_i sb cb pb eb
    rw [Nf,Ng] at h1
    split at h1
    ·rename_i sf pf cs' ec
     split at h1
     ·rename_i sg' eg
      cases h1
      have hb:=segRun_of eb
      rw [hcs cb (Nj ec cb (.head _))] at hb
      have c1:=Q6 ec hcs (Q5 eg)
      rw [Q0] at c1
      have c2:=piece_block hb c1
      have c3:=Q4 ea
      rw [h3] at c3
      have c4:=go_top c3 c2
      have hl:=Q1 400 (behindTheImports p)
      have:=topRun_mono (1000000 - (12+(1+((cut 400 (behindTheImports p)).length*2000+2)))) _ _ _ _ c4
      rwa [show 12+(1+((cut 400 (behindTheImports p)).length*2000+2))+(1000000 - (12+(1+((cut 400 (behindTheImports p)).length*2000+2))))=1000000 by omega] at this
     ·cases h1
    ·cases h1
   ·cases h1
  ·cases h1
 have t:topFrom treeTable p w 1000000 ⟨boot_heap w.params,Array.mk [],boot_drawn,boot_toks,os⟩=some sg.abs:=by
  unfold topFrom
  dsimp only
  rw [z1,z2,z3,run]
  show (match staticsOk (importedModules p.main.body) (boot_heap w.params) sg.abs.heap&&namesBound p sg.abs.heap&&gensDone sg.abs&&laidKept (boot_heap w.params) sg.abs.heap with |true=>_ |false=>_)=_
  rw [l1]
 unfold openEnds
 rw [e0]
 show (topFrom treeTable p w 1000000 _).map _=_
 rw [t]
 exact congrArg some (Prod.ext l2 l3)
def Q7 (h:Heap) (a:Addr):Option (Addr×Obj):=match h.get? a with
 |some o=>(match o.cls,a==mainNs||a==cStatics with
  |.none,false=>none
  |_,_=>some (a,o))
 |none=>none
def KH (h:Heap):Frag:=(List.range h.objs.size).filterMap (Q7 h)
theorem lookup_mem {a:Addr} {o:Obj}:∀{l:Frag},l.lookup a=some o→(a,o)∈l
 |[],h=>by cases h
 |(b,o')::l,h=>by
  rw [FE] at h
  split at h
  ·rename_i q
   cases h
   rw [beq_iff_eq.mp q]
   exact .head _
  ·exact .tail _ (lookup_mem h)
theorem Yb (h:Heap):(KH h).In h:=fun a o e=>by
 obtain ⟨b,_,hb⟩:=List.mem_filterMap.mp (lookup_mem e)
 unfold Q7 at hb
 split at hb
 ·rename_i o' e'
  split at hb
  ·cases hb
  ·cases hb;exact e'
 ·cases hb
def blank (fd:FuncData):FuncData:={fd with kwdefaults:=.none,doc:=.none,pyModule:=.none,annotations:=none,code:=.none,closureTuple:=.none}
def Jb (K:Frag) (n:Str):Option (FuncData×Bool×Bool):=match nsIn K mainGlobals n with
 |some (some (.ref f))=>(match K.lookup f with
  |some ⟨_,_,.func fd,_⟩=>some (blank fd,codeIn K fd.code n,keepIn K (.ref f))
  |_=>none)
 |_=>none
abbrev KI (n:Str) (st:Stmt):FuncData:=fnOf n n (L2.defArgs st) (L2.defBody st) (L2.defScope st) .none .none .none .none none .none .none
inductive KJ (K:Frag) (n:Str) (st:Stmt):Prop where
 |mk (f:Addr) (od an:Option Addr) (sl:Array (Option Value)) (oc kV dc pm cd ct:Value) (a:nsIn K mainGlobals n=some (some (.ref f)))
  (l:K.lookup f=some ⟨oc,od,.func (fnOf n n (L2.defArgs st) (L2.defBody st) (L2.defScope st) .none kV dc pm an cd ct),sl⟩) (c:codeIn K cd n=true) (k:keepIn K (.ref f)=true):KJ K n st
theorem Yc {K:Frag} {n:Str} {st:Stmt} (e:Jb K n=some (KI n st,true,true)):KJ K n st:=by
 unfold Jb at e
 split at e
 ·rename_i f hf
  split at e
  ·rename_i oc od fd sl hl
   obtain ⟨e1,e2⟩:=Prod.mk.inj (Option.some.inj e)
   obtain ⟨e3,e4⟩:=Prod.mk.inj e2
   obtain ⟨x1,x2,x3,x4,x5,x6,x7,x8,x9,x10,x11,x12,x13,x14,x15⟩:=fd
   replace e1:FuncData.mk x1 x2 x3 x4 x5 x6 x7 x8 .none .none .none none .none .none x15=KI n st:=e1
   injection e1 with y1 y2 y3 y4 y5 y6 y7 y8 y9 y10 y11 y12 y13 y14 y15
   subst x1 x2 x3 x4 x5 x6 x7 x8 x15
   exact ⟨f,od,x12,sl,oc,x9,x10,x11,x13,x14,hf,hl,e3,e4⟩
  ·cases e
 ·cases e
def Jc (K:Frag) (x:Str):Option Int:=match nsIn K mainGlobals x with
 |some (some (.int v _))=>some v
 |_=>none
theorem Yd {K:Frag} {x:Str} {v:Int} (e:Jc K x=some v):∃t,nsIn K mainGlobals x=some (some (.int v t)):=by
 unfold Jc at e
 split at e
 ·rename_i t h;cases e;exact ⟨t,h⟩
 ·cases e
def Nk (K:Frag) (h:Heap):Option (Option Obj×Bool×Bool):=match LS.tabP K with
 |some (c,T)=>some (h.get? T,codeHdIn K c T,(K.lookup T).isNone)
 |none=>none
structure Want where
 fs:List (Str×Stmt)
 cs:List (Str×Int)
 bs:List Str
abbrev KL:=List (Option (FuncData×Bool×Bool))×List (Option Int)×List (Option (Option Value))×Bool×Option (Option Obj×Bool×Bool)
noncomputable def obsK (W:Want) (s:Shared):KL:=fL (KH s.heap) fun K=>
 (W.fs.map fun x=>Jb K x.1,W.cs.map fun x=>Jc K x.1,W.bs.map (nsIn K mainGlobals),LS.etOk K,Nk K s.heap)
def valK (W:Want):KL:=(W.fs.map fun x=>some (KI x.1 x.2,true,true),W.cs.map fun x=>some x.2,W.bs.map fun _=>some none,true,some (some (tabObj #[]),true,true))
inductive Has (W:Want) (K:Frag) (c T:Addr):Prop where
 |mk (fs:∀(i:Nat) n st,W.fs[i]?=some (n,st)→KJ K n st) (cs:∀(i:Nat) n v,W.cs[i]?=some (n,v)→∃t,nsIn K mainGlobals n=some (some (.int v t))) (bs:∀(i:Nat) n,W.bs[i]?=some n→nsIn K mainGlobals n=some none)
  (et:LS.etOk K=true) (tb:LS.tabP K=some (c,T)) (hd:codeHdIn K c T=true) (no:K.lookup T=none):Has W K c T
def Says (W:Want) (_:World) (h:Heap):Prop:=∃(K:Frag) (c T:Addr),K.In h∧Has W K c T∧h.get? T=some (tabObj #[])
theorem Says.keeps {W:Want} (w:World) (h h':Heap) (x:Says W w h) (k:∀b o,h.get? b=some o→h'.get? b=some o):Says W w h':=by
 obtain ⟨K,c,T,h1,h2,h3⟩:=x
 exact ⟨K,c,T,h1.keeps k,h2,k _ _ h3⟩
theorem Nl {α β:Type} {f g:α→β} {l:List α} (e:l.map f=l.map g) {i:Nat} {x:α} (h:l[i]?=some x):f x=g x:=by
 have:=congrArg (·[i]?) e
 simp only [BX,h,HP,Option.some.injEq] at this
 exact this
theorem says_of {W:Want} (w:World) (s:Shared) (e:obsK W s=valK W):Says W w s.heap:=by
 unfold obsK valK at e
 rw [Ja] at e
 obtain ⟨e1,e⟩:=Prod.mk.inj e
 obtain ⟨e2,e⟩:=Prod.mk.inj e
 obtain ⟨e3,e⟩:=Prod.mk.inj e
 obtain ⟨e4,e5⟩:=Prod.mk.inj e
 unfold Nk at e5
 split at e5
 ·rename_i c T hT
  obtain ⟨a1,a2⟩:=Prod.mk.inj (Option.some.inj e5)
  obtain ⟨a2,a3⟩:=Prod.mk.inj a2
  exact ⟨_,c,T,Yb _,⟨fun i n st h=>Yc (Nl e1 h),fun i n v h=>Yd (Nl e2 h),fun i n h=>Nl e3 h,e4,hT,a2,Option.isNone_iff_eq_none.mp a3⟩,a1⟩
 ·cases e5
theorem tab_cd {K:Frag} {c T f:Addr} {oc kV dc pm cd ct:Value} {od an:Option Addr} {sl:Array (Option Value)} {st:Stmt} (h:LS.tabP K=some (c,T)) (a:nsIn K mainGlobals "law"=some (some (.ref f)))
 (l:K.lookup f=some ⟨oc,od,.func (fnOf "law" "law" (L2.defArgs st) (L2.defBody st) (L2.defScope st) .none kV dc pm an cd ct),sl⟩):cd=.ref c:=by
 unfold LS.tabP at h
 rw [a] at h
 dsimp only at h
 rw [l] at h
 dsimp only at h
 split at h
 ·split at h
  ·split at h
   ·cases h;rfl
   ·cases h
  ·cases h
 ·cases h
end Tp
namespace LS
open PySem PySem.W PySem.Spec PySem.Calls PyProof.Rows L2
theorem walk_hd {l:OpenLaw} {n k:Nat} {q:Program} {loose:List Str} {XP:(Str→Option Value)→Heap→Prop} {W:Tp.Want} {d:DefRec} {x:Str} {F:List D→HD→Out D}
 (hn:l.most=some n) (hn2:n≤sizeLine) (hdf:d.params.defaults=[]) (hr:Room k callerA)
 (Fn:∀(w:World) (K:Frag) (c T:Addr) (mg:Str→Option Value) (fa:Addr) (h:Heap),Tp.Has W K c T→K.In h→h.Ns mainGlobals mg→mg d.name=some (.ref fa)→
  ∃fd:FuncData,(∀(s:Shared) (u:Value),BindsTo s fd ⟨[u],[]⟩ [(x,u)])∧
   ∀base:Heap,K.In base→base.Ns mainGlobals mg→Hx mg base→FnOk l.prog w K mg base (Az l.prog w K) k fa fd [x] (EW K F))
 (hF:∀ns:List Int,ns.length≤n→(∀i∈ns,Builtin.Int.intBits i≤2^20)→∃h',F [.scr ns] [.tab]=.ok (.bl true) h'):
 WalkO q loose XP (Tp.Says W) l.row.toRowW d [] (fun f vs=>PySem.call f vs):=by
 refine Att.attach_bits hn hdf fun w s₀ s₁ mg mb fa o pm cd doc a vs ns hbits G Y ho hd hcd' hmg hobj hints hlen hg=>?_
 obtain ⟨K,c,T,KX,HS,hT⟩:=Y
 obtain ⟨fd,hb,hF'⟩:=Fn w K c T mg fa _ HS KX G.T.g hmg
 obtain ⟨bm,ob,b1,b2,b3,b4,b5,b6⟩:=G.T.bmain
 obtain ⟨_,_,_,_,h1,h2,h3⟩:=HS
 exact Xl KX G.T.g G.T.b G.T.builtins G.T.nolimit hg ⟨bm,ob,b1,b2,b3,b4,b5,b6⟩ hobj hints (BM hlen hn2) hr h1 h2 hT h3 hF' hb (hF ns hlen hbits)
end LS
namespace Tp
open PySem PySem.W PySem.Spec PySem.Calls PyProof.Rows
def Ye (K:Frag):Option (FuncData×List Bool):=match nsIn K mainGlobals "TooMany",nsIn K mainGlobals "SwitchError" with
 |some (some (.ref C)),some (some (.ref S))=>(match K.lookup C with
  |some o=>(match LS.clsOf o.data with
   |some cd=>(match nsIn K cd.ns "__init__" with
    |some (some (.ref f))=>(match K.lookup f with
     |some ⟨oc,_,.func fd,_⟩=>some (blank fd,[codeIn K fd.code "TooMany.__init__",LS.tmX K C f,LS.swX K S,keepIn K (.ref C),oc==.type "function"])
     |_=>none)
    |_=>none)
   |none=>none)
  |none=>none)
 |_,_=>none
abbrev Yg (st:Stmt):FuncData:=fnOf "__init__" "TooMany.__init__" (L2.defArgs st) (L2.defBody st) (L2.defScope st) .none .none .none .none none .none .none
inductive Q8 (K:Frag) (st:Stmt):Prop where
 |mk (C S f:Addr) (od an:Option Addr) (sl:Array (Option Value)) (kV dc pm cd ct:Value) (nC:nsIn K mainGlobals "TooMany"=some (some (.ref C))) (nS:nsIn K mainGlobals "SwitchError"=some (some (.ref S)))
  (l:K.lookup f=some ⟨.type "function",od,.func (fnOf "__init__" "TooMany.__init__" (L2.defArgs st) (L2.defBody st) (L2.defScope st) .none kV dc pm an cd ct),sl⟩) (c:codeIn K cd "TooMany.__init__"=true) (tm:LS.tmX K C f=true) (sw:LS.swX K S=true) (kp:keepIn K (.ref C)=true):Q8 K st
noncomputable def ZdE (W:Want) (s:Shared):KL×Option (FuncData×List Bool):=fL (KH s.heap) fun K=>
 ((W.fs.map fun x=>Jb K x.1,W.cs.map fun x=>Jc K x.1,W.bs.map (nsIn K mainGlobals),LS.etOk K,Nk K s.heap),Ye K)
def ZdF (W:Want) (st:Stmt):KL×Option (FuncData×List Bool):=(valK W,some (Yg st,[true,true,true,true,true]))
def SaysT (W:Want) (st:Stmt) (_:World) (h:Heap):Prop:=∃(K:Frag) (c T:Addr),K.In h∧(Has W K c T∧Q8 K st)∧h.get? T=some (tabObj #[])
theorem SaysT.keeps {W:Want} {st:Stmt} (w:World) (h h':Heap) (x:SaysT W st w h) (k:∀b o,h.get? b=some o→h'.get? b=some o):SaysT W st w h':=by
 obtain ⟨K,c,T,h1,h2,h3⟩:=x
 exact ⟨K,c,T,h1.keeps k,h2,k _ _ h3⟩
end Tp
namespace LS
open PySem PySem.W PySem.Spec PySem.Calls PyProof.Rows L2
structure TmK (P:Program) (w:World) (K:Frag) (mg:Str→Option Value) (base:Heap) (C f:Addr) (fd:FuncData) (oI:Obj):Prop where
 tm:tmX K C f=true
 F:FnOk P w K mg base (Az P w K) 1 f fd ["self","many","most"] (QX K C)
 hb:Binds K fd ["self","many","most"] []
 lI:K.lookup f=some oI
 cI:oI.cls=.type "function"
 kp:keepIn K (.ref C)=true
 nC:nsIn K mainGlobals "TooMany"=some (some (.ref C))
end LS
namespace LS
open PySem PySem.Spec PyProof.Rows L2
open Classical in
noncomputable def ZdG:D→HD→Out D
 |.int i,h=>if i.natAbs<4611686018427387904 then .ok (.str (toString i)) h else .stuck
 |_,_=>.stuck
section
variable {X:Cx}
def ZdH (i j k:Nat) (ta:TA):TS:=fun Dn σ H=>ta σ H fun vs H1=>∃u v w,vs=[u,v,w]∧Dn.nx (((σ.set i (some u)).set j (some v)).set k (some w)) H1
def Nm (i j k:Nat) (ρ:Ai):List D→HD→Out (Fl×Ai)
 |[u,v,w],h=>.ok (.nx,((ρ.set i (some u)).set j (some v)).set k (some w)) h
 |_,_=>.stuck
noncomputable def Q9 (i j k:Nat) (fa:MA):MS:=fun ρ h=>(fa ρ h).bind fun ds h1=>Nm i j k ρ ds h1
end
@[simp] theorem ZdI {i j k:Nat} {fa:MA} {ρ:Ai} {h:HD} {Q:Fl×Ai→HD→Prop}:Wp (Q9 i j k fa ρ h) Q=Wp (fa ρ h) fun ds h1=>Wp (Nm i j k ρ ds h1) Q:=by unfold Q9;rw [AC]
@[simp] theorem ZdJ {i j k:Nat} {ρ:Ai} {u v w:D} {h:HD} {Q:Fl×Ai→HD→Prop}:Wp (Nm i j k ρ [u,v,w] h) Q=Q (.nx,((ρ.set i (some u)).set j (some v)).set k (some w)) h:=rfl
section
variable {X:Cx}
abbrev KM:=Fh fun i j=>.int (Builtin.bitXor i j)
theorem Ra:BJ X (binaryOp .BitXor) KM:=Ih TV fun _ _ _ _=>by simp [DV]
end
section
variable {X:Cx} {E:XK} {D:Addr} {elt tg iter:Expr} {ifs:List Expr} {gs gens:List Comprehension} {scope:Scope} {pos:Pos} {Nc:List Str} {cs:List (Option Nat)} {it:MI} {gg:TG} {sg:MG} {t:MT} {f:ME} {e:Dv} {d:Nat} {is js:List Nat}
end
theorem Rb {X:Cx} {E:XK} {k k':Nat} {F:List D→HD→Out D} {x:Str} {p pos:Pos} (C:CaE X.prog X.w X.K X.mg X.base x k F) (hr:Room k' X.A) (hx:EI (Az X.prog X.w X.K) X E) (hk:k≤k':=by decide) (hg:Gl X x:=by rfl)
 (hdb:(x==("__debug__":Str))=false:=by decide):Ev X E (.Call (.Name x p) [] [] pos) (Ah F Ae):=by
 obtain ⟨f,fd,ps,G,hb,hm,hkp⟩:=C.ex
 refine BU (Us (E:=E) G (hr.mono hk) hg hm hkp hb .nil hx hdb) fun σ H Q z3_=>?_
 obtain ⟨m,ρ,hd,hr,er,p⟩:=z3_
 exact ⟨m,[],hd,hr,.nil,p⟩
def Yh:List Expr→Option (List (Int×Int))
 |[]=>some []
 |.Tuple [.Constant (.int a) _ _,.Constant (.int b) _ _] _ _::es=>(Yh es).map ((a,b)::·)
 |_=>none
noncomputable def KN:List (Int×Int)→MA
 |[]=>Ae
 |p::ps=>Aa (Bq (Aa (mC (.int p.1)) (Aa (mC (.int p.2)) Ae))) (KN ps)
@[simp] theorem ZdK:KN []=Ae:=rfl
@[simp] theorem ZdL {p:Int×Int} {ps:List (Int×Int)}:KN (p::ps)=Aa (Bq (Aa (mC (.int p.1)) (Aa (mC (.int p.2)) Ae))) (KN ps):=rfl
section
variable {X:Cx} {E:XK}
@[irreducible] def ExI (X:Cx) (E:XK) (st:Stmt) (g:MS):Prop:=Ex X E st g
@[irreducible] def ZdM (X:Cx) (E:XK) (sts:List Stmt) (g:MS):Prop:=AY X E sts g
end
end LS
namespace LS
open PySem PySem.Spec PySem.W PyProof.Rows L2
theorem Yi {K:Frag} {h:Heap} {mg:Str→Option Value} {x:Str} {st:Stmt} {f:Addr} {oc:Value} {od an:Option Addr} {osl:Array (Option Value)} {kV doc pm cdv ct:Value} (X:K.In h) (G:h.Ns mainGlobals mg) (l:K.lookup f=some ⟨oc,od,.func (fnOf x x (defArgs st) (defBody st) (defScope st) .none kV doc pm an cdv ct),osl⟩) (c:codeIn K cdv x=true) (k:keepIn K (.ref f)=true) (a:nsIn K mainGlobals x=some (some (.ref f)))
 (b:∀(kV doc pm:Value) (an:Option Addr) (cdv ct:Value),bindArgs (fnOf x x (defArgs st) (defBody st) (defScope st) .none kV doc pm an cdv ct) ⟨[],[]⟩=pure (([]:List Str).zip [])):Dn K mg x [] st f (fnOf x x (defArgs st) (defBody st) (defScope st) .none kV doc pm an cdv ct):=
 ⟨Fd l c k,(Fd l c k).binds (fun kV doc pm an cdv ct us hl=>by obtain rfl:=qc8.mp hl;exact b kV doc pm an cdv ct),mg_of X G a⟩
end LS
namespace LS
open PySem PySem.Spec PyProof.Rows L2 PySem.W
end LS
namespace Tp
open PySem PySem.W PySem.Spec PySem.Calls PyProof.Rows
abbrev Rc:=List (Option (FuncData×Bool×Bool))×List (Option Int)×List (Option (Option Value))×Bool
noncomputable def ZdN (W:Want) (s:Shared):Rc:=fL (KH s.heap) fun K=>
 (W.fs.map fun x=>Jb K x.1,W.cs.map fun x=>Jc K x.1,W.bs.map (nsIn K mainGlobals),true)
def ZdO (W:Want):Rc:=(W.fs.map fun x=>some (KI x.1 x.2,true,true),W.cs.map fun x=>some x.2,W.bs.map fun _=>some none,true)
inductive Re (W:Want) (K:Frag):Prop where
 |mk (fs:∀(i:Nat) n st,W.fs[i]?=some (n,st)→KJ K n st) (cs:∀(i:Nat) n v,W.cs[i]?=some (n,v)→∃t,nsIn K mainGlobals n=some (some (.int v t))) (bs:∀(i:Nat) n,W.bs[i]?=some n→nsIn K mainGlobals n=some none)
  (et:True):Re W K
def Says0 (W:Want) (_:World) (h:Heap):Prop:=∃K:Frag,K.In h∧Re W K
theorem Says0.keeps {W:Want} (w:World) (h h':Heap) (x:Says0 W w h) (k:∀b o,h.get? b=some o→h'.get? b=some o):Says0 W w h':=by
 obtain ⟨K,h1,h2⟩:=x
 exact ⟨K,h1.keeps k,h2⟩
end Tp
namespace LS
open PySem PySem.W PySem.Spec PySem.Calls PyProof.Rows L2
end LS
namespace LS
open PySem PySem.Spec PyProof.Rows L2
def Yj:D→HD→Out D:=fun x h=>match x with
 |.loc l=>(match h[l]? with
  |some (.lst ds)=>B2 ds.reverse h
  |_=>.stuck)
 |_=>.stuck
def ZdP (f:ME):ME:=fun ρ h=>(f ρ h).bind Yj
section
variable {X:Cx} {E:XK} {e:Expr} {f:ME}
end
def HC:D→D→HD→Out D:=fun x y h=>match x with
 |.exc _ _=>.stuck
 |.edic=>.stuck
 |_=>AJ x y h
section
variable {h:HD} {y:D} {i:Int} {b:Bool} {x:Str} {ds:List D} {l:Nat}
@[simp] theorem ZdQ:HC (.int i) y h=AJ (.int i) y h:=rfl
@[simp] theorem ZdR:HC (.bl b) y h=AJ (.bl b) y h:=rfl
@[simp] theorem ZdS:HC .non y h=AJ .non y h:=rfl
@[simp] theorem ZdT:HC (.str x) y h=AJ (.str x) y h:=rfl
@[simp] theorem ZdU:HC (.tup ds) y h=AJ (.tup ds) y h:=rfl
@[simp] theorem ZdV:HC (.loc l) y h=AJ (.loc l) y h:=rfl
end
end LS
namespace LS
open PySem PySem.Spec PyProof.Rows L2 PySem.W PySem.Calls
def Rf:Kyd→Bool
 |.i _=>true
 |_=>false
def DG (kvs:List (Kyd×D)):Bool:=kvs.all fun p=>Rf p.1
def Dg (kvs:List (Kyd×D)) (k:Kyd):Option D:=(kvs.find? fun p=>decide (p.1=k)).map (·.2)
def E3 (kvs:List (Kyd×D)) (k:Kyd) (v:D):List (Kyd×D):=if kvs.any (fun p=>decide (p.1=k)) then kvs.map (fun p=>if p.1=k then (p.1,v) else p) else kvs++[(k,v)]
def IR (K:Frag) (m:List Addr) (H:Hp) (p:Kyd×D) (q:Int×Value):Prop:=p.1=.i q.1∧∃v,DV K m H p.2 v∧RelV v q.2
section
variable {P:Program} {w:World} {K:Frag} {m:List Addr} {H:Hp} {h:Heap} {a:Addr}
theorem EntD.len:∀{kvs:List (Kyd×D)} {es:List (Kyd×V×V)},EntD K m H kvs es→kvs.length=es.length
 |[],_,e=>by simp only [EntD] at e;subst e;rfl
 |_::_,_,e=>by
  simp only [EntD] at e
  obtain ⟨kv,vv,r',rfl,_,_,t⟩:=e
  simp [EntD.len t]
theorem Rg:∀{kvs:List (Kyd×D)} {es:List (Kyd×V×V)} {ul:List DictEntry},EntD K m H kvs es→DG kvs=true→Paired JK es ul→
 ∃vs:List (Int×Value),Pairs (intKind P w) ul vs∧(∀e∈ul,∃k,(intKind P w).is k e.key=true∧e.hash=(intKind P w).hash k)∧Paired (IR K m H) kvs vs∧vs.map (fun q=>Kyd.i q.1)=es.map (·.1)
 |[],_,_,e,_,p=>by
  simp only [EntD] at e
  subst e
  cases p
  exact ⟨[],.nil,by simp,.nil,rfl⟩
 |(k,d)::kvs,_,_,e,hi,p=>by
  simp only [EntD] at e
  obtain ⟨kv,vv,r',rfl,d1,d2,t⟩:=e
  simp only [DG,List.all_cons,CF] at hi
  cases p with
  |cons p1 p2=>
   rename_i e ul'
   obtain ⟨vs,h1,h2,h3,h4⟩:=Rg t hi.2 p2
   obtain ⟨q1,q2,q3⟩:=p1
   cases k with
   |i n=>
    simp only [kD,DV] at d1
    subst d1
    obtain ⟨tk,q2⟩:=q2
    have hk:(intKind P w).is n e.key=true:=by
     rw [q2];exact intKind_is P w n tk
    refine ⟨(n,e.val)::vs,.cons hk rfl h1,fun x hx=>?_,.cons ⟨rfl,vv,d2,q3⟩ h3,by simp [h4]⟩
    rcases qa5.mp hx with rfl |hx
    ·exact ⟨n,hk,q1⟩
    ·exact h2 x hx
   |t ns=>cases hi.1
   |b rs=>cases hi.1
theorem Yk {vs:List (Int×Value)} {es:List (Kyd×V×V)} (e:vs.map (fun q=>Kyd.i q.1)=es.map (·.1)) (nd:(es.map (·.1)).Nodup):(vs.map (·.1)).Nodup:=by
 rw [←e] at nd
 unfold List.Nodup at nd ⊢
 rw [List.pairwise_map] at nd ⊢
 exact nd.imp fun z y=>z (by rw [y])
theorem Jd {es:List (Kyd×V×V)} {kvs:List (Kyd×D)} (d:Bp a es h) (e:EntD K m H kvs es) (hi:DG kvs=true):
 ∃(ob:Obj) (us:Array DictEntry) (ep:Nat) (vs:List (Int×Value)),h.get? a=some ob∧ob.data=.dict us ep∧h.DictAt (intKind P w) a vs ep∧Paired (IR K m H) kvs vs:=by
 obtain ⟨hs,hz,nd,o,us,ep,h1,h2,h3,h4⟩:=d
 obtain ⟨vs,q1,q2,q3,q4⟩:=Rg (P:=P) (w:=w) e hi h4
 exact ⟨o,us,ep,vs,h1,h3,⟨o,us,h1,h2,h3,fun x hx=>q2 x (Array.mem_toList_iff.mpr hx),q1,Yk q4 nd⟩,q3⟩
theorem Rh:∀{kvs:List (Kyd×D)} {vs:List (Int×Value)} {ul:List DictEntry},Paired (IR K m H) kvs vs→Pairs (intKind P w) ul vs→(∀e∈ul,∃k,(intKind P w).is k e.key=true∧e.hash=(intKind P w).hash k)→
 ∃es:List (Kyd×V×V),EntD K m H kvs es∧Paired JK es ul∧es.map (·.1)=vs.map (fun q=>Kyd.i q.1)
 |_,_,_,.nil,p,_=>by
  cases p
  exact ⟨[],rfl,.nil,rfl⟩
 |_,_,_,.cons r t,p,hk=>by
  rename_i x y xs ys
  cases p with
  |cons p1 p2 p3=>
   rename_i e es'
   obtain ⟨es,h1,h2,h3⟩:=Rh t p3 (fun z hz=>hk z (A6 _ hz))
   obtain ⟨k,d⟩:=x
   obtain ⟨n,u⟩:=y
   obtain ⟨r1,v,r2,r3⟩:=r
   simp only at r1 p1 p2 r2 r3
   subst r1
   obtain ⟨tk,ek⟩:=Value.isInt_shape p1
   obtain ⟨k',k1,k2⟩:=hk e A3
   have:k'=n:=(intKind P w).inj _ _ _ k1 p1
   subst this
   refine ⟨(.i k',.int k',v)::es,?_,.cons ⟨k2,⟨tk,ek⟩,by rw [p2];exact r3⟩ h2,by simp [h3]⟩
   simp only [EntD]
   exact ⟨_,_,_,rfl,by simp [kD,DV],r2,h1⟩
theorem Ri {kvs:List (Kyd×D)} {vs:List (Int×Value)} (hs:(a==sysModules)=false) (hz:kvs.length≤sizeLine) (dd:h.DictOf (intKind P w) a vs) (r:Paired (IR K m H) kvs vs):∃es,Bp a es h∧EntD K m H kvs es:=by
 obtain ⟨o,us,ep,h1,h2,h3,h4,h5,h6⟩:=dd
 obtain ⟨es,q1,q2,q3⟩:=Rh (P:=P) (w:=w) r h5 (fun e he=>h4 e (Array.mem_toList_iff.mp he))
 refine ⟨es,⟨hs,by rw [←q1.len];exact hz,?_,o,us,ep,h1,h2,h3,q2⟩,q1⟩
 rw [q3]
 unfold List.Nodup at h6 ⊢
 rw [List.pairwise_map] at h6 ⊢
 exact h6.imp fun z y=>z (by injection y)
theorem Rj {n:Int}:∀{kvs:List (Kyd×D)} {vs:List (Int×Value)},Paired (IR K m H) kvs vs→(Dg kvs (.i n)=none∧valueAt vs n=none)∨∃d u v,Dg kvs (.i n)=some d∧valueAt vs n=some u∧DV K m H d v∧RelV v u
 |_,_,.nil=>.inl ⟨rfl,rfl⟩
 |_,_,.cons r t=>by
  rename_i x y xs ys
  obtain ⟨r1,v,r2,r3⟩:=r
  by_cases z:y.1=n
  ·refine .inr ⟨x.2,y.2,v,?_,?_,r2,r3⟩
   ·simp [Dg,DP,r1,z]
   ·simp [valueAt,DP,z]
  ·have e1:Dg (x::xs) (.i n)=Dg xs (.i n):=by simp [Dg,DP,r1,z]
   have e2:valueAt (y::ys) n=valueAt ys n:=by simp [valueAt,DP,z]
   rw [e1,e2]
   exact Rj t
theorem Rk {n:Int}:∀{kvs:List (Kyd×D)} {vs:List (Int×Value)},Paired (IR K m H) kvs vs→(kvs.any fun p=>decide (p.1=.i n))=vs.any fun kv=>decide (kv.1=n)
 |_,_,.nil=>rfl
 |_,_,.cons r t=>by
  rw [GS,GS,Rk t,r.1]
  congr 1
  simp
theorem Rl {n:Int} {d:D} {v:V} {u:Value} (dv:DV K m H d v) (rv:RelV v u):∀{kvs:List (Kyd×D)} {vs:List (Int×Value)},Paired (IR K m H) kvs vs→Paired (IR K m H) (kvs.map fun p=>if p.1=.i n then (p.1,d) else p) (vs.map fun kv=>if kv.1=n then (kv.1,u) else kv)
 |_,_,.nil=>.nil
 |_,_,.cons r t=>by
  rename_i x y xs ys
  refine .cons ?_ (Rl dv rv t)
  show IR K m H (if x.1=.i n then (x.1,d) else x) (if y.1=n then (y.1,u) else y)
  by_cases z:y.1=n
  ·rw [if_pos z,if_pos (by rw [r.1,z])]
   exact ⟨r.1,v,dv,rv⟩
  ·rw [if_neg z,if_neg (by rw [r.1];intro q;injection q with q;exact z q)]
   exact r
theorem Rm {p:Kyd×D} {q:Int×Value} (r:IR K m H p q):∀{kvs:List (Kyd×D)} {vs:List (Int×Value)},Paired (IR K m H) kvs vs→Paired (IR K m H) (kvs++[p]) (vs++[q])
 |_,_,.nil=>.cons r .nil
 |_,_,.cons x t=>.cons x (Rm r t)
theorem Yl {n:Int} {d:D} {v:V} {u:Value} {kvs:List (Kyd×D)} {vs:List (Int×Value)} (r:Paired (IR K m H) kvs vs) (dv:DV K m H d v) (rv:RelV v u):Paired (IR K m H) (E3 kvs (.i n) d) (stored vs n u):=by
 unfold E3 stored
 rw [Rk r]
 by_cases z:(vs.any fun kv=>decide (kv.1=n))=true
 ·rw [if_pos z,if_pos z];exact Rl dv rv r
 ·rw [if_neg z,if_neg z];exact Rm ⟨rfl,v,dv,rv⟩ r
theorem Ym {kvs:List (Kyd×D)} {k:Kyd} {d:D}:(E3 kvs k d).length≤kvs.length+1:=by
 unfold E3
 split<;>simp
theorem Je:∀{kvs:List (Kyd×D)} {vs:List (Int×Value)},Paired (IR K m H) kvs vs→kvs.length=vs.length
 |_,_,.nil=>rfl
 |_,_,.cons _ t=>by simp [Je t]
theorem KO {H':Hp} {es:List (Kyd×V×V)} (d:Bp a es h):ObjOk P w H' h a (.dct (Bp a es)):=
 ⟨d,let ⟨_,_,_,o,_,_,e,_⟩:=d;⟨o,e⟩,fun h1 h2 ⟨x1,x2,x3,o,us,ep,e,r⟩ k=>⟨x1,x2,x3,o,us,ep,k _ e,r⟩⟩
end
section
variable {X:Cx} {E:XK} {pins:List (Addr×Obj)} {σ:L2.St} {H:Hp} {s:Shared}
theorem Rn (I:Inv X pins σ H s):(s.heap.objs.size==sysModules)=false:=by
 have ne:s.heap.objs.size≠sysModules:=by
  obtain ⟨og,_,_,eg,_⟩:=I.ok.mod.glob
  obtain ⟨ml,⟨ol,_,_,el,_⟩,_⟩:=I.loc
  have h1:(3:Nat)<X.base.objs.size:=AB eg
  have h2:(X.env.locals:Nat)<s.heap.objs.size:=AB el
  have h3:X.base.objs.size≤X.s₀.heap.objs.size:=I.ok.bsz
  have h4:X.s₀.heap.objs.size≤(X.env.locals:Nat):=I.ok.above
  have h5:(1:Nat)<s.heap.objs.size:=AL (AL (show 1<4 by decide) h1) (BM h3 (BM h4 (E8 h2)))
  exact fun z=>BS h5 z
 exact beq_eq_false_iff_ne.mpr ne
def Nn (kvs:List (Kyd×D)) (h:HD):Out D:=.ok (.loc h.length) (h++[.dic false kvs])
def KP:ME:=fun _ h=>Nn [] h
theorem Ro {m:List Addr} {h:HD} {Q:VK} {a:Addr} {kvs:List (Kyd×D)} {es:List (Kyd×V×V)} {H1:Hp} (hr:HR X.K m h H) (hf:H a=none) (k:Kp H H1) (p:Post X.K (rD X.K) m H E Q (Nn kvs h)) (e1:H1=Am H a (.dct (Bp a es))) (en:EntD X.K m H kvs es):Q (.ref a) H1:=by
 subst e1
 refine p (.ref a) (m++[a]) _ (GM _ _) (.new hf) (hr.newCell hf ⟨es,Bx,en.keep (GM _ _) (.new hf)⟩) ?_
 simp only [rD,DV]
 refine ⟨a,rfl,?_⟩
 rw [←hr.len]
 simp
theorem Yn {pos:Pos}:Ev X E (.Dict [] [] pos) KP:=fun pins s σ H Q I z1_=>by
 obtain ⟨m,ρ,h,hr,er,p⟩:=z1_
 have hf:H s.heap.objs.size=none:=I.hok.fresh (AD _)
 exact wpAny_Dict_empty ⟨.ref s.heap.objs.size,Am H s.heap.objs.size (.dct (Bp s.heap.objs.size [])),I.laid (t':=s.toks) (fun _ _ q=>AE _ q) (AD _) (KO ⟨Rn I,EF _,List.nodup_nil,_,#[],0,Bj _ rfl,⟨rfl,rfl,rfl⟩,rfl,.nil⟩),rfl,
  Ro (es:=[]) hr hf (.new hf) p rfl (by simp [EntD])⟩
def KQ (i j:Int):ME:=fun _ h=>Nn [(.i i,.int j)] h
theorem Yo {i j:Int} {k1 k2:Nat} {p1 p2 pos:Pos}:Ev X E (.Dict [some (.Constant (.int i) k1 p1)] [.Constant (.int j) k2 p2] pos) (KQ i j):=fun pins s σ H Q I z1_=>by
 obtain ⟨m,ρ,h,hr,er,p⟩:=z1_
 have hf:H s.heap.objs.size=none:=I.hok.fresh (AD _)
 refine wpAny_Dict_walk (knd:=intKind X.prog X.w) rfl rfl (by simp) (by simp) (pairTrees_cons_walk (wpAny_Constant_int (wpAny_Constant_int (pairTrees_nil_walk ⟨[(i,.int j (s.toks+1))],⟨intKind_is _ _ _ _,rfl,trivial⟩,Heap.DictOf.new _,fun h' dd hs=>?_⟩))))
 obtain ⟨es,h1,h2⟩:=Ri (P:=X.prog) (w:=X.w) (K:=X.K) (m:=m) (H:=H) (kvs:=[(.i i,.int j)]) (Rn I) (by show 1≤sizeLine;decide) dd (.cons ⟨rfl,.int j,by simp [DV],⟨_,rfl⟩⟩ .nil)
 refine ⟨.ref s.heap.objs.size,_,I.laid (t':=_) (fun b o q=>?_) (AD _) (KO h1),rfl,Ro hr hf (.new hf) p rfl h2⟩
 exact hs.extBut b o (BD (AB q)) (AE _ q)
def Gb:D→HD→Out D:=fun x h=>match x with
 |.loc l=>(match h[l]? with
  |some (.dic _ _)=>.ok x h
  |_=>.stuck)
 |_=>.stuck
theorem Np {fz:Bool} {a:Addr} {es:List (Kyd×V×V)} (I:Inv X pins σ H s) (d:DicH fz H a es):Bp a es s.heap:=by
 have:=d.rd.ok I.hok
 exact (show ObjOk X.prog X.w H s.heap a (.dct (Bp a es)) from this).1
theorem Jf {a:Addr} {es:List (Kyd×V×V)} (d:Bp a es s.heap):s.TypeIs (.ref a) "dict"∧∀b,Value.ref a=.ref b→∃ob,s.heap.get? b=some ob∧ob.dict=none:=by
 obtain ⟨_,_,_,o,us,ep,h1,h2,h3,_⟩:=d
 exact ⟨⟨o,h1,h2.1⟩,fun b z=>by cases z;exact ⟨o,h1,h2.2.1⟩⟩
theorem chk_dic:MW X "dict" Gb where
 two:=fun x h=>by
  unfold Gb
  split
  ·split
   ·exact .inl rfl
   ·exact .inr rfl
  ·exact .inr rfl
 ty:=fun m H h x v hr r e=>by
  unfold Gb at e
  split at e
  ·rename_i l
   split at e
   ·rename_i fz kvs el
    simp only [DV] at r
    obtain ⟨a,rfl,ha⟩:=r
    obtain ⟨es,he,_⟩:=hr.cells l _ a el ha
    intro pins σ s u I ru
    cases (show u=Value.ref a from ru)
    exact Jf (Np I he)
   ·cases e
  ·cases e
def Ei:D→D→D→HD→Out D:=fun x y z h=>match x,y with
 |.loc l,.int n=>(match h[l]? with
  |some (.dic _ kvs)=>if DG kvs then .ok ((Dg kvs (.i n)).getD z) h else .stuck
  |_=>.stuck)
 |_,_=>.stuck
def Fy (f g k:ME):ME:=fun ρ h=>((f ρ h).bind Gb).bind fun x h1=>(g ρ h1).bind fun y h2=>(k ρ h2).bind fun z h3=>Ei x y z h3
theorem Yp (x y z:D) (h:HD):F6 (Ei x y z h):=by
 unfold Ei
 repeat' split
 all_goals trivial
theorem Yq {m:List Addr} {h:HD} {x y z:D} {v yv zv:V} {u uy uz:Value} {Q:VK} (I:Inv X pins σ H s) (hr:HR X.K m h H) (rx:DV X.K m H x v) (ry:DV X.K m H y yv) (rz:DV X.K m H z zv) (r:RelV v u) (r2:RelV yv uy) (r3:RelV zv uz)
 (q:Post X.K (rD X.K) m H E0 Q (Ei x y z h)):wpAny (model X.prog X.w) X.A (call (.builtin "dict.get") [u,uy,uz]) (EP X pins σ Q) X.xe s:=by
 unfold Ei at q
 split at q
 ·rename_i l n
  split at q
  ·rename_i fz kvs el
   split at q
   ·rename_i hi
    simp only [DV] at rx ry
    subst ry
    obtain ⟨a,rfl,ha⟩:=rx
    cases (show u=Value.ref a from r)
    obtain ⟨tk,rfl⟩:=r2
    obtain ⟨es,he,en⟩:=hr.cells l _ a el ha
    have dc:=Np I he
    obtain ⟨ob,us,ep,vs,h1,h2,dd,rr⟩:=Jd (P:=X.prog) (w:=X.w) dc en hi
    refine call_meetsIn PySem.F.slot_dict_get (Jf dc).1 PySem.F.entry_dict_get (PySem.F.args_dict_get_3 _ _ _) (meets_dict_get_default (intKind X.prog X.w) a (intKind_is _ _ _ _) dc.1 uz) ⟨_,dd.dictOf.mapOf,?_⟩
    rcases Rj (n:=n) rr with ⟨e1,e2⟩ |⟨d,u',v',e1,e2,e3,e4⟩
    ·rw [e1] at q
     rw [e2]
     exact ⟨zv,H,I.tok _,r3,Ba hr q rz⟩
    ·rw [e1] at q
     rw [e2]
     exact ⟨v',H,I.tok _,e4,Ba hr q e3⟩
   ·exact q.elim
  ·exact q.elim
 ·exact q.elim
theorem Rq {o e e':Expr} {f g k:ME} {apos cpos:Pos} (ho:Ev X E o f) (he:Ev X E e g) (he':Ev X E e' k)
 (hbase:attributeBase o "get" X.env (eval o X.env)=eval o X.env:=by rfl)
 (hfew:((backTo cpos (starEach [e,e'] X.env)).all (fun x=>!x.1)&&(backToKw cpos (keywordEach [] X.env)).all (fun x=>x.1.isSome)
  &&decide ([e,e'].length+([]:List Keyword).length+(if ([]:List Keyword).isEmpty then 0 else 1)<30))=true:=by rfl)
 (hline:(apos.endLine==cpos.line)=true:=by rfl) (hs:starEach [e,e'] X.env=(false,eval e X.env)::starEach [e'] X.env:=by rfl) (hs2:starEach [e'] X.env=(false,eval e' X.env)::starEach [] X.env:=by rfl) (hplain:(backTo cpos (starEach [e'] X.env)).any (·.1)=false:=by rfl):
 Ev X E (.Call (.Attribute o "get" apos) [e,e'] [] cpos) (Fy f g k):=by
 have hr:JG X "dict.get" (fun v vs H Q=>∃m h x y z yv zv,vs=[yv,zv]∧HR X.K m h H∧DV X.K m H x v∧DV X.K m H y yv∧DV X.K m H z zv∧Post X.K (rD X.K) m H E0 Q (Ei x y z h)):=by
  rintro pins s σ H v vs u us Q I r rs ⟨m,h,x,y,z,yv,zv,ev,hr,rx,ry,rz,q⟩
  subst ev
  obtain ⟨uy,uz,rfl,r2,r3⟩:=Ib rs
  exact Yq I hr rx ry rz r r2 r3 q
 refine BU (Qk PySem.F.plainAttrs_dict PySem.F.slot_dict_get PySem.F.type_dict_get hr ho (Ad he (Ad he' Ag hs2) hs) hbase hfew hline hs hplain) fun σ H Q z3_=>?_
 obtain ⟨m,ρ,h,hr,er,p⟩:=z3_
 refine ⟨m,ρ,h,hr,er,?_⟩
 unfold Fy at p
 rw [Out.bind_assoc] at p
 refine Post.bind p fun x h1 v m1 H1 eo p1 k1 hr1 r1 q1=>?_
 clear eo
 rcases chk_dic.two (X:=X) x h1 with ec |ec
 ·rw [ec] at q1
  simp only [Out.bind_ok] at q1
  refine ⟨chk_dic.ty m1 H1 h1 x v hr1 r1 ec,m1,ρ,h1,hr1,er.keep p1 k1,?_⟩
  have q2:Post X.K (rD X.K) m1 H1 E Q ((Aa g (Aa k Ae) ρ h1).bind fun ys h2=>match ys with
   |[y,z]=>Ei x y z h2
   |_=>.stuck):=by
   unfold Aa Ae
   rw [Out.bind_assoc]
   cases eg:g ρ h1 with
   |stuck=>rw [eg] at q1;exact q1
   |err C fs h2=>rw [eg] at q1;exact q1
   |ok y h2=>
    rw [eg] at q1
    simp only [Out.bind_ok] at q1 ⊢
    rw [Out.bind_assoc]
    cases ek:k ρ h2 with
    |stuck=>rw [ek] at q1;exact q1
    |err C fs h2=>rw [ek] at q1;exact q1
    |ok z h3=>rw [ek] at q1;exact q1
  refine Post.bind q2 fun ys h2 vs m2 H2 eo p2 k2 hr2 r2 q3=>?_
  clear eo
  split at q3
  ·rename_i y z
   simp only [Dz,DVs] at r2
   obtain ⟨yv,w,rfl,ry,zv,w',rfl,rz,rfl⟩:=r2
   exact ⟨m2,h2,x,y,z,yv,zv,rfl,hr2,DV.keep p2 k2 r1,ry,rz,Post.noE (Yp x y z h2) q3⟩
  ·exact q3.elim
 ·rw [ec] at q1
  exact q1.elim
def Jg (o i v:D) (h:HD) (g:HD→Out (Fl×Ai)):Out (Fl×Ai):=match o,i with
 |.loc l,.int n=>(match h[l]? with
  |some (.dic false kvs)=>if DG kvs∧kvs.length<sizeLine then g (h.set l (.dic false (E3 kvs (.i n) v))) else .stuck
  |_=>.stuck)
 |_,_=>.stuck
def Gc (fo fi fv:ME):MS:=fun ρ h=>(fv ρ h).bind fun v h1=>(fo ρ h1).bind fun o h2=>(fi ρ h2).bind fun i h3=>Jg o i v h3 fun h4=>.ok (.nx,ρ) h4
def Yr (K:Frag):V→V→V→Hp→(Hp→Prop)→Prop:=fun o i v H Q=>∃(m:List Addr) (a:Addr) (n:Int) (kvs:List (Kyd×D)) (es:List (Kyd×V×V)) (d:D),o=.ref a∧i=.int n∧H a=some (.dct (Bp a es))∧EntD K m H kvs es∧DG kvs=true∧kvs.length<sizeLine∧DV K m H d v∧
 ∀es',EntD K m H (E3 kvs (.i n) d) es'→Q (Am H a (.dct (Bp a es')))
theorem Ys:JA X (Yr X.K):=by
 intro pins s σ H o i v ov iv u Q I ro ri rv h
 obtain ⟨m,a,n,kvs,es,d,rfl,rfl,hH,en,hi,hz,dv,q⟩:=h
 cases ro
 obtain ⟨tk,rfl⟩:=ri
 have dc:Bp a es s.heap:=(show ObjOk X.prog X.w H s.heap a (.dct (Bp a es)) from I.hok a _ hH).1
 obtain ⟨ob,us,ep,vs,h1,h2,dd,rr⟩:=Jd (P:=X.prog) (w:=X.w) dc en hi
 refine wpAny_setItem_pairs (hsz:=by rw [←Je rr];omega) (intKind_is X.prog X.w n tk) dd.dictOf fun h' dd' hs=>?_
 obtain ⟨es',q1,q2⟩:=Ri (P:=X.prog) (w:=X.w) dc.1 (BM Ym (by omega)) dd' (Yl rr dv rv)
 refine ⟨_,I.write (x:=a) (e:=a) (t':=s.toks+1) (by rw [hH];exact True.intro) (.inl rfl) (fun b q hb z=>(hs.2 b hb).trans z) ?_ (KO q1),q es' q2⟩
 obtain ⟨q,_,_,hq,_⟩:=dd'
 exact ⟨q,hq⟩
theorem Rr {o i e:Expr} {fo fi fv:ME} {pos pos':Pos} (ho:Ev X E o fo) (hi:Ev X E i fi) (he:Ev X E e fv)
 (ha:∀v,assign (.Subscript o i pos') X.env v=(do
  let ov ←holding [v] (eval o X.env)
  let iv ←holding [v,ov] (eval i X.env)
  standAt pos'
  holding [v,ov,iv] (setItem ov iv v)
  release [v,ov,iv] []):=by intro _;rfl)
 (hs:swapsWithSole [.Subscript o i pos'] e pos.line X.env=pure false:=by rfl) (hw:swappedStores [.Subscript o i pos'] e X.env=pure none:=by rfl)
 (h1:(assignEach [.Subscript o i pos'] X.env).map (·.2)=[assign (.Subscript o i pos') X.env]:=by rfl):Ex X E (.Assign [.Subscript o i pos'] e pos) (Gc fo fi fv):=
 DW (Lx he (Od ho hi Ys ha) hs hw h1) fun Dn σ H ⟨m,ρ,h,hr,er,p⟩=>⟨m,ρ,h,hr,er,PostS.bind p fun v h1 vv m1 H1 eo1 p1 k1 hr1 r1 q1=>by
  refine ⟨m1,ρ,h1,hr1,er.keep p1 k1,PostS.bind q1 fun ov h2 vo m2 H2 eo2 p2 k2 hr2 r2 q2=>?_⟩
  refine ⟨m2,ρ,h2,hr2,(er.keep p1 k1).keep p2 k2,PostS.bind q2 fun iv h3 vi m3 H3 eo3 p3 k3 hr3 r3 q3=>?_⟩
  clear eo1 eo2 eo3
  unfold Jg at q3
  split at q3
  ·rename_i l n
   split at q3
   ·rename_i kvs el
    split at q3
    ·rename_i hc
     have ro:=DV.keep p3 k3 r2
     simp only [DV] at ro
     obtain ⟨a,rfl,ha⟩:=ro
     have ri:=r3
     simp only [rD,DV] at ri
     subst ri
     obtain ⟨es,hv,en⟩:=hr3.cells l _ a el ha
     have hv:H3 a=some (.dct (Bp a es)):=hv
     have rvv:=DV.keep p3 k3 (DV.keep p2 k2 r1)
     refine ⟨m3,a,n,kvs,es,v,rfl,rfl,hv,en,hc.1,hc.2,rvv,fun es' en'=>?_⟩
     have kk:Kp H3 (Am H3 a (.dct (Bp a es'))):=.set hv rfl
     have hr4:HR X.K m3 (h3.set l (.dic false (E3 kvs (.i n) v))) (Am H3 a (.dct (Bp a es'))):=hr3.setCell ha hv rfl ⟨es',Bx,en'.keep (Ay _) kk⟩
     exact q3 m3 _ (Ay _) kk hr4 σ ((((er.keep p1 k1).keep p2 k2).keep p3 k3).keep (Ay _) kk)
    ·exact q3.elim
   ·exact q3.elim
  ·exact q3.elim⟩
def Yt (a:Addr) (ob:Obj) (es:List (Kyd×V×V)):It:=⟨fun i H=>H a=some (.frz ob (.dct (Bp a es)))∧i<es.length,fun i H x H'=>∃p k kv vv,H p=none∧x=.ref p∧es[i]?=some (k,kv,vv)∧H'=Am H p (.tup [kv,vv]),fun i H=>H a=some (.frz ob (.dct (Bp a es)))∧i=es.length⟩
theorem Nq {K:Frag} {m:List Addr} {H:Hp}:∀{kvs:List (Kyd×D)} {es:List (Kyd×V×V)} {i:Nat} {p:Kyd×D},EntD K m H kvs es→kvs[i]?=some p→∃kv vv,es[i]?=some (p.1,kv,vv)∧DV K m H (kD p.1) kv∧DV K m H p.2 vv
 |[],_,_,_,_,q=>by simp at q
 |_::_,_,i,p,e,q=>by
  simp only [EntD] at e
  obtain ⟨kv,vv,r',rfl,d1,d2,t⟩:=e
  cases i with
  |zero=>simp at q;subst q;exact ⟨kv,vv,rfl,d1,d2⟩
  |succ i=>simpa using Nq (i:=i) t (by simpa using q)
theorem Yu {K:Frag} {m:List Addr} {H:Hp} {kvs:List (Kyd×D)} {es:List (Kyd×V×V)} {us:List DictEntry} {i:Nat} {e:DictEntry} {k:Kyd} {kv vv:V} (r:Paired JK es us) (he:es[i]?=some (k,kv,vv)) (hu:us[i]?=some e):RelV kv e.key∧RelV vv e.val:=by
 induction r generalizing i with
 |nil=>simp at he
 |cons a t ih=>
  cases i with
  |zero=>simp at he hu;subst he hu;exact ⟨a.2.1,a.2.2⟩
  |succ i=>exact ih (by simpa using he) (by simpa using hu)
theorem Rt {P:Program} {w:World}:∀{ul:List DictEntry} {vs:List (Int×Value)} {i:Nat} {e:DictEntry} {k:Int} {u:Value},Pairs (intKind P w) ul vs→ul[i]?=some e→vs[i]?=some (k,u)→(intKind P w).is k e.key=true∧e.val=u
 |_,_,_,_,_,_,.nil,h,_=>by simp at h
 |_,_,0,_,_,_,.cons a b _,h1,h2=>by simp at h1 h2;subst h1 h2;exact ⟨a,b⟩
 |_,_,i+1,_,_,_,.cons _ _ t,h1,h2=>Rt (i:=i) t (by simpa using h1) (by simpa using h2)
theorem Yv:entryFor table "dict_itemiterator.__iter__"=some Builtin.«dict_keyiterator.__iter__»:=
 entryFor_alias (id':="dict_keyiterator.__iter__") (by kernel_rfl) rfl (by decide +kernel) (by kernel_rfl)
theorem Yw {prog:Program} {w:World} {A:Around} {E:Value→Shared→Prop} {s:Shared} {it d:Addr} {i n ep:Nat} {ok ov:Value} {Q:Value→Shared→Prop} (hit:IsItemIter s.heap it d i n ep ok ov) (h:Q (.ref it) s):wpAny (model prog w) A (pyIter (.ref it)) Q E s:=by
 have hT:s.TypeIs (.ref it) "dict_itemiterator":=⟨_,hit,rfl⟩
 refine wpAny_pyIter_slot hT F.slot_dict_itemiterator_iter (wpAny_call_entry F.slot_dict_itemiterator_iter hT Yv ?_ (F.args_dict_itemiterator_iter_1 _))
 show wpAny _ _ (ret (.ref it)) _ _ s
 exact wpAny_pure ⟨_,rfl,"dict_itemiterator",_,hT,F.slot_dict_itemiterator_next.lookup,h⟩
theorem Yx {P:Program} {w:World} {K:Frag} {m:List Addr} {H0:Hp} {elts:List Expr} {kt:Nat} {tpos:Pos} {kvs:List (Kyd×D)} {es:List (Kyd×V×V)} {ob:Obj} {us:Array DictEntry} {ep:Nat} (it a:Addr) (hai:a≠it) (hd:ob.data=.dict us ep) (en:EntD K m H0 kvs es) (hi:DG kvs=true):
 Fb P w K (.Tuple elts kt tpos) (Yt a ob es) [it] it (fun i h=>∃ok ov,IsItemIter h it a i es.length ep ok ov) where
 mem:=by simp
 obj:=fun i h st b hb=>by
  obtain ⟨ok,ov,h1⟩:=st
  rw [qaD] at hb
  subst hb
  exact ⟨_,h1,fun v z=>by cases z⟩
 keep:=fun i h h' st k=>by
  obtain ⟨ok,ov,h1⟩:=st
  exact ⟨ok,ov,k it (by simp) _ h1⟩
 item:=by
  intro X hP hw hK hc i pins s σ H E I hf st hg
  subst hP hw hK
  obtain ⟨ok,ov,hit⟩:=st
  obtain ⟨hH,hlt⟩:=hg
  obtain ⟨g1,g2⟩:=(show s.heap.get? a=some ob∧ObjOk X.prog X.w H s.heap a (.dct (Bp a es)) from I.hok a _ hH)
  obtain ⟨ob',us',ep',vs,h1,h2,dd,rr⟩:=Jd (P:=X.prog) (w:=X.w) g2.1 en hi
  rw [g1] at h1
  cases h1
  rw [hd] at h2
  cases h2
  have hl:es.length=vs.length:=by rw [←en.len];exact Je rr
  obtain ⟨e0,e1,e2,e3,e4,e5⟩:=hf it (by simp)
  have hes:es[i]?=some es[i]:=AW hlt
  have hv:i<vs.length:=by omega
  obtain ⟨⟨n,v⟩,hvs⟩:∃q,vs[i]?=some q:=⟨vs[i],AW hv⟩
  rw [hl] at hit
  refine wpAny_pyNext_items_item hit dd hvs fun key h1 hk ho ht hsz hkp=>?_
  refine ⟨.ref s.heap.objs.size,rfl,wpAny_letOwnedTupleGo_items ho fun h2 he2 sb=>?_⟩
  have hfr:H s.heap.objs.size=none:=I.hok.fresh (AD _)
  have kk:∀b o,b∉[it]→s.heap.get? b=some o→h2.get? b=some o:=fun b o hb z=>by
   have n1:b≠it:=fun q=>hb (by simp [q])
   exact (sb.2 b n1).trans (hkp b o n1 z)
  have na:s.heap.objs.size≠it:=EO (AB hit)
  have hnew:h2.get? s.heap.objs.size=some {cls:=.type "tuple",data:=.seq #[key,v]}:=(sb.2 _ na).trans ht
  have ntr:∀b w,H b=some w→b∉[it]:=fun b w z hb=>by
   rw [qaD.mp hb,e0] at z;cases z
  have nal:∀b o,s.heap.get? b=some o→b≠s.heap.objs.size:=fun b o z=>BF (AB z)
  obtain ⟨⟨k,kv,vv⟩,hes⟩:∃q,es[i]?=some q:=⟨_,hes⟩
  have rkv:RelV kv key∧RelV vv v:=by
   obtain ⟨_,_,_,o2,us2,ep2,y1,y2,y3,y4⟩:=g2.1
   rw [g1] at y1
   cases y1
   rw [hd] at y3
   cases y3
   obtain ⟨od,es3,z1,z2,z3,z4,z5,z6⟩:=dd
   rw [g1] at z1
   cases z1
   rw [hd] at z3
   cases z3
   have hu:i<us.toList.length:=by rw [z5.length];exact hv
   have hue:us.toList[i]?=some us.toList[i]:=AW hu
   obtain ⟨b1,b2⟩:=Rt z5 hue hvs
   obtain ⟨c1,c2⟩:=Yu (K:=X.K) (m:=m) (H:=H0) (kvs:=kvs) y4 hes hue
   refine ⟨?_,by rw [←b2];exact c2⟩
   obtain ⟨p,hp⟩:∃p,kvs[i]?=some p:=⟨kvs[i]'(by rw [en.len];exact hlt),AW _⟩
   obtain ⟨kv',vv',x1,x2,x3⟩:=Nq en hp
   rw [hes] at x1
   cases x1
   have hpi:Rf p.1=true:=qaO.mp hi p (E5 hp)
   obtain ⟨pk,pd⟩:=p
   cases pk with
   |i n'=>
    simp only [kD,DV] at x2
    subst x2
    obtain ⟨tk,ek⟩:=c1
    rw [ek] at b1
    have:n'=n:=(intKind X.prog X.w).inj _ _ _ (intKind_is X.prog X.w n' tk) b1
    subst this
    obtain ⟨t2,ek2⟩:=Value.isInt_shape hk
    exact ⟨t2,ek2⟩
   |t ns=>cases hpi
   |b rs=>cases hpi
  refine ⟨.ref s.heap.objs.size,Am H s.heap.objs.size (.tup [kv,vv]),?_,rfl,⟨s.heap.objs.size,k,kv,vv,hfr,rfl,hes,rfl⟩,⟨key,v,by rw [hl];exact he2⟩,fun b hb=>?_⟩
  ·show Inv X pins σ _ {s with heap:=h2,gens:=s.gens,drawn:=s.drawn,toks:=s.toks}
   refine I.step (g':=s.gens) (d':=s.drawn) (t':=s.toks) (h':=h2) (ch:=[it]) (fun b hb=>?_) (fun b o _ _ hc z _=>kk b o hc z) (fun b o _ _ hc z _=>⟨o.slots,kk b o hc z⟩) (fun b o _ z n=>by rw [An (nal b o z)];exact n)
    (fun b o hc z=>⟨o,kk b o hc z⟩) (fun b ys z=>by rw [An (Bg z hfr)];exact z) (fun b o u z=>by rw [An (Bg z hfr)];exact z) (fun b ps z=>⟨#[],by rw [An (Bg z hfr),z];simp⟩) (fun m hm=>?_) (fun b w z=>?_) I.bare
   ·rw [qaD] at hb;subst hb;exact ⟨e3,e1,e4,e5⟩
   ·obtain ⟨o,es,ep,q,r⟩:=hm
    exact ⟨o,es,ep,kk _ o (by simp [Ne.symm e1]) q,r⟩
   ·by_cases hb:b=s.heap.objs.size
    ·subst hb
     rw [Bx] at z
     cases z
     exact ⟨by simp only [E7,GQ];rw [sizeLine_eq];decide,[key,v],.cons rkv.1 (.cons rkv.2 .nil),⟨_,hnew,rfl,0,rfl⟩,fun o e=>by rw [hnew] at e;cases e;rfl⟩
    ·rw [An hb] at z
     refine (I.hok b w z).stay (fun c v hc q=>kk c v ?_ q) (fun c q=>by rw [An (Bg q hfr)];exact q) fun c ys q=>by rw [An (Bg q hfr)];exact q
     rcases hc with rfl |hc
     ·exact ntr c _ z
     ·exact ntr c _ hc
  ·rw [qaD] at hb
   subst hb
   rw [An (Ne.symm na)]
   exact e0
 done:=by
  intro X hP hw hK hc i pins s σ H E I hf st hg
  subst hP hw hK
  obtain ⟨ok,ov,hit⟩:=st
  obtain ⟨hH,hlt⟩:=hg
  obtain ⟨g1,g2⟩:=(show s.heap.get? a=some ob∧ObjOk X.prog X.w H s.heap a (.dct (Bp a es)) from I.hok a _ hH)
  obtain ⟨ob',us',ep',vs,h1,h2,dd,rr⟩:=Jd (P:=X.prog) (w:=X.w) g2.1 en hi
  rw [g1] at h1
  cases h1
  rw [hd] at h2
  cases h2
  have hl:es.length=vs.length:=by rw [←en.len];exact Je rr
  obtain ⟨i0,i1,i2,i3,i4,i5⟩:=hf it (by simp)
  rw [hl] at hit
  exact wpAny_pyNext_items_end (I.ok.hd hc) hit dd (List.getElem?_eq_none (by omega)) fun h' eb=>⟨rfl,I.turned (t':=s.toks) (fun b o hb z=>eb b o hb z) i0 i1 i3 i4 i5⟩
 self:=fun A i s Q E st h=>by
  obtain ⟨ok,ov,he⟩:=st
  exact Yw he h
def Jh (d:D) (h:HD):Out (List D×A0):=match d with
 |.loc l=>(match h[l]? with
  |some (.dic _ kvs)=>if DG kvs then .ok (kvs.map fun p=>.tup [kD p.1,p.2],[]) (h.set l (.dic true kvs)) else .stuck
  |_=>.stuck)
 |_=>.stuck
def Gd (f:ME):MI:=fun ρ h=>(f ρ h).bind Jh
theorem Ru {elts:List Expr} {kt:Nat} {tpos apos cpos:Pos} {o:Expr} {f:ME} (ho:Ev X E o f)
 (hbase:attributeBase o "items" X.env (eval o X.env)=eval o X.env:=by rfl) (hline:(apos.endLine==cpos.line)=true:=by rfl):
 EL X E (.Tuple elts kt tpos) (.Call (.Attribute o "items" apos) [] [] cpos) (Gd f):=by
 rintro pins s σ H R I ⟨m,ρ,h,hr,er,p⟩
 refine wpAny_Call_method (T:="dict") (id:="dict.items") hbase rfl hline PySem.F.plainAttrs_dict PySem.F.slot_dict_items PySem.F.type_dict_items (Av (ho pins s σ H (fun v H1=>∃a l kvs es fz m1 h1,v=.ref a∧m1[l]?=some a∧h1[l]?=some (.dic fz kvs)∧DicH fz H1 a es∧EntD X.K m1 H1 kvs es∧DG kvs=true∧HR X.K m1 h1 H1∧
  Post X.K (Iv X.K) m1 H1 E R (.ok (kvs.map fun p=>D.tup [kD p.1,p.2],[]) (h1.set l (.dic true kvs)))) I ⟨m,ρ,h,hr,er,Post.bind p fun d h1 v m1 H1 eo p1 k1 hr1 r1 q1=>?_⟩) fun u s1 z=>?_)
 ·clear eo
  unfold Jh at q1
  split at q1
  ·rename_i l
   split at q1
   ·rename_i fz kvs el
    split at q1
    ·rename_i hi
     simp only [rD,DV] at r1
     obtain ⟨a,rfl,ha⟩:=r1
     obtain ⟨es,he,en⟩:=hr1.cells l _ a el ha
     exact ⟨a,l,kvs,es,fz,m1,h1,rfl,ha,el,he,en,hi,hr1,q1⟩
    ·exact q1.elim
   ·exact q1.elim
  ·exact q1.elim
 ·obtain ⟨v,H1,I1,rv,a,l,kvs,es,fz,m1,h1,rfl,ha,el,he,en,hi,hr1,q⟩:=z
  cases (show u=Value.ref a from rv)
  have dc:=Np I1 he
  obtain ⟨ob,us,ep,vs,g1,g2,dd,rr⟩:=Jd (P:=X.prog) (w:=X.w) dc en hi
  refine ⟨(Jf dc).1,(Jf dc).2,?_⟩
  show wpAny _ _ (callWith cpos (.builtin "dict.items") [.ref a] [] []) _ _ s1
  refine method_meetsIn PySem.F.slot_dict_items PySem.F.entry_dict_items rfl (PySem.evalArgs_none ⟨rfl,(Jf dc).1,PySem.F.args_dict_items_1 _,_,meets_dict_items (intKind X.prog X.w) a dc.1,⟨vs,dd.dictOf⟩,?_⟩)
  have hlt:a<s1.heap.objs.size:=dd.lt_size
  refine wpAny_pyIter_items (knd:=intKind X.prog X.w) (d:=a) (kvs:=vs) (ep:=ep) ⟨_,Bj _ rfl,rfl,rfl⟩ (dd.push _) ?_
  have hsz:(s1.heap.push {cls:=.type "dict_items",data:=.fields #[.ref a]}).objs.size=s1.heap.objs.size+1:=Ck ..
  have hl:es.length=vs.length:=by rw [←en.len];exact Je rr
  have frz:∃H2 m2 H2',H2=H2'∧H2 a=some (.frz ob (.dct (Bp a es)))∧m1 <+:m2∧Kp H1 H2∧HR X.K m2 (h1.set l (.dic true kvs)) H2∧Inv X pins σ H2 s1:=by
   cases fz with
   |true=>
    obtain ⟨ob',he'⟩:=he
    obtain ⟨y1,_⟩:=(show s1.heap.get? a=some ob'∧_ from I1.hok a _ he')
    rw [g1] at y1
    cases y1
    have:h1.set l (.dic true kvs)=h1:=by
     obtain ⟨hl',e'⟩:=qa2.mp el
     apply FG
     ·simp
     ·intro j h1' h2'
      by_cases z:l=j
      ·subst z;rw [List.getElem_set_self];exact e'.symm
      ·rw [List.getElem_set_ne z]
    rw [this]
    exact ⟨H1,m1,H1,rfl,he',Ay _,.refl _,hr1,I1⟩
   |false=>
    have he:H1 a=some (.dct (Bp a es)):=he
    have kk:Kp H1 (Am H1 a (.frz ob (.dct (Bp a es)))):=.set he rfl
    refine ⟨Am H1 a (.frz ob (.dct (Bp a es))),m1,_,rfl,Bx,Ay _,kk,hr1.setCell ha he rfl ⟨es,⟨ob,Bx⟩,en.keep (Ay _) kk⟩,?_⟩
    exact I1.write (x:=a) (e:=a) (t':=s1.toks) (by rw [he];exact True.intro) (.inl rfl) (fun _ _ _ z=>z) ⟨ob,g1⟩ ⟨g1,KO dc⟩
  obtain ⟨H2,m2,_,rfl,hH2,p2,k2,hr2,I2⟩:=frz
  have kp2:∀(x:Obj) (y:Obj) (b:Addr) (o:Obj),s1.heap.get? b=some o→((s1.heap.push x).push y).get? b=some o:=fun x y b o z=>AE _ (AE _ z)
  have big:s1.heap.objs.size≤(s1.heap.push {cls:=.type "dict_items",data:=.fields #[.ref a]}).objs.size:=by rw [hsz];exact GU _
  refine ⟨(s1.heap.push {cls:=.type "dict_items",data:=.fields #[.ref a]}).objs.size,[(s1.heap.push {cls:=.type "dict_items",data:=.fields #[.ref a]}).objs.size],_,_,H2,rfl,I2.kept (t':=s1.toks) (kp2 _ _),Yx (kvs:=kvs) (es:=es) (ob:=ob) (us:=us) (ep:=ep) _ a (by rw [hsz];exact BD (FD hlt)) g2 en hi,⟨.none,.none,?_⟩,fun b hb=>?_,?_⟩
  ·show ((s1.heap.push _).push _).get? _=_
   rw [hl]
   exact Bj _ rfl
  ·rw [qaD] at hb
   subst hb
   exact I2.fpOk big (I2.hok.fresh big)
  ·refine q _ m2 H2 p2 k2 hr2 fun i m3 h3 H3 p3 k3 hr3 _=>?_
   have hH3:H3 a=some (.frz ob (.dct (Bp a es))):=k3 _ _ hH2 rfl
   have en3:EntD X.K m3 H3 kvs es:=(en.keep p2 k2).keep p3 k3
   simp only [CH]
   refine ⟨fun hlt'=>⟨⟨hH3,by rw [←en.len];exact hlt'⟩,fun y H4 z=>?_⟩,fun hlt'=>⟨hH3,by rw [←en.len];exact hlt'⟩⟩
   obtain ⟨pp,k,kv,vv,n1,rfl,n3,rfl⟩:=z
   have hp:kvs[i]?=some kvs[i]:=AW hlt'
   obtain ⟨kv',vv',x1,x2,x3⟩:=Nq en3 hp
   rw [n3] at x1
   cases x1
   refine ⟨.new n1,hr3.new n1,.tup [kD kvs[i].1,kvs[i].2],by rw [BX,hp];rfl,?_⟩
   simp only [DV]
   exact ⟨pp,[kv,vv],rfl,Bx,.cons (x2.keep (Ay _) (.new n1)) (.cons (x3.keep (Ay _) (.new n1)) .nil)⟩
end
section
variable {f g k fo fi fv:ME} {ρ:Ai} {h:HD} {Q:D→HD→Prop} {QS:Fl×Ai→HD→Prop} {QI:List D×A0→HD→Prop} {i j:Int} {l:Nat} {fz:Bool} {kvs:List (Kyd×D)}
@[simp] theorem ZdW:Wp (KP ρ h) Q=Q (.loc h.length) (h++[.dic false []]):=id rfl
@[simp] theorem ZdX:Wp (KQ i j ρ h) Q=Q (.loc h.length) (h++[.dic false [(.i i,.int j)]]):=id rfl
@[simp] theorem ZdY:Wp (Fy f g k ρ h) Q=Wp (f ρ h) fun x h1=>Wp (Gb x h1) fun x h2=>Wp (g ρ h2) fun y h3=>Wp (k ρ h3) fun z h4=>Wp (Ei x y z h4) Q:=by unfold Fy;simp only [AC]
theorem Rv (e:h[l]?=some (.dic fz kvs)):Gb (.loc l) h=.ok (.loc l) h:=by simp only [Gb,e]
@[simp] theorem ZdZ:Wp (Gc fo fi fv ρ h) QS=Wp (fv ρ h) fun v h1=>Wp (fo ρ h1) fun o h2=>Wp (fi ρ h2) fun i h3=>Wp (Jg o i v h3 fun h4=>.ok (.nx,ρ) h4) QS:=by unfold Gc;simp only [AC]
@[simp] theorem Rw:Wp (Gd f ρ h) QI=Wp (f ρ h) fun d h1=>Wp (Jh d h1) QI:=by unfold Gd;rw [AC]
end
end LS
set_option maxHeartbeats 0
namespace LK
open PySem PySem.Spec PyProof.Rows L2 LS
def Bv (i:Nat):Stmt:=PySem.Challenge.pw_lineswitch_k33_how_many_have_so_many.main.body.getD i (.Pass ⟨0,0,0,0⟩)
structure Bl (mg:Str→Option Value):Prop where
 n_ValueError:mg "ValueError"=none
 n_all:mg "all"=none
 n_bool:mg "bool"=none
 n_divmod:mg "divmod"=none
 n_enumerate:mg "enumerate"=none
 n_int:mg "int"=none
 n_isinstance:mg "isinstance"=none
 n_len:mg "len"=none
 n_list:mg "list"=none
 n_max:mg "max"=none
 n_min:mg "min"=none
 n_range:mg "range"=none
 n_repr:mg "repr"=none
 n_sum:mg "sum"=none
 n_tuple:mg "tuple"=none
 n_zip:mg "zip"=none
theorem Yy:bootBuiltins "ValueError"=some (.type "ValueError"):=by decide +kernel
theorem Nr:bootBuiltins "all"=some (.builtin "all"):=by decide +kernel
theorem Yz:bootBuiltins "bool"=some (.type "bool"):=by decide +kernel
theorem YA:bootBuiltins "divmod"=some (.builtin "divmod"):=by decide +kernel
theorem Rx:bootBuiltins "int"=some (.type "int"):=by decide +kernel
theorem CT:bootBuiltins "isinstance"=some (.builtin "isinstance"):=by decide +kernel
theorem Cg:bootBuiltins "len"=some (.builtin "len"):=by decide +kernel
theorem Ry:bootBuiltins "list"=some (.type "list"):=by decide +kernel
theorem YB:bootBuiltins "max"=some (.builtin "max"):=by decide +kernel
theorem Nt:bootBuiltins "min"=some (.builtin "min"):=by decide +kernel
theorem Rz:bootBuiltins "repr"=some (.builtin "repr"):=by decide +kernel
theorem KR:bootBuiltins "sum"=some (.builtin "sum"):=by decide +kernel
theorem Ge:bootBuiltins "tuple"=some (.type "tuple"):=by decide +kernel
abbrev Ji:Stmt:=Bv 37
theorem YC:Qy Ji:=⟨⟨rfl,rfl,rfl,by decide +kernel,rfl,by decide +kernel,by decide +kernel⟩,rfl,rfl,rfl,rfl,rfl,⟨_,_,_,_,_,_,_,_,_,_,_,_,_,_,_,_,_,rfl⟩⟩
abbrev Gf:Stmt:=Bv 14
theorem YD:A4 ["thing"] ["thing"] (defScope Gf):=⟨rfl,rfl,rfl,by decide +kernel,rfl,by decide +kernel,by decide +kernel⟩
noncomputable abbrev Nu:MS:=AO (FQ (Ah (Br AJ) (Aa (Ab 0) (Aa (mC (.ty "int")) (Ae)))) (JQ (Ah (Br AJ) (Aa (Ab 0) (Aa (mC (.ty "bool")) (Ae))))))
abbrev Gg:Stmt:=Bv 17
theorem YE:A4 ["thing"] ["thing"] (defScope Gg):=⟨rfl,rfl,rfl,by decide +kernel,rfl,by decide +kernel,by decide +kernel⟩
noncomputable abbrev Nv:MS:=AO (FQ (Ah (Br AJ) (Aa (Ab 0) (Aa (mC (.ty "tuple")) (Ae)))) (G4 Ii Ii (mC (.int 1)) (Ah (Ao A2) (Aa (Ab 0) (Ae))) (mC (.int 8))))
abbrev Gh:Stmt:=Bv 25
theorem YF:A4 ["counts","row"] ["counts","row"] (defScope Gh):=⟨rfl,rfl,rfl,by decide +kernel,rfl,by decide +kernel,by decide +kernel⟩
noncomputable abbrev Nw:MS:=AO (Ah (Ao BZ) (Aa (AV [none,none] (Hr (Aa (Ab 0) (Aa (Ab 1) (Ae)))) (BV 0 1) (Bo) (Af DZ (Af Aq (Ab 0) (mC (.int 1))) (Af BC (mC (.int 2)) (Ab 1)))) (Ae)))
abbrev Gi:Stmt:=Bv 27
theorem sc_ways_with_column:A4 ["ways","count","high","more","lit","many"] ["ways","count","high"] (defScope Gi):=⟨rfl,rfl,rfl,by decide +kernel,rfl,by decide +kernel,by decide +kernel⟩
noncomputable abbrev Nx:MS:=Aj (Au 3 (Af BC (Bw (Aa (mC (.int 0)) (Ae))) (Af Aq (Ah (Ao A2) (Aa (Ab 0) (Ae))) (Ab 2)))) (Aj (BE (F0 (Aa (Ab 0) (Ae))) (BV 4 5) (Aj (IT (Ab 3) (Af Aq (Ab 4) (Ab 1)) (Ab 5)) (IT (Ab 3) (Af DZ (Af Aq (Ab 4) (Ab 2)) (Ab 1)) (Ab 5)))) (AO (Ab 3)))
abbrev Gj:Stmt:=Bv 31
theorem YG:A4 ["_law_script","_law_k"] ["_law_script","_law_k"] (defScope Gj):=⟨rfl,rfl,rfl,by decide +kernel,rfl,by decide +kernel,by decide +kernel⟩
noncomputable abbrev KS:MS:=Aj (Cb (CL (Af LY (Ab 1) (Ah (Ao A2) (Aa (Ab 0) (Ae))))) (AO (Af AG (Ab 0) (Ab 1))) (Cu)) (AO (Af Aq (Af BC (mC (.int 6151)) (Ab 1)) (mC (.int 29))))
abbrev Gk:Stmt:=Bv 32
theorem sc__law_mix:A4 ["_law_cell_here","_law_k","_law_number"] ["_law_cell_here","_law_k"] (defScope Gk):=⟨rfl,rfl,rfl,by decide +kernel,rfl,by decide +kernel,by decide +kernel⟩
noncomputable abbrev Ny:MS:=Aj (Au 2 (Af Aq (Af BC (Af Aq (Ab 0) (mC (.int 1))) (mC (.int 40692))) (Af BC (mC (.int 104729)) (Ab 1)))) (Aj (Au 2 (Af Aq (Af Fi (Af BC (Ab 2) (Ab 2)) (mC (.int 2147483399))) (Ab 1))) (AO (Af Fi (Af BC (Ab 2) (Af Aq (Ab 2) (mC (.int 31)))) (mC (.int 2147483563)))))
abbrev Gm:Stmt:=Bv 34
theorem sc__law_take:A4 ["_law_box_here","_law_many","_law_left","_law_digit"] ["_law_box_here","_law_many"] (defScope Gm):=⟨rfl,rfl,rfl,by decide +kernel,rfl,by decide +kernel,by decide +kernel⟩
noncomputable abbrev Nz:MS:=Aj (Ha (BV 2 3) (Ah (Br Il) (Aa (Af AG (Ab 0) (mC (.int 0))) (Aa (Ab 1) (Ae))))) (Aj (Hg (Ab 0) (mC (.int 0)) (Ab 2)) (AO (Ab 3)))
abbrev Gn:Stmt:=Bv 36
theorem sc__law_kind:A4 ["_law_e","_law_kinds","_law_words"] ["_law_e"] (defScope Gn):=⟨rfl,rfl,rfl,by decide +kernel,rfl,by decide +kernel,by decide +kernel⟩
noncomputable abbrev NA:MS:=Aj (Au 1 (Bw (Aa (Ah (Br AJ) (Aa (Ab 0) (Aa (mC (.glo "NoBoard")) (Ae)))) (Aa (Ah (Br AJ) (Aa (Ab 0) (Aa (mC (.glo "NoLine")) (Ae)))) (Aa (Ah (Br AJ) (Aa (Ab 0) (Aa (mC (.glo "NoSwitching")) (Ae)))) (Aa (Ah (Br AJ) (Aa (Ab 0) (Aa (mC (.glo "NoNumber")) (Ae)))) (Ae))))))) (Aj (Au 1 (Af Aq (Ab 1) (Bw (Aa (Ah (Br AJ) (Aa (Ab 0) (Aa (mC (.glo "Unlike")) (Ae)))) (Aa (Ah (Br AJ) (Aa (Ab 0) (Aa (mC (.glo "NoNet")) (Ae)))) (Aa (Ah (Br AJ) (Aa (Ab 0) (Aa (mC (.glo "NoPlace")) (Ae)))) (Aa (Ah (Br AJ) (Aa (Ab 0) (Aa (mC (.glo "NoText")) (Ae)))) (Ae)))))))) (Aj (Au 1 (Af Aq (Ab 1) (Bw (Aa (Ah (Br AJ) (Aa (Ab 0) (Aa (mC (.glo "NoRow")) (Ae)))) (Aa (Ah (Br AJ) (Aa (Ab 0) (Aa (mC (.glo "TooMany")) (Ae)))) (Ae)))))) (Aj (Cb (FP (EJ (DY (Ah (Br AJ) (Aa (Ab 0) (Aa (mC (.ty "ValueError")) (Ae)))))) (CL (Af DF (Ht Cp F7 (Ab 1) (mC (.bl true))) (mC (.int 1))))) (AO (mC (.str "! other"))) (Cu)) (Aj (Cb (DY (Af AG (Ab 1) (mC (.int 9)))) O3 Cu) (Aj (Au 2 (Bw (Aa (mC (.str "board")) (Aa (mC (.str "line")) (Aa (mC (.str "switching")) (Aa (mC (.str "number")) (Aa (mC (.str "unlike")) (Aa (mC (.str "net")) (Aa (mC (.str "place")) (Aa (mC (.str "text")) (Aa (mC (.str "row")) (Ae)))))))))))) (AO (Af Aq (mC (.str "! ")) (Af AG (Ab 2) (Ht Cp F8 (Ab 1) (mC (.bl true)))))))))))
abbrev Gp:Stmt:=Bv 40
theorem sc__law_ones:A4 ["_law_found","_law_number"] [] (defScope Gp):=⟨rfl,rfl,rfl,by decide +kernel,rfl,by decide +kernel,by decide +kernel⟩
noncomputable abbrev NB:MS:=Aj (Au 0 (Bw (Aa (mC (.int 0)) (Ae)))) (Aj (BE (IA (Aa (mC (.int 1)) (Aa (mC (.int 256)) (Ae)))) (A7 1) (CN (ES (Ab 0) (Af Aq (Af AG (Ab 0) (Af Im (Ab 1) (mC (.int 2)))) (Af Fi (Ab 1) (mC (.int 2))))))) (AO (Ab 0)))
abbrev Gq:Stmt:=Bv 15
theorem YH:A4 ["thing","least","most"] ["thing","least","most"] (defScope Gq):=⟨rfl,rfl,rfl,by decide +kernel,rfl,by decide +kernel,by decide +kernel⟩
noncomputable abbrev KU (Dh:List D→HD→Out D):MS:=AO (FQ (Ah Dh (Aa (Ab 0) (Ae))) (G4 Ii Ii (Ab 1) (Ab 0) (Ab 2)))
abbrev Gr:Stmt:=Bv 28
theorem sc_ways_of_counts:A4 ["counts","high","ways","count"] ["counts","high"] (defScope Gr):=⟨rfl,rfl,rfl,by decide +kernel,rfl,by decide +kernel,by decide +kernel⟩
noncomputable abbrev NC (DH:List D→HD→Out D):MS:=Aj (Au 2 (Bw (Aa (mC (.int 1)) (Ae)))) (Aj (BE (BP (Ab 0)) (A7 3) (Au 2 (Ah DH (Aa (Ab 2) (Aa (Ab 3) (Aa (Ab 1) (Ae))))))) (AO (Ab 2)))
abbrev Gs:Stmt:=Bv 33
theorem sc__law_box:A4 ["_law_script","_law_k","_law_here","_law_number","_law_j"] ["_law_script","_law_k"] (defScope Gs):=⟨rfl,rfl,rfl,by decide +kernel,rfl,by decide +kernel,by decide +kernel⟩
noncomputable abbrev ND (Ek:List D→HD→Out D) (El:List D→HD→Out D):MS:=Aj (Au 2 (Ah Ek (Aa (Ab 0) (Aa (Ab 1) (Ae))))) (Aj (Cb (CL (Af E1 (Af Fi (Ab 2) (mC (.int 2))) (mC (.int 0)))) (AO (Bw (Aa (Af Im (Ab 2) (mC (.int 2))) (Ae)))) (Cu)) (Aj (Au 3 (mC (.int 0))) (Aj (BE (Cw (Aa (mC (.int 24)) (Ae))) (A7 4) (Au 3 (Af Aq (Af BC (Ab 3) (mC (.int 2147483647))) (Ah El (Aa (Ab 2) (Aa (Ab 4) (Ae))))))) (AO (Bw (Aa (Ab 3) (Ae)))))))
abbrev Gu:Stmt:=Bv 35
theorem sc__law_wide_box:A4 ["_law_box_here","_law_number","_law_many","_law_j"] ["_law_box_here"] (defScope Gu):=⟨rfl,rfl,rfl,by decide +kernel,rfl,by decide +kernel,by decide +kernel⟩
noncomputable abbrev NF (AQ:List D→HD→Out D):MS:=Aj (Fo 1 2 (Aa (Ah AQ (Aa (Ab 0) (Aa (mC (.int 2147483647)) (Ae)))) (Aa (mC (.int 0)) (Ae)))) (Aj (BE (Cw (Aa (mC (.int 24)) (Ae))) (A7 3) (Aj (Au 1 (Af Fi (Af Aq (Af Aq (Af BC (Ab 1) (mC (.int 48271))) (mC (.int 11))) (Ab 3)) (mC (.int 2147483647)))) (Au 2 (Af Aq (Af BC (Ab 2) (mC (.int 2147483647))) (Ab 1))))) (AO (Bw (Aa (Ab 2) (Ae)))))
abbrev Gv:Stmt:=Bv 39
theorem sc__law_no_board:A4 ["_law_box_here","_law_board_here","_law_at","_law_place","_law_odd","_law_row","_law_bent","_law_some"] ["_law_box_here","_law_board_here"] (defScope Gv):=⟨rfl,rfl,rfl,by decide +kernel,rfl,by decide +kernel,by decide +kernel⟩
noncomputable abbrev NG (AQ:List D→HD→Out D):MS:=Aj (Ha (Hz [2,3]) (Bq (Aa (Ah AQ (Aa (Ab 0) (Aa (Ah (Ao A2) (Aa (Ab 1) (Ae))) (Ae)))) (Aa (Ah AQ (Aa (Ab 0) (Aa (Ah (Ao A2) (Aa (Af AG (Ab 1) (mC (.int 0))) (Ae))) (Ae)))) (Ae))))) (Aj (Au 4 (Af AG (Bw (Aa (mC (.int 2)) (Aa (J6 (mC (.int 1))) (Aa (mC (.bl true)) (Aa (mC (.bl false)) (Aa (mC .non) (Aa (mC (.str "0")) (Aa (Bq (Aa (mC (.int 0)) (Ae))) (Aa (Af JW (mC (.int 10)) (mC (.int 29))) (Aa (Bw (Aa (mC (.int 0)) (Ae))) (Aa (mC .edic) (Ae)))))))))))) (Ah AQ (Aa (Ab 0) (Aa (mC (.int 10)) (Ae)))))) (Aj (Au 5 (Af AG (Ab 1) (Ab 2))) (Aj (Au 6 (Af Aq (Af Aq (Eg (Ab 5) (EX) (Eb (Ab 3))) (Bq (Aa (Ab 4) (Ae)))) (Eg (Ab 5) (Eb (Af Aq (Ab 3) (mC (.int 1)))) (EX)))) (Aj (Au 7 (Bw (Aa (Ab 6) (Aa (Ab 6) (Aa (Ab 6) (Aa (Af Aq (Ab 5) (Af BC (Bq (Aa (mC (.int 0)) (Ae))) (mC (.int 8)))) (Aa (Bq (Ae)) (Aa (Ah (Ao HA) (Aa (Ab 5) (Ae))) (Aa (mC .non) (Aa (mC (.int 1)) (Ae))))))))))) (Aj (Cb (CL (Af OW (Ah (Ao A2) (Aa (Ab 1) (Ae))) (mC (.int 1)))) (Au 7 (Af Aq (Ab 7) (Bw (Aa (Eg (Ab 5) (EX) (Eb (J6 (mC (.int 1))))) (Aa (Af Aq (Ab 5) (Bq (Aa (mC (.int 0)) (Ae)))) (Ae)))))) (Cu)) (Aj (Au 7 (AV [none,some 1,some 2] (BP (Ab 7)) (A7 0) (Bo) (Af Aq (Af Aq (Eg (Ab 1) (EX) (Eb (Ab 2))) (Bq (Aa (Ab 0) (Ae)))) (Eg (Ab 1) (Eb (Af Aq (Ab 2) (mC (.int 1)))) (EX))))) (Aj (Au 7 (Af Aq (Ab 7) (Bw (Aa (Ah (Ao HA) (Aa (Ab 1) (Ae))) (Aa (Bq (Aa (Ab 1) (Ae))) (Aa (Af BC (Bq (Aa (Af AG (Ab 1) (mC (.int 0))) (Ae))) (mC (.int 9))) (Aa (Af Aq (Ab 1) (Bq (Aa (Bq (Ae)) (Ae)))) (Aa (Af AG (Ab 1) (mC (.int 0))) (Aa (mC .non) (Aa (Bq (Ae)) (Aa (mC (.int 0)) (Aa (mC (.str "")) (Aa (mC .edic) (Ae)))))))))))))) (AO (Af AG (Ab 7) (Ah AQ (Aa (Ab 0) (Aa (Ah (Ao A2) (Aa (Ab 7) (Ae))) (Ae)))))))))))))
abbrev Gw:Stmt:=Bv 41
theorem sc__law_least:A4 ["_law_board_here","_law_ones_here","_law_wide","_law_masks","_law_found","_law_columns","_law_counts_here"] ["_law_board_here"] (defScope Gw):=⟨rfl,rfl,rfl,by decide +kernel,rfl,by decide +kernel,by decide +kernel⟩
noncomputable abbrev RA (B0:List D→HD→Out D):MS:=Aj (Ha (Hz [1,2]) (Bq (Aa (Ah B0 (Ae)) (Aa (Ah (Ao A2) (Aa (Af AG (Ab 0) (mC (.int 0))) (Ae))) (Ae))))) (Aj (Au 3 (AV [none] (BP (Ab 0)) (A7 0) (Bo) (Ah (Ao Dc) (Aa (AV [none,none] (F0 (Aa (Ab 0) (Ae))) (BV 0 1) (Bo) (Af D0 (Ab 1) (Ab 0))) (Ae))))) (Aj (Au 4 (Bw (Ae))) (Aj (BE (Cw (Aa (Af D0 (mC (.int 1)) (Ab 2)) (Ae))) (A7 5) (Aj (Au 6 (AV [none,some 1,some 5] (BP (Ab 3)) (A7 0) (Bo) (Af AG (Ab 1) (Af KM (Ab 0) (Ab 2))))) (CN (ES (Ab 4) (Ah (Ao Dc) (Aa (AV [none,some 2] (BP (Ab 6)) (A7 0) (Bo) (Ah (Br G8) (Aa (Ab 0) (Aa (Af DZ (Ab 1) (Ab 0)) (Ae))))) (Ae))))))) (AO (Ah (Ao (IU Hl)) (Aa (Ab 4) (Ae)))))))
abbrev Gx:Stmt:=Bv 42
theorem sc__law_counts:A4 ["_law_board_here","_law_ones_here","_law_wide","_law_masks","_law_found","_law_columns","_law_ways","_law_mask","_law_many","_law_later","_law_total","_law_some"] ["_law_board_here"] (defScope Gx):=⟨rfl,rfl,rfl,by decide +kernel,rfl,by decide +kernel,by decide +kernel⟩
noncomputable abbrev KV (B0:List D→HD→Out D):MS:=Aj (Fo 1 2 (Aa (Ah B0 (Ae)) (Aa (Ah (Ao A2) (Aa (Af AG (Ab 0) (mC (.int 0))) (Ae))) (Ae)))) (Aj (Au 3 (AV [none] (BP (Ab 0)) (A7 0) (Bo) (Ah (Ao Dc) (Aa (AV [none,none] (F0 (Aa (Ab 0) (Ae))) (BV 0 1) (Bo) (Af D0 (Ab 1) (Ab 0))) (Ae))))) (Aj (Au 4 (Af BC (Bw (Aa (mC (.int 0)) (Ae))) (Af Aq (Af BC (Ah (Ao A2) (Aa (Ab 0) (Ae))) (Ab 2)) (mC (.int 1))))) (Aj (BE (Cw (Aa (Af D0 (mC (.int 1)) (Af DZ (Ab 2) (mC (.int 1)))) (Ae))) (A7 5) (Aj (Au 6 (KQ 0 1)) (Aj (BE (BP (Ab 3)) (A7 7) (Aj (Fo 8 9 (Aa (Af AG (Ab 1) (Af KM (Ab 7) (Ab 5))) (Aa (KP) (Ae)))) (Aj (BE (Gd (Ab 6)) (BV 10 11) (Aj (Gc (Ab 9) (Af Aq (Ab 10) (Ab 8)) (Af Aq (Fy (Ab 9) (Af Aq (Ab 10) (Ab 8)) (mC (.int 0))) (Ab 11))) (Gc (Ab 9) (Af DZ (Af Aq (Ab 10) (Ab 2)) (Ab 8)) (Af Aq (Fy (Ab 9) (Af DZ (Af Aq (Ab 10) (Ab 2)) (Ab 8)) (mC (.int 0))) (Ab 11))))) (Au 6 (Ab 9))))) (BE (Gd (Ab 6)) (BV 10 11) (Hg (Ab 4) (Ab 10) (Af Aq (Af AG (Ab 4) (Ab 10)) (Ab 11))))))) (AO (Ab 4)))))
abbrev Gy:Stmt:=Bv 16
theorem YI:A4 ["thing"] ["thing"] (defScope Gy):=⟨rfl,rfl,rfl,by decide +kernel,rfl,by decide +kernel,by decide +kernel⟩
noncomputable abbrev NH (DI:List D→HD→Out D):MS:=AO (Ah DI (Aa (Ab 0) (Aa (mC (.int 0)) (Aa (mC (.int 1)) (Ae)))))
abbrev Gz:Stmt:=Bv 38
theorem sc__law_board:A4 ["_law_box_here","_law_high","_law_wide","_law_way","_law_digits","_law_dense","_law_rows","_law_number"] ["_law_box_here","_law_high","_law_wide"] (defScope Gz):=⟨rfl,rfl,rfl,by decide +kernel,rfl,by decide +kernel,by decide +kernel⟩
noncomputable abbrev NI (AQ:List D→HD→Out D) (Em:List D→HD→Out D):MS:=Aj (Au 3 (Ah AQ (Aa (Ab 0) (Aa (mC (.int 5)) (Ae))))) (Aj (Au 4 (Ah Em (Aa (Ab 0) (Ae)))) (Aj (Au 5 (Af AG (Bw (Aa (mC (.int 3)) (Aa (mC (.int 1)) (Aa (mC (.int 5)) (Aa (mC (.int 3)) (Aa (mC (.int 2)) (Ae))))))) (Ab 3))) (Aj (Au 6 (Bw (Ae))) (Aj (BE (Cw (Aa (Ab 1) (Ae))) (A7 7) (CN (ES (Ab 6) (Ah (Ao BZ) (Aa (AV [none,some 4,some 5] (Cw (Aa (Ab 2) (Ae))) (A7 0) (Bo) (Ah (Ao Ip) (Aa (Af LY (Ah AQ (Aa (Ab 1) (Aa (mC (.int 6)) (Ae)))) (Ab 2)) (Ae)))) (Ae)))))) (Aj (Cb (CL (Af E1 (Ab 3) (mC (.int 3)))) (Au 6 (Af BC (Bw (Aa (Af AG (Ab 6) (mC (.int 0))) (Ae))) (Ab 1))) (Cu)) (AO (Ah (Ao BZ) (Aa (Ab 6) (Ae)))))))))
abbrev GA:Stmt:=Bv 18
theorem YJ:A4 ["thing"] ["thing"] (defScope GA):=⟨rfl,rfl,rfl,by decide +kernel,rfl,by decide +kernel,by decide +kernel⟩
noncomputable abbrev NJ (B5:List D→HD→Out D) (En:List D→HD→Out D):MS:=AO (FQ (Ah B5 (Aa (Ab 0) (Ae))) (Ah (Ao DD) (Aa (AV [none] (BP (Ab 0)) (A7 0) (Bo) (Ah En (Aa (Ab 0) (Ae)))) (Ae))))
abbrev GB:Stmt:=Bv 19
theorem YK:A4 ["thing"] ["thing"] (defScope GB):=⟨rfl,rfl,rfl,by decide +kernel,rfl,by decide +kernel,by decide +kernel⟩
noncomputable abbrev NK (B5:List D→HD→Out D) (Eo:List D→HD→Out D):MS:=Aj (Cb (FP (EJ (DY (Ah B5 (Aa (Ab 0) (Ae))))) (EJ (DY (Ah (Ao DD) (Aa (AV [none] (BP (Ab 0)) (A7 0) (Bo) (Ah Eo (Aa (Ab 0) (Ae)))) (Ae)))))) (AO (mC (.bl false))) (Cu)) (AO (Ah (Ao DD) (Aa (AV [none,some 0] (BP (Ab 0)) (A7 0) (Bo) (Af E1 (Ah (Ao A2) (Aa (Ab 0) (Ae))) (Ah (Ao A2) (Aa (Af AG (Ab 1) (mC (.int 0))) (Ae))))) (Ae))))
abbrev GC:Stmt:=Bv 20
theorem YL:A4 ["thing"] ["thing"] (defScope GC):=⟨rfl,rfl,rfl,by decide +kernel,rfl,by decide +kernel,by decide +kernel⟩
noncomputable abbrev KW (DN:List D→HD→Out D):MS:=Cb (EJ (DY (Ah DN (Aa (Ab 0) (Ae))))) (IP "NoBoard" (Aa (mC (.str "this is no board")) (Ae))) (Cu)
abbrev GD:Stmt:=Bv 21
theorem YM:A4 ["board"] ["board"] (defScope GD):=⟨rfl,rfl,rfl,by decide +kernel,rfl,by decide +kernel,by decide +kernel⟩
noncomputable abbrev NL (Bd:List D→HD→Out D):MS:=Aj (CN (Ah Bd (Aa (Ab 0) (Ae)))) (AO (Ah (Ao BZ) (Aa (AV [none] (BP (Ab 0)) (A7 0) (Bo) (Ah (Ao Dc) (Aa (Ab 0) (Ae)))) (Ae))))
abbrev GE:Stmt:=Bv 23
theorem YN:A4 ["board"] ["board"] (defScope GE):=⟨rfl,rfl,rfl,by decide +kernel,rfl,by decide +kernel,by decide +kernel⟩
noncomputable abbrev NM (Bd:List D→HD→Out D):MS:=Aj (CN (Ah Bd (Aa (Ab 0) (Ae)))) (AO (Ah (Ao BZ) (Aa (AV [none,some 0] (Cw (Aa (Ah (Ao A2) (Aa (Af AG (Ab 0) (mC (.int 0))) (Ae))) (Ae))) (A7 0) (Bo) (Ah (Ao BZ) (Aa (AV [none,some 0] (BP (Ab 1)) (A7 0) (Bo) (Af AG (Ab 0) (Ab 1))) (Ae)))) (Ae))))
abbrev GF:Stmt:=Bv 22
theorem YO:A4 ["board"] ["board"] (defScope GF):=⟨rfl,rfl,rfl,by decide +kernel,rfl,by decide +kernel,by decide +kernel⟩
noncomputable abbrev NO (Es:List D→HD→Out D) (Ep:List D→HD→Out D):MS:=AO (Ah Ep (Aa (Ah Es (Aa (Ab 0) (Ae))) (Ae)))
abbrev GG:Stmt:=Bv 26
theorem sc_lots_with_counts:A4 ["board","found","number"] ["board"] (defScope GG):=⟨rfl,rfl,rfl,by decide +kernel,rfl,by decide +kernel,by decide +kernel⟩
noncomputable abbrev NP (Eu:List D→HD→Out D) (Ej:List D→HD→Out D):MS:=Aj (Au 1 (Bw (Aa (Bq (Aa (Bq (Ae)) (Aa (Ah Eu (Aa (Ab 0) (Ae))) (Ae)))) (Ae)))) (Aj (BE (IA (Aa (mC (.int 1)) (Aa (Ah (Ao A2) (Aa (Ab 0) (Ae))) (Ae)))) (A7 2) (Au 1 (Af Aq (Ab 1) (AV [none,none,some 2,some 0] (BP (Ab 1)) (BV 0 1) (Bo) (Bq (Aa (Af Aq (Ab 0) (Bq (Aa (Ab 2) (Ae)))) (Aa (Ah Ej (Aa (Ab 1) (Aa (Af AG (Ab 3) (Ab 2)) (Ae)))) (Ae)))))))) (AO (Ab 1)))
abbrev GH:Stmt:=Bv 29
theorem sc_left_counts:A4 ["board","high","totals","lot","counts","ways"] ["board"] (defScope GH):=⟨rfl,rfl,rfl,by decide +kernel,rfl,by decide +kernel,by decide +kernel⟩
noncomputable abbrev Jj (Bd:List D→HD→Out D) (CV:List D→HD→Out D) (CU:List D→HD→Out D):MS:=Aj (CN (Ah Bd (Aa (Ab 0) (Ae)))) (Aj (Au 1 (Ah (Ao A2) (Aa (Ab 0) (Ae)))) (Aj (Au 2 (Af BC (Bw (Aa (mC (.int 0)) (Ae))) (Af Aq (Af BC (Ab 1) (Ah (Ao A2) (Aa (Af AG (Ab 0) (mC (.int 0))) (Ae)))) (mC (.int 1))))) (Aj (BE (BP (Ah CV (Aa (Ab 0) (Ae)))) (BV 3 4) (Aj (Au 5 (Ah CU (Aa (Ab 4) (Aa (Ab 1) (Ae))))) (Au 2 (AV [none,none] (Hr (Aa (Ab 2) (Aa (Ab 5) (Ae)))) (BV 0 1) (Bo) (Af Aq (Ab 0) (Ab 1)))))) (AO (Ab 2)))))
abbrev s_law:Stmt:=Bv 43
theorem sc_law:A4 ["_law_script","_law_k","_law_box_here","_law_board_here","_law_due","_law_turn","_law_found","_law_none"] ["_law_script"] (defScope s_law):=⟨rfl,rfl,rfl,by decide +kernel,rfl,by decide +kernel,by decide +kernel⟩
noncomputable abbrev KY (DJ:List D→HD→Out D) (AQ:List D→HD→Out D) (DM:List D→HD→Out D) (DL:List D→HD→Out D) (CC:List D→HD→Out D) (DK:List D→HD→Out D) (Di:List D→HD→Out D):MS:=Aj (BE (Cw (Aa (Ah (Br Io) (Aa (mC (.int 1)) (Aa (Ah (Br G8) (Aa (Ah (Ao A2) (Aa (Ab 0) (Ae))) (Aa (mC (.int 3)) (Ae)))) (Ae)))) (Ae))) (A7 1) (Aj (Au 2 (Ah DJ (Aa (Ab 0) (Aa (Ab 1) (Ae))))) (Aj (Au 3 (Ah DM (Aa (Ab 2) (Aa (Af Aq (mC (.int 1)) (Ah AQ (Aa (Ab 2) (Aa (mC (.int 8)) (Ae))))) (Aa (Af Aq (mC (.int 1)) (Ah AQ (Aa (Ab 2) (Aa (mC (.int 8)) (Ae))))) (Ae)))))) (Aj (Au 4 (Ah DL (Aa (Ab 3) (Ae)))) (Aj (BE (Cw (Aa (mC (.int 2)) (Ae))) (A7 5) (Aj (Au 6 (Ah CC (Aa (Ab 3) (Ae)))) (Aj (Cb (CL (Af DF (Ah (Ao Ed) (Aa (Ab 6) (Ae))) (Ah (Ao Ed) (Aa (Ab 4) (Ae))))) (AO (mC (.bl false))) (Cu)) (CN (ES (Ab 6) (mC (.int 0))))))) (Aj (Au 7 (Ah DK (Aa (Ab 2) (Aa (Ab 3) (Ae))))) (Cb (CL (Af DF (Fx [7] Di (Ah CC (Aa (Ab 0) (Ae)))) (mC (.str "! board")))) (AO (mC (.bl false))) (Cu)))))))) (AO (mC (.bl true)))
section
variable {P:Program} {w:World} {K:PySem.W.Frag} {mg:Str→Option Value} {base:Heap} (B:Bl mg) (et:etOk K=true)
include B et
theorem YQ (f:Addr) (cdv:Value) (A:Around) (outer:List Env) (s:Shared) (H:Hp) (E:XK) (hr:Room 0 (A.deeper (envOfC "is_whole" (defScope Gf) s.heap.objs.size f cdv))):
 AY (AI (Az P w K) P w K mg base ["thing"] "is_whole" (defScope Gf) f cdv A outer s H E) E (defBody Gf) (Nu):=
 AF (A8 (JS (AN (CS et) rfl B.n_isinstance CT (Ad (Ac (pv 0)) (Ad (J3 rfl B.n_int Rx) (Ag)))) (JR (U9 (AN (CS et) rfl B.n_isinstance CT (Ad (Ac (pv 0)) (Ad (J3 rfl B.n_bool Yz) (Ag))))))))
theorem YR {t_MOST_LINES:Tok} (m_MOST_LINES:mg "MOST_LINES"=some (.int 8 t_MOST_LINES)) (f:Addr) (cdv:Value) (A:Around) (outer:List Env) (s:Shared) (H:Hp) (E:XK) (hr:Room 0 (A.deeper (envOfC "is_line_tuple" (defScope Gg) s.heap.objs.size f cdv))):
 AY (AI (Az P w K) P w K mg base ["thing"] "is_line_tuple" (defScope Gg) f cdv A outer s H E) E (defBody Gg) (Nv):=
 AF (A8 (JS (AN (CS et) rfl B.n_isinstance CT (Ad (Ac (pv 0)) (Ad (J3 rfl B.n_tuple Ge) (Ag)))) (JR (OV JV JV (Al) (AN Ca rfl B.n_len Cg (Ad (Ac (pv 0)) (Ag))) (U5 rfl m_MOST_LINES)))))
theorem YS (f:Addr) (cdv:Value) (A:Around) (outer:List Env) (s:Shared) (H:Hp) (E:XK) (hr:Room 0 (A.deeper (envOfC "counts_with_row" (defScope Gh) s.heap.objs.size f cdv))):
 AY (AI (Az P w K) P w K mg base ["counts","row"] "counts_with_row" (defScope Gh) f cdv A outer s H E) E (defBody Gh) (Nw):=
 AF (A8 (EK G9 rfl B.n_tuple Ge (Ad (Ds (Nc:=["count","light"]) (cs:=[none,none]) rfl (CSc.ok ⟨rfl,by decide +kernel,by kernel_rfl,by decide +kernel,rfl,by kernel_rfl⟩) (P7 rfl B.n_zip (Ad (Ac (pv 0)) (Ad (Ac (pv 1)) (Ag)))) (IC rfl rfl) (fun C D cells fp s₀ H₀ pins=>⟨D9 rfl (AH (i:=0) (show (["count","light"]:List Str).Nodup from by decide +kernel) rfl (by first|exact .inl rfl|exact .inr rfl) (by first|exact .inl rfl|exact .inr rfl)) (AH (i:=1) (show (["count","light"]:List Str).Nodup from by decide +kernel) rfl (by first|exact .inl rfl|exact .inr rfl) (by first|exact .inl rfl|exact .inr rfl)),Cd,Ap G6 (Ap AR (Ac (pv 0)) (Al)) (Ap Cf (Al) (Ac (pv 1)))⟩)) (Ag))))
theorem YT (f:Addr) (cdv:Value) (A:Around) (outer:List Env) (s:Shared) (H:Hp) (E:XK) (hr:Room 0 (A.deeper (envOfC "ways_with_column" (defScope Gi) s.heap.objs.size f cdv))):
 AY (AI (Az P w K) P w K mg base ["ways","count","high","more","lit","many"] "ways_with_column" (defScope Gi) f cdv A outer s H E) E (defBody Gi) (Nx):=
 As (AU (i:=3) sc_ways_with_column.nd rfl (by first|exact .inl rfl|exact .inr rfl) (Ap Cf (BO (Ad (Al) (Ag))) (Ap AR (AN Ca rfl B.n_len Cg (Ad (Ac (pv 0)) (Ag))) (Ac (pv 2))))) (As (Cy Cz rfl (MD rfl B.n_enumerate (Ad (Ac (pv 0)) (Ag))) (Ir (D9 rfl (AH (i:=4) (sc_ways_with_column.nd) rfl (by first|exact .inl rfl|exact .inr rfl) (by first|exact .inl rfl|exact .inr rfl)) (AH (i:=5) (sc_ways_with_column.nd) rfl (by first|exact .inl rfl|exact .inr rfl) (by first|exact .inl rfl|exact .inr rfl)))) (As (PX (Ac (pv 3)) (Ap AR (Ac (pv 4)) (Ac (pv 1))) (Ac (pv 5))) (AF (PX (Ac (pv 3)) (Ap G6 (Ap AR (Ac (pv 4)) (Ac (pv 2))) (Ac (pv 1))) (Ac (pv 5)))))) (AF (A8 (Ac (pv 3)))))
theorem YU (f:Addr) (cdv:Value) (A:Around) (outer:List Env) (s:Shared) (H:Hp) (E:XK) (hr:Room 0 (A.deeper (envOfC "_law_cell" (defScope Gj) s.heap.objs.size f cdv))):
 AY (AI (Az P w K) P w K mg base ["_law_script","_law_k"] "_law_cell" (defScope Gj) f cdv A outer s H E) E (defBody Gj) (KS):=
 As (D7 (FO OX (Ac (pv 1)) (AN Ca rfl B.n_len Cg (Ad (Ac (pv 0)) (Ag))) (EH _)) (AF (A8 (BN (Ac (pv 0)) (Ac (pv 1)) (fun _ _=>rfl)))) (D3)) (AF (A8 (Ap AR (Ap Cf (Al) (Ac (pv 1))) (Al))))
theorem YV (f:Addr) (cdv:Value) (A:Around) (outer:List Env) (s:Shared) (H:Hp) (E:XK) (hr:Room 0 (A.deeper (envOfC "_law_mix" (defScope Gk) s.heap.objs.size f cdv))):
 AY (AI (Az P w K) P w K mg base ["_law_cell_here","_law_k","_law_number"] "_law_mix" (defScope Gk) f cdv A outer s H E) E (defBody Gk) (Ny):=
 As (AU (i:=2) sc__law_mix.nd rfl (by first|exact .inl rfl|exact .inr rfl) (Ap AR (Ap Cf (Ap AR (Ac (pv 0)) (Al)) (Al)) (Ap Cf (Al) (Ac (pv 1))))) (As (AU (i:=2) sc__law_mix.nd rfl (by first|exact .inl rfl|exact .inr rfl) (Ap AR (Ap Ij (Ap Cf (Ac (pv 2)) (Ac (pv 2))) (Al)) (Ac (pv 1)))) (AF (A8 (Ap Ij (Ap Cf (Ac (pv 2)) (Ap AR (Ac (pv 2)) (Al))) (Al)))))
theorem YW (f:Addr) (cdv:Value) (A:Around) (outer:List Env) (s:Shared) (H:Hp) (E:XK) (hr:Room 0 (A.deeper (envOfC "_law_take" (defScope Gm) s.heap.objs.size f cdv))):
 AY (AI (Az P w K) P w K mg base ["_law_box_here","_law_many","_law_left","_law_digit"] "_law_take" (defScope Gm) f cdv A outer s H E) E (defBody Gm) (Nz):=
 As (L8 (AN Vk rfl B.n_divmod YA (Ad (BN (Ac (pv 0)) (Al) (fun _ _=>rfl)) (Ad (Ac (pv 1)) (Ag)))) (Ir (D9 rfl (AH (i:=2) (sc__law_take.nd) rfl (by first|exact .inl rfl|exact .inr rfl) (by first|exact .inl rfl|exact .inr rfl)) (AH (i:=3) (sc__law_take.nd) rfl (by first|exact .inl rfl|exact .inr rfl) (by first|exact .inl rfl|exact .inr rfl))))) (As (Pl (Ac (pv 0)) (Al) (Ac (pv 2))) (AF (A8 (Ac (pv 3)))))
theorem YX (f:Addr) (cdv:Value) (A:Around) (outer:List Env) (s:Shared) (H:Hp) (hr:RoomM 0 (A.deeper (envOfC "_law_kind" (defScope Gn) s.heap.objs.size f cdv))):
 AY (Hw P w K mg base ["_law_e","_law_kinds","_law_words"] "_law_kind" (defScope Gn) f cdv A outer s H) E0 (defBody Gn) (NA):=
 As (AU (i:=1) sc__law_kind.nd rfl (by first|exact .inl rfl|exact .inr rfl) (BO (Ad (AN (CS et) rfl B.n_isinstance CT (Ad (Ac (pv 0)) (Ad (Ee et (by decide +kernel)) (Ag)))) (Ad (AN (CS et) rfl B.n_isinstance CT (Ad (Ac (pv 0)) (Ad (Ee et (by decide +kernel)) (Ag)))) (Ad (AN (CS et) rfl B.n_isinstance CT (Ad (Ac (pv 0)) (Ad (Ee et (by decide +kernel)) (Ag)))) (Ad (AN (CS et) rfl B.n_isinstance CT (Ad (Ac (pv 0)) (Ad (Ee et (by decide +kernel)) (Ag)))) (Ag))))))) (As (AU (i:=1) sc__law_kind.nd rfl (by first|exact .inl rfl|exact .inr rfl) (Ap AR (Ac (pv 1)) (BO (Ad (AN (CS et) rfl B.n_isinstance CT (Ad (Ac (pv 0)) (Ad (Ee et (by decide +kernel)) (Ag)))) (Ad (AN (CS et) rfl B.n_isinstance CT (Ad (Ac (pv 0)) (Ad (Ee et (by decide +kernel)) (Ag)))) (Ad (AN (CS et) rfl B.n_isinstance CT (Ad (Ac (pv 0)) (Ad (Ee et (by decide +kernel)) (Ag)))) (Ad (AN (CS et) rfl B.n_isinstance CT (Ad (Ac (pv 0)) (Ad (Ee et (by decide +kernel)) (Ag)))) (Ag)))))))) (As (AU (i:=1) sc__law_kind.nd rfl (by first|exact .inl rfl|exact .inr rfl) (Ap AR (Ac (pv 1)) (BO (Ad (AN (CS et) rfl B.n_isinstance CT (Ad (Ac (pv 0)) (Ad (Ee et (by decide +kernel)) (Ag)))) (Ad (AN (CS et) rfl B.n_isinstance CT (Ad (Ac (pv 0)) (Ad (Ee et (by decide +kernel)) (Ag)))) (Ag)))))) (As (D7 (OR (OQ (JP (Ie (AN (CS et) rfl B.n_isinstance CT (Ad (Ac (pv 0)) (Ad (J3 rfl B.n_ValueError Yy) (Ag)))))) (OP (FO (M3 hr.units) (Ql PySem.F.plainAttrs_list PySem.F.slot_list_count PySem.F.type_list_count MY W1 WZ (Ac (pv 1)) (Fg)) (Al) (EH _))))) (AF (A8 (Co))) (D3)) (As (D7 (Ie (BN (Ac (pv 1)) (Al) (fun _ _=>rfl))) Vo D3) (As (AU (i:=2) sc__law_kind.nd rfl (by first|exact .inl rfl|exact .inr rfl) (BO (Ad (Co) (Ad (Co) (Ad (Co) (Ad (Co) (Ad (Co) (Ad (Co) (Ad (Co) (Ad (Co) (Ad (Co) (Ag)))))))))))) (AF (A8 (Ap AR (Co) (BN (Ac (pv 2)) (Ql PySem.F.plainAttrs_list PySem.F.slot_list_index PySem.F.type_list_index MY W0 W2 (Ac (pv 1)) (Fg)) (fun _ _=>rfl))))))))))
theorem YY (f:Addr) (cdv:Value) (A:Around) (outer:List Env) (s:Shared) (H:Hp) (E:XK) (hr:Room 0 (A.deeper (envOfC "_law_ones" (defScope Gp) s.heap.objs.size f cdv))):
 AY (AI (Az P w K) P w K mg base ["_law_found","_law_number"] "_law_ones" (defScope Gp) f cdv A outer s H E) E (defBody Gp) (NB):=
 As (AU (i:=0) sc__law_ones.nd rfl (by first|exact .inl rfl|exact .inr rfl) (BO (Ad (Al) (Ag)))) (As (Cy Cz rfl (O7 rfl B.n_range (Ad (Al) (Ad (Al) (Ag)))) (DA (AH (i:=1) (sc__law_ones.nd) rfl (by first|exact .inl rfl|exact .inr rfl) (by first|exact .inl rfl|exact .inr rfl))) (AF (FR (J5 (Ac (pv 0)) (Ap AR (BN (Ac (pv 0)) (Ap O1 (Ac (pv 1)) (Al)) (fun _ _=>rfl)) (Ap Ij (Ac (pv 1)) (Al))))))) (AF (A8 (Ac (pv 0)))))
theorem YZ {Dh:List D→HD→Out D} (c_is_whole:CaE P w K mg base "is_whole" 1 Dh) (f:Addr) (cdv:Value) (A:Around) (outer:List Env) (s:Shared) (H:Hp) (E:XK) (hr:Room 1 (A.deeper (envOfC "is_between" (defScope Gq) s.heap.objs.size f cdv))):
 AY (AI (Az P w K) P w K mg base ["thing","least","most"] "is_between" (defScope Gq) f cdv A outer s H E) E (defBody Gq) (KU Dh):=
 AF (A8 (JS (A5 c_is_whole hr Bb (Ad (Ac (pv 0)) (Ag))) (JR (OV JV JV (Ac (pv 1)) (Ac (pv 0)) (Ac (pv 2))))))
theorem Y0 {DH:List D→HD→Out D} (c_ways_with_column:CaE P w K mg base "ways_with_column" 1 DH) (f:Addr) (cdv:Value) (A:Around) (outer:List Env) (s:Shared) (H:Hp) (E:XK) (hr:Room 1 (A.deeper (envOfC "ways_of_counts" (defScope Gr) s.heap.objs.size f cdv))):
 AY (AI (Az P w K) P w K mg base ["counts","high","ways","count"] "ways_of_counts" (defScope Gr) f cdv A outer s H E) E (defBody Gr) (NC DH):=
 As (AU (i:=2) sc_ways_of_counts.nd rfl (by first|exact .inl rfl|exact .inr rfl) (BO (Ad (Al) (Ag)))) (As (Cy Cz rfl (CO (Ac (pv 0))) (DA (AH (i:=3) (sc_ways_of_counts.nd) rfl (by first|exact .inl rfl|exact .inr rfl) (by first|exact .inl rfl|exact .inr rfl))) (AF (AU (i:=2) sc_ways_of_counts.nd rfl (by first|exact .inl rfl|exact .inr rfl) (A5 c_ways_with_column hr Bb (Ad (Ac (pv 2)) (Ad (Ac (pv 3)) (Ad (Ac (pv 1)) (Ag)))))))) (AF (A8 (Ac (pv 2)))))
theorem Y1 {Ek:List D→HD→Out D} {El:List D→HD→Out D} (c__law_cell:CaE P w K mg base "_law_cell" 1 Ek) (c__law_mix:CaE P w K mg base "_law_mix" 1 El) (f:Addr) (cdv:Value) (A:Around) (outer:List Env) (s:Shared) (H:Hp) (E:XK) (hr:Room 1 (A.deeper (envOfC "_law_box" (defScope Gs) s.heap.objs.size f cdv))):
 AY (AI (Az P w K) P w K mg base ["_law_script","_law_k","_law_here","_law_number","_law_j"] "_law_box" (defScope Gs) f cdv A outer s H E) E (defBody Gs) (ND Ek El):=
 As (AU (i:=2) sc__law_box.nd rfl (by first|exact .inl rfl|exact .inr rfl) (A5 c__law_cell hr Bb (Ad (Ac (pv 0)) (Ad (Ac (pv 1)) (Ag))))) (As (D7 (FO (M1 hr.units) (Ap Ij (Ac (pv 2)) (Al)) (Al) (EH _)) (AF (A8 (BO (Ad (Ap O1 (Ac (pv 2)) (Al)) (Ag))))) (D3)) (As (AU (i:=3) sc__law_box.nd rfl (by first|exact .inl rfl|exact .inr rfl) (Al)) (As (Cy Cz rfl (EN rfl B.n_range (Ad (Al) (Ag))) (DA (AH (i:=4) (sc__law_box.nd) rfl (by first|exact .inl rfl|exact .inr rfl) (by first|exact .inl rfl|exact .inr rfl))) (AF (AU (i:=3) sc__law_box.nd rfl (by first|exact .inl rfl|exact .inr rfl) (Ap AR (Ap Cf (Ac (pv 3)) (Al)) (A5 c__law_mix hr Bb (Ad (Ac (pv 2)) (Ad (Ac (pv 4)) (Ag)))))))) (AF (A8 (BO (Ad (Ac (pv 3)) (Ag))))))))
theorem Y2 {AQ:List D→HD→Out D} (c__law_take:CaE P w K mg base "_law_take" 1 AQ) (f:Addr) (cdv:Value) (A:Around) (outer:List Env) (s:Shared) (H:Hp) (E:XK) (hr:Room 1 (A.deeper (envOfC "_law_wide_box" (defScope Gu) s.heap.objs.size f cdv))):
 AY (AI (Az P w K) P w K mg base ["_law_box_here","_law_number","_law_many","_law_j"] "_law_wide_box" (defScope Gu) f cdv A outer s H E) E (defBody Gu) (NF AQ):=
 As (L7 (i:=1) (j:=2) rfl sc__law_wide_box.nd rfl rfl (by decide) rfl rfl (Ad (A5 c__law_take hr Bb (Ad (Ac (pv 0)) (Ad (Al) (Ag)))) (Ad (Al) (Ag))) (by first |rfl |with_unfolding_all rfl)) (As (Cy Cz rfl (EN rfl B.n_range (Ad (Al) (Ag))) (DA (AH (i:=3) (sc__law_wide_box.nd) rfl (by first|exact .inl rfl|exact .inr rfl) (by first|exact .inl rfl|exact .inr rfl))) (As (AU (i:=1) sc__law_wide_box.nd rfl (by first|exact .inl rfl|exact .inr rfl) (Ap Ij (Ap AR (Ap AR (Ap Cf (Ac (pv 1)) (Al)) (Al)) (Ac (pv 3))) (Al))) (AF (AU (i:=2) sc__law_wide_box.nd rfl (by first|exact .inl rfl|exact .inr rfl) (Ap AR (Ap Cf (Ac (pv 2)) (Al)) (Ac (pv 1))))))) (AF (A8 (BO (Ad (Ac (pv 2)) (Ag))))))
theorem Y3 {AQ:List D→HD→Out D} (c__law_take:CaE P w K mg base "_law_take" 1 AQ) (f:Addr) (cdv:Value) (A:Around) (outer:List Env) (s:Shared) (H:Hp) (E:XK) (hr:Room 1 (A.deeper (envOfC "_law_no_board" (defScope Gv) s.heap.objs.size f cdv))):
 AY (AI (Az P w K) P w K mg base ["_law_box_here","_law_board_here","_law_at","_law_place","_law_odd","_law_row","_law_bent","_law_some"] "_law_no_board" (defScope Gv) f cdv A outer s H E) E (defBody Gv) (NG AQ):=
 As (L8 (B9 (Ad (A5 c__law_take hr Bb (Ad (Ac (pv 0)) (Ad (AN Ca rfl B.n_len Cg (Ad (Ac (pv 1)) (Ag))) (Ag)))) (Ad (A5 c__law_take hr Bb (Ad (Ac (pv 0)) (Ad (AN Ca rfl B.n_len Cg (Ad (BN (Ac (pv 1)) (Al) (fun _ _=>rfl)) (Ag))) (Ag)))) (Ag)))) (Qx (is:=[2,3]) (Lw rfl (GW (AH (i:=2) (sc__law_no_board.nd) rfl (by first|exact .inl rfl|exact .inr rfl) (by first|exact .inl rfl|exact .inr rfl)) (GW (AH (i:=3) (sc__law_no_board.nd) rfl (by first|exact .inl rfl|exact .inr rfl) (by first|exact .inl rfl|exact .inr rfl)) (Lu)))))) (As (AU (i:=4) sc__law_no_board.nd rfl (by first|exact .inl rfl|exact .inr rfl) (BN (BO (Ad (Al) (Ad (Pq (Al)) (Ad (Fg) (Ad (Fg) (Ad (LW) (Ad (Co) (Ad (B9 (Ad (Al) (Ag))) (Ad (Ap Vd (Al) (Al)) (Ad (BO (Ad (Al) (Ag))) (Ad (QJ) (Ag)))))))))))) (A5 c__law_take hr Bb (Ad (Ac (pv 0)) (Ad (Al) (Ag)))) (fun _ _=>rfl))) (As (AU (i:=5) sc__law_no_board.nd rfl (by first|exact .inl rfl|exact .inr rfl) (BN (Ac (pv 1)) (Ac (pv 2)) (fun _ _=>rfl))) (As (AU (i:=6) sc__law_no_board.nd rfl (by first|exact .inl rfl|exact .inr rfl) (Ap AR (Ap AR (IZ (Ac (pv 5)) (IQ) (IS (Ac (pv 3)))) (B9 (Ad (Ac (pv 4)) (Ag)))) (IZ (Ac (pv 5)) (IS (Ap AR (Ac (pv 3)) (Al))) (IQ)))) (As (AU (i:=7) sc__law_no_board.nd rfl (by first|exact .inl rfl|exact .inr rfl) (BO (Ad (Ac (pv 6)) (Ad (Ac (pv 6)) (Ad (Ac (pv 6)) (Ad (Ap AR (Ac (pv 5)) (Ap Cf (B9 (Ad (Al) (Ag))) (Al))) (Ad (B9 (Ag)) (Ad (EK QH rfl B.n_list Ry (Ad (Ac (pv 5)) (Ag))) (Ad (LW) (Ad (Al) (Ag))))))))))) (As (D7 (FO Vc (AN Ca rfl B.n_len Cg (Ad (Ac (pv 1)) (Ag))) (Al) (EH _)) (AF (AU (i:=7) sc__law_no_board.nd rfl (by first|exact .inl rfl|exact .inr rfl) (Ap AR (Ac (pv 7)) (BO (Ad (IZ (Ac (pv 5)) (IQ) (IS (Pq (Al)))) (Ad (Ap AR (Ac (pv 5)) (B9 (Ad (Al) (Ag)))) (Ag))))))) (D3)) (As (ID (i:=7) (Nc:=["_law_other","_law_board_here","_law_at"]) (cs:=[none,some 1,some 2]) rfl sc__law_no_board.nd rfl (by first|exact .inl rfl|exact .inr rfl) (CSc.ok ⟨rfl,by decide +kernel,by kernel_rfl,by decide +kernel,rfl,by kernel_rfl⟩) (CO (Ac (pv 7))) (Dr rfl) (fun C D cells fp s₀ H₀ pins=>⟨AH (i:=0) (show (["_law_other","_law_board_here","_law_at"]:List Str).Nodup from by decide +kernel) rfl (by first|exact .inl rfl|exact .inr rfl) (by first|exact .inl rfl|exact .inr rfl),Cd,Ap AR (Ap AR (IZ (Ac (pv 1)) (IQ) (IS (Ac (pv 2)))) (B9 (Ad (Ac (pv 0)) (Ag)))) (IZ (Ac (pv 1)) (IS (Ap AR (Ac (pv 2)) (Al))) (IQ))⟩)) (As (AU (i:=7) sc__law_no_board.nd rfl (by first|exact .inl rfl|exact .inr rfl) (Ap AR (Ac (pv 7)) (BO (Ad (EK QH rfl B.n_list Ry (Ad (Ac (pv 1)) (Ag))) (Ad (B9 (Ad (Ac (pv 1)) (Ag))) (Ad (Ap Cf (B9 (Ad (BN (Ac (pv 1)) (Al) (fun _ _=>rfl)) (Ag))) (Al)) (Ad (Ap AR (Ac (pv 1)) (B9 (Ad (B9 (Ag)) (Ag)))) (Ad (BN (Ac (pv 1)) (Al) (fun _ _=>rfl)) (Ad (LW) (Ad (B9 (Ag)) (Ad (Al) (Ad (Co) (Ad (QJ) (Ag)))))))))))))) (AF (A8 (BN (Ac (pv 7)) (A5 c__law_take hr Bb (Ad (Ac (pv 0)) (Ad (AN Ca rfl B.n_len Cg (Ad (Ac (pv 7)) (Ag))) (Ag)))) (fun _ _=>rfl)))))))))))
theorem Y4 {B0:List D→HD→Out D} (c__law_ones:CaE P w K mg base "_law_ones" 1 B0) (f:Addr) (cdv:Value) (A:Around) (outer:List Env) (s:Shared) (H:Hp) (E:XK) (hr:Room 1 (A.deeper (envOfC "_law_least" (defScope Gw) s.heap.objs.size f cdv))):
 AY (AI (Az P w K) P w K mg base ["_law_board_here","_law_ones_here","_law_wide","_law_masks","_law_found","_law_columns","_law_counts_here"] "_law_least" (defScope Gw) f cdv A outer s H E) E (defBody Gw) (RA B0):=
 As (L8 (B9 (Ad (Rb c__law_ones hr Bb) (Ad (AN Ca rfl B.n_len Cg (Ad (BN (Ac (pv 0)) (Al) (fun _ _=>rfl)) (Ag))) (Ag)))) (Qx (is:=[1,2]) (Lw rfl (GW (AH (i:=1) (sc__law_least.nd) rfl (by first|exact .inl rfl|exact .inr rfl) (by first|exact .inl rfl|exact .inr rfl)) (GW (AH (i:=2) (sc__law_least.nd) rfl (by first|exact .inl rfl|exact .inr rfl) (by first|exact .inl rfl|exact .inr rfl)) (Lu)))))) (As (ID (i:=3) (Nc:=["_law_row"]) (cs:=[none]) rfl sc__law_least.nd rfl (by first|exact .inl rfl|exact .inr rfl) (CSc.ok ⟨rfl,by decide +kernel,by kernel_rfl,by decide +kernel,rfl,by kernel_rfl⟩) (CO (Ac (pv 0))) (Dr rfl) (fun C D cells fp s₀ H₀ pins=>⟨AH (i:=0) (show (["_law_row"]:List Str).Nodup from by decide +kernel) rfl (by first|exact .inl rfl|exact .inr rfl) (by first|exact .inl rfl|exact .inr rfl),Cd,AN (J4 rfl) rfl B.n_sum KR (Ad (Ds (Nc:=["_law_place","_law_light"]) (cs:=[none,none]) rfl (CSc.ok ⟨rfl,by decide +kernel,by kernel_rfl,by decide +kernel,rfl,by kernel_rfl⟩) (MD rfl B.n_enumerate (Ad (Ac (pv 0)) (Ag))) (IC rfl rfl) (fun C D cells fp s₀ H₀ pins=>⟨D9 rfl (AH (i:=0) (show (["_law_place","_law_light"]:List Str).Nodup from by decide +kernel) rfl (by first|exact .inl rfl|exact .inr rfl) (by first|exact .inl rfl|exact .inr rfl)) (AH (i:=1) (show (["_law_place","_law_light"]:List Str).Nodup from by decide +kernel) rfl (by first|exact .inl rfl|exact .inr rfl) (by first|exact .inl rfl|exact .inr rfl)),Cd,Ap JX (Ac (pv 1)) (Ac (pv 0))⟩)) (Ag))⟩)) (As (AU (i:=4) sc__law_least.nd rfl (by first|exact .inl rfl|exact .inr rfl) (BO (Ag))) (As (Cy Cz rfl (EN rfl B.n_range (Ad (Ap JX (Al) (Ac (pv 2))) (Ag))) (DA (AH (i:=5) (sc__law_least.nd) rfl (by first|exact .inl rfl|exact .inr rfl) (by first|exact .inl rfl|exact .inr rfl))) (As (ID (i:=6) (Nc:=["_law_mask","_law_ones_here","_law_columns"]) (cs:=[none,some 1,some 5]) rfl sc__law_least.nd rfl (by first|exact .inl rfl|exact .inr rfl) (CSc.ok ⟨rfl,by decide +kernel,by kernel_rfl,by decide +kernel,rfl,by kernel_rfl⟩) (CO (Ac (pv 3))) (Dr rfl) (fun C D cells fp s₀ H₀ pins=>⟨AH (i:=0) (show (["_law_mask","_law_ones_here","_law_columns"]:List Str).Nodup from by decide +kernel) rfl (by first|exact .inl rfl|exact .inr rfl) (by first|exact .inl rfl|exact .inr rfl),Cd,BN (Ac (pv 1)) (Ap Ra (Ac (pv 0)) (Ac (pv 2))) (fun _ _=>rfl)⟩)) (AF (FR (J5 (Ac (pv 4)) (AN (J4 rfl) rfl B.n_sum KR (Ad (Ds (Nc:=["_law_many","_law_wide"]) (cs:=[none,some 2]) rfl (CSc.ok ⟨rfl,by decide +kernel,by kernel_rfl,by decide +kernel,rfl,by kernel_rfl⟩) (CO (Ac (pv 6))) (Dr rfl) (fun C D cells fp s₀ H₀ pins=>⟨AH (i:=0) (show (["_law_many","_law_wide"]:List Str).Nodup from by decide +kernel) rfl (by first|exact .inl rfl|exact .inr rfl) (by first|exact .inl rfl|exact .inr rfl),Cd,AN (O2 rfl) rfl B.n_min Nt (Ad (Ac (pv 0)) (Ad (Ap G6 (Ac (pv 1)) (Ac (pv 0))) (Ag)))⟩)) (Ag)))))))) (AF (A8 (AN (Wh rfl) rfl B.n_min Nt (Ad (Ac (pv 4)) (Ag))))))))
theorem Y5 {B0:List D→HD→Out D} (c__law_ones:CaE P w K mg base "_law_ones" 1 B0) (f:Addr) (cdv:Value) (A:Around) (outer:List Env) (s:Shared) (H:Hp) (E:XK) (hr:Room 1 (A.deeper (envOfC "_law_counts" (defScope Gx) s.heap.objs.size f cdv))):
 AY (AI (Az P w K) P w K mg base ["_law_board_here","_law_ones_here","_law_wide","_law_masks","_law_found","_law_columns","_law_ways","_law_mask","_law_many","_law_later","_law_total","_law_some"] "_law_counts" (defScope Gx) f cdv A outer s H E) E (defBody Gx) (KV B0):=
 As (L7 (i:=1) (j:=2) rfl sc__law_counts.nd rfl rfl (by decide) rfl rfl (Ad (Rb c__law_ones hr Bb) (Ad (AN Ca rfl B.n_len Cg (Ad (BN (Ac (pv 0)) (Al) (fun _ _=>rfl)) (Ag))) (Ag))) (by first |rfl |with_unfolding_all rfl)) (As (ID (i:=3) (Nc:=["_law_row"]) (cs:=[none]) rfl sc__law_counts.nd rfl (by first|exact .inl rfl|exact .inr rfl) (CSc.ok ⟨rfl,by decide +kernel,by kernel_rfl,by decide +kernel,rfl,by kernel_rfl⟩) (CO (Ac (pv 0))) (Dr rfl) (fun C D cells fp s₀ H₀ pins=>⟨AH (i:=0) (show (["_law_row"]:List Str).Nodup from by decide +kernel) rfl (by first|exact .inl rfl|exact .inr rfl) (by first|exact .inl rfl|exact .inr rfl),Cd,AN (J4 rfl) rfl B.n_sum KR (Ad (Ds (Nc:=["_law_place","_law_light"]) (cs:=[none,none]) rfl (CSc.ok ⟨rfl,by decide +kernel,by kernel_rfl,by decide +kernel,rfl,by kernel_rfl⟩) (MD rfl B.n_enumerate (Ad (Ac (pv 0)) (Ag))) (IC rfl rfl) (fun C D cells fp s₀ H₀ pins=>⟨D9 rfl (AH (i:=0) (show (["_law_place","_law_light"]:List Str).Nodup from by decide +kernel) rfl (by first|exact .inl rfl|exact .inr rfl) (by first|exact .inl rfl|exact .inr rfl)) (AH (i:=1) (show (["_law_place","_law_light"]:List Str).Nodup from by decide +kernel) rfl (by first|exact .inl rfl|exact .inr rfl) (by first|exact .inl rfl|exact .inr rfl)),Cd,Ap JX (Ac (pv 1)) (Ac (pv 0))⟩)) (Ag))⟩)) (As (AU (i:=4) sc__law_counts.nd rfl (by first|exact .inl rfl|exact .inr rfl) (Ap Cf (BO (Ad (Al) (Ag))) (Ap AR (Ap Cf (AN Ca rfl B.n_len Cg (Ad (Ac (pv 0)) (Ag))) (Ac (pv 2))) (Al)))) (As (Cy Cz rfl (EN rfl B.n_range (Ad (Ap JX (Al) (Ap G6 (Ac (pv 2)) (Al))) (Ag))) (DA (AH (i:=5) (sc__law_counts.nd) rfl (by first|exact .inl rfl|exact .inr rfl) (by first|exact .inl rfl|exact .inr rfl))) (As (AU (i:=6) sc__law_counts.nd rfl (by first|exact .inl rfl|exact .inr rfl) (Yo)) (As (Cy Cz rfl (CO (Ac (pv 3))) (DA (AH (i:=7) (sc__law_counts.nd) rfl (by first|exact .inl rfl|exact .inr rfl) (by first|exact .inl rfl|exact .inr rfl))) (As (L7 (i:=8) (j:=9) rfl sc__law_counts.nd rfl rfl (by decide) rfl rfl (Ad (BN (Ac (pv 1)) (Ap Ra (Ac (pv 7)) (Ac (pv 5))) (fun _ _=>rfl)) (Ad (Yn) (Ag))) (by first |rfl |with_unfolding_all rfl)) (As (Cy Cz rfl (Ru (Ac (pv 6))) (Ir (D9 rfl (AH (i:=10) (sc__law_counts.nd) rfl (by first|exact .inl rfl|exact .inr rfl) (by first|exact .inl rfl|exact .inr rfl)) (AH (i:=11) (sc__law_counts.nd) rfl (by first|exact .inl rfl|exact .inr rfl) (by first|exact .inl rfl|exact .inr rfl)))) (As (Rr (Ac (pv 9)) (Ap AR (Ac (pv 10)) (Ac (pv 8))) (Ap AR (Rq (Ac (pv 9)) (Ap AR (Ac (pv 10)) (Ac (pv 8))) (Al)) (Ac (pv 11)))) (AF (Rr (Ac (pv 9)) (Ap G6 (Ap AR (Ac (pv 10)) (Ac (pv 2))) (Ac (pv 8))) (Ap AR (Rq (Ac (pv 9)) (Ap G6 (Ap AR (Ac (pv 10)) (Ac (pv 2))) (Ac (pv 8))) (Al)) (Ac (pv 11))))))) (AF (AU (i:=6) sc__law_counts.nd rfl (by first|exact .inl rfl|exact .inr rfl) (Ac (pv 9))))))) (AF (Cy Cz rfl (Ru (Ac (pv 6))) (Ir (D9 rfl (AH (i:=10) (sc__law_counts.nd) rfl (by first|exact .inl rfl|exact .inr rfl) (by first|exact .inl rfl|exact .inr rfl)) (AH (i:=11) (sc__law_counts.nd) rfl (by first|exact .inl rfl|exact .inr rfl) (by first|exact .inl rfl|exact .inr rfl)))) (AF (Pl (Ac (pv 4)) (Ac (pv 10)) (Ap AR (BN (Ac (pv 4)) (Ac (pv 10)) (fun _ _=>rfl)) (Ac (pv 11)))))))))) (AF (A8 (Ac (pv 4)))))))
theorem Y6 {DI:List D→HD→Out D} (c_is_between:CaE P w K mg base "is_between" 2 DI) (f:Addr) (cdv:Value) (A:Around) (outer:List Env) (s:Shared) (H:Hp) (E:XK) (hr:Room 2 (A.deeper (envOfC "is_light" (defScope Gy) s.heap.objs.size f cdv))):
 AY (AI (Az P w K) P w K mg base ["thing"] "is_light" (defScope Gy) f cdv A outer s H E) E (defBody Gy) (NH DI):=
 AF (A8 (A5 c_is_between hr Bb (Ad (Ac (pv 0)) (Ad (Al) (Ad (Al) (Ag))))))
theorem Y7 {AQ:List D→HD→Out D} {Em:List D→HD→Out D} (c__law_take:CaE P w K mg base "_law_take" 1 AQ) (c__law_wide_box:CaE P w K mg base "_law_wide_box" 2 Em) (f:Addr) (cdv:Value) (A:Around) (outer:List Env) (s:Shared) (H:Hp) (E:XK) (hr:Room 2 (A.deeper (envOfC "_law_board" (defScope Gz) s.heap.objs.size f cdv))):
 AY (AI (Az P w K) P w K mg base ["_law_box_here","_law_high","_law_wide","_law_way","_law_digits","_law_dense","_law_rows","_law_number"] "_law_board" (defScope Gz) f cdv A outer s H E) E (defBody Gz) (NI AQ Em):=
 As (AU (i:=3) sc__law_board.nd rfl (by first|exact .inl rfl|exact .inr rfl) (A5 c__law_take hr Bb (Ad (Ac (pv 0)) (Ad (Al) (Ag))))) (As (AU (i:=4) sc__law_board.nd rfl (by first|exact .inl rfl|exact .inr rfl) (A5 c__law_wide_box hr Bb (Ad (Ac (pv 0)) (Ag)))) (As (AU (i:=5) sc__law_board.nd rfl (by first|exact .inl rfl|exact .inr rfl) (BN (BO (Ad (Al) (Ad (Al) (Ad (Al) (Ad (Al) (Ad (Al) (Ag))))))) (Ac (pv 3)) (fun _ _=>rfl))) (As (AU (i:=6) sc__law_board.nd rfl (by first|exact .inl rfl|exact .inr rfl) (BO (Ag))) (As (Cy Cz rfl (EN rfl B.n_range (Ad (Ac (pv 1)) (Ag))) (DA (AH (i:=7) (sc__law_board.nd) rfl (by first|exact .inl rfl|exact .inr rfl) (by first|exact .inl rfl|exact .inr rfl))) (AF (FR (J5 (Ac (pv 6)) (EK G9 rfl B.n_tuple Ge (Ad (Ds (Nc:=["_law_place","_law_digits","_law_dense"]) (cs:=[none,some 4,some 5]) rfl (CSc.ok ⟨rfl,by decide +kernel,by kernel_rfl,by decide +kernel,rfl,by kernel_rfl⟩) (EN rfl B.n_range (Ad (Ac (pv 2)) (Ag))) (Dr rfl) (fun C D cells fp s₀ H₀ pins=>⟨AH (i:=0) (show (["_law_place","_law_digits","_law_dense"]:List Str).Nodup from by decide +kernel) rfl (by first|exact .inl rfl|exact .inr rfl) (by first|exact .inl rfl|exact .inr rfl),Cd,EK Vn rfl B.n_int Rx (Ad (ON OX (A5 c__law_take hr Kk (Ad (Ac (pv 1)) (Ad (Al) (Ag)))) (Ac (pv 2)) (EH _)) (Ag))⟩)) (Ag))))))) (As (D7 (FO (M1 hr.units) (Ac (pv 3)) (Al) (EH _)) (AF (AU (i:=6) sc__law_board.nd rfl (by first|exact .inl rfl|exact .inr rfl) (Ap Cf (BO (Ad (BN (Ac (pv 6)) (Al) (fun _ _=>rfl)) (Ag))) (Ac (pv 1))))) (D3)) (AF (A8 (EK G9 rfl B.n_tuple Ge (Ad (Ac (pv 6)) (Ag))))))))))
theorem Y8 {B5:List D→HD→Out D} {En:List D→HD→Out D} (c_is_line_tuple:CaE P w K mg base "is_line_tuple" 1 B5) (c_is_light:CaE P w K mg base "is_light" 3 En) (f:Addr) (cdv:Value) (A:Around) (outer:List Env) (s:Shared) (H:Hp) (E:XK) (hr:Room 3 (A.deeper (envOfC "is_row" (defScope GA) s.heap.objs.size f cdv))):
 AY (AI (Az P w K) P w K mg base ["thing"] "is_row" (defScope GA) f cdv A outer s H E) E (defBody GA) (NJ B5 En):=
 AF (A8 (JS (A5 c_is_line_tuple hr Bb (Ad (Ac (pv 0)) (Ag))) (JR (AN (Mg rfl) rfl B.n_all Nr (Ad (Ds (Nc:=["light"]) (cs:=[none]) rfl (CSc.ok ⟨rfl,by decide +kernel,by kernel_rfl,by decide +kernel,rfl,by kernel_rfl⟩) (CO (Ac (pv 0))) (Dr rfl) (fun C D cells fp s₀ H₀ pins=>⟨AH (i:=0) (show (["light"]:List Str).Nodup from by decide +kernel) rfl (by first|exact .inl rfl|exact .inr rfl) (by first|exact .inl rfl|exact .inr rfl),Cd,A5 c_is_light hr Kk (Ad (Ac (pv 0)) (Ag))⟩)) (Ag))))))
theorem Y9 {B5:List D→HD→Out D} {Eo:List D→HD→Out D} (c_is_line_tuple:CaE P w K mg base "is_line_tuple" 1 B5) (c_is_row:CaE P w K mg base "is_row" 4 Eo) (f:Addr) (cdv:Value) (A:Around) (outer:List Env) (s:Shared) (H:Hp) (E:XK) (hr:Room 4 (A.deeper (envOfC "is_board" (defScope GB) s.heap.objs.size f cdv))):
 AY (AI (Az P w K) P w K mg base ["thing"] "is_board" (defScope GB) f cdv A outer s H E) E (defBody GB) (NK B5 Eo):=
 As (D7 (OR (OQ (JP (Ie (A5 c_is_line_tuple hr Bb (Ad (Ac (pv 0)) (Ag))))) (OP (JP (Ie (AN (Mg rfl) rfl B.n_all Nr (Ad (Ds (Nc:=["row"]) (cs:=[none]) rfl (CSc.ok ⟨rfl,by decide +kernel,by kernel_rfl,by decide +kernel,rfl,by kernel_rfl⟩) (CO (Ac (pv 0))) (Dr rfl) (fun C D cells fp s₀ H₀ pins=>⟨AH (i:=0) (show (["row"]:List Str).Nodup from by decide +kernel) rfl (by first|exact .inl rfl|exact .inr rfl) (by first|exact .inl rfl|exact .inr rfl),Cd,A5 c_is_row hr Kk (Ad (Ac (pv 0)) (Ag))⟩)) (Ag)))))))) (AF (A8 (Fg))) (D3)) (AF (A8 (AN (Mg rfl) rfl B.n_all Nr (Ad (Ds (Nc:=["row","thing"]) (cs:=[none,some 0]) rfl (CSc.ok ⟨rfl,by decide +kernel,by kernel_rfl,by decide +kernel,rfl,by kernel_rfl⟩) (CO (Ac (pv 0))) (Dr rfl) (fun C D cells fp s₀ H₀ pins=>⟨AH (i:=0) (show (["row","thing"]:List Str).Nodup from by decide +kernel) rfl (by first|exact .inl rfl|exact .inr rfl) (by first|exact .inl rfl|exact .inr rfl),Cd,ON (M1 hr.units) (AN Ca rfl B.n_len Cg (Ad (Ac (pv 0)) (Ag))) (AN Ca rfl B.n_len Cg (Ad (BN (Ac (pv 1)) (Al) (fun _ _=>rfl)) (Ag))) (EH _)⟩)) (Ag)))))
theorem Za {DN:List D→HD→Out D} (c_is_board:CaE P w K mg base "is_board" 5 DN) (f:Addr) (cdv:Value) (A:Around) (outer:List Env) (s:Shared) (H:Hp) (E:XK) (hr:Room 5 (A.deeper (envOfC "need_board" (defScope GC) s.heap.objs.size f cdv))):
 AY (AI (Az P w K) P w K mg base ["thing"] "need_board" (defScope GC) f cdv A outer s H E) E (defBody GC) (KW DN):=
 AF (D7 (JP (Ie (A5 c_is_board hr Bb (Ad (Ac (pv 0)) (Ag))))) (AF (Xw et (by decide +kernel) (by decide +kernel) rfl rfl Wa (Ad (Co) (Ag)))) (D3))
theorem Zb {Bd:List D→HD→Out D} (c_need_board:CaE P w K mg base "need_board" 6 Bd) (f:Addr) (cdv:Value) (A:Around) (outer:List Env) (s:Shared) (H:Hp) (E:XK) (hr:Room 6 (A.deeper (envOfC "row_counts" (defScope GD) s.heap.objs.size f cdv))):
 AY (AI (Az P w K) P w K mg base ["board"] "row_counts" (defScope GD) f cdv A outer s H E) E (defBody GD) (NL Bd):=
 As (FR (A5 c_need_board hr Bb (Ad (Ac (pv 0)) (Ag)))) (AF (A8 (EK G9 rfl B.n_tuple Ge (Ad (Ds (Nc:=["row"]) (cs:=[none]) rfl (CSc.ok ⟨rfl,by decide +kernel,by kernel_rfl,by decide +kernel,rfl,by kernel_rfl⟩) (CO (Ac (pv 0))) (Dr rfl) (fun C D cells fp s₀ H₀ pins=>⟨AH (i:=0) (show (["row"]:List Str).Nodup from by decide +kernel) rfl (by first|exact .inl rfl|exact .inr rfl) (by first|exact .inl rfl|exact .inr rfl),Cd,AN (J4 rfl) rfl B.n_sum KR (Ad (Ac (pv 0)) (Ag))⟩)) (Ag)))))
theorem Zc {Bd:List D→HD→Out D} (c_need_board:CaE P w K mg base "need_board" 6 Bd) (f:Addr) (cdv:Value) (A:Around) (outer:List Env) (s:Shared) (H:Hp) (E:XK) (hr:Room 6 (A.deeper (envOfC "turned" (defScope GE) s.heap.objs.size f cdv))):
 AY (AI (Az P w K) P w K mg base ["board"] "turned" (defScope GE) f cdv A outer s H E) E (defBody GE) (NM Bd):=
 As (FR (A5 c_need_board hr Bb (Ad (Ac (pv 0)) (Ag)))) (AF (A8 (EK G9 rfl B.n_tuple Ge (Ad (Ds (Nc:=["number","board"]) (cs:=[none,some 0]) rfl (CSc.ok ⟨rfl,by decide +kernel,by kernel_rfl,by decide +kernel,rfl,by kernel_rfl⟩) (EN rfl B.n_range (Ad (AN Ca rfl B.n_len Cg (Ad (BN (Ac (pv 0)) (Al) (fun _ _=>rfl)) (Ag))) (Ag))) (Dr rfl) (fun C D cells fp s₀ H₀ pins=>⟨AH (i:=0) (show (["number","board"]:List Str).Nodup from by decide +kernel) rfl (by first|exact .inl rfl|exact .inr rfl) (by first|exact .inl rfl|exact .inr rfl),Cd,EK G9 rfl B.n_tuple Ge (Ad (Ds (Nc:=["row","number"]) (cs:=[none,some 0]) rfl (CSc.ok ⟨rfl,by decide +kernel,by kernel_rfl,by decide +kernel,rfl,by kernel_rfl⟩) (CO (Ac (pv 1))) (Dr rfl) (fun C D cells fp s₀ H₀ pins=>⟨AH (i:=0) (show (["row","number"]:List Str).Nodup from by decide +kernel) rfl (by first|exact .inl rfl|exact .inr rfl) (by first|exact .inl rfl|exact .inr rfl),Cd,BN (Ac (pv 0)) (Ac (pv 1)) (fun _ _=>rfl)⟩)) (Ag))⟩)) (Ag)))))
theorem Zd {Es:List D→HD→Out D} {Ep:List D→HD→Out D} (c_turned:CaE P w K mg base "turned" 7 Es) (c_row_counts:CaE P w K mg base "row_counts" 7 Ep) (f:Addr) (cdv:Value) (A:Around) (outer:List Env) (s:Shared) (H:Hp) (E:XK) (hr:Room 7 (A.deeper (envOfC "column_counts" (defScope GF) s.heap.objs.size f cdv))):
 AY (AI (Az P w K) P w K mg base ["board"] "column_counts" (defScope GF) f cdv A outer s H E) E (defBody GF) (NO Es Ep):=
 AF (A8 (A5 c_row_counts hr Bb (Ad (A5 c_turned hr Bb (Ad (Ac (pv 0)) (Ag))) (Ag))))
theorem Ze {Eu:List D→HD→Out D} {Ej:List D→HD→Out D} (c_column_counts:CaE P w K mg base "column_counts" 8 Eu) (c_counts_with_row:CaE P w K mg base "counts_with_row" 1 Ej) (f:Addr) (cdv:Value) (A:Around) (outer:List Env) (s:Shared) (H:Hp) (E:XK) (hr:Room 8 (A.deeper (envOfC "lots_with_counts" (defScope GG) s.heap.objs.size f cdv))):
 AY (AI (Az P w K) P w K mg base ["board","found","number"] "lots_with_counts" (defScope GG) f cdv A outer s H E) E (defBody GG) (NP Eu Ej):=
 As (AU (i:=1) sc_lots_with_counts.nd rfl (by first|exact .inl rfl|exact .inr rfl) (BO (Ad (B9 (Ad (B9 (Ag)) (Ad (A5 c_column_counts hr Bb (Ad (Ac (pv 0)) (Ag))) (Ag)))) (Ag)))) (As (Cy Cz rfl (O7 rfl B.n_range (Ad (Al) (Ad (AN Ca rfl B.n_len Cg (Ad (Ac (pv 0)) (Ag))) (Ag)))) (DA (AH (i:=2) (sc_lots_with_counts.nd) rfl (by first|exact .inl rfl|exact .inr rfl) (by first|exact .inl rfl|exact .inr rfl))) (AF (AU (i:=1) sc_lots_with_counts.nd rfl (by first|exact .inl rfl|exact .inr rfl) (Ap AR (Ac (pv 1)) (Ds (Nc:=["lot","counts","number","board"]) (cs:=[none,none,some 2,some 0]) rfl (CSc.ok ⟨rfl,by decide +kernel,by kernel_rfl,by decide +kernel,rfl,by kernel_rfl⟩) (CO (Ac (pv 1))) (IC rfl rfl) (fun C D cells fp s₀ H₀ pins=>⟨D9 rfl (AH (i:=0) (show (["lot","counts","number","board"]:List Str).Nodup from by decide +kernel) rfl (by first|exact .inl rfl|exact .inr rfl) (by first|exact .inl rfl|exact .inr rfl)) (AH (i:=1) (show (["lot","counts","number","board"]:List Str).Nodup from by decide +kernel) rfl (by first|exact .inl rfl|exact .inr rfl) (by first|exact .inl rfl|exact .inr rfl)),Cd,B9 (Ad (Ap AR (Ac (pv 0)) (B9 (Ad (Ac (pv 2)) (Ag)))) (Ad (A5 c_counts_with_row hr Kk (Ad (Ac (pv 1)) (Ad (BN (Ac (pv 3)) (Ac (pv 2)) (fun _ _=>rfl)) (Ag)))) (Ag)))⟩)))))) (AF (A8 (Ac (pv 1)))))
theorem Zf {Bd:List D→HD→Out D} {CV:List D→HD→Out D} {CU:List D→HD→Out D} (c_need_board:CaE P w K mg base "need_board" 6 Bd) (c_lots_with_counts:CaE P w K mg base "lots_with_counts" 9 CV) (c_ways_of_counts:CaE P w K mg base "ways_of_counts" 2 CU) (f:Addr) (cdv:Value) (A:Around) (outer:List Env) (s:Shared) (H:Hp) (E:XK) (hr:Room 9 (A.deeper (envOfC "left_counts" (defScope GH) s.heap.objs.size f cdv))):
 AY (AI (Az P w K) P w K mg base ["board","high","totals","lot","counts","ways"] "left_counts" (defScope GH) f cdv A outer s H E) E (defBody GH) (Jj Bd CV CU):=
 As (FR (A5 c_need_board hr Bb (Ad (Ac (pv 0)) (Ag)))) (As (AU (i:=1) sc_left_counts.nd rfl (by first|exact .inl rfl|exact .inr rfl) (AN Ca rfl B.n_len Cg (Ad (Ac (pv 0)) (Ag)))) (As (AU (i:=2) sc_left_counts.nd rfl (by first|exact .inl rfl|exact .inr rfl) (Ap Cf (BO (Ad (Al) (Ag))) (Ap AR (Ap Cf (Ac (pv 1)) (AN Ca rfl B.n_len Cg (Ad (BN (Ac (pv 0)) (Al) (fun _ _=>rfl)) (Ag)))) (Al)))) (As (Cy Cz rfl (CO (A5 c_lots_with_counts hr Bb (Ad (Ac (pv 0)) (Ag)))) (Ir (D9 rfl (AH (i:=3) (sc_left_counts.nd) rfl (by first|exact .inl rfl|exact .inr rfl) (by first|exact .inl rfl|exact .inr rfl)) (AH (i:=4) (sc_left_counts.nd) rfl (by first|exact .inl rfl|exact .inr rfl) (by first|exact .inl rfl|exact .inr rfl)))) (As (AU (i:=5) sc_left_counts.nd rfl (by first|exact .inl rfl|exact .inr rfl) (A5 c_ways_of_counts hr Bb (Ad (Ac (pv 4)) (Ad (Ac (pv 1)) (Ag))))) (AF (ID (i:=2) (Nc:=["total","many"]) (cs:=[none,none]) rfl sc_left_counts.nd rfl (by first|exact .inl rfl|exact .inr rfl) (CSc.ok ⟨rfl,by decide +kernel,by kernel_rfl,by decide +kernel,rfl,by kernel_rfl⟩) (P7 rfl B.n_zip (Ad (Ac (pv 2)) (Ad (Ac (pv 5)) (Ag)))) (IC rfl rfl) (fun C D cells fp s₀ H₀ pins=>⟨D9 rfl (AH (i:=0) (show (["total","many"]:List Str).Nodup from by decide +kernel) rfl (by first|exact .inl rfl|exact .inr rfl) (by first|exact .inl rfl|exact .inr rfl)) (AH (i:=1) (show (["total","many"]:List Str).Nodup from by decide +kernel) rfl (by first|exact .inl rfl|exact .inr rfl) (by first|exact .inl rfl|exact .inr rfl)),Cd,Ap AR (Ac (pv 0)) (Ac (pv 1))⟩))))) (AF (A8 (Ac (pv 2)))))))
theorem Zg {DJ:List D→HD→Out D} {AQ:List D→HD→Out D} {DM:List D→HD→Out D} {DL:List D→HD→Out D} {CC:List D→HD→Out D} {DK:List D→HD→Out D} {Di:List D→HD→Out D} (c__law_box:CaE P w K mg base "_law_box" 2 DJ) (c__law_take:CaE P w K mg base "_law_take" 1 AQ) (c__law_board:CaE P w K mg base "_law_board" 3 DM) (c__law_counts:CaE P w K mg base "_law_counts" 2 DL) (c_left_counts:CaE P w K mg base "left_counts" 10 CC) (c__law_no_board:CaE P w K mg base "_law_no_board" 2 DK) (c__law_kind:CaM P w K mg base "_law_kind" 1 Di) {cT T fsd:Addr} {fdd:FuncData} (htp:tabP K=some (cT,T)) (hcd:PySem.W.codeHdIn K cT T=true) (hbm:Hx mg base) (Sd:SaidD K mg Ji fsd fdd) (f:Addr) (A:Around) (outer:List Env) (s:Shared) (H:Hp) (E:XK) (hr:Room 12 (A.deeper (envOfC "law" (defScope s_law) s.heap.objs.size f (.ref cT)))):
 AY (AI (Az P w K) P w K mg base ["_law_script","_law_k","_law_box_here","_law_board_here","_law_due","_law_turn","_law_found","_law_none"] "law" (defScope s_law) f (.ref cT) A outer s H E) E (defBody s_law) (KY DJ AQ DM DL CC DK Di):=
 have LX:LamX (AI (Az P w K) P w K mg base ["_law_script","_law_k","_law_box_here","_law_board_here","_law_due","_law_turn","_law_found","_law_none"] "law" (defScope s_law) f (.ref cT) A outer s H E) cT T:=⟨rfl,htp,hcd,(show ("law":Str)++".<locals>."=("law.<locals>.":Str) by decide +kernel),hbm⟩
 As (Cy Cz rfl (EN rfl B.n_range (Ad (AN (Vm rfl) rfl B.n_max YB (Ad (Al) (Ad (AN (O2 rfl) rfl B.n_min Nt (Ad (AN Ca rfl B.n_len Cg (Ad (Ac (pv 0)) (Ag))) (Ad (Al) (Ag)))) (Ag)))) (Ag))) (DA (AH (i:=1) (sc_law.nd) rfl (by first|exact .inl rfl|exact .inr rfl) (by first|exact .inl rfl|exact .inr rfl))) (As (AU (i:=2) sc_law.nd rfl (by first|exact .inl rfl|exact .inr rfl) (A5 c__law_box hr Bb (Ad (Ac (pv 0)) (Ad (Ac (pv 1)) (Ag))))) (As (AU (i:=3) sc_law.nd rfl (by first|exact .inl rfl|exact .inr rfl) (A5 c__law_board hr Bb (Ad (Ac (pv 2)) (Ad (Ap AR (Al) (A5 c__law_take hr Bb (Ad (Ac (pv 2)) (Ad (Al) (Ag))))) (Ad (Ap AR (Al) (A5 c__law_take hr Bb (Ad (Ac (pv 2)) (Ad (Al) (Ag))))) (Ag)))))) (As (AU (i:=4) sc_law.nd rfl (by first|exact .inl rfl|exact .inr rfl) (A5 c__law_counts hr Bb (Ad (Ac (pv 3)) (Ag)))) (As (Cy Cz rfl (EN rfl B.n_range (Ad (Al) (Ag))) (DA (AH (i:=5) (sc_law.nd) rfl (by first|exact .inl rfl|exact .inr rfl) (by first|exact .inl rfl|exact .inr rfl))) (As (AU (i:=6) sc_law.nd rfl (by first|exact .inl rfl|exact .inr rfl) (A5 c_left_counts hr Bb (Ad (Ac (pv 3)) (Ag)))) (As (D7 (FO (M3 hr.units) (AN (Qu hr.units hr.gd) rfl B.n_repr Rz (Ad (Ac (pv 6)) (Ag))) (AN (Qu hr.units hr.gd) rfl B.n_repr Rz (Ad (Ac (pv 4)) (Ag))) (EH _)) (AF (A8 (Fg))) (D3)) (AF (FR (J5 (Ac (pv 6)) (Al))))))) (As (AU (i:=7) sc_law.nd rfl (by first|exact .inl rfl|exact .inr rfl) (A5 c__law_no_board hr Bb (Ad (Ac (pv 2)) (Ad (Ac (pv 3)) (Ag))))) (AF (D7 (FO (M3 hr.units) (Xx (Nc:=["_law_none"]) (cs:=[7]) LX (fun _=>rfl) hr Ki et Sd YC (CaM.mono (k:=10) c__law_kind (by decide)) ⟨⟨rfl,rfl,rfl,by kernel_rfl⟩,by decide +kernel,by kernel_rfl,rfl,by kernel_rfl⟩ (fun a cd cl A outer s H E' hr=>A5 c_left_counts hr W6 (Ad (Ac (pv 0)) (Ag))) rfl) (Co) (EH _)) (AF (A8 (Fg))) (D3))))))))) (AF (A8 (Fg)))
noncomputable def Dh:List D→HD→Out D:=fun ds h=>if ds.length=1 then Aw 1 (Nu) ds h else .stuck
theorem Zh {f:Addr} {fd:FuncData} (D:Dn K mg "is_whole" ["thing"] Gf f fd):CaE P w K mg base "is_whole" 1 Dh:=
 ⟨f,fd,_,BG D.fn YD (fun ds h e=>if_neg e) (fun ds h e=>if_pos e) (fun cdv A outer s H E hr=>YQ B et f cdv A outer s H E hr),D.bd,D.mg,D.fn.kp⟩
noncomputable def B5:List D→HD→Out D:=fun ds h=>if ds.length=1 then Aw 1 (Nv) ds h else .stuck
theorem Zi {t_MOST_LINES:Tok} (m_MOST_LINES:mg "MOST_LINES"=some (.int 8 t_MOST_LINES)) {f:Addr} {fd:FuncData} (D:Dn K mg "is_line_tuple" ["thing"] Gg f fd):CaE P w K mg base "is_line_tuple" 1 B5:=
 ⟨f,fd,_,BG D.fn YE (fun ds h e=>if_neg e) (fun ds h e=>if_pos e) (fun cdv A outer s H E hr=>YR B et m_MOST_LINES f cdv A outer s H E hr),D.bd,D.mg,D.fn.kp⟩
noncomputable def Ej:List D→HD→Out D:=fun ds h=>if ds.length=2 then Aw 2 (Nw) ds h else .stuck
theorem Zj {f:Addr} {fd:FuncData} (D:Dn K mg "counts_with_row" ["counts","row"] Gh f fd):CaE P w K mg base "counts_with_row" 1 Ej:=
 ⟨f,fd,_,BG D.fn YF (fun ds h e=>if_neg e) (fun ds h e=>if_pos e) (fun cdv A outer s H E hr=>YS B et f cdv A outer s H E hr),D.bd,D.mg,D.fn.kp⟩
noncomputable def DH:List D→HD→Out D:=fun ds h=>if ds.length=3 then Aw 6 (Nx) ds h else .stuck
theorem Zk {f:Addr} {fd:FuncData} (D:Dn K mg "ways_with_column" ["ways","count","high"] Gi f fd):CaE P w K mg base "ways_with_column" 1 DH:=
 ⟨f,fd,_,BG D.fn sc_ways_with_column (fun ds h e=>if_neg e) (fun ds h e=>if_pos e) (fun cdv A outer s H E hr=>YT B et f cdv A outer s H E hr),D.bd,D.mg,D.fn.kp⟩
noncomputable def Ek:List D→HD→Out D:=fun ds h=>if ds.length=2 then Aw 2 (KS) ds h else .stuck
theorem Zl {f:Addr} {fd:FuncData} (D:Dn K mg "_law_cell" ["_law_script","_law_k"] Gj f fd):CaE P w K mg base "_law_cell" 1 Ek:=
 ⟨f,fd,_,BG D.fn YG (fun ds h e=>if_neg e) (fun ds h e=>if_pos e) (fun cdv A outer s H E hr=>YU B et f cdv A outer s H E hr),D.bd,D.mg,D.fn.kp⟩
noncomputable def El:List D→HD→Out D:=fun ds h=>if ds.length=2 then Aw 3 (Ny) ds h else .stuck
theorem Zm {f:Addr} {fd:FuncData} (D:Dn K mg "_law_mix" ["_law_cell_here","_law_k"] Gk f fd):CaE P w K mg base "_law_mix" 1 El:=
 ⟨f,fd,_,BG D.fn sc__law_mix (fun ds h e=>if_neg e) (fun ds h e=>if_pos e) (fun cdv A outer s H E hr=>YV B et f cdv A outer s H E hr),D.bd,D.mg,D.fn.kp⟩
noncomputable def AQ:List D→HD→Out D:=fun ds h=>if ds.length=2 then Aw 4 (Nz) ds h else .stuck
theorem Zn {f:Addr} {fd:FuncData} (D:Dn K mg "_law_take" ["_law_box_here","_law_many"] Gm f fd):CaE P w K mg base "_law_take" 1 AQ:=
 ⟨f,fd,_,BG D.fn sc__law_take (fun ds h e=>if_neg e) (fun ds h e=>if_pos e) (fun cdv A outer s H E hr=>YW B et f cdv A outer s H E hr),D.bd,D.mg,D.fn.kp⟩
noncomputable def Di:List D→HD→Out D:=fun ds h=>if ds.length=1 then Aw 3 (NA) ds h else .stuck
theorem Zo {f:Addr} {fd:FuncData} (D:Dn K mg "_law_kind" ["_law_e"] Gn f fd):CaM P w K mg base "_law_kind" 1 Di:=
 ⟨f,fd,_,Xa D.fn sc__law_kind (fun ds h e=>if_neg e) (fun ds h e=>if_pos e) (fun cdv A outer s H hr=>YX B et f cdv A outer s H hr),D.bd,D.mg,D.fn.kp,fun ds h e=>if_neg e⟩
noncomputable def B0:List D→HD→Out D:=fun ds h=>if ds.length=0 then Aw 2 (NB) ds h else .stuck
theorem Zp {f:Addr} {fd:FuncData} (D:Dn K mg "_law_ones" [] Gp f fd):CaE P w K mg base "_law_ones" 1 B0:=
 ⟨f,fd,_,BG D.fn sc__law_ones (fun ds h e=>if_neg e) (fun ds h e=>if_pos e) (fun cdv A outer s H E hr=>YY B et f cdv A outer s H E hr),D.bd,D.mg,D.fn.kp⟩
noncomputable def DI:List D→HD→Out D:=fun ds h=>if ds.length=3 then Aw 3 (KU Dh) ds h else .stuck
theorem Zq (c_is_whole:CaE P w K mg base "is_whole" 1 Dh) {f:Addr} {fd:FuncData} (D:Dn K mg "is_between" ["thing","least","most"] Gq f fd):CaE P w K mg base "is_between" 2 DI:=
 ⟨f,fd,_,BG D.fn YH (fun ds h e=>if_neg e) (fun ds h e=>if_pos e) (fun cdv A outer s H E hr=>YZ B et c_is_whole f cdv A outer s H E hr),D.bd,D.mg,D.fn.kp⟩
noncomputable def CU:List D→HD→Out D:=fun ds h=>if ds.length=2 then Aw 4 (NC DH) ds h else .stuck
theorem Zr (c_ways_with_column:CaE P w K mg base "ways_with_column" 1 DH) {f:Addr} {fd:FuncData} (D:Dn K mg "ways_of_counts" ["counts","high"] Gr f fd):CaE P w K mg base "ways_of_counts" 2 CU:=
 ⟨f,fd,_,BG D.fn sc_ways_of_counts (fun ds h e=>if_neg e) (fun ds h e=>if_pos e) (fun cdv A outer s H E hr=>Y0 B et c_ways_with_column f cdv A outer s H E hr),D.bd,D.mg,D.fn.kp⟩
noncomputable def DJ:List D→HD→Out D:=fun ds h=>if ds.length=2 then Aw 5 (ND Ek El) ds h else .stuck
theorem Zs (c__law_cell:CaE P w K mg base "_law_cell" 1 Ek) (c__law_mix:CaE P w K mg base "_law_mix" 1 El) {f:Addr} {fd:FuncData} (D:Dn K mg "_law_box" ["_law_script","_law_k"] Gs f fd):CaE P w K mg base "_law_box" 2 DJ:=
 ⟨f,fd,_,BG D.fn sc__law_box (fun ds h e=>if_neg e) (fun ds h e=>if_pos e) (fun cdv A outer s H E hr=>Y1 B et c__law_cell c__law_mix f cdv A outer s H E hr),D.bd,D.mg,D.fn.kp⟩
noncomputable def Em:List D→HD→Out D:=fun ds h=>if ds.length=1 then Aw 4 (NF AQ) ds h else .stuck
theorem Zt (c__law_take:CaE P w K mg base "_law_take" 1 AQ) {f:Addr} {fd:FuncData} (D:Dn K mg "_law_wide_box" ["_law_box_here"] Gu f fd):CaE P w K mg base "_law_wide_box" 2 Em:=
 ⟨f,fd,_,BG D.fn sc__law_wide_box (fun ds h e=>if_neg e) (fun ds h e=>if_pos e) (fun cdv A outer s H E hr=>Y2 B et c__law_take f cdv A outer s H E hr),D.bd,D.mg,D.fn.kp⟩
noncomputable def DK:List D→HD→Out D:=fun ds h=>if ds.length=2 then Aw 8 (NG AQ) ds h else .stuck
theorem Zu (c__law_take:CaE P w K mg base "_law_take" 1 AQ) {f:Addr} {fd:FuncData} (D:Dn K mg "_law_no_board" ["_law_box_here","_law_board_here"] Gv f fd):CaE P w K mg base "_law_no_board" 2 DK:=
 ⟨f,fd,_,BG D.fn sc__law_no_board (fun ds h e=>if_neg e) (fun ds h e=>if_pos e) (fun cdv A outer s H E hr=>Y3 B et c__law_take f cdv A outer s H E hr),D.bd,D.mg,D.fn.kp⟩
noncomputable def Zv:List D→HD→Out D:=fun ds h=>if ds.length=1 then Aw 7 (RA B0) ds h else .stuck
theorem Zw (c__law_ones:CaE P w K mg base "_law_ones" 1 B0) {f:Addr} {fd:FuncData} (D:Dn K mg "_law_least" ["_law_board_here"] Gw f fd):CaE P w K mg base "_law_least" 2 Zv:=
 ⟨f,fd,_,BG D.fn sc__law_least (fun ds h e=>if_neg e) (fun ds h e=>if_pos e) (fun cdv A outer s H E hr=>Y4 B et c__law_ones f cdv A outer s H E hr),D.bd,D.mg,D.fn.kp⟩
noncomputable def DL:List D→HD→Out D:=fun ds h=>if ds.length=1 then Aw 12 (KV B0) ds h else .stuck
theorem Zx (c__law_ones:CaE P w K mg base "_law_ones" 1 B0) {f:Addr} {fd:FuncData} (D:Dn K mg "_law_counts" ["_law_board_here"] Gx f fd):CaE P w K mg base "_law_counts" 2 DL:=
 ⟨f,fd,_,BG D.fn sc__law_counts (fun ds h e=>if_neg e) (fun ds h e=>if_pos e) (fun cdv A outer s H E hr=>Y5 B et c__law_ones f cdv A outer s H E hr),D.bd,D.mg,D.fn.kp⟩
noncomputable def En:List D→HD→Out D:=fun ds h=>if ds.length=1 then Aw 1 (NH DI) ds h else .stuck
theorem Zy (c_is_between:CaE P w K mg base "is_between" 2 DI) {f:Addr} {fd:FuncData} (D:Dn K mg "is_light" ["thing"] Gy f fd):CaE P w K mg base "is_light" 3 En:=
 ⟨f,fd,_,BG D.fn YI (fun ds h e=>if_neg e) (fun ds h e=>if_pos e) (fun cdv A outer s H E hr=>Y6 B et c_is_between f cdv A outer s H E hr),D.bd,D.mg,D.fn.kp⟩
noncomputable def DM:List D→HD→Out D:=fun ds h=>if ds.length=3 then Aw 8 (NI AQ Em) ds h else .stuck
theorem Zz (c__law_take:CaE P w K mg base "_law_take" 1 AQ) (c__law_wide_box:CaE P w K mg base "_law_wide_box" 2 Em) {f:Addr} {fd:FuncData} (D:Dn K mg "_law_board" ["_law_box_here","_law_high","_law_wide"] Gz f fd):CaE P w K mg base "_law_board" 3 DM:=
 ⟨f,fd,_,BG D.fn sc__law_board (fun ds h e=>if_neg e) (fun ds h e=>if_pos e) (fun cdv A outer s H E hr=>Y7 B et c__law_take c__law_wide_box f cdv A outer s H E hr),D.bd,D.mg,D.fn.kp⟩
noncomputable def Eo:List D→HD→Out D:=fun ds h=>if ds.length=1 then Aw 1 (NJ B5 En) ds h else .stuck
theorem ZA (c_is_line_tuple:CaE P w K mg base "is_line_tuple" 1 B5) (c_is_light:CaE P w K mg base "is_light" 3 En) {f:Addr} {fd:FuncData} (D:Dn K mg "is_row" ["thing"] GA f fd):CaE P w K mg base "is_row" 4 Eo:=
 ⟨f,fd,_,BG D.fn YJ (fun ds h e=>if_neg e) (fun ds h e=>if_pos e) (fun cdv A outer s H E hr=>Y8 B et c_is_line_tuple c_is_light f cdv A outer s H E hr),D.bd,D.mg,D.fn.kp⟩
noncomputable def DN:List D→HD→Out D:=fun ds h=>if ds.length=1 then Aw 1 (NK B5 Eo) ds h else .stuck
theorem ZC (c_is_line_tuple:CaE P w K mg base "is_line_tuple" 1 B5) (c_is_row:CaE P w K mg base "is_row" 4 Eo) {f:Addr} {fd:FuncData} (D:Dn K mg "is_board" ["thing"] GB f fd):CaE P w K mg base "is_board" 5 DN:=
 ⟨f,fd,_,BG D.fn YK (fun ds h e=>if_neg e) (fun ds h e=>if_pos e) (fun cdv A outer s H E hr=>Y9 B et c_is_line_tuple c_is_row f cdv A outer s H E hr),D.bd,D.mg,D.fn.kp⟩
noncomputable def Bd:List D→HD→Out D:=fun ds h=>if ds.length=1 then Aw 1 (KW DN) ds h else .stuck
theorem ZD (c_is_board:CaE P w K mg base "is_board" 5 DN) {f:Addr} {fd:FuncData} (D:Dn K mg "need_board" ["thing"] GC f fd):CaE P w K mg base "need_board" 6 Bd:=
 ⟨f,fd,_,BG D.fn YL (fun ds h e=>if_neg e) (fun ds h e=>if_pos e) (fun cdv A outer s H E hr=>Za B et c_is_board f cdv A outer s H E hr),D.bd,D.mg,D.fn.kp⟩
noncomputable def Ep:List D→HD→Out D:=fun ds h=>if ds.length=1 then Aw 1 (NL Bd) ds h else .stuck
theorem ZE (c_need_board:CaE P w K mg base "need_board" 6 Bd) {f:Addr} {fd:FuncData} (D:Dn K mg "row_counts" ["board"] GD f fd):CaE P w K mg base "row_counts" 7 Ep:=
 ⟨f,fd,_,BG D.fn YM (fun ds h e=>if_neg e) (fun ds h e=>if_pos e) (fun cdv A outer s H E hr=>Zb B et c_need_board f cdv A outer s H E hr),D.bd,D.mg,D.fn.kp⟩
noncomputable def Es:List D→HD→Out D:=fun ds h=>if ds.length=1 then Aw 1 (NM Bd) ds h else .stuck
theorem ZF (c_need_board:CaE P w K mg base "need_board" 6 Bd) {f:Addr} {fd:FuncData} (D:Dn K mg "turned" ["board"] GE f fd):CaE P w K mg base "turned" 7 Es:=
 ⟨f,fd,_,BG D.fn YN (fun ds h e=>if_neg e) (fun ds h e=>if_pos e) (fun cdv A outer s H E hr=>Zc B et c_need_board f cdv A outer s H E hr),D.bd,D.mg,D.fn.kp⟩
noncomputable def Eu:List D→HD→Out D:=fun ds h=>if ds.length=1 then Aw 1 (NO Es Ep) ds h else .stuck
theorem ZG (c_turned:CaE P w K mg base "turned" 7 Es) (c_row_counts:CaE P w K mg base "row_counts" 7 Ep) {f:Addr} {fd:FuncData} (D:Dn K mg "column_counts" ["board"] GF f fd):CaE P w K mg base "column_counts" 8 Eu:=
 ⟨f,fd,_,BG D.fn YO (fun ds h e=>if_neg e) (fun ds h e=>if_pos e) (fun cdv A outer s H E hr=>Zd B et c_turned c_row_counts f cdv A outer s H E hr),D.bd,D.mg,D.fn.kp⟩
noncomputable def CV:List D→HD→Out D:=fun ds h=>if ds.length=1 then Aw 3 (NP Eu Ej) ds h else .stuck
theorem ZH (c_column_counts:CaE P w K mg base "column_counts" 8 Eu) (c_counts_with_row:CaE P w K mg base "counts_with_row" 1 Ej) {f:Addr} {fd:FuncData} (D:Dn K mg "lots_with_counts" ["board"] GG f fd):CaE P w K mg base "lots_with_counts" 9 CV:=
 ⟨f,fd,_,BG D.fn sc_lots_with_counts (fun ds h e=>if_neg e) (fun ds h e=>if_pos e) (fun cdv A outer s H E hr=>Ze B et c_column_counts c_counts_with_row f cdv A outer s H E hr),D.bd,D.mg,D.fn.kp⟩
noncomputable def CC:List D→HD→Out D:=fun ds h=>if ds.length=1 then Aw 6 (Jj Bd CV CU) ds h else .stuck
theorem ZI (c_need_board:CaE P w K mg base "need_board" 6 Bd) (c_lots_with_counts:CaE P w K mg base "lots_with_counts" 9 CV) (c_ways_of_counts:CaE P w K mg base "ways_of_counts" 2 CU) {f:Addr} {fd:FuncData} (D:Dn K mg "left_counts" ["board"] GH f fd):CaE P w K mg base "left_counts" 10 CC:=
 ⟨f,fd,_,BG D.fn sc_left_counts (fun ds h e=>if_neg e) (fun ds h e=>if_pos e) (fun cdv A outer s H E hr=>Zf B et c_need_board c_lots_with_counts c_ways_of_counts f cdv A outer s H E hr),D.bd,D.mg,D.fn.kp⟩
noncomputable def F_law:List D→HD→Out D:=fun ds h=>if ds.length=1 then Aw 8 (KY DJ AQ DM DL CC DK Di) ds h else .stuck
end
theorem _root_.LS.Sm.len {h h':HD} (s:Sm h h'):h.length≤h'.length:=by
 cases e:h.length with
 |zero=>exact EF _
 |succ n=>
  have hn:n<h.length:=by omega
  have:=s n h[n] (AW hn)
  have:=(qa2.mp this).1
  omega
theorem sz {n:Nat} (hn:n≤8):(List.range n).length≤sizeLine:=by
 rw [List.length_range];unfold sizeLine;omega
open PySem.Builtin.Int in
theorem ZJ {ns:List Int} {k:Nat} (hb:∀i∈ns,Builtin.Int.intBits i≤2^20) (hk:k≤1000):∃c:Int,Builtin.Int.intBits c≤2^20∧∀h,Pu (Ek [.scr ns,.int (k:Nat)] h) h (.int c):=by
 by_cases hl:k<ns.length
 ·refine ⟨ns[k],hb _ (GN hl),fun h=>?_⟩
  change Wp (Aw 2 KS [.scr ns,.int (k:Nat)] h) _
  refine Eq.mpr (Bt) ?_
  have:(k:Int)<ns.length:=by omega
  simp [this]
  refine Ax (VT (AW hl)) ?_
  simp [Sm.refl]
 ·refine ⟨6151*(k:Int)+29,?_,fun h=>?_⟩
  ·rw [intBits_le_iff]
   have h1:(6151*(k:Int)+29).natAbs<2^30:=by omega
   exact AL h1 (EA (by decide) (by omega))
  ·change Wp (Aw 2 KS [.scr ns,.int (k:Nat)] h) _
   refine Eq.mpr (Bt) ?_
   have:¬(k:Int)<ns.length:=by omega
   simp [this]
   rw [IH (by decide) (by decide)]
   simp [Sm.refl]
def RB (c:Int) (k:Nat):Int:=(((c+1)*40692+104729*(k:Int))*((c+1)*40692+104729*(k:Int))) % 2147483399+(k:Int)
theorem RC {h:HD}:Hc [.int 24] h=.ok ((List.range 24).map fun k=>D.int ((k:Nat):Int),[]) h:=FV (n:=24) (by decide)
theorem ZK {c:Int} {k:Nat} (hc:Builtin.Int.intBits c≤2^20) (hk:k≤1000):∃r:Int,∀h,Pu (El [.int c,.int (k:Nat)] h) h (.int r):=by
 refine ⟨RB c k*(RB c k+31) % 2147483563,fun h=>?_⟩
 change Wp (Aw 3 Ny [.int c,.int (k:Nat)] h) _
 refine Eq.mpr (Bt) ?_
 have bX:Builtin.Int.intBits ((c+1)*40692+104729*(k:Int))≤16777216:=by
  have hk':Builtin.Int.intBits ((k:Nat):Int)≤10:=PySem.intBits_le_iff.mpr (by omega)
  have:=PySem.intBits_add_le (PySem.intBits_mul_le (PySem.intBits_add_le hc (show Builtin.Int.intBits 1≤1 by decide)) (show Builtin.Int.intBits 40692≤16 by decide)) (PySem.intBits_mul_le (show Builtin.Int.intBits 104729≤17 by decide) hk')
  exact BM this (by decide)
 have h1:=Int.emod_nonneg (((c+1)*40692+104729*(k:Int))*((c+1)*40692+104729*(k:Int))) (show (2147483399:Int)≠0 by decide)
 have h2:=Int.emod_lt_of_pos (((c+1)*40692+104729*(k:Int))*((c+1)*40692+104729*(k:Int))) (show (0:Int)<2147483399 by decide)
 simp
 rw [Ke (by decide) (by decide)]
 simp
 rw [IH (by decide) (by decide)]
 simp
 rw [VV bX bX]
 simp
 rw [II (by decide)]
 simp
 rw [IH (by omega) (by omega)]
 simp
 rw [II (by decide)]
 simp
 exact ⟨rfl,.refl _⟩
def BoxAt (h:HD) (b:Nat):Prop:=∃n:Int,h[b]?=some (.lst [.int n])
inductive RD (ns:List Int) (k:Nat) (c:Int) (h:HD) (xs:List Nat) (ρ:Ai) (h':HD):Prop where
 |mk (N:Int) (x:Option D) (f0:ρ=[some (.scr ns),some (.int (k:Nat)),some (.int c),some (.int N),x]) (f1:Sm h h') (f2:∀j∈xs,j<24):RD ns k c h xs ρ h'
theorem ZL {ns:List Int} {k:Nat} {h:HD} {Q:D→HD→Prop} (hb:∀i∈ns,Builtin.Int.intBits i≤2^20) (hk:k≤1000) (q:∀l h',BoxAt h' l→h.length≤l→Sm h h'→Q (.loc l) h'):Wp (DJ [.scr ns,.int (k:Nat)] h) Q:=by
 change Wp (Aw 5 (ND Ek El) [.scr ns,.int (k:Nat)] h) _
 refine Eq.mpr (Bt) ?_
 obtain ⟨c,bc,pc⟩:=ZJ (k:=k) hb hk
 simp
 refine (pc h).wp fun h1 s1=>?_
 rw [II (by decide)]
 simp
 by_cases hz:c % 2=0
 ·simp [hz]
  rw [PF (by decide) (by decide)]
  simp
  exact A9 (by simp) fun l h' s e el _=>q l h' ⟨_,e⟩ (by have:=s1.len;omega) (s1.trans s)
 ·simp [hz]
  refine CP (src:=[]) (xs:=List.range 24) (fun i=>.int ((i:Nat):Int)) (RD ns k c h) ?_ (fun ys ρ h' _=>Dq) ?_ ?_
  ·simp [RC]
   exact ⟨_,_,rfl,s1,fun j hj=>qbA.mp hj⟩
  ·rintro x xs ρ h' ⟨N,y,rfl,sh,hx⟩
   refine ⟨_,rfl,?_⟩
   obtain ⟨m,pm⟩:=ZK (k:=x) bc (by have:=hx x A3;omega)
   simp
   rw [Ke (by decide) (by decide)]
   simp
   refine (pm h').wp fun h2 s2=>?_
   simp [Dt]
   exact ⟨_,_,rfl,sh.trans s2,fun j hj=>hx j (A6 _ hj)⟩
  ·rintro ρ h' ⟨N,y,rfl,sh,_⟩
   simp
   exact A9 (by simp) fun l h' s e el _=>q l h' ⟨_,e⟩ (by have:=sh.len;omega) (sh.trans s)
def Smx (b:Nat) (h h':HD):Prop:=∀(l:Nat) (c:Cell),l≠b→h[l]?=some c→h'[l]?=some c
theorem Smx.refl (b:Nat) (h:HD):Smx b h h:=fun _ _ _ e=>e
theorem Smx.trans {b:Nat} {h h1 h2:HD} (a:Smx b h h1) (c:Smx b h1 h2):Smx b h h2:=fun l x n e=>c l x n (a l x n e)
theorem Dw {b:Nat} {h h':HD} (s:Sm h h'):Smx b h h':=fun l c _ e=>s l c e
theorem KZ {b:Nat} {m:Int} {h:HD} {Q:D→HD→Prop} (hx:BoxAt h b) (h1:0<m) (h2:m<18446744073709551616) (q:∀d h',0≤d→d<m→BoxAt h' b→Smx b h h'→Q (.int d) h'):Wp (AQ [.loc b,.int m] h) Q:=by
 change Wp (Aw 4 Nz [.loc b,.int m] h) _
 refine Eq.mpr (Bt) ?_
 obtain ⟨N,e⟩:=hx
 simp
 rw [show (0:Int)=((0:Nat):Int) from rfl]
 refine Ax (EU e (k:=0) rfl) ?_
 simp
 refine Ax (VW h1 h2) ?_
 simp
 rw [show (0:Int)=((0:Nat):Int) from rfl]
 refine Ax (Mq e (by simp)) ?_
 simp
 have hl:b<h.length:=(qa2.mp e).1
 refine q _ _ (Int.emod_nonneg _ (by omega)) (Int.emod_lt_of_pos _ h1) ⟨_,by rw [BR hl]⟩ fun l c ne el=>?_
 rw [Bi (Ne.symm ne)]
 exact el
theorem BoxAt.sm {b:Nat} {h h':HD} (x:BoxAt h b) (s:Sm h h'):BoxAt h' b:=let ⟨n,e⟩:=x;⟨n,s _ _ e⟩
theorem BoxAt.smx {a b:Nat} {h h':HD} (x:BoxAt h b) (s:Smx a h h') (ne:b≠a):BoxAt h' b:=let ⟨n,e⟩:=x;⟨n,s _ _ ne e⟩
theorem BoxAt.new {b:Nat} {h:HD} {c:Cell} (x:BoxAt h b):BoxAt (h++[c]) b:=x.sm (.app _ _)
def Plain (h:HD):D→Prop
 |.int _=>True
 |.bl _=>True
 |.non=>True
 |.str _=>True
 |.tup _=>True
 |.edic=>True
 |.loc l=>∃ds,h[l]?=some (.lst ds)
 |_=>False
theorem Plain.sm {h h':HD} {d:D} (p:Plain h d) (s:Sm h h'):Plain h' d:=by
 cases d with
 |loc l=>obtain ⟨ds,e⟩:=p;exact ⟨ds,s _ _ e⟩
 |_=>exact p
def A1:D→List D
 |.tup ds=>ds
 |_=>[]
def Plain2 (h:HD) (d:D):Prop:=Plain h d∧∀x∈A1 d,Plain h x
def Plain3 (h:HD) (d:D):Prop:=Plain h d∧∀x∈A1 d,Plain2 h x
theorem Plain2.sm {h h':HD} {d:D} (p:Plain2 h d) (s:Sm h h'):Plain2 h' d:=⟨p.1.sm s,fun x hx=>(p.2 x hx).sm s⟩
theorem Plain3.sm {h h':HD} {d:D} (p:Plain3 h d) (s:Sm h h'):Plain3 h' d:=⟨p.1.sm s,fun x hx=>(p.2 x hx).sm s⟩
def Ew:D→Bool
 |.int i=>decide (0≤i)&&decide (i≤1)
 |_=>false
def BQ:D→Bool
 |.tup ds=>decide (1≤ds.length)&&decide (ds.length≤8)
 |_=>false
def BK (d:D):Bool:=BQ d&&(A1 d).all Ew
def Dj (d:D):Nat:=(A1 d).length
def B6 (d:D):Bool:=BQ d&&(A1 d).all BK&&(A1 d).all fun x=>Dj x==Dj ((A1 d).getD 0 .non)
theorem p_is_between_int {i a b:Int} {h:HD}:Pu (DI [.int i,.int a,.int b] h) h (.bl (decide (a≤i)&&decide (i≤b))):=by
 change Wp (Aw 3 (KU Dh) [.int i,.int a,.int b] h) _
 refine Eq.mpr (Bt) ?_
 have e:Dh [.int i] h=.ok (.bl true) h:=rfl
 simp [e]
 by_cases h1:a≤i<;>simp [h1,AC,Sm.refl]
theorem ZM {d:D} {a b:Int} {h:HD} (e:Dh [d] h=.ok (.bl false) h):Pu (DI [d,.int a,.int b] h) h (.bl false):=by
 change Wp (Aw 3 (KU Dh) [d,.int a,.int b] h) _
 refine Eq.mpr (Bt) ?_
 simp [e,Sm.refl]
def NQ:D→Bool
 |.int _=>true
 |_=>false
theorem ZN {d:D} {h:HD} (p:Plain h d):Dh [d] h=.ok (.bl (NQ d)) h:=by
 cases d with
 |loc l=>
  obtain ⟨ds,e⟩:=p
  have i1:AJ (.loc l) (.ty "int") h=.ok (.bl false) h:=XB e
  have w:Wp (Aw 1 Nu [.loc l] h) fun d h'=>d=.bl false∧h'=h:=by
   refine Eq.mpr Bt ?_
   simp [-XA,i1]
  obtain ⟨a,h',e',rfl,rfl⟩:=Wp.ex w
  exact e'
 |tup ds=>rfl
 |int i=>rfl
 |bl b=>rfl
 |non=>rfl
 |str x=>rfl
 |edic=>rfl
 |_=>exact p.elim
theorem ZO {d:D} (h:NQ d=true):∃i,d=.int i:=by cases d<;>first |exact ⟨_,rfl⟩ |cases h
theorem ZP {d:D} {h:HD} (p:Plain h d):Pu (En [d] h) h (.bl (Ew d)):=by
 change Wp (Aw 1 (NH DI) [d] h) _
 refine Eq.mpr Bt ?_
 simp
 cases hw:NQ d with
 |true=>
  obtain ⟨i,rfl⟩:=ZO hw
  exact p_is_between_int.wp fun h' s=>⟨rfl,s⟩
 |false=>
  have e:=ZN p
  rw [hw] at e
  have e2:Ew d=false:=by cases d<;>first |rfl |cases hw
  exact (ZM e).wp fun h' s=>⟨by rw [e2],s⟩
def NR:D→Bool
 |.tup _=>true
 |_=>false
theorem ZQ {d:D} {h:HD} (p:Plain h d):AJ d (.ty "tuple") h=.ok (.bl (NR d)) h:=by
 cases d with
 |loc l=>obtain ⟨ds,e⟩:=p;exact XC e
 |tup ds=>rfl
 |int i=>rfl
 |bl b=>rfl
 |non=>rfl
 |str x=>rfl
 |edic=>rfl
 |_=>exact p.elim
theorem ZR {d:D} (h:NR d=true):∃ds,d=.tup ds:=by cases d<;>first |exact ⟨_,rfl⟩ |cases h
theorem RE {d:D} {h:HD} (p:Plain h d):Pu (B5 [d] h) h (.bl (BQ d)):=by
 change Wp (Aw 1 Nv [d] h) _
 refine Eq.mpr Bt ?_
 cases hT:NR d with
 |true=>
  obtain ⟨ds,rfl⟩:=ZR hT
  have a1:(1:Int)≤ds.length↔1≤ds.length:=by omega
  have a2:(ds.length:Int)≤8↔ds.length≤8:=by omega
  by_cases h1:1≤ds.length
  ·by_cases h2:ds.length≤8
   ·simp [a1.mpr h1,a2.mpr h2,AC,Sm.refl,BQ,h1,h2]
   ·have b2:¬(ds.length:Int)≤8:=by omega
    simp [a1.mpr h1,b2,AC,Sm.refl,BQ,h1,h2]
  ·have b1:¬(1:Int)≤ds.length:=by omega
   simp [b1,AC,Sm.refl,BQ,h1]
 |false=>
  have:BQ d=false:=by cases d<;>first |rfl |cases hT
  simp [ZQ p,hT,this,Sm.refl]
theorem NS {d:D} (h:BQ d=true):∃ds,d=.tup ds∧1≤ds.length∧ds.length≤8:=by
 cases d with
 |tup ds=>exact ⟨ds,rfl,by simpa [BQ] using h⟩
 |_=>cases h
theorem ZS {d:D} {h:HD} (p:Plain2 h d):Pu (Eo [d] h) h (.bl (BK d)):=by
 change Wp (Aw 1 (NJ B5 En) [d] h) _
 refine Eq.mpr (Bt) ?_
 simp
 refine (RE p.1).wp fun h1 s1=>?_
 cases hl:BQ d with
 |false=>simp [BK,hl,s1]
 |true=>
  obtain ⟨ds,rfl,l1,l2⟩:=NS hl
  simp
  refine Pu.wp (Mr (src:=[]) (xs:=ds) (φ:=fun x=>x) Ew (fun x=>[some x]) (by rw [List.map_id'];exact Kd) (fun x _=>rfl) (fun x hx h' s'=>?_) (by unfold sizeLine;omega)) fun h2 s2=>?_
  ·simp [Pu]
   exact ZP ((p.2 x hx).sm (s1.trans s'))
  ·simp [BK,hl,A1,s1.trans s2]
theorem RF {d:D} {h:HD} (hl:BQ d=true):A2 d h=.ok (.int (Dj d:Nat)) h:=by
 obtain ⟨ds,rfl,_,_⟩:=NS hl
 simp [Dj,A1]
theorem RG {d:D} (h:BK d=true):BQ d=true:=by unfold BK at h;exact (Bool.and_eq_true_iff.mp h).1
theorem RH {d:D} {h:HD} (p:Plain3 h d):Pu (DN [d] h) h (.bl (B6 d)):=by
 change Wp (Aw 1 (NK B5 Eo) [d] h) _
 refine Eq.mpr (Bt) ?_
 simp
 refine (RE p.1).wp fun h1 s1=>?_
 cases hl:BQ d with
 |false=>simp [B6,hl,s1]
 |true=>
  obtain ⟨ds,rfl,l1,l2⟩:=NS hl
  simp
  refine Pu.wp (Mr (src:=[]) (xs:=ds) (φ:=fun x=>x) BK (fun x=>[some x]) (by rw [List.map_id'];exact Kd) (fun x _=>rfl) (fun x hx h' s'=>?_) (by unfold sizeLine;omega)) fun h2 s2=>?_
  ·simp [Pu]
   exact ZS ((p.2 x hx).sm (s1.trans s'))
  ·cases ha:ds.all BK with
   |false=>simp [B6,hl,A1,ha,s1.trans s2]
   |true=>
    simp
    have hr:∀x∈ds,BK x=true:=fun x hx=>qaO.mp ha x hx
    obtain ⟨d0,rest,rfl⟩:∃d0 rest,ds=d0::rest:=by
     cases ds with
     |nil=>simp at l1
     |cons a r=>exact ⟨a,r,rfl⟩
    refine Pu.wp (Mr (src:=[]) (xs:=d0::rest) (φ:=fun x=>x) (fun x=>Dj x==Dj d0) (fun x=>[some x,some (.tup (d0::rest))]) (by rw [List.map_id'];exact Kd) (fun x _=>rfl) (fun x hx h' s'=>?_) (by unfold sizeLine;omega)) fun h3 s3=>?_
    ·simp [Pu]
     rw [RF (RG (hr x hx))]
     simp
     rw [show (0:Int)=((0:Nat):Int) from rfl]
     refine Ax (ix_tup (k:=0) rfl) ?_
     simp
     rw [RF (RG (hr d0 A3))]
     simp [Sm.refl]
     rw [qbR]
     simp
     omega
    ·have:(d0::rest).all BK=true:=ha
     simp only [B6,hl,A1,this,Bool.true_and]
     refine ⟨?_,(s1.trans s2).trans s3⟩
     simp
theorem ZT {d:D} {h:HD} (p:Plain3 h d) (hb:B6 d=true):Pu (Bd [d] h) h .non:=by
 change Wp (Aw 1 (KW DN) [d] h) _
 refine Eq.mpr (Bt) ?_
 simp
 refine (RH p).wp fun h1 s1=>?_
 simp [hb,s1]
theorem ZU {d:D} {h:HD} (p:Plain3 h d) (hb:B6 d=false):Er (Bd [d] h) h "NoBoard":=by
 change We (Aw 1 (KW DN) [d] h) _ _
 refine Eq.mpr (Qz) ?_
 simp
 refine (RH p).we fun h1 s1=>?_
 simp [hb,s1,Ea]
def lit (x:Bool):D:=.int (if x then 1 else 0)
def AK (w:Nat) (f:Nat→Bool):D:=.tup ((List.range w).map fun j=>lit (f j))
def bD (h w:Nat) (f:Nat→Nat→Bool):D:=.tup ((List.range h).map fun i=>AK w (f i))
section
variable {H W:Nat} {h:HD} {f:Nat→Nat→Bool} {r:Nat→Bool}
theorem ZV {x:Bool}:Ew (lit x)=true:=by cases x<;>rfl
theorem K0:Plain2 h (AK W r):=⟨trivial,fun x hx=>by
 simp only [AK,A1,qaM] at hx
 obtain ⟨j,_,rfl⟩:=hx
 exact trivial⟩
theorem ZW:Plain3 h (bD H W f):=⟨trivial,fun x hx=>by
 simp only [bD,A1,qaM] at hx
 obtain ⟨j,_,rfl⟩:=hx
 exact K0⟩
theorem RI {ds:List D} (h1:1≤ds.length) (h2:ds.length≤8):BQ (.tup ds)=true:=by simp [BQ,h1,h2]
theorem ZX (hw:1≤W∧W≤8):BK (AK W r)=true:=by
 unfold BK
 rw [CF]
 refine ⟨RI (by simp;omega) (by simp;omega),qaO.mpr fun x hx=>?_⟩
 simp only [AK,A1,qaM] at hx
 obtain ⟨j,_,rfl⟩:=hx
 exact ZV
theorem K1:Dj (AK W r)=W:=by simp [Dj,AK,A1]
theorem ZY (hh:1≤H∧H≤8) (hw:1≤W∧W≤8):B6 (bD H W f)=true:=by
 unfold B6
 rw [CF,CF]
 refine ⟨⟨RI (by simp;omega) (by simp;omega),qaO.mpr fun x hx=>?_⟩,qaO.mpr fun x hx=>?_⟩
 ·simp only [bD,A1,qaM] at hx
  obtain ⟨j,_,rfl⟩:=hx
  exact ZX hw
 ·simp only [bD,A1,qaM] at hx ⊢
  obtain ⟨j,_,rfl⟩:=hx
  have:((List.range H).map fun i=>AK W (f i)).getD 0 .non=AK W (f 0):=by
   rw [DO,BX,FA (by omega)];rfl
  rw [this,K1,K1]
  simp
theorem NT (hh:1≤H∧H≤8) (hw:1≤W∧W≤8):Pu (Bd [bD H W f] h) h .non:=ZT ZW (ZY hh hw)
end
section
variable {h:HD}
theorem ZZ:JW (.int 10) (.int 29) h=.ok (.int (10^29)) h:=by
 simp only [JW,LS.intD]
 rw [if_pos (by decide)]
 rfl
variable {H W:Nat} {f:Nat→Nat→Bool} {r:Nat→Bool}
theorem Jk:A2 (bD H W f) h=.ok (.int (H:Nat)) h:=by simp [bD]
theorem NU:A2 (AK W r) h=.ok (.int (W:Nat)) h:=by simp [AK]
theorem Z0 {k:Nat} (hk:k<H):AG (bD H W f) (.int (k:Nat)) h=.ok (AK W (f k)) h:=Ka hk
theorem K2 (hk:1≤H):AG (bD H W f) (.int 0) h=.ok (AK W (f 0)) h:=PC (by omega)
def NoRowD (h:HD) (H W:Nat) (x:D):Prop:=Plain2 h x∧(BK x=false∨(1<H∧Dj x≠W))
def Cr (H W:Nat) (f:Nat→Nat→Bool) (A:Nat) (x:D):D:=.tup (((List.range H).map fun i=>AK W (f i)).take A++[x]++((List.range H).map fun i=>AK W (f i)).drop (A+1))
theorem Z1 {A:Nat} {x y:D} (hy:y∈A1 (Cr H W f A x)):y=x∨∃i,y=AK W (f i):=by
 simp only [Cr,A1,List.append_assoc,qaZ,qa5,CG,or_false] at hy
 rcases hy with hy |hy |hy
 ·have:=Lo hy
  simp at this
  obtain ⟨i,_,rfl⟩:=this
  exact .inr ⟨i,rfl⟩
 ·exact .inl hy
 ·have:=Lp hy
  simp at this
  obtain ⟨i,_,rfl⟩:=this
  exact .inr ⟨i,rfl⟩
theorem Z2 {A:Nat} {x:D} (hx:Plain2 h x):Plain3 h (Cr H W f A x):=⟨trivial,fun y hy=>by
 rcases Z1 hy with rfl |⟨i,rfl⟩
 ·exact hx
 ·exact K0⟩
theorem Z3 {A:Nat} {x:D} (hA:A<H) (hx:NoRowD h H W x):B6 (Cr H W f A x)=false:=by
 have hm:x∈A1 (Cr H W f A x):=by simp [Cr,A1]
 rcases hx.2 with hr |⟨h1,hl⟩
 ·unfold B6
  rw [show (A1 (Cr H W f A x)).all BK=false from by
   rw [HM]
   exact ⟨x,hm,by rw [hr];simp⟩]
  simp
 ·unfold B6
  rw [show ((A1 (Cr H W f A x)).all fun y=>Dj y==Dj ((A1 (Cr H W f A x)).getD 0 .non))=false from ?_]
  ·simp
  rw [HM]
  have lenA:(((List.range H).map fun i=>AK W (f i)).take A).length=A:=by simp;omega
  by_cases hA0:A=0
  ·subst hA0
   have e0:(A1 (Cr H W f 0 x)).getD 0 .non=x:=by simp [Cr,A1]
   rw [e0]
   have h2:((List.range H).map fun i=>AK W (f i)).drop 1≠[]:=by
    intro z
    have:=congrArg List.length z
    simp at this
    omega
   obtain ⟨y,hy⟩:=List.exists_mem_of_ne_nil _ h2
   refine ⟨y,by simp only [Cr,A1];exact qaZ.mpr (.inr hy),?_⟩
   have:=Lp hy
   simp at this
   obtain ⟨i,_,rfl⟩:=this
   rw [K1]
   simpa using fun z=>hl z.symm
  ·have e0:(A1 (Cr H W f A x)).getD 0 .non=AK W (f 0):=by
    simp only [Cr,A1,List.append_assoc]
    rw [DO,Ez (by rw [lenA];omega),List.getElem?_take,if_pos (by omega),BX,FA (by omega)]
    rfl
   rw [e0,K1]
   exact ⟨x,hm,by simpa using hl⟩
theorem NV {ds:List D} {x:D} (hx:x∈ds) (hr:BK x=false):B6 (.tup ds)=false:=by
 unfold B6
 rw [show (A1 (.tup ds)).all BK=false from by
  rw [HM]
  exact ⟨x,hx,by rw [hr];simp⟩]
 simp
theorem RJ {d:D} (hl:BQ d=false):B6 d=false:=by unfold B6;rw [hl];simp
theorem Z4 (hh:1≤H):BK (bD H W f)=false:=by
 unfold BK
 rw [show (A1 (bD H W f)).all Ew=false from by
  rw [HM]
  exact ⟨AK W (f 0),by simp [bD,A1];exact ⟨0,by omega,rfl⟩,by simp [AK,Ew]⟩]
 simp
theorem Z5 (hw:1≤W):B6 (AK W r)=false:=NV (x:=lit (r 0)) (by simp;exact ⟨0,by omega,rfl⟩) (by simp [BK,lit,BQ])
def NoB (h:HD) (d:D):Prop:=Plain3 h d∧B6 d=false
theorem NoB.sm {h':HD} {d:D} (n:NoB h d) (s:Sm h h'):NoB h' d:=⟨n.1.sm s,n.2⟩
end
theorem Plain.smx {b:Nat} {h h':HD} {d:D} (p:Plain h d) (s:Smx b h h') (x:BoxAt h' b):Plain h' d:=by
 cases d with
 |loc l=>
  obtain ⟨ds,e⟩:=p
  by_cases hl:l=b
  ·obtain ⟨n,e'⟩:=x
   exact ⟨_,hl ▸ e'⟩
  ·exact ⟨ds,s _ _ hl e⟩
 |_=>exact p
theorem Plain2.smx {b:Nat} {h h':HD} {d:D} (p:Plain2 h d) (s:Smx b h h') (x:BoxAt h' b):Plain2 h' d:=⟨p.1.smx s x,fun y hy=>(p.2 y hy).smx s x⟩
theorem Plain3.smx {b:Nat} {h h':HD} {d:D} (p:Plain3 h d) (s:Smx b h h') (x:BoxAt h' b):Plain3 h' d:=⟨p.1.smx s x,fun y hy=>(p.2 y hy).smx s x⟩
theorem NoB.smx {b:Nat} {h h':HD} {d:D} (n:NoB h d) (s:Smx b h h') (x:BoxAt h' b):NoB h' d:=⟨n.1.smx s x,n.2⟩
def TabAt (h:HD):Prop:=h[0]?=some .tab
theorem TabAt.sm {h h':HD} (t:TabAt h) (s:Sm h h'):TabAt h':=s _ _ t
theorem TabAt.smx {b:Nat} {h h':HD} (t:TabAt h) (s:Smx b h h') (hb:0<b):TabAt h':=s _ _ (by omega) t
theorem TabAt.pos {h:HD} (t:TabAt h):0<h.length:=(qa2.mp t).1
theorem HE {b:Nat} {m:Int} {h:HD} {Q:D→HD→Prop} (hx:BoxAt h b) (hb:0<b) (ht:TabAt h) (h1:0<m) (h2:m≤1000) (q:∀(d:Nat) h',(d:Int)<m→BoxAt h' b→TabAt h'→Smx b h h'→Q (.int (d:Nat)) h'):Wp (AQ [.loc b,.int m] h) Q:=
 KZ hx (by omega) (by omega) fun d h' d0 d1 x s=>by
  obtain ⟨k,rfl⟩:∃k:Nat,d=(k:Int):=⟨d.toNat,by omega⟩
  exact q k h' (by omega) x (ht.smx s hb) s
theorem BoxAt.lt {b:Nat} {h:HD} (x:BoxAt h b):b<h.length:=let ⟨_,e⟩:=x;(qa2.mp e).1
@[simp] theorem Zd0 {ρ:Ai} {a b:D} {i j:Nat}:Hz [i,j] (.tup [a,b]) ρ=some ((ρ.set i (some a)).set j (some b)):=id rfl
theorem GI {xs ys:List D} {h:HD} (hz:xs.length+ys.length≤1000):Aq (.tup xs) (.tup ys) h=.ok (.tup (xs++ys)) h:=by
 simp only [Aq]
 rw [if_pos (by unfold sizeLine;omega)]
theorem Z6 {ds:List D} {x:D} (hx:x∈ds) (hl:Ew x=false):BK (.tup ds)=false:=by
 unfold BK
 rw [show (A1 (.tup ds)).all Ew=false from by
  rw [HM]
  exact ⟨x,hx,by rw [hl];simp⟩]
 simp
theorem Z7 {d:D} (hl:BQ d=false):BK d=false:=by unfold BK;rw [hl];simp
theorem RK {ds:List D} (hl:8<ds.length):BQ (.tup ds)=false:=by
 have:¬ds.length≤8:=by omega
 simp [BQ,this]
theorem Z8 {h:HD} {W:Nat} {r:Nat→Bool} {x:D} (hx:x∈(List.range W).map fun j=>lit (r j)):Plain h x:=by
 simp only [qaM] at hx
 obtain ⟨j,_,rfl⟩:=hx
 exact trivial
theorem GJ {P:D→Prop}:∀d∈([]:List D),P d:=fun d hd=>by cases hd
theorem all_cons {P:D→Prop} {a:D} {l:List D} (h:P a) (t:∀d∈l,P d):∀d∈a::l,P d:=fun d hd=>by
 rcases qa5.mp hd with rfl |hd
 ·exact h
 ·exact t d hd
theorem NW {P:D→Prop} {l r:List D} (h:∀d∈l,P d) (t:∀d∈r,P d):∀d∈l++r,P d:=fun d hd=>by
 rcases qaZ.mp hd with hd |hd
 ·exact h d hd
 ·exact t d hd
theorem RL (P:D→Prop) {l o:Nat} {ds:List D} {h:HD} (e:h[l]?=some (.lst ds)) (ho:o<ds.length) (hp:∀d∈ds,P d):∃y,AG (.loc l) (.int (o:Nat)) h=.ok y h∧P y:=
 ⟨ds[o],EU e (AW ho),hp _ (GN ho)⟩
theorem Jl {h:HD} {d:D} (p:Plain h d) (e:A1 d=[]):Plain2 h d:=⟨p,fun x hx=>by rw [e] at hx;cases hx⟩
theorem Z9 {h:HD} {d:D} (p:Plain h d) (e:A1 d=[]):Plain3 h d:=⟨p,fun x hx=>by rw [e] at hx;cases hx⟩
def Zaa (h:HD) (H W l:Nat):Prop:=∃ds:List D,h[l]?=some (.lst ds)∧ds.length≤10∧∀d∈ds,NoRowD h H W d
theorem NoRowD.sm {h h':HD} {H W:Nat} {d:D} (n:NoRowD h H W d) (s:Sm h h'):NoRowD h' H W d:=⟨n.1.sm s,n.2⟩
noncomputable abbrev Zab:MS:=Aj (Au 7 (AV [none,some 1,some 2] (BP (Ab 7)) (A7 0) (Bo) (Af Aq (Af Aq (Eg (Ab 1) (EX) (Eb (Ab 2))) (Bq (Aa (Ab 0) (Ae)))) (Eg (Ab 1) (Eb (Af Aq (Ab 2) (mC (.int 1)))) (EX))))) (Aj (Au 7 (Af Aq (Ab 7) (Bw (Aa (Ah (Ao HA) (Aa (Ab 1) (Ae))) (Aa (Bq (Aa (Ab 1) (Ae))) (Aa (Af BC (Bq (Aa (Af AG (Ab 1) (mC (.int 0))) (Ae))) (mC (.int 9))) (Aa (Af Aq (Ab 1) (Bq (Aa (Bq (Ae)) (Ae)))) (Aa (Af AG (Ab 1) (mC (.int 0))) (Aa (mC .non) (Aa (Bq (Ae)) (Aa (mC (.int 0)) (Aa (mC (.str "")) (Aa (mC .edic) (Ae)))))))))))))) (AO (Af AG (Ab 7) (Ah AQ (Aa (Ab 0) (Aa (Ah (Ao A2) (Aa (Ab 7) (Ae))) (Ae)))))))
theorem RM {R:List D} {h:HD}:HA (.tup R) h=B2 R h:=rfl
theorem NoB.tup {h:HD} {ds:List D} (hp:∀x∈ds,Plain2 h x) (hb:B6 (.tup ds)=false):NoB h (.tup ds):=⟨⟨trivial,hp⟩,hb⟩
theorem RN {b H W A l:Nat} {f:Nat→Nat→Bool} {h:HD} {c3 c4 c5 c6:Option D} {Q:D→HD→Prop} (hx:BoxAt h b) (hb:0<b) (ht:TabAt h) (hh:1≤H∧H≤8) (hw:1≤W∧W≤8) (hA:A<H) (hn:Zaa h H W l)
 (q:∀d h',NoB h' d→BoxAt h' b→TabAt h'→Smx b h h'→Q d h'):Wp (Zab [some (.loc b),some (bD H W f),some (.int (A:Nat)),c3,c4,c5,c6,some (.loc l)] h) (IE Q):=by
 obtain ⟨ds,el,ln,hn⟩:=hn
 try simp [-Ak]
 refine Hi (src:=[(l,ds)]) (xs:=ds) (φ:=fun x=>x) (fun _=>true) (fun x=>Cr H W f A x) (fun x=>[some x,some (bD H W f),some (.int (A:Nat))]) ?_ (by unfold sizeLine;omega) (fun x _=>rfl) (fun x hx h' s'=>.ok) (fun x hx _ h' s'=>?_) fun l7 h7 s7 e7=>?_
 ·simp
  refine Ax (Ko el) ?_
  simp [Sm.refl]
  exact fun h2 s2=>Iu (s2 _ _ el)
 ·simp [Pu]
  rw [bD]
  refine Ax (QK (by simp;omega)) ?_
  simp
  refine Ax (GI (by simp;omega)) ?_
  simp
  refine Ax (QL (k:=A) (by omega) (by simp;omega)) ?_
  simp
  refine Ax (GI (by simp;omega)) ?_
  simp [Cr,Sm.refl]
 rw [FW] at e7
 refine Eq.mpr (Ak) ?_
 simp [-Ak,K2 hh.1]
 obtain ⟨R,eR,lR,pR⟩:∃R:List D,bD H W f=.tup R∧R.length=H∧∀x∈R,∀h,Plain2 h x:=⟨_,rfl,by simp,fun x hx h=>by
  simp only [qaM] at hx
  obtain ⟨j,_,rfl⟩:=hx
  exact K0⟩
 rw [eR]
 refine Ax (RM) ?_
 refine A9 (by unfold sizeLine;omega) fun l8 h8 s8 e8 _ _=>?_
 rw [show (9:Int)=((9:Nat):Int) from rfl]
 refine Ax (QG (by simp) (by simp)) ?_
 try simp [-Ak]
 refine Ax (GI (by simp;omega)) ?_
 rw [Bs]
 refine A9 (by simp) fun l9 h9 s9 e9 _ _=>?_
 try simp [-Ak]
 refine Ax (Ky (s9 _ _ (s8 _ _ e7)) e9) ?_
 refine A9 (by simp;unfold sizeLine;omega) fun l10 h10 s10 e10 el10 _=>?_
 have s:=((s7.trans s8).trans s9).trans s10
 obtain ⟨L,eL,lL,nL⟩:∃L:List D,h10[l10]?=some (.lst L)∧L.length=ds.length+10∧∀d∈L,NoB h10 d:=by
  have s8':=s9.trans s10
  have pl:∀x∈R,Plain2 h10 x:=fun x hx=>pR x hx h10
  have flat:∀{x:D},Plain h10 x→A1 x=[]→BQ x=false→NoB h10 x:=fun p e l=>⟨Z9 p e,RJ l⟩
  refine ⟨_,e10,by simp,NW (fun d hm=>?_) <| all_cons (flat ⟨_,s8' _ _ e8⟩ rfl rfl) <| all_cons (.tup (all_cons ⟨trivial,fun y hy=>(pl y hy).1⟩ GJ) (NV (x:=.tup R) A3 (by rw [←eR];exact Z4 hh.1))) <|
   all_cons (.tup (fun x hx=>?_) (RJ (RK (by simp)))) <| all_cons (.tup (NW pl (all_cons (Jl trivial rfl) GJ)) (NV (x:=.tup []) (by simp) rfl)) <|
   all_cons ⟨⟨trivial,fun x hx=>?_⟩,Z5 hw.1⟩ <| all_cons (flat trivial rfl rfl) <| all_cons (flat trivial rfl rfl) <| all_cons (flat trivial rfl rfl) <| all_cons (flat trivial rfl rfl) <| all_cons (flat trivial rfl rfl) GJ⟩
  ·obtain ⟨x,hx1,ex⟩:=qaM.mp hm
   rw [←ex]
   have:=(hn x hx1).sm s
   exact ⟨Z2 this.1,Z3 hA this⟩
  ·rw [show x=_ from Lk (n:=9) hx]
   exact K0
  ·obtain ⟨j,_,rfl⟩:=qaM.mp hx
   exact Jl trivial rfl
 refine Eq.mpr (Ak) ?_
 try simp [-Ak]
 refine Ax (Qc eL) ?_
 try simp [-Ak]
 refine HE (hx.sm s) hb (ht.sm s) (by omega) (by omega) fun d h11 ld x11 t11 s11=>?_
 have n10:l10≠b:=by have:=(((hx.sm s7).sm s8).sm s9).lt;omega
 have hd:d<L.length:=by omega
 refine Ax (EU (s11 _ _ n10 eL) (AW hd)) ?_
 exact q _ _ ((nL _ (GN hd)).smx s11 x11) x11 t11 ((Dw s).trans s11)
theorem Zac {b H W:Nat} {f:Nat→Nat→Bool} {h:HD} {Q:D→HD→Prop} (hx:BoxAt h b) (hb:0<b) (ht:TabAt h) (hh:1≤H∧H≤8) (hw:1≤W∧W≤8) (q:∀d h',NoB h' d→BoxAt h' b→TabAt h'→Smx b h h'→Q d h'):Wp (DK [.loc b,bD H W f] h) Q:=by
 change Wp (Aw 8 (NG AQ) [.loc b,bD H W f] h) _
 refine Eq.mpr (Bt) ?_
 simp [-Ak,Jk,K2 hh.1,NU]
 refine HE hx hb ht (by omega) (by omega) fun A h1 lA x1 t1 s1=>?_
 refine HE x1 hb t1 (by omega) (by omega) fun B h2 lB x2 t2 s2=>?_
 have hA:A<H:=by omega
 have hB:B<W:=by omega
 try simp [-Ak]
 refine Eq.mpr (Ak) ?_
 try simp [-Ak,ZZ]
 refine A9 (by simp) fun l3 h3 s3 e3 el3 _=>?_
 try simp [-Ak]
 refine A9 (by simp) fun l4 h4 s4 e4 el4 _=>?_
 have x4:BoxAt h4 b:=(x2.sm s3).sm s4
 have t4:TabAt h4:=(t2.sm s3).sm s4
 have n3:l3≠b:=by have:=x2.lt;omega
 have n4:l4≠b:=by have:=(x2.sm s3).lt;omega
 try simp [-Ak]
 refine HE x4 hb t4 (by decide) (by decide) fun o h5 l2 x5 t5 s5=>?_
 have e4':=s5 _ _ n4 e4
 have e3':=s5 _ _ n3 (s4 _ _ e3)
 obtain ⟨y,ey,py,ly⟩:=RL (fun y=>Plain h5 y∧Ew y=false) (o:=o) e4' (by simp;omega) <| all_cons ⟨trivial,rfl⟩ <| all_cons ⟨trivial,rfl⟩ <| all_cons ⟨trivial,rfl⟩ <| all_cons ⟨trivial,rfl⟩ <| all_cons ⟨trivial,rfl⟩ <| all_cons ⟨trivial,rfl⟩ <| all_cons ⟨trivial,rfl⟩ <| all_cons ⟨trivial,by decide⟩ <| all_cons ⟨⟨_,e3'⟩,rfl⟩ <| all_cons ⟨trivial,rfl⟩ GJ
 refine Ax (ey) ?_
 rw [Bs]
 refine Eq.mpr (Ak) ?_
 try simp [-Ak]
 refine Ax (Z0 hA) ?_
 rw [Bs]
 refine Eq.mpr (Ak) ?_
 have S:Smx b h h5:=(((s1.trans s2).trans (Dw s3)).trans (Dw s4)).trans s5
 clear ey
 generalize hr:f A=r
 obtain ⟨R,eR,lR,pR⟩:∃R:List D,AK W r=.tup R∧R.length=W∧∀x∈R,∀h,Plain h x:=⟨_,rfl,by simp,fun x hx h=>Z8 hx⟩
 rw [eR]
 try simp [-Ak]
 refine Ax (QK (by omega)) ?_
 try simp [-Ak]
 refine Ax (GI (by simp;omega)) ?_
 try simp [-Ak]
 refine Ax (QL (k:=B) (by omega) (by omega)) ?_
 try simp [-Ak]
 refine Ax (GI (by simp;omega)) ?_
 rw [Bs]
 refine Eq.mpr (Ak) ?_
 try simp [-Ak]
 rw [show (8:Int)=((8:Nat):Int) from rfl]
 refine Ax (QG (by simp) (by simp)) ?_
 try simp [-Ak]
 refine Ax (GI (by simp;omega)) ?_
 rw [Bs]
 refine Ax (RM) ?_
 refine A9 (by unfold sizeLine;omega) fun l6 h6 s6 e6 _ _=>?_
 refine A9 (by simp) fun l7 h7 s7 e7 _ _=>?_
 refine Eq.mpr (Ak) ?_
 have hS7:Smx b h h7:=(S.trans (Dw s6)).trans (Dw s7)
 have x7:=(x5.sm s6).sm s7
 have t7:=(t5.sm s6).sm s7
 have py7:Plain h7 y:=(py.sm s6).sm s7
 have base:∀d∈[D.tup (List.take B R++y::List.drop (B+1) R),D.tup (List.take B R++y::List.drop (B+1) R),D.tup (List.take B R++y::List.drop (B+1) R),D.tup (R++[D.int 0,D.int 0,D.int 0,D.int 0,D.int 0,D.int 0,D.int 0,D.int 0]),D.tup [],D.loc l6,D.non,D.int 1],NoRowD h7 H W d:=by
  have pt:∀ds:List D,(∀x∈ds,Plain h7 x)→BK (.tup ds)=false→NoRowD h7 H W (.tup ds):=fun ds hd hr=>⟨⟨trivial,hd⟩,.inl hr⟩
  have bent:NoRowD h7 H W (.tup (List.take B R++y::List.drop (B+1) R)):=by
   refine pt _ (fun x hx=>?_) (Z6 (x:=y) (by simp) ly)
   rcases qaZ.mp hx with z |z
   ·exact pR x (Lo z) _
   ·rcases qa5.mp z with z |z
    ·exact z ▸ py7
    ·exact pR x (Lp z) _
  refine all_cons bent <| all_cons bent <| all_cons bent <| all_cons (pt _ (NW (fun x z=>pR x z _) fun x hx=>?_) (Z7 (RK (by simp;omega)))) <| all_cons (pt _ GJ rfl) <| all_cons ⟨Jl ⟨_,s7 _ _ e6⟩ rfl,.inl rfl⟩ <| all_cons ⟨Jl trivial rfl,.inl rfl⟩ <| all_cons ⟨Jl trivial rfl,.inl rfl⟩ GJ
  rw [show x=_ from Lk (n:=8) hx]
  exact trivial
 refine Eq.mpr (Ce) ?_
 by_cases h1:1<H
 ·have h1':(1:Int)<(H:Int):=by omega
  simp [-Ak,Jk,h1',h1]
  refine Ax (XM (by omega)) ?_
  try simp [-Ak]
  refine Ax (GI (by simp;omega)) ?_
  try simp [-Ak]
  refine A9 (by simp) fun l8 h8 s8 e8 _ _=>?_
  try simp [-Ak]
  refine Ax (Ky (s8 _ _ e7) e8) ?_
  refine A9 (by simp) fun l9 h9 s9 e9 _ _=>?_
  refine Eq.mpr (Ak) ?_
  have s79:=s8.trans s9
  refine RN (x7.sm s79) hb (t7.sm s79) hh hw hA ⟨_,e9,by simp,fun d hd=>?_⟩ fun d h' n x t s'=>q d h' n x t ((hS7.trans (Dw s79)).trans s')
  rcases qaZ.mp hd with z |z
  ·exact (base d z).sm s79
  ·simp only [qa5,CG,or_false] at z
   rcases z with rfl |rfl
   ·refine ⟨⟨trivial,fun x hx=>pR x (Lo hx) _⟩,.inr ⟨h1,?_⟩⟩
    simp [Dj,A1]
    omega
   ·refine ⟨⟨trivial,fun x hx=>?_⟩,.inr ⟨h1,?_⟩⟩
    ·rcases qaZ.mp hx with z |z
     ·exact pR x z _
     ·simp only [qa5,CG,or_false] at z
      subst z
      exact trivial
    ·simp [Dj,A1]
     omega
 ·have h1':¬(1:Int)<(H:Int):=by omega
  simp [-Ak,Jk,h1',h1]
  refine Eq.mpr (Ak) ?_
  exact RN x7 hb t7 hh hw hA ⟨_,e7,by simp,base⟩ fun d h' n x t s'=>q d h' n x t (hS7.trans s')
def Ci (n:Nat) (p:Nat→Bool):D:=.tup (((List.range n).filter p).map fun i=>.int ((i:Nat):Int))
theorem Smx.over {a b:Nat} {h h1 h2:HD} (s:Smx b h h1) (s2:Smx a h1 h2) (hl:h.length≤a):Smx b h h2:=fun l c n e=>s2 l c (by have:=(qa2.mp e).1;omega) (s l c n e)
theorem Smx.put {a b:Nat} {c:Cell} {h h1:HD} (s:Smx b h h1) (hl:h.length≤a):Smx b h (h1.set a c):=fun l x n e=>by
 rw [Bi (by have:=(qa2.mp e).1;omega)]
 exact s l x n e
theorem Smx.new {b:Nat} {c:Cell} {h h1:HD} (s:Smx b h h1):Smx b h (h1++[c]):=s.trans (Dw (.app _ _))
theorem Smx.len {b:Nat} {h h':HD} (s:Smx b h h') (hb:b<h'.length):h.length≤h'.length:=by
 cases e:h.length with
 |zero=>exact EF _
 |succ n=>
  have hn:n<h.length:=by omega
  by_cases hz:n=b
  ·omega
  ·have:=s n h[n] hz (AW hn)
   have:=(qa2.mp this).1
   omega
inductive RO (b:Nat) (h1:HD) (xs:List Nat) (ρ:Ai) (h':HD):Prop where
 |mk (N M:Int) (x:Option D) (f0:ρ=[some (.loc b),some (.int N),some (.int M),x]) (f1:h'=h1):RO b h1 xs ρ h'
theorem Zad {b:Nat} {h:HD} {Q:D→HD→Prop} (hx:BoxAt h b) (q:∀l h',BoxAt h' b→BoxAt h' l→l≠b→h.length≤l→Smx b h h'→Q (.loc l) h'):Wp (Em [.loc b] h) Q:=by
 change Wp (Aw 4 (NF AQ) [.loc b] h) _
 refine Eq.mpr (Bt) ?_
 simp
 refine KZ hx (by decide) (by decide) fun d h1 d0 d1 x1 s1=>?_
 refine CP (src:=[]) (xs:=List.range 24) (fun i=>.int ((i:Nat):Int)) (RO b h1) ?_ (fun ys ρ h' _=>Dq) ?_ ?_
 ·simp [RC]
  exact ⟨_,_,_,rfl,rfl⟩
 ·rintro x xs ρ h' ⟨N,M,y,rfl,rfl⟩
  refine ⟨_,rfl,?_⟩
  simp
  rw [Ke (by decide) (by decide)]
  simp
  rw [II (by decide)]
  simp
  rw [Ke (by decide) (by decide)]
  simp [Dt]
  exact ⟨_,_,_,rfl,rfl⟩
 ·rintro ρ h' ⟨N,M,y,rfl,rfl⟩
  simp
  refine A9 (by simp) fun l h2 s e el _=>?_
  exact q l h2 (x1.sm s) ⟨_,e⟩ (by have:=x1.lt;omega) (by have:=s1.len x1.lt;omega) (s1.trans (Dw s))
theorem Zae {W:Nat} {rows:List (Nat→Bool)} {H:Nat} (e:rows.length=H):D.tup (rows.map (AK W))=bD H W fun i=>rows.getD i fun _=>false:=by
 unfold bD
 congr 1
 apply FG
 ·simp [e]
 ·intro i h1 h2
  simp at h1 h2
  simp [DO,AW h1]
inductive RP (b H W:Nat) (way dense:Int) (l2 l3:Nat) (h:HD) (xs:List Nat) (ρ:Ai) (h':HD):Prop where
 |mk (x:Option D) (rows:List (Nat→Bool)) (f0:ρ=[some (.loc b),some (.int (H:Nat)),some (.int (W:Nat)),some (.int way),some (.loc l2),some (.int dense),some (.loc l3),x]) (f1:BoxAt h' b) (f2:BoxAt h' l2) (f3:h'[l3]?=some (.lst (rows.map (AK W)))) (f4:rows.length+xs.length=H) (f5:Smx b h h'):RP b H W way dense l2 l3 h xs ρ h'
inductive RQ (b W l2 l3:Nat) (rows:List (Nat→Bool)) (h h':HD):Prop where
 |mk (f1:BoxAt h' b) (f2:BoxAt h' l2) (f3:h'[l3]?=some (.lst (rows.map (AK W)))) (f4:Smx b h h'):RQ b W l2 l3 rows h h'
theorem Zaf {b H W:Nat} {h:HD} {Q:D→HD→Prop} (hx:BoxAt h b) (hh:1≤H∧H≤8) (hw:1≤W∧W≤8) (q:∀f h',BoxAt h' b→Smx b h h'→Q (bD H W f) h'):Wp (DM [.loc b,.int (H:Nat),.int (W:Nat)] h) Q:=by
 change Wp (Aw 8 (NI AQ Em) [.loc b,.int (H:Nat),.int (W:Nat)] h) _
 refine Eq.mpr (Bt) ?_
 simp [-Ak]
 refine KZ hx (by decide) (by decide) fun way h1 d0 d1 x1 z1=>?_
 simp [-Ak,Ak (g:=Aj (Au 4 _) _)]
 refine Zad x1 fun l2 h2 x2 y2 n2 k2 z2=>?_
 have kl2:h.length≤l2:=by have:=z1.len x1.lt;omega
 refine Eq.mpr (Ak) ?_
 simp [-Ak]
 refine A9 (by simp) fun l h3 s3 e3 el3 _=>?_
 obtain ⟨dense,ed⟩:∃dense:Int,AG (.loc l) (.int way) h3=.ok (.int dense) h3:=by
  obtain ⟨w,rfl⟩:∃w:Nat,way=(w:Int):=⟨way.toNat,by omega⟩
  obtain ⟨y,ey,z,rfl⟩:=RL (fun y=>∃i,y=.int i) (o:=w) e3 (by simp;omega) <| all_cons ⟨_,rfl⟩ <| all_cons ⟨_,rfl⟩ <| all_cons ⟨_,rfl⟩ <| all_cons ⟨_,rfl⟩ <| all_cons ⟨_,rfl⟩ GJ
  exact ⟨z,ey⟩
 refine Ax (ed) ?_
 rw [Bs]
 refine Eq.mpr (Ak) ?_
 simp [-Ak]
 refine A9 (by simp) fun l3 h4 s4 e4 el4 _=>?_
 have x4:BoxAt h4 b:=(x2.sm s3).sm s4
 have y4:BoxAt h4 l2:=(y2.sm s3).sm s4
 have z4:Smx b h h4:=((z1.trans z2).trans (Dw s3)).trans (Dw s4)
 have kl3:h.length≤l3:=by have:=(z1.trans z2).len x2.lt;have:=s3.len;omega
 have n3:l3≠b:=by
  obtain ⟨n,e⟩:=x2.sm s3
  have:=(qa2.mp e).1
  omega
 have n4:l3≠l2:=by
  obtain ⟨n,e⟩:=y2.sm s3
  have:=(qa2.mp e).1
  omega
 refine Eq.mpr (Ak) ?_
 simp [-Ak]
 refine CP (src:=[]) (xs:=List.range H) (fun i=>.int ((i:Nat):Int)) (RP b H W way dense l2 l3 h) ?_ (fun ys ρ h' _=>Dq) ?_ ?_
 ·simp [FV (show H≤1000 by omega)]
  exact ⟨_,[],rfl,x4,y4,e4,by simp,z4⟩
 ·rintro x xs ρ h' ⟨y,rows,rfl,x5,y5,e5,hl,z5⟩
  refine ⟨_,rfl,?_⟩
  simp [IG e5]
  refine VX (src:=[]) (xs:=List.range W) (fun i=>.int ((i:Nat):Int)) (RQ b W l2 l3 rows h) (fun _ b=>b=true) (fun i d=>∃r:Bool,d=lit r) (fun i=>[some (.int ((i:Nat):Int)),some (.loc l2),some (.int dense)]) ?_ (fun _ _=>Dq) (fun h c x=>by obtain ⟨a1,a2,a3,a4⟩:=x;exact ⟨a1.new,a2.new,Sm.app _ _ _ _ a3,a4.new⟩) List.nodup_range (sz hw.2) (fun x _=>rfl) ?_ ?_
  ·simp [FV (show W≤1000 by omega)]
   exact ⟨x5,y5,e5,z5⟩
  ·intro x hx h i
   simp
   obtain ⟨a1,a2,a3,a4⟩:=i
   refine KZ a2 (by decide) (by decide) fun d h1 d0 d1 x1 s1=>?_
   simp only [Bs,Hh,FT,VR,Fs,Mm,VQ,VS]
   exact ⟨⟨a1.smx s1 (Ne.symm n2),x1,s1 _ _ n4 a3,a4.over s1 kl2⟩,by cases decide (d<dense)<;>simp [lit]⟩
  ·intro h6 g e x6 hr tr
   obtain ⟨x61,x62,x63,x64⟩:=x6
   have hr':∃r:Nat→Bool,∀x∈List.range W,e x=lit (r x):=by
    refine ⟨fun x=>if h:x∈List.range W then (hr x h (tr x h)).choose else false,fun x hx=>?_⟩
    simp only [dif_pos hx]
    exact (hr x hx (tr x hx)).choose_spec
   obtain ⟨r,er⟩:=hr'
   have ef:(List.range W).filter g=List.range W:=List.filter_eq_self.mpr tr
   have em:D.tup (((List.range W).filter g).map e)=AK W r:=by
    rw [ef];unfold AK;congr 1;exact Dk er
   rw [em]
   simp [Mp x63 (show (rows.map (AK W)).length<sizeLine by simp;unfold sizeLine;omega),Dt]
   have hl3:l3<h6.length:=(qa2.mp x63).1
   refine ⟨_,rows++[r],rfl,?_,?_,?_,?_,x64.put kl3⟩
   ·obtain ⟨n,e⟩:=x61
    exact ⟨n,by rw [Bi n3];exact e⟩
   ·obtain ⟨n,e⟩:=x62
    exact ⟨n,by rw [Bi n4];exact e⟩
   ·rw [BR hl3]
    simp
   ·simp at hl ⊢
    omega
 ·rintro ρ h' ⟨y,rows,rfl,x5,y5,e5,hl,z5⟩
  simp at hl
  simp
  by_cases h3:way=3
  ·simp [h3]
   obtain ⟨r0,rest,rfl⟩:∃r0 rest,rows=r0::rest:=by
    cases rows with
    |nil=>simp at hl;omega
    |cons a r=>exact ⟨a,r,rfl⟩
   rw [show (0:Int)=((0:Nat):Int) from rfl]
   refine Ax (EU e5 (k:=0) (a:=AK W r0) rfl) ?_
   simp
   refine A9 (by simp) fun l5 h5 s5 e6 _ _=>?_
   refine Ax (QF) ?_
   refine Ax (MF e6 (by omega)) ?_
   refine A9 (by simp;unfold sizeLine;omega) fun l6 h6 s6 e7 _ _=>?_
   simp [PB e7]
   have:D.tup (List.replicate H (AK W r0))=bD H W fun _=>r0:=by
    unfold bD
    congr 1
    apply FG
    ·simp
    ·intro i h1 h2;simp
   rw [this]
   exact q _ _ ((x5.sm s5).sm s6) ((z5.trans (Dw s5)).trans (Dw s6))
  ·simp [h3,PB e5]
   rw [Zae hl]
   exact q _ _ x5 z5
def NX (c:Str):List V:=[.bl (BH c "NoBoard"),.bl (BH c "NoLine"),.bl (BH c "NoSwitching"),.bl (BH c "NoNumber"),.bl (BH c "Unlike"),.bl (BH c "NoNet"),.bl (BH c "NoPlace"),.bl (BH c "NoText"),.bl (BH c "NoRow"),.bl (BH c "TooMany")]
def Zag:List D:=[.str "board",.str "line",.str "switching",.str "number",.str "unlike",.str "net",.str "place",.str "text",.str "row"]
theorem Zah {c w t:Str} {j:Nat} {h:HD} (hc:c∈excNames) (hn:Hu (.bl true) (NX c)=1) (h9:BH c "TooMany"=false) (hj:Kv (.bl true) (NX c)=some j) (hw:Zag[j]?=some (.str w)) (hz:((("! ":String):Str)).length+w.length≤1000) (ht:((("! ":String):Str))++w=t):Pu (Di [.exc c []] h) h (.str t):=by
 have i0:∀h,AJ (.exc c []) (.glo "NoBoard") h=.ok (.bl (BH c "NoBoard")) h:=fun h=>Ef hc (by decide +kernel)
 have i1:∀h,AJ (.exc c []) (.glo "NoLine") h=.ok (.bl (BH c "NoLine")) h:=fun h=>Ef hc (by decide +kernel)
 have i2:∀h,AJ (.exc c []) (.glo "NoSwitching") h=.ok (.bl (BH c "NoSwitching")) h:=fun h=>Ef hc (by decide +kernel)
 have i3:∀h,AJ (.exc c []) (.glo "NoNumber") h=.ok (.bl (BH c "NoNumber")) h:=fun h=>Ef hc (by decide +kernel)
 have i4:∀h,AJ (.exc c []) (.glo "Unlike") h=.ok (.bl (BH c "Unlike")) h:=fun h=>Ef hc (by decide +kernel)
 have i5:∀h,AJ (.exc c []) (.glo "NoNet") h=.ok (.bl (BH c "NoNet")) h:=fun h=>Ef hc (by decide +kernel)
 have i6:∀h,AJ (.exc c []) (.glo "NoPlace") h=.ok (.bl (BH c "NoPlace")) h:=fun h=>Ef hc (by decide +kernel)
 have i7:∀h,AJ (.exc c []) (.glo "NoText") h=.ok (.bl (BH c "NoText")) h:=fun h=>Ef hc (by decide +kernel)
 have i8:∀h,AJ (.exc c []) (.glo "NoRow") h=.ok (.bl (BH c "NoRow")) h:=fun h=>Ef hc (by decide +kernel)
 have i9:∀h,AJ (.exc c []) (.glo "TooMany") h=.ok (.bl (BH c "TooMany")) h:=fun h=>Ef hc (by decide +kernel)
 have iv:∀h,AJ (.exc c []) (.ty "ValueError") h=.ok (.bl true) h:=fun h=>XE hc
 change Wp (Aw 3 NA [.exc c []] h) _
 refine Eq.mpr Bt ?_
 simp [-Ak,i0,i1,i2,i3]
 refine A9 (by simp) fun l1 h1 s1 e1 _ _=>?_
 refine Eq.mpr Ak ?_
 simp [-Ak,i4,i5,i6,i7]
 refine A9 (by simp) fun l2 h2 s2 e2 _ _=>?_
 refine Ax (Ky (s2 _ _ e1) e2) ?_
 refine A9 (by simp) fun l3 h3 s3 e3 _ _=>?_
 refine Eq.mpr Ak ?_
 simp [-Ak,i8,i9]
 refine A9 (by simp) fun l4 h4 s4 e4 _ _=>?_
 refine Ax (Ky (s4 _ _ e3) e4) ?_
 refine A9 (by simp) fun l5 h5 s5 e5 _ _=>?_
 refine Eq.mpr Ak ?_
 simp [-Ak,iv,IG e5]
 refine Ax ((XG (vs:=NX c) e5 rfl rfl).trans (by rw [hn])) ?_
 simp [-Ak]
 refine Eq.mpr Ak ?_
 simp [-Ak]
 rw [show (9:Int)=((9:Nat):Int) from rfl]
 refine Ax (EU e5 (k:=9) rfl) ?_
 simp [-Ak,h9]
 refine Eq.mpr Ak ?_
 simp [-Ak]
 refine A9 (by simp) fun l6 h6 s6 e6 _ _=>?_
 refine Eq.mpr Ak ?_
 simp [IG (s6 _ _ e5)]
 refine Ax (XH (s6 _ _ e5) rfl rfl hj) ?_
 simp only [Bs]
 refine Ax (EU e6 hw) ?_
 simp only [Bs]
 refine Ax (XF hz) ?_
 exact ⟨congrArg D.str ht,((((s1.trans s2).trans s3).trans s4).trans s5).trans s6⟩
theorem p_kind_board {h:HD}:Pu (Di [.exc "NoBoard" []] h) h (.str "! board"):=Zah (w:="board") (j:=0) (by decide +kernel) (by decide +kernel) (by decide +kernel) (by decide +kernel) rfl (by decide +kernel) (by decide +kernel)
theorem Zai {cs:List Nat} {f:ME} {ρ:Ai} {h:HD} {ds:List D} {Q:D→HD→Prop} (ht:TabAt h) (hd:AS (cs.map fun j=>(ρ[j]?).join)=some ds) (he:Er (f (ds.map some) h) h "NoBoard")
 (q:∀h',Sm h h'→Q (.str "! board") h'):Wp (Fx cs Di f ρ h) Q:=
 Xz ht hd (he.we fun h' s=>⟨by decide +kernel,[],rfl,p_kind_board.wp fun h2 s2=>q h2 (s.trans s2)⟩)
section
variable {H W:Nat} {h:HD} {f:Nat→Nat→Bool} {r:Nat→Bool}
theorem Zaj (hh:1≤H∧H≤8) (hw:1≤W∧W≤8):Pu (Es [bD H W f] h) h (bD W H fun i j=>f j i):=by
 change Wp (Aw 1 (NM Bd) [bD H W f] h) _
 refine Eq.mpr (Bt) ?_
 simp
 refine (NT hh hw).wp fun h1 s1=>?_
 refine Pu.wp (Kc (src:=[]) (xs:=List.range W) (φ:=fun j=>.int ((j:Nat):Int)) (fun j=>AK H fun i=>f i j) (fun j=>[some (.int ((j:Nat):Int)),some (bD H W f)]) ?_ (fun x _=>rfl) (fun x hx h' s'=>?_) (sz hw.2)) fun h2 s2=>?_
 ·simp [EV,K2 hh.1,NU]
  rw [FV (by omega)]
  simp [Sm.refl,Bz]
 ·simp [Pu]
  refine (Kc (src:=[]) (xs:=List.range H) (φ:=fun i=>AK W (f i)) (fun i=>lit (f i x)) (fun i=>[some (AK W (f i)),some (.int ((x:Nat):Int))]) ?_ (fun x _=>rfl) (fun y hy h' s'=>?_) (sz hh.2))
  ·simp [EV,bD,Sm.refl,Bz]
  ·simp [Pu,AK]
   rw [Ka (by simpa using hx)]
   simp [Sm.refl]
 ·exact ⟨rfl,s1.trans s2⟩
theorem Zak:Dc (AK W r) h=.ok (.int (Bh W r)) h:=VU
theorem Zal (hh:1≤H∧H≤8) (hw:1≤W∧W≤8):Pu (Ep [bD H W f] h) h (.tup ((List.range H).map fun i=>.int (Bh W (f i)))):=by
 change Wp (Aw 1 (NL Bd) [bD H W f] h) _
 rw [Bt]
 simp
 refine (NT hh hw).wp fun h1 s1=>?_
 refine Pu.wp (Kc (src:=[]) (xs:=List.range H) (φ:=fun i=>AK W (f i)) (fun i=>.int (Bh W (f i))) (fun i=>[some (AK W (f i))]) Kd (fun x _=>rfl) (fun x hx h' s'=>?_) (sz hh.2)) fun h2 s2=>?_
 ·simp [Pu,Zak,Sm.refl]
 ·exact ⟨rfl,s1.trans s2⟩
theorem Zam (hh:1≤H∧H≤8) (hw:1≤W∧W≤8):Pu (Eu [bD H W f] h) h (.tup ((List.range W).map fun j=>.int (Bh H fun i=>f i j))):=by
 change Wp (Aw 1 (NO Es Ep) [bD H W f] h) _
 rw [Bt]
 simp
 refine (Zaj hh hw).wp fun h1 s1=>?_
 refine (Zal hw hh).wp fun h2 s2=>?_
 simp [s1.trans s2]
end
theorem RR {a n:Nat} {h:HD} (ha:a≤1000) (hn:n≤1000):Iz [.int (a:Int),.int (n:Int)] h=.ok ((List.range (n - a)).map fun k=>D.int ((a:Int)+((k:Nat):Int)),[]) h:=by
 have:((-(2^62):Int)≤(a:Int)∧(a:Int)<2^62)∧(-(2^62):Int)≤(n:Int)∧(n:Int)<2^62:=by omega
 unfold Iz
 simp only
 rw [if_pos this]
 have e:((n:Int) - (a:Int)).toNat=n - a:=by omega
 rw [e]
 simp [Fp]
theorem HF {n k x:Nat} {xs:List Nat} (h:(List.range n).drop k=x::xs):x=k∧k<n∧xs=(List.range n).drop (k+1):=by
 have hk:k<n:=by
  have:=congrArg List.length h
  simp at this
  omega
 rw [Lj (by simpa using hk)] at h
 simp at h
 exact ⟨h.1.symm,hk,h.2.symm⟩
theorem HG {n k:Nat} (hk:k≤n) (h:(List.range n).drop k=[]):k=n:=by
 have:=congrArg List.length h
 simp at this
 omega
def B1 (W:Nat) (c:Nat→Int):D:=.tup ((List.range W).map fun j=>.int (c j))
theorem RS {W:Nat} {c c':Nat→Int} (h:∀j,j<W→c j=c' j):B1 W c=B1 W c':=by
 unfold B1
 congr 1
 exact Dk fun j hj=>by rw [h j (by simpa using hj)]
theorem Zan {W:Nat} {c:Nat→Int} {r:Nat→Bool} {h:HD} (hw:W≤8):Pu (Ej [B1 W c,AK W r] h) h (B1 W fun j=>c j+1 - 2*(if r j then 1 else 0)):=by
 change Wp (Aw 2 Nw [B1 W c,AK W r] h) _
 rw [Bt]
 simp
 refine Pu.wp (Kc (src:=[]) (xs:=List.range W) (φ:=fun j=>.tup [.int (c j),lit (r j)]) (fun j=>.int (c j+1 - 2*(if r j then 1 else 0))) (fun j=>[some (.int (c j)),some (lit (r j))]) ?_ (fun x _=>rfl) (fun x hx h' s'=>?_) (sz hw)) fun h2 s2=>?_
 ·simp [EV,B1,AK]
  rw [P9 (e:=fun j=>.int (c j)) (e':=fun j=>lit (r j)) Qa Qa]
  simp [Sm.refl,Bz]
 ·simp [Pu,lit]
  rw [IH (by decide) (by decide)]
  simp [Sm.refl]
 ·exact ⟨rfl,s2⟩
theorem Zao {n m:Nat} {r r':Nat→Bool} (hm:m<n) (h:∀i,i≠m→r' i=r i) (hn:r' m=!r m):Bh n r'=Bh n r+1 - 2*(if r m then 1 else 0):=by
 have s1:∀k (r:Nat→Bool),Bh (k+1) r=Bh k r+if r k then 1 else 0:=fun k r=>by
  unfold Bh
  rw [Cs,BY,B7]
  simp
 have key:∀k:Nat,(k≤m→Bh k r'=Bh k r)∧(m<k→Bh k r'=Bh k r+1 - 2*(if r m then 1 else 0)):=fun k=>by
  induction k with
  |zero=>exact ⟨fun _=>rfl,fun z=>by omega⟩
  |succ k ih=>
   rw [s1,s1]
   refine ⟨fun hk=>?_,fun hk=>?_⟩
   ·rw [ih.1 (by omega),h k (by omega)]
   ·by_cases hz:k=m
    ·subst hz
     rw [ih.1 (by omega),hn]
     cases r k<;>simp<;>omega
    ·rw [ih.2 (by omega),h k hz]
     omega
 exact (key n).2 hm
theorem Zap {H n:Nat} {f:Nat→Nat→Bool} {R:Nat→Bool} {j:Nat} (hn:n<H) (h0:R n=false):cc H f (ext n R) j=cc H f R j+1 - 2*(if f n j then 1 else 0):=by
 unfold cc
 rw [Zao (r:=fun i=>Bool.xor (f i j) (R i)) hn (fun i hi=>by simp [ext,hi]) (by simp [ext,h0])]
 simp [h0]
theorem Zaq {n:Nat} {R:Nat→Bool}:Ci (n+1) (ext n R)=.tup (((List.range n).filter R).map (fun i=>D.int ((i:Nat):Int))++[.int ((n:Nat):Int)]):=by
 unfold Ci
 rw [Cs,List.filter_append]
 have e1:(List.range n).filter (ext n R)=(List.range n).filter R:=List.filter_congr fun i hi=>by
  have:i<n:=by simpa using hi
  simp [ext,show i≠n by omega]
 have e2:[n].filter (ext n R)=[n]:=by simp [ext]
 rw [e1,e2]
 simp
theorem Zar {n:Nat} {R:Nat→Bool} (h:R n=false):Ci (n+1) R=Ci n R:=by
 unfold Ci
 rw [Cs,List.filter_append]
 simp [h]
theorem RT {k:Nat} (hk:k≤7):(LL 1 k).length≤128:=by
 rw [Ks]
 exact EA (n:=2) (by decide) hk
theorem Jm {n:Nat} (h:n≤1000):n≤sizeLine:=by unfold sizeLine;omega
def Ey (H W k:Nat) (f:Nat→Nat→Bool):List D:=(LL 1 k).map fun R=>.tup [Ci (k+1) R,B1 W (cc H f R)]
def LwI (H W:Nat) (f:Nat→Nat→Bool) (h:HD) (xs:List Nat) (ρ:Ai) (h':HD):Prop:=∃(k l:Nat) (x:Option D),xs=(List.range (H - 1)).drop k∧k≤H - 1∧ρ=[some (bD H W f),some (.loc l),x]∧Sm h h'∧h'[l]?=some (.lst (Ey H W k f))
theorem Zas {n k:Nat} {e:Nat→D} {i:Int} {h:HD} (hi:i=(k:Int)) (hk:k<n):AG (.tup ((List.range n).map e)) (.int i) h=.ok (e k) h:=by
 subst hi;exact Ka hk
theorem Zat {H W:Nat} {f:Nat→Nat→Bool} {h:HD} (hh:1≤H∧H≤8) (hw:1≤W∧W≤8):∃l h1,CV [bD H W f] h=.ok (.loc l) h1∧Sm h h1∧h1[l]?=some (.lst (Ey H W (H - 1) f)):=by
 suffices hs:Wp (CV [bD H W f] h) (fun d h1=>∃l,d=.loc l∧Sm h h1∧h1[l]?=some (.lst (Ey H W (H - 1) f))) by
  obtain ⟨d,h1,e,l,rfl,q⟩:=hs.ex
  exact ⟨l,h1,e,q⟩
 change Wp (Aw 3 (NP Eu Ej) [bD H W f] h) _
 rw [Bt]
 simp [-Ak]
 refine (Zam hh hw).wp fun h1 s1=>?_
 refine A9 (by simp) fun l h2 s2 e2 _ _=>?_
 rw [Ak]
 simp [-Ak]
 refine CP (src:=[]) (xs:=List.range (H - 1)) (fun k=>.int (1+(k:Int))) (LwI H W f h) ?_ (fun ys ρ h' _=>Dq) ?_ ?_
 ·have eH:A2 (bD H W f) h2=.ok (.int ((H:Nat):Int)) h2:=by simp [bD]
  simp [eH]
  rw [show (1:Int)=((1:Nat):Int) from rfl,RR (by omega) (by omega)]
  simp
  refine ⟨0,l,none,by simp,by omega,rfl,s1.trans s2,?_⟩
  rw [e2]
  simp [Ey,LL,Ci]
  exact RS (W:=W) fun j _=>Hs fun i _=>by simp
 ·rintro x xs ρ h' ⟨k,l',y,ex,hk,rfl,s',e'⟩
  obtain ⟨rfl,hk',rfl⟩:=HF ex.symm
  refine ⟨_,rfl,?_⟩
  simp
  refine Hi (src:=[(l',Ey H W x f)]) (xs:=LL 1 x) (φ:=fun R=>.tup [Ci (x+1) R,B1 W (cc H f R)]) (fun _=>true) (fun R=>.tup [Ci (x+1+1) (ext (1+x) R),B1 W (cc H f (ext (1+x) R))]) (fun R=>[some (Ci (x+1) R),some (B1 W (cc H f R)),some (.int (1+(x:Int))),some (bD H W f)]) ?_ (Jm (BM (RT (by omega)) (by decide))) (fun R _=>rfl) (fun R _ h2 s2=>(.ok:Pu (.ok true h2) h2 true)) (fun R hR _ h2 s2=>?_) fun l3 h3 s3 e3=>?_
  ·simp [Ko e',Ey]
   exact ⟨.refl _,fun h2 s2=>Iu (s2 _ _ e')⟩
  ·have h0:R (1+x)=false:=Df hR _ (by omega)
   simp [Pu]
   unfold Ci
   rw [Wx (Jm (by
    have:=Jo R (List.range (x+1))
    simp at this ⊢
    omega))]
   simp
   unfold bD
   rw [Zas (k:=1+x) (by omega) (by omega)]
   simp
   refine (Zan hw.2).wp fun h3 s3=>?_
   simp [s3]
   refine ⟨?_,RS fun j _=>(Zap (by omega) h0).symm⟩
   have e1:Ci (x+1+1) (ext (1+x) R)=Ci (x+1+1) (ext (x+1) R):=by rw [HQ 1 x]
   have e2:=e1.trans (Zaq (n:=x+1) (R:=R))
   unfold Ci at e2
   have e3:=D.tup.inj e2
   rw [e3,show (1+(x:Int))=(((x+1:Nat)):Int) from by omega]
  ·rw [FW] at e3
   rw [Ww (s3 _ _ e') e3]
   have hlen:=RT (k:=x) (by omega)
   refine A9 (Jm (by simp [Ey];omega)) fun l4 h4 s4 e4 _ _=>?_
   simp only [Dt]
   refine ⟨x+1,l4,_,rfl,by omega,rfl,s'.trans (s3.trans s4),?_⟩
   rw [e4]
   have ea:Ey H W x f=(LL 1 x).map fun R=>.tup [Ci (x+1+1) R,B1 W (cc H f R)]:=Dk fun R hR=>by rw [Zar (n:=x+1) (Df hR _ (by omega))]
   rw [ea]
   show _=some (Cell.lst ((LL 1 (x+1)).map fun R=>.tup [Ci (x+1+1) R,B1 W (cc H f R)]))
   rw [LL,BY,B8]
   rfl
 ·rintro ρ h' ⟨k,l',y,ex,hk,rfl,s',e'⟩
  have:k=H - 1:=HG hk ex.symm
  subst this
  simp
  exact ⟨s',e'⟩
section
variable {H W:Nat} {f:Nat→Nat→Bool} {p q:Nat→Bool} {h:HD}
end
def Be (n:Nat) (m:Nat→Int):List D:=(List.range n).map fun k=>.int (m k)
theorem NY {n:Nat} {m m':Nat→Int} (h:∀k,k<n→m k=m' k):Be n m=Be n m':=Dk fun k hk=>by rw [h k (by simpa using hk)]
theorem NZ {n i:Nat} {m:Nat→Int} {v:Int}:(Be n m).set i (.int v)=Be n fun k=>if k=i then v else m k:=by
 unfold Be
 apply FG
 ·simp
 ·intro k h1 h2
  simp at h1 h2
  by_cases hz:i=k
  ·subst hz;simp
  ·rw [List.getElem_set_ne hz]
   simp [show ¬k=i from fun z=>hz z.symm]
theorem N0 {n i:Nat} {m:Nat→Int} (h:i<n):(Be n m)[i]?=some (.int (m i)):=by simp [Be,FA,h]
theorem HH {n:Nat} {m:Nat→Int}:(Be n m).length=n:=by simp [Be]
theorem RU {h h':HD} {l:Nat} {c:Cell} (s:Sm h h') (e:h[l]?=none):Sm h (h'.set l c):=fun k d ek=>by
 rw [Bi]
 ·exact s k d ek
 ·intro z;subst z;rw [e] at ek;cases ek
theorem K3 {L:List Int} {c k:Int}:AM (L.map (·+ c)) k=AM L (k - c):=by
 unfold AM
 rw [B8]
 refine Bc fun x _=>?_
 show (if x+c=k then (1:Int) else 0)=if x=k - c then 1 else 0
 by_cases h:x+c=k
 ·rw [if_pos h,if_pos (by omega)]
 ·rw [if_neg h,if_neg (by omega)]
theorem RV {L M:List Int} {k:Int}:AM (L++M) k=AM L k+AM M k:=by
 unfold AM;rw [BY,B7]
def AA (L:List Int) (c d t k:Nat):Int:=(if c≤k∧k<c+t then AM L ((k:Int) - c) else 0)+(if d≤k∧k<d+t then AM L ((k:Int) - d) else 0)
theorem RW {L:List Int} {c t k:Nat}:(if c≤k∧k<c+(t+1) then AM L ((k:Int) - c) else 0)=(if c≤k∧k<c+t then AM L ((k:Int) - c) else 0)+if k=t+c then AM L t else 0:=by
 by_cases h:k=t+c
 ·rw [if_pos (by omega),if_neg (by omega),if_pos h,show ((k:Int) - c)=t from by omega]
  omega
 ·by_cases h2:c≤k∧k<c+t
  ·rw [if_pos (by omega),if_pos h2,if_neg h];omega
  ·rw [if_neg (by omega),if_neg h2,if_neg h];rfl
theorem Zau {L:List Int} {c d t k:Nat}:(if k=t+d then (if k=t+c then AA L c d t k+AM L t else AA L c d t k)+AM L t else if k=t+c then AA L c d t k+AM L t else AA L c d t k)=AA L c d (t+1) k:=by
 unfold AA
 rw [RW (c:=c),RW (c:=d)]
 split<;>split<;>omega
theorem Zav {L:List Int} {n c d k:Nat} (hL:∀x∈L,0≤x∧x<n):AA L c d n k=AM (L.map (·+ (c:Int))++L.map (·+ (d:Int))) k:=by
 have z:∀c:Nat,(if c≤k∧k<c+n then AM L ((k:Int) - c) else 0)=AM L ((k:Int) - c):=fun c=>by
  by_cases h:c≤k∧k<c+n
  ·rw [if_pos h]
  ·rw [if_neg h,WL]
   intro hm
   have:=hL _ hm
   omega
 unfold AA
 rw [z,z,RV,K3,K3]
theorem RX {h:HD} {l k:Nat} {i:Int} {ds:List D} {d:D} (hi:i=(k:Int)) (e:h[l]?=some (.lst ds)) (ek:ds[k]?=some d):Hk (.loc l) (.int i) h=.ok d h:=by subst hi;exact Wy e ek
theorem RY {h:HD} {ρ:Ai} {l k:Nat} {i:Int} {ds:List D} {a b:Int} (hi:i=(k:Int)) (e:h[l]?=some (.lst ds)) (hk:k<ds.length):Hj (.loc l) (.int i) (.int a) (.int b) ρ h=.ok (.nx,ρ) (h.set l (.lst (ds.set k (.int (a+b))))):=by subst hi;exact Wz e hk
def WcI (h:HD) (l n c Hn lm:Nat) (L:List Int) (xs:List Nat) (ρ:Ai) (h':HD):Prop:=∃(t:Nat) (x y:Option D),xs=(List.range n).drop t∧t≤n∧ρ=[some (.loc l),some (.int (c:Nat)),some (.int (Hn:Nat)),some (.loc lm),x,y]∧Sm h h'∧h'[lm]?=some (.lst (Be (n+Hn) (AA L c (Hn - c) t)))
theorem Zaw {h:HD} {l n c Hn:Nat} {L:List Int} (e:h[l]?=some (.lst (Be n fun k=>AM L k))) (hL:∀x∈L,0≤x∧x<n) (hn:n≤200) (hc:c≤Hn) (hH:Hn≤8):
 ∃l2 h2,DH [.loc l,.int (c:Nat),.int (Hn:Nat)] h=.ok (.loc l2) h2∧Sm h h2∧h2[l2]?=some (.lst (Be (n+Hn) fun k=>AM (L.map (·+ (c:Int))++L.map (·+ ((Hn - c:Nat):Int))) k)):=by
 suffices hs:Wp (DH [.loc l,.int (c:Nat),.int (Hn:Nat)] h) (fun d h1=>∃l2,d=.loc l2∧Sm h h1∧h1[l2]?=some (.lst (Be (n+Hn) fun k=>AM (L.map (·+ (c:Int))++L.map (·+ ((Hn - c:Nat):Int))) k))) by
  obtain ⟨d,h1,e,l2,rfl,q⟩:=hs.ex
  exact ⟨l2,h1,e,q⟩
 change Wp (Aw 6 Nx [.loc l,.int (c:Nat),.int (Hn:Nat)] h) _
 rw [Bt]
 simp [-Ak]
 refine A9 (by simp) fun l1 h1 s1 e1 _ _=>?_
 rw [Qc (s1 _ _ e),HH]
 simp [-Ak]
 rw [show ((n:Int)+(Hn:Int))=((n+Hn:Nat):Int) from by omega,MF e1 (by omega)]
 refine A9 (Jm (by simp;omega)) fun lm h2 s2 e2 el2 _=>?_
 have hnew:h[lm]?=none:=by
  rw [el2]
  cases q:h[h1.length]? with
  |none=>rfl
  |some c=>
   have:=s1 _ _ q
   simp at this
 rw [Ak,Ce]
 refine CP (src:=[(l,Be n fun k=>AM L k)]) (xs:=List.range n) (fun k=>.tup [.int ((k:Nat):Int),.int (AM L k)]) (WcI h l n c Hn lm L) ?_ (fun ys ρ h' i=>?_) ?_ ?_
 ·simp
  rw [Wu (s2 _ _ (s1 _ _ e))]
  refine ⟨rfl,0,none,none,by simp,by omega,rfl,s1.trans s2,?_⟩
  rw [e2]
  congr 2
  unfold Be
  apply FG
  ·simp
  ·intro k h1 h2
   have z:AA L c (Hn - c) 0 k=0:=by
    unfold AA
    rw [if_neg (by omega),if_neg (by omega)];rfl
   simp [z]
 ·obtain ⟨t,x,y,_,_,_,s',_⟩:=i
  exact Iu (s' _ _ e)
 ·rintro x xs ρ h' ⟨t,y,y',ex,ht,rfl,s',e'⟩
  obtain ⟨rfl,ht',rfl⟩:=HF ex.symm
  refine ⟨_,rfl,?_⟩
  have hlm:lm<h'.length:=(qa2.mp e').1
  simp
  rw [RX (k:=x+c) (by omega) e' (N0 (by omega))]
  simp
  rw [RY (k:=x+c) (by omega) e' (by rw [HH];omega),NZ]
  simp
  have e3:(h'.set lm (.lst (Be (n+Hn) fun k=>if k=x+c then AA L c (Hn - c) x (x+c)+AM L x else AA L c (Hn - c) x k)))[lm]?=some (.lst (Be (n+Hn) fun k=>if k=x+c then AA L c (Hn - c) x (x+c)+AM L x else AA L c (Hn - c) x k)):=by
   rw [BR hlm]
  rw [RX (k:=x+(Hn - c)) (by omega) e3 (N0 (by omega))]
  simp only [Bs,Hh,FT]
  rw [RY (k:=x+(Hn - c)) (by omega) e3 (by rw [HH];omega),NZ]
  simp only [Bs,Dt]
  refine ⟨x+1,_,_,rfl,by omega,rfl,RU (RU s' hnew) hnew,?_⟩
  rw [BR (by simpa using hlm)]
  congr 2
  refine NY fun k _=>?_
  rw [←Zau]
  by_cases z1:k=x+(Hn - c)
  ·rw [if_pos z1,if_pos z1]
   subst z1
   by_cases z2:x+(Hn - c)=x+c
   ·rw [if_pos z2,if_pos z2,z2]
   ·rw [if_neg z2,if_neg z2]
  ·rw [if_neg z1,if_neg z1]
   by_cases z2:k=x+c
   ·rw [if_pos z2,if_pos z2,z2]
   ·rw [if_neg z2,if_neg z2]
 ·rintro ρ h' ⟨t,y,y',ex,ht,rfl,s',e'⟩
  have:t=n:=HG ht ex.symm
  subst this
  simp [s']
  rw [e']
  congr 2
  exact NY fun k _=>by rw [Zav hL]
theorem RZ {j:Nat} {Hn:Int} {c:Nat→Int} {C:Nat→Bool}:CQ (j+1) Hn c C=CQ j Hn c C+if C j then Hn - c j else c j:=by
 unfold CQ
 rw [Cs,BY,B7]
 simp
theorem Zax {j:Nat} {Hn:Int} {c:Nat→Int} {C C':Nat→Bool} (h:∀i,i<j→C i=C' i):CQ j Hn c C=CQ j Hn c C':=Bc fun i hi=>by rw [h i (by simpa using hi)]
def wL (j:Nat) (Hn:Int) (c:Nat→Int):List Int:=(LL 0 j).map (CQ j Hn c)
theorem N1 {j:Nat} {Hn:Int} {c:Nat→Int}:wL (j+1) Hn c=(wL j Hn c).map (·+ c j)++(wL j Hn c).map (·+ (Hn - c j)):=by
 unfold wL
 rw [LL,BY,B8,B8,B8]
 congr 1
 ·exact Dk fun C hC=>by
   show CQ (j+1) Hn c C=CQ j Hn c C+c j
   rw [RZ,Df hC j (by omega)]
   rfl
 ·exact Dk fun C hC=>by
   show CQ (j+1) Hn c (ext (0+j) C)=CQ j Hn c C+(Hn - c j)
   rw [RZ,Zax (C:=ext (0+j) C) (C':=C) fun i hi=>if_neg (by omega)]
   simp [ext]
theorem N2 {Hn:Nat} {c:Nat→Int} (hc:∀j,0≤c j∧c j≤Hn):∀(j:Nat) (x:Int),x∈wL j Hn c→0≤x∧x<((1+j*Hn:Nat):Int)
 |0,x,hx=>by
  simp [wL,LL,CQ] at hx
  subst hx
  simp
 |j+1,x,hx=>by
  rw [N1] at hx
  have hm:(((j+1)*Hn:Nat):Int)=((j*Hn:Nat):Int)+Hn:=by rw [GT];omega
  have h1:=hc j
  rcases qaZ.mp hx with z |z
  ·obtain ⟨y,hy,rfl⟩:=qaM.mp z
   have:=N2 hc j y hy
   omega
  ·obtain ⟨y,hy,rfl⟩:=qaM.mp z
   have:=N2 hc j y hy
   omega
def WoI (h:HD) (W Hn:Nat) (c:Nat→Int) (xs:List Nat) (ρ:Ai) (h':HD):Prop:=∃(j l:Nat) (x:Option D),xs=(List.range W).drop j∧j≤W∧ρ=[some (B1 W c),some (.int (Hn:Nat)),some (.loc l),x]∧Sm h h'∧h'[l]?=some (.lst (Be (1+j*Hn) fun k=>AM (wL j Hn c) k))
theorem Zay {h:HD} {W Hn:Nat} {c:Nat→Int} (hW:W≤8) (hH:Hn≤8) (hc:∀j,0≤c j∧c j≤Hn):
 ∃l2 h2,CU [B1 W c,.int (Hn:Nat)] h=.ok (.loc l2) h2∧Sm h h2∧h2[l2]?=some (.lst (Be (1+W*Hn) fun k=>AM (wL W Hn c) k)):=by
 suffices hs:Wp (CU [B1 W c,.int (Hn:Nat)] h) (fun d h1=>∃l2,d=.loc l2∧Sm h h1∧h1[l2]?=some (.lst (Be (1+W*Hn) fun k=>AM (wL W Hn c) k))) by
  obtain ⟨d,h1,e,l2,rfl,q⟩:=hs.ex
  exact ⟨l2,h1,e,q⟩
 change Wp (Aw 4 (NC DH) [B1 W c,.int (Hn:Nat)] h) _
 rw [Bt]
 simp [-Ak]
 refine A9 (by simp) fun l1 h1 s1 e1 _ _=>?_
 rw [Ak,Ce]
 refine CP (src:=[]) (xs:=List.range W) (fun j=>.int (c j)) (WoI h W Hn c) ?_ (fun ys ρ h' i=>Dq) ?_ ?_
 ·simp [B1]
  refine ⟨0,l1,none,by simp,by omega,rfl,s1,?_⟩
  rw [e1]
  simp [Be,wL,LL,AM,CQ,Cs]
 ·rintro x xs ρ h' ⟨j,l,y,ex,hj,rfl,s',e'⟩
  obtain ⟨rfl,hj',rfl⟩:=HF ex.symm
  refine ⟨_,rfl,?_⟩
  obtain ⟨cn,ec⟩:∃cn:Nat,c x=(cn:Int):=⟨(c x).toNat,by have:=hc x;omega⟩
  have hcn:cn≤Hn:=by have:=hc x;omega
  have hm:x*Hn≤64:=BM (GR (show x≤8 by omega) hH) (by decide)
  obtain ⟨l2,h2,e2,s2,el2⟩:=Zaw (c:=cn) (Hn:=Hn) e' (N2 hc x) (by omega) hcn hH
  simp
  rw [ec,e2]
  simp only [Bs,Dt]
  refine ⟨x+1,l2,_,rfl,by omega,rfl,s'.trans s2,?_⟩
  rw [el2]
  have en:1+x*Hn+Hn=1+(x+1)*Hn:=by rw [GT];omega
  rw [en,N1,ec,show ((Hn - cn:Nat):Int)=(Hn:Int) - (cn:Int) from by omega]
 ·rintro ρ h' ⟨j,l,y,ex,hj,rfl,s',e'⟩
  have:j=W:=HG hj ex.symm
  subst this
  simp [s']
  exact e'
@[irreducible] noncomputable def zE (x y:ME):ME:=Af BC (Bw (Aa (mC (.int 0)) (Ae))) (Af Aq (Af BC x y) (mC (.int 1)))
theorem R0 {x y:ME} {ρ:Ai} {h:HD} {a b:Int} {n:Nat} {Q:D→HD→Prop} (ex:∀h',x ρ h'=.ok (.int a) h') (ey:∀h',y ρ h'=.ok (.int b) h') (ha:0≤a∧a<100) (e:a*b+1=(n:Nat)) (hn:n≤1000) (q:∀l h',Sm h h'→h.length≤l→h'[l]?=some (.lst (Be n fun _=>0))→Q (.loc l) h'):Wp (zE x y ρ h) Q:=by
 unfold zE
 simp only [Mm,VL,FU,Fs,Px]
 refine A9 (by simp) fun l1 h1 s1 e1 el1 _=>?_
 refine Ax (ex h1) ?_
 rw [Bs]
 refine Ax (ey h1) ?_
 rw [Bs]
 refine Ax (IH (by omega) (by omega)) ?_
 rw [Bs]
 refine Ax (show Aq (.int (a*b)) (.int 1) h1=.ok (.int (a*b+1)) h1 from rfl) ?_
 rw [Bs,e]
 refine Ax QF ?_
 refine Ax (MF e1 hn) ?_
 refine A9 (by simp;unfold sizeLine;omega) fun l2 h2 s2 e2 el2 _=>?_
 refine q l2 h2 (s1.trans s2) (by have:=s1.len;omega) ?_
 rw [e2]
 congr 2
 unfold Be
 rw [List.map_const',List.length_range]
theorem Zaz {α:Type} {src:A0} {it:MI} {sg:MG} {t:MT} {f:ME} {cs:List (Option Nat)} {ρ:Ai} {h:HD} {xs:List α} {φ:α→D} {Q:D→HD→Prop} (g:α→Bool) (e:α→D) (ρ1:α→Ai) (hi:Wp (it ρ h) fun x h'=>x=(xs.map φ,src)∧Sm h h'∧∀h2,Sm h' h2→Bz src (xs.map φ) h2) (hn:xs.length≤sizeLine)
 (hg:∀x∈xs,sg (φ x) (B4 cs ρ)=some (ρ1 x)) (ht:∀x∈xs,∀h',Sm h h'→Pu (t (ρ1 x) h') h' (g x)) (hf:∀x∈xs,g x=true→∀h',Sm h h'→Pu (f (ρ1 x) h') h' (e x))
 (q:∀l h',Sm h h'→h'[l]?=some (.lst ((xs.filter g).map e))→h.length≤l→Q (.loc l) h'):Wp (AV cs it sg t f ρ h) Q:=by
 unfold AV
 rw [AC]
 refine Wp.mono hi fun x h1 z4_=>?_
 obtain ⟨ex,s1,hs⟩:=z4_
 subst ex
 rw [if_pos (by simpa using hn),AC]
 refine (Mn φ g e ρ1 xs h1 hs hg (fun x hx h' s'=>ht x hx h' (s1.trans s')) (fun x hx gx h' s'=>hf x hx gx h' (s1.trans s'))).wp fun h2 s2=>?_
 refine A9 ?_ fun l h3 s3 e3 el _=>q l h3 ((s1.trans s2).trans s3) e3 (by have:=(s1.trans s2).len;omega)
 rw [CH]
 exact BM (Jo _ _) hn
theorem ZaA {H W:Nat} {f:Nat→Nat→Bool} {R:Nat→Bool} {k:Int}:AM (wL W H (cc H f R)) k=hk H W f k R:=rfl
def LcI (H W:Nat) (f:Nat→Nat→Bool) (h:HD) (ll:Nat) (xs:List (Nat→Bool)) (ρ:Ai) (h':HD):Prop:=∃(ys:List (Nat→Bool)) (l:Nat) (x y z:Option D),LL 1 (H - 1)=ys++xs∧ρ=[some (bD H W f),some (.int (H:Nat)),some (.loc l),x,y,z]∧Sm h h'∧h'[ll]?=some (.lst (Ey H W (H - 1) f))∧h'[l]?=some (.lst (Be (H*W+1) fun k=>(ys.map (hk H W f k)).sum))∧h.length≤l
theorem R1:Jj Bd CV CU=Aj (CN (Ah Bd (Aa (Ab 0) (Ae)))) (Aj (Au 1 (Ah (Ao A2) (Aa (Ab 0) (Ae)))) (Aj (Au 2 (zE (Ab 1) (Ah (Ao A2) (Aa (Af AG (Ab 0) (mC (.int 0))) (Ae))))) (Aj (BE (BP (Ah CV (Aa (Ab 0) (Ae)))) (BV 3 4) (Aj (Au 5 (Ah CU (Aa (Ab 4) (Aa (Ab 1) (Ae))))) (Au 2 (AV [none,none] (Hr (Aa (Ab 2) (Aa (Ab 5) (Ae)))) (BV 0 1) (Bo) (Af Aq (Ab 0) (Ab 1)))))) (AO (Ab 2))))):=by
 unfold zE
 rfl
theorem ZaB {H W:Nat} {f:Nat→Nat→Bool} {h:HD} (hh:1≤H∧H≤8) (hw:1≤W∧W≤8):∃l2 h2,CC [bD H W f] h=.ok (.loc l2) h2∧Sm h h2∧h2[l2]?=some (.lst (Be (H*W+1) fun k=>NN H W f k))∧h.length≤l2:=by
 suffices hs:Wp (CC [bD H W f] h) (fun d h1=>∃l2,d=.loc l2∧Sm h h1∧h1[l2]?=some (.lst (Be (H*W+1) fun k=>NN H W f k))∧h.length≤l2) by
  obtain ⟨d,h1,e,l2,rfl,q⟩:=hs.ex
  exact ⟨l2,h1,e,q⟩
 have hm:H*W≤64:=GR hh.2 hw.2
 change Wp (Aw 6 (Jj Bd CV CU) [bD H W f] h) _
 rw [R1]
 rw [Bt]
 simp [-Ak]
 refine (NT hh hw).wp fun h1 s1=>?_
 rw [Ak]
 simp [-Ak,Jk]
 rw [Ak,Ce]
 refine Eq.mpr Ml ?_
 refine R0 (a:=(H:Int)) (b:=(W:Int)) (n:=H*W+1) (fun h'=>rfl) (fun h'=>?_) ⟨by omega,by omega⟩ (by simp) (by omega) fun l3 h3 s3 hl3 e3=>?_
 ·show (Ah (Ao A2) (Aa (Af AG (Ab 0) (mC (.int 0))) Ae)) [some (bD H W f),_,_,_,_,_] h'=_
  have ei:AG (bD H W f) (.int 0) h'=.ok (AK W (f 0)) h':=PC (by omega)
  have e0:Af AG (Ab 0) (mC (.int 0)) [some (bD H W f),some (.int (H:Nat)),none,none,none,none] h'=.ok (AK W (f 0)) h':=ei
  show ((Aa (Af AG (Ab 0) (mC (.int 0))) Ae) _ h').bind _=_
  unfold Aa
  rw [e0]
  simp only [Out.bind_ok,Ae,Ao]
  simp [AK]
 simp only [List.set_cons_succ,List.set_cons_zero]
 rw [Ak,Ce]
 obtain ⟨ll,h4,e4,s4,el4⟩:=Zat (f:=f) (h:=h3) hh hw
 refine CP (src:=[(ll,Ey H W (H - 1) f)]) (xs:=LL 1 (H - 1)) (fun R=>.tup [Ci (H - 1+1) R,B1 W (cc H f R)]) (LcI H W f h ll) ?_ (fun ys ρ h' i=>?_) ?_ ?_
 ·simp only [Pz,IF,FU,Fs,FT]
  rw [e4]
  simp [Ko el4]
  refine ⟨rfl,[],l3,none,none,none,rfl,rfl,(s1.trans s3).trans s4,el4,?_,by have:=s1.len;omega⟩
  rw [s4 _ _ e3]
  congr 2
 ·obtain ⟨_,_,_,_,_,_,_,_,z,_⟩:=i
  exact Iu z
 ·rintro R xs ρ h' ⟨ys,l,x,y,z,ex,rfl,s',ell,e',hl⟩
  refine ⟨_,rfl,?_⟩
  simp [-Ak]
  obtain ⟨l5,h5,e5,s5,el5⟩:=Zay (h:=h') (W:=W) (Hn:=H) (c:=cc H f R) hw.2 hh.2 (fun j=>Kr)
  rw [e5]
  simp [-Ak]
  rw [Ak]
  simp
  have en:1+W*H=H*W+1:=by rw [HU];omega
  rw [en] at el5
  refine Zaz (src:=[(l,Be (H*W+1) fun k=>(ys.map (hk H W f k)).sum)]++[(l5,Be (H*W+1) fun k=>AM (wL W H (cc H f R)) k)]) (xs:=List.range (H*W+1)) (φ:=fun k=>.tup [.int (ys.map (hk H W f ((k:Nat):Int))).sum,.int (AM (wL W H (cc H f R)) ((k:Nat):Int))]) (fun _=>true) (fun k=>.int ((ys.map (hk H W f ((k:Nat):Int))).sum+AM (wL W H (cc H f R)) ((k:Nat):Int))) (fun k=>[some (.int (ys.map (hk H W f ((k:Nat):Int))).sum),some (.int (AM (wL W H (cc H f R)) ((k:Nat):Int)))]) ?_ (Jm (by simp;omega)) (fun k _=>rfl) (fun k _ h2 s2=>(.ok:Pu (.ok true h2) h2 true)) (fun k _ _ h2 s2=>?_) fun l6 h6 s6 e6 hl6=>?_
  ·simp
   rw [P9 (Qb (s5 _ _ e')) (Qb el5)]
   refine ⟨rfl,.refl _,fun h7 s7 p hp=>?_⟩
   rcases qa5.mp hp with hp |hp
   ·subst hp
    exact s7 _ _ (s5 _ _ e')
   ·rw [qaD] at hp
    subst hp
    exact s7 _ _ el5
  ·simp [Pu,Sm.refl]
  ·rw [FW] at e6
   simp only [Dt]
   refine ⟨ys++[R],l6,_,_,_,by rw [ex];simp,rfl,s'.trans (s5.trans s6),s6 _ _ (s5 _ _ ell),?_,by have:=(s'.trans s5).len;omega⟩
   rw [e6]
   congr 2
   refine Dk fun k _=>?_
   dsimp only
   rw [BY,B7,ZaA]
   simp
 ·rintro ρ h' ⟨ys,l,x,y,z,ex,rfl,s',ell,e',hl⟩
  simp [s']
  refine ⟨?_,hl⟩
  rw [e']
  have:LL 1 (H - 1)=ys:=by rw [ex];simp
  subst this
  rfl
theorem R3:∀n a b:Nat,a≤n→b≤n→(a|||b)=(a ^^^b)+(a&&& b)
 |0,a,b,ha,hb=>by
  obtain rfl:a=0:=by omega
  obtain rfl:b=0:=by omega
  rfl
 |n+1,a,b,ha,hb=>by
  have ih:=R3 n (a / 2) (b / 2) (by omega) (by omega)
  rw [←Nat.or_div_two,←Nat.xor_div_two,←Nat.and_div_two] at ih
  have h1:=@Nat.or_mod_two_eq_one a b
  have h2:=@Nat.and_mod_two_eq_one a b
  have h3:=@Nat.xor_mod_two_eq_one a b
  rcases Nat.mod_two_eq_zero_or_one a with e |e<;>rcases Nat.mod_two_eq_zero_or_one b with e' |e'<;>omega
theorem bor {a b:Nat}:Builtin.bitOr (a:Int) (b:Int)=((a|||b:Nat):Int):=by
 have n1:∀x:Nat,decide (0≤Builtin.bitNot (x:Int))=false:=fun x=>by simp [Builtin.bitNot];omega
 have n2:∀x:Int,Builtin.bitNot (Builtin.bitNot x)=x:=fun x=>by simp [Builtin.bitNot];omega
 unfold Builtin.bitOr Builtin.bitAnd
 rw [n1,n1]
 simp only [n2,Jr]
theorem bx {a b:Nat}:Builtin.bitXor (a:Int) (b:Int)=((a ^^^b:Nat):Int):=by
 have:=R3 (a+b) a b (by omega) (by omega)
 have e:Builtin.bitAnd (a:Int) (b:Int)=((a&&& b:Nat):Int):=rfl
 unfold Builtin.bitXor
 rw [bor,e]
 omega
def BL (n:Nat):Int:=Bh 8 fun j=>n.testBit j
theorem ZaC:∀n<256,BL n=BL (n / 2)+((n % 2:Nat):Int):=by decide +kernel
def Bm (W:Nat) (r:Nat→Bool):Nat:=((List.range W).map fun j=>(if r j then 1 else 0)*2^j).sum
theorem R4 {W:Nat} {r:Nat→Bool}:Bm (W+1) r=(if r W then 2^W else 0)+Bm W r:=by
 unfold Bm
 rw [Cs,BY,B7]
 simp [HQ]
 by_cases e:r W=true<;>simp [e]
theorem K4 (r:Nat→Bool):∀W,Bm W r<2^W∧∀j,(Bm W r).testBit j=(decide (j<W)&&r j)
 |0=>by simp [Bm]
 |W+1=>by
  obtain ⟨h1,h2⟩:=K4 r W
  rw [R4]
  cases e:r W with
  |false=>
   simp only [CD,if_false,Nat.zero_add]
   refine ⟨AL h1 (EA (by decide) (by omega)),fun j=>?_⟩
   rw [h2 j]
   by_cases z:j=W
   ·subst z;simp [e]
   ·have:decide (j<W)=decide (j<W+1):=by simp;omega
    rw [this]
  |true=>
   simp only [if_true]
   have h3:2^W+Bm W r<2^(W+1):=by rw [Nat.pow_succ];omega
   refine ⟨h3,fun j=>?_⟩
   rcases Nat.lt_trichotomy j W with z |z |z
   ·rw [Nat.testBit_two_pow_add_gt z,h2 j]
    have:decide (j<W)=decide (j<W+1):=by simp;omega
    rw [this]
   ·subst z
    rw [Nat.testBit_two_pow_add_eq,h2 j]
    simp [e]
   ·rw [HL (AL h3 (EA (by decide) z))]
    simp;omega
theorem R5 {n:Nat} {r:Nat→Bool}:∀{m:Nat},n≤m→(∀j,n≤j→r j=false)→Bh m r=Bh n r
 |0,h,_=>by have:n=0:=by omega
            rw [this]
 |m+1,h,hr=>by
  by_cases z:n=m+1
  ·rw [z]
  ·rw [←R5 (m:=m) (by omega) hr]
   unfold Bh
   rw [Cs,BY,B7]
   simp [hr m (by omega)]
theorem R6 {W c:Nat} {r:Nat→Bool} (hW:W≤8) (hc:c<2^W):BL (Bm W r ^^^c)=Bh W fun j=>Bool.xor (r j) (c.testBit j):=by
 unfold BL
 rw [R5 (n:=W) hW]
 ·refine Hs fun j hj=>?_
  rw [Nat.testBit_xor,(K4 r W).2 j]
  simp [hj]
 ·intro j hj
  rw [Nat.testBit_xor,(K4 r W).2 j,HL (AL hc (EA (by decide) hj))]
  simp
  omega
theorem nsz {n:Nat} (hn:n≤1000):n≤sizeLine:=by unfold sizeLine;omega
theorem Sm.put {h h':HD} {l:Nat} {c:Cell} (s:Sm h h') (hl:h.length≤l):Sm h (h'.set l c):=fun i x e=>by
 rw [Bi (by have:=(qa2.mp e).1;omega)]
 exact s i x e
theorem icd {a b:Nat}:((a:Nat):Int) / ((b:Nat):Int)=((a / b:Nat):Int):=rfl
theorem icm {a b:Nat}:((a:Nat):Int) % ((b:Nat):Int)=((a % b:Nat):Int):=rfl
def GK (n:Nat):D:=.int (BL n)
def OnI (l:Nat) (h:HD) (xs:List Nat) (ρ:Ai) (h':HD):Prop:=∃(j:Nat) (y:Option D),xs=(List.range 255).drop j∧j≤255∧ρ=[some (.loc l),y]∧Sm h h'∧h'[l]?=some (.lst ((List.range (j+1)).map GK))
theorem ZaD {h:HD} {Q:D→HD→Prop} (q:∀l h',Sm h h'→h.length≤l→h'[l]?=some (.lst ((List.range 256).map GK))→Q (.loc l) h'):Wp (B0 [] h) Q:=by
 change Wp (Aw 2 NB [] h) _
 refine Eq.mpr Bt ?_
 simp [-Ak]
 refine A9 (by simp) fun l h1 s1 e1 el _=>?_
 refine Eq.mpr Ak ?_
 refine Eq.mpr Ce ?_
 refine CP (src:=[]) (xs:=List.range 255) (fun k=>.int (1+(k:Int))) (OnI l h) ?_ (fun ys ρ h' _=>Dq) ?_ ?_
 ·simp
  rw [show (1:Int)=((1:Nat):Int) from rfl,show (256:Int)=((256:Nat):Int) from rfl,RR (by omega) (by omega)]
  exact ⟨rfl,0,_,rfl,by omega,rfl,s1,e1⟩
 ·rintro x xs ρ h2 ⟨j,y,ex,hj,rfl,s2,e2⟩
  obtain ⟨rfl,hk',rfl⟩:=HF ex.symm
  refine ⟨_,rfl,?_⟩
  rw [show (1:Int)+(x:Int)=((x+1:Nat):Int) by omega]
  simp [-Int.natCast_add,IG e2]
  refine Ax (PF (by decide) (by decide)) ?_
  rw [Bs,show (2:Int)=((2:Nat):Int) from rfl,icd]
  have hd:(x+1) / 2<x+1:=by omega
  refine Ax (EU e2 (k:=(x+1) / 2) (a:=GK ((x+1) / 2)) (by rw [BX,FA hd];rfl)) ?_
  rw [Bs]
  refine Ax (II (by decide)) ?_
  rw [Bs,icm]
  unfold GK
  refine Ax (show Aq (.int (BL ((x+1) / 2))) (.int (((x+1) % 2:Nat):Int)) h2=.ok (.int (BL ((x+1) / 2)+(((x+1) % 2:Nat):Int))) h2 from rfl) ?_
  rw [Bs,←ZaC (x+1) (by omega)]
  refine Ax (Mp e2 (by simp;exact nsz (by omega))) ?_
  have hl2:l<h2.length:=(qa2.mp e2).1
  simp [Dt]
  refine ⟨x+1,_,rfl,by omega,rfl,Sm.put s2 (by omega),?_⟩
  rw [BR hl2,Cs (n:=x+1),BY]
  rfl
 ·rintro ρ h2 ⟨j,y,ex,hj,rfl,s2,e2⟩
  have:j=255:=HG hj ex.symm
  subst this
  simp
  exact q _ _ s2 (by omega) e2
theorem R7 {i:Int} {n:Nat} {h:HD} (hi:i.natAbs<18446744073709551616) (hn:n≤1000):D0 (.int i) (.int (n:Nat)) h=.ok (.int (i*2^n)) h:=by
 have:FM i (n:Int):=⟨by omega,by omega,by omega⟩
 simp only [D0,LS.intD]
 rw [if_pos this]
 simp
theorem R8 {r:Nat→Bool}:∀W:Nat,((List.range W).map fun j=>(if r j then (1:Int) else 0)*2^j).sum=((Bm W r:Nat):Int)
 |0=>rfl
 |W+1=>by
  rw [Cs,BY,B7,R8 W,R4]
  by_cases e:r W=true<;>simp [e]
  omega
theorem N3 {W:Nat} (hw:W≤8):2^W≤256:=EA (n:=2) (by decide) hw
theorem ZaE {W N:Nat} {h:HD} (hw:W≤1000) (eN:2^W=N):D0 (.int 1) (.int (W:Nat)) h=.ok (.int (N:Nat)) h:=by
 rw [R7 (by decide) hw,Int.one_mul,←eN]
 congr 2
def E4 (W:Nat) (f:Nat→Nat→Bool) (i:Nat):D:=.int ((Bm W (f i):Nat):Int)
theorem K5 {n:Nat} {b:Bool} {R:Nat→Bool} (h:R n=b):setb n b R=R:=by
 funext i
 unfold setb
 by_cases z:i=n
 ·subst z;simp [h]
 ·simp [z]
theorem N4:∀(n:Nat) (g:(Nat→Bool)→Int),F5 n g→((List.range (2^n)).map fun c=>g fun j=>c.testBit j).sum=((LL 0 n).map g).sum
 |0,g,d=>by
  simp [LL,Cs]
 |n+1,g,d=>by
  have i0:=N4 n _ (Fv d false)
  have i1:=N4 n _ (Fv d true)
  rw [show 2^(n+1)=2^n+2^n by rw [Nat.pow_succ];omega,List.range_add,BY,B7,LL,BY,B7,B8,B8]
  congr 1
  ·rw [show ((List.range (2^n)).map fun c=>g fun j=>c.testBit j).sum=((List.range (2^n)).map fun c=>g (setb n false fun j=>c.testBit j)).sum from Bc fun c hc=>by
    rw [K5 (HL (qbA.mp hc))],i0]
   exact Bc fun R hR=>by rw [K5 (Df hR n (by omega))]
  ·rw [show ((List.range (2^n)).map ((fun c=>g fun j=>c.testBit j)∘fun x=>2^n+x)).sum=((List.range (2^n)).map fun c=>g (setb n true fun j=>c.testBit j)).sum from Bc fun c hc=>by
    refine d _ _ fun i hi=>?_
    unfold setb
    by_cases z:i=n
    ·subst z
     rw [if_pos rfl,Nat.testBit_two_pow_add_eq,HL (qbA.mp hc)]
     rfl
    ·rw [if_neg z,Nat.testBit_two_pow_add_gt (by omega)],i1]
   refine Bc fun R hR=>?_
   show g (setb n true R)=g (ext (0+n) R)
   congr 1
   funext i
   unfold setb ext
   simp
theorem ZaF {H W:Nat} {f:Nat→Nat→Bool} {k:Int} (hH:1≤H) (hW:1≤W):NN W H (fun i j=>f j i) k=NN H W f k:=by
 have h1:=MQ (H:=W) (W:=H) (f:=fun i j=>f j i) (k:=k) hW
 have h2:=MQ (H:=H) (W:=W) (f:=f) (k:=k) hH
 have e:((LL 0 W).map (hk W H (fun i j=>f j i) k)).sum=((LL 0 H).map (hk H W f k)).sum:=by
  rw [Bc (xs:=LL 0 W) (f:=hk W H (fun i j=>f j i) k) (g:=fun C=>((LL 0 H).map fun R=>if TT H W f R C=k then (1:Int) else 0).sum) fun C _=>by
   rw [hk_eq]
   exact Bc fun R _=>by rw [WI],IW]
  exact Bc fun R _=>hk_eq.symm
 omega
theorem ZaG {H W:Nat} {f:Nat→Nat→Bool} {k:Int} (hH:1≤H) (hW:1≤W):((List.range (2^(W - 1))).map fun c=>hk W H (fun i j=>f j i) k fun j=>c.testBit j).sum=NN H W f k:=by
 obtain ⟨n,rfl⟩:∃n,W=n+1:=⟨W - 1,by omega⟩
 have d:F5 (n+1) (hk (n+1) H (fun i j=>f j i) k):=Qg
 have two:=MQ (H:=n+1) (W:=H) (f:=fun i j=>f j i) (k:=k) hW
 rw [LL,BY,B7,B8] at two
 have e0:((List.range (2^n)).map fun c=>hk (n+1) H (fun i j=>f j i) k fun j=>c.testBit j).sum=((LL 0 n).map (hk (n+1) H (fun i j=>f j i) k)).sum:=by
  rw [show ((List.range (2^n)).map fun c=>hk (n+1) H (fun i j=>f j i) k fun j=>c.testBit j).sum=((List.range (2^n)).map fun c=>hk (n+1) H (fun i j=>f j i) k (setb n false fun j=>c.testBit j)).sum from Bc fun c hc=>by
   rw [K5 (HL (qbA.mp hc))],N4 n _ (Fv d false)]
  exact Bc fun R hR=>by rw [K5 (Df hR n (by omega))]
 have e1:((LL 0 n).map (hk (n+1) H (fun i j=>f j i) k∘ext (0+n))).sum=((LL 0 n).map (hk (n+1) H (fun i j=>f j i) k)).sum:=by
  have:=Kt n _ (fun _=>true) (Fv d true)
  rw [show ((LL 0 n).map (hk (n+1) H (fun i j=>f j i) k∘ext (0+n))).sum=((LL 0 n).map fun R=>hk (n+1) H (fun i j=>f j i) k (setb n true R)).sum from Bc fun R _=>by
   show hk (n+1) H (fun i j=>f j i) k (ext (0+n) R)=_
   congr 1
   funext i
   unfold setb ext
   simp,←this]
  refine Bc fun R hR=>?_
  rw [←Qf (R:=R)]
  congr 1
  funext i
  unfold setb
  by_cases z:i=n
  ·subst z
   simp [Df hR i (by omega)]
  ·simp [z]
 rw [e1] at two
 show ((List.range (2^n)).map fun c=>hk (n+1) H (fun i j=>f j i) k fun j=>c.testBit j).sum=_
 rw [e0,←ZaF hH hW]
 omega
def dP (ps:List (Int×Int)):List (Kyd×D):=ps.map fun p=>(.i p.1,.int p.2)
def gI (ps:List (Int×Int)) (k:Int):Int:=((ps.find? fun p=>decide (p.1=k)).map (·.2)).getD 0
def BW (ps:List (Int×Int)) (k v:Int):List (Int×Int):=if ps.any (fun p=>decide (p.1=k)) then ps.map (fun p=>if p.1=k then (p.1,v) else p) else ps++[(k,v)]
theorem K6:∀{ps:List (Int×Int)},DG (dP ps)=true
 |[]=>rfl
 |_::ps=>by
  show (true&&DG (dP ps))=true
  rw [K6];rfl
theorem R9:∀{ps:List (Int×Int)} {k:Int},(Dg (dP ps) (.i k)).getD (.int 0)=.int (gI ps k)
 |[],k=>rfl
 |p::ps,k=>by
  by_cases z:p.1=k
  ·have e1:Dg (dP (p::ps)) (.i k)=some (.int p.2):=by simp [Dg,dP,DP,z]
   have e2:gI (p::ps) k=p.2:=by simp [gI,DP,z]
   rw [e1,e2];rfl
  ·have e1:Dg (dP (p::ps)) (.i k)=Dg (dP ps) (.i k):=by simp [Dg,dP,DP,z]
   have e2:gI (p::ps) k=gI ps k:=by simp [gI,DP,z]
   rw [e1,e2];exact R9
theorem Sa {k:Int}:∀{ps:List (Int×Int)},((dP ps).any fun p=>decide (p.1=.i k))=ps.any fun p=>decide (p.1=k)
 |[]=>rfl
 |p::ps=>by
  show (decide (Kyd.i p.1=.i k)||(dP ps).any _)=_
  rw [Sa,GS]
  congr 1
  simp
theorem ZaH {ps:List (Int×Int)} {k v:Int}:E3 (dP ps) (.i k) (.int v)=dP (BW ps k v):=by
 unfold E3 BW
 rw [Sa]
 split
 ·unfold dP
  rw [B8,B8]
  refine Dk fun p _=>?_
  show (if Kyd.i p.1=.i k then (Kyd.i p.1,D.int v) else (.i p.1,.int p.2))=_
  by_cases z:p.1=k
  ·simp [z]
  ·simp [z]
 ·simp [dP]
theorem Fz {p:Int×Int} {ps:List (Int×Int)} {t:Int}:gI (p::ps) t=if p.1=t then p.2 else gI ps t:=by
 by_cases z:p.1=t
 ·simp [gI,DP,z]
 ·simp [gI,DP,z]
theorem N5 {t:Int}:∀{ps:List (Int×Int)},ps.any (fun p=>decide (p.1=t))=false→gI ps t=0
 |[],_=>rfl
 |p::ps,h=>by
  rw [GS,Bool.or_eq_false_iff] at h
  rw [Fz,if_neg (by simpa using h.1),N5 h.2]
theorem Sb {q:Int×Int} {t:Int} {ps:List (Int×Int)} (z:¬q.1=t):(q::ps).any (fun p=>decide (p.1=t))=ps.any fun p=>decide (p.1=t):=by
 rw [GS,decide_eq_false z,Bool.false_or]
theorem Se {q:Int×Int} {t:Int} {ps:List (Int×Int)} (z:q.1=t):(q::ps).any (fun p=>decide (p.1=t))=true:=by
 rw [GS,decide_eq_true z,Bool.true_or]
theorem Sg {p:Int×Int} {t:Int}:∀{ps:List (Int×Int)},gI (ps++[p]) t=if ps.any (fun q=>decide (q.1=t))=true then gI ps t else if p.1=t then p.2 else 0
 |[]=>by rw [GP,Fz];rfl
 |q::ps=>by
  rw [ED,Fz,Sg,Fz]
  by_cases z:q.1=t
  ·rw [Se z,if_pos z,if_pos rfl];exact (if_pos z).symm
  ·rw [Sb z,if_neg z]
   rw [if_neg z]
theorem Sh {k v t:Int}:∀{ps:List (Int×Int)},gI (ps.map fun p=>if p.1=k then (p.1,v) else p) t=if t=k∧ps.any (fun p=>decide (p.1=k))=true then v else gI ps t
 |[]=>by simp [gI]
 |p::ps=>by
  rw [Bf,Fz,Sh,Fz]
  by_cases z:p.1=k
  ·rw [if_pos z,Se z]
   by_cases y:t=k
   ·rw [if_pos (show p.1=t by omega),if_pos ⟨y,rfl⟩]
   ·rw [if_neg (show ¬p.1=t by omega),if_neg (fun w=>y w.1),if_neg (fun w=>y w.1),if_neg (by omega)]
  ·rw [if_neg z,Sb z]
   by_cases y:p.1=t
   ·rw [if_pos y,if_neg (fun w=>z (by omega))]
    exact (if_pos y).symm
   ·rw [if_neg y]
    rw [if_neg y]
theorem N6 {ps:List (Int×Int)} {k v t:Int}:gI (BW ps k v) t=if t=k then v else gI ps t:=by
 unfold BW
 by_cases h:ps.any (fun p=>decide (p.1=k))=true
 ·rw [if_pos h,Sh]
  by_cases y:t=k
  ·rw [if_pos ⟨y,h⟩,if_pos y]
  ·rw [if_neg (fun w=>y w.1),if_neg y]
 ·rw [if_neg h,Sg]
  by_cases y:t=k
  ·subst y
   rw [if_neg h,if_pos rfl,if_pos rfl]
  ·rw [if_neg y]
   by_cases h2:ps.any (fun p=>decide (p.1=t))=true
   ·rw [if_pos h2]
   ·rw [if_neg h2,if_neg (fun w=>y w.symm)]
    exact (N5 (Bool.not_eq_true _ ▸ h2)).symm
theorem Si {ps:List (Int×Int)} {k v:Int}:(BW ps k v).map (·.1)=if ps.any (fun p=>decide (p.1=k)) then ps.map (·.1) else ps.map (·.1)++[k]:=by
 unfold BW
 split
 ·rw [B8]
  refine Dk fun p _=>?_
  show (if p.1=k then (p.1,v) else p).1=p.1
  split<;>rfl
 ·simp
theorem Sj {ps:List (Int×Int)} {k v:Int} (h:(ps.map (·.1)).Nodup):((BW ps k v).map (·.1)).Nodup:=by
 rw [Si]
 split
 ·exact h
 ·rename_i z
  rw [List.nodup_append]
  refine ⟨h,by simp,fun a ha b hb=>?_⟩
  rw [qaD] at hb
  subst hb
  rintro rfl
  obtain ⟨p,hp,rfl⟩:=qaM.mp ha
  exact z (List.any_eq_true.mpr ⟨p,hp,by simp⟩)
theorem N7 {ps:List (Int×Int)} {k v:Int}:(BW ps k v).length≤ps.length+1:=by
 unfold BW
 split<;>simp
theorem Sk {ps:List (Int×Int)} {k v:Int} {A:Int→Prop} (h:∀p∈ps,A p.1) (hk:A k):∀p∈BW ps k v,A p.1:=fun p hp=>by
 have:p.1∈(BW ps k v).map (·.1):=qaM.mpr ⟨p,hp,rfl⟩
 rw [Si] at this
 split at this
 ·obtain ⟨q,hq,e⟩:=qaM.mp this
  rw [←e];exact h q hq
 ·rcases qaZ.mp this with z |z
  ·obtain ⟨q,hq,e⟩:=qaM.mp z
   rw [←e];exact h q hq
  ·rw [qaD.mp z];exact hk
theorem K7 {m t:Int}:∀{ps:List (Int×Int)},(ps.map (·.1)).Nodup→(ps.map fun p=>if p.1+m=t then p.2 else 0).sum=gI ps (t - m)
 |[],_=>rfl
 |p::ps,h=>by
  rw [Bf,qbM] at h
  rw [Bf,CJ,K7 h.2,Fz]
  by_cases z:p.1+m=t
  ·rw [if_pos z,if_pos (by omega),N5]
   ·omega
   ·rw [List.any_eq_false]
    intro q hq w
    have:q.1=t - m:=by simpa using w
    exact h.1 (by rw [show p.1=q.1 by omega];exact qaM.mpr ⟨q,hq,rfl⟩)
  ·rw [if_neg z,if_neg (by omega)]
   omega
section
variable {h:HD} {l:Nat} {fz:Bool} {ps:List (Int×Int)} {n v:Int}
theorem Sl (e:h[l]?=some (.dic fz (dP ps))):Ei (.loc l) (.int n) (.int 0) h=.ok (.int (gI ps n)) h:=by
 simp only [Ei,e]
 rw [if_pos K6,R9]
theorem ZaI:(dP ps).length=ps.length:=by simp [dP]
theorem Sn {g:HD→Out (Fl×Ai)} (e:h[l]?=some (.dic false (dP ps))) (hz:ps.length≤1000):Jg (.loc l) (.int n) (.int v) h g=g (h.set l (.dic false (dP (BW ps n v)))):=by
 simp only [Jg,e]
 rw [if_pos ⟨K6,by rw [ZaI];unfold sizeLine;omega⟩,ZaH]
theorem So (e:h[l]?=some (.dic fz (dP ps))):Jh (.loc l) h=.ok (ps.map fun p=>.tup [.int p.1,.int p.2],[]) (h.set l (.dic true (dP ps))):=by
 simp only [Jh,e]
 rw [if_pos K6]
 simp [dP,kD]
end
@[irreducible] noncomputable def K8:MS:=Aj (Gc (Ab 9) (Af Aq (Ab 10) (Ab 8)) (Af Aq (Fy (Ab 9) (Af Aq (Ab 10) (Ab 8)) (mC (.int 0))) (Ab 11))) (Gc (Ab 9) (Af DZ (Af Aq (Ab 10) (Ab 2)) (Ab 8)) (Af Aq (Fy (Ab 9) (Af DZ (Af Aq (Ab 10) (Ab 2)) (Ab 8)) (mC (.int 0))) (Ab 11)))
@[irreducible] noncomputable def K9:MS:=Aj (Fo 8 9 (Aa (Af AG (Ab 1) (Af KM (Ab 7) (Ab 5))) (Aa (KP) (Ae)))) (Aj (BE (Gd (Ab 6)) (BV 10 11) K8) (Au 6 (Ab 9)))
@[irreducible] noncomputable def La:MS:=BE (Gd (Ab 6)) (BV 10 11) (Hg (Ab 4) (Ab 10) (Af Aq (Af AG (Ab 4) (Ab 10)) (Ab 11)))
@[irreducible] noncomputable def Lb:MS:=Aj (Au 6 (KQ 0 1)) (Aj (BE (BP (Ab 3)) (A7 7) K9) La)
def Cj (b:D) (l1 W l3 l4 c:Nat) (c6 c7 c8 c9 c10 c11:Option D):Ai:=[some b,some (.loc l1),some (.int (W:Nat)),some (.loc l3),some (.loc l4),some (.int (c:Nat)),c6,c7,c8,c9,c10,c11]
def Lc (qs:List (Int×Int)) (m W k v:Int):List (Int×Int):=BW (BW qs (k+m) (gI qs (k+m)+v)) (k+W - m) (gI (BW qs (k+m) (gI qs (k+m)+v)) (k+W - m)+v)
theorem ZaJ {qs:List (Int×Int)} {m W k v t:Int}:gI (Lc qs m W k v) t=gI qs t+((if k+m=t then v else 0)+if k+(W - m)=t then v else 0):=by
 unfold Lc
 rw [N6,N6,N6]
 by_cases h1:t=k+W - m
 ·rw [if_pos h1,if_pos (show k+(W - m)=t by omega)]
  by_cases h2:k+W - m=k+m
  ·rw [if_pos h2,if_pos (by omega)]
   rw [show t=k+m by omega]
   omega
  ·rw [if_neg h2,if_neg (by omega),h1]
   omega
 ·rw [if_neg h1,if_neg (show ¬k+(W - m)=t by omega)]
  by_cases h2:t=k+m
  ·rw [if_pos h2,if_pos (by omega),h2]
   omega
  ·rw [if_neg h2,if_neg (by omega)]
   omega
section
variable {b:D} {l1 W l3 l4 c l6 l9:Nat} {h:HD} {c7 c8 c9 c10 c11:Option D} {qs:List (Int×Int)} {m k v:Int} {Q:Fl×Ai→HD→Prop}
theorem ZaK (e9:h[l9]?=some (.dic false (dP qs))) (hz:qs.length≤900) (q:Q (.nx,Cj b l1 W l3 l4 c (some (.loc l6)) c7 (some (.int m)) (some (.loc l9)) (some (.int k)) (some (.int v))) (h.set l9 (.dic false (dP (Lc qs m W k v))))):
 Wp (K8 (Cj b l1 W l3 l4 c (some (.loc l6)) c7 (some (.int m)) (some (.loc l9)) (some (.int k)) (some (.int v))) h) Q:=by
 unfold K8
 have hl:l9<h.length:=(qa2.mp e9).1
 simp [-Ak,Cj,Rv e9]
 refine Ax (Sl e9) ?_
 simp [-Ak]
 refine Ax (Sn e9 (by omega)) ?_
 rw [Bs]
 refine Eq.mpr Ak ?_
 have e10:(h.set l9 (.dic false (dP (BW qs (k+m) (gI qs (k+m)+v)))))[l9]?=some (.dic false (dP (BW qs (k+m) (gI qs (k+m)+v)))):=by rw [BR hl]
 simp [-Ak,Rv e10]
 refine Ax (Sl e10) ?_
 simp [-Ak]
 refine Ax (Sn e10 (by have:=N7 (ps:=qs) (k:=k+m) (v:=gI qs (k+m)+v);omega)) ?_
 rw [Bs,List.set_set]
 exact q
end
inductive CkI (H W N l1 l3 l4:Nat) (f:Nat→Nat→Bool) (F:Nat→Int) (h h':HD):Prop where
 |mk (s:Sm h h') (e1:h'[l1]?=some (.lst ((List.range 256).map GK))) (e3:h'[l3]?=some (.lst ((List.range H).map (E4 W f)))) (e4:h'[l4]?=some (.lst (Be (H*W+1) F))):CkI H W N l1 l3 l4 f F h h'
inductive Jn (ps:List (Int×Int)) (G:Int→Int) (B L:Nat):Prop where
 |mk (g:∀t,gI ps t=G t) (nd:(ps.map (·.1)).Nodup) (bd:∀p∈ps,0≤p.1∧p.1≤(B:Int)) (ln:ps.length≤L):Jn ps G B L
section
variable {H W N l1 l3 l4 c:Nat} {f:Nat→Nat→Bool} {F:Nat→Int} {h h0:HD}
theorem CkI.new {x:Cell} (i:CkI H W N l1 l3 l4 f F h0 h):CkI H W N l1 l3 l4 f F h0 (h++[x]):=by
 obtain ⟨s,e1,e3,e4⟩:=i
 exact ⟨s.trans (.app _ _),Sm.app _ _ _ _ e1,Sm.app _ _ _ _ e3,Sm.app _ _ _ _ e4⟩
theorem CkI.put {x:Cell} {l:Nat} (i:CkI H W N l1 l3 l4 f F h0 h) (hl:h0.length≤l) (n1:l≠l1) (n3:l≠l3) (n4:l≠l4):CkI H W N l1 l3 l4 f F h0 (h.set l x):=by
 obtain ⟨s,e1,e3,e4⟩:=i
 exact ⟨Sm.put s hl,by rw [Bi n1];exact e1,by rw [Bi n3];exact e3,by rw [Bi n4];exact e4⟩
theorem CkI.lts (i:CkI H W N l1 l3 l4 f F h0 h):h0.length≤h.length∧l1<h.length∧l3<h.length∧l4<h.length:=by
 obtain ⟨s,e1,e3,e4⟩:=i
 exact ⟨s.len,(qa2.mp e1).1,(qa2.mp e3).1,(qa2.mp e4).1⟩
def HI (m W t:Int) (xs:List (Int×Int)):Int:=(xs.map fun p=>if p.1+m=t then p.2 else 0).sum+(xs.map fun p=>if p.1+(W - m)=t then p.2 else 0).sum
inductive Sq (b:D) (H W N l1 l3 l4 c l6 l9 B L:Nat) (f:Nat→Nat→Bool) (F:Nat→Int) (m:Int) (G:Int→Int) (c7:Option D) (h0:HD) (xs:List (Int×Int)) (ρ:Ai) (h':HD):Prop where
 |mk (qs:List (Int×Int)) (c10 c11:Option D) (er:ρ=Cj b l1 W l3 l4 c (some (.loc l6)) c7 (some (.int m)) (some (.loc l9)) c10 c11) (ck:CkI H W N l1 l3 l4 f F h0 h') (e9:h'[l9]?=some (.dic false (dP qs)))
  (g:∀t,gI qs t+HI m W t xs=G t) (nd:(qs.map (·.1)).Nodup) (bq:∀p∈qs,0≤p.1∧p.1≤((B+W:Nat):Int)) (bx:∀p∈xs,0≤p.1∧p.1≤(B:Int)) (ln:qs.length+2*xs.length≤L):Sq b H W N l1 l3 l4 c l6 l9 B L f F m G c7 h0 xs ρ h'
theorem ZaL {m W t:Int} {p:Int×Int} {xs:List (Int×Int)}:HI m W t (p::xs)=((if p.1+m=t then p.2 else 0)+if p.1+(W - m)=t then p.2 else 0)+HI m W t xs:=by
 unfold HI
 rw [Bf,Bf,CJ,CJ]
 omega
theorem ZaM {b:D} {i l6 B L:Nat} {ps:List (Int×Int)} {G:Int→Int} {c8 c9 c10 c11:Option D} {Q:Fl×Ai→HD→Prop} (hi:i<H) (hw:W≤8) (hc:c<2^W) (ck:CkI H W N l1 l3 l4 f F h0 h) (e6:h[l6]?=some (.dic false (dP ps))) (h6:h0.length≤l6) (n1:l6≠l1) (n3:l6≠l3) (n4:l6≠l4) (d:Jn ps G B L) (hL:L≤128)
 (q:∀l9 qs c8 c10 c11 h',CkI H W N l1 l3 l4 f F h0 h'→h'[l9]?=some (.dic false (dP qs))→h0.length≤l9→l9≠l1→l9≠l3→l9≠l4→Jn qs (fun t=>G (t - BL (Bm W (f i) ^^^c))+G (t - ((W:Int) - BL (Bm W (f i) ^^^c)))) (B+W) (2*L)→Q (.nx,Cj b l1 W l3 l4 c (some (.loc l9)) (some (E4 W f i)) c8 (some (.loc l9)) c10 c11) h'):
 Wp (K9 (Cj b l1 W l3 l4 c (some (.loc l6)) (some (E4 W f i)) c8 c9 c10 c11) h) Q:=by
 unfold K9
 have hb:Bm W (f i) ^^^c<256:=AL (Nat.xor_lt_two_pow (K4 (f i) W).1 hc) (N3 hw)
 have pm:0≤BL (Bm W (f i) ^^^c)∧BL (Bm W (f i) ^^^c)≤(W:Int):=by rw [R6 hw hc];exact Kr
 obtain ⟨k0,k1,k3,k4⟩:=ck.lts
 have ck0:=ck
 obtain ⟨_,e1,_,_⟩:=ck0
 obtain ⟨g,nd,bd,ln⟩:=d
 simp [-Ak,Cj,E4]
 rw [bx]
 refine Ax (EU e1 (k:=Bm W (f i) ^^^c) (a:=GK (Bm W (f i) ^^^c)) (by rw [BX,FA hb];rfl)) ?_
 simp [-Ak,GK]
 refine Eq.mpr Ak ?_
 refine Eq.mpr Ce ?_
 have hl6:l6<h.length:=(qa2.mp e6).1
 have e6':(h++[Cell.dic false []])[l6]?=some (.dic false (dP ps)):=Sm.app _ _ _ _ e6
 refine CP (src:=[]) (xs:=ps) (fun p=>.tup [.int p.1,.int p.2]) (Sq b H W N l1 l3 l4 c l6 h.length B (2*L) f F (BL (Bm W (f i) ^^^c)) (fun t=>G (t - BL (Bm W (f i) ^^^c))+G (t - ((W:Int) - BL (Bm W (f i) ^^^c)))) (some (E4 W f i)) h0) ?_ (fun ys ρ h' _=>Dq) ?_ ?_
 ·simp only [Rw,Hh,FT]
  refine Ax (So e6') ?_
  rw [Bs]
  refine ⟨rfl,[],_,_,rfl,ck.new.put h6 n1 n3 n4,?_,fun t=>?_,List.nodup_nil,fun p hp=>by simp at hp,bd,by simp;omega⟩
  ·rw [Bi (by omega)]
   simp [dP]
  ·unfold HI
   rw [K7 nd,K7 nd,g,g]
   show (0:Int)+_=_
   omega
 ·rintro p xs ρ h' ⟨qs,y10,y11,rfl,ck',e9,gq,ndq,bq,bxs,lnq⟩
  refine ⟨_,rfl,?_⟩
  have lq:=lnq
  simp only [E7] at lq
  have hp:=bxs p A3
  refine ZaK e9 (by omega) ?_
  have l1':=N7 (ps:=qs) (k:=p.1+BL (Bm W (f i) ^^^c)) (v:=gI qs (p.1+BL (Bm W (f i) ^^^c))+p.2)
  refine ⟨Lc qs (BL (Bm W (f i) ^^^c)) W p.1 p.2,_,_,rfl,ck'.put (by omega) (by omega) (by omega) (by omega),?_,fun t=>?_,Sj (Sj ndq),?_,fun x hx=>bxs x (A6 _ hx),?_⟩
  ·rw [BR (qa2.mp e9).1]
  ·have:=gq t
   rw [ZaL] at this
   rw [ZaJ]
   omega
  ·refine Sk (A:=fun x=>0≤x∧x≤((B+W:Nat):Int)) (Sk (A:=fun x=>0≤x∧x≤((B+W:Nat):Int)) bq ?_) ?_
   ·omega
   ·omega
  ·have:=N7 (ps:=BW qs (p.1+BL (Bm W (f i) ^^^c)) (gI qs (p.1+BL (Bm W (f i) ^^^c))+p.2)) (k:=p.1+(W:Int) - BL (Bm W (f i) ^^^c)) (v:=gI (BW qs (p.1+BL (Bm W (f i) ^^^c)) (gI qs (p.1+BL (Bm W (f i) ^^^c))+p.2)) (p.1+(W:Int) - BL (Bm W (f i) ^^^c))+p.2)
   show (BW _ _ _).length+2*xs.length≤2*L
   omega
 ·rintro ρ h' ⟨qs,y10,y11,rfl,ck',e9,gq,ndq,bq,bxs,lnq⟩
  refine Eq.mpr Ak ?_
  simp [Cj]
  refine q h.length qs _ _ _ h' ck' e9 (by omega) (by omega) (by omega) (by omega) ⟨fun t=>?_,ndq,bq,by simpa using lnq⟩
  have:=gq t
  simp [HI] at this
  exact this
def HJ (t:Int) (xs:List (Int×Int)):Int:=(xs.map fun p=>if p.1+0=t then p.2 else 0).sum
inductive Sr (b:D) (H W N l1 l3 l4 c l6:Nat) (f:Nat→Nat→Bool) (G:Int→Int) (F:Nat→Int) (c7 c8 c9:Option D) (h0:HD) (xs:List (Int×Int)) (ρ:Ai) (h':HD):Prop where
 |mk (F':Nat→Int) (c10 c11:Option D) (er:ρ=Cj b l1 W l3 l4 c (some (.loc l6)) c7 c8 c9 c10 c11) (ck:CkI H W N l1 l3 l4 f F' h0 h') (g:∀t:Nat,F' t+HJ (t:Int) xs=F t+G t) (bx:∀p∈xs,0≤p.1∧p.1≤((H*W:Nat):Int)):Sr b H W N l1 l3 l4 c l6 f G F c7 c8 c9 h0 xs ρ h'
theorem ZaN {t:Int} {p:Int×Int} {xs:List (Int×Int)}:HJ t (p::xs)=(if p.1+0=t then p.2 else 0)+HJ t xs:=by
 unfold HJ
 rw [Bf,CJ]
theorem ZaO {b:D} {l6 B L:Nat} {ps:List (Int×Int)} {G:Int→Int} {c7 c8 c9 c10 c11:Option D} {Q:Fl×Ai→HD→Prop} (hB:B≤H*W) (ck:CkI H W N l1 l3 l4 f F h0 h) (e6:h[l6]?=some (.dic false (dP ps))) (h6:h0.length≤l6) (n1:l6≠l1) (n3:l6≠l3) (n4:l6≠l4) (h4:h0.length≤l4) (n41:l4≠l1) (n43:l4≠l3) (d:Jn ps G B L)
 (q:∀F' c10 c11 h',(∀t:Nat,F' t=F t+G t)→CkI H W N l1 l3 l4 f F' h0 h'→Q (.nx,Cj b l1 W l3 l4 c (some (.loc l6)) c7 c8 c9 c10 c11) h'):
 Wp (La (Cj b l1 W l3 l4 c (some (.loc l6)) c7 c8 c9 c10 c11) h) Q:=by
 unfold La
 obtain ⟨g,nd,bd,ln⟩:=d
 refine CP (src:=[]) (xs:=ps) (fun p=>.tup [.int p.1,.int p.2]) (Sr b H W N l1 l3 l4 c l6 f G F c7 c8 c9 h0) ?_ (fun ys ρ h' _=>Dq) ?_ ?_
 ·simp only [Cj,Rw,Hh,FT]
  refine Ax (So e6) ?_
  rw [Bs]
  refine ⟨rfl,F,_,_,rfl,ck.put h6 n1 n3 n4,fun t=>?_,fun p hp=>?_⟩
  ·unfold HJ
   rw [K7 nd,g,Int.sub_zero]
  ·have:=bd p hp
   omega
 ·rintro p xs ρ h' ⟨F',y10,y11,rfl,ck',gq,bxs⟩
  refine ⟨_,rfl,?_⟩
  have hp:=bxs p A3
  obtain ⟨k,v⟩:=p
  obtain ⟨n,rfl⟩:∃n:Nat,k=(n:Int):=⟨k.toNat,by have:=hp.1;simp only at this;omega⟩
  have hn:n<H*W+1:=by have:=hp.2;simp only at this;omega
  have ck2:=ck'
  obtain ⟨s',e1,e3,e4⟩:=ck2
  simp [Cj]
  refine Ax (EU e4 (k:=n) (N0 hn)) ?_
  simp
  refine Ax (Mq e4 (by rw [HH];exact hn)) ?_
  rw [NZ]
  simp [Dt]
  refine ⟨fun t=>if t=n then F' n+v else F' t,_,_,rfl,⟨Sm.put s' h4,by rw [Bi n41];exact e1,by rw [Bi n43];exact e3,by rw [BR (qa2.mp e4).1]⟩,fun t=>?_,fun x hx=>bxs x (A6 _ hx)⟩
  have:=gq t
  rw [ZaN] at this
  by_cases z:t=n
  ·subst z
   simp only [if_true] at this ⊢
   rw [if_pos (by simp)] at this
   omega
  ·rw [if_neg (by simp;omega)] at this
   simp only [if_neg z]
   omega
 ·rintro ρ h' ⟨F',y10,y11,rfl,ck',gq,bxs⟩
  refine q F' _ _ h' (fun t=>?_) ck'
  have:=gq t
  simp [HJ] at this
  exact this
def nC (W:Nat) (f:Nat→Nat→Bool) (c i:Nat):Int:=BL (Bm W (f i) ^^^c)
inductive Ss (b:D) (H W N l1 l3 l4 c:Nat) (f:Nat→Nat→Bool) (F:Nat→Int) (h0:HD) (xs:List Nat) (ρ:Ai) (h':HD):Prop where
 |mk (j l6:Nat) (ps:List (Int×Int)) (c7 c8 c9 c10 c11:Option D) (ex:xs=(List.range H).drop j) (hj:j≤H) (er:ρ=Cj b l1 W l3 l4 c (some (.loc l6)) c7 c8 c9 c10 c11) (ck:CkI H W N l1 l3 l4 f F h0 h') (e6:h'[l6]?=some (.dic false (dP ps))) (h6:h0.length≤l6) (n1:l6≠l1) (n3:l6≠l3) (n4:l6≠l4)
  (d:Jn ps (fun t=>AM (wL j W (nC W f c)) t) (j*W) (2^j)):Ss b H W N l1 l3 l4 c f F h0 xs ρ h'
theorem ZaP {b:D} {c6 c7 c8 c9 c10 c11:Option D} {Q:Fl×Ai→HD→Prop} (hh:H≤8) (hw:W≤8) (hc:c<2^W) (ck:CkI H W N l1 l3 l4 f F h0 h) (h4:h0.length≤l4) (n41:l4≠l1) (n43:l4≠l3)
 (q:∀F' c6 c7 c8 c9 c10 c11 h',(∀t:Nat,F' t=F t+AM (wL H W (nC W f c)) t)→CkI H W N l1 l3 l4 f F' h0 h'→Q (.nx,Cj b l1 W l3 l4 c c6 c7 c8 c9 c10 c11) h'):
 Wp (Lb (Cj b l1 W l3 l4 c c6 c7 c8 c9 c10 c11) h) Q:=by
 unfold Lb
 obtain ⟨k0,k1,k3,k4⟩:=ck.lts
 simp [-Ak,Cj]
 refine Eq.mpr Ak ?_
 refine Eq.mpr Ce ?_
 have ckn:CkI H W N l1 l3 l4 f F h0 (h++[Cell.dic false [(.i 0,.int 1)]]):=ck.new
 have e3n:=ckn
 obtain ⟨_,_,e3n,_⟩:=e3n
 refine CP (src:=[(l3,(List.range H).map (E4 W f))]) (xs:=List.range H) (E4 W f) (Ss b H W N l1 l3 l4 c f F h0) ?_ (fun ys ρ h' z=>?_) ?_ ?_
 ·simp only [Pz,Hh,FT]
  refine Ax (Ko e3n) ?_
  rw [Bs]
  refine ⟨rfl,0,h.length,[(0,1)],_,_,_,_,_,by simp,by omega,rfl,ckn,by simp [dP],by omega,by omega,by omega,by omega,⟨fun t=>?_,by simp,fun p hp=>?_,by simp⟩⟩
  ·simp [Fz,wL,LL,CQ,AM]
   rfl
  ·rw [qaD] at hp
   subst hp
   simp
 ·obtain ⟨_,_,_,_,_,_,_,_,_,_,_,ck',_⟩:=z
  obtain ⟨_,_,e,_⟩:=ck'
  exact Iu e
 ·rintro x xs ρ h' ⟨j,l6,ps,y7,y8,y9,y10,y11,ex,hj,rfl,ck',e6,h6,n1,n3,n4,d⟩
  obtain ⟨rfl,hj',rfl⟩:=HF ex.symm
  refine ⟨_,rfl,?_⟩
  have p8:2^x≤128:=BM (EA (n:=2) (by decide) (show x≤7 by omega)) (by decide)
  refine ZaM hj' hw hc ck' e6 h6 n1 n3 n4 d p8 fun l9 qs z8 z10 z11 h2 ck2 e9 m0 m1 m3 m4 d2=>?_
  refine ⟨x+1,l9,qs,_,_,_,_,_,rfl,by omega,rfl,ck2,e9,m0,m1,m3,m4,?_⟩
  obtain ⟨g,nd,bd,ln⟩:=d2
  refine ⟨fun t=>?_,nd,fun p hp=>?_,by rw [Nat.pow_succ];omega⟩
  ·rw [g,N1,RV,K3,K3]
   rfl
  ·have:=bd p hp
   rw [GT]
   exact this
 ·rintro ρ h' ⟨j,l6,ps,y7,y8,y9,y10,y11,ex,hj,rfl,ck',e6,h6,n1,n3,n4,d⟩
  have:j=H:=HG hj ex.symm
  subst this
  refine Eq.mpr Ak ?_
  exact ZaO (AD _) ck' e6 h6 n1 n3 n4 h4 n41 n43 d fun F' z10 z11 h2 hF ck2=>q F' _ _ _ _ _ _ h2 hF ck2
theorem ZaQ (hw:W≤8) (hc:c<2^W) {i:Nat}:nC W f c i=cc W (fun j i=>f i j) (fun j=>c.testBit j) i:=R6 hw hc
theorem ZaR {n:Nat} {Hn:Int} {a a':Nat→Int} (e:∀i,a i=a' i):wL n Hn a=wL n Hn a':=by rw [show a=a' from funext e]
theorem ZaS (hw:W≤8) (hc:c<2^W) {t:Int}:AM (wL H W (nC W f c)) t=hk W H (fun j i=>f i j) t fun j=>c.testBit j:=by
 rw [ZaR fun i=>ZaQ hw hc]
 rfl
end
theorem ZaT:KV B0=Aj (Fo 1 2 (Aa (Ah B0 (Ae)) (Aa (Ah (Ao A2) (Aa (Af AG (Ab 0) (mC (.int 0))) (Ae))) (Ae)))) (Aj (Au 3 (AV [none] (BP (Ab 0)) (A7 0) (Bo) (Ah (Ao Dc) (Aa (AV [none,none] (F0 (Aa (Ab 0) (Ae))) (BV 0 1) (Bo) (Af D0 (Ab 1) (Ab 0))) (Ae))))) (Aj (Au 4 (zE (Ah (Ao A2) (Aa (Ab 0) (Ae))) (Ab 2))) (Aj (BE (Cw (Aa (Af D0 (mC (.int 1)) (Af DZ (Ab 2) (mC (.int 1)))) (Ae))) (A7 5) Lb) (AO (Ab 4))))):=by
 unfold Lb La K9 K8 zE
 rfl
inductive Su (H W N l1 l3 l4:Nat) (f:Nat→Nat→Bool) (h0:HD) (xs:List Nat) (ρ:Ai) (h':HD):Prop where
 |mk (j:Nat) (F:Nat→Int) (c5 c6 c7 c8 c9 c10 c11:Option D) (ex:xs=(List.range N).drop j) (hj:j≤N) (er:ρ=[some (bD H W f),some (.loc l1),some (.int (W:Nat)),some (.loc l3),some (.loc l4),c5,c6,c7,c8,c9,c10,c11]) (ck:CkI H W N l1 l3 l4 f F h0 h') (g:∀t:Nat,F t=((List.range j).map fun c=>hk W H (fun j i=>f i j) (t:Int) fun j=>c.testBit j).sum):Su H W N l1 l3 l4 f h0 xs ρ h'
section
variable {H W:Nat} {f:Nat→Nat→Bool} {h:HD} {Q:D→HD→Prop}
theorem ZaU (hh:1≤H∧H≤8) (hw:1≤W∧W≤8) (q:∀l h',Sm h h'→h'[l]?=some (.lst (Be (H*W+1) fun k=>NN H W f k))→Q (.loc l) h'):Wp (DL [bD H W f] h) Q:=by
 have hm:H*W≤64:=GR hh.2 hw.2
 change Wp (Aw 12 (KV B0) [bD H W f] h) _
 rw [ZaT]
 refine Eq.mpr Bt ?_
 simp [-Ak]
 refine ZaD fun l1 h1 s1 hl1 e1=>?_
 simp [-Ak,K2 hh.1,NU]
 refine Eq.mpr Ak ?_
 refine Eq.mpr Ce ?_
 refine Eq.mpr Ml ?_
 refine Hi (src:=[]) (xs:=List.range H) (φ:=fun i=>AK W (f i)) (fun _=>true) (E4 W f) (fun i=>[some (AK W (f i))]) ?_ (sz hh.2) (fun x _=>rfl) (fun x _ h' s'=>(.ok:Pu (.ok true h') h' true)) (fun i _ _ h' s'=>?_) fun l3 h3 s3 e3=>?_
 ·simp [bD,Sm.refl,Bz]
 ·simp [Pu]
  refine Pu.wp (WB (src:=[]) (xs:=List.range W) (φ:=fun j=>.tup [.int ((j:Nat):Int),lit (f i j)]) (fun j=>(if f i j then (1:Int) else 0)*2^j) (fun j=>[some (.int ((j:Nat):Int)),some (lit (f i j))]) ?_ (fun x _=>rfl) (fun x hx h' s'=>?_) (sz hw.2)) fun h7 s7=>?_
  ·simp [EV,AK,Wt,Sm.refl,Bz]
  ·have hx:=qbA.mp hx
   simp only [Pu,Mm,Hh,FT,lit,Bs]
   refine Ax (R7 (by split<;>decide) (by omega)) ?_
   exact ⟨rfl,.refl _⟩
  ·unfold E4
   rw [R8]
   exact ⟨rfl,s7⟩
 rw [FW] at e3
 refine Eq.mpr Ak ?_
 refine Eq.mpr Ce ?_
 refine Eq.mpr Ml ?_
 refine R0 (a:=(H:Int)) (b:=(W:Int)) (n:=H*W+1) (fun h'=>?_) (fun h'=>rfl) ⟨by omega,by omega⟩ (by simp) (by omega) fun l4 h4 s4 hl4 e4=>?_
 ·have e0:A2 (bD H W f) h'=.ok (.int ((H:Nat):Int)) h':=Jk
  show ((Aa (Ab 0) Ae) _ h').bind _=_
  unfold Aa Ae
  show (Out.ok [bD H W f] h').bind _=_
  simp only [Out.bind_ok,Ao]
  exact e0
 simp only [List.set_cons_succ,List.set_cons_zero]
 refine Eq.mpr Ak ?_
 refine Eq.mpr Ce ?_
 obtain ⟨N,eN⟩:∃N,2^(W - 1)=N:=⟨_,rfl⟩
 have hN:N≤256:=eN ▸ N3 (by omega)
 have hNW:N≤2^W:=eN ▸ EA (by decide) (by omega)
 have n41:l4≠l1:=by have:=(qa2.mp (s3 _ _ e1)).1;omega
 have n43:l4≠l3:=by have:=(qa2.mp e3).1;omega
 have hl4':h.length≤l4:=by have:=(s1.trans s3).len;omega
 refine CP (src:=[]) (xs:=List.range N) (fun i=>.int ((i:Nat):Int)) (Su H W N l1 l3 l4 f h) ?_ (fun ys ρ h' _=>Dq) ?_ ?_
 ·simp
  rw [show (W:Int) - 1=((W - 1:Nat):Int) by omega]
  refine Ax (ZaE (by omega) eN) ?_
  rw [Bs,FV (by omega)]
  exact ⟨rfl,⟨0,fun _=>0,_,_,_,_,_,_,_,by simp,by omega,rfl,⟨(s1.trans s3).trans s4,s4 _ _ (s3 _ _ e1),s4 _ _ e3,e4⟩,fun t=>by simp⟩⟩
 ·rintro x xs ρ h5 ⟨j,F,y5,y6,y7,y8,y9,y10,y11,ex,hj,rfl,ck,g⟩
  obtain ⟨rfl,hk',rfl⟩:=HF ex.symm
  refine ⟨_,rfl,?_⟩
  have hc:x<2^W:=by omega
  refine ZaP (b:=bD H W f) (c:=x) hh.2 hw.2 hc ck hl4' n41 n43 fun F' z6 z7 z8 z9 z10 z11 h6 hF ck'=>?_
  refine ⟨x+1,F',_,_,_,_,_,_,_,rfl,by omega,rfl,ck',fun t=>?_⟩
  rw [hF,g,ZaS hw.2 hc,Cs,BY,B7]
  simp
 ·rintro ρ h5 ⟨j,F,y5,y6,y7,y8,y9,y10,y11,ex,hj,rfl,ck,g⟩
  have:j=N:=HG hj ex.symm
  subst this
  simp
  obtain ⟨s5,_,_,e5⟩:=ck
  refine q l4 h5 s5 ?_
  rw [e5]
  congr 2
  refine NY fun k _=>?_
  rw [g,←eN]
  exact ZaG hh.1 hw.1
end
@[irreducible] noncomputable def Ld:MS:=Au 2 (Ah DJ (Aa (Ab 0) (Aa (Ab 1) (Ae))))
@[irreducible] noncomputable def Le:MS:=Au 3 (Ah DM (Aa (Ab 2) (Aa (Af Aq (mC (.int 1)) (Ah AQ (Aa (Ab 2) (Aa (mC (.int 8)) (Ae))))) (Aa (Af Aq (mC (.int 1)) (Ah AQ (Aa (Ab 2) (Aa (mC (.int 8)) (Ae))))) (Ae)))))
@[irreducible] noncomputable def Lf:MS:=Au 4 (Ah DL (Aa (Ab 3) (Ae)))
@[irreducible] noncomputable def Lg:MS:=BE (Cw (Aa (mC (.int 2)) (Ae))) (A7 5) (Aj (Au 6 (Ah CC (Aa (Ab 3) (Ae)))) (Aj (Cb (CL (Af DF (Ah (Ao Ed) (Aa (Ab 6) (Ae))) (Ah (Ao Ed) (Aa (Ab 4) (Ae))))) (AO (mC (.bl false))) (Cu)) (CN (ES (Ab 6) (mC (.int 0))))))
@[irreducible] noncomputable def Lh:MS:=Au 7 (Ah DK (Aa (Ab 2) (Aa (Ab 3) (Ae))))
@[irreducible] noncomputable def Li:MS:=Cb (CL (Af DF (Fx [7] Di (Ah CC (Aa (Ab 0) (Ae)))) (mC (.str "! board")))) (AO (mC (.bl false))) (Cu)
theorem ZaV {i:Int} (h:i.natAbs<10^12):Rp 0 13 (.int i):=by
 refine ⟨.int i,fun h m=>by cases m<;>rfl,?_,rfl,by simp [PyData.depth],PyData.shown_int_le h⟩
 simp only [PyData.showable,decide_eq_true_eq]
 by_cases z:i.natAbs=0
 ·rw [z];decide
 ·exact AL ((Nat.log2_lt (k:=40) z).mpr (AL h (by decide))) (by decide)
theorem Sv {L:Nat}:∀{ts:List Str},(∀t∈ts,t.length≤L)→(ts.map (·.length)).sum≤ts.length*L
 |[],_=>by simp
 |t::ts,h=>by
  have h1:=h t A3
  have h2:=Sv (fun x hx=>h x (A6 _ hx)) (ts:=ts)
  simp [GT]
  omega
theorem ZaW {n L k:Nat} {ds:List D} (h:∀d∈ds,Rp n L d) (hk:ds.length≤k) (hn:n+1≤8) (hl:k*(L+2)+3≤sizeLine):∃x:Str,∀(hd:HD) (l:Nat),hd[l]?=some (.lst ds)→Ed (.loc l) hd=.ok (.str x) hd:=by
 obtain ⟨ps,b1,b2,b3,b4,b5,b6⟩:=QC h
 refine ⟨(PyData.list ps).shown,fun hd l e=>?_⟩
 have e8:Bn hd 8 (.loc l)=some (.list ps):=by
  have:=b1 hd (8 - (n+1))
  rw [show (8:Nat)=(n+(8 - (n+1)))+1 by omega]
  simp only [Bn,e,this]
  rfl
 unfold Ed
 rw [e8]
 simp only
 rw [if_pos]
 refine ⟨by simpa [PyData.showable] using b2,by simpa [PyData.hasDict] using b3,by simp only [PyData.depth];omega,BM ?_ hl⟩
 simp only [PyData.shown]
 have e1:=listText_len_le (PyData.shownAll ps)
 have e2:=Sv b6
 have e3:(PyData.shownAll ps).length=ds.length:=by rw [QE,b5]
 rw [e3] at e1 e2
 have e4:ds.length*(L+2)≤k*(L+2):=Nat.mul_le_mul_right _ hk
 rw [Nat.mul_add] at e4
 omega
theorem ZaX {d:D} {h:HD} {c:Str} (n:Er (Bd [d] h) h c):Er (CC [d] h) h c:=by
 change We (Aw 6 (Jj Bd CV CU) [d] h) _ _
 rw [R1]
 refine Eq.mpr Qz ?_
 simp [-Ak]
 exact n.we fun h1 s1=>⟨rfl,rfl,s1⟩
theorem ZaY {xs:List Int} {x:Int} (h:∀y∈xs,0≤y) (hx:x∈xs):x≤xs.sum:=by
 induction xs with
 |nil=>cases hx
 |cons y ys ih=>
  rw [CJ]
  have h0:0≤ys.sum:=by
   have:=MR (f:=fun z:Int=>z) (xs:=ys) fun z hz=>h z (A6 _ hz)
   simpa using this
  rcases qa5.mp hx with rfl |hx
  ·omega
  ·have:=ih (fun z hz=>h z (A6 _ hz)) hx
   have:=h y A3
   omega
theorem Sx {H W:Nat} {f:Nat→Nat→Bool} {k:Int}:0≤NN H W f k:=MR fun R _=>WK
theorem ZaZ {H W k:Nat} {f:Nat→Nat→Bool} (hh:H≤8) (hw:W≤8) (hk:k<H*W+1):0≤NN H W f k∧NN H W f k<100000:=by
 refine ⟨Sx,?_⟩
 have:=ZaY (xs:=(List.range (H*W+1)).map fun k=>NN H W f ((k:Nat):Int)) (x:=NN H W f k) (fun y hy=>by
  obtain ⟨j,_,rfl⟩:=qaM.mp hy
  exact Sx) (qaM.mpr ⟨k,qbA.mpr hk,rfl⟩)
 rw [WO] at this
 have h1:(2:Int)^(H - 1)*2^W=((2^(H - 1)*2^W:Nat):Int):=by simp
 have h2:2^(H - 1)*2^W≤128*256:=GR (BM (EA (n:=2) (by decide) (show H - 1≤7 by omega)) (by decide)) (N3 hw)
 rw [h1] at this
 omega
theorem Za0 {H W:Nat} {f:Nat→Nat→Bool} (hh:H≤8) (hw:W≤8):∃x:Str,∀(hd:HD) (l:Nat),hd[l]?=some (.lst (Be (H*W+1) fun k=>NN H W f k))→Ed (.loc l) hd=.ok (.str x) hd:=
 ZaW (n:=0) (L:=13) (k:=65) (fun d hd=>by
  obtain ⟨j,hj,rfl⟩:=qaM.mp hd
  have:=ZaZ (f:=f) hh hw (qbA.mp hj)
  exact ZaV (by show (NN H W f ((j:Nat):Int)).natAbs<10^12;omega)) (by rw [HH];have:=GR hh hw;omega) (by decide) (by unfold sizeLine;decide)
inductive Sy (ns:List Int) (k b H W ld:Nat) (f:Nat→Nat→Bool) (c7:Option D) (h:HD) (ρ:Ai) (h':HD):Prop where
 |mk (c5 c6:Option D) (er:ρ=[some (.scr ns),some (.int (k:Nat)),some (.loc b),some (bD H W f),some (.loc ld),c5,c6,c7]) (bx:BoxAt h' b) (ht:TabAt h') (e:h'[ld]?=some (.lst (Be (H*W+1) fun k=>NN H W f k))):Sy ns k b H W ld f c7 h ρ h'
theorem Za1 {ns:List Int} {k:Nat} {h:HD} {c2 c3 c4 c5 c6 c7:Option D} {Q:Fl×Ai→HD→Prop} (hb:∀i∈ns,Builtin.Int.intBits i≤2^20) (hk:k≤1000) (ht:TabAt h) (q:∀d2 d3 d4 d5 d6 d7 h',TabAt h'→Q (.nx,[some (.scr ns),some (.int (k:Nat)),d2,d3,d4,d5,d6,d7]) h'):
 Wp ((Aj Ld (Aj Le (Aj Lf (Aj Lg (Aj Lh (Li)))))) [some (.scr ns),some (.int (k:Nat)),c2,c3,c4,c5,c6,c7] h) Q:=by
 refine Eq.mpr Ce ?_
 unfold Ld
 simp [-Ak]
 refine ZL hb hk fun b h1 x1 lb s1=>?_
 have hb0:0<b:=by have:=ht.pos;omega
 have t1:=ht.sm s1
 refine Eq.mpr Ak ?_
 refine Eq.mpr Ce ?_
 unfold Le
 simp [-Ak]
 refine HE x1 hb0 t1 (by decide) (by decide) fun d h2 l2 x2 t2 s2=>?_
 simp [-Ak]
 refine HE x2 hb0 t2 (by decide) (by decide) fun d' h3 l3 x3 t3 s3=>?_
 simp [-Ak]
 obtain ⟨H,eH,hh⟩:∃H:Nat,(1:Int)+(d:Int)=(H:Int)∧1≤H∧H≤8:=⟨1+d,by omega,by omega⟩
 obtain ⟨W,eW,hw⟩:∃W:Nat,(1:Int)+(d':Int)=(W:Int)∧1≤W∧W≤8:=⟨1+d',by omega,by omega⟩
 rw [eH,eW]
 refine Zaf x3 hh hw fun f h4 x4 s4=>?_
 have t4:=t3.smx s4 hb0
 refine Eq.mpr Ak ?_
 refine Eq.mpr Ce ?_
 unfold Lf
 simp [-Ak]
 refine ZaU hh hw fun ld h5 s5 e5=>?_
 refine Eq.mpr Ak ?_
 refine Eq.mpr Ce ?_
 obtain ⟨x,rx⟩:=Za0 (f:=f) hh.2 hw.2
 unfold Lg
 refine CP (src:=[]) (xs:=List.range 2) (fun i=>.int ((i:Nat):Int)) (fun _=>Sy ns k b H W ld f c7 h) ?_ (fun ys ρ h' _=>Dq) ?_ ?_
 ·simp only [VM,FU,Fs,Px]
  refine Ax (FV (n:=2) (by decide)) ?_
  exact ⟨rfl,_,_,rfl,x4.sm s5,t4.sm s5,e5⟩
 ·rintro i xs ρ h6 ⟨y5,y6,rfl,x6,t6,e6⟩
  refine ⟨_,rfl,?_⟩
  simp [-Ak]
  obtain ⟨lf,h7,ef,s7,e7,hlf⟩:=ZaB (f:=f) (h:=h6) hh hw
  refine Ax ef ?_
  rw [Bs]
  refine Eq.mpr Ak ?_
  simp [-Ak]
  refine Ax (rx _ _ e7) ?_
  simp [-Ak]
  refine Ax (rx _ _ (s7 _ _ e6)) ?_
  simp [-Ak]
  refine Eq.mpr Ak ?_
  simp [IG e7]
  refine Ax (Mp e7 (by rw [HH];have:=GR hh.2 hw.2;unfold sizeLine;omega)) ?_
  simp [Dt]
  have g1:lf≠b:=by have:=x6.lt;omega
  have g2:lf≠ld:=by have:=(qa2.mp e6).1;omega
  have g3:lf≠0:=by have:=t6.pos;omega
  refine ⟨_,_,rfl,?_,?_,?_⟩
  ·obtain ⟨n,en⟩:=x6.sm s7
   exact ⟨n,by rw [Bi g1];exact en⟩
  ·exact (Bi g3).trans (t6.sm s7)
  ·rw [Bi g2];exact s7 _ _ e6
 ·rintro ρ h6 ⟨y5,y6,rfl,x6,t6,e6⟩
  refine Eq.mpr Ak ?_
  refine Eq.mpr Ce ?_
  unfold Lh
  simp [-Ak]
  refine Zac x6 hb0 t6 hh hw fun n h7 nb x7 t7 s7=>?_
  refine Eq.mpr Ak ?_
  unfold Li
  simp
  refine Zai (ds:=[n]) t7 rfl ?_ fun h8 s8=>?_
  ·simp
   exact ZaX (ZU nb.1 nb.2)
  ·simp
   exact q _ _ _ _ _ _ h8 (t7.sm s8)
def IL (ns:List Int) (xs:List Nat) (ρ:Ai) (h':HD):Prop:=∃d1 d2 d3 d4 d5 d6 d7,ρ=[some (.scr ns),d1,d2,d3,d4,d5,d6,d7]∧TabAt h'∧∀k∈xs,k≤1000
theorem Za2:KY DJ AQ DM DL CC DK Di=Aj (BE (Cw (Aa (Ah (Br Io) (Aa (mC (.int 1)) (Aa (Ah (Br G8) (Aa (Ah (Ao A2) (Aa (Ab 0) (Ae))) (Aa (mC (.int 3)) (Ae)))) (Ae)))) (Ae))) (A7 1) (Aj Ld (Aj Le (Aj Lf (Aj Lg (Aj Lh (Li))))))) (AO (mC (.bl true))):=by
 unfold Ld Le Lf Lg Lh Li
 rfl
theorem law_true (ns:List Int) (hl:ns.length≤63) (hb:∀i∈ns,Builtin.Int.intBits i≤2^20):∃h',F_law [.scr ns] [.tab]=.ok (.bl true) h':=by
 have main:Wp (F_law [.scr ns] [.tab]) fun d _=>d=.bl true:=by
  change Wp (Aw 8 (KY DJ AQ DM DL CC DK Di) [.scr ns] [.tab]) _
  rw [Za2,Bt,Ce]
  obtain ⟨n,en,hn⟩:∃n:Nat,(if (if (3:Int)<(ns.length:Int) then (3:Int) else (ns.length:Int))>1 then (if (3:Int)<(ns.length:Int) then (3:Int) else (ns.length:Int)) else 1)=(n:Int)∧n≤99:=by
   have h0:0≤(if (if (3:Int)<(ns.length:Int) then (3:Int) else (ns.length:Int))>1 then (if (3:Int)<(ns.length:Int) then (3:Int) else (ns.length:Int)) else 1)∧(if (if (3:Int)<(ns.length:Int) then (3:Int) else (ns.length:Int))>1 then (if (3:Int)<(ns.length:Int) then (3:Int) else (ns.length:Int)) else 1)≤99:=by
    constructor<;>(split<;>split<;>omega)
   generalize (if (if (3:Int)<(ns.length:Int) then (3:Int) else (ns.length:Int))>1 then (if (3:Int)<(ns.length:Int) then (3:Int) else (ns.length:Int)) else 1)=E at h0
   exact ⟨E.toNat,by omega,by omega⟩
  refine CP (src:=[]) (xs:=List.range n) (fun i=>.int ((i:Nat):Int)) (IL ns) ?_ (fun ys ρ h' _=>Dq) ?_ ?_
  ·simp
   rw [en,FV (by omega)]
   exact ⟨rfl,_,_,_,_,_,_,_,rfl,rfl,fun k hk=>by have:=qbA.mp hk;omega⟩
  ·rintro x xs ρ h' ⟨d1,d2,d3,d4,d5,d6,d7,rfl,t,hx⟩
   refine ⟨_,rfl,?_⟩
   exact Za1 hb (hx x A3) t fun _ _ _ _ _ _ h2 t2=>
    ⟨_,_,_,_,_,_,_,rfl,t2,fun k hk=>hx k (A6 _ hk)⟩
  ·rintro ρ h' ⟨d1,d2,d3,d4,d5,d6,d7,rfl,t,hx⟩
   simp
 obtain ⟨a,h',e,rfl⟩:=Wp.ex main
 exact ⟨h',e⟩
end LK
set_option maxHeartbeats 0
namespace LK
open PySem PySem.Spec PyProof.Rows L2 LS
def N8:Tp.Want:=⟨[(("is_whole":Str),Gf),(("is_line_tuple":Str),Gg),(("counts_with_row":Str),Gh),(("ways_with_column":Str),Gi),(("_law_cell":Str),Gj),(("_law_mix":Str),Gk),(("_law_take":Str),Gm),(("_law_kind":Str),Gn),(("_law_ones":Str),Gp),(("is_between":Str),Gq),(("ways_of_counts":Str),Gr),(("_law_box":Str),Gs),(("_law_wide_box":Str),Gu),(("_law_no_board":Str),Gv),(("_law_least":Str),Gw),(("_law_counts":Str),Gx),(("is_light":Str),Gy),(("_law_board":Str),Gz),(("is_row":Str),GA),(("is_board":Str),GB),(("need_board":Str),GC),(("row_counts":Str),GD),(("turned":Str),GE),(("column_counts":Str),GF),(("lots_with_counts":Str),GG),(("left_counts":Str),GH),(("law":Str),s_law),(("_law_said":Str),Ji)],[(("MOST_LINES":Str),(8:Int))],["ValueError","all","bool","divmod","enumerate","int","isinstance","len","list","max","min","range","repr","sum","tuple","zip"]⟩
theorem all_mk {l:PySem.W.OpenLaw} {w:World} {K:PySem.W.Frag} {h:Heap} {mg:Str→Option Value} {fa c T:Addr} (HS:Tp.Has N8 K c T) (X:K.In h) (G:h.Ns mainGlobals mg) (hfa:mg "law"=some (.ref fa)):
 ∃fd:FuncData,(∀(s:Shared) (v:Value),BindsTo s fd ⟨[v],[]⟩ [("_law_script",v)])∧∀base:Heap,K.In base→base.Ns mainGlobals mg→Hx mg base→FnOk l.prog w K mg base (Az l.prog w K) 13 fa fd ["_law_script"] (EW K F_law):=by
 obtain ⟨fs,cs,bs,et,tb,hd,no⟩:=HS
 obtain ⟨_,_,_,_,_,_,_,_,_,_,a0,l0,c0,k0⟩:=fs 0 "is_whole" Gf rfl
 obtain ⟨_,_,_,_,_,_,_,_,_,_,a1,l1,c1,k1⟩:=fs 1 "is_line_tuple" Gg rfl
 obtain ⟨_,_,_,_,_,_,_,_,_,_,a2,l2,c2,k2⟩:=fs 2 "counts_with_row" Gh rfl
 obtain ⟨_,_,_,_,_,_,_,_,_,_,a3,l3,c3,k3⟩:=fs 3 "ways_with_column" Gi rfl
 obtain ⟨_,_,_,_,_,_,_,_,_,_,a4,l4,c4,k4⟩:=fs 4 "_law_cell" Gj rfl
 obtain ⟨_,_,_,_,_,_,_,_,_,_,a5,l5,c5,k5⟩:=fs 5 "_law_mix" Gk rfl
 obtain ⟨_,_,_,_,_,_,_,_,_,_,a6,l6,c6,k6⟩:=fs 6 "_law_take" Gm rfl
 obtain ⟨_,_,_,_,_,_,_,_,_,_,a7,l7,c7,k7⟩:=fs 7 "_law_kind" Gn rfl
 obtain ⟨_,_,_,_,_,_,_,_,_,_,a8,l8,c8,k8⟩:=fs 8 "_law_ones" Gp rfl
 obtain ⟨_,_,_,_,_,_,_,_,_,_,a9,l9,c9,k9⟩:=fs 9 "is_between" Gq rfl
 obtain ⟨_,_,_,_,_,_,_,_,_,_,a10,l10,c10,k10⟩:=fs 10 "ways_of_counts" Gr rfl
 obtain ⟨_,_,_,_,_,_,_,_,_,_,a11,l11,c11,k11⟩:=fs 11 "_law_box" Gs rfl
 obtain ⟨_,_,_,_,_,_,_,_,_,_,a12,l12,c12,k12⟩:=fs 12 "_law_wide_box" Gu rfl
 obtain ⟨_,_,_,_,_,_,_,_,_,_,a13,l13,c13,k13⟩:=fs 13 "_law_no_board" Gv rfl
 obtain ⟨_,_,_,_,_,_,_,_,_,_,a14,l14,c14,k14⟩:=fs 14 "_law_least" Gw rfl
 obtain ⟨_,_,_,_,_,_,_,_,_,_,a15,l15,c15,k15⟩:=fs 15 "_law_counts" Gx rfl
 obtain ⟨_,_,_,_,_,_,_,_,_,_,a16,l16,c16,k16⟩:=fs 16 "is_light" Gy rfl
 obtain ⟨_,_,_,_,_,_,_,_,_,_,a17,l17,c17,k17⟩:=fs 17 "_law_board" Gz rfl
 obtain ⟨_,_,_,_,_,_,_,_,_,_,a18,l18,c18,k18⟩:=fs 18 "is_row" GA rfl
 obtain ⟨_,_,_,_,_,_,_,_,_,_,a19,l19,c19,k19⟩:=fs 19 "is_board" GB rfl
 obtain ⟨_,_,_,_,_,_,_,_,_,_,a20,l20,c20,k20⟩:=fs 20 "need_board" GC rfl
 obtain ⟨_,_,_,_,_,_,_,_,_,_,a21,l21,c21,k21⟩:=fs 21 "row_counts" GD rfl
 obtain ⟨_,_,_,_,_,_,_,_,_,_,a22,l22,c22,k22⟩:=fs 22 "turned" GE rfl
 obtain ⟨_,_,_,_,_,_,_,_,_,_,a23,l23,c23,k23⟩:=fs 23 "column_counts" GF rfl
 obtain ⟨_,_,_,_,_,_,_,_,_,_,a24,l24,c24,k24⟩:=fs 24 "lots_with_counts" GG rfl
 obtain ⟨_,_,_,_,_,_,_,_,_,_,a25,l25,c25,k25⟩:=fs 25 "left_counts" GH rfl
 obtain ⟨f_law,_,an_law,_,_,kV_law,dc_law,pm_law,cd_law,ct_law,a_law,l_law,c_law,k_law⟩:=fs 26 "law" s_law rfl
 obtain ⟨_,_,_,_,_,_,_,_,_,_,a27,l27,c27,k27⟩:=fs 27 "_law_said" Ji rfl
 cases Tp.tab_cd tb a_law l_law
 have e:=hfa.symm.trans (PySem.W.mg_of X G a_law)
 cases e
 have S_D:SaidD K mg Ji _ _:=SaidD.of (Cq X G l27 c27 k27 a27 (fun _ _ _ _ _ _ _=>rfl))
 have B:Bl mg:=⟨PySem.W.mg_none_of X G (bs 0 "ValueError" rfl),PySem.W.mg_none_of X G (bs 1 "all" rfl),PySem.W.mg_none_of X G (bs 2 "bool" rfl),PySem.W.mg_none_of X G (bs 3 "divmod" rfl),PySem.W.mg_none_of X G (bs 4 "enumerate" rfl),PySem.W.mg_none_of X G (bs 5 "int" rfl),PySem.W.mg_none_of X G (bs 6 "isinstance" rfl),PySem.W.mg_none_of X G (bs 7 "len" rfl),PySem.W.mg_none_of X G (bs 8 "list" rfl),PySem.W.mg_none_of X G (bs 9 "max" rfl),PySem.W.mg_none_of X G (bs 10 "min" rfl),PySem.W.mg_none_of X G (bs 11 "range" rfl),PySem.W.mg_none_of X G (bs 12 "repr" rfl),PySem.W.mg_none_of X G (bs 13 "sum" rfl),PySem.W.mg_none_of X G (bs 14 "tuple" rfl),PySem.W.mg_none_of X G (bs 15 "zip" rfl)⟩
 obtain ⟨t_MOST_LINES,v_MOST_LINES⟩:=cs 0 "MOST_LINES" 8 rfl
 have M_MOST_LINES:=PySem.W.mg_of X G v_MOST_LINES
 refine ⟨PySem.W.fnOf "law" "law" (defArgs s_law) (defBody s_law) (defScope s_law) .none kV_law dc_law pm_law an_law (.ref c) ct_law,fun s v=>.of_eq rfl,fun base _ _ hbm=>?_⟩
 have C0:=Zh (P:=l.prog) (w:=w) (base:=base) B et (Cq X G l0 c0 k0 a0 fun _ _ _ _ _ _ _=>rfl)
 have C1:=Zi (P:=l.prog) (w:=w) (base:=base) B et M_MOST_LINES (Cq X G l1 c1 k1 a1 fun _ _ _ _ _ _ _=>rfl)
 have C2:=Zj (P:=l.prog) (w:=w) (base:=base) B et (F9 X G l2 c2 k2 a2 fun _ _ _ _ _ _ _ _=>rfl)
 have C3:=Zk (P:=l.prog) (w:=w) (base:=base) B et (M7 X G l3 c3 k3 a3 fun _ _ _ _ _ _ _ _ _=>rfl)
 have C4:=Zl (P:=l.prog) (w:=w) (base:=base) B et (F9 X G l4 c4 k4 a4 fun _ _ _ _ _ _ _ _=>rfl)
 have C5:=Zm (P:=l.prog) (w:=w) (base:=base) B et (F9 X G l5 c5 k5 a5 fun _ _ _ _ _ _ _ _=>rfl)
 have C6:=Zn (P:=l.prog) (w:=w) (base:=base) B et (F9 X G l6 c6 k6 a6 fun _ _ _ _ _ _ _ _=>rfl)
 have C7:=Zo (P:=l.prog) (w:=w) (base:=base) B et (Cq X G l7 c7 k7 a7 fun _ _ _ _ _ _ _=>rfl)
 have C8:=Zp (P:=l.prog) (w:=w) (base:=base) B et (Yi X G l8 c8 k8 a8 fun _ _ _ _ _ _=>rfl)
 have C9:=Zq (P:=l.prog) (w:=w) (base:=base) B et C0 (M7 X G l9 c9 k9 a9 fun _ _ _ _ _ _ _ _ _=>rfl)
 have C10:=Zr (P:=l.prog) (w:=w) (base:=base) B et C3 (F9 X G l10 c10 k10 a10 fun _ _ _ _ _ _ _ _=>rfl)
 have C11:=Zs (P:=l.prog) (w:=w) (base:=base) B et C4 C5 (F9 X G l11 c11 k11 a11 fun _ _ _ _ _ _ _ _=>rfl)
 have C12:=Zt (P:=l.prog) (w:=w) (base:=base) B et C6 (Cq X G l12 c12 k12 a12 fun _ _ _ _ _ _ _=>rfl)
 have C13:=Zu (P:=l.prog) (w:=w) (base:=base) B et C6 (F9 X G l13 c13 k13 a13 fun _ _ _ _ _ _ _ _=>rfl)
 have C14:=Zw (P:=l.prog) (w:=w) (base:=base) B et C8 (Cq X G l14 c14 k14 a14 fun _ _ _ _ _ _ _=>rfl)
 have C15:=Zx (P:=l.prog) (w:=w) (base:=base) B et C8 (Cq X G l15 c15 k15 a15 fun _ _ _ _ _ _ _=>rfl)
 have C16:=Zy (P:=l.prog) (w:=w) (base:=base) B et C9 (Cq X G l16 c16 k16 a16 fun _ _ _ _ _ _ _=>rfl)
 have C17:=Zz (P:=l.prog) (w:=w) (base:=base) B et C6 C12 (M7 X G l17 c17 k17 a17 fun _ _ _ _ _ _ _ _ _=>rfl)
 have C18:=ZA (P:=l.prog) (w:=w) (base:=base) B et C1 C16 (Cq X G l18 c18 k18 a18 fun _ _ _ _ _ _ _=>rfl)
 have C19:=ZC (P:=l.prog) (w:=w) (base:=base) B et C1 C18 (Cq X G l19 c19 k19 a19 fun _ _ _ _ _ _ _=>rfl)
 have C20:=ZD (P:=l.prog) (w:=w) (base:=base) B et C19 (Cq X G l20 c20 k20 a20 fun _ _ _ _ _ _ _=>rfl)
 have C21:=ZE (P:=l.prog) (w:=w) (base:=base) B et C20 (Cq X G l21 c21 k21 a21 fun _ _ _ _ _ _ _=>rfl)
 have C22:=ZF (P:=l.prog) (w:=w) (base:=base) B et C20 (Cq X G l22 c22 k22 a22 fun _ _ _ _ _ _ _=>rfl)
 have C23:=ZG (P:=l.prog) (w:=w) (base:=base) B et C22 C21 (Cq X G l23 c23 k23 a23 fun _ _ _ _ _ _ _=>rfl)
 have C24:=ZH (P:=l.prog) (w:=w) (base:=base) B et C23 C2 (Cq X G l24 c24 k24 a24 fun _ _ _ _ _ _ _=>rfl)
 have C25:=ZI (P:=l.prog) (w:=w) (base:=base) B et C20 C24 C10 (Cq X G l25 c25 k25 a25 fun _ _ _ _ _ _ _=>rfl)
 exact Xy l_law c_law sc_law (fun ds h e=>if_neg e) (fun ds h e=>if_pos e) (fun A outer s H E hr=>Zg B et C11 C6 C17 C15 C25 C13 C7 tb hd hbm S_D _ A outer s H E hr)
end LK
namespace LK
open PySem PySem.W
abbrev top_q:Program:=view PySem.Challenge.pw_lineswitch_k33_how_many_have_so_many [43]
abbrev top_loose:List Str:=(PySem.Challenge.pw_lineswitch_k33_how_many_have_so_many.main.scope.names.map (·.1)).filter fun x=>!(x=="law")
set_option maxHeartbeats 0 in
theorem top_left:LeftO PySem.Challenge.pw_lineswitch_k33_how_many_have_so_many top_q top_loose (fun _=>true) (Tp.obsK N8) (fun _=>Tp.valK N8) 1000000:=
 Tp.left_of (n:=45) (by kernel_rfl) (fun s=>by kernel_rfl) (fun w=>by kernel_rfl) (fun w os=>by
  rw [PySem.W.Fast.te10156331382660048174,PySem.W.Fast.te11892475500146522536,PySem.W.Fast.te14364793385576792824,PySem.W.Fast.te10110043849684766642,PySem.W.Fast.te6613529449190102663,PySem.W.Fast.te4187177175401517315,PySem.W.Fast.te5923862056798008813]
  kernel_rfl)
end LK
open PySem PySem.W PyProof.Rows
set_option maxRecDepth 100000 in
set_option maxHeartbeats 0 in
theorem PySem.Challenge.cw_lineswitch_k33_how_many_have_so_many_holds : PySem.Challenge.rw_lineswitch_k33_how_many_have_so_many.Holds := by
 w_on;o_law
 refine PySem.W.holds_open (q:=LK.top_q) (loose:=LK.top_loose) (d:=⟨"law",L2.defArgs LK.s_law,L2.defBody LK.s_law,L2.defScope LK.s_law,_⟩) (kwd:=[]) (Xt:=fun _=>true) (XP:=fun _ _=>True) (N:=1000000) LK.top_left Tp.says_of Tp.Says.keeps (fun _ _=>trivial) (fun _ _ _ _ _=>trivial) (by rfl) (by kernel_rfl) (by kernel_rfl) (fun s _=>recFacts_nil (by rfl)) (by rfl) (by assumption) (by kernel_rfl) ⟨rfl,rfl,rfl,rfl,rfl,by decide +kernel⟩ ?hw ?hc
 case hw=>w_witness2
 case hc=>exact LS.walk_hd (n:=63) (k:=13) (x:="_law_script") (F:=LK.F_law) rfl (by decide) rfl ⟨rfl,by decide,by decide,rfl⟩ (fun w K c T mg fa h HS X G hfa=>LK.all_mk HS X G hfa) LK.law_true
