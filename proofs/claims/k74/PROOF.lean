import PyProof.Rows.All
import Wide.All
import OpenK.AllK
import Wide.FinOn
import Lean
import PyProof.EqAt
import PyProof.EqKinds
import PyProof.TupleCall
import PyProof.ExcBaseAll.ValueError
import PyProof.ZipIter
import KE.KIsAll
import KE.KTryMore
import PyProof.ExcArgsOwn
import PyProof.ExcAttrAll.ValueError
import KE.KLam
import KE.KNestM
import PyProof.NsDelKeeps
import PyProof.Rows.CatchPack
import PyProof.ReprRoads
import PyProof.Rows.FStr
import PyProof.ListRange
import PyProof.CollectIter
import KE.KRevSl
import PyProof.ExcInit
import PyProof.ExcClass2
import PyProof.InstStore
import PyProof.InstStoreFacts
import PyProof.InstLoad
import OpenK.KMore
import PyProof.Rows.StrKeys3
import PySem.Challenge.RW_lineswitch_k74_nets_left_and_nets_of_boa
set_option Elab.async false
set_option linter.all false
set_option maxRecDepth 100000
abbrev AF:=@PySem.Heap.get?_push_of_some
abbrev A6:=@List.getElem?_eq_getElem
abbrev AJ:=@List.prefix_refl
abbrev A5:=@List.mem_cons_of_mem
abbrev A0:=@List.mem_cons_self
abbrev qa5:=@List.mem_cons
abbrev qa6:=@List.getElem?_eq_some_iff
abbrev AG:=@PySem.Heap.lt_size
abbrev Bb:=@Nat.lt_of_lt_of_le
abbrev Bc:=@List.size_toArray
abbrev AO:=@Nat.le_refl
abbrev BC:=@List.mem_append_right
abbrev By:=@PySem.Heap.get?_push_size
abbrev BH:=@Bool.false_ne_true
abbrev BW:=@List.getElem?_set_ne
abbrev qaF:=@List.mem_singleton
abbrev BR:=@Bool.and_eq_true
abbrev CZ:=@List.getElem?_set_self
abbrev Ca:=@List.getElem?_map
abbrev qaJ:=@List.all_eq_true
abbrev BI:=@Nat.ne_of_lt
abbrev qaL:=@List.mem_map
abbrev BS:=@Nat.le_trans
abbrev Cb:=@List.length_map
abbrev BU:=@Nat.zero_le
abbrev qaP:=@List.mem_append
abbrev E9:=@List.getD_eq_getElem?_getD
abbrev Dw:=@List.length_append
abbrev Dx:=@Bool.false_eq_true
abbrev Do:=@List.not_mem_nil
abbrev CJ:=@PySem.Heap.size_push
abbrev Cs:=@List.map_cons
abbrev Ci:=@Nat.ne_of_gt
abbrev FG:=@List.getElem?_append_left
abbrev qaY:=@Option.map_eq_some_iff
abbrev En:=@List.mem_of_mem_take
abbrev Fb:=@List.mem_of_mem_drop
abbrev Dp:=@Nat.lt_irrefl
abbrev Fc:=@List.length_cons
abbrev F0:=@List.filterMap_cons
abbrev F4:=@List.replicate_succ
abbrev Fd:=@List.append_nil
abbrev FH:=@List.lookup_cons
abbrev FI:=@Nat.le_add_right
abbrev GG:=@List.mem_append_left
abbrev GH:=@List.mem_of_getElem?
abbrev FJ:=@List.length_nil
abbrev GI:=@List.map_congr_left
abbrev IV:=@List.getElem?_append_right
abbrev F5:=@List.getElem_mem
abbrev qbE:=@Bool.eq_iff_iff
abbrev Fe:=@List.map_map
abbrev GJ:=@List.flatten_cons
abbrev qbH:=@List.mem_range
abbrev GK:=@List.cons_append
abbrev IW:=@PySem.Heap.get?_update_other
abbrev IX:=@PySem.Heap.get?_update_self
abbrev HQ:=@Nat.lt_succ_of_lt
abbrev Kd:=@List.drop_eq_getElem_cons
abbrev IY:=@Nat.pow_le_pow_right
abbrev qbO:=@Option.isSome_iff_exists
abbrev HU:=@Nat.le_of_not_lt
abbrev qbQ:=@List.nodup_cons
abbrev HV:=@List.nil_append
abbrev Ke:=@List.take_of_length_le
abbrev IZ:=@Int.toNat_natCast
abbrev Ja:=@List.all_eq_false
abbrev GL:=@Nat.le_of_lt
abbrev Kf:=@List.getElem_of_mem
abbrev Kg:=@List.getElem?_range
abbrev Jb:=@List.of_mem_zip
abbrev Jc:=@Option.map_some
abbrev Jd:=@List.map_append
abbrev HW:=@List.map_nil
abbrev Kh:=@List.contains_cons
abbrev My:=@List.eq_of_mem_replicate
abbrev Je:=@Bool.false_and
abbrev Mz:=@List.getElem?_replicate
abbrev MB:=@List.filter_cons_of_neg
abbrev MC:=@List.filter_cons_of_pos
abbrev Ki:=@List.reverse_cons
abbrev Kj:=@List.append_assoc
abbrev Kk:=@List.flatMap_cons
abbrev HX:=@Nat.le_succ
abbrev Kl:=@List.length_take
abbrev Km:=@Nat.lt_succ_self
abbrev qcE:=@List.mem_flatMap
abbrev MD:=@List.length_filter_le
abbrev MF:=@PySem.Heap.get?_none_of_le
abbrev MH:=@List.mem_of_mem_tail
abbrev Kn:=@List.range_succ
abbrev Ko:=@List.drop_zero
namespace L2
open PySem PySem.Spec PyProof.Rows
abbrev TU:=Sum Int Str
inductive V where
 |non |bl (b:Bool) |int (i:Int) |str (x:Str) |byt (b:Array UInt8) |flt (b:UInt64) |ref (a:Addr) |ty (n:String)
 deriving DecidableEq
def RelV:V→Value→Prop
 |.non,u=>u=Value.none
 |.bl b,u=>u=Value.bool b
 |.int i,u=>∃t,u=Value.int i t
 |.str x,u=>∃t,u=Value.str x t
 |.byt b,u=>∃t,u=Value.bytes b t
 |.flt b,u=>∃t,u=Value.float b t
 |.ref a,u=>u=Value.ref a
 |.ty n,u=>u=Value.type n
abbrev Vals:List V→List Value→Prop:=Paired RelV
theorem Vals.length {xs:List V} {us:List Value} (r:Vals xs us):xs.length=us.length:=Paired.length r
theorem Vals.get:∀{xs:List V} {us:List Value} {i:Nat} {x:V},Vals xs us→xs[i]?=some x→∃u,us[i]?=some u∧RelV x u
 |_,_,_,_,.nil,e=>by simp at e
 |_,_,0,_,.cons r _,e=>by simp at e;subst e;exact ⟨_,rfl,r⟩
 |_,_,i+1,x,.cons _ t,e=>by
  obtain ⟨u,h1,h2⟩:=Vals.get (i:=i) (x:=x) t (by simpa using e)
  exact ⟨u,by simpa using h1,h2⟩
theorem Vals.set {x:V} {u:Value} (r:RelV x u):∀{xs:List V} {us:List Value} (i:Nat),Vals xs us→Vals (xs.set i x) (us.set i u)
 |_,_,_,.nil=>.nil
 |_,_,0,.cons _ t=>.cons r t
 |_,_,i+1,.cons q t=>.cons q (Vals.set r i t)
theorem Vals.append:∀{xs ys:List V} {us ws:List Value},Vals xs us→Vals ys ws→Vals (xs++ys) (us++ws)
 |_,_,_,_,.nil,s=>s
 |_,_,_,_,.cons r t,s=>.cons r (Vals.append t s)
theorem Vals.take:∀{xs:List V} {us:List Value} (n:Nat),Vals xs us→Vals (xs.take n) (us.take n)
 |_,_,0,_=>.nil
 |_,_,_+1,.nil=>.nil
 |_,_,n+1,.cons r t=>.cons r (Vals.take n t)
theorem Vals.drop:∀{xs:List V} {us:List Value} (n:Nat),Vals xs us→Vals (xs.drop n) (us.drop n)
 |_,_,0,r=>r
 |_,_,_+1,.nil=>.nil
 |_,_,n+1,.cons _ t=>Vals.drop n t
def RelO:Option V→Option Value→Prop
 |some v,some u=>RelV v u
 |none,none=>True
 |_,_=>False
def kV:TU→V
 |.inl i=>.int i
 |.inr x=>.str x
inductive HO where
 |lst (xs:List V)
 |tup (xs:List V)
 |own (x:Addr)
 |xd (fs:List (Str×V))
 |frz (o:Obj) (u:HO)
 |tbl (ps:Array Value)
 |ext (φ:Heap→Prop)
 |mex (φ:Heap→Prop)
abbrev Hp:=Addr→Option HO
def Am (H:Hp) (a:Addr) (o:HO):Hp:=fun b=>if b=a then some o else H b
theorem Bt {H:Hp} {a:Addr} {o:HO}:Am H a o a=some o:=by unfold Am;rw [if_pos rfl]
theorem Ao {H:Hp} {a b:Addr} {o:HO} (h:b≠a):Am H a o b=H b:=by unfold Am;rw [if_neg h]
theorem MK {H:Hp} {a:Addr} {o u:HO}:Am (Am H a o) a u=Am H a u:=by
 funext b;unfold Am;split<;>rfl
theorem TV {H:Hp} {a b:Addr} {o u:HO} (h:H a=some o) (h':H b=some u) (d:o≠u):a≠b:=by
 intro e;subst e;rw [h] at h';exact d (Option.some.inj h')
theorem BJ {H:Hp} {a b:Addr} {o:HO} (h:H a=some o) (h':H b=none):a≠b:=by
 intro e;subst e;rw [h] at h';cases h'
section
variable (P:Program) (w:World)
inductive O9 (h:Heap) (a:Addr) (xs:List V):Prop where
 |mk (f1:xs.length≤sizeLine) (its:List Value) (n:Nat) (f2:Vals xs its) (f3:h.get? a=some {cls:=.type "list",data:=.seq its.toArray n}):O9 h a xs
def NoDict (h:Heap) (a:Addr):Prop:=∀o,h.get? a=some o→o.dict=none
inductive Pa (h:Heap) (a:Addr) (xs:List V):Prop where
 |mk (f1:xs.length≤sizeLine) (its:List Value) (f2:Vals xs its) (f3:IsTup h a its.toArray) (f4:NoDict h a):Pa h a xs
theorem NoDict.new {h:Heap} {o:Obj} (hd:o.dict=none:=by rfl) (hf:o.isFreed=false:=by rfl):NoDict (h.push o) h.objs.size:=fun u e=>by
 rw [By _ hf] at e
 cases e
 exact hd
def ObjOk (P:Program) (w:World) (H:Hp) (h:Heap) (a:Addr):HO→Prop
 |.lst xs=>O9 h a xs
 |.tup xs=>Pa h a xs
 |.own _=>∃o,h.get? a=some o
 |.xd fs=>∃mA,h.Ns1 a mA∧∀f,RelO (fs.lookup f) (mA f)
 |.frz o u=>h.get? a=some o∧ObjOk P w H h a u
 |.tbl ps=>h.get? a=some {cls:=.none,data:=.fields ps}
 |.ext φ=>φ h∧(∃o,h.get? a=some o)∧∀h1 h2:Heap,φ h1→(∀o,h1.get? a=some o→h2.get? a=some o)→φ h2
 |.mex φ=>φ h∧(∃o,h.get? a=some o)∧∀h1 h2:Heap,φ h1→(∀o,h1.get? a=some o→h2.get? a=some o)→φ h2
def HOk (H:Hp) (h:Heap):Prop:=∀a o,H a=some o→ObjOk P w H h a o
end
section
variable {P:Program} {w:World} {H H':Hp} {h h':Heap} {a:Addr} {o:HO}
theorem ObjOk.lt (x:ObjOk P w H h a o):a<h.objs.size:=by
 cases o with
 |lst xs=>obtain ⟨_,_,_,_,e⟩:=x;exact AG e
 |tup xs=>obtain ⟨_,_,_,p,_⟩:=x;exact p.lt
 |own y=>obtain ⟨_,e⟩:=x;exact AG e
 |xd fs=>obtain ⟨_,⟨_,_,_,e,_⟩,_⟩:=x;exact AG e
 |frz ob u=>obtain ⟨e,_⟩:=x;exact AG e
 |tbl ps=>exact AG (show h.get? a=some _ from x)
 |ext φ=>obtain ⟨_,⟨_,e⟩,_⟩:=x;exact AG e
 |mex φ=>obtain ⟨_,⟨_,e⟩,_⟩:=x;exact AG e
theorem ObjOk.stay (x:ObjOk P w H h a o) (k:∀b u,(b=a∨H b=some (.own a))→h.get? b=some u→h'.get? b=some u)
 (ho:∀b,H b=some (.own a)→H' b=some (.own a)) (ht:∀b xs,H b=some (.tup xs)→H' b=some (.tup xs)):ObjOk P w H' h' a o:=by
 induction o with
 |lst xs=>obtain ⟨z,its,n,r,e⟩:=x;exact ⟨z,its,n,r,k _ _ (.inl rfl) e⟩
 |tup xs=>obtain ⟨z,its,r,⟨ob,e,c⟩,nd⟩:=x;exact ⟨z,its,r,⟨ob,k _ _ (.inl rfl) e,c⟩,fun o e2=>by rw [k _ _ (.inl rfl) e] at e2;cases e2;exact nd _ e⟩
 |own y=>obtain ⟨ob,e⟩:=x;exact ⟨ob,k _ _ (.inl rfl) e⟩
 |xd fs=>obtain ⟨mA,⟨od,es,ep,e,c⟩,r⟩:=x;exact ⟨mA,⟨od,es,ep,k _ _ (.inl rfl) e,c⟩,r⟩
 |frz ob u ih=>obtain ⟨e,q⟩:=x;exact ⟨k _ _ (.inl rfl) e,ih q⟩
 |tbl ps=>
  have e:h.get? a=some {cls:=.none,data:=.fields ps}:=x
  show h'.get? a=some {cls:=.none,data:=.fields ps}
  exact k a _ (.inl rfl) e
 |ext φ=>obtain ⟨p,⟨o,e⟩,st⟩:=x;exact ⟨st _ _ p fun o q=>k _ _ (.inl rfl) q,⟨o,k _ _ (.inl rfl) e⟩,st⟩
 |mex φ=>obtain ⟨p,⟨o,e⟩,st⟩:=x;exact ⟨st _ _ p fun o q=>k _ _ (.inl rfl) q,⟨o,k _ _ (.inl rfl) e⟩,st⟩
theorem HOk.lt (x:HOk P w H h) (e:H a=some o):a<h.objs.size:=(x a o e).lt
theorem HOk.fresh (x:HOk P w H h) (e:h.objs.size≤a):H a=none:=by
 cases q:H a with
 |none=>rfl
 |some u=>exact absurd (Bb (x.lt q) e) (Dp _)
theorem HOk.kept (x:HOk P w H h) (k:∀b u,h.get? b=some u→h'.get? b=some u):HOk P w H h':=fun a o e=>
 (x a o e).stay (fun b u _ q=>k b u q) (fun _ q=>q) fun _ _ q=>q
theorem HOk.laid (x:HOk P w H h) (k:∀b u,h.get? b=some u→h'.get? b=some u) (hp:h.objs.size≤a) (new:ObjOk P w (Am H a o) h' a o):HOk P w (Am H a o) h':=fun b u e=>by
 have hn:=x.fresh hp
 by_cases hb:b=a
 ·subst hb;rw [Bt] at e;cases e;exact new
 ·rw [Ao hb] at e
  exact (x b u e).stay (fun c v _ q=>k c v q) (fun c q=>by rw [Ao (BJ q hn)];exact q) fun c xs q=>by rw [Ao (BJ q hn)];exact q
end
def Rd (H:Hp) (a:Addr) (u:HO):Prop:=H a=some u∨∃o,H a=some (.frz o u)
theorem Rd.ok {P:Program} {w:World} {H:Hp} {h:Heap} {a:Addr} {u:HO} (r:Rd H a u) (x:HOk P w H h):ObjOk P w H h a u:=by
 rcases r with r |⟨o,r⟩
 ·exact x a u r
 ·obtain ⟨_,q⟩:=x a _ r
  exact q
def Kq:Option HO→Prop
 |some (.lst _)=>True
 |some (.ext _)=>True
 |some (.mex _)=>True
 |_=>False
section
variable {P:Program} {w:World} {H:Hp} {h h':Heap} {x e:Addr} {o':HO}
theorem HOk.write (ok:HOk P w H h) (mu:Kq (H x)) (he:e=x∨H e=some (.own x)) (k:∀b u,b≠e→h.get? b=some u→h'.get? b=some u) (heo:∃u,h'.get? e=some u)
 (new:ObjOk P w (Am H x o') h' x o'):HOk P w (Am H x o') h':=fun b u q=>by
 have nown:∀c y,H c=some (.own y)→c≠x:=fun c y r z=>by subst z;rw [r] at mu;exact mu
 have ntup:∀c xs,H c=some (.tup xs)→c≠x:=fun c xs r z=>by subst z;rw [r] at mu;exact mu
 by_cases hb:b=x
 ·subst hb;rw [Bt] at q;cases q;exact new
 ·rw [Ao hb] at q
  by_cases hbe:b=e
  ·have q':H b=some (.own x):=by
    rcases he with z |z
    ·exact absurd (hbe.trans z) hb
    ·rw [hbe];exact z
   rw [q] at q';cases q'
   obtain ⟨v,hv⟩:=heo
   exact ⟨v,by rw [hbe];exact hv⟩
  ·refine (ok b u q).stay (fun c v hc r=>k c v ?_ r) (fun c r=>by rw [Ao (nown c b r)];exact r) fun c xs r=>by rw [Ao (ntup c xs r)];exact r
   rcases hc with rfl |hc
   ·exact hbe
   ·rintro rfl
    rcases he with z |z
    ·exact nown c b hc z
    ·rw [hc] at z;cases z;exact hb rfl
end
structure Un (fs ex:List Addr) (H H':Hp) (h h':Heap):Prop where
 keep:∀b o,h.get? b=some o→H b=none→b∉fs→b∉ex→h'.get? b=some o
 slot:∀b o,h.get? b=some o→H b=none→b∈fs→b∉ex→∃sl,h'.get? b=some {o with slots:=sl}
 free:∀b o,h.get? b=some o→H b=none→b∉ex→H' b=none
 there:∀b o,h.get? b=some o→b∉ex→∃o',h'.get? b=some o'
 tups:∀b xs,H b=some (.tup xs)→H' b=some (.tup xs)
 frzs:∀b o u,H b=some (.frz o u)→H' b=some (.frz o u)
 tbls:∀b ps,H b=some (.tbl ps)→∃more,H' b=some (.tbl (ps++more))
section
variable {fs fs' ex ex':List Addr} {H H1 H2:Hp} {h h1 h2 h':Heap} {a x e:Addr} {o:HO}
theorem Un.any (u:Un fs ex H H1 h h1) {b:Addr} {ob:Obj} (q:h.get? b=some ob) (n:H b=none) (hx:b∉ex):∃sl,h1.get? b=some {ob with slots:=sl}:=by
 by_cases hb:b∈fs
 ·exact u.slot b ob q n hb hx
 ·exact ⟨ob.slots,u.keep b ob q n hb hx⟩
theorem Un.kept (k:∀b u,h.get? b=some u→h'.get? b=some u):Un fs ex H H h h':=
 ⟨fun b ob q _ _ _=>k b ob q,fun b ob q _ _ _=>⟨ob.slots,k b ob q⟩,fun _ _ _ n _=>n,fun b ob q _=>⟨ob,k b ob q⟩,fun _ _ q=>q,fun _ _ _ q=>q,fun _ ps q=>⟨#[],by rw [q];simp⟩⟩
theorem Un.refl:Un fs ex H H h h:=Un.kept fun _ _ q=>q
theorem Un.laid (k:∀b u,h.get? b=some u→h'.get? b=some u) (hp:h.objs.size≤a) (hn:H a=none):Un fs ex H (Am H a o) h h' where
 keep:=fun b u q _ _ _=>k b u q
 slot:=fun b u q _ _ _=>⟨u.slots,k b u q⟩
 free:=fun b u q n _=>by rw [Ao (BI (Bb (AG q) hp))];exact n
 there:=fun b u q _=>⟨u,k b u q⟩
 tups:=fun b xs q=>by rw [Ao (BJ q hn)];exact q
 frzs:=fun b u xs q=>by rw [Ao (BJ q hn)];exact q
 tbls:=fun b ps q=>⟨#[],by rw [Ao (BJ q hn),q];simp⟩
theorem Un.write (mu:Kq (H x)) (he:e=x∨H e=some (.own x)) (k:∀b u,b≠e→h.get? b=some u→h'.get? b=some u) (heo:∃u,h'.get? e=some u):Un fs ex H (Am H x o) h h':=by
 have hx:∀b,H b=none→b≠x:=fun b n z=>by subst z;rw [n] at mu;exact mu
 have hb:∀b,H b=none→b≠e:=fun b n z=>by
  subst z
  rcases he with r |r
  ·exact hx b n r
  ·rw [n] at r;cases r
 have hm:∀b u,H b=some u→¬Kq (some u)→b≠x:=fun b u q nm z=>by subst z;rw [q] at mu;exact nm mu
 refine ⟨fun b u q n _ _=>k b u (hb b n) q,fun b u q n _ _=>⟨u.slots,k b u (hb b n) q⟩,fun b u q n _=>by rw [Ao (hx b n)];exact n,fun b u q _=>?_,
  fun b xs q=>by rw [Ao (hm b _ q fun z=>z)];exact q,fun b u xs q=>by rw [Ao (hm b _ q fun z=>z)];exact q,fun b ps q=>⟨#[],by rw [Ao (hm b _ q fun z=>z),q];simp⟩⟩
 by_cases hbe:b=e
 ·subst hbe;exact heo
 ·exact ⟨u,k b u hbe q⟩
end
def Kr (h:Heap) (H:Hp):List Addr:=(List.range h.objs.size).filter fun a=>(H a).isSome
def Ff (h:Heap) (H:Hp):Heap:=PySem.W.hideAll h (Kr h H)
theorem TX (h:Heap) (H:Hp):(Ff h H).objs.size=h.objs.size:=PySem.W.hideAll_size _ _
theorem TY {h:Heap} {H:Hp} {b:Addr} {o:Obj} (e:h.get? b=some o) (n:H b=none):(Ff h H).get? b=some o:=
 PySem.W.hideAll_get _ e fun hm=>by
  have q:(H b).isSome=true:=(List.mem_filter.mp hm).2
  rw [n] at q;simp at q
theorem TZ {h:Heap} {H:Hp} {b:Addr} {o:Obj} (e:(Ff h H).get? b=some o):h.get? b=some o∧H b=none:=by
 have e':h.get? b=some o:=PySem.W.of_hideAll (Kr h H) e
 refine ⟨e',?_⟩
 cases q:H b with
 |none=>rfl
 |some x=>
  have hm:b∈Kr h H:=List.mem_filter.mpr ⟨qbH.mpr (AG e'),by simp [q]⟩
  have z:(Ff h H).get? b=none:=PySem.W.hideAll_none (Kr h H) hm
  rw [z] at e;cases e
def T1 (g h:Heap) (L:Addr):List (Addr×Obj):=(List.range h.objs.size).filterMap fun a=>if a=L∨(g.get? a).isSome=true then none else (h.get? a).map fun o=>(a,o)
def rest (g h:Heap) (L d:Addr):List (Addr×Obj):=(T1 g h L).filter fun p=>decide (p.1≠d)
structure Mod (K:PySem.W.Frag) (mg:Str→Option Value) (base:Heap):Prop where
 kin:K.In base
 glob:base.Ns mainGlobals mg
 blt:∃mb,base.Ns builtinsNs mb∧∀x:Str,x≠"__name__"→mb x=bootBuiltins x
 nolimit:base.NoLimit
structure Cx where
 prog:Program
 w:World
 K:PySem.W.Frag
 mg:Str→Option Value
 base:Heap
 A:Around
 N:List Str
 s₀:Shared
 H₀:Hp
 env:Env
 outer:List Env
 stack:List Env
 ex:List Addr
 fn:Str→Bool
 calm:Bool
 pn:List (Addr×Obj)
 xe:Value→Shared→Prop
def frs (l:List Env):List Addr:=l.filterMap (·.frame)
abbrev Cx.fs (X:Cx):List Addr:=frs X.outer
def Eo (sc:Scope) (x:Str):Prop:=sc.names.lookup x=some .local∨sc.names.lookup x=some .cell∨sc.names.lookup x=some .free
def GM (sc:Scope) (x:Str):Prop:=sc.names.lookup x=some .local∨sc.names.lookup x=some .cell
def Pb (env:Env) (h:Heap) (m:Str→Option Value) (x:Str) (u:Value):Prop:=
 (env.kindOf x=some .local∧m x=some u)∨((env.kindOf x=some .cell∨env.kindOf x=some .free)∧∃c,env.cells.lookup x=some c∧h.IsCell c (some u))
structure Cx.Ok (X:Cx):Prop where
 mod:Mod X.K X.mg X.base
 kind:X.env.scope.kind=.function
 glob:X.env.globals=mainGlobals
 blt:X.env.builtins=builtinsNs
 above:X.s₀.heap.objs.size≤X.env.locals
 inj:∀x y c,X.env.cells.lookup x=some c→X.env.cells.lookup y=some c→x=y
 has:∀x,(X.env.kindOf x=some .cell∨X.env.kindOf x=some .free)→∃c,X.env.cells.lookup x=some c
 cab:∀x c,X.fn x=true→X.env.cells.lookup x=some c→X.s₀.heap.objs.size≤c
 hd:X.calm=true→X.A.handled=none
 frames:X.A.frames=some X.stack
 stk:X.stack=X.outer∨(X.stack=X.env::X.outer∧X.env.frame=some X.env.locals)
 exf:∀b∈X.ex,b≠X.env.locals∧∀x c,X.env.cells.lookup x=some c→c≠b
 bs:∀b o,X.base.get? b=some o→X.s₀.heap.get? b=some o∧X.H₀ b=none
 bsz:X.base.objs.size≤X.s₀.heap.objs.size
 noex:∀b o,X.base.get? b=some o→b∉X.ex
 exfs:∀b∈X.ex,b∉X.fs
 funs:X.s₀.heap.FunFrames X.base X.outer
 frf:∀b∈X.fs,X.H₀ b=none
structure Inv (X:Cx) (pins:List (Addr×Obj)) (σ:List (Option V)) (H:Hp) (s:Shared):Prop where
 ok:X.Ok
 os:s.os=X.s₀.os
 bare:AllBare s.gens
 base:Un X.fs X.ex X.H₀ H X.s₀.heap s.heap
 loc:∃m,s.heap.Ns X.env.locals m∧∀(i:Nat) (x:Str) (v:V),X.N[i]?=some x→σ[i]?=some (some v)→Eo X.env.scope x→∃u,RelV v u∧Pb X.env s.heap m x u
 cell:∀x c,X.env.cells.lookup x=some c→∃v,s.heap.IsCell c v
 free:H X.env.locals=none
 freeC:∀x c,X.env.cells.lookup x=some c→H c=none
 pin:∀p∈X.pn++pins,s.heap.get? p.1=some p.2∧H p.1=none∧p.1≠X.env.locals∧p.1∉X.fs∧∀v,p.2.data≠.cell v
 hok:HOk X.prog X.w H s.heap
 len:σ.length=X.N.length
section
variable {X:Cx} {pins:List (Addr×Obj)} {σ:List (Option V)} {H H':Hp} {s:Shared} {h':Heap}
theorem Cx.Ok.nofr (ok:X.Ok) {b:Addr} {o:Obj} (e:X.base.get? b=some o):b∉X.fs:=fun hb=>by
 have:=(ok.funs.mem hb).1
 rw [e] at this;cases this
theorem Inv.bs (I:Inv X pins σ H s):∀b o,X.base.get? b=some o→s.heap.get? b=some o∧H b=none:=fun b o e=>
 ⟨I.base.keep b o (I.ok.bs b o e).1 (I.ok.bs b o e).2 (I.ok.nofr e) (I.ok.noex b o e),I.base.free b o (I.ok.bs b o e).1 (I.ok.bs b o e).2 (I.ok.noex b o e)⟩
theorem Inv.bk (I:Inv X pins σ H s):∀b o,X.base.get? b=some o→s.heap.get? b=some o:=fun b o e=>(I.bs b o e).1
theorem Inv.mod (I:Inv X pins σ H s):Mod X.K X.mg X.base:=I.ok.mod
theorem Inv.kIn (I:Inv X pins σ H s):X.K.In s.heap:=I.ok.mod.kin.keeps I.bk
theorem Inv.nolimit (I:Inv X pins σ H s):s.heap.NoLimit:=I.ok.mod.nolimit.keeps I.bk
theorem Inv.lt (I:Inv X pins σ H s):X.env.locals<s.heap.objs.size:=let ⟨_,hn,_⟩:=I.loc;hn.lt
theorem Inv.sz (I:Inv X pins σ H s):X.s₀.heap.objs.size≤s.heap.objs.size:=BS I.ok.above (GL I.lt)
theorem Inv.nofs (I:Inv X pins σ H s) {a:Addr} (h:s.heap.objs.size≤a):a∉X.fs:=fun hb=>by
 obtain ⟨_,o,ho,_⟩:=I.ok.funs.mem hb
 exact absurd (Bb (AG ho) (BS I.sz h)) (Dp _)
theorem Inv.cne (I:Inv X pins σ H s):∀x c,X.env.cells.lookup x=some c→c≠X.env.locals:=fun x c e z=>by
 obtain ⟨v,o,ho,hd⟩:=I.cell x c e
 obtain ⟨m,⟨o',es,ep,ho',hd',_⟩,_⟩:=I.loc
 rw [z,ho'] at ho;cases ho;rw [hd'] at hd;cases hd
theorem Inv.funs (I:Inv X pins σ H s):s.heap.FunFrames X.base X.outer:=by
 have all:∀(l:List Env),(∀b∈frs l,b∈X.fs)→X.s₀.heap.FunFrames X.base l→s.heap.FunFrames X.base l:=by
  intro l
  induction l with
  |nil=>intro _ _;trivial
  |cons env r ih=>
   intro hs hl
   obtain ⟨hk,⟨L,o,hf,hn,ho,hd⟩,hr⟩:=hl
   have hL:L∈X.fs:=hs L (by unfold frs;rw [F0,hf];exact A0)
   obtain ⟨sl,e⟩:=I.base.slot L o ho (I.ok.frf L hL) hL fun z=>I.ok.exfs L z hL
   exact ⟨hk,⟨L,_,hf,hn,e,hd⟩,ih (fun b hb=>hs b (by unfold frs;rw [F0,hf];exact A5 _ hb)) hr⟩
 exact all X.outer (fun _ hb=>hb) I.ok.funs
theorem Inv.stack (I:Inv X pins σ H s):s.heap.FunFrames X.base X.stack:=by
 rcases I.ok.stk with e |⟨e,hf⟩
 ·rw [e];exact I.funs
 ·rw [e]
  obtain ⟨m,hn,_⟩:=I.loc
  refine .cons (by rw [I.ok.kind];decide) hf hn ?_ I.funs
  exact MF (BS I.ok.bsz I.ok.above)
theorem Inv.stkSub (I:Inv X pins σ H s):∀b∈frs X.stack,b∈X.env.locals::X.fs:=fun b hb=>by
 rcases I.ok.stk with e |⟨e,hf⟩
 ·rw [e] at hb;exact A5 _ hb
 ·rw [e] at hb
  unfold frs at hb
  rw [F0,hf] at hb
  exact hb
theorem Inv.stkFree (I:Inv X pins σ H s):∀b∈frs X.stack,H b=none:=fun b hb=>by
 rcases qa5.mp (I.stkSub b hb) with e |hb
 ·rw [e];exact I.free
 ·obtain ⟨_,o,ho,_⟩:=I.ok.funs.mem hb
  exact I.base.free b o ho (I.ok.frf b hb) fun z=>I.ok.exfs b z hb
theorem Inv.step {g':Array GenState} {t':Nat} {d':Drawn} {ch:List Addr} (I:Inv X pins σ H s)
 (hch:∀b∈ch,(b∈X.ex∨X.s₀.heap.objs.size≤b)∧b≠X.env.locals∧(∀x c,X.env.cells.lookup x=some c→c≠b)∧∀p∈X.pn++pins,p.1≠b)
 (keep:∀b o,b≠X.env.locals→b∉X.fs→b∉ch→s.heap.get? b=some o→H b=none→h'.get? b=some o)
 (slot:∀b o,b≠X.env.locals→b∈X.fs→b∉ch→s.heap.get? b=some o→H b=none→∃sl,h'.get? b=some {o with slots:=sl}) (free:∀b o,b∉ch→s.heap.get? b=some o→H b=none→H' b=none)
 (there:∀b o,b∉ch→s.heap.get? b=some o→∃o',h'.get? b=some o')
 (tups:∀b xs,H b=some (.tup xs)→H' b=some (.tup xs)) (frzs:∀b o u,H b=some (.frz o u)→H' b=some (.frz o u)) (tbls:∀b ps,H b=some (.tbl ps)→∃more,H' b=some (.tbl (ps++more)))
 (ns:∀m,s.heap.Ns X.env.locals m→h'.Ns X.env.locals m) (hok:HOk X.prog X.w H' h') (hg:AllBare g'):
 Inv X pins σ H' {s with heap:=h',gens:=g',drawn:=d',toks:=t'}:=by
 have neL:∀b o,X.s₀.heap.get? b=some o→b≠X.env.locals:=fun b o e=>BI (Bb (AG e) I.ok.above)
 have neC:∀b o,X.s₀.heap.get? b=some o→b∉X.ex→b∉ch:=fun b o e hx hb=>by
  rcases (hch b hb).1 with z |z
  ·exact hx z
  ·exact absurd (Bb (AG e) z) (Dp _)
 have cellK:∀x c,X.env.cells.lookup x=some c→∀v,s.heap.IsCell c v→h'.IsCell c v:=fun x c e v z1_=>by
  obtain ⟨o,ho,hd⟩:=z1_
  have nch:c∉ch:=fun z=>(hch c z).2.2.1 x c e rfl
  by_cases hc:c∈X.fs
  ·obtain ⟨sl,q⟩:=slot c o (I.cne x c e) hc nch ho (I.freeC x c e)
   exact ⟨_,q,hd⟩
  ·exact ⟨o,keep c o (I.cne x c e) hc nch ho (I.freeC x c e),hd⟩
 refine ⟨I.ok,I.os,hg,⟨fun b o e n hb hx=>?_,fun b o e n hb hx=>?_,fun b o e n hx=>?_,fun b o e hx=>?_,fun b xs e=>tups b xs (I.base.tups b xs e),fun b o xs e=>frzs b o xs (I.base.frzs b o xs e),fun b ps e=>?_⟩,?_,fun x c e=>?_,?_,fun x c e=>?_,fun p hp=>?_,hok,I.len⟩
 ·exact keep b o (neL b o e) hb (neC b o e hx) (I.base.keep b o e n hb hx) (I.base.free b o e n hx)
 ·obtain ⟨sl,e1⟩:=I.base.slot b o e n hb hx
  obtain ⟨sl',e2⟩:=slot b _ (neL b o e) hb (neC b o e hx) e1 (I.base.free b o e n hx)
  exact ⟨sl',e2⟩
 ·obtain ⟨o',e1⟩:=I.base.there b o e hx
  exact free b o' (neC b o e hx) e1 (I.base.free b o e n hx)
 ·obtain ⟨o',e1⟩:=I.base.there b o e hx
  exact there b o' (neC b o e hx) e1
 ·obtain ⟨m1,e1⟩:=I.base.tbls b ps e
  obtain ⟨m2,e2⟩:=tbls b _ e1
  exact ⟨m1++m2,by rw [e2,Array.append_assoc]⟩
 ·obtain ⟨m,hn,hl⟩:=I.loc
  refine ⟨m,ns m hn,fun i x v e1 e2 e3=>?_⟩
  obtain ⟨u,r,l⟩:=hl i x v e1 e2 e3
  refine ⟨u,r,?_⟩
  rcases l with l |⟨k,c,e,z⟩
  ·exact .inl l
  ·exact .inr ⟨k,c,e,cellK x c e _ z⟩
 ·obtain ⟨v,z⟩:=I.cell x c e
  exact ⟨v,cellK x c e v z⟩
 ·obtain ⟨m,⟨o,_,_,ho,_⟩,_⟩:=I.loc
  exact free _ o (fun z=>(hch _ z).2.1 rfl) ho I.free
 ·obtain ⟨v,o,ho,hd⟩:=I.cell x c e
  exact free c o (fun z=>(hch c z).2.2.1 x c e rfl) ho (I.freeC x c e)
 ·obtain ⟨e,n,ne,nf,d⟩:=I.pin p hp
  have nch:p.1∉ch:=fun z=>(hch p.1 z).2.2.2 p hp rfl
  exact ⟨keep p.1 p.2 ne nf nch e n,free p.1 p.2 nch e n,ne,nf,d⟩
theorem Inv.un {t':Nat} (I:Inv X pins σ H s) (u:Un X.fs [] H H' s.heap h') (hok:HOk X.prog X.w H' h'):Inv X pins σ H' {s with heap:=h',toks:=t'}:=by
 obtain ⟨m,⟨o,es,ep,ho,r⟩,_⟩:=id I.loc
 obtain ⟨sl,hL⟩:=u.any ho I.free (by simp)
 exact I.step (g':=s.gens) (d':=s.drawn) (ch:=[]) (fun _ z=>nomatch z) (fun b o _ hb _ e n=>u.keep b o e n hb (by simp)) (fun b o _ hb _ e n=>u.slot b o e n hb (by simp)) (fun b o _ e n=>u.free b o e n (by simp)) (fun b o _ e=>u.there b o e (by simp)) u.tups u.frzs u.tbls (fun m' hm=>by
  obtain ⟨o',es',ep',ho',r'⟩:=hm
  rw [ho] at ho';cases ho'
  exact ⟨_,es',ep',hL,r'⟩) hok I.bare
theorem Inv.call {g':Array GenState} {t':Nat} {d':Drawn} {ch:List Addr} (I:Inv X pins σ H s) (u:Un (frs X.stack) ch H H' s.heap h') (hok:HOk X.prog X.w H' h') (hg:AllBare g')
 (hch:∀b∈ch,(b∈X.ex∨X.s₀.heap.objs.size≤b)∧b≠X.env.locals∧(∀x c,X.env.cells.lookup x=some c→c≠b)∧∀p∈X.pn++pins,p.1≠b):
 Inv X pins σ H' {s with heap:=h',gens:=g',drawn:=d',toks:=t'}:=by
 obtain ⟨m,⟨o,es,ep,ho,r⟩,_⟩:=id I.loc
 obtain ⟨sl,hL⟩:=u.any ho I.free fun z=>(hch _ z).2.1 rfl
 exact I.step (ch:=ch) hch (fun b o hL hb hc e n=>u.keep b o e n (fun z=>(qa5.mp (I.stkSub b z)).elim hL hb) hc) (fun b o _ _ hc e n=>u.any e n hc) (fun b o hc e n=>u.free b o e n hc) (fun b o hc e=>u.there b o e hc) u.tups u.frzs u.tbls (fun m' hm=>by
  obtain ⟨o',es',ep',ho',r'⟩:=hm
  rw [ho] at ho';cases ho'
  exact ⟨_,es',ep',hL,r'⟩) hok hg
theorem Inv.turned {t':Nat} {it:Addr} (I:Inv X pins σ H s) (k:∀b o,b≠it→s.heap.get? b=some o→h'.get? b=some o) (hn:H it=none) (hL:it≠X.env.locals)
 (h1:it∈X.ex∨X.s₀.heap.objs.size≤it) (h2:∀x c,X.env.cells.lookup x=some c→c≠it) (h3:∀p∈X.pn++pins,p.1≠it):Inv X pins σ H {s with heap:=h',toks:=t'}:=by
 have nit:∀b u,H b=some u→b≠it:=fun b u e z=>by rw [z,hn] at e;cases e
 refine I.step (g':=s.gens) (d':=s.drawn) (ch:=[it]) (fun b hb=>?_) (fun b o _ _ hc e _=>k b o (fun z=>hc (by simp [z])) e) (fun b o _ _ hc e _=>⟨o.slots,k b o (fun z=>hc (by simp [z])) e⟩) (fun _ _ _ _ n=>n)
  (fun b o hc e=>⟨o,k b o (fun z=>hc (by simp [z])) e⟩) (fun _ _ e=>e) (fun _ _ _ e=>e) (fun b ps e=>⟨#[],by rw [e];simp⟩) (fun m hm=>?_) (fun b u e=>?_) I.bare
 ·have e:b=it:=by simpa using hb
  subst e
  exact ⟨h1,hL,h2,h3⟩
 ·obtain ⟨o,es,ep,ho,r⟩:=hm
  exact ⟨o,es,ep,k _ o (Ne.symm hL) ho,r⟩
 ·refine (I.hok b u e).stay (fun c v hc q=>k c v ?_ q) (fun _ q=>q) fun _ _ q=>q
  rcases hc with z |z
  ·rw [z];exact nit b u e
  ·exact nit c _ z
theorem Inv.tok (I:Inv X pins σ H s) (t:Nat):Inv X pins σ H {s with toks:=t}:=I.un (h':=s.heap) (t':=t) Un.refl I.hok
theorem Inv.kept {t':Nat} (I:Inv X pins σ H s) (k:∀b u,s.heap.get? b=some u→h'.get? b=some u):Inv X pins σ H {s with heap:=h',toks:=t'}:=I.un (Un.kept k) (I.hok.kept k)
theorem Inv.laid {a:Addr} {o:HO} {t':Nat} (I:Inv X pins σ H s) (k:∀b u,s.heap.get? b=some u→h'.get? b=some u) (hp:s.heap.objs.size≤a) (new:ObjOk X.prog X.w (Am H a o) h' a o):
 Inv X pins σ (Am H a o) {s with heap:=h',toks:=t'}:=I.un (Un.laid k hp (I.hok.fresh hp)) (I.hok.laid k hp new)
theorem Inv.write {x e:Addr} {o:HO} {t':Nat} (I:Inv X pins σ H s) (mu:Kq (H x)) (he:e=x∨H e=some (.own x)) (k:∀b u,b≠e→s.heap.get? b=some u→h'.get? b=some u) (heo:∃u,h'.get? e=some u)
 (new:ObjOk X.prog X.w (Am H x o) h' x o):Inv X pins σ (Am H x o) {s with heap:=h',toks:=t'}:=I.un (Un.write mu he k heo) (I.hok.write mu he k heo new)
theorem Inv.weak {σ':List (Option V)} (I:Inv X pins σ H s) (hl:σ'.length=σ.length) (w:∀(i:Nat) v,σ'[i]?=some (some v)→σ[i]?=some (some v)):Inv X pins σ' H s:=
 ⟨I.ok,I.os,I.bare,I.base,let ⟨m,hn,hl'⟩:=I.loc;⟨m,hn,fun i x v e1 e2 e3=>hl' i x v e1 (w i v e2) e3⟩,I.cell,I.free,I.freeC,I.pin,I.hok,hl.trans I.len⟩
theorem Inv.pins_of {pins':List (Addr×Obj)} (I:Inv X pins σ H s) (h:∀p∈pins',s.heap.get? p.1=some p.2∧H p.1=none∧p.1≠X.env.locals∧p.1∉X.fs∧∀v,p.2.data≠.cell v):Inv X pins' σ H s:=
 ⟨I.ok,I.os,I.bare,I.base,I.loc,I.cell,I.free,I.freeC,fun p hp=>(qaP.mp hp).elim (fun z=>I.pin p (GG _ z)) (h p),I.hok,I.len⟩
theorem ML {N:List Str} (hN:N.Nodup) {i j:Nat} {x:Str} (a:N[i]?=some x) (b:N[j]?=some x):i=j:=by
 obtain ⟨h1,e1⟩:=qa6.mp a
 obtain ⟨h2,e2⟩:=qa6.mp b
 exact (List.getElem_inj hN).mp (e1.trans e2.symm)
theorem Jf {M:Model} {A:Around} {E:Value→Shared→Prop} {i:Nat} {x:Str} {v:V} {u:Value} {Q:Unit→Shared→Prop} (I:Inv X pins σ H s) (hN:X.N.Nodup) (hi:X.N[i]?=some x) (hx:GM X.env.scope x) (r:RelV v u)
 (h:∀s',Inv X pins (σ.set i (some v)) H s'→(∃a,Heap.SameBut a s.heap s'.heap∧(a=X.env.locals∨X.env.cells.lookup x=some a))→Q () s') (hf:X.fn x=true∨X.env.scope.names.lookup x=some .local:=by first |exact .inl rfl |exact .inr rfl |assumption):wpAny M A (storeName X.env x u) Q E s:=by
 obtain ⟨m,hn,hl⟩:=id I.loc
 have hcls:(X.env.scope.kind==.class||(X.env.scope.kind==.module&&X.env.locals != X.env.globals))=false:=by rw [I.ok.kind];rfl
 have hiσ:i < σ.length:=by rw [I.len];exact (qa6.mp hi).1
 have cne:=I.cne
 have tracked:∀{a:Addr} {h':Heap},(∃o,s.heap.get? a=some o∧H a=none)→Heap.SameBut a s.heap h'→HOk X.prog X.w H h':=fun {a h'} ha hs b ob e=>by
  obtain ⟨_,_,hfree⟩:=ha
  refine (I.hok b ob e).stay (fun c w' hc q=>(hs.2 c ?_).trans q) (fun _ q=>q) fun _ _ q=>q
  rintro rfl
  rcases hc with rfl |hc
  ·rw [hfree] at e;cases e
  ·rw [hfree] at hc;cases hc
 rcases hx with hk |hk
 ·refine wpAny_storeName_local hk hn (fun h' hn' hs=>?_) hcls
  obtain ⟨oL,_,_,hoL,_⟩:=id hn
  refine h _ ⟨I.ok,I.os,I.bare,⟨fun b o e n hb hx=>?_,fun b o e n hb hx=>?_,I.base.free,fun b o e hx=>?_,I.base.tups,I.base.frzs,I.base.tbls⟩,⟨_,hn',fun j y v' e1 e2 e3=>?_⟩,fun y c e=>?_,I.free,I.freeC,fun p hp=>?_,tracked ⟨oL,hoL,I.free⟩ hs,by simpa using I.len⟩ ⟨_,hs,.inl rfl⟩
  ·exact (hs.2 b (BI (Bb (AG e) I.ok.above))).trans (I.base.keep b o e n hb hx)
  ·obtain ⟨sl,e1⟩:=I.base.slot b o e n hb hx
   exact ⟨sl,(hs.2 b (BI (Bb (AG e) I.ok.above))).trans e1⟩
  ·obtain ⟨o',e1⟩:=I.base.there b o e hx
   exact ⟨o',(hs.2 b (BI (Bb (AG e) I.ok.above))).trans e1⟩
  ·by_cases hj:j=i
   ·subst hj
    rw [hi] at e1;cases e1
    rw [CZ hiσ] at e2
    cases e2
    exact ⟨u,r,.inl ⟨hk,by simp⟩⟩
   ·rw [BW (Ne.symm hj)] at e2
    obtain ⟨u',r',q⟩:=hl j y v' e1 e2 e3
    refine ⟨u',r',?_⟩
    rcases q with ⟨k,e⟩ |⟨k,c,e,z⟩
    ·refine .inl ⟨k,?_⟩
     have:y≠x:=fun e=>hj (ML hN e1 (e ▸ hi))
     simp [this,e]
    ·exact .inr ⟨k,c,e,z.sameBut hs (cne y c e)⟩
  ·obtain ⟨w',z⟩:=I.cell y c e
   exact ⟨w',z.sameBut hs (cne y c e)⟩
  ·obtain ⟨e,n,ne,nf,d⟩:=I.pin p hp
   exact ⟨(hs.2 p.1 ne).trans e,n,ne,nf,d⟩
 ·have hfn:X.fn x=true:=by
   rcases hf with z |z
   ·exact z
   ·rw [z] at hk;cases hk
  obtain ⟨c,hc⟩:=I.ok.has x (.inl hk)
  obtain ⟨w',z⟩:=I.cell x c hc
  refine wpAny_storeName_cell I.ok.kind hk hc z (fun h' hc' hs=>?_)
  obtain ⟨oc,hoc,hocd⟩:=id z
  refine h {s with heap:=h'} ⟨I.ok,I.os,I.bare,⟨fun b o e n hb hx=>?_,fun b o e n hb hx=>?_,I.base.free,fun b o e hx=>?_,I.base.tups,I.base.frzs,I.base.tbls⟩,⟨m,hn.sameBut hs (Ne.symm (cne x c hc)),fun j y v' e1 e2 e3=>?_⟩,fun y c' e=>?_,I.free,I.freeC,fun p hp=>?_,tracked ⟨oc,hoc,I.freeC x c hc⟩ hs,by simpa using I.len⟩ ⟨c,hs,.inr hc⟩
  ·exact (hs.2 b (BI (Bb (AG e) (I.ok.cab x c hfn hc)))).trans (I.base.keep b o e n hb hx)
  ·obtain ⟨sl,e1⟩:=I.base.slot b o e n hb hx
   exact ⟨sl,(hs.2 b (BI (Bb (AG e) (I.ok.cab x c hfn hc)))).trans e1⟩
  ·obtain ⟨o',e1⟩:=I.base.there b o e hx
   exact ⟨o',(hs.2 b (BI (Bb (AG e) (I.ok.cab x c hfn hc)))).trans e1⟩
  ·by_cases hj:j=i
   ·subst hj
    rw [hi] at e1;cases e1
    rw [CZ hiσ] at e2
    cases e2
    exact ⟨u,r,.inr ⟨.inl hk,c,hc,hc'⟩⟩
   ·rw [BW (Ne.symm hj)] at e2
    obtain ⟨u',r',q⟩:=hl j y v' e1 e2 e3
    refine ⟨u',r',?_⟩
    rcases q with q |⟨k,c',e,z'⟩
    ·exact .inl q
    ·refine .inr ⟨k,c',e,z'.sameBut hs ?_⟩
     rintro rfl
     exact hj (ML hN e1 (I.ok.inj _ _ _ e hc ▸ hi))
  ·by_cases hcc:c'=c
   ·subst hcc;exact ⟨_,hc'⟩
   ·obtain ⟨w2,z2⟩:=I.cell y c' e
    exact ⟨w2,z2.sameBut hs hcc⟩
  ·obtain ⟨e,n,ne,nf,d⟩:=I.pin p hp
   refine ⟨(hs.2 p.1 ?_).trans e,n,ne,nf,d⟩
   intro q
   rw [q,hoc] at e
   have q':oc=p.2:=Option.some.inj e
   exact d w' (by rw [←q'];exact hocd)
theorem Ks {M:Model} {A:Around} {E:Value→Shared→Prop} {i:Nat} {x:Str} {v:V} {u:Value} {Q:Unit→Shared→Prop} (I:Inv X pins σ H s) (hN:X.N.Nodup) (hi:X.N[i]?=some x) (hx:GM X.env.scope x) (r:RelV v u)
 (h:∀s',Inv X pins (σ.set i (some v)) H s'→Q () s') (hf:X.fn x=true∨X.env.scope.names.lookup x=some .local:=by first |exact .inl rfl |exact .inr rfl |assumption):wpAny M A (storeName X.env x u) Q E s:=
 Jf I hN hi hx r (fun s' I' _=>h s' I') hf
theorem Inv.call' {s':Shared} {ch:List Addr} (I:Inv X pins σ H s) (ho:s'.os=s.os) (u:Un (frs X.stack) ch H H' s.heap s'.heap) (hok:HOk X.prog X.w H' s'.heap) (hg:AllBare s'.gens)
 (hch:∀b∈ch,(b∈X.ex∨X.s₀.heap.objs.size≤b)∧b≠X.env.locals∧(∀x c,X.env.cells.lookup x=some c→c≠b)∧∀p∈X.pn++pins,p.1≠b):Inv X pins σ H' s':=by
 obtain ⟨h',g',d',t',o'⟩:=s'
 have e:o'=s.os:=ho
 subst e
 exact I.call (g':=g') (t':=t') (d':=d') u hok hg hch
end
abbrev XK:=Value→Option Addr→Hp→Prop
abbrev St:=List (Option V)
abbrev VK:=V→Hp→Prop
abbrev TE:=St→Hp→VK→Prop
abbrev TT:=St→Hp→(Bool→Hp→Prop)→Prop
abbrev TA:=St→Hp→(List V→Hp→Prop)→Prop
structure D9 where
 nx:St→Hp→Prop
 rt:VK
 bk:St→Hp→Prop:=fun _ _=>False
 ct:St→Hp→Prop:=fun _ _=>False
abbrev TS:=D9→St→Hp→Prop
inductive EP (X:Cx) (pins:List (Addr×Obj)) (σ:St) (Q:VK) (u:Value) (s':Shared):Prop where
 |mk (v:V) (H':Hp) (i:Inv X pins σ H' s') (r:RelV v u) (q:Q v H'):EP X pins σ Q u s'
inductive TP (X:Cx) (pins:List (Addr×Obj)) (σ:St) (Q:Bool→Hp→Prop) (b:Bool) (s':Shared):Prop where
 |mk (H':Hp) (i:Inv X pins σ H' s') (q:Q b H'):TP X pins σ Q b s'
inductive AP (X:Cx) (pins:List (Addr×Obj)) (σ:St) (Q:List V→Hp→Prop) (us:List Value) (s':Shared):Prop where
 |mk (vs:List V) (H':Hp) (i:Inv X pins σ H' s') (r:Vals vs us) (q:Q vs H'):AP X pins σ Q us s'
inductive SN (X:Cx) (pins:List (Addr×Obj)) (q:St→Hp→Prop) (s':Shared):Prop where
 |mk (σ':St) (H':Hp) (i:Inv X pins σ' H' s') (p:q σ' H'):SN X pins q s'
inductive SR (X:Cx) (pins:List (Addr×Obj)) (q:V→Hp→Prop) (u:Value) (s':Shared):Prop where
 |mk (v:V) (σ':St) (H':Hp) (i:Inv X pins σ' H' s') (r:RelV v u) (p:q v H'):SR X pins q u s'
def SP (X:Cx) (pins:List (Addr×Obj)) (D:D9) (f:Flow) (s':Shared):Prop:=
 match f with
 |.next=>SN X pins D.nx s'
 |.brk=>SN X pins D.bk s'
 |.cont=>SN X pins D.ct s'
 |.ret u=>SR X pins D.rt u s'
def PE (X:Cx) (e:Expr) (t:TE):Prop:=
 ∀(pins:List (Addr×Obj)) (s:Shared) (σ:St) (H:Hp) (Q:VK),Inv X pins σ H s→t σ H Q→wpAny (model X.prog X.w) X.A (eval e X.env) (EP X pins σ Q) X.xe s
def PT (X:Cx) (e:Expr) (t:TT):Prop:=
 ∀(pins:List (Addr×Obj)) (s:Shared) (σ:St) (H:Hp) (Q:Bool→Hp→Prop),Inv X pins σ H s→t σ H Q→wpAny (model X.prog X.w) X.A (isTrue e X.env (eval e X.env)) (TP X pins σ Q) X.xe s
def PW (X:Cx) (e:Expr) (t:TT):Prop:=
 ∀(Fx:Sem Value) (pins:List (Addr×Obj)) (s:Shared) (σ:St) (H:Hp) (Q:Bool→Hp→Prop),Inv X pins σ H s→t σ H Q→wpAny (model X.prog X.w) X.A (isTrue e X.env Fx) (TP X pins σ Q) X.xe s
theorem PW.pt {X:Cx} {e:Expr} {t:TT} (h:PW X e t):PT X e t:=h _
def PA (X:Cx) (es:List Expr) (t:TA):Prop:=
 ∀(pos:Pos) (pins:List (Addr×Obj)) (s:Shared) (σ:St) (H:Hp) (Q:List V→Hp→Prop),Inv X pins σ H s→t σ H Q→wpAny (model X.prog X.w) X.A (spliced (backTo pos (starEach es X.env))) (AP X pins σ Q) X.xe s
def PS (X:Cx) (st:Stmt) (t:TS):Prop:=
 ∀(pins:List (Addr×Obj)) (s:Shared) (σ:St) (H:Hp) (D:D9),Inv X pins σ H s→t D σ H→wpAny (model X.prog X.w) X.A (exec st X.env) (SP X pins D) X.xe s
def Ep (X:Cx) (st:List Stmt) (t:TS):Prop:=
 ∀(pins:List (Addr×Obj)) (s:Shared) (σ:St) (H:Hp) (D:D9),Inv X pins σ H s→t D σ H→wpAny (model X.prog X.w) X.A (execs st X.env) (SP X pins D) X.xe s
theorem Az {α:Type} {t:Sem α} {Q Q':α→Shared→Prop} {M:Model} {A:Around} {E:Value→Shared→Prop} {s:Shared} (h:wpAny M A t Q E s) (hQ:∀a s,Q a s→Q' a s):wpAny M A t Q' E s:=wpAny_mono h hQ fun _ _ x=>x
section
variable {X:Cx}
def MM (i:Nat):TE:=fun σ H Q=>∃v,σ[i]?=some (some v)∧Q v H
def tC (v:V):TE:=fun _ H Q=>Q v H
theorem GN {i:Nat} {x:Str} {pos:Pos} (hN:X.N[i]?=some x) (hv:Eo X.env.scope x) (hd:(x==("__debug__":Str))=false:=by decide) (hcd:(x==("__classdict__":Str))=false:=by decide):PE X (.Name x pos) (MM i):=by
 intro pins s σ H Q I h
 obtain ⟨v,e,h⟩:=h
 obtain ⟨m,hn,hl⟩:=I.loc
 obtain ⟨u,r,l⟩:=hl i x v hN e hv
 have fin:EP X pins σ Q u s:=⟨v,H,I,r,h⟩
 rcases l with ⟨hk,hm⟩ |⟨hk,c,hc,hcell⟩
 ·exact wpAny_Name (wpAny_loadName_local I.ok.kind hk hn hm fin) hd
 ·rcases hk with hk |hk
  ·exact wpAny_Name (wpAny_loadName_cell I.ok.kind hk hc hcell fin) hd
  ·exact wpAny_Name (wpAny_loadName_free I.ok.kind hk hc hcell fin hcd) hd
theorem Pc {i j pos}:PE X (.Constant (.int i) j pos) (tC (.int i)):=fun _ _ _ H _ I h=>wpAny_Constant_int ⟨.int i,H,I.tok _,⟨_,rfl⟩,h⟩
theorem T3 {b j pos}:PE X (.Constant (.bool b) j pos) (tC (.bl b)):=fun _ _ _ H _ I h=>Constant_bool ⟨.bl b,H,I,rfl,h⟩
theorem T4 {j pos}:PE X (.Constant .none j pos) (tC .non):=fun _ _ _ H _ I h=>Constant_none ⟨.non,H,I,rfl,h⟩
theorem T6 {x j pos}:PE X (.Constant (.str x) j pos) (tC (.str x)):=fun _ _ _ H _ I h=>Calls.Constant_str ⟨.str x,H,I.tok _,⟨_,rfl⟩,h⟩
def Gl (X:Cx) (x:Str):Prop:=X.env.kindOf x=some .globalImplicit
theorem F6 {E:Value→Shared→Prop} {pins:List (Addr×Obj)} {s:Shared} {σ:St} {H:Hp} {x:Str} {u:Value} {pos:Pos} {Q:Value→Shared→Prop} (I:Inv X pins σ H s) (hg:Gl X x) (hm:X.mg x=some u) (h:Q u s)
 (hd:(x==("__debug__":Str))=false:=by decide):wpAny (model X.prog X.w) X.A (eval (.Name x pos) X.env) Q E s:=
 Calls.Name_function_global I.ok.kind hg (Calls.loadGlobal_global (by rw [I.ok.glob];exact I.mod.glob.keeps I.bk) hm h) hd
theorem GO {E:Value→Shared→Prop} {pins:List (Addr×Obj)} {s:Shared} {σ:St} {H:Hp} {x:Str} {u:Value} {pos:Pos} {Q:Value→Shared→Prop} (I:Inv X pins σ H s) (hg:Gl X x) (hm:X.mg x=none) (hv:bootBuiltins x=some u) (h:Q u s)
 (hn:x≠"__name__":=by decide) (hd:(x==("__debug__":Str))=false:=by decide):wpAny (model X.prog X.w) X.A (eval (.Name x pos) X.env) Q E s:=by
 obtain ⟨mb,h1,h2⟩:=I.mod.blt
 exact Calls.Name_function_global I.ok.kind hg (Calls.loadGlobal_builtin (by rw [I.ok.glob];exact I.mod.glob.keeps I.bk) hm (by rw [I.ok.blt];exact h1.keeps I.bk) ((h2 x hn).trans hv) h) hd
theorem T7 {x:Str} {v:V} {u:Value} {pos:Pos} (hg:Gl X x) (hm:X.mg x=some u) (r:RelV v u) (hd:(x==("__debug__":Str))=false:=by decide):PE X (.Name x pos) (tC v):=
 fun _ _ _ H _ I h=>F6 I hg hm ⟨v,H,I,r,h⟩ hd
theorem T8 {x:Str} {v:V} {u:Value} {pos:Pos} (hg:Gl X x) (hm:X.mg x=none) (hv:bootBuiltins x=some u) (r:RelV v u) (hn:x≠"__name__":=by decide) (hd:(x==("__debug__":Str))=false:=by decide):PE X (.Name x pos) (tC v):=
 fun _ _ _ H _ I h=>GO I hg hm hv ⟨v,H,I,r,h⟩ hn hd
variable {a b:Expr} {ta tb:TE} {pos:Pos}
variable {tA tB':TT} {rest:List Expr}
def T9 (t u:TT):TT:=fun σ H Q=>t σ H fun c H1=>if c=true then u σ H1 Q else Q false H1
def Ua (t u:TT):TT:=fun σ H Q=>t σ H fun c H1=>if c=true then Q true H1 else u σ H1 Q
def Ub (t:TT):TT:=fun σ H Q=>t σ H fun c H1=>Q (!c) H1
theorem Uc (ha:PT X a tA):PW X (.BoolOp .And [a] pos) tA:=by
 intro wh pins s σ H Q I h
 refine isTrue_and (Az (ha pins s σ H Q I h) fun c s1 e=>?_)
 cases c with
 |true=>exact isTrue_and_nil e
 |false=>exact e
theorem Ud (ha:PT X a tA):PW X (.BoolOp .Or [a] pos) tA:=by
 intro wh pins s σ H Q I h
 refine isTrue_or (Az (ha pins s σ H Q I h) fun c s1 e=>?_)
 cases c with
 |false=>exact isTrue_or_nil e
 |true=>exact e
theorem Ue (ha:PT X a tA) (hb:PW X (.BoolOp .And (b::rest) pos) tB'):PW X (.BoolOp .And (a::b::rest) pos) (T9 tA tB'):=by
 intro wh pins s σ H Q I h
 refine isTrue_and (Az (ha pins s σ H _ I h) fun c s1 z8_=>?_)
 obtain ⟨H1,I1,q1⟩:=z8_
 cases c with
 |true=>exact hb wh pins s1 σ H1 Q I1 q1
 |false=>exact ⟨H1,I1,q1⟩
theorem Ug (ha:PT X a tA) (hb:PW X (.BoolOp .Or (b::rest) pos) tB'):PW X (.BoolOp .Or (a::b::rest) pos) (Ua tA tB'):=by
 intro wh pins s σ H Q I h
 refine isTrue_or (Az (ha pins s σ H _ I h) fun c s1 z9_=>?_)
 obtain ⟨H1,I1,q1⟩:=z9_
 cases c with
 |true=>exact ⟨H1,I1,q1⟩
 |false=>exact hb wh pins s1 σ H1 Q I1 q1
theorem Uh (ha:PT X a tA):PT X (.UnaryOp .Not a pos) (Ub tA):=by
 intro pins s σ H Q I h
 exact isTrue_not (Az (ha pins s σ H (fun c H1=>Q (!c) H1) I h) fun c s1 z=>by cases z with |mk H1 I1 q=>exact ⟨H1,I1,q⟩)
def Ui (ta tb:TE):TE:=fun σ H Q=>ta σ H fun x H1=>∃c,x=.bl c∧if c=true then tb σ H1 Q else Q (.bl false) H1
def Zb4 (ta tb:TE):TE:=fun σ H Q=>ta σ H fun x H1=>∃c,x=.bl c∧if c=true then Q (.bl true) H1 else tb σ H1 Q
def Uj (ta:TE):TE:=fun σ H Q=>ta σ H fun x H1=>∃c,x=.bl c∧Q (.bl (!c)) H1
theorem Uk {op} {t:TE} (h:PE X a t):PE X (.BoolOp op [a] pos) t:=fun pins s σ H Q I hw=>BoolOp_one (h pins s σ H Q I hw)
theorem Ul (ha:PE X a ta) (hb:PE X (.BoolOp .And (b::rest) pos) tb):PE X (.BoolOp .And (a::b::rest) pos) (Ui ta tb):=by
 intro pins s σ H Q I h
 refine BoolOp_and (Az (ha pins s σ H _ I h) fun v s1 z10_=>?_)
 obtain ⟨x,H1,I1,r1,q1⟩:=z10_
 obtain ⟨c,rfl,q1⟩:=q1
 cases r1
 refine wpAny_truthy_bool ?_
 cases c with
 |true=>exact hb pins s1 σ H1 Q I1 q1
 |false=>exact ⟨.bl false,H1,I1,rfl,q1⟩
theorem Um (ha:PE X a ta):PE X (.UnaryOp .Not a pos) (Uj ta):=by
 intro pins s σ H Q I h
 refine UnaryOp_ (Az (ha pins s σ H _ I h) fun v s1 z12_=>?_)
 obtain ⟨x,H1,I1,r1,q1⟩:=z12_
 obtain ⟨c,rfl,q1⟩:=q1
 cases r1
 exact not_of (wpAny_truthy_bool ⟨.bl (!c),H1,I1,rfl,q1⟩)
def tIf (t:TT) (ta tb:TE):TE:=fun σ H Q=>t σ H fun c H1=>if c=true then ta σ H1 Q else tb σ H1 Q
end
def SqL (K:PySem.W.Frag) (H:Hp) (a:Addr) (xs:List V):Prop:=
 Rd H a (.lst xs)∨
  ∃(o:Obj) (its:Array Value) (n:Nat),K.lookup a=some o∧o.cls=.type "list"∧o.dict=none∧o.data=.seq its n∧its.size≤sizeLine∧Vals xs its.toList
def SqT (K:PySem.W.Frag) (H:Hp) (a:Addr) (xs:List V):Prop:=
 Rd H a (.tup xs)∨
  ∃(o:Obj) (its:Array Value) (n:Nat),K.lookup a=some o∧o.cls=.type "tuple"∧o.data=.seq its n∧its.size≤sizeLine∧Vals xs its.toList
def Uo:Value→Option V
 |.none=>some .non
 |.bool b=>some (.bl b)
 |.int i _=>some (.int i)
 |.str x _=>some (.str x)
 |.bytes b _=>some (.byt b)
 |.float b _=>some (.flt b)
 |.ref a=>some (.ref a)
 |.type n=>some (.ty n)
 |_=>none
theorem RelV.abs {x:V} {u:Value} (r:RelV x u):Uo u=some x:=by
 cases x with
 |non=>cases r;rfl
 |bl _=>cases r;rfl
 |int _=>obtain ⟨t,rfl⟩:=r;rfl
 |str _=>obtain ⟨t,rfl⟩:=r;rfl
 |byt _=>obtain ⟨t,rfl⟩:=r;rfl
 |flt _=>obtain ⟨t,rfl⟩:=r;rfl
 |ref _=>cases r;rfl
 |ty _=>cases r;rfl
theorem RelV.inj {x y:V} {u:Value} (r:RelV x u) (q:RelV y u):x=y:=Option.some.inj (r.abs.symm.trans q.abs)
theorem Vals.inj {xs ys:List V} {us:List Value} (h:Vals xs us) (g:Vals ys us):xs=ys:=by
 induction h generalizing ys with
 |nil=>cases g;rfl
 |cons r t ih=>cases g with |cons r' t'=>rw [r.inj r',ih t']
section
variable {X:Cx} {pins:List (Addr×Obj)} {σ:St} {H:Hp} {s:Shared} {a:Addr} {xs ys:List V}
theorem SqL.of {K:PySem.W.Frag} (h:H a=some (.lst xs)):SqL K H a xs:=.inl (.inl h)
theorem SqT.of {K:PySem.W.Frag} (h:H a=some (.tup xs)):SqT K H a xs:=.inl (.inl h)
theorem Inv.list (I:Inv X pins σ H s) (h:SqL X.K H a xs):∃its:List Value,Vals xs its∧PlainL s.heap a its.toArray∧xs.length≤sizeLine:=by
 rcases h with h |⟨o,its,n,hk,hc,hd,hs,hz,r⟩
 ·obtain ⟨z,its,n,r,e⟩:=h.ok I.hok
  exact ⟨its,r,⟨_,n,e,rfl,rfl,rfl⟩,z⟩
 ·refine ⟨its.toList,r,⟨o,n,I.kIn a o hk,hc,hd,by simpa using hs⟩,?_⟩
  have e:=r.length
  simp only [Array.length_toList] at e
  omega
theorem Inv.tuple (I:Inv X pins σ H s) (h:SqT X.K H a xs):∃its:List Value,Vals xs its∧IsTup s.heap a its.toArray∧xs.length≤sizeLine:=by
 rcases h with h |⟨o,its,n,hk,hc,hs,hz,r⟩
 ·obtain ⟨z,its,r,p,_⟩:=h.ok I.hok
  exact ⟨its,r,p,z⟩
 ·refine ⟨its.toList,r,⟨o,I.kIn a o hk,hc,n,by simpa using hs⟩,?_⟩
  have e:=r.length
  simp only [Array.length_toList] at e
  omega
theorem Inv.list_inj (I:Inv X pins σ H s) (h:SqL X.K H a xs) (h':SqL X.K H a ys):xs=ys:=by
 obtain ⟨its,r,⟨o,n,e,_,_,d⟩,_⟩:=I.list h
 obtain ⟨its',r',⟨o',n',e',_,_,d'⟩,_⟩:=I.list h'
 rw [e] at e';cases e'
 rw [d] at d'
 injection d' with d1 _
 have:its=its':=by simpa using congrArg Array.toList d1
 subst this
 exact r.inj r'
theorem Inv.tuple_inj (I:Inv X pins σ H s) (h:SqT X.K H a xs) (h':SqT X.K H a ys):xs=ys:=by
 obtain ⟨its,r,⟨o,e,_,n,d⟩,_⟩:=I.tuple h
 obtain ⟨its',r',⟨o',e',_,n',d'⟩,_⟩:=I.tuple h'
 rw [e] at e';cases e'
 rw [d] at d'
 injection d' with d1 _
 have:its=its':=by simpa using congrArg Array.toList d1
 subst this
 exact r.inj r'
end
section
variable {X:Cx} {pins:List (Addr×Obj)} {σ:St} {H:Hp} {s:Shared} {E:Value→Shared→Prop}
end
section
variable {X:Cx} {st:Stmt} {rest:List Stmt} {t u:TS} {e:Expr} {te:TE} {pos:Pos}
def Up:TS:=fun D σ H=>D.nx σ H
def Uq (t u:TS):TS:=fun D σ H=>t {D with nx:=u D} σ H
theorem Ur:Ep X [] Up:=fun _ _ σ H _ I h=>wpAny_execs_nil ⟨σ,H,I,h⟩
theorem MN (h1:PS X st t) (h2:Ep X rest u):Ep X (st::rest) (Uq t u):=by
 intro pins s σ H D I h
 refine wpAny_execs_cons (Az (h1 pins s σ H {D with nx:=u D} I h) fun f s1 q=>?_)
 cases f with
 |next=>
  obtain ⟨σ',H',I',q⟩:=q
  exact h2 pins s1 σ' H' D I' q
 |ret v=>exact q
 |brk=>exact q
 |cont=>exact q
theorem Pd (h1:PS X st t):Ep X [st] t:=by
 intro pins s σ H D I h
 refine wpAny_execs_cons (Az (h1 pins s σ H D I h) fun f s1 q=>?_)
 cases f with
 |next=>exact wpAny_execs_nil q
 |ret v=>exact q
 |brk=>exact q
 |cont=>exact q
theorem Inv.quiet {pins:List (Addr×Obj)} {σ:St} {H:Hp} {s:Shared} (I:Inv X pins σ H s):interactive X.env=false:=by simp [interactive,I.ok.kind]
def Us (te:TE):TS:=fun D σ H=>te σ H fun _ H1=>D.nx σ H1
theorem Pe (he:PE X e te) (hs:swapsWith e none pos.line X.env=pure false:=by rfl):PS X (.Expr e pos) (Us te):=by
 intro pins s σ H D I h
 exact wpAny_Expr_any (Az (he pins s σ H _ I h) fun v s1 z16_=>by obtain ⟨x,H1,I1,r1,q1⟩:=z16_;exact (⟨σ,H1,I1,q1⟩)) I.quiet hs
def Ut (te:TE):TS:=fun D σ H=>te σ H D.rt
theorem Uu (he:PE X e te):PS X (.Return (some e) pos) (Ut te):=by
 intro pins s σ H D I h
 exact wpAny_Return_some (Az (he pins s σ H _ I h) fun v s1 z17_=>by obtain ⟨x,H1,I1,r1,q1⟩:=z17_;exact (⟨x,σ,H1,I1,r1,q1⟩))
def Uv (c:TT) (t u:TS):TS:=fun D σ H=>c σ H fun b H1=>if b=true then t D σ H1 else u D σ H1
theorem Uw {c:Expr} {a b:List Stmt} {tc:TT} (hc:PT X c tc) (ha:Ep X a t) (hb:Ep X b u):PS X (.If c a b pos) (Uv tc t u):=by
 intro pins s σ H D I h
 refine wpAny_If (Az (hc pins s σ H _ I h) fun d s1 z18_=>?_)
 obtain ⟨H1,I1,q1⟩:=z18_
 cases d with
 |true=>exact ha pins s1 σ H1 D I1 q1
 |false=>exact hb pins s1 σ H1 D I1 q1
def Zb5:TS:=fun _ _ _=>False
end
abbrev TG:=V→St→Hp→(St→Hp→Prop)→Prop
abbrev F7:=List V→St→Hp→(St→Hp→Prop)→Prop
def PG (X:Cx) (target:Expr) (t:TG):Prop:=
 ∀(pins:List (Addr×Obj)) (s:Shared) (σ:St) (H:Hp) (v:V) (u:Value) (Q:St→Hp→Prop),Inv X pins σ H s→RelV v u→t v σ H Q→
  wpAny (model X.prog X.w) X.A (assign target X.env u) (fun _ s'=>SN X pins Q s') X.xe s
def Kt (X:Cx) (ts:List Expr) (t:F7):Prop:=
 ∀(pins:List (Addr×Obj)) (s:Shared) (σ:St) (H:Hp) (vs:List V) (us:List Value) (Q:St→Hp→Prop),Inv X pins σ H s→Vals vs us→t vs σ H Q→
  wpAny (model X.prog X.w) X.A (assignInOrder ((assignEach ts X.env).map (·.2)) us) (fun _ s'=>SN X pins Q s') X.xe s
abbrev MP:=V→V→V→Hp→(Hp→Prop)→Prop
def Pf (X:Cx) (t:MP):Prop:=
 ∀(pins:List (Addr×Obj)) (s:Shared) (σ:St) (H:Hp) (o i v:V) (ov iv u:Value) (Q:Hp→Prop),Inv X pins σ H s→RelV o ov→RelV i iv→RelV v u→t o i v H Q→
  wpAny (model X.prog X.w) X.A (setItem ov iv u) (fun _ s'=>∃H',Inv X pins σ H' s'∧Q H') X.xe s
section
variable {X:Cx} {pos:Pos}
def Cj (i:Nat):TG:=fun v σ H Q=>Q (σ.set i (some v)) H
theorem AS {i:Nat} {x:Str} (hN:X.N.Nodup) (hi:X.N[i]?=some x) (hx:GM X.env.scope x) (hf:X.fn x=true∨X.env.scope.names.lookup x=some .local:=by first |exact .inl rfl |exact .inr rfl |assumption):PG X (.Name x pos) (Cj i):=by
 intro pins s σ H v u Q I r h
 exact wpAny_assign_Name (Ks I hN hi hx r (fun s' I'=>⟨_,H,I',h⟩) hf)
def F8:F7:=fun vs σ H Q=>vs=[]∧Q σ H
def Dy (t:TG) (u:F7):F7:=fun vs σ H Q=>∃v r,vs=v::r∧t v σ H fun σ' H'=>u r σ' H' Q
theorem HY:Kt X [] F8:=by
 intro pins s σ H vs us Q I r h
 obtain ⟨e,h⟩:=h
 subst e
 cases r
 exact assignInOrder_nil ⟨σ,H,I,h⟩
theorem Dz {e:Expr} {es:List Expr} {t:TG} {u:F7} (h1:PG X e t) (h2:Kt X es u)
 (hs:(assignEach (e::es) X.env).map (·.2)=assign e X.env::(assignEach es X.env).map (·.2):=by rfl):Kt X (e::es) (Dy t u):=by
 intro pins s σ H vs us Q I r h
 obtain ⟨v,vr,e1,h⟩:=h
 subst e1
 cases r with
 |cons r rr=>
  rw [hs]
  refine assignInOrder_cons (Az (h1 pins s σ H _ _ _ I r h) fun _ s1 z19_=>?_)
  obtain ⟨σ1,H1,I1,q1⟩:=z19_
  exact h2 pins s1 σ1 H1 _ _ Q I1 rr q1
def FK (K:PySem.W.Frag) (n:Nat) (t:F7):TG:=fun v σ H Q=>∃a xs,v=.ref a∧SqT K H a xs∧xs.length=n∧t xs σ H Q
theorem HZ {es:List Expr} {k:Nat} {t:F7} {n:Nat} (hc:X.calm=true) (h:Kt X es t)
 (hn:(assignEach es X.env).length=n:=by rfl) (hst:(assignEach es X.env).findIdx? (·.1)=none:=by rfl):PG X (.Tuple es k pos) (FK X.K n t):=by
 intro pins s σ H v u Q I r hw
 obtain ⟨a,xs,e1,hq,hl,hw⟩:=hw
 subst e1
 cases r
 obtain ⟨its,rv,ht,hz⟩:=I.tuple hq
 refine assign_Tuple_tuple (I.ok.hd hc) ht (by simp [hn,←hl,rv.length]) hst fun h' hx=>?_
 have I1:Inv X pins σ H {s with heap:=h'}:=I.kept (t':=s.toks) fun b o e=>hx b o (BI (AG e)) e
 exact h pins _ σ H xs _ Q I1 (by simpa using rv) hw
def Ux (to ti:TE) (t:MP):TG:=fun v σ H Q=>to σ H fun o H1=>ti σ H1 fun i H2=>t o i v H2 fun H3=>Q σ H3
theorem Uy {o i:Expr} {to ti:TE} {t:MP} (ho:PE X o to) (hi:PE X i ti) (hs:Pf X t)
 (ha:∀v,assign (.Subscript o i pos) X.env v=(do
  let ov ←holding [v] (eval o X.env)
  let iv ←holding [v,ov] (eval i X.env)
  standAt pos
  holding [v,ov,iv] (setItem ov iv v)
  release [v,ov,iv] []):=by intro _;rfl):PG X (.Subscript o i pos) (Ux to ti t):=by
 intro pins s σ H v u Q I r h
 rw [ha]
 refine wpAny_bind (wpAny_holding (Az (ho pins s σ H _ I h) fun ov s1 z20_=>?_))
 obtain ⟨x,H1,I1,r1,q1⟩:=z20_
 refine wpAny_bind (wpAny_holding (Az (hi pins s1 σ H1 _ I1 q1) fun iv s2 z21_=>?_))
 obtain ⟨y,H2,I2,r2,q2⟩:=z21_
 refine wpAny_bind (wpAny_standAt (wpAny_bind (wpAny_holding (Az (hs pins s2 σ H2 x y v ov iv u _ I2 r1 r2 r q2) fun _ s3 z22_=>?_))))
 obtain ⟨H3,I3,q3⟩:=z22_
 exact wpAny_release ⟨σ,H3,I3,q3⟩
def Pg (te:TE) (g:TG):TS:=fun D σ H=>te σ H fun x H1=>g x σ H1 D.nx
theorem Ph {tg e:Expr} {te:TE} {g:TG} (he:PE X e te) (hg:PG X tg g) (hs:swapsWithSole [tg] e pos.line X.env=pure false:=by rfl) (hw:swappedStores [tg] e X.env=pure none:=by rfl)
 (h1:(assignEach [tg] X.env).map (·.2)=[assign tg X.env]:=by rfl):PS X (.Assign [tg] e pos) (Pg te g):=by
 intro pins s σ H D I h
 refine wpAny_Assign_stores (Az (he pins s σ H _ I h) fun v s1 z23_=>?_) hs hw
 obtain ⟨x,H1,I1,r1,q1⟩:=z23_
 rw [h1]
 exact Az (hg pins s1 σ H1 x v _ I1 r1 q1) fun _ s2 q=>q
theorem Uz {i:Nat} {x:Str} {e:Expr} {te:TE} {pos':Pos} (hN:X.N.Nodup) (hi:X.N[i]?=some x) (hx:GM X.env.scope x) (he:PE X e te) (hs:swapsWith e (some (.Name x pos')) pos.line X.env=pure false:=by rfl) (hf:X.fn x=true∨X.env.scope.names.lookup x=some .local:=by first |exact .inl rfl |exact .inr rfl |assumption):
 PS X (.Assign [.Name x pos'] e pos) (Pg te (Cj i)):=by
 intro pins s σ H D I h
 refine wpAny_Assign_Name (Az (he pins s σ H _ I h) fun v s1 z24_=>?_) hs
 obtain ⟨y,H1,I1,r1,q1⟩:=z24_
 exact Ks I1 hN hi hx r1 (fun s2 I2=>⟨_,H1,I2,q1⟩) hf
def UA (i j:Nat) (ta:TA):TS:=fun D σ H=>ta σ H fun vs H1=>∃v w,vs=[v,w]∧D.nx ((σ.set i (some v)).set j (some w)) H1
theorem UB {i j:Nat} {x y:Str} {a b:Expr} {ta:TA} {px py pt:Pos} {kt k2 pt2} (hc:X.calm=true) (hN:X.N.Nodup) (hi:X.N[i]?=some x) (hj:X.N[j]?=some y) (hij:i≠j)
 (hx:X.env.scope.names.lookup x=some .local) (hy:X.env.scope.names.lookup y=some .local) (ha:PA X [a,b] ta)
 (hw:swappedStores [.Tuple [.Name x px,.Name y py] kt pt] (.Tuple [a,b] k2 pt2) X.env=pure (some [x,y]))
 (hs:swapsWithSole [.Tuple [.Name x px,.Name y py] kt pt] (.Tuple [a,b] k2 pt2) pos.line X.env=pure false:=by rfl):
 PS X (.Assign [.Tuple [.Name x px,.Name y py] kt pt] (.Tuple [a,b] k2 pt2) pos) (UA i j ta):=by
 intro pins s σ H D I h
 rw [exec_Assign_arm]
 refine wpAny_bind (wpAny_standAt ?_)
 rw [hs]
 refine wpAny_bind (wpAny_pure ?_)
 rw [if_neg (by decide)]
 refine wpAny_bind (Tuple_ (Az (ha _ pins s σ H _ I h) fun us s1 z25_=>?_))
 obtain ⟨vs,H1,I1,r1,q1⟩:=z25_
 obtain ⟨v,w,e1,q1⟩:=q1
 subst e1
 obtain ⟨u1,u2,rfl,rv,rw'⟩:∃u1 u2,us=[u1,u2]∧RelV v u1∧RelV w u2:=by
  cases r1 with
  |cons p q=>
   cases q with
   |cons p' q'=>
    cases q'
    exact ⟨_,_,rfl,p,p'⟩
 refine wpAny_newObj_type ?_ (by show 2≤sizeLine;decide)
 have I2:Inv X pins σ H1 {s1 with heap:=s1.heap.push {cls:=.type "tuple",data:=.seq [u1,u2].toArray}}:=I1.kept (t':=s1.toks) fun b o e=>AF _ e
 rw [hw]
 refine wpAny_bind (wpAny_pure ?_)
 show wpAny (model X.prog X.w) X.A (do rule "assign.swapped-stores";let items ←unpackItems (.ref s1.heap.objs.size) 2 none;assignInOrder [fun v=>bindName X.env y v,fun v=>bindName X.env x v] items.reverse;pure Flow.next) _ _ _
 refine wpAny_bind (wpAny_rule (wpAny_bind (unpackItems_tuple (items:=#[u1,u2]) (I.ok.hd hc) (IsTup.new s1.heap _) fun h' hx'=>?_)))
 have I3:=I2.kept (h':=h') (t':=s1.toks) fun b o e=>hx' b o (BI (AG e)) e
 show wpAny _ _ (assignInOrder [fun v=>bindName X.env y v,fun v=>bindName X.env x v] [u2,u1] >>=fun _=>pure Flow.next) _ _ _
 refine wpAny_bind (assignInOrder_cons (wpAny_bindName (Ks I3 hN hj (.inl hy) rw' (fun s2 I4=>?_) (.inr hy))))
 refine assignInOrder_cons (wpAny_bindName (Ks I4 hN hi (.inl hx) rv (fun s3 I5=>assignInOrder_nil (wpAny_pure ?_)) (.inr hx)))
 rw [List.set_comm _ _ (Ne.symm hij)] at I5
 exact ⟨_,H1,I5,q1⟩
end
section
variable {X:Cx} {pos:Pos}
end
structure It where
 go:Nat→Hp→Prop
 yld:Nat→Hp→V→Hp→Prop
 stop:Nat→Hp→Prop
def Dq (X:Cx) (pins:List (Addr×Obj)) (H:Hp) (b:Addr):Prop:=
 H b=none∧b≠X.env.locals∧b∉X.fs∧(b∈X.ex∨X.s₀.heap.objs.size≤b)∧(∀x c,X.env.cells.lookup x=some c→c≠b)∧∀p∈X.pn++pins,p.1≠b
theorem Inv.fpOk {X:Cx} {pins:List (Addr×Obj)} {σ:St} {H H':Hp} {s:Shared} {b:Addr} (I:Inv X pins σ H s) (hb:s.heap.objs.size≤b) (hn:H' b=none):Dq X pins H' b:=by
 refine ⟨hn,Ci (Bb I.lt hb),I.nofs hb,.inr (BS I.sz hb),fun x c e z=>?_,fun p hp z=>?_⟩
 ·obtain ⟨v,q⟩:=I.cell x c e
  exact absurd (Bb q.lt (by rw [z];exact hb)) (Dp _)
 ·exact absurd (Bb (AG (I.pin p hp).1) (by rw [z];exact hb)) (Dp _)
structure F9 (P:Program) (w:World) (K:PySem.W.Frag) (tg:Expr) (J:It) (fp:List Addr) (it:Addr) (tn:Nat→Heap→Prop):Prop where
 mem:it∈fp
 obj:∀i h,tn i h→∀b∈fp,∃o,h.get? b=some o∧∀v,o.data≠.cell v
 keep:∀i h h',tn i h→(∀b∈fp,∀o,h.get? b=some o→h'.get? b=some o)→tn i h'
 item:∀(X:Cx),X.prog=P→X.w=w→X.K=K→X.calm=true→∀(i:Nat) (pins:List (Addr×Obj)) (s:Shared) (σ:St) (H:Hp) (E:Value→Shared→Prop),Inv X pins σ H s→(∀b∈fp,Dq X pins H b)→tn i s.heap→J.go i H→
  wpAny (model P w) X.A (pyNext (.ref it)) (fun r s1=>∃u,r=some u∧
   wpAny (model P w) X.A (letOwnedTupleGo tg (.ref it) u) (fun _ s2=>∃x H',Inv X pins σ H' s2∧RelV x u∧J.yld i H x H'∧tn (i+1) s2.heap∧∀b∈fp,H' b=none) E s1) E s
 done:∀(X:Cx),X.prog=P→X.w=w→X.K=K→X.calm=true→∀(i:Nat) (pins:List (Addr×Obj)) (s:Shared) (σ:St) (H:Hp) (E:Value→Shared→Prop),Inv X pins σ H s→(∀b∈fp,Dq X pins H b)→tn i s.heap→J.stop i H→
  wpAny (model P w) X.A (pyNext (.ref it)) (fun r s1=>r=none∧Inv X pins σ H s1) E s
 self:∀(A:Around) (i:Nat) (s:Shared) (Q:Value→Shared→Prop) (E:Value→Shared→Prop),tn i s.heap→Q (.ref it) s→wpAny (model P w) A (pyIter (.ref it)) Q E s
abbrev TI:=St→Hp→(It→Hp→Prop)→Prop
inductive MQ (X:Cx) (pins:List (Addr×Obj)) (σ:St) (tg:Expr) (R:It→Hp→Prop) (itv:Value) (s2:Shared):Prop where
 |mk (it:Addr) (fp:List Addr) (tn:Nat→Heap→Prop) (J:It) (H':Hp) (e:itv=.ref it) (i:Inv X pins σ H' s2) (t:F9 X.prog X.w X.K tg J fp it tn) (st:tn 0 s2.heap) (f:∀b∈fp,Dq X pins H' b) (r:R J H'):MQ X pins σ tg R itv s2
def PI (X:Cx) (tg iter:Expr) (wi:TI):Prop:=
 ∀(pins:List (Addr×Obj)) (s:Shared) (σ:St) (H:Hp) (R:It→Hp→Prop),Inv X pins σ H s→wi σ H R→
  wpAny (model X.prog X.w) X.A (eval iter X.env) (fun v s1=>wpAny (model X.prog X.w) X.A (pyIter v) (MQ X pins σ tg R) X.xe s1) X.xe s
theorem MR {M:Model} {A:Around} {E:Value→Shared→Prop} {s:Shared} {tg:Expr} {it:Addr} {u:Value} {o:Obj} {n:String} {vs:Array Value} {Q:Unit→Shared→Prop} (ho:s.heap.get? it=some o) (hc:o.cls=.type n) (hd:o.data=.fields vs)
 (hn:["enumerate","zip","dict_itemiterator","dict_reverseitemiterator","odict_iterator","itertools.zip_longest","itertools.pairwise"].contains n=false) (hQ:Q () s):wpAny M A (letOwnedTupleGo tg (.ref it) u) Q E s:=by
 unfold letOwnedTupleGo
 cases tg<;>first
  |exact wpAny_pure hQ
  |(cases u<;>first
   |exact wpAny_pure hQ
   |(refine wpAny_bind (wpAny_load ho ?_)
     rw [hc,hd]
     show wpAny M A (if (["enumerate","zip","dict_itemiterator","dict_reverseitemiterator","odict_iterator","itertools.zip_longest","itertools.pairwise"].contains n&&vs[0]?==some (rawInt _))=true then _ else _) Q E s
     rw [if_neg (by intro h;rw [hn,Je] at h;cases h)]
     exact wpAny_pure hQ))
def Jg (K:PySem.W.Frag) (a:Addr):It:=
 ⟨fun i H=>∃xs x,SqL K H a xs∧xs[i]?=some x,fun i H x H'=>H'=H∧∀xs,SqL K H a xs→xs[i]?=some x,fun i H=>∃xs,SqL K H a xs∧xs.length≤i⟩
def Jh (K:PySem.W.Frag) (a:Addr):It:=
 ⟨fun i H=>∃xs x,SqT K H a xs∧xs[i]?=some x,fun i H x H'=>H'=H∧∀xs,SqT K H a xs→xs[i]?=some x,fun i H=>∃xs,SqT K H a xs∧xs.length≤i⟩
def Ji (lo:Int) (n:Nat):It:=⟨fun i _=>i<n,fun i H x H'=>H'=H∧x=.int (lo+i),fun i _=>n≤i⟩
theorem UC {P:Program} {w:World} {K:PySem.W.Frag} {tg:Expr} (a it:Addr):F9 P w K tg (Jg K a) [it] it (fun i h=>h.IsListIter it a i) where
 mem:=by simp
 obj:=fun i h st b hb=>by
  have e:b=it:=by simpa using hb
  subst e
  obtain ⟨o,e,c,d⟩:=st
  exact ⟨o,e,fun v z=>by rw [d] at z;cases z⟩
 keep:=fun i h h' st k=>st.at fun o e=>k it (by simp) o e
 item:=by
  intro X hP hw hK hc i pins s σ H E I hf st hg
  subst hP hw hK
  obtain ⟨xs,x,hq,hx⟩:=hg
  obtain ⟨its,rv,p,hz⟩:=I.list hq
  obtain ⟨u,hu,ru⟩:=rv.get hx
  obtain ⟨f0,f1,f2,f3,f4,f5⟩:=hf it (by simp)
  refine wpAny_pyNext_list_item st p.isList (x:=u) (by simpa using hu) fun h' st' sb=>?_
  have I1:Inv X pins σ H {s with heap:=h'}:=I.turned (t':=s.toks) (fun b o hb e=>(sb.2 b hb).trans e) f0 f1 f3 f4 f5
  obtain ⟨o,e,c,d⟩:=id st'
  exact ⟨u,rfl,MR (s:={s with heap:=h'}) e c d (by decide) ⟨x,H,I1,ru,⟨rfl,fun ys hy=>by rw [I.list_inj hy hq];exact hx⟩,st',fun b hb=>(hf b hb).1⟩⟩
 done:=by
  intro X hP hw hK hc i pins s σ H E I hf st hg
  subst hP hw hK
  obtain ⟨xs,hq,hx⟩:=hg
  obtain ⟨its,rv,p,hz⟩:=I.list hq
  obtain ⟨f0,f1,f2,f3,f4,f5⟩:=hf it (by simp)
  have hl:=rv.length
  exact wpAny_pyNext_list_end (I.ok.hd hc) st p.isList (by simp;omega) fun h' eb=>⟨rfl,I.turned (t':=s.toks) (fun b o hb e=>eb b o hb e) f0 f1 f3 f4 f5⟩
 self:=fun _ _ _ _ _ st h=>wpAny_pyIter_listiter st h
theorem UD {P:Program} {w:World} {K:PySem.W.Frag} {tg:Expr} (a it:Addr):F9 P w K tg (Jh K a) [it] it (fun i h=>h.IsTupleIter it a i) where
 mem:=by simp
 obj:=fun i h st b hb=>by
  have e:b=it:=by simpa using hb
  subst e
  obtain ⟨o,e,c,d⟩:=st
  exact ⟨o,e,fun v z=>by rw [d] at z;cases z⟩
 keep:=fun i h h' st k=>st.at fun o e=>k it (by simp) o e
 item:=by
  intro X hP hw hK hc i pins s σ H E I hf st hg
  subst hP hw hK
  obtain ⟨xs,x,hq,hx⟩:=hg
  obtain ⟨its,rv,p,hz⟩:=I.tuple hq
  obtain ⟨u,hu,ru⟩:=rv.get hx
  obtain ⟨f0,f1,f2,f3,f4,f5⟩:=hf it (by simp)
  refine wpAny_pyNext_tuple_item st (show s.heap.IsTuple a its.toArray from p) (x:=u) (by simpa using hu) fun h' st' sb=>?_
  have I1:Inv X pins σ H {s with heap:=h'}:=I.turned (t':=s.toks) (fun b o hb e=>(sb.2 b hb).trans e) f0 f1 f3 f4 f5
  obtain ⟨o,e,c,d⟩:=id st'
  exact ⟨u,rfl,MR (s:={s with heap:=h'}) e c d (by decide) ⟨x,H,I1,ru,⟨rfl,fun ys hy=>by rw [I.tuple_inj hy hq];exact hx⟩,st',fun b hb=>(hf b hb).1⟩⟩
 done:=by
  intro X hP hw hK hc i pins s σ H E I hf st hg
  subst hP hw hK
  obtain ⟨xs,hq,hx⟩:=hg
  obtain ⟨its,rv,p,hz⟩:=I.tuple hq
  obtain ⟨f0,f1,f2,f3,f4,f5⟩:=hf it (by simp)
  have hl:=rv.length
  exact wpAny_pyNext_tuple_end (I.ok.hd hc) st (show s.heap.IsTuple a its.toArray from p) (by simp;omega) fun h' eb=>⟨rfl,I.turned (t':=s.toks) (fun b o hb e=>eb b o hb e) f0 f1 f3 f4 f5⟩
 self:=fun _ _ _ _ _ st h=>wpAny_pyIter_tupleiter st h
theorem UE {P:Program} {w:World} {K:PySem.W.Frag} {tg:Expr} (it:Addr) (lo:Int) (n:Nat):F9 P w K tg (Ji lo n) [it] it (fun i h=>IsRangeIter h it (lo+(i:Nat)*1) ((n:Int) - (i:Nat)) 1) where
 mem:=by simp
 obj:=fun i h st b hb=>by
  have e:b=it:=by simpa using hb
  subst e
  exact ⟨_,st,fun v z=>by
   have z':Data.fields _=Data.cell v:=z
   cases z'⟩
 keep:=fun i h h' st k=>k it (by simp) _ st
 item:=by
  intro X hP hw hK hc i pins s σ H E I hf st hg
  subst hP hw hK
  obtain ⟨f0,f1,f2,f3,f4,f5⟩:=hf it (by simp)
  have W:=Walks.range (prog:=X.prog) (w:=X.w) (I.ok.hd hc) it lo 1 n
  refine W.item i s _ _ hg st fun v h' tk hv st' kk=>?_
  obtain ⟨t,rfl⟩:=hv
  have I1:Inv X pins σ H {s with heap:=h',toks:=tk}:=I.turned (fun b o hb e=>kk b o (by simpa using hb) e) f0 f1 f3 f4 f5
  refine ⟨_,rfl,MR (s:={s with heap:=h',toks:=tk}) (n:="range_iterator") st' rfl rfl (by decide) ⟨.int (lo+i),H,I1,⟨t,?_⟩,⟨rfl,rfl⟩,st',fun b hb=>(hf b hb).1⟩⟩
  rw [Int.mul_one]
 done:=by
  intro X hP hw hK hc i pins s σ H E I hf st hg
  subst hP hw hK
  obtain ⟨f0,f1,f2,f3,f4,f5⟩:=hf it (by simp)
  exact wpAny_pyNext_range_end (I.ok.hd hc) st (by have:n≤i:=hg;omega) fun h' eb=>⟨rfl,I.turned (t':=s.toks) (fun b o hb e=>eb b o hb e) f0 f1 f3 f4 f5⟩
 self:=fun _ _ _ _ _ st h=>wpAny_pyIter_rangeiter st h
section
variable {X:Cx} {tg:Expr}
theorem Pi {pins:List (Addr×Obj)} {σ:St} {H:Hp} {s:Shared} {R:It→Hp→Prop} {E:Value→Shared→Prop} {lo hi:Int} {t u v:Tok} {tk:Nat} (I:Inv X pins σ H s) (h1:-(2^62)≤lo) (h2:lo<2^62) (h3:-(2^62)≤hi) (h4:hi<2^62)
 (q:R (Ji lo (hi - lo).toNat) H):wpAny (model X.prog X.w) X.A (pyIter (.ref s.heap.objs.size)) (MQ X pins σ tg R) E {s with heap:=s.heap.push {cls:=.type "range",data:=.fields #[.int lo t,.int hi u,.int 1 v]},toks:=tk}:=by
 refine wpAny_pyIter_range (IsRange.new ..) (small_one h1 h2 h3 h4) ?_
 have I1:Inv X pins σ H {s with heap:=s.heap.push {cls:=.type "range",data:=.fields #[.int lo t,.int hi u,.int 1 v]},toks:=tk}:=I.kept fun b o e=>AF _ e
 refine ⟨(s.heap.push {cls:=.type "range",data:=.fields #[.int lo t,.int hi u,.int 1 v]}).objs.size,[(s.heap.push {cls:=.type "range",data:=.fields #[.int lo t,.int hi u,.int 1 v]}).objs.size],_,_,H,rfl,
  I1.kept (t':=tk) fun b o e=>AF _ e,UE _ lo (hi - lo).toNat,?_,fun b hb=>?_,q⟩
 ·have e1:lo+((0:Nat):Int)*1=lo:=by simp
  have e2:(((hi - lo).toNat:Nat):Int) - ((0:Nat):Int)=Builtin.Range.rangeSize lo hi 1:=by rw [rangeSize_one];split<;>omega
  show IsRangeIter _ _ (lo+((0:Nat):Int)*1) ((((hi - lo).toNat:Nat):Int) - ((0:Nat):Int)) 1
  rw [e1,e2]
  exact By _ rfl
 ·have e:b=(s.heap.push {cls:=.type "range",data:=.fields #[.int lo t,.int hi u,.int 1 v]}).objs.size:=by simpa using hb
  subst e
  exact I1.fpOk (AO _) (I1.hok.fresh (AO _))
def UF (ta:TA):TI:=fun σ H R=>ta σ H fun vs H1=>∃j:Int,vs=[.int j]∧-(2^62)≤j∧j<2^62∧R (Ji 0 j.toNat) H1
def UG (ta:TA):TI:=fun σ H R=>ta σ H fun vs H1=>∃i j:Int,vs=[.int i,.int j]∧(-(2^62)≤i∧i<2^62∧-(2^62)≤j∧j<2^62)∧R (Ji i (j - i).toNat) H1
theorem UH {a:Expr} {ta:TA} {p pos:Pos} (hg:Gl X "range") (hm:X.mg "range"=none) (ha:PA X [a] ta) (hs:starEach [a] X.env=[(false,eval a X.env)]:=by rfl):PI X tg (.Call (.Name "range" p) [a] [] pos) (UF ta):=by
 intro pins s σ H R I h
 refine Call_ (GO I hg hm boot_range (PyProof.Rows.callWith_type1 (Az (ha pos pins s σ H _ I h) fun us s1 z37_=>?_) hs rfl))
 obtain ⟨vs,H1,I1,r1,q1⟩:=z37_
 obtain ⟨j,e,q1,q2,q⟩:=q1
 subst e
 cases r1 with
 |cons r rr=>
  cases rr
  obtain ⟨t,rfl⟩:=r
  exact call_range_1 (Pi I1 (by omega) (by omega) q1 q2 (by simpa using q))
theorem UI {a b:Expr} {ta:TA} {p pos:Pos} (hg:Gl X "range") (hm:X.mg "range"=none) (ha:PA X [a,b] ta) (hs:starEach [a,b] X.env=[(false,eval a X.env),(false,eval b X.env)]:=by rfl) (hs2:starEach [b] X.env=[(false,eval b X.env)]:=by rfl):
 PI X tg (.Call (.Name "range" p) [a,b] [] pos) (UG ta):=by
 intro pins s σ H R I h
 refine Call_ (GO I hg hm boot_range (PyProof.Rows.callWith_type1 (Az (ha pos pins s σ H _ I h) fun us s1 ⟨vs,H1,I1,r1,q1⟩=>?_) (by rw [hs,hs2]) (by rw [hs2];rfl)))
 obtain ⟨i,j,e,⟨q1,q2,q3,q4⟩,q⟩:=q1
 subst e
 cases r1 with
 |cons r rr=>
  cases rr with
  |cons r' rr=>
   cases rr
   obtain ⟨t,rfl⟩:=r
   obtain ⟨t',rfl⟩:=r'
   exact call_range_2 (Pi I1 q1 q2 q3 q4 q)
def UJ (wi:TI) (g:TG) (tb:TS):TS:=fun D σ H=>wi σ H fun J H1=>∃W:Nat→Nat→St→Hp→Prop,(∃m,W 0 m σ H1)∧∀i m σ H,W i m σ H→
 (J.stop i H∧D.nx σ H)∨(J.go i H∧∃N:St→Hp→Prop,(∀σ' H',N σ' H'→∃m',m' < m∧W (i+1) m' σ' H')∧∀x H',J.yld i H x H'→g x σ H' fun σ2 H2=>tb {D with nx:=N,ct:=N,bk:=D.nx} σ2 H2)
def Ga (fp:List Addr) (h:Heap):List (Addr×Obj):=fp.filterMap fun b=>(h.get? b).map fun o=>(b,o)
theorem Jj {fp:List Addr} {h:Heap} {b:Addr} {o:Obj} (hb:b∈fp) (e:h.get? b=some o):(b,o)∈Ga fp h:=List.mem_filterMap.mpr ⟨b,hb,by rw [e];rfl⟩
theorem Pj {fp:List Addr} {h:Heap} {p:Addr×Obj} (hp:p∈Ga fp h):p.1∈fp∧h.get? p.1=some p.2:=by
 obtain ⟨b,hb,e⟩:=List.mem_filterMap.mp hp
 cases q:h.get? b with
 |none=>rw [q] at e;cases e
 |some o=>
  rw [q] at e
  have e':(b,o)=p:=Option.some.inj e
  subst e'
  exact ⟨hb,q⟩
theorem Inv.pinned {pins:List (Addr×Obj)} {σ:St} {H:Hp} {s:Shared} {fp:List Addr} (I:Inv X pins σ H s) (hf:∀b∈fp,Dq X pins H b) (ho:∀b∈fp,∃o,s.heap.get? b=some o∧∀v,o.data≠.cell v):Inv X (pins++Ga fp s.heap) σ H s:=
 I.pins_of fun p hp=>(qaP.mp hp).elim (fun z=>I.pin p (BC _ z)) fun z=>by
  obtain ⟨hb,e⟩:=Pj z
  obtain ⟨f0,f1,f2,_⟩:=hf p.1 hb
  obtain ⟨o,e',d⟩:=ho p.1 hb
  rw [e] at e';cases e'
  exact ⟨e,f0,f1,f2,d⟩
theorem Inv.unpinned {pins pl:List (Addr×Obj)} {σ:St} {H:Hp} {s:Shared} (I:Inv X (pins++pl) σ H s):Inv X pins σ H s:=I.pins_of fun p hp=>I.pin p (BC _ (GG _ hp))
inductive MU (X:Cx) (pins:List (Addr×Obj)) (tn:Nat→Heap→Prop) (fp:List Addr) (W:Nat→Nat→St→Hp→Prop) (n:Nat) (s':Shared):Prop where
 |mk (i:Nat) (σ':St) (H':Hp) (ii:Inv X pins σ' H' s') (st:tn i s'.heap) (fr:∀b∈fp,H' b=none) (w:W i n σ' H'):MU X pins tn fp W n s'
theorem UK {iter:Expr} {body:List Stmt} {wi:TI} {g:TG} {tb:TS} {pos:Pos} (hp:PassesOwn (model X.prog X.w) X.A X.env X.xe) (hc:X.calm=true) (hi:PI X tg iter wi) (hg:PG X tg g) (hb:Ep X body tb)
 (hs:∀x,foldedSetIterable iter X.env x=pure x:=by intro _;rfl):PS X (.For tg iter body [] pos) (UJ wi g tb):=by
 intro pins s σ H D I h
 refine wpAny_For (Az (hi pins s σ H _ I h) fun v s1 h1=>Az h1 fun itv s2 h2=>?_) hs
 obtain ⟨it,fp,tn,J,H2,e,I2,T,Cr,f2,W,⟨m0,w0⟩,turn⟩:=h2
 subst e
 have stat:∀{H':Hp},(∀b∈fp,H' b=none)→∀b∈fp,Dq X pins H' b:=fun hn b hb=>⟨hn b hb,(f2 b hb).2⟩
 refine codeAny_forLoop_any (MU X pins tn fp W) ?_ m0 ⟨0,σ,H2,I2,Cr,fun b hb=>(f2 b hb).1,w0⟩
 rintro n s3 ⟨i,σ3,H3,I3,IU,fr3,w3⟩
 rcases turn i n σ3 H3 w3 with ⟨stop,qn⟩ |⟨go,N,hN,step⟩
 ·refine wpAny_passesOwn hp (Az (T.done X rfl rfl rfl hc i pins s3 σ3 H3 X.xe I3 (stat fr3) IU stop) fun r s4 z39_=>?_)
  obtain ⟨hr,I4⟩:=z39_
  subst hr
  exact wpAny_execs_nil ⟨σ3,H3,I4,qn⟩
 ·refine wpAny_passesOwn hp (Az (T.item X rfl rfl rfl hc i pins s3 σ3 H3 X.xe I3 (stat fr3) IU go) fun r s4 z40_=>?_)
  obtain ⟨u,hr,h4⟩:=z40_
  subst hr
  refine wpAny_passesOwn hp (Az h4 fun _ s5 z41_=>?_)
  obtain ⟨x,H5,I5,r5,y5,E8,fr5⟩:=z41_
  have I5':=I5.pinned (stat fr5) (T.obj _ _ E8)
  refine wpAny_passesOwn hp (Az (hg _ s5 σ3 H5 x u _ I5' r5 (step x H5 y5)) fun _ s6 z42_=>?_)
  obtain ⟨σ6,H6,I6,q6⟩:=z42_
  refine wpAny_passesOwn hp (Az (hb _ s6 σ6 H6 _ I6 q6) fun f s7 q7=>?_)
  have again:∀{σ7:St} {H7:Hp},Inv X (pins++Ga fp s5.heap) σ7 H7 s7→N σ7 H7→∃m,m<n∧MU X pins tn fp W m s7:=fun {σ7 H7} I7 n7=>by
   obtain ⟨m',hm,w7⟩:=hN σ7 H7 n7
   refine ⟨m',hm,i+1,σ7,H7,I7.unpinned,T.keep _ _ _ E8 fun b hb o e=>(I7.pin (b,o) (BC _ (BC _ (Jj hb e)))).1,fun b hb=>?_,w7⟩
   obtain ⟨o,e,d⟩:=T.obj _ _ E8 b hb
   exact (I7.pin (b,o) (BC _ (BC _ (Jj hb e)))).2.1
  cases f with
  |next=>obtain ⟨σ7,H7,I7,n7⟩:=q7;exact again I7 n7
  |cont=>obtain ⟨σ7,H7,I7,n7⟩:=q7;exact again I7 n7
  |brk=>obtain ⟨σ7,H7,I7,q7⟩:=q7;exact ⟨σ7,H7,I7.unpinned,q7⟩
  |ret v=>obtain ⟨x7,σ7,H7,I7,r7,q7⟩:=q7;exact ⟨x7,σ7,H7,I7.unpinned,r7,q7⟩
end
abbrev R2:=V→V→Hp→VK→Prop
def OpR (X:Cx) (f:Value→Value→Sem Value) (r:R2):Prop:=
 ∀(pins:List (Addr×Obj)) (s:Shared) (σ:St) (H:Hp) (x y:V) (v u:Value) (Q:VK),Inv X pins σ H s→RelV x v→RelV y u→r x y H Q→
  wpAny (model X.prog X.w) X.A (f v u) (EP X pins σ Q) X.xe s
def MV (X:Cx) (f:Value→Sem Value) (r:V→Hp→VK→Prop):Prop:=
 ∀(pins:List (Addr×Obj)) (s:Shared) (σ:St) (H:Hp) (x:V) (v:Value) (Q:VK),Inv X pins σ H s→RelV x v→r x H Q→
  wpAny (model X.prog X.w) X.A (f v) (EP X pins σ Q) X.xe s
def DA (X:Cx) (f:Value) (r:List V→Hp→VK→Prop):Prop:=
 ∀(pins:List (Addr×Obj)) (s:Shared) (σ:St) (H:Hp) (xs:List V) (us:List Value) (Q:VK),Inv X pins σ H s→Vals xs us→r xs H Q→
  wpAny (model X.prog X.w) X.A (call f us) (EP X pins σ Q) X.xe s
def UL (X:Cx) (r:V→Hp→(Bool→Hp→Prop)→Prop):Prop:=
 ∀(pins:List (Addr×Obj)) (s:Shared) (σ:St) (H:Hp) (x:V) (v:Value) (Q:Bool→Hp→Prop),Inv X pins σ H s→RelV x v→r x H Q→
  wpAny (model X.prog X.w) X.A (truthy v) (TP X pins σ Q) X.xe s
def Ku (r:R2) (ta tb:TE):TE:=fun σ H Q=>ta σ H fun x H1=>tb σ H1 fun y H2=>r x y H2 Q
def Pk (r:V→Hp→VK→Prop) (ta:TE):TE:=fun σ H Q=>ta σ H fun x H1=>r x H1 Q
def rI (C:Int→Int→Prop) (g:Int→Int→V):R2:=fun x y H Q=>∃i j,x=.int i∧y=.int j∧C i j∧Q (g i j) H
def Gb (g:Int→Int→V):R2:=fun x y H Q=>∃i j,x=.int i∧y=.int j∧Q (g i j) H
def rU (g:Int→V):V→Hp→VK→Prop:=fun x H Q=>∃i,x=.int i∧Q (g i) H
section
variable {X:Cx} {a b c:Expr} {ta tb tc:TE} {pos:Pos}
theorem MW (ha:PE X a ta) (hb:PE X b tb) {pins:List (Addr×Obj)} {s:Shared} {σ:St} {H:Hp} {R:V→V→Hp→Prop} (I:Inv X pins σ H s)
 (h:ta σ H fun x H1=>tb σ H1 fun y H2=>R x y H2) {Q:Value→Shared→Prop} {f:Value→Value→Sem Value}
 (hf:∀v u s2 x y H2,Inv X pins σ H2 s2→RelV x v→RelV y u→R x y H2→wpAny (model X.prog X.w) X.A (f v u) Q X.xe s2):
 wpAny (model X.prog X.w) X.A (eval a X.env) (fun v s₁=>wpAny (model X.prog X.w) X.A (eval b X.env) (fun u s₂=>wpAny (model X.prog X.w) X.A (f v u) Q X.xe s₂) X.xe s₁) X.xe s:=by
 refine Az (ha pins s σ H _ I h) fun v s1 z44_=>?_
 obtain ⟨x,H1,I1,r1,q1⟩:=z44_
 refine Az (hb pins s1 σ H1 _ I1 q1) fun u s2 z45_=>?_
 obtain ⟨y,H2,I2,r2,q2⟩:=z45_
 exact hf v u s2 x y H2 I2 r1 r2 q2
theorem UM {op:Operator} {r:R2} (ho:OpR X (binaryOp op) r) (ha:PE X a ta) (hb:PE X b tb):PE X (.BinOp a op b pos) (Ku r ta tb):=by
 intro pins s σ H Q I h
 exact wpAny_BinOp (MW ha hb I h fun v u s2 x y H2 I2 rx ry q=>ho pins s2 σ H2 x y v u Q I2 rx ry q)
theorem Pl {op:UnaryOp} {r:V→Hp→VK→Prop} (ho:MV X (unaryOp op) r) (ha:PE X a ta):PE X (.UnaryOp op a pos) (Pk r ta):=by
 intro pins s σ H Q I h
 exact UnaryOp_ (Az (ha pins s σ H _ I h) fun v s1 z46_=>by obtain ⟨x,H1,I1,r1,q1⟩:=z46_;exact (ho pins s1 σ H1 x v Q I1 r1 q1))
theorem Kv {f:Value→Value→Sem Value} {C:Int→Int→Prop} {g:Int→Int→Int}
 (rule:∀(i j:Int) (t u:Tok) (s:Shared) (Q:Value→Shared→Prop) (E:Value→Shared→Prop),C i j→Q (.int (g i j) s.toks) {s with toks:=s.toks+1}→wpAny (model X.prog X.w) X.A (f (.int i t) (.int j u)) Q E s):
 OpR X f (rI C fun i j=>.int (g i j)):=by
 intro pins s σ H x y v u Q I rx ry h
 obtain ⟨i,j,rfl,rfl,hc,q⟩:=h
 obtain ⟨t,rfl⟩:=rx
 obtain ⟨t',rfl⟩:=ry
 exact rule i j t t' s _ _ hc ⟨.int (g i j),H,I.tok _,⟨_,rfl⟩,q⟩
theorem Pm {f:Value→Value→Sem Value} {g:Int→Int→Int}
 (rule:∀(i j:Int) (t u:Tok) (s:Shared) (Q:Value→Shared→Prop) (E:Value→Shared→Prop),Q (.int (g i j) s.toks) {s with toks:=s.toks+1}→wpAny (model X.prog X.w) X.A (f (.int i t) (.int j u)) Q E s):
 OpR X f (Gb fun i j=>.int (g i j)):=by
 intro pins s σ H x y v u Q I rx ry h
 obtain ⟨i,j,rfl,rfl,q⟩:=h
 obtain ⟨t,rfl⟩:=rx
 obtain ⟨t',rfl⟩:=ry
 exact rule i j t t' s _ _ ⟨.int (g i j),H,I.tok _,⟨_,rfl⟩,q⟩
theorem MX {f:Value→Value→Sem Value} {g:Int→Int→Bool}
 (rule:∀(i j:Int) (t u:Tok) (s:Shared) (Q:Value→Shared→Prop) (E:Value→Shared→Prop),Q (.bool (g i j)) s→wpAny (model X.prog X.w) X.A (f (.int i t) (.int j u)) Q E s):
 OpR X f (Gb fun i j=>.bl (g i j)):=by
 intro pins s σ H x y v u Q I rx ry h
 obtain ⟨i,j,rfl,rfl,q⟩:=h
 obtain ⟨t,rfl⟩:=rx
 obtain ⟨t',rfl⟩:=ry
 exact rule i j t t' s _ _ ⟨.bl (g i j),H,I,rfl,q⟩
def Pn (i j:Int):Prop:=0<j∧j<1073741824
def Kw (i j:Int):Prop:=0≤j∧j≤1000000∧i.natAbs<2^64
def CMul (i j:Int):Prop:=(-(2^64)<i∧i<2^64)∨(-(2^64)<j∧j<2^64)
theorem CMul.ok {i j:Int} (h:CMul i j):IntMulOk i j:=by
 rcases h with ⟨h1,h2⟩ |⟨h1,h2⟩
 ·exact .of_left (intBits_le_64 h1 h2)
 ·exact .of_right (intBits_le_64 h1 h2)
theorem op_add:OpR X (binaryOp .Add) (Gb fun i j=>.int (i+j)):=Pm fun _ _ _ _ _ _ _ q=>add_int q
theorem UN:OpR X (binaryOp .Sub) (Gb fun i j=>.int (i - j)):=Pm fun _ _ _ _ _ _ _ q=>sub_int q
theorem UO:OpR X (binaryOp .Mod) (rI (fun _ j=>0<j) fun i j=>.int (i % j)):=Kv fun i j _ _ _ _ _ hc q=>by
 have h1:(0:Int)<j:=hc
 exact mod_int' (by omega) (by rw [Int.fmod_eq_emod_of_nonneg i (by omega)];exact q)
theorem UP:OpR X (binaryOp .Pow) (rI Kw fun i j=>.int (i^j.toNat)):=Kv fun _ _ _ _ _ _ _ hc q=>pow_int_small hc.1 hc.2.1 hc.2.2 q
theorem UQ {f:Value→Sem Value} {g:Int→Int}
 (rule:∀(i:Int) (t:Tok) (s:Shared) (Q:Value→Shared→Prop) (E:Value→Shared→Prop),Q (.int (g i) s.toks) {s with toks:=s.toks+1}→wpAny (model X.prog X.w) X.A (f (.int i t)) Q E s):
 MV X f (rU fun i=>.int (g i)):=by
 intro pins s σ H x v Q I rx h
 obtain ⟨i,rfl,q⟩:=h
 obtain ⟨t,rfl⟩:=rx
 exact rule i t s _ _ ⟨.int (g i),H,I.tok _,⟨_,rfl⟩,q⟩
theorem Po:MV X (unaryOp .USub) (rU fun i=>.int (-i)):=UQ fun _ _ _ _ _ q=>neg_int q
end
def Pp:V→V→Bool
 |.non,.non=>true |.non,.int _=>true |.int _,.non=>true |.non,.bl _=>true |.bl _,.non=>true |.non,.str _=>true |.str _,.non=>true
 |.int _,.int _=>true |.bl _,.bl _=>true |.str _,.str _=>true |.byt _,.byt _=>true
 |.int _,.str _=>true |.str _,.int _=>true |.bl _,.str _=>true |.str _,.bl _=>true
 |_,_=>false
def UR:R2:=fun x y H Q=>Pp x y=true∧Q (.bl (decide (x=y))) H
def US:R2:=fun x y H Q=>Pp x y=true∧Q (.bl (!decide (x=y))) H
theorem Pq {i j:Int}:decide (V.int i=V.int j)=(i==j):=by
 rw [qbE]
 simp
theorem Pr {i j:Bool}:decide (V.bl i=V.bl j)=(i==j):=by
 rw [qbE]
 simp
theorem Kx {i j:Str}:decide (V.str i=V.str j)=(i==j):=by
 rw [qbE]
 simp
theorem Pt {i j:Array UInt8}:decide (V.byt i=V.byt j)=(i.toList==j.toList):=by
 rw [qbE]
 cases i
 cases j
 simp
section
variable {X:Cx} {a b c:Expr} {ta tb tc:TE} {pos:Pos}
theorem Bu {pins:List (Addr×Obj)} {σ:St} {H:Hp} {s:Shared} {Q:VK} {k k':Bool} (I:Inv X pins σ H s) (q:Q (.bl k) H) (e:k=k'):EP X pins σ Q (.bool k') s:=by
 subst e
 exact ⟨.bl k,H,I,rfl,q⟩
theorem op_eq:OpR X (compareOp .Eq) UR:=by
 intro pins s σ H x y v u Q I rx ry h
 obtain ⟨hs,q⟩:=h
 cases x with
 |non=>
  cases rx
  cases y with
  |non=>cases ry;exact PySem.EqNone.eq_none_none (Bu I q (by simp))
  |bl j=>cases ry;exact PySem.EqNone.eq_none_bool (Bu I q (by simp))
  |int j=>obtain ⟨t',rfl⟩:=ry;exact PySem.EqNone.eq_none_int (Bu I q (by simp))
  |str j=>obtain ⟨t',rfl⟩:=ry;exact PySem.EqNone.eq_none_str (Bu I q (by simp))
  |_=>exact absurd (show false=true from hs) BH
 |bl i=>
  cases rx
  cases y with
  |non=>cases ry;exact PySem.EqNone.eq_bool_none (Bu I q (by simp))
  |bl j=>cases ry;exact eq_bool (Bu I q Pr)
  |str j=>obtain ⟨t',rfl⟩:=ry;exact PySem.EqMixed.eq_bool_str (Bu I q (by simp))
  |_=>exact absurd (show false=true from hs) BH
 |int i=>
  obtain ⟨t,rfl⟩:=rx
  cases y with
  |non=>cases ry;exact PySem.EqNone.eq_int_none (Bu I q (by simp))
  |int j=>obtain ⟨t',rfl⟩:=ry;exact eq_int (Bu I q Pq)
  |str j=>obtain ⟨t',rfl⟩:=ry;exact PySem.EqMixed.eq_int_str (Bu I q (by simp))
  |_=>exact absurd (show false=true from hs) BH
 |str i=>
  obtain ⟨t,rfl⟩:=rx
  cases y with
  |non=>cases ry;exact PySem.EqNone.eq_str_none (Bu I q (by simp))
  |bl j=>cases ry;exact PySem.EqMixed.eq_str_bool (Bu I q (by simp))
  |int j=>obtain ⟨t',rfl⟩:=ry;exact PySem.EqMixed.eq_str_int (Bu I q (by simp))
  |str j=>obtain ⟨t',rfl⟩:=ry;exact eq_str (Bu I q Kx)
  |_=>exact absurd (show false=true from hs) BH
 |byt i=>
  obtain ⟨t,rfl⟩:=rx
  cases y with
  |byt j=>obtain ⟨t',rfl⟩:=ry;exact PySem.W.eq_bytes (Bu I q Pt)
  |_=>exact absurd (show false=true from hs) BH
 |_=>cases y<;>exact absurd (show false=true from hs) BH
theorem op_ne:OpR X (compareOp .NotEq) US:=by
 intro pins s σ H x y v u Q I rx ry h
 obtain ⟨hs,q⟩:=h
 cases x with
 |non=>
  cases rx
  cases y with
  |non=>cases ry;exact PySem.EqNone.ne_none_none (Bu I q (by simp))
  |bl j=>cases ry;exact PySem.EqNone.ne_none_bool (Bu I q (by simp))
  |int j=>obtain ⟨t',rfl⟩:=ry;exact PySem.EqNone.ne_none_int (Bu I q (by simp))
  |str j=>obtain ⟨t',rfl⟩:=ry;exact PySem.EqNone.ne_none_str (Bu I q (by simp))
  |_=>exact absurd (show false=true from hs) BH
 |bl i=>
  cases rx
  cases y with
  |non=>cases ry;exact PySem.EqNone.ne_bool_none (Bu I q (by simp))
  |bl j=>cases ry;exact ne_bool (Bu I q (congrArg not Pr))
  |str j=>obtain ⟨t',rfl⟩:=ry;exact PySem.EqMixed.ne_bool_str (Bu I q (by simp))
  |_=>exact absurd (show false=true from hs) BH
 |int i=>
  obtain ⟨t,rfl⟩:=rx
  cases y with
  |non=>cases ry;exact PySem.EqNone.ne_int_none (Bu I q (by simp))
  |int j=>obtain ⟨t',rfl⟩:=ry;exact ne_int (Bu I q (congrArg not Pq))
  |str j=>obtain ⟨t',rfl⟩:=ry;exact PySem.EqMixed.ne_int_str (Bu I q (by simp))
  |_=>exact absurd (show false=true from hs) BH
 |str i=>
  obtain ⟨t,rfl⟩:=rx
  cases y with
  |non=>cases ry;exact PySem.EqNone.ne_str_none (Bu I q (by simp))
  |bl j=>cases ry;exact PySem.EqMixed.ne_str_bool (Bu I q (by simp))
  |int j=>obtain ⟨t',rfl⟩:=ry;exact PySem.EqMixed.ne_str_int (Bu I q (by simp))
  |str j=>obtain ⟨t',rfl⟩:=ry;exact ne_str (Bu I q (congrArg not Kx))
  |_=>exact absurd (show false=true from hs) BH
 |byt i=>
  obtain ⟨t,rfl⟩:=rx
  cases y with
  |byt j=>obtain ⟨t',rfl⟩:=ry;exact PySem.W.ne_bytes (Bu I q (congrArg not Pt))
  |_=>exact absurd (show false=true from hs) BH
 |_=>cases y<;>exact absurd (show false=true from hs) BH
theorem UT:OpR X (compareOp .Lt) (Gb fun i j=>.bl (decide (i<j))):=MX fun _ _ _ _ _ _ _ q=>lt_int q
theorem UU:OpR X (compareOp .LtE) (Gb fun i j=>.bl (decide (i≤j))):=MX fun _ _ _ _ _ _ _ q=>le_int q
theorem UV:OpR X (compareOp .Gt) (Gb fun i j=>.bl (decide (j<i))):=MX fun _ _ _ _ _ _ _ q=>gt_int q
theorem OpR.or {f:Value→Value→Sem Value} {r r':R2} (h:OpR X f r) (h':OpR X f r'):OpR X f (fun x y H Q=>r x y H Q∨r' x y H Q):=by
 intro pins s σ H x y v u Q I rx ry q
 rcases q with q |q
 ·exact h pins s σ H x y v u Q I rx ry q
 ·exact h' pins s σ H x y v u Q I rx ry q
theorem Cd (b:Expr) {op:CmpOp} (h:op≠.In:=by decide) (h2:op≠.NotIn:=by decide):behindInMarks op b=false:=by
 have e1:(op==CmpOp.In)=false:=by cases op<;>first |rfl |exact absurd rfl h
 have e2:(op==CmpOp.NotIn)=false:=by cases op<;>first |rfl |exact absurd rfl h2
 cases b with
 |Set elts k p=>
  show (k==0&&(op==.In||op==.NotIn)&&elts.all (constantsAlone 8))=false
  rw [e1,e2,Bool.or_self,Bool.and_false,Je]
 |_=>rfl
theorem UW {op:CmpOp} {r:R2} (ho:OpR X (compareOp op) r) (ha:PE X a ta) (hb:PE X b tb) (hm:behindInMarks op b=false):PE X (.Compare a [op] [b] pos) (Ku r ta tb):=by
 intro pins s σ H Q I h
 exact wpAny_Compare1 (MW ha hb I h fun v u s2 x y H2 I2 rx ry q=>ho pins s2 σ H2 x y v u Q I2 rx ry q) hm
def Pv (t:TE):TT:=fun σ H Q=>t σ H fun x H'=>∃k,x=.bl k∧Q k H'
theorem UX {op:CmpOp} {r:R2} (ho:OpR X (compareOp op) r) (ha:PE X a ta) (hb:PE X b tb) (hm:behindInMarks op b=false):PT X (.Compare a [op] [b] pos) (Pv (Ku r ta tb)):=by
 intro pins s σ H Q I h
 refine wpAny_isTrue_Compare1 (Az (ha pins s σ H _ I h) fun v s1 ⟨x,H1,I1,r1,q1⟩=>Az (hb pins s1 σ H1 _ I1 q1) ?_) hm
 rintro u s2 ⟨y,H2,I2,r2,q2⟩
 refine Az (ho pins s2 σ H2 x y v u _ I2 r1 r2 q2) fun c s3 z49_=>?_
 obtain ⟨z,H3,I3,r3,k,e,q3⟩:=z49_
 subst e
 cases r3
 exact wpAny_truthy_bool ⟨H3,I3,q3⟩
def MY (r r':R2) (ta tb tc:TE):TE:=fun σ H Q=>ta σ H fun x H1=>tb σ H1 fun y H2=>r x y H2 fun z H3=>∃k,z=.bl k∧
 (if k=true then tc σ H3 fun w' H4=>r' y w' H4 Q else Q (.bl false) H3)
theorem UY {op op':CmpOp} {r r':R2} (ho:OpR X (compareOp op) r) (ho':OpR X (compareOp op') r') (ha:PE X a ta) (hb:PE X b tb) (hc:PE X c tc)
 (hm:lastMarks [op,op'] [b,c]=false:=by with_unfolding_all rfl):PE X (.Compare a [op,op'] [b,c] pos) (MY r r' ta tb tc):=by
 intro pins s σ H Q I h
 refine Compare_chain (Az (ha pins s σ H _ I h) fun v s1 ⟨x,H1,I1,r1,q1⟩=>chain_link (Az (hb pins s1 σ H1 _ I1 q1) ?_)) hm
 rintro u s2 ⟨y,H2,I2,r2,q2⟩
 refine Az (ho pins s2 σ H2 x y v u _ I2 r1 r2 q2) fun d s3 z52_=>?_
 obtain ⟨z,H3,I3,r3,k,e,q3⟩:=z52_
 subst e
 cases r3
 refine wpAny_truthy_bool ?_
 cases k with
 |false=>exact ite_ff ⟨.bl false,H3,I3,rfl,q3⟩
 |true=>exact ite_tt (chain_last (Az (hc pins s3 σ H3 _ I3 q3) fun w' s4 z53_=>by obtain ⟨z',H4,I4,r4,q4⟩:=z53_;exact (ho' pins s4 σ H4 y z' u w' Q I4 r2 r4 q4)))
theorem UZ {op op':CmpOp} {r r':R2} (ho:OpR X (compareOp op) r) (ho':OpR X (compareOp op') r') (ha:PE X a ta) (hb:PE X b tb) (hc:PE X c tc)
 (hm:lastMarks [op,op'] [b,c]=false:=by with_unfolding_all rfl):PT X (.Compare a [op,op'] [b,c] pos) (Pv (MY r r' ta tb tc)):=by
 intro pins s σ H Q I h
 refine isTrue_chain (Az (ha pins s σ H _ I h) fun v s1 ⟨x,H1,I1,r1,q1⟩=>test_link (Az (hb pins s1 σ H1 _ I1 q1) ?_)) hm
 rintro u s2 ⟨y,H2,I2,r2,q2⟩
 refine Az (ho pins s2 σ H2 x y v u _ I2 r1 r2 q2) fun d s3 z56_=>?_
 obtain ⟨z,H3,I3,r3,k,e,q3⟩:=z56_
 subst e
 cases r3
 refine wpAny_truthy_bool ?_
 cases k with
 |false=>
  obtain ⟨k',e',q'⟩:=q3
  cases e'
  exact ite_ff ⟨H3,I3,q'⟩
 |true=>
  refine ite_tt (test_last (Az (hc pins s3 σ H3 _ I3 q3) ?_))
  rintro w' s4 ⟨z',H4,I4,r4,q4⟩
  refine Az (ho' pins s4 σ H4 y z' u w' _ I4 r2 r4 q4) fun d' s5 z58_=>?_
  obtain ⟨z2,H5,I5,r5,k2,e2,q5⟩:=z58_
  subst e2
  cases r5
  exact wpAny_truthy_bool ⟨H5,I5,q5⟩
def MZ (K:PySem.W.Frag) (x:V) (H:Hp) (k:Bool):Prop:=
 match x with
 |.non=>k=false
 |.bl b=>k=b
 |.int i=>k=(i != 0)
 |.str y=>y.length≤sizeLine∧k=((y.length:Int) != 0)
 |.byt y=>y.size≤sizeLine∧k=((y.size:Int) != 0)
 |.ref p=>(∃xs,SqL K H p xs∧k=!xs.isEmpty)∨(∃xs,SqT K H p xs∧k=!xs.isEmpty)
 |_=>False
theorem Pw {xs:List V} {its:List Value} (r:Vals xs its):(!its.toArray.isEmpty)=!xs.isEmpty:=by
 cases r<;>simp
theorem H0:(sizeLine:Nat)<2^63:=by rw [sizeLine_eq];decide
theorem U0:UL X (fun x H Q=>∃k,MZ X.K x H k∧Q k H):=by
 intro pins s σ H x v Q I rx h
 obtain ⟨k,e,q⟩:=h
 have hl:=H0
 have hs:sizeLine=16777216:=sizeLine_eq
 cases x with
 |non=>
  cases rx
  have e':k=false:=e
  subst e'
  exact truthy_none ⟨H,I,q⟩
 |bl b=>
  cases rx
  have e':k=b:=e
  subst e'
  exact wpAny_truthy_bool ⟨H,I,q⟩
 |int i=>
  obtain ⟨t,rfl⟩:=rx
  have e':k=(i != 0):=e
  subst e'
  exact PySem.P.truthy_int ⟨H,I,q⟩
 |str y=>
  obtain ⟨t,rfl⟩:=rx
  obtain ⟨hy,e'⟩:y.length≤sizeLine∧k=((y.length:Int) != 0):=e
  subst e'
  exact PySem.P.truthy_str (by omega) ⟨H,I.tok _,q⟩
 |byt y=>
  obtain ⟨t,rfl⟩:=rx
  obtain ⟨hy,e'⟩:y.size≤sizeLine∧k=((y.size:Int) != 0):=e
  subst e'
  exact PySem.W.truthy_bytes (by omega) ⟨H,I.tok _,q⟩
 |ref p=>
  cases rx
  have e':(∃xs,SqL X.K H p xs∧k=!xs.isEmpty)∨(∃xs,SqT X.K H p xs∧k=!xs.isEmpty):=e
  rcases e' with ⟨xs,hx,e'⟩ |⟨xs,hx,e'⟩
  ·subst e'
   obtain ⟨its,r,pl,hz⟩:=I.list hx
   have hlen:=r.length
   exact wpAny_truthy_list pl.isList (by simp only [Bc];omega) ⟨H,I.tok _,by rw [Pw r];exact q⟩
  ·subst e'
   obtain ⟨its,r,pl,hz⟩:=I.tuple hx
   have hlen:=r.length
   exact truthy_tuple pl (by simp only [Bc];omega) ⟨H,I.tok _,by rw [Pw r];exact q⟩
 |_=>exact (show False from e).elim
theorem U1 (ha:PE X a ta) (he:∀Fx,isTrue a X.env Fx=(do let v ←Fx;standAt a.pos;holding [v] (truthy v))):
 PT X a (fun σ H Q=>ta σ H fun x H'=>∃k,MZ X.K x H' k∧Q k H'):=by
 intro pins s σ H Q I h
 exact isTrue_plain (Az (ha pins s σ H _ I h) fun v s1 z59_=>by obtain ⟨x,H1,I1,r1,q1⟩:=z59_;exact (U0 pins s1 σ H1 x v Q I1 r1 q1)) (he _)
theorem U2:OpR X (binaryOp .Add) (fun x y H Q=>∃i j,x=.str i∧y=.str j∧i.length+j.length≤sizeLine∧Q (.str (i++j)) H):=by
 intro pins s σ H x y v u Q I rx ry h
 obtain ⟨i,j,rfl,rfl,hz,q⟩:=h
 obtain ⟨t,rfl⟩:=rx
 obtain ⟨t',rfl⟩:=ry
 exact add_str (fun t' tk=>⟨.str (i++j),H,I.tok _,⟨_,rfl⟩,q⟩) hz
theorem Es {x:V} {us:List Value} (r:Vals [x] us):∃u,us=[u]∧RelV x u:=by
 cases r with
 |cons r1 r2=>cases r2;exact ⟨_,rfl,r1⟩
theorem Ky {x y:V} {us:List Value} (r:Vals [x,y] us):∃u w',us=[u,w']∧RelV x u∧RelV y w':=by
 cases r with
 |cons r1 r2=>
  cases r2 with
  |cons r3 r4=>cases r4;exact ⟨_,_,rfl,r1,r3⟩
theorem U3 (hc:X.calm=true):DA X (.builtin "max") (fun xs H Q=>∃i j,xs=[.int i,.int j]∧Q (.int (if j>i then j else i)) H):=by
 intro pins s σ H xs us Q I r h
 obtain ⟨i,j,rfl,q⟩:=h
 obtain ⟨u,w',rfl,⟨t,rfl⟩,⟨t',rfl⟩⟩:=Ky r
 refine max_two_ints (I.ok.hd hc) fun h' tk k=>⟨_,H,I.kept k,?_,q⟩
 by_cases hj:j>i
 ·rw [if_pos hj,if_pos hj];exact ⟨_,rfl⟩
 ·rw [if_neg hj,if_neg hj];exact ⟨_,rfl⟩
theorem U4 (hc:X.calm=true):DA X (.builtin "min") (fun xs H Q=>∃i j,xs=[.int i,.int j]∧Q (.int (if j<i then j else i)) H):=by
 intro pins s σ H xs us Q I r h
 obtain ⟨i,j,rfl,q⟩:=h
 obtain ⟨u,w',rfl,⟨t,rfl⟩,⟨t',rfl⟩⟩:=Ky r
 refine min_two_ints (I.ok.hd hc) fun h' tk k=>⟨_,H,I.kept k,?_,q⟩
 by_cases hj:j<i
 ·rw [if_pos hj,if_pos hj];exact ⟨_,rfl⟩
 ·rw [if_neg hj,if_neg hj];exact ⟨_,rfl⟩
theorem U5:DA X (.type "int") (fun xs H Q=>(∃i,xs=[.int i]∧Q (.int i) H)∨∃k,xs=[.bl k]∧Q (.int (if k then 1 else 0)) H):=by
 intro pins s σ H xs us Q I r h
 rcases h with ⟨i,rfl,q⟩ |⟨k,rfl,q⟩
 ·obtain ⟨u,rfl,t,rfl⟩:=Es r
  exact call_int_int ⟨.int i,H,I,⟨_,rfl⟩,q⟩
 ·obtain ⟨u,rfl,r1⟩:=Es r
  cases r1
  exact call_int_bool ⟨.int (if k then 1 else 0),H,I.tok _,⟨_,rfl⟩,q⟩
end
section
variable {prog:Program} {w:World} {A:Around} {E:Value→Shared→Prop} {s:Shared} {K:PySem.W.Frag} {x dx C f:Addr} {mA:Str→Option Value} {name:Str} {v:Value}
end
theorem RelO.some_of {v:V} {o:Option Value} (r:RelO (some v) o):∃u,o=some u∧RelV v u:=by
 cases o with
 |none=>exact (show False from r).elim
 |some u=>exact ⟨u,rfl,r⟩
section
variable {P:Program} {w:World} {H H':Hp} {h h':Heap} {a C dx:Addr} {fs fs':List (Str×V)}
end
section
variable {X:Cx} {pins:List (Addr×Obj)} {σ:St} {H:Hp} {s:Shared} {a C dx:Addr} {fs:List (Str×V)} {f:Str} {v:V} {A:Around} {E:Value→Shared→Prop}
end
section
variable {X:Cx} {o e value:Expr} {f:Str} {pos pos' tpos:Pos} {ta tv:TE}
end
section
variable {X:Cx} {pins:List (Addr×Obj)} {σ:St} {H:Hp} {s:Shared} {A:Around} {E:Value→Shared→Prop} {Q:Value→Shared→Prop} {c:Value} {b:Bool}
inductive Fg (K:PySem.W.Frag) (H:Hp):V→Value→Prop where
 |non:Fg K H .non (.type "NoneType")
 |bl (x:Bool):Fg K H (.bl x) (.type "bool")
 |int (i:Int):Fg K H (.int i) (.type "int")
 |str (x:Str):Fg K H (.str x) (.type "str")
 |flt (x:UInt64):Fg K H (.flt x) (.type "float")
 |lst {a:Addr} {xs:List V} (e:H a=some (.lst xs)):Fg K H (.ref a) (.type "list")
 |frz {a:Addr} {o:Obj} {xs:List V} (e:H a=some (.frz o (.lst xs))):Fg K H (.ref a) (.type "list")
 |tup {a:Addr} {xs:List V} (e:H a=some (.tup xs)):Fg K H (.ref a) (.type "tuple")
theorem U6 {x:V} {u t:Value} (I:Inv X pins σ H s) (rx:RelV x u) (ty:Fg X.K H x t) (e:PySem.W.kitOne X.K t c=some b) (h:∀tk,Q (.bool b) {s with toks:=tk}):
 wpAny (model X.prog X.w) A (call (.builtin "isinstance") [u,c]) Q E s:=by
 cases ty with
 |non=>cases (show u=Value.none from rx);exact PySem.W.kia_one PySem.W.kitx_none I.kIn True.intro e (fun z=>nomatch z) h
 |bl y=>cases (show u=Value.bool y from rx);exact PySem.W.kia_one PySem.W.kitx_bool I.kIn True.intro e (fun z=>nomatch z) h
 |int i=>obtain ⟨t,q⟩:=(show ∃t,u=Value.int i t from rx);cases q;exact PySem.W.kia_one PySem.W.kitx_int I.kIn True.intro e (fun z=>nomatch z) h
 |str y=>obtain ⟨t,q⟩:=(show ∃t,u=Value.str y t from rx);cases q;exact PySem.W.kia_one PySem.W.kitx_str I.kIn True.intro e (fun z=>nomatch z) h
 |flt y=>obtain ⟨t,q⟩:=(show ∃t,u=Value.float y t from rx);cases q;exact PySem.W.kia_one PySem.W.kitx_float I.kIn True.intro e (fun z=>nomatch z) h
 |@lst a xs ea=>
  cases (show u=Value.ref a from rx)
  obtain ⟨_,_,n,_,h1⟩:=(show ObjOk X.prog X.w H s.heap a (.lst xs) from I.hok a _ ea)
  exact PySem.W.kia_one PySem.W.kitx_list I.kIn ⟨_,h1,rfl⟩ e (fun z=>nomatch z) h
 |@frz a ob xs ea=>
  cases (show u=Value.ref a from rx)
  obtain ⟨_,_,_,n,_,h1⟩:=(show ObjOk X.prog X.w H s.heap a (.frz ob (.lst xs)) from I.hok a _ ea)
  exact PySem.W.kia_one PySem.W.kitx_list I.kIn ⟨_,h1,rfl⟩ e (fun z=>nomatch z) h
 |@tup a xs ea=>
  cases (show u=Value.ref a from rx)
  obtain ⟨_,_,_,p,_⟩:=(show ObjOk X.prog X.w H s.heap a (.tup xs) from I.hok a _ ea)
  obtain ⟨o,h1,h2,_⟩:=p
  exact PySem.W.kia_one PySem.W.kitx_tuple I.kIn ⟨o,h1,h2⟩ e (fun z=>nomatch z) h
end
structure Room (k:Nat) (A:Around):Prop where
 hd:A.handled=none
 dp:A.depth+3*k+5<recursionLimit
 un:A.units+16*k+200<cLine
 gd:A.guards=some []
theorem Room.mono {j k:Nat} {A:Around} (r:Room k A) (h:j≤k):Room j A:=⟨r.hd,by have:=r.dp;omega,by have:=r.un;omega,r.gd⟩
theorem Room.deeper {k:Nat} {A:Around} (r:Room (k+1) A) (env:Env):Room k (A.deeper env):=
 ⟨r.hd,by have:=r.dp;show A.depth+1+3*k+5<_;omega,by have:=r.un;show A.units+3+16*k+200<_;omega,r.gd⟩
theorem U7 {A:Around} {C:Addr} {us:List Value} {kw:List (Str×Value)}:(A.under (.builtin "type.__call__" ⟨.ref C::us,kw⟩)).depth=A.depth+1:=by
 first |rfl |simp [Around.under,Code.weight,Code.isCreation,Code.isGuard,Code.isCaller,Code.frames,Code.isFrame,guardIds]
theorem U8 {A:Around} {C:Addr} {us:List Value} {kw:List (Str×Value)}:(A.under (.builtin "type.__call__" ⟨.ref C::us,kw⟩)).units=A.units+1:=by
 first |rfl |simp [Around.under,Code.cUnits,Code.frames,Code.isFrame]
theorem Room.make {k:Nat} {A:Around} (r:Room (k+1) A) (C:Addr) (us:List Value) (kw:List (Str×Value)):Room k (A.under (.builtin "type.__call__" ⟨.ref C::us,kw⟩)):=
 ⟨r.hd,by have:=r.dp;rw [U7];omega,by have:=r.un;rw [U8];omega,by first |exact r.gd |(show pushGuards _ _=_;rw [r.gd];rfl)⟩
theorem Room.depth {k:Nat} {A:Around} (r:Room k A):A.depth<recursionLimit:=by have:=r.dp;omega
theorem Room.units {k:Nat} {A:Around} (r:Room k A):A.units+64<cLine:=by have:=r.un;omega
def U9:TA:=fun _ H Q=>Q [] H
def Va (ta:TE) (tr:TA):TA:=fun σ H Q=>ta σ H fun x H1=>tr σ H1 fun xs H2=>Q (x::xs) H2
section
variable {X:Cx} {e:Expr} {es:List Expr} {te:TE} {t:TA} {pos:Pos}
theorem Vb:PA X [] U9:=fun _ _ _ _ H Q I h=>Calls.spliced_nil ⟨[],H,I,.nil,h⟩
theorem Vc (ha:PE X e te) (hr:PA X es t) (hs:starEach (e::es) X.env=(false,eval e X.env)::starEach es X.env:=by rfl):PA X (e::es) (Va te t):=by
 intro pos pins s σ H Q I h
 rw [hs]
 show wpAny _ _ (spliced ((false,eval e X.env)::backTo pos (starEach es X.env))) _ _ s
 refine Calls.spliced_cons (Az (ha pins s σ H _ I h) fun u s1 z68_=>?_)
 obtain ⟨x,H1,I1,r1,q1⟩:=z68_
 exact Az (hr pos pins s1 σ H1 _ I1 q1) fun us s2 z69_=>by obtain ⟨xs,H2,I2,r2,q2⟩:=z69_;exact (⟨x::xs,H2,I2,.cons r1 r2,q2⟩)
def Vd (t:TA):TE:=fun σ H Q=>t σ H fun xs H1=>xs.length≤sizeLine∧∀p,H1 p=none→Q (.ref p) (Am H1 p (.tup xs))
def Ve (t:TA):TE:=fun σ H Q=>t σ H fun xs H1=>xs.length≤sizeLine∧∀p,H1 p=none→Q (.ref p) (Am H1 p (.lst xs))
theorem Vf {x1} (h:PA X es t):PE X (.Tuple es x1 pos) (Vd t):=by
 intro pins s σ H Q I hq
 refine wpAny_Tuple_spliced (Az (h pos pins s σ H _ I hq) fun us s1 ⟨xs,H1,I1,r,z,q⟩=>⟨by rw [←r.length];exact z,?_⟩)
 have hf:H1 s1.heap.objs.size=none:=I1.hok.fresh (AO _)
 refine ⟨.ref s1.heap.objs.size,Am H1 s1.heap.objs.size (.tup xs),I1.laid (t':=s1.toks) (fun b u e=>AF _ e) (AO _) ?_,rfl,q _ hf⟩
 exact ⟨z,us,r,⟨_,By _ rfl,rfl,_,rfl⟩,NoDict.new⟩
theorem Vg (h:PA X es t):PE X (.List es pos) (Ve t):=by
 intro pins s σ H Q I hq
 refine wpAny_List_spliced (Az (h pos pins s σ H _ I hq) fun us s1 ⟨xs,H1,I1,r,z,q⟩=>⟨by rw [←r.length];exact z,?_⟩)
 have hf:H1 s1.heap.objs.size=none:=I1.hok.fresh (AO _)
 refine ⟨.ref s1.heap.objs.size,Am H1 s1.heap.objs.size (.lst xs),I1.laid (t':=s1.toks) (fun b u e=>AF _ e) (AO _) ?_,rfl,q _ hf⟩
 exact ⟨z,us,0,r,By _ rfl⟩
end
abbrev Sp:=List V→Hp→VK→XK→Prop
abbrev Eu:=List Env→Hp→Shared→XK→Value→Shared→Prop
structure Env0 (P:Program) (w:World) (K:PySem.W.Frag) (mg:Str→Option Value) (base:Heap) (A:Around) (outer:List Env) (s:Shared) (H:Hp):Prop where
 frames:A.frames=some outer
 mod:Mod K mg base
 bs:∀b o,base.get? b=some o→s.heap.get? b=some o∧H b=none
 bsz:base.objs.size≤s.heap.objs.size
 funs:s.heap.FunFrames base outer
 frf:∀b∈frs outer,H b=none
 hok:HOk P w H s.heap
 bare:AllBare s.gens
inductive CE (outer:List Env) (P:Program) (w:World) (H:Hp) (s:Shared) (Q:VK) (u:Value) (s':Shared):Prop where
 |mk (v:V) (H':Hp) (os:s'.os=s.os) (bare:AllBare s'.gens) (un:Un (frs outer) [] H H' s.heap s'.heap) (hok:HOk P w H' s'.heap) (r:RelV v u) (q:Q v H'):CE outer P w H s Q u s'
def CR (CX:Eu) (outer:List Env) (P:Program) (w:World) (H:Hp) (s:Shared) (Q:VK) (E:XK) (r:Result) (s':Shared):Prop:=
 match r with
 |.ok (.ret u)=>CE outer P w H s Q u s'
 |.ok _=>False
 |.error e=>CX outer H s E e s'
structure FnOk (P:Program) (w:World) (K:PySem.W.Frag) (mg:Str→Option Value) (base:Heap) (CX:Eu) (k:Nat) (f:Addr) (fd:FuncData) (ps:List Str) (sp:Sp):Prop where
 len:∀vs H Q E,sp vs H Q E→vs.length=ps.length
 run:∀(A:Around) (outer:List Env) (s:Shared) (H:Hp) (args:Args) (us:List Value) (vs:List V) (Q:VK) (E:XK),Room k A→Env0 P w K mg base A outer s H→BindsTo s fd args (ps.zip us)→Vals vs us→sp vs H Q E→
  codeAny (model P w) A (.call (.ref f) args) (CR CX outer P w H s Q E) s
theorem FnOk.mono {P:Program} {w:World} {K:PySem.W.Frag} {mg:Str→Option Value} {base:Heap} {CX:Eu} {j k:Nat} {f:Addr} {fd:FuncData} {ps:List Str} {sp:Sp} (F:FnOk P w K mg base CX j f fd ps sp) (h:j≤k):
 FnOk P w K mg base CX k f fd ps sp:=⟨F.len,fun A outer s H args us vs Q E hr=>F.run A outer s H args us vs Q E (hr.mono h)⟩
theorem FnOk.imp {P:Program} {w:World} {K:PySem.W.Frag} {mg:Str→Option Value} {base:Heap} {CX:Eu} {k:Nat} {f:Addr} {fd:FuncData} {ps:List Str} {sp sp':Sp} (F:FnOk P w K mg base CX k f fd ps sp)
 (h:∀vs H Q E,sp' vs H Q E→sp vs H Q E):FnOk P w K mg base CX k f fd ps sp':=
 ⟨fun vs H Q E q=>F.len vs H Q E (h _ _ _ _ q),fun A outer s H args us vs Q E hr he hb hv hs=>F.run A outer s H args us vs Q E hr he hb hv (h _ _ _ _ hs)⟩
theorem Env0.make {P:Program} {w:World} {K:PySem.W.Frag} {mg:Str→Option Value} {base:Heap} {A:Around} {outer:List Env} {s:Shared} {H:Hp} (e:Env0 P w K mg base A outer s H) (C:Addr) (us:List Value) (kw:List (Str×Value)):
 Env0 P w K mg base (A.under (.builtin "type.__call__" ⟨.ref C::us,kw⟩)) outer s H:=⟨by first |exact e.frames |(simpa [Around.under,Code.envs,Code.isFrame,pushEnvs] using e.frames),e.mod,e.bs,e.bsz,e.funs,e.frf,e.hok,e.bare⟩
section
variable {X:Cx} {pins:List (Addr×Obj)} {σ:St} {H:Hp} {s s':Shared}
theorem Inv.env0 (I:Inv X pins σ H s):Env0 X.prog X.w X.K X.mg X.base X.A X.stack s H:=
 ⟨I.ok.frames,I.ok.mod,I.bs,BS I.ok.bsz I.sz,I.stack,I.stkFree,I.hok,I.bare⟩
theorem Inv.after {Q:VK} {u:Value} (I:Inv X pins σ H s) (h:CE X.stack X.prog X.w H s Q u s'):EP X pins σ Q u s':=by
 obtain ⟨v,H',os,bare,un,hok,r,q⟩:=h
 obtain ⟨hh,g,d,t,os'⟩:=s'
 obtain rfl:os'=s.os:=os
 exact ⟨v,H',I.call (h':=hh) (g':=g) (d':=d) (t':=t) (ch:=[]) un hok bare (fun b z=>absurd z (by simp)),r,q⟩
end
def Vh (sp:Sp) (dvs:List V) (E:XK) (t:TA):TE:=fun σ H Q=>t σ H fun vs H1=>sp (vs++dvs) H1 Q E
def Binds (K:PySem.W.Frag) (fd:FuncData) (ps:List Str) (ds:List Value):Prop:=
 ∀(s:Shared) (us:List Value),K.In s.heap→(us++ds).length=ps.length→BindsTo s fd ⟨us,[]⟩ (ps.zip (us++ds))
theorem Binds.all {K:PySem.W.Frag} {fd:FuncData} {ps:List Str} (h:∀us:List Value,us.length=ps.length→bindArgs fd ⟨us,[]⟩=pure (ps.zip us)):Binds K fd ps []:=fun s us _ hl=>by
 rw [Fd] at hl ⊢
 exact .of_eq (h us hl)
def GP (CX:Eu) (X:Cx) (E:XK):Prop:=∀(pins:List (Addr×Obj)) (σ:St) (H:Hp) (s:Shared) (e:Value) (s':Shared),Inv X pins σ H s→CX X.stack H s E e s'→X.xe e s'
section
variable {X:Cx} {CX:Eu} {k:Nat} {f C:Addr} {fd:FuncData} {ps:List Str} {sp:Sp} {dvs:List V} {ds:List Value} {E:XK} {x m:Str} {p pos apos:Pos} {e o:Expr} {es:List Expr} {ta:TE} {t:TA}
theorem Vi {pins:List (Addr×Obj)} {σ:St} {H:Hp} {s:Shared} {Q:VK} {us:List Value} {vs:List V} (F:FnOk X.prog X.w X.K X.mg X.base CX k f fd ps sp) (hr:Room k X.A) (hb:Binds X.K fd ps ds) (hd:Vals dvs ds) (hx:GP CX X E)
 (I:Inv X pins σ H s) (r:Vals vs us) (h:sp (vs++dvs) H Q E):wpAny (model X.prog X.w) X.A (call (.ref f) us) (EP X pins σ Q) X.xe s:=by
 have r2:Vals (vs++dvs) (us++ds):=r.append hd
 have hl:(us++ds).length=ps.length:=by rw [←r2.length];exact F.len _ _ _ _ h
 refine wpAny_call (codeAny_mono (F.run X.A X.stack s H ⟨us,[]⟩ (us++ds) (vs++dvs) Q E hr I.env0 (hb s us I.kIn hl) r2 h) fun r s' hq=>?_)
 cases r with
 |error e=>exact hx pins σ H s e s' I hq
 |ok fl=>
  cases fl with
  |ret u=>exact I.after hq
  |next=>exact False.elim hq
  |brk=>exact False.elim hq
  |cont=>exact False.elim hq
theorem Vj (F:FnOk X.prog X.w X.K X.mg X.base CX k f fd ps sp) (hr:Room k X.A) (hg:Gl X x) (hm:X.mg x=some (.ref f)) (hk:PySem.W.keepIn X.K (.ref f)=true) (hb:Binds X.K fd ps ds) (hd:Vals dvs ds) (hx:GP CX X E)
 (ha:PA X (e::es) t) (hdb:(x==("__debug__":Str))=false:=by decide) (he:starEach (e::es) X.env=(false,eval e X.env)::starEach es X.env:=by rfl) (hpl:(backTo pos (starEach es X.env)).any (·.1)=false:=by rfl):
 PE X (.Call (.Name x p) (e::es) [] pos) (Vh sp dvs E t):=by
 intro pins s σ H Q I h
 refine wpAny_Call_Name_kw (F6 I hg hm ?_ hdb)
 refine PySem.W.callWith_K (h₀:=X.base) I.ok.mod.kin hk (Az (ha pos pins s σ H _ I h) ?_) he hpl
 rintro us s1 ⟨vs,H1,I1,r,q⟩
 refine ⟨I1.kIn,?_⟩
 exact Vi F hr hb hd hx I1 r q
end
section
variable {X:Cx} {CX:Eu} {k:Nat} {f C:Addr} {fd:FuncData} {ps ks:List Str} {sp:Sp} {E:XK} {x m:Str} {p pos apos kpos:Pos} {e o:Expr} {es:List Expr} {kws:List Keyword} {te ta:TE} {t tk:TA} {nm:Option Str}
variable {g:List Value→List Value→List Value} {gV:List V→List V→List V}
end
structure Bg (N P:List Str) (sc:Scope):Prop where
 kind:sc.kind=.function
 co:sc.isCoroutine=false
 gen:sc.isGenerator=false
 nd:N.Nodup
 pre:N.take P.length=P
 par:∀x∈P,sc.names.lookup x=some .local∨sc.names.lookup x=some .cell
 nofree:∀y∈sc.names,y.2≠.free
theorem Px {kindOf:Str→Option NameKind} {x:Str}:∀{binds:List (Str×Value)} {m:Str→Option Value},(∀v,(x,v)∉binds)→bindL kindOf binds m x=m x
 |[],_,_=>rfl
 |(n,v)::r,m,h=>by
  unfold bindL
  rw [Px fun w hw=>h w (A5 _ hw)]
  split
  ·have:x≠n:=by rintro rfl;exact h v A0
   simp [this]
  ·rfl
theorem Pz {kindOf:Str→Option NameKind} {x:Str}:∀{binds:List (Str×Value)} {m:Str→Option Value},(∀v,(x,v)∉binds)→bindC kindOf binds m x=m x
 |[],_,_=>rfl
 |(n,v)::r,m,h=>by
  unfold bindC
  rw [Pz fun w hw=>h w (A5 _ hw)]
  split
  ·rfl
  ·have:x≠n:=by rintro rfl;exact h v A0
   simp [this]
theorem M0 {kindOf:Str→Option NameKind} {x:Str} {v:Value}:∀{P:List Str} {vs:List Value} {i:Nat} {m:Str→Option Value},P.Nodup→P[i]?=some x→vs[i]?=some v→kindOf x=some .local→
 bindL kindOf (P.zip vs) m x=some v
 |[],_,_,_,_,h,_,_=>by simp at h
 |_::_,[],_,_,_,_,h,_=>by simp at h
 |p::P,w::vs,0,m,nd,h1,h2,hk=>by
  simp at h1 h2;subst h1;subst h2
  show bindL kindOf ((p,w)::P.zip vs) m p=_
  unfold bindL
  rw [Px fun v hv=>(qbQ.mp nd).1 (Jb hv).1,if_pos hk]
  simp
 |p::P,w::vs,i+1,m,nd,h1,h2,hk=>by
  show bindL kindOf ((p,w)::P.zip vs) m x=_
  unfold bindL
  exact M0 (i:=i) (qbQ.mp nd).2 (by simpa using h1) (by simpa using h2) hk
theorem M1 {kindOf:Str→Option NameKind} {x:Str} {v:Value}:∀{P:List Str} {vs:List Value} {i:Nat} {m:Str→Option Value},P.Nodup→P[i]?=some x→vs[i]?=some v→kindOf x≠some .local→
 bindC kindOf (P.zip vs) m x=some v
 |[],_,_,_,_,h,_,_=>by simp at h
 |_::_,[],_,_,_,_,h,_=>by simp at h
 |p::P,w::vs,0,m,nd,h1,h2,hk=>by
  simp at h1 h2;subst h1;subst h2
  show bindC kindOf ((p,w)::P.zip vs) m p=_
  unfold bindC
  rw [Pz fun v hv=>(qbQ.mp nd).1 (Jb hv).1,if_neg hk]
  simp
 |p::P,w::vs,i+1,m,nd,h1,h2,hk=>by
  show bindC kindOf ((p,w)::P.zip vs) m x=_
  unfold bindC
  exact M1 (i:=i) (qbQ.mp nd).2 (by simpa using h1) (by simpa using h2) hk
def start (N:List Str) (vs:List V):St:=vs.map some++List.replicate (N.length - vs.length) none
def AW (CX:Eu) (P:Program) (w:World) (K:PySem.W.Frag) (mg:Str→Option Value) (base:Heap) (N:List Str) (qual:Str) (scope:Scope) (f:Addr) (cd:Value) (A:Around) (outer:List Env) (s:Shared) (H:Hp) (E:XK):Cx where
 prog:=P
 w:=w
 K:=K
 mg:=mg
 base:=base
 A:=A.deeper (envOfC qual scope s.heap.objs.size f cd)
 N:=N
 s₀:=s
 H₀:=H
 env:=envOfC qual scope s.heap.objs.size f cd
 outer:=outer
 stack:=envOfC qual scope s.heap.objs.size f cd::outer
 ex:=[]
 calm:=true
 fn:=fun _=>true
 pn:=[]
 xe:=fun e s'=>wpAny (model P w) (A.deeper (envOfC qual scope s.heap.objs.size f cd)) (leaving (envOfC qual scope s.heap.objs.size f cd) e) (fun _ s''=>CX outer H s E e s'') (fun e' s''=>CX outer H s E e' s'') s'
theorem Kz {sc:Scope} {n:Nat} {x:Str} (h:sc.names.lookup x=some .cell):∃c,(cellsFrom n sc.names []).lookup x=some c:=by
 have q:=PySem.W.cellsFrom_some sc.names n [] (.inl h)
 exact qbO.mp q
theorem PB {CX:Eu} {P:Program} {w:World} {K:PySem.W.Frag} {mg:Str→Option Value} {base:Heap} {N ps:List Str} {qual:Str} {scope:Scope} {f:Addr} {cd:Value} {A:Around} {outer:List Env} {s s1:Shared} {H:Hp} {E:XK} {us:List Value} {vs:List V}
 (S:Bg N ps scope) (hd:A.handled=none) (e0:Env0 P w K mg base A outer s H) (hl:vs.length=ps.length) (r:Vals vs us)
 (x:InCallC s s.heap.objs.size (bindL (envOfC qual scope s.heap.objs.size f cd).kindOf (ps.zip us) fun _=>none) (cellsFrom (s.heap.objs.size+1) scope.names []) (bindC (envOfC qual scope s.heap.objs.size f cd).kindOf (ps.zip us) fun _=>none) s1):
 Inv (AW CX P w K mg base N qual scope f cd A outer s H E) [] (start N vs) H s1:=by
 have hpl:ps.length≤N.length:=by have:=congrArg List.length S.pre;rw [Kl] at this;omega
 obtain ⟨h1,tk,rfl,hk⟩:=x.done
 have noA:∀b:Addr,b∉(AW CX P w K mg base N qual scope f cd A outer s H E).ex:=fun b z=>absurd (show b∈([]:List Addr) from z) (by simp)
 refine ⟨⟨e0.mod,S.kind,rfl,rfl,AO _,fun y z c h1 h2=>?_,fun y hy=>?_,fun y c _ h=>?_,fun _=>hd,Around.frames_deeper e0.frames,.inr ⟨rfl,rfl⟩,fun b z=>absurd z (noA b),e0.bs,e0.bsz,fun b _ _=>noA b,fun b z=>absurd z (noA b),e0.funs,e0.frf⟩,
  rfl,e0.bare,Un.kept hk,⟨_,x.toInCall.ns,fun i y v h1 h2 h3=>?_⟩,fun y c h=>⟨_,x.cell y c h⟩,e0.hok.fresh (AO _),fun y c h=>?_,fun p hp=>absurd (show p∈([]:List (Addr×Obj)) from hp) (by simp),e0.hok.kept hk,?_⟩
 ·exact name_of_addr x.apart (PySem.mem_of_lookup h1) (PySem.mem_of_lookup h2)
 ·have hy:scope.names.lookup y=some .cell∨scope.names.lookup y=some .free:=hy
  rcases hy with hy |hy
  ·exact Kz hy
  ·exact absurd rfl (S.nofree _ (PySem.mem_of_lookup hy))
 ·exact GL (x.above y c (PySem.mem_of_lookup h))
 ·have hi:i<vs.length:=by
   unfold start at h2
   by_cases hi:i<vs.length
   ·exact hi
   ·rw [IV (by simpa using hi)] at h2
    rw [Mz] at h2
    split at h2<;>cases h2
  have ha:vs[i]?=some v:=by
   unfold start at h2
   rw [FG (by simpa using hi),Ca] at h2
   cases e:vs[i]? with
   |none=>rw [e] at h2;cases h2
   |some a=>rw [e] at h2;cases h2;rfl
  obtain ⟨u,hu,rv⟩:=r.get ha
  have hp:ps[i]?=some y:=by
   rw [←S.pre,List.getElem?_take_of_lt (by omega)];exact h1
  have ndP:ps.Nodup:=by rw [←S.pre];exact S.nd.sublist (List.take_sublist _ _)
  refine ⟨u,rv,?_⟩
  rcases S.par y (GH hp) with k |k
  ·exact .inl ⟨k,M0 ndP hp hu k⟩
  ·obtain ⟨c,e⟩:=Kz (n:=s.heap.objs.size+1) k
   refine .inr ⟨.inl k,c,e,?_⟩
   have q:=x.cell y c e
   rw [M1 ndP hp hu (by show scope.names.lookup y≠_;rw [k];decide)] at q
   exact q
 ·exact e0.hok.fresh (GL (x.above y c (PySem.mem_of_lookup h)))
 ·unfold start
  show _=N.length
  rw [Dw,Cb,List.length_replicate]
  omega
theorem M3 {CX:Eu} {P:Program} {w:World} {K:PySem.W.Frag} {mg:Str→Option Value} {base:Heap} {k:Nat} {f:Addr} {name qual:Str} {params:Arguments} {body:List Stmt} {scope:Scope} {dV kV doc pm cdv ct oc:Value} {an od:Option Addr}
 {osl:Array (Option Value)} {N ps:List Str} {sp:Sp} (lk:K.lookup f=some ⟨oc,od,.func (PySem.W.fnOf name qual params body scope dV kV doc pm an cdv ct),osl⟩) (hcd:PySem.W.codeIn K cdv qual=true) (S:Bg N ps scope)
 (len:∀vs H Q E,sp vs H Q E→vs.length=ps.length)
 (hbody:∀(A:Around) (outer:List Env) (s:Shared) (H:Hp) (vs:List V) (Q:VK) (E:XK),Room k (A.deeper (envOfC qual scope s.heap.objs.size f cdv))→sp vs H Q E→
  ∃t,Ep (AW CX P w K mg base N qual scope f cdv A outer s H E) body t∧t {nx:=fun _ H'=>Q .non H',rt:=Q} (start N vs) H):
 FnOk P w K mg base CX (k+1) f (PySem.W.fnOf name qual params body scope dV kV doc pm an cdv ct) ps sp:=by
 refine ⟨len,fun A outer s H args us vs Q E hr e0 hb r hsp=>?_⟩
 have hl:=len _ _ _ _ hsp
 have KX:K.In s.heap:=e0.mod.kin.keeps fun b o e=>(e0.bs b o e).1
 have lim:s.heap.NoLimit:=e0.mod.nolimit.keeps fun b o e=>(e0.bs b o e).1
 have hkind:∀y∈ps.zip us,scope.names.lookup y.1=some .local∨(scope.names.lookup y.1=some .cell∧((cellsFrom (s.heap.objs.size+1) scope.names []).lookup y.1).isSome=true):=fun z81_ hy=>by
  obtain ⟨n,v⟩:=z81_
  rcases S.par n (Jb hy).1 with q |q
  ·exact .inl q
  ·exact .inr ⟨q,PySem.W.cellsFrom_some _ _ _ (.inl q)⟩
 refine codeAny_call_function hr.depth (KX _ _ lk) rfl S.co S.gen rfl (PySem.W.codeRec_of KX hcd) (hb _ _ _ _ ?_)
 refine wpAny_newFunctionEnv_cells S.kind hkind fun env he s1 x=>?_
 subst he
 refine ⟨lim.keeps x.toInCall.keep,codeAny_func ?_⟩
 obtain ⟨t,ht,hq⟩:=hbody A outer s H vs Q E (hr.deeper _) hsp
 have I:Inv (AW CX P w K mg base N qual scope f cdv A outer s H E) [] (start N vs) H s1:=PB S hr.hd e0 hl r x
 refine wpAny_mono (ht [] s1 (start N vs) H _ I hq) (fun fl s' hs=>?_) fun e s' hs=>hs
 have fin:∀{σ':St} {H':Hp} {v:V} {u:Value},Inv (AW CX P w K mg base N qual scope f cdv A outer s H E) [] σ' H' s'→RelV v u→Q v H'→CE outer P w H s Q u s':=
  fun {σ' H' v u} J rv q=>⟨v,H',J.os,J.bare,J.base,J.hok,rv,q⟩
 cases fl with
 |ret u=>
  obtain ⟨v,σ',H',J,rv,q⟩:=hs
  exact fin J rv q
 |next=>
  obtain ⟨σ',H',J,q⟩:=hs
  exact fin (v:=V.non) (u:=Value.none) J rfl q
 |brk=>
  obtain ⟨_,_,_,q⟩:=hs
  exact False.elim q
 |cont=>
  obtain ⟨_,_,_,q⟩:=hs
  exact False.elim q
section
variable {X:Cx} {x:Str} {p pos:Pos} {e:Expr} {es:List Expr} {t:TA} {id T:String} {r:List V→Hp→VK→Prop}
def PC (r:List V→Hp→VK→Prop) (t:TA):TE:=fun σ H Q=>t σ H fun vs H1=>r vs H1 Q
theorem Vk (hc:DA X (.builtin id) r) (hg:Gl X x) (hm:X.mg x=none) (hv:bootBuiltins x=some (.builtin id)) (ha:PA X (e::es) t) (hn:x≠"__name__":=by decide) (hdb:(x==("__debug__":Str))=false:=by decide)
 (he:starEach (e::es) X.env=(false,eval e X.env)::starEach es X.env:=by rfl) (hpl:(backTo pos (starEach es X.env)).any (·.1)=false:=by rfl):PE X (.Call (.Name x p) (e::es) [] pos) (PC r t):=by
 intro pins s σ H Q I h
 refine wpAny_Call_Name_kw (GO I hg hm hv ?_ hn hdb)
 exact PyProof.Rows.callWith_builtin1 (Az (ha pos pins s σ H _ I h) fun us s1 z82_=>by obtain ⟨vs,H1,I1,r1,q1⟩:=z82_;exact (hc pins s1 σ H1 vs us Q I1 r1 q1)) he hpl
theorem Vl (hc:DA X (.type T) r) (hg:Gl X x) (hm:X.mg x=none) (hv:bootBuiltins x=some (.type T)) (ha:PA X (e::es) t) (hn:x≠"__name__":=by decide) (hdb:(x==("__debug__":Str))=false:=by decide)
 (he:starEach (e::es) X.env=(false,eval e X.env)::starEach es X.env:=by rfl) (hpl:(backTo pos (starEach es X.env)).any (·.1)=false:=by rfl):PE X (.Call (.Name x p) (e::es) [] pos) (PC r t):=by
 intro pins s σ H Q I h
 refine wpAny_Call_Name_kw (GO I hg hm hv ?_ hn hdb)
 exact PyProof.Rows.callWith_type1 (Az (ha pos pins s σ H _ I h) fun us s1 z83_=>by obtain ⟨vs,H1,I1,r1,q1⟩:=z83_;exact (hc pins s1 σ H1 vs us Q I1 r1 q1)) he hpl
end
end L2
namespace HT
open PySem PyProof.Rows
def lexLt:List Int→List Int→Bool
 |[],[]=>false
 |[],_::_=>true
 |_::_,[]=>false
 |x::xs,y::ys=>if x=y then lexLt xs ys else decide (x<y)
theorem lexLt_cons (x y:Int) (xs ys:List Int):lexLt (x::xs) (y::ys)=if x=y then lexLt xs ys else decide (x<y):=rfl
theorem Vm:lexLt [] []=false:=rfl
theorem Vn (y:Int) (ys:List Int):lexLt [] (y::ys)=true:=rfl
theorem Vo (x:Int) (xs:List Int):lexLt (x::xs) []=false:=rfl
theorem Vp (A:Around) (s:Shared) (a:Int) (t:Tok) (c:Int) (u:Tok):∃e,SeqAt.EqAt A s (.int a t) (.int c u) e∧(e=true↔a=c):=
 ⟨(a==c),SeqAt.EqAt.int_int a t c u,by simp⟩
theorem Vq (A:Around) (s:Shared) (a:Int) (t:Tok) (c:Int) (u:Tok) (prog:Program) (w:World) (E:Value→Shared→Prop) (Q:Value→Shared→Prop) (h:Q (.bool (decide (a<c))) s):
 wpAny (model prog w) A (richCompare .Lt (.int a t) (.int c u)) Q E s:=
 (PyProof.Rows.lt_int h:wpAny (model prog w) A (compareOp .Lt (.int a t) (.int c u)) Q E s)
section
open PySem.SeqAt
open PySem.AutoSeq1 (wpAny_loadPart')
open PySem.MeetsSeq PySem.MeetsSeq2 PySem.MeetsSeq3
theorem Vr (l b:Addr) (items items2:Array Value) (n n2:Nat) (dd dd2:Option Addr) (sl sl2:Array (Option Value)) (ns ms:List Int) (hi:IntsAre items.toList ns) (hj:IntsAre items2.toList ms):
 Meets (Builtin.«tuple.__lt__» ⟨[.ref l,.ref b],[]⟩)
  (fun _ R s=>s.heap.get? l=some {cls:=.type "tuple",dict:=dd,data:=.seq items n,slots:=sl}∧s.heap.get? b=some {cls:=.type "tuple",dict:=dd2,data:=.seq items2 n2,slots:=sl2}∧
   R (.ok (.ret (.bool (lexLt ns ms)))) s):=
 .of_wp fun prog w A R s h=>by
  obtain ⟨hp,g,d,tk,os⟩:=s;obtain ⟨hl,hb,h⟩:=h
  have f2:=AutoSeq1.sub_tuple_tuple
  have z1:items.size=ns.length:=by rw [←hi.length];simp
  have z2:items2.size=ms.length:=by rw [←hj.length];simp
  wp_walk using wpAny_loadPart' hl,wpAny_loadPart' hb,wpAny_forIn_list _ (fun rest b s'=>b.1=none∧s'=⟨hp,g,d,tk,os⟩∧∃(vs ws:List Value) (ns' ms':List Int),rest=vs.zip ws∧
   IntsAre vs ns'∧IntsAre ws ms'∧ns'.length+items2.size=ms'.length+items.size∧R (.ok (.ret (.bool (lexLt ns' ms')))) ⟨hp,g,d,tk,os⟩) _
  case turn=>
   rintro ⟨y,x⟩ rest b s' ⟨hb',rfl,vs,ws,ns',ms',hz,hvi,hwi,hlen,hR⟩
   cases hvi with
   |nil=>rw [List.zip_nil_left] at hz;cases hz
   |cons a t hvi'=>
    cases hwi with
    |nil=>rw [List.zip_nil_right] at hz;cases hz
    |cons c u hwi'=>
     rw [List.zip_cons_cons] at hz
     injection hz with hyx hrest
     injection hyx with hy hx
     subst hy hx
     rw [lexLt_cons] at hR
     simp only [Fc] at hlen
     obtain ⟨e,he,hiff⟩:=Vp A.in1 ⟨hp,g,d,tk,os⟩ a t c u
     refine wpAny_bind (he prog w _ _ ?_)
     cases e with
     |true=>
      rw [if_pos (hiff.mp rfl)] at hR
      wp_walk
      exact ⟨rfl,rfl,_,_,_,_,hrest,hvi',hwi',by omega,hR⟩
     |false=>
      rw [if_neg (fun q=>absurd (hiff.mpr q) BH)] at hR
      have hri:=Vq A.in1 ⟨hp,g,d,tk,os⟩ a t c u prog w
      wp_walk using hri
      exact ⟨_,rfl,by simpa using hR⟩
  case fin=>
   rintro ⟨b1,b2⟩ s' ⟨hb',rfl,vs,ws,ns',ms',hz,hvi,hwi,hlen,hR⟩
   simp only at hb'
   subst hb'
   have hv:lexLt ns' ms'=decide (items.size<items2.size):=by
    cases hvi with
    |nil=>
     cases hwi with
     |nil=>
      simp only [FJ] at hlen
      rw [Vm]
      exact (decide_eq_false (by omega)).symm
     |cons c u hw=>
      simp only [FJ,Fc] at hlen
      rw [Vn]
      exact (decide_eq_true (by omega)).symm
    |cons a t hv=>
     cases hwi with
     |nil=>
      simp only [FJ,Fc] at hlen
      rw [Vo]
      exact (decide_eq_false (by omega)).symm
     |cons c u hw=>
      rw [List.zip_cons_cons] at hz
      cases hz
   rw [hv] at hR
   wp_walk
   exact ⟨_,rfl,by simpa [Builtin.Tuple.tupleCompareSizes] using hR⟩
  case h=>
   exact ⟨rfl,rfl,items.toList,items2.toList,ns,ms,rfl,hi,hj,by omega,h⟩
end
section
variable {prog:Program} {w:World} {A:Around} {E:Value→Shared→Prop} {s:Shared}
theorem lt_tupInts {l b:Addr} {items items2:Array Value} {ns ms:List Int} {Q:Value→Shared→Prop} (hl:IsTup s.heap l items) (hb:IsTup s.heap b items2) (hi:IntsAre items.toList ns) (hj:IntsAre items2.toList ms)
 (hu:A.units<cLine) (h:Q (.bool (lexLt ns ms)) s):wpAny (model prog w) A (compareOp .Lt (.ref l) (.ref b)) Q E s:=by
 obtain ⟨⟨cls,dd,data,sl⟩,ho,hc,n,hd⟩:=id hl
 obtain ⟨⟨cls2,dd2,data2,sl2⟩,ho2,hc2,n2,hd2⟩:=id hb
 simp only at hc hd hc2 hd2
 subst hc hd hc2 hd2
 exact richCompare_meets_room (op:=.Lt) ⟨_,ho,rfl⟩ ⟨_,ho2,rfl⟩ PySem.F.slot_tuple_lt PySem.F.entry_tuple_lt (PySem.F.args_tuple_lt_2 _ _) (Vr l b items items2 n n2 dd dd2 sl sl2 ns ms hi hj)
  ⟨ho,ho2,show Value.bool (lexLt ns ms)≠Value.notImplemented∧Q (.bool (lexLt ns ms)) s from ⟨(fun x=>nomatch x),h⟩⟩ hu
theorem cat_tup {t b:Addr} {vs ws:List Value} {Q:Value→Shared→Prop} (ht:IsTup s.heap t vs.toArray) (hb:IsTup s.heap b ws.toArray) (hv:vs≠[])
 (h1:ws=[]→Q (.ref t) s) (h2:ws≠[]→Q (.ref s.heap.objs.size) {s with heap:=s.heap.push {cls:=.type "tuple",data:=.seq (vs++ws).toArray}})
 (hsz:vs.length+ws.length≤sizeLine):wpAny (model prog w) A (binaryOp .Add (.ref t) (.ref b)) Q E s:=by
 obtain ⟨⟨cls,dd,data,sl⟩,ho,hc,n,hd⟩:=id ht
 obtain ⟨⟨cls2,dd2,data2,sl2⟩,ho2,hc2,n2,hd2⟩:=id hb
 simp only at hc hd hc2 hd2
 subst hc hd hc2 hd2
 have e:vs.toArray++ws.toArray=(vs++ws).toArray:=by simp
 by_cases hw:ws=[]
 ·exact concat_meets ⟨_,ho,rfl⟩ ⟨_,ho2,rfl⟩ noFill_tuple_add seq_tuple_add PySem.F.slot_tuple_add PySem.F.entry_tuple_add (PySem.F.args_tuple_add_2 _ _)
   (tuple_addW1 t b vs.toArray ws.toArray n n2 dd dd2 sl sl2 (by simpa using hv) (by simp [hw])) ⟨ho,ho2,h1 hw⟩
 ·refine concat_meets ⟨_,ho,rfl⟩ ⟨_,ho2,rfl⟩ noFill_tuple_add seq_tuple_add PySem.F.slot_tuple_add PySem.F.entry_tuple_add (PySem.F.args_tuple_add_2 _ _)
   (tuple_addW2 t b vs.toArray ws.toArray n n2 dd dd2 sl sl2 (by simpa using hv) (by simpa using hw) (by rw [Bc,Bc];exact hsz)) ⟨ho,ho2,?_⟩
  rw [e]
  exact h2 hw
def sIx (n d:Nat):Option Int→Nat
 |none=>d
 |some v=>if v<0 then (v+(n:Int)).toNat else min v.toNat n
theorem sIx_none (n d:Nat):sIx n d none=d:=rfl
theorem sIx_nat (n d k:Nat):sIx n d (some (k:Int))=min k n:=by
 show (if (k:Int)<0 then ((k:Int)+(n:Int)).toNat else min (k:Int).toNat n)=min k n
 rw [if_neg (by omega),IZ]
theorem Vs (n d:Nat) (hd:d≤n) (o:Option Int):sIx n d o≤n:=by
 cases o with
 |none=>exact hd
 |some v=>
  show (if v<0 then (v+(n:Int)).toNat else min v.toNat n)≤n
  by_cases hv:v<0
  ·rw [if_pos hv];omega
  ·rw [if_neg hv];exact Nat.min_le_right _ _
theorem PD (v:Int) (n d:Nat):(if v<0 then max (v+(n:Int)) 0 else min v (n:Int))=((sIx n d (some v):Nat):Int):=by
 show (if v<0 then max (v+(n:Int)) 0 else min v (n:Int))=(((if v<0 then (v+(n:Int)).toNat else min v.toNat n):Nat):Int)
 by_cases hv:v<0
 ·simp only [if_pos hv];omega
 ·simp only [if_neg hv];omega
theorem Vt (lo hi:Option Int) (n:Nat):Builtin.Slice.sliceAdjust lo hi 1 (n:Int)=(((sIx n 0 lo:Nat):Int),((sIx n n hi:Nat):Int)):=by
 have h1:¬((1:Int)<0):=by omega
 unfold Builtin.Slice.sliceAdjust
 simp only [h1,if_false]
 refine Prod.ext ?_ ?_
 ·cases lo with
  |none=>rfl
  |some v=>exact PD v n 0
 ·cases hi with
  |none=>rfl
  |some v=>exact PD v n n
theorem Vu (i j:Nat):Builtin.Slice.slicePlaces (i:Int) (j:Int) 1=j - i:=by
 unfold Builtin.Slice.slicePlaces
 have h1:(1:Int)>0:=by omega
 simp only [h1,if_true,Int.ediv_one]
 split<;>omega
theorem PF {v:Value} {o:Option Int} {Q:Option Int→Shared→Prop} (p:IsPart v o) (h:Q o s):wpAny (model prog w) A (Builtin.Slice.slicePartIndex v) Q E s:=by
 cases p with
 |none=>exact slicePart_none h
 |int i t=>exact slicePart_int h
theorem sliceApplied_gen {sl:Addr} {vl vu:Value} {lo hi:Option Int} {n:Nat} {Q:Int×Int×Nat→Shared→Prop} (hs:s.heap.IsSliceOf sl vl vu .none) (pl:IsPart vl lo) (pu:IsPart vu hi)
 (h:Q (((sIx n 0 lo:Nat):Int),1,sIx n n hi - sIx n 0 lo) s):wpAny (model prog w) A (Builtin.Slice.sliceApplied (.ref sl) (pure (n:Int))) Q E s:=by
 obtain ⟨os,hos,hcs,hds⟩:=id hs
 unfold Builtin.Slice.sliceApplied Builtin.Slice.sliceFields
 refine wpAny_bind (wpAny_bind (wpAny_field hos hds (x:=vl) rfl (wpAny_bind (wpAny_field hos hds (x:=vu) rfl (wpAny_bind (wpAny_field hos hds (x:=.none) rfl (wpAny_pure ?_)))))))
 refine wpAny_bind (slicePart_none ?_)
 show wpAny _ _ (if ((1:Int)==0)=true then _ else _) _ _ s
 rw [if_neg (by decide)]
 refine wpAny_bind (PF pl (wpAny_bind (PF pu (wpAny_bind (wpAny_pure ?_)))))
 show wpAny _ _ (match Builtin.Slice.sliceAdjust lo hi 1 (n:Int) with |(lo,hi)=>pure (lo,(1:Int),Builtin.Slice.slicePlaces lo hi 1)) _ _ s
 rw [Vt lo hi n]
 show wpAny _ _ (pure (((sIx n 0 lo:Nat):Int),(1:Int),Builtin.Slice.slicePlaces ((sIx n 0 lo:Nat):Int) ((sIx n n hi:Nat):Int) 1)) _ _ s
 rw [Vu]
 exact wpAny_pure h
theorem Vv (xs:Array Value) (i k:Nat):((List.range k).filterMap fun (m:Nat)=>xs[((i:Int)+(m:Int)*1).toNat]?).toArray=((xs.toList.drop i).take k).toArray:=by
 have e:(fun (m:Nat)=>xs[((i:Int)+(m:Int)*1).toNat]?)=fun m=>xs[i+m]?:=by
  funext m
  have:((i:Int)+(m:Int)*1).toNat=i+m:=by omega
  rw [this]
 rw [e]
 have:=pick_run xs i k
 rw [List.filterMap_map] at this
 have e2:((fun x=>xs[x]?)∘fun x=>i+x)=fun m=>xs[i+m]?:=rfl
 rw [e2] at this
 rw [this]
theorem getItem_tuple_cut {t sl:Addr} {items:Array Value} {vl vu:Value} {lo hi:Option Int} {Q:Value→Shared→Prop} (ht:IsTup s.heap t items) (hs:s.heap.IsSliceOf sl vl vu .none) (pl:IsPart vl lo) (pu:IsPart vu hi)
 (hw:¬(sIx items.size 0 lo=0∧sIx items.size items.size hi=items.size))
 (h:Q (.ref s.heap.objs.size) {s with heap:=s.heap.push {cls:=.type "tuple",data:=.seq ((items.toList.drop (sIx items.size 0 lo)).take (sIx items.size items.size hi - sIx items.size 0 lo)).toArray}})
 (hsz:items.size≤sizeLine):wpAny (model prog w) A (getItem (.ref t) (.ref sl)) Q E s:=by
 have htake:sizeOk (.seq ((items.toList.drop (sIx items.size 0 lo)).take (sIx items.size items.size hi - sIx items.size 0 lo)).toArray):=by
  show ((items.toList.drop (sIx items.size 0 lo)).take (sIx items.size items.size hi - sIx items.size 0 lo)).toArray.size≤sizeLine
  rw [Bc,Kl,List.length_drop,Array.length_toList]
  omega
 have hj:sIx items.size items.size hi≤items.size:=Vs _ _ (AO _) hi
 obtain ⟨os,hos,hcs,hds⟩:=id hs
 have hTs:s.TypeIs (.ref sl) "slice":=⟨os,hos,hcs⟩
 unfold getItem
 try with_reducible refine wpAny_holding ?_
 first |refine wpAny_bind (wpAny_pure ?_) |skip
 refine wpAny_bind (wpAny_sequenceKey ht.typeIs (by decide) ?_)
 refine wpAny_bind (wpAny_callSpecial?_slot (name:=Str.ofString "__getitem__") ht.typeIs PyProof.Rows.slot_tuple_getitem
  (wpAny_call_entry PyProof.Rows.slot_tuple_getitem ht.typeIs entry_tuple_getitem ?_ (args_tuple_getitem _ _)))
 show wpAny _ _ (Builtin.Tuple.tupleItemsOf (.ref t) >>=_) _ _ s
 refine wpAny_bind (tupleItemsOf_ ht ?_)
 refine wpAny_bind (wpAny_typeOf hTs ?_)
 rw [if_pos (by decide)]
 refine wpAny_bind (sliceApplied_gen hs pl pu ?_)
 have hno:¬((((sIx items.size 0 lo:Nat):Int)==0&&(1:Int)==1&&(sIx items.size items.size hi - sIx items.size 0 lo)==items.size)=true):=by
  intro q
  rw [BR,BR] at q
  have q1:((sIx items.size 0 lo:Nat):Int)=0:=eq_of_beq q.1.1
  have q2:sIx items.size items.size hi - sIx items.size 0 lo=items.size:=eq_of_beq q.2
  exact hw ⟨by omega,by omega⟩
 show wpAny _ _ (if (((sIx items.size 0 lo:Nat):Int)==0&&(1:Int)==1&&(sIx items.size items.size hi - sIx items.size 0 lo)==items.size)=true then _ else _) _ _ s
 rw [if_neg hno,Vv]
 first
  |exact wpAny_bind (m:=Builtin.Tuple.tupleExact _) (wpAny_newObj_type (wpAny_pure ⟨_,rfl,wpAny_pure h⟩) htake)
  |exact wpAny_bind (m:=Builtin.Tuple.tupleExact _) (wpAny_newObj_type (wpAny_bind (wpAny_pure (wpAny_pure ⟨_,rfl,wpAny_pure h⟩))) htake)
  |exact wpAny_bind (wpAny_bind (m:=Builtin.Tuple.tupleExact _) (wpAny_newObj_type (wpAny_pure (wpAny_pure ⟨_,rfl,wpAny_pure h⟩)) htake))
  |exact wpAny_bind (wpAny_bind (m:=Builtin.Tuple.tupleExact _) (wpAny_newObj_type (wpAny_pure ⟨_,rfl,wpAny_pure h⟩) htake))
end
end HT
namespace L2
open PySem PySem.Spec PyProof.Rows
abbrev TO:=St→Hp→(Option Int→Hp→Prop)→Prop
def PO (X:Cx) (e:Option Expr) (t:TO):Prop:=
 ∀(pins:List (Addr×Obj)) (s:Shared) (σ:St) (H:Hp) (Q:Option Int→Hp→Prop),Inv X pins σ H s→t σ H Q→
  wpAny (model X.prog X.w) X.A (evalPart e X.env) (fun u s'=>∃o H',Inv X pins σ H' s'∧IsPart u o∧Q o H') X.xe s
def Vw:TO:=fun _ H Q=>Q none H
def Vx (t:TE):TO:=fun σ H Q=>t σ H fun x H1=>∃i,x=.int i∧Q (some i) H1
theorem PH {ns:List Int}:∀{us:List Value},Vals (ns.map V.int) us→IntsAre us ns:=by
 induction ns with
 |nil=>intro us r;rw [HW] at r;cases r;exact .nil
 |cons n ns ih=>
  intro us r
  rw [Cs] at r
  cases r with
  |cons r1 r2=>
   obtain ⟨t,e⟩:=r1
   subst e
   exact .cons n t (ih r2)
section
variable {X:Cx} {e:Expr} {te:TE} {lo hi:Option Expr} {tl th:TO} {pos p2:Pos}
theorem Vy:PO X none Vw:=by
 intro pins s σ H Q I h
 rw [evalPart_none]
 exact wpAny_pure ⟨none,H,I,.none,h⟩
theorem Vz (h:PE X e te):PO X (some e) (Vx te):=by
 intro pins s σ H Q I hw
 rw [evalPart_some]
 refine Az (h pins s σ H _ I hw) fun u s1 z84_=>?_
 obtain ⟨x,H1,I1,r1,q1⟩:=z84_
 obtain ⟨i,rfl,q⟩:=q1
 obtain ⟨t,rfl⟩:=r1
 exact ⟨some i,H1,I1,.int i t,q⟩
def SlR (X:Cx) (r:V→Option Int→Option Int→Hp→VK→Prop):Prop:=
 ∀(pins:List (Addr×Obj)) (s:Shared) (σ:St) (H:Hp) (x:V) (v vl vu:Value) (lo hi:Option Int) (sl:Addr) (Q:VK),Inv X pins σ H s→RelV x v→s.heap.IsSliceOf sl vl vu .none→IsPart vl lo→IsPart vu hi→r x lo hi H Q→
  ∃T id,typeLookup (.type T) "__getitem__"=pure (some (.builtin id))∧s.TypeIs v T∧wpAny (model X.prog X.w) X.A (getItem v (.ref sl)) (EP X pins σ Q) X.xe s
theorem SlR.or {r r':V→Option Int→Option Int→Hp→VK→Prop} (h:SlR X r) (h':SlR X r'):SlR X (fun x lo hi H Q=>r x lo hi H Q∨r' x lo hi H Q):=by
 intro pins s σ H x v vl vu lo hi sl Q I rx hs pl pu q
 rcases q with q |q
 ·exact h pins s σ H x v vl vu lo hi sl Q I rx hs pl pu q
 ·exact h' pins s σ H x v vl vu lo hi sl Q I rx hs pl pu q
def VA (r:V→Option Int→Option Int→Hp→VK→Prop) (te:TE) (tl th:TO):TE:=fun σ H Q=>te σ H fun x H1=>tl σ H1 fun l H2=>th σ H2 fun u H3=>r x l u H3 Q
theorem VB {r:V→Option Int→Option Int→Hp→VK→Prop} (hr:SlR X r) (he:PE X e te) (hl:PO X lo tl) (hu:PO X hi th):PE X (.Subscript e (.Slice lo hi none p2) pos) (VA r te tl th):=by
 intro pins s σ H Q I h
 refine Subscript_ (Az (he pins s σ H _ I h) fun v s1 z85_=>?_)
 obtain ⟨x,H1,I1,r1,q1⟩:=z85_
 refine wpAny_Slice (Az (hl pins s1 σ H1 _ I1 q1) ?_)
 rintro vl s2 ⟨l,H2,I2,pl,q2⟩
 refine Az (hu pins s2 σ H2 _ I2 q2) fun vu s3 z87_=>?_
 obtain ⟨u,H3,I3,pu,q3⟩:=z87_
 rw [evalPart_none]
 refine wpAny_pure ?_
 have I4:Inv X pins σ H3 {s3 with heap:=s3.heap.push {cls:=.type "slice",data:=.fields #[vl,vu,.none]}}:=I3.kept (t':=s3.toks) fun b ob q=>AF _ q
 obtain ⟨T,id,hT,ht,hg⟩:=hr pins {s3 with heap:=s3.heap.push {cls:=.type "slice",data:=.fields #[vl,vu,.none]}} σ H3 x v vl vu l u s3.heap.objs.size Q I4 r1 (Heap.IsSliceOf.new ..) pl pu q3
 show wpAny (model X.prog X.w) X.A (subscriptTail e (.Slice lo hi none p2) v (.ref s3.heap.objs.size)) (EP X pins σ Q) X.xe {s3 with heap:=s3.heap.push {cls:=.type "slice",data:=.fields #[vl,vu,.none]}}
 exact tail_any (ops:=[.ref s3.heap.objs.size,v]) ht hT hg (by with_unfolding_all rfl)
def Ia (xs:List V) (lo hi:Option Int):List V:=(xs.drop (HT.sIx xs.length 0 lo)).take (HT.sIx xs.length xs.length hi - HT.sIx xs.length 0 lo)
theorem VC (xs:List V) (lo hi:Option Int):(Ia xs lo hi).length≤xs.length:=by
 unfold Ia
 rw [Kl,List.length_drop]
 omega
def VD (K:PySem.W.Frag):V→Option Int→Option Int→Hp→VK→Prop:=fun x lo hi H Q=>∃a xs,x=.ref a∧SqT K H a xs∧
 ¬(HT.sIx xs.length 0 lo=0∧HT.sIx xs.length xs.length hi=xs.length)∧∀p,H p=none→Q (.ref p) (Am H p (.tup (Ia xs lo hi)))
theorem VE:SlR X (VD X.K):=by
 intro pins s σ H x v vl vu lo hi sl Q I rx hs pl pu h
 obtain ⟨a,xs,rfl,hx,hw,q⟩:=h
 cases rx
 obtain ⟨its,r,ht,hz⟩:=I.tuple hx
 have hlen:its.toArray.size=xs.length:=by rw [Bc];exact r.length.symm
 refine ⟨"tuple",_,PyProof.Rows.slot_tuple_getitem.lookup,ht.typeIs,?_⟩
 refine HT.getItem_tuple_cut ht hs pl pu (by rw [hlen];exact hw) ?_ (by rw [hlen];exact hz)
 rw [hlen]
 refine ⟨.ref s.heap.objs.size,_,I.laid (t':=s.toks) (o:=.tup (Ia xs lo hi)) (fun b ob q=>AF _ q) (AO _) ?_,rfl,q _ (I.hok.fresh (AO _))⟩
 exact ⟨BS (VC xs lo hi) hz,_,(r.drop (HT.sIx xs.length 0 lo)).take (HT.sIx xs.length xs.length hi - HT.sIx xs.length 0 lo),IsTup.new _ _,NoDict.new⟩
def VF (K:PySem.W.Frag):R2:=fun x y H Q=>∃a b ns ms,x=.ref a∧y=.ref b∧SqT K H a (ns.map V.int)∧SqT K H b (ms.map V.int)∧Q (.bl (HT.lexLt ns ms)) H
theorem VG (hu:X.A.units<cLine):OpR X (compareOp .Lt) (VF X.K):=by
 intro pins s σ H x y v u Q I rx ry h
 obtain ⟨a,b,ns,ms,rfl,rfl,ha,hb,q⟩:=h
 cases rx
 cases ry
 obtain ⟨its,r1,p1,_⟩:=I.tuple ha
 obtain ⟨its2,r2,p2,_⟩:=I.tuple hb
 have i1:IntsAre its.toArray.toList ns:=PH r1
 have i2:IntsAre its2.toArray.toList ms:=PH r2
 exact HT.lt_tupInts p1 p2 i1 i2 hu ⟨.bl (HT.lexLt ns ms),H,I,rfl,q⟩
def VH (K:PySem.W.Frag):R2:=fun x y H Q=>∃a b xs ys,x=.ref a∧y=.ref b∧SqT K H a xs∧SqT K H b ys∧xs≠[]∧xs.length+ys.length≤sizeLine∧
 (ys=[]→Q (.ref a) H)∧(ys≠[]→∀p,H p=none→Q (.ref p) (Am H p (.tup (xs++ys))))
theorem Vals.nil_iff {xs:List V} {us:List Value} (r:Vals xs us):us=[]↔xs=[]:=by
 cases r with
 |nil=>simp
 |cons _ _=>simp
theorem op_catT:OpR X (binaryOp .Add) (VH X.K):=by
 intro pins s σ H x y v u Q I rx ry h
 obtain ⟨a,b,xs,ys,rfl,rfl,ha,hb,hx,hz,q1,q2⟩:=h
 cases rx
 cases ry
 obtain ⟨its,r1,p1,_⟩:=I.tuple ha
 obtain ⟨its2,r2,p2,_⟩:=I.tuple hb
 refine HT.cat_tup p1 p2 (fun z=>hx (r1.nil_iff.mp z)) (fun z=>⟨.ref a,H,I,rfl,q1 (r2.nil_iff.mp z)⟩) (fun z=>?_) (by rw [←r1.length,←r2.length];exact hz)
 refine ⟨.ref s.heap.objs.size,_,I.laid (t':=s.toks) (o:=.tup (xs++ys)) (fun b ob q=>AF _ q) (AO _) ?_,rfl,q2 (fun w=>z (r2.nil_iff.mpr w)) _ (I.hok.fresh (AO _))⟩
 exact ⟨by rw [Dw];exact hz,_,r1.append r2,IsTup.new _ _,NoDict.new⟩
end
def Ea (n:Nat) (i:Int):Option Nat:=if 0≤i then (if i<n then some i.toNat else none) else if -(n:Int)≤i then some (i+n).toNat else none
def DB {α:Type} (xs:List α) (i:Int):Option α:=(Ea xs.length i).bind fun j=>xs[j]?
theorem PJ {n:Nat} {i:Int} {j:Nat} (h:Ea n i=some j):seqIndex? i n=some j∧j<n∧-(n:Int)≤i∧i<n:=by
 unfold Ea at h
 by_cases h0:0≤i
 ·rw [if_pos h0] at h
  by_cases h1:i<n
  ·rw [if_pos h1] at h
   have e:i.toNat=j:=Option.some.inj h
   exact ⟨by rw [seqIndex_of h0 h1,e],by omega,by omega,h1⟩
  ·rw [if_neg h1] at h;cases h
 ·rw [if_neg h0] at h
  by_cases h1:-(n:Int)≤i
  ·rw [if_pos h1] at h
   have e:(i+n).toNat=j:=Option.some.inj h
   exact ⟨by rw [seqIndex_neg (by omega) h1,e],by omega,h1,by omega⟩
  ·rw [if_neg h1] at h;cases h
theorem PK {α:Type} {xs:List α} {i:Int} {v:α} (h:DB xs i=some v):∃j,seqIndex? i xs.length=some j∧xs[j]?=some v∧j<xs.length∧-(xs.length:Int)≤i∧i<xs.length:=by
 unfold DB at h
 cases e:Ea xs.length i with
 |none=>rw [e] at h;cases h
 |some j=>
  rw [e] at h
  obtain ⟨h1,h2,h3,h4⟩:=PJ e
  exact ⟨j,h1,h,h2,h3,h4⟩
def PL (b:Expr):Prop:=∀o i,subscripted b false o i=operate [o,i] (getItem o i)
def IxR (X:Cx) (r:R2):Prop:=
 ∀(value slice:Expr) (pins:List (Addr×Obj)) (s:Shared) (σ:St) (H:Hp) (x y:V) (v u:Value) (Q:VK),Inv X pins σ H s→RelV x v→RelV y u→r x y H Q→
  subscripted slice false v u=operate [v,u] (getItem v u)→wpAny (model X.prog X.w) X.A (subscriptTail value slice v u) (EP X pins σ Q) X.xe s
def M4 (X:Cx) (id:String) (r:V→List V→Hp→VK→Prop):Prop:=
 ∀(pins:List (Addr×Obj)) (s:Shared) (σ:St) (H:Hp) (x:V) (xs:List V) (v:Value) (us:List Value) (Q:VK),Inv X pins σ H s→RelV x v→Vals xs us→r x xs H Q→
  wpAny (model X.prog X.w) X.A (call (.builtin id) (v::us)) (EP X pins σ Q) X.xe s
section
variable {X:Cx} {a b:Expr} {ta tb:TE} {pos:Pos}
theorem IxR.or {r r':R2} (h:IxR X r) (h':IxR X r'):IxR X (fun x y H Q=>r x y H Q∨r' x y H Q):=by
 intro value slice pins s σ H x y v u Q I rx ry q hs
 rcases q with q |q
 ·exact h value slice pins s σ H x y v u Q I rx ry q hs
 ·exact h' value slice pins s σ H x y v u Q I rx ry q hs
theorem VI {r:R2} (hr:IxR X r) (ha:PE X a ta) (hb:PE X b tb) (hs:PL b):PE X (.Subscript a b pos) (Ku r ta tb):=by
 intro pins s σ H Q I h
 exact Subscript_ (MW ha hb I h fun v u s2 x y H2 I2 rx ry q=>hr a b pins s2 σ H2 x y v u Q I2 rx ry q (hs _ _))
def VJ (K:PySem.W.Frag):R2:=fun x y H Q=>∃p xs i v,x=.ref p∧y=.int i∧SqL K H p xs∧DB xs i=some v∧Q v H
def VL (K:PySem.W.Frag):R2:=fun x y H Q=>∃p xs i v,x=.ref p∧y=.int i∧SqT K H p xs∧DB xs i=some v∧Q v H
theorem ix_list:IxR X (VJ X.K):=by
 intro value slice pins s σ H x y v u Q I rx ry h hs
 obtain ⟨p,xs,i,z,rfl,rfl,hq,he,q⟩:=h
 cases rx
 obtain ⟨t,rfl⟩:=ry
 obtain ⟨its,r,pl,hz⟩:=I.list hq
 obtain ⟨j,h1,h2,h3,h4,h5⟩:=PK he
 obtain ⟨w,ew,rw'⟩:=r.get h2
 have hl:=r.length
 have hn:=H0
 have fin:EP X pins σ Q w s:=⟨z,H,I,rw',q⟩
 by_cases h0:0≤i
 ·have hj:i.toNat=j:=by
   rw [seqIndex_of h0 h5] at h1
   exact Option.some.inj h1
  exact item_listR pl.isList h0 (by omega) (by rw [hj];simpa using ew) fin hs
 ·have hj:(i+(its.toArray.size:Int)).toNat=j:=by
   rw [seqIndex_neg (by omega) h4] at h1
   rw [Bc,←hl]
   exact Option.some.inj h1
  exact subscriptTail_builtinR (x:=w) pl.isList.typeIs slot_list_getitem.lookup
   (wpAny_getItem_list_neg (Q:=fun r s'=>r=w∧EP X pins σ Q r s') pl.isList (by omega) (by rw [Bc]<;>omega) (by omega) (by rw [hj];simpa using ew) ⟨rfl,fin⟩) hs
theorem ix_tup:IxR X (VL X.K):=by
 intro value slice pins s σ H x y v u Q I rx ry h hs
 obtain ⟨p,xs,i,z,rfl,rfl,hq,he,q⟩:=h
 cases rx
 obtain ⟨t,rfl⟩:=ry
 obtain ⟨its,r,pl,hz⟩:=I.tuple hq
 obtain ⟨j,h1,h2,h3,h4,h5⟩:=PK he
 obtain ⟨w,ew,rw'⟩:=r.get h2
 have hl:=r.length
 have hn:=H0
 have fin:EP X pins σ Q w s:=⟨z,H,I,rw',q⟩
 exact subscriptTail_builtinR (x:=w) pl.typeIs slot_tuple_getitem.lookup
  (getItem_tuple (j:=j) (Q:=fun r s'=>r=w∧EP X pins σ Q r s') pl (by omega) (by omega) (by rw [Bc,←hl];exact h1) (by simpa using ew) ⟨rfl,fin⟩) hs
theorem VM (its:List Value) (n j:Nat) (u:Value):Obj.mapSeq (·.setIfInBounds j u) {cls:=.type "list",data:=.seq its.toArray n}={cls:=.type "list",data:=.seq (its.set j u).toArray n}:=by
 simp [Obj.mapSeq]
theorem Inv.lst {pins:List (Addr×Obj)} {σ:St} {H:Hp} {s:Shared} {p:Addr} {xs:List V} (I:Inv X pins σ H s) (h:H p=some (.lst xs)):
 ∃(its:List Value) (n:Nat),Vals xs its∧s.heap.get? p=some {cls:=.type "list",data:=.seq its.toArray n}∧xs.length≤sizeLine:=by
 obtain ⟨z,its,n,r,e⟩:=I.hok p _ h
 exact ⟨its,n,r,e,z⟩
theorem Inv.lstUpd {pins:List (Addr×Obj)} {σ:St} {H:Hp} {s:Shared} {p:Addr} {xs ys:List V} {its its':List Value} {n n':Nat} {f:Obj→Obj} (I:Inv X pins σ H s) (h:H p=some (.lst xs))
 (ho:s.heap.get? p=some {cls:=.type "list",data:=.seq its.toArray n}) (hf:f {cls:=.type "list",data:=.seq its.toArray n}={cls:=.type "list",data:=.seq its'.toArray n'}) (r:Vals ys its') (hz:ys.length≤sizeLine) (t:Nat):
 Inv X pins σ (Am H p (.lst ys)) {s with heap:=s.heap.update p f,toks:=t}:=by
 have e:(s.heap.update p f).get? p=some {cls:=.type "list",data:=.seq its'.toArray n'}:=by
  rw [IX f ho (by rw [hf]<;>rfl),hf]
 refine I.write (x:=p) (e:=p) (by rw [h];trivial) (.inl rfl) (fun b u hb q=>(IW _ _ (Ne.symm hb)).trans q) ⟨_,e⟩ ?_
 exact ⟨hz,its',n',r,e⟩
def VN:V→V→V→Hp→(Hp→Prop)→Prop:=fun o i v H Q=>∃p xs k j,o=.ref p∧i=.int k∧H p=some (.lst xs)∧Ea xs.length k=some j∧Q (Am H p (.lst (xs.set j v)))
theorem VO:Pf X VN:=by
 intro pins s σ H o i v ov iv u Q I ro ri rv h
 obtain ⟨p,xs,k,j,rfl,rfl,hp,hj,q⟩:=h
 cases ro
 obtain ⟨t,rfl⟩:=ri
 obtain ⟨its,n,r,ho,hz⟩:=I.lst hp
 obtain ⟨h1,h2,h3,h4⟩:=PJ hj
 have hl:=r.length
 have hn:=H0
 have I':Inv X pins σ (Am H p (.lst (xs.set j v))) {s with heap:=s.heap.update p (Obj.mapSeq (·.setIfInBounds j u))}:=
  I.lstUpd hp ho (VM its n j u) (r.set rv j) (by rw [List.length_set];exact hz) s.toks
 by_cases h0:0≤k
 ·have hk:k.toNat=j:=by
   rw [seqIndex_of h0 h4] at h1
   exact Option.some.inj h1
  exact PySem.W.ki_setAt ho h0 (by omega) (by rw [Bc,←hl];exact h4) (by rw [hk];exact ⟨_,I',q⟩)
 ·have hk:(k+(its.toArray.size:Int)).toNat=j:=by
   rw [seqIndex_neg (by omega) h3] at h1
   rw [Bc,←hl]
   exact Option.some.inj h1
  exact PySem.W.ki_setBack ho (by omega) (by rw [Bc,←hl];exact h3) (by omega) (by rw [hk];exact ⟨_,I',q⟩)
def Eb:V→Bool
 |.non=>true
 |.bl _=>true
 |.int _=>true
 |.str _=>true
 |_=>false
def Ew:V→V→Bool
 |.non,.non=>true
 |.bl a,.bl b=>a==b
 |.bl a,.int b=>(if a then 1 else 0)==b
 |.int a,.bl b=>a==(if b then 1 else 0)
 |.int a,.int b=>a==b
 |.str a,.str b=>a==b
 |_,_=>false
theorem VP {A:Around} {s:Shared} {y x:V} {u v:Value} (ry:RelV y u) (rx:RelV x v) (fy:Eb y=true) (fx:Eb x=true):SeqAt.EqAt A s u v (Ew y x):=by
 cases y with
 |non=>
  cases ry
  cases x with
  |non=>cases rx;exact SeqAt.EqAt.same _
  |bl b=>cases rx;exact SeqAt.EqAt.none_bool b
  |int b=>obtain ⟨t,rfl⟩:=rx;exact SeqAt.EqAt.none_int b t
  |str b=>obtain ⟨t,rfl⟩:=rx;exact SeqAt.EqAt.none_str b t
  |_=>exact absurd (show false=true from fx) BH
 |bl a=>
  cases ry
  cases x with
  |non=>cases rx;exact SeqAt.EqAt.bool_none a
  |bl b=>cases rx;exact SeqAt.EqAt.bool_bool a b
  |int b=>obtain ⟨t,rfl⟩:=rx;exact SeqAt.EqAt.bool_int a b t
  |str b=>obtain ⟨t,rfl⟩:=rx;exact SeqAt.EqAt.bool_str a b t
  |_=>exact absurd (show false=true from fx) BH
 |int a=>
  obtain ⟨t',rfl⟩:=ry
  cases x with
  |non=>cases rx;exact SeqAt.EqAt.int_none a t'
  |bl b=>cases rx;exact SeqAt.EqAt.int_bool a t' b
  |int b=>obtain ⟨t,rfl⟩:=rx;exact SeqAt.EqAt.int_int a t' b t
  |str b=>obtain ⟨t,rfl⟩:=rx;exact SeqAt.EqAt.int_str a t' b t
  |_=>exact absurd (show false=true from fx) BH
 |str a=>
  obtain ⟨t',rfl⟩:=ry
  cases x with
  |non=>cases rx;exact SeqAt.EqAt.str_none a t'
  |bl b=>cases rx;exact SeqAt.EqAt.str_bool a t' b
  |int b=>obtain ⟨t,rfl⟩:=rx;exact SeqAt.EqAt.str_int a t' b t
  |str b=>obtain ⟨t,rfl⟩:=rx;exact SeqAt.EqAt.str_str a t' b t
  |_=>exact absurd (show false=true from fx) BH
 |_=>exact absurd (show false=true from fy) BH
def DD (x:V) (u:Value):Bool:=match u with
 |.none=>Ew .non x
 |.bool b=>Ew (.bl b) x
 |.int i _=>Ew (.int i) x
 |.str z _=>Ew (.str z) x
 |_=>false
theorem KA {x y:V} {u:Value} (r:RelV y u) (f:Eb y=true):DD x u=Ew y x:=by
 cases y with
 |non=>cases r;rfl
 |bl b=>cases r;rfl
 |int i=>obtain ⟨t,rfl⟩:=r;rfl
 |str z=>obtain ⟨t,rfl⟩:=r;rfl
 |_=>exact absurd (show false=true from f) BH
theorem M5 {x:V}:∀{xs:List V} {us:List Value},Vals xs us→xs.all Eb=true→us.any (DD x)=xs.any fun y=>Ew y x
 |_,_,.nil,_=>rfl
 |y::xs,u::us,.cons r t,f=>by
  rw [List.all_cons,BR] at f
  rw [List.any_cons,List.any_cons,KA r f.1,M5 t f.2]
theorem Jk {A:Around} {s:Shared} {x:V} {v:Value} (rx:RelV x v) (fx:Eb x=true):∀{xs:List V} {us:List Value},Vals xs us→xs.all Eb=true→∀u∈us,SeqAt.EqAt A s u v (DD x u)
 |_,_,.nil,_=>fun u hu=>by cases hu
 |y::xs,u::us,.cons r t,f=>fun u' hu=>by
  rw [List.all_cons,BR] at f
  rcases qa5.mp hu with rfl |hu
  ·rw [KA r f.1];exact VP r rx f.1 fx
  ·exact Jk rx fx t f.2 u' hu
def Ib (x:V) (xs:List V):Bool:=xs.any fun y=>Ew y x
def PM (K:PySem.W.Frag) (neg:Bool):R2:=fun x y H Q=>∃p xs,y=.ref p∧(SqL K H p xs∨SqT K H p xs)∧Eb x=true∧xs.all Eb=true∧Q (.bl (if neg then !Ib x xs else Ib x xs)) H
theorem VQ:OpR X (compareOp .In) (PM X.K false):=by
 intro pins s σ H x y v u Q I rx ry h
 obtain ⟨p,xs,rfl,hq,fx,fs,q⟩:=h
 cases ry
 rcases hq with hq |hq
 ·obtain ⟨its,r,pl,hz⟩:=I.list hq
  refine SeqAt.in_listAt (DD x) pl.isList (fun w hw=>Jk rx fx r fs w (by simpa using hw)) ⟨.bl _,H,I,rfl,?_⟩
  rw [show its.toArray.any (DD x)=its.any (DD x) by simp,M5 r fs]
  exact q
 ·obtain ⟨its,r,pl,hz⟩:=I.tuple hq
  refine SeqAt.in_tupleAt (DD x) pl (fun w hw=>Jk rx fx r fs w (by simpa using hw)) ⟨.bl _,H,I,rfl,?_⟩
  rw [show its.toArray.any (DD x)=its.any (DD x) by simp,M5 r fs]
  exact q
theorem VR:DA X (.builtin "len") (fun xs H Q=>∃p ys,xs=[.ref p]∧(SqL X.K H p ys∨SqT X.K H p ys)∧Q (.int ys.length) H):=by
 intro pins s σ H xs us Q I r h
 obtain ⟨p,ys,rfl,hq,q⟩:=h
 obtain ⟨u,rfl,rx⟩:=Es r
 cases rx
 have hn:=H0
 rcases hq with hq |hq
 ·obtain ⟨its,r',pl,hz⟩:=I.list hq
  have hlen:=r'.length
  exact Calls.call_len_list pl.isList (by simp only [Bc]<;>omega) ⟨.int ys.length,H,I.tok _,⟨s.toks+1,by rw [Bc,hlen]⟩,q⟩
 ·obtain ⟨its,r',pl,hz⟩:=I.tuple hq
  have hlen:=r'.length
  exact len_tuple pl (by simp only [Bc]<;>omega) ⟨.int ys.length,H,I.tok _,⟨s.toks+1,by rw [Bc,hlen]⟩,q⟩
theorem VS:DA X (.type "list") (fun xs H Q=>∃p ys,xs=[.ref p]∧(SqL X.K H p ys∨SqT X.K H p ys)∧∀l,H l=none→Q (.ref l) (Am H l (.lst ys))):=by
 intro pins s σ H xs us Q I r h
 obtain ⟨p,ys,rfl,hq,q⟩:=h
 obtain ⟨u,rfl,rx⟩:=Es r
 cases rx
 have fin:∀(its:List Value),Vals ys its→ys.length≤sizeLine→∀(h':Heap) (c':Nat),(∀b o',s.heap.get? b=some o'→h'.get? b=some o')→
  h'.get? s.heap.objs.size=some {cls:=.type "list",dict:=none,data:=.seq its.toArray c',slots:=#[]}→EP X pins σ Q (.ref s.heap.objs.size) {s with heap:=h'}:=fun its r' hz h' c' kp e=>
  ⟨.ref s.heap.objs.size,_,I.laid (t':=s.toks) kp (AO _) (show ObjOk X.prog X.w _ h' _ (.lst ys) from ⟨hz,its,c',r',e⟩),rfl,q _ (I.hok.fresh (AO _))⟩
 rcases hq with hq |hq
 ·obtain ⟨its,r',pl,hz⟩:=I.list hq
  have hlen:=r'.length
  obtain ⟨o,ho,hc,n,hd⟩:=pl.isList
  exact call_list_seq p (.inl rfl) ho hc hd (fun h' c' kp e=>fin its r' hz h' c' kp e) (by simp only [Bc]<;>omega)
 ·obtain ⟨its,r',pl,hz⟩:=I.tuple hq
  have hlen:=r'.length
  obtain ⟨o,ho,hc,n,hd⟩:=pl
  exact call_list_seq p (.inr rfl) ho hc hd (fun h' c' kp e=>fin its r' hz h' c' kp e) (by simp only [Bc]<;>omega)
theorem VT:DA X (.type "tuple") (fun xs H Q=>∃p ys,xs=[.ref p]∧((SqL X.K H p ys∧∀l,H l=none→Q (.ref l) (Am H l (.tup ys)))∨(SqT X.K H p ys∧Q (.ref p) H))):=by
 intro pins s σ H xs us Q I r h
 obtain ⟨p,ys,rfl,h⟩:=h
 obtain ⟨u,rfl,rx⟩:=Es r
 cases rx
 rcases h with ⟨hq,q⟩ |⟨hq,q⟩
 ·obtain ⟨its,r',pl,hz⟩:=I.list hq
  have hlen:=r'.length
  refine call_tuple_list pl.isList (fun h' kp=>?_) (by simp only [Bc]<;>omega)
  have I1:Inv X pins σ H {s with heap:=h'}:=I.kept (t':=s.toks) kp
  have I2:Inv X pins σ (Am H h'.objs.size (.tup ys)) {s with heap:=h'.push {cls:=.type "tuple",data:=.seq its.toArray}}:=
   I1.laid (t':=s.toks) (fun b o e=>AF _ e) (AO _) (show ObjOk X.prog X.w _ _ _ (.tup ys) from ⟨hz,its,r',IsTup.new _ _,NoDict.new⟩)
  exact ⟨.ref h'.objs.size,_,I2,rfl,q _ (I1.hok.fresh (AO _))⟩
 ·obtain ⟨its,r',pl,hz⟩:=I.tuple hq
  exact call_tuple_same pl ⟨.ref p,H,I,rfl,q⟩
def PN (K:PySem.W.Frag) (T:String) (x:V) (H:Hp):Prop:=match x with
 |.str _=>T="str"
 |.int _=>T="int"
 |.ref p=>(T="list"∧∃xs,SqL K H p xs)∨(T="tuple"∧∃o,K.lookup p=some o∧o.cls=.type "tuple"∧o.dict=none)
 |_=>False
theorem PP {pins:List (Addr×Obj)} {σ:St} {H:Hp} {s:Shared} {T:String} {x:V} {v:Value} (I:Inv X pins σ H s) (r:RelV x v) (ty:PN X.K T x H):
 s.TypeIs v T∧∀a,v=.ref a→∃ob,s.heap.get? a=some ob∧ob.dict=none:=by
 cases x with
 |str z=>
  obtain ⟨t,rfl⟩:=r
  cases (show T="str" from ty)
  exact ⟨typeIs_str s z t,fun _ e=>nomatch e⟩
 |int i=>
  obtain ⟨t,rfl⟩:=r
  cases (show T="int" from ty)
  exact ⟨typeIs_int s i t,fun _ e=>nomatch e⟩
 |ref p=>
  cases r
  rcases ty with ⟨rfl,xs,hq⟩ |⟨rfl,o,hk,hc,hd⟩
  ·obtain ⟨its,_,pl,_⟩:=I.list hq
   refine ⟨pl.isList.typeIs,fun a e=>?_⟩
   cases e
   obtain ⟨o,n,e,c,hd,_⟩:=pl
   exact ⟨o,e,hd⟩
  ·refine ⟨⟨o,I.kIn p o hk,hc⟩,fun a e=>?_⟩
   cases e
   exact ⟨o,I.kIn _ o hk,hd⟩
 |_=>exact False.elim ty
def VU (K:PySem.W.Frag) (T:String) (r:V→List V→Hp→VK→Prop) (to:TE) (t:TA):TE:=fun σ H Q=>to σ H fun x H1=>PN K T x H1∧t σ H1 fun xs H2=>r x xs H2 Q
variable {o e:Expr} {es:List Expr} {to:TE} {t:TA} {name:Str} {apos cpos:Pos} {T id:String} {r:V→List V→Hp→VK→Prop}
theorem VV (pa:PlainAttrs T) (slot:Slot T name id) (hty:typeOf (.builtin id)=pure (.type "method_descriptor")) (hm:M4 X id r) (ho:PE X o to) (ha:PA X (e::es) t)
 (hbase:attributeBase o name X.env (eval o X.env)=eval o X.env:=by rfl)
 (hfew:((backTo cpos (starEach (e::es) X.env)).all (fun x=>!x.1)&&(backToKw cpos (keywordEach [] X.env)).all (fun x=>x.1.isSome)
  &&decide ((e::es).length+([]:List Keyword).length+(if ([]:List Keyword).isEmpty then 0 else 1)<30))=true:=by rfl)
 (hline:(apos.endLine==cpos.line)=true:=by rfl) (hs:starEach (e::es) X.env=(false,eval e X.env)::starEach es X.env:=by rfl) (hplain:(backTo cpos (starEach es X.env)).any (·.1)=false:=by rfl):
 PE X (.Call (.Attribute o name apos) (e::es) [] cpos) (VU X.K T r to t):=by
 intro pins s σ H Q I h
 refine wpAny_Call_method_late hbase hfew hline rfl (Az (ho pins s σ H _ I h) fun v s1 z89_=>?_)
 obtain ⟨x,H1,I1,r1,ty,q1⟩:=z89_
 obtain ⟨h1,h2⟩:=PP I1 r1 ty
 refine ⟨T,id,pa,slot,hty,h1,h2,?_⟩
 have hA:=ha cpos pins s1 σ H1 _ I1 q1
 rw [hs] at hA ⊢
 refine Calls.callWith_builtin (by show (false||(backTo cpos (starEach es X.env)).any (·.1))=false;rw [hplain]<;>rfl) (Calls.evalArgs_plain ?_)
 exact Az hA fun us s2 z90_=>by obtain ⟨vs,H2,I2,r2,q2⟩:=z90_;exact (hm pins s2 σ H2 x vs v us Q I2 r1 r2 q2)
end
def VW (X:Cx) (id:String) (r:V→List V→Hp→VK→Prop):Prop:=
 ∀(pins:List (Addr×Obj)) (s:Shared) (σ:St) (H:Hp) (x:V) (xs:List V) (v:Value) (us:List Value) (Q:VK),Inv X pins σ H s→RelV x v→Vals xs us→r x xs H Q→
  wpAny (model X.prog X.w) X.A (call (.builtin id) (v::us)) (EP X pins σ Q) X.xe s
theorem Vals.one {x:V} {us:List Value} (h:Vals [x] us):∃u,us=[u]∧RelV x u:=by
 cases h with
 |cons r t=>cases t;exact ⟨_,rfl,r⟩
theorem Vals.reverse {xs:List V} {us:List Value} (h:Vals xs us):Vals xs.reverse us.reverse:=by
 induction h with
 |nil=>exact .nil
 |cons r t ih=>rw [Ki,Ki];exact Vals.append ih (.cons r .nil)
theorem Vals.rep {xs:List V} {us:List Value} (h:Vals xs us):∀k:Nat,Vals (List.replicate k xs).flatten (List.replicate k us).flatten
 |0=>.nil
 |k+1=>by
  rw [F4,F4,GJ,GJ]
  exact Vals.append h (Vals.rep h k)
theorem KB (its:List Value):∀(k:Nat) (acc:List Value),
 List.foldl (fun x1 x2=>x1++x2) acc.toArray (List.replicate k its.toArray)=(acc++(List.replicate k its).flatten).toArray
 |0,acc=>by simp
 |k+1,acc=>by
  have e:acc.toArray++its.toArray=(acc++its).toArray:=by simp
  have e2:(acc++its)++(List.replicate k its).flatten=acc++(List.replicate (k+1) its).flatten:=by
   rw [F4,GJ,Kj]
  rw [←e2,←KB its k (acc++its),←e,F4,List.foldl_cons]
section
variable {X:Cx} {pins:List (Addr×Obj)} {σ:St} {H:Hp} {s:Shared} {l b:Addr} {xs ys zs:List V}
theorem Inv.lset {its its':List Value} {n:Nat} {f:Array Value→Array Value} {t':Nat} (I:Inv X pins σ H s) (hH:H l=some (.lst xs))
 (e:s.heap.get? l=some {cls:=.type "list",data:=.seq its.toArray n}) (hf:f its.toArray=its'.toArray) (hv:Vals ys its') (hz:ys.length≤sizeLine):
 Inv X pins σ (Am H l (.lst ys)) {s with heap:=s.heap.update l (Obj.mapSeq f),toks:=t'}:=by
 have q:=PySem.IsL.update e f
 rw [hf] at q
 refine I.write (x:=l) (e:=l) (by rw [hH];exact trivial) (.inl rfl) (fun b' u hb hu=>(IW s.heap (Obj.mapSeq f) (Ne.symm hb)).trans hu) ⟨_,q⟩ ?_
 exact ⟨hz,its',_,hv,q⟩
theorem Inv.lnew {its:List Value} {t':Nat} (I:Inv X pins σ H s) (hv:Vals ys its) (hz:ys.length≤sizeLine):
 Inv X pins σ (Am H s.heap.objs.size (.lst ys)) {s with heap:=s.heap.push {cls:=.type "list",data:=.seq its.toArray},toks:=t'}:=
 I.laid (fun _ _ q=>AF _ q) (AO _) ⟨hz,its,0,hv,By _ rfl⟩
theorem Inv.fresh (I:Inv X pins σ H s):H s.heap.objs.size=none:=I.hok.fresh (AO _)
theorem Inv.lstM (I:Inv X pins σ H s) (hH:H l=some (.lst xs)):xs.length≤sizeLine∧∃(its:List Value) (n:Nat),Vals xs its∧xs.length=its.length∧s.heap.get? l=some {cls:=.type "list",data:=.seq its.toArray n}:=by
 obtain ⟨z,its,n,r,e⟩:=I.hok l _ hH
 exact ⟨z,its,n,r,r.length,e⟩
theorem VX {n:Nat} (h:n≤sizeLine):Builtin.List.listTooLong n=false:=by
 unfold Builtin.List.listTooLong
 exact decide_eq_false (by omega)
end
section
variable {X:Cx}
def VY:V→List V→Hp→VK→Prop:=fun x vs H Q=>∃l xs y,x=.ref l∧vs=[y]∧H l=some (.lst xs)∧xs.length<sizeLine∧Q .non (Am H l (.lst (xs++[y])))
theorem VZ:VW X "list.append" VY:=by
 intro pins s σ H x vs v us Q I rx rv h
 obtain ⟨l,xs,y,rfl,rfl,hH,hz,q⟩:=h
 cases rx
 obtain ⟨u,rfl,ru⟩:=rv.one
 obtain ⟨z,its,n,r,hl,e⟩:=I.lstM hH
 refine call_meets F.slot_list_append ⟨_,e,rfl⟩ F.entry_list_append (F.args_list_append_2 _ _) (PySem.list_append l its.toArray n u (by rw [Bc];omega)) ⟨e,?_⟩
 refine ⟨.non,_,I.lset (its':=its++[u]) hH e (by simp) (r.append (.cons ru .nil)) ?_,rfl,q⟩
 rw [Dw,List.length_singleton]
 omega
def V0:R2:=fun x y H Q=>∃l b xs zs,x=.ref l∧y=.ref b∧H l=some (.lst xs)∧H b=some (.lst zs)∧xs.length+zs.length≤sizeLine∧∀p,H p=none→Q (.ref p) (Am H p (.lst (xs++zs)))
theorem op_cat:OpR X (binaryOp .Add) V0:=by
 intro pins s σ H x y v u Q I rx ry h
 obtain ⟨l,b,xs,zs,rfl,rfl,hH,hB,hz,q⟩:=h
 cases rx
 cases ry
 obtain ⟨z,its,n,r,hl,e⟩:=I.lstM hH
 obtain ⟨z2,its2,n2,r2,hl2,e2⟩:=I.lstM hB
 refine PySem.P.add_list e e2 ?_ (by rw [Bc,Bc];omega)
 have ea:its.toArray++its2.toArray=(its++its2).toArray:=by simp
 rw [ea]
 exact ⟨.ref _,_,I.lnew (t':=s.toks) (r.append r2) (by rw [Dw];omega),rfl,q _ I.fresh⟩
def V1:R2:=fun x y H Q=>∃l k xs,x=.ref l∧y=.int k∧H l=some (.lst xs)∧-(2^63)≤k∧k<2^63∧xs.length*k.toNat≤sizeLine∧
 ∀p,H p=none→Q (.ref p) (Am H p (.lst (List.replicate k.toNat xs).flatten))
theorem KC {α:Type} (xs:List α) (k:Nat):(List.replicate k xs).flatten.length=k*xs.length:=by
 induction k with
 |zero=>simp
 |succ k ih=>rw [F4,GJ,Dw,ih,Nat.succ_mul,Nat.add_comm]
theorem V2:OpR X (binaryOp .Mult) V1:=by
 intro pins s σ H x y v u Q I rx ry h
 obtain ⟨l,k,xs,rfl,rfl,hH,h1,h2,hz,q⟩:=h
 cases rx
 obtain ⟨t,rfl⟩:=ry
 obtain ⟨z,its,n,r,hl,e⟩:=I.lstM hH
 have hlen:its.toArray.size*k.toNat≤sizeLine:=by rw [Bc,←hl];exact hz
 have hcap:¬its.toArray.size*k.toNat>(2^63 - 1) / 8:=by
  have:(sizeLine:Nat)≤(2^63 - 1) / 8:=by decide
  omega
 have hfit:¬(!Builtin.List.listFitsIndex k)=true:=by
  rw [fitsIndex_both h1 h2]
  exact BH
 have hlong:¬Builtin.List.listTooLong (its.toArray.size*k.toNat)=true:=by
  rw [VX hlen]
  exact BH
 have hnew:List.foldl (fun x1 x2=>x1++x2) #[] (List.replicate (if its.toArray.isEmpty=true then 0 else k.toNat) its.toArray)=(List.replicate k.toNat its).flatten.toArray:=by
  have f0:∀m:Nat,List.foldl (fun x1 x2=>x1++x2) #[] (List.replicate m its.toArray)=(List.replicate m its).flatten.toArray:=fun m=>by
   have:=KB its m []
   rw [HV] at this
   exact this
  rw [f0]
  cases its with
  |nil=>simp
  |cons a r'=>rw [if_neg (by simp)]
 refine wpAny_binaryOp_repeat_ref (T:="list") (U:="int") (by decide) ⟨_,e,rfl⟩ (fun s'=>typeIs_int s' k t) noFill_list_mul F.fills_int_mul F.slot_int_rmul repeat_list F.slot_int_index.lookup
  (call_meets F.slot_int_rmul (typeIs_int s k t) F.entry_int_rmul (F.args_int_rmul_2 _ _) (int___rmul___int_list k t l its.toArray n)
   ⟨e,rfl,⟨_,e,rfl⟩,call_meets F.slot_list_mul ⟨_,e,rfl⟩ F.entry_list_mul (F.args_list_mul_2 _ _) (AutoListH.list___mul___list_int_3 l its.toArray n k t hfit hcap hlong) ⟨e,?_⟩⟩)
 rw [hnew]
 exact ⟨.ref _,_,I.lnew (t':=s.toks) (r.rep k.toNat) (by rw [KC,Nat.mul_comm];exact hz),rfl,q _ I.fresh⟩
end
section
variable {prog:Program} {w:World} {A:Around} {E:Value→Shared→Prop} {s:Shared}
end
section
variable {X:Cx}
end
end L2
namespace Att
open PySem PySem.W PySem.Calls PyProof.Rows
theorem V3 {P:Params} {h:Heap}:∀(ns:List Int) (vs:List Value),WellAll P h vs (ns.map WData.int)→IntsAre vs ns:=by
 intro ns
 induction ns with
 |nil=>
  intro vs w
  rw [HW] at w
  cases w
  exact .nil
 |cons n ns ih=>
  intro vs w
  rw [Cs] at w
  cases w with
  |cons a b=>
   cases a
   exact .cons _ _ (ih _ b)
theorem V4 {l:OpenLaw} {n:Nat} (hn:l.most=some n) {P:Params} {h:Heap} {args:List WData} {vals:List Value}
 (hpre:l.row.toRowW.claim.pre args=true) (hwl:WellAll P h vals args):
 ∃a vs ns,vals=[Value.ref a]∧args=[WData.list (ns.map WData.int)]∧h.get? a=some {cls:=.type "list",data:=.seq vs.toArray}∧IntsAre vs ns∧ns.length≤n:=by
 have hsh:WShape.hasAll [] args [.list .int]=true:=(pre_splitW hpre).1
 have hc:l.pre.holds [] {args:=args}=true:=(pre_splitW hpre).2
 obtain ⟨d,r,rfl,h1,h2⟩:=hasAllW_cons hsh
 obtain rfl:=hasAllW_nil h2
 obtain ⟨xs,rfl,h3⟩:=hasW_list h1
 obtain ⟨ns,rfl⟩:=items_int h3
 have hlen:ns.length≤n:=by
  unfold OpenLaw.pre at hc
  have h4:(WTm.not (.lt (.lit (.int (n:Int))) (.len (.arg 0)))).holds [] {args:=[.list (ns.map .int)]}=true:=by
   have h4:=(holds_andW hc).1
   rw [hn] at h4
   exact h4
  have h5:=condW_of h4 (w_not (w_lt w_lit (w_len_list (w_arg rfl))))
  rw [Cb] at h5
  refine HU fun q=>?_
  have q':(n:Int)<((ns.length:Nat):Int):=by omega
  first
   |(rw [decide_eq_true q'] at h5;exact absurd h5 (by decide))
   |(simp at h5;omega)
 cases hwl with
 |cons w1 w2=>
  cases w2
  cases w1 with
  |list ho hall=>exact ⟨_,_,ns,rfl,rfl,ho,V3 ns _ hall,hlen⟩
theorem V5 (l:OpenLaw) (args:List WData):l.row.toRowW.claim.post args (.bool true) args=true:=
 postW_of (r:=l.row.toRowW) (X:=(true==true))
  (show WShape.has [] (.bool true) .bool=true by first |rfl |decide |simp [WShape.has,WShape.arms,WShape.armsAll])
  (show (WTm.eq .res (.lit (.bool true))).value [] {args:=args,res:=some (.bool true),after:=args}=some (.bool (true==true)) from w_eq_bool (w_res rfl) w_lit) rfl
section
variable {prog:Program} {w:World} {A:Around} {E:Value→Shared→Prop} {s:Shared} {K:Frag}
end
end Att
namespace L2
open PySem PySem.Spec PyProof.Rows
theorem vals_ints:∀{vs:List Value} {ns:List Int},IntsAre vs ns→Vals (ns.map V.int) vs
 |_,_,.nil=>.nil
 |_,_,.cons n t h=>.cons ⟨t,rfl⟩ (vals_ints h)
def defArgs (s:Stmt):Arguments:=match s with
 |.FunctionDef _ a _ _ _ _ _ _ _ _=>a
 |_=>{posonlyargs:=[],args:=[],vararg:=none,kwonlyargs:=[],kw_defaults:=[],kwarg:=none,defaults:=[]}
def defBody (s:Stmt):List Stmt:=match s with
 |.FunctionDef _ _ b _ _ _ _ _ _ _=>b
 |_=>[]
def defScope (s:Stmt):Scope:=match s with
 |.FunctionDef _ _ _ _ _ _ sc _ _ _=>sc
 |_=>{kind:=.function,names:=[],isGenerator:=false,isCoroutine:=false}
abbrev PQ:Eu:=fun _ _ _ _ _ _=>False
abbrev E0:XK:=fun _ _ _=>False
inductive PR (K:PySem.W.Frag) (x qual:Str) (st:Stmt) (f:Addr) (fd:FuncData):Prop where
 |mk (oc:Value) (od:Option Addr) (kV doc pm:Value) (an:Option Addr) (cdv ct:Value) (osl:Array (Option Value)) (f1:fd=PySem.W.fnOf x qual (defArgs st) (defBody st) (defScope st) .none kV doc pm an cdv ct) (f2:K.lookup f=some ⟨oc,od,.func fd,osl⟩) (f3:PySem.W.codeIn K cdv qual=true):PR K x qual st f fd
structure Fun (K:PySem.W.Frag) (x qual:Str) (st:Stmt) (f:Addr) (fd:FuncData):Prop where
 ex:PR K x qual st f fd
 kp:PySem.W.keepIn K (.ref f)=true
section
variable {P:Program} {w:World} {K:PySem.W.Frag} {mg:Str→Option Value} {base:Heap}
theorem Fun.binds {x qual:Str} {st:Stmt} {f:Addr} {fd:FuncData} {ps:List Str} (F:Fun K x qual st f fd)
 (h:∀(kV doc pm:Value) (an:Option Addr) (cdv ct:Value) (us:List Value),us.length=ps.length→bindArgs (PySem.W.fnOf x qual (defArgs st) (defBody st) (defScope st) .none kV doc pm an cdv ct) ⟨us,[]⟩=pure (ps.zip us)):Binds K fd ps []:=by
 obtain ⟨oc,od,kV,doc,pm,an,cdv,ct,osl,rfl,lk,hcd⟩:=F.ex
 exact .all (h kV doc pm an cdv ct)
theorem Ic {x qual:Str} {st:Stmt} {f:Addr} {oc:Value} {od an:Option Addr} {osl:Array (Option Value)} {kV doc pm cdv ct:Value} (l:K.lookup f=some ⟨oc,od,.func (PySem.W.fnOf x qual (defArgs st) (defBody st) (defScope st) .none kV doc pm an cdv ct),osl⟩)
 (c:PySem.W.codeIn K cdv qual=true) (k:PySem.W.keepIn K (.ref f)=true):Fun K x qual st f (PySem.W.fnOf x qual (defArgs st) (defBody st) (defScope st) .none kV doc pm an cdv ct):=⟨⟨oc,od,kV,doc,pm,an,cdv,ct,osl,rfl,l,c⟩,k⟩
end
section
variable {X:Cx}
theorem pv (i:Nat) {x:Str} {pos:Pos} (hN:X.N[i]?=some x:=by rfl) (hv:Eo X.env.scope x:=by first |exact Or.inl rfl |exact Or.inr (Or.inl rfl) |exact Or.inr (Or.inr rfl)) (hd:(x==("__debug__":Str))=false:=by decide)
 (hcd:(x==("__classdict__":Str))=false:=by decide):PE X (.Name x pos) (MM i):=GN hN hv hd hcd
end
end L2
namespace LS
open PySem PySem.Spec PyProof.Rows L2
inductive D where
 |non |bl (b:Bool) |int (i:Int) |str (x:Str) |tup (ds:List D) |loc (l:Nat) |scr (ns:List Int) |adr (a:Addr) |ty (n:String) |exc (n:Str) (fs:List (Str×Int)) |edic |glo (n:Str) |clo (a:Addr) (vs:List V) (ds:List D)
inductive DE where
 |lst (ds:List D) |tab
abbrev HD:=List DE
abbrev Ai:=List (Option D)
inductive Out (α:Type) where
 |ok (a:α) (h:HD) |err (C:Value) (fs:List (Str×D)) (h:HD) |stuck
def Out.bind {α β:Type} (o:Out α) (k:α→HD→Out β):Out β:=match o with
 |.ok a h=>k a h
 |.err C fs h=>.err C fs h
 |.stuck=>.stuck
@[simp] theorem Out.bind_ok {α β:Type} (a:α) (h:HD) (k:α→HD→Out β):(Out.ok a h).bind k=k a h:=rfl
@[simp] theorem Out.bind_err {α β:Type} (C:Value) (fs:List (Str×D)) (h:HD) (k:α→HD→Out β):(Out.err C fs h:Out α).bind k=.err C fs h:=rfl
@[simp] theorem Out.bind_stuck {α β:Type} (k:α→HD→Out β):(Out.stuck:Out α).bind k=.stuck:=rfl
def M6:HO→Bool
 |.tup _=>true
 |.frz _ _=>true
 |.ext _=>true
 |.xd _=>true
 |_=>false
def Kp (H H':Hp):Prop:=∀b o,H b=some o→M6 o=true→H' b=some o
theorem Kp.refl (H:Hp):Kp H H:=fun _ _ e _=>e
theorem Kp.trans {H H1 H2:Hp} (a:Kp H H1) (b:Kp H1 H2):Kp H H2:=fun c o e i=>b c o (a c o e i) i
theorem Kp.new {H:Hp} {p:Addr} {o:HO} (h:H p=none):Kp H (Am H p o):=fun b u e _=>by rw [Ao (BJ e h)];exact e
theorem Kp.set {H:Hp} {p:Addr} {o u:HO} (h:H p=some o) (i:M6 o=false):Kp H (Am H p u):=fun b w e iw=>by
 rw [Ao]
 ·exact e
 ·intro z
  rw [z,h] at e;cases e;rw [i] at iw;cases iw
def FzL (K:PySem.W.Frag) (H:Hp) (a:Addr) (xs:List V):Prop:=(∃o,H a=some (.frz o (.lst xs)))∨SqL K (fun _=>none) a xs
theorem Kp.fzL {K:PySem.W.Frag} {H H':Hp} {a:Addr} {xs:List V} (k:Kp H H') (h:FzL K H a xs):FzL K H' a xs:=by
 rcases h with ⟨o,h⟩ |h
 ·exact .inl ⟨o,k _ _ h rfl⟩
 ·exact .inr h
theorem FzL.sq {K:PySem.W.Frag} {H:Hp} {a:Addr} {xs:List V} (h:FzL K H a xs):SqL K H a xs:=by
 rcases h with ⟨o,h⟩ |(h |⟨o,h⟩) |h
 ·exact .inl (.inr ⟨o,h⟩)
 ·cases h
 ·cases h
 ·exact .inr h
def Fh (C:Addr) (da:Option Addr) (a:Addr) (h:Heap):Prop:=∃o vs,h.get? a=some o∧o.cls=.ref C∧(∀d,da=some d→o.dict=some d)∧o.data=.fields vs
def M7 (a:Addr) (h:Heap):Prop:=a≠sysModules∧∃o ep,h.get? a=some o∧o.ExactDict∧o.data=.dict #[] ep
mutual
def DV (K:PySem.W.Frag) (m:List Addr) (H:Hp):D→V→Prop
 |.non,v=>v=.non
 |.bl b,v=>v=.bl b
 |.int i,v=>v=.int i
 |.str x,v=>v=.str x
 |.tup ds,v=>∃a vs,v=.ref a∧H a=some (.tup vs)∧DVs K m H ds vs
 |.loc l,v=>∃a,v=.ref a∧m[l]?=some a
 |.scr ns,v=>∃a,v=.ref a∧FzL K H a (ns.map V.int)
 |.adr a,v=>v=.ref a
 |.ty n,v=>v=.ty n
 |.exc n fs,v=>∃a C da,v=.ref a∧PySem.W.nsIn K mainGlobals n=some (some (.ref C))∧H a=some (.ext (Fh C da a))∧∀f i,fs.lookup f=some i→∃d fv,da=some d∧H d=some (.xd fv)∧fv.lookup f=some (.int i)
 |.edic,v=>∃a,v=.ref a∧H a=some (.ext (M7 a))
 |.glo n,v=>∃a,v=.ref a∧PySem.W.nsIn K mainGlobals n=some (some (.ref a))
 |.clo a vs ds,v=>v=.ref a∧DVs K m H ds vs
def DVs (K:PySem.W.Frag) (m:List Addr) (H:Hp):List D→List V→Prop
 |[],vs=>vs=[]
 |d::ds,vs=>∃v r,vs=v::r∧DV K m H d v∧DVs K m H ds r
end
section
variable {K:PySem.W.Frag} {m m':List Addr} {H H':Hp}
theorem Jl {l:Nat} {a:Addr} (p:m <+:m') (h:m[l]?=some a):m'[l]?=some a:=by
 obtain ⟨t,rfl⟩:=p
 have hl:l<m.length:=(qa6.mp h).1
 rw [FG hl];exact h
mutual
theorem DV.keep (p:m <+:m') (k:Kp H H'):∀{d:D} {v:V},DV K m H d v→DV K m' H' d v
 |.non,_,h=>by simpa [DV] using h
 |.bl _,_,h=>by simpa [DV] using h
 |.int _,_,h=>by simpa [DV] using h
 |.str _,_,h=>by simpa [DV] using h
 |.tup ds,_,h=>by
  simp only [DV] at h ⊢
  obtain ⟨a,vs,e,q,r⟩:=h
  exact ⟨a,vs,e,k _ _ q rfl,DVs.keep p k r⟩
 |.loc l,_,h=>by
  simp only [DV] at h ⊢
  obtain ⟨a,e,q⟩:=h
  exact ⟨a,e,Jl p q⟩
 |.scr ns,_,h=>by
  simp only [DV] at h ⊢
  obtain ⟨a,e,q⟩:=h
  exact ⟨a,e,k.fzL q⟩
 |.adr _,_,h=>by simpa [DV] using h
 |.ty _,_,h=>by simpa [DV] using h
 |.exc _ _,_,h=>by
  simp only [DV] at h ⊢
  obtain ⟨a,C,da,e,q,r,t⟩:=h
  exact ⟨a,C,da,e,q,k _ _ r rfl,fun f i z=>let ⟨d,fv,z1,z2,z3⟩:=t f i z;⟨d,fv,z1,k _ _ z2 rfl,z3⟩⟩
 |.edic,_,h=>by
  simp only [DV] at h ⊢
  obtain ⟨a,e,r⟩:=h
  exact ⟨a,e,k _ _ r rfl⟩
 |.glo _,_,h=>by simpa [DV] using h
 |.clo _ _ ds,_,h=>by
  simp only [DV] at h ⊢
  exact ⟨h.1,DVs.keep p k h.2⟩
theorem DVs.keep (p:m <+:m') (k:Kp H H'):∀{ds:List D} {vs:List V},DVs K m H ds vs→DVs K m' H' ds vs
 |[],_,h=>by simpa [DVs] using h
 |d::ds,_,h=>by
  simp only [DVs] at h ⊢
  obtain ⟨v,r,e,q,t⟩:=h
  exact ⟨v,r,e,DV.keep p k q,DVs.keep p k t⟩
end
theorem DVs.nil:DVs K m H [] []:=by simp [DVs]
theorem DVs.cons {d:D} {v:V} {ds:List D} {vs:List V} (h:DV K m H d v) (t:DVs K m H ds vs):DVs K m H (d::ds) (v::vs):=by
 simp only [DVs];exact ⟨v,vs,rfl,h,t⟩
theorem DVs.len:∀{ds:List D} {vs:List V},DVs K m H ds vs→ds.length=vs.length
 |[],_,h=>by simp only [DVs] at h;subst h;rfl
 |d::ds,_,h=>by
  simp only [DVs] at h
  obtain ⟨v,r,e,_,t⟩:=h
  subst e
  simp [DVs.len t]
theorem DVs.get:∀{ds:List D} {vs:List V} {i:Nat} {d:D},DVs K m H ds vs→ds[i]?=some d→∃v,vs[i]?=some v∧DV K m H d v
 |[],_,_,_,_,e=>by simp at e
 |d::ds,_,i,x,h,e=>by
  simp only [DVs] at h
  obtain ⟨v,r,rfl,q,t⟩:=h
  cases i with
  |zero=>simp at e;subst e;exact ⟨v,rfl,q⟩
  |succ i=>
   obtain ⟨w,h1,h2⟩:=DVs.get (i:=i) t (by simpa using e)
   exact ⟨w,by simpa using h1,h2⟩
theorem DVs.app:∀{ds es:List D} {vs ws:List V},DVs K m H ds vs→DVs K m H es ws→DVs K m H (ds++es) (vs++ws)
 |[],_,_,_,h,t=>by simp only [DVs] at h;subst h;exact t
 |d::ds,_,_,_,h,t=>by
  simp only [DVs] at h
  obtain ⟨v,r,rfl,q,u⟩:=h
  exact .cons q (DVs.app u t)
theorem DVs.set:∀{ds:List D} {vs:List V} {d:D} {v:V} (i:Nat),DVs K m H ds vs→DV K m H d v→DVs K m H (ds.set i d) (vs.set i v)
 |[],_,_,_,_,h,_=>by simp only [DVs] at h;subst h;exact .nil
 |d::ds,_,_,_,i,h,q'=>by
  simp only [DVs] at h
  obtain ⟨v,r,rfl,q,u⟩:=h
  cases i with
  |zero=>exact .cons q' u
  |succ i=>exact .cons q (DVs.set i u q')
theorem DVs.take:∀{ds:List D} {vs:List V} (n:Nat),DVs K m H ds vs→DVs K m H (ds.take n) (vs.take n)
 |_,_,0,_=>by simpa using (DVs.nil:DVs K m H [] [])
 |[],_,n+1,h=>by simp only [DVs] at h;subst h;exact .nil
 |d::ds,_,n+1,h=>by
  simp only [DVs] at h
  obtain ⟨v,r,rfl,q,u⟩:=h
  exact .cons q (DVs.take n u)
theorem DVs.drop:∀{ds:List D} {vs:List V} (n:Nat),DVs K m H ds vs→DVs K m H (ds.drop n) (vs.drop n)
 |_,_,0,h=>by simpa using h
 |[],_,n+1,h=>by simp only [DVs] at h;subst h;exact .nil
 |d::ds,_,n+1,h=>by
  simp only [DVs] at h
  obtain ⟨v,r,rfl,q,u⟩:=h
  simpa using DVs.drop n u
theorem DVs.rep {ds:List D} {vs:List V} (h:DVs K m H ds vs):∀n,DVs K m H (List.replicate n ds).flatten (List.replicate n vs).flatten
 |0=>by simpa using (DVs.nil:DVs K m H [] [])
 |n+1=>by
  rw [F4,GJ,F4,GJ]
  exact h.app (DVs.rep h n)
def Ie (q:Str) (c:Addr) (h:Heap):Prop:=h.CodeRec (.ref c) q
def tabP (K:PySem.W.Frag):Option (Addr×Addr):=match PySem.W.nsIn K mainGlobals "law" with
 |some (some (.ref f))=>(match K.lookup f with
  |some ⟨_,_,.func fd,_⟩=>(match fd.code with
   |.ref c=>(match K.lookup c with
    |some ⟨_,_,.fields vs,_⟩=>(match (vs[11]?:Option Value) with
     |some (.ref P)=>some (c,P)
     |_=>none)
    |_=>none)
   |_=>none)
  |_=>none)
 |_=>none
def TabIs (K:PySem.W.Frag) (H:Hp) (a:Addr):Prop:=(∃c,tabP K=some (c,a))∧∃ps,H a=some (.tbl ps)∧TriplesOk ps.toList∧∀pos cv,codeAmong pos ps.toList=some cv→∃c,cv=.ref c∧H c=some (.ext (Ie "law.<locals>.<lambda>" c))
theorem TabIs.keep {K:PySem.W.Frag} {H H':Hp} {a:Addr} (t:TabIs K H a) (k:Kp H H') (e:H' a=H a):TabIs K H' a:=by
 obtain ⟨z,ps,h1,h2,h3⟩:=t
 exact ⟨z,ps,e.trans h1,h2,fun pos cv q=>let ⟨c,q1,q2⟩:=h3 pos cv q;⟨c,q1,k _ _ q2 rfl⟩⟩
def KG (K:PySem.W.Frag) (m:List Addr) (H:Hp):DE→Addr→Prop
 |.lst ds,a=>∃vs,H a=some (.lst vs)∧DVs K m H ds vs
 |.tab,a=>TabIs K H a
structure HR (K:PySem.W.Frag) (m:List Addr) (h:HD) (H:Hp):Prop where
 len:m.length=h.length
 nd:m.Nodup
 cells:∀(l:Nat) (c:DE) (a:Addr),h[l]?=some c→m[l]?=some a→KG K m H c a
theorem HR.at {h:HD} {l:Nat} {c:DE} (r:HR K m h H) (e:h[l]?=some c):∃a,m[l]?=some a∧KG K m H c a:=by
 have hl:l<h.length:=(qa6.mp e).1
 have:l<m.length:=by rw [r.len];exact hl
 exact ⟨m[l],A6 this,r.cells l c _ e (A6 this)⟩
theorem HR.mem {h:HD} {a:Addr} (r:HR K m h H) (ha:a∈m):H a≠none:=by
 obtain ⟨l,hl,rfl⟩:=Kf ha
 have hl':l<h.length:=by rw [←r.len];exact hl
 have:=r.cells l h[l] m[l] (A6 hl') (A6 hl)
 cases hc:h[l] with
 |lst ds=>
  rw [hc] at this
  obtain ⟨vs,e,_⟩:=this
  rw [e];simp
 |tab=>
  rw [hc] at this
  obtain ⟨_,ps,e,_⟩:=this
  rw [e];simp
theorem HR.same {h:HD} (r:HR K m h H) (k:Kp H H') (s:∀a∈m,H' a=H a):HR K m h H':=by
 refine ⟨r.len,r.nd,fun l c a e q=>?_⟩
 have hm:a∈m:=GH q
 have:=r.cells l c a e q
 cases c with
 |lst ds=>
  obtain ⟨vs,e1,e2⟩:=this
  exact ⟨vs,by rw [s a hm];exact e1,e2.keep (AJ _) k⟩
 |tab=>exact TabIs.keep this k (s a hm)
theorem HR.new {h:HD} {p:Addr} {o:HO} (r:HR K m h H) (hp:H p=none):HR K m h (Am H p o):=
 r.same (.new hp) fun a ha=>Ao fun z=>r.mem ha (z ▸ hp)
theorem HR.newCell {h:HD} {p:Addr} {o:HO} {c:DE} (r:HR K m h H) (hp:H p=none) (hc:KG K (m++[p]) (Am H p o) c p):HR K (m++[p]) (h++[c]) (Am H p o):=by
 have hpm:p∉m:=fun z=>r.mem z hp
 refine ⟨by simp [r.len],?_,fun l c' a e q=>?_⟩
 ·rw [List.nodup_append]
  refine ⟨r.nd,by simp,fun a ha b hb=>?_⟩
  rw [qaF] at hb
  subst hb
  intro z;subst z;exact hpm ha
 ·by_cases hl:l<m.length
  ·rw [FG hl] at q
   rw [FG (by rw [←r.len];exact hl)] at e
   have:=r.cells l c' a e q
   have hne:a≠p:=fun z=>hpm (z ▸ GH q)
   cases c' with
   |lst ds=>
    obtain ⟨vs,e1,e2⟩:=this
    exact ⟨vs,by rw [Ao hne];exact e1,e2.keep (List.prefix_append _ _) (.new hp)⟩
   |tab=>exact TabIs.keep this (.new hp) (Ao hne)
  ·have h1:m.length≤l:=HU hl
   rw [IV h1] at q
   rw [IV (by rw [←r.len];exact h1)] at e
   have e0:l - m.length=0:=by
    cases hz:l - m.length with
    |zero=>rfl
    |succ n=>rw [hz] at q;simp at q
   rw [←r.len] at e
   rw [e0] at q e
   simp at q e
   subst q e
   exact hc
theorem HR.setCell {h:HD} {p:Addr} {l:Nat} {o u:HO} {c:DE} (r:HR K m h H) (hl:m[l]?=some p) (ho:H p=some o) (i:M6 o=false) (hc:KG K m (Am H p u) c p):HR K m (h.set l c) (Am H p u):=by
 refine ⟨by simp [r.len],r.nd,fun j c' a e q=>?_⟩
 by_cases hj:j=l
 ·subst hj
  rw [hl] at q;cases q
  have hlt:j<h.length:=by rw [←r.len];exact (qa6.mp hl).1
  rw [CZ hlt] at e
  cases e
  exact hc
 ·rw [BW (Ne.symm hj)] at e
  have:=r.cells j c' a e q
  have hne:a≠p:=by
   intro z
   subst z
   obtain ⟨h1,e1⟩:=qa6.mp q
   obtain ⟨h2,e2⟩:=qa6.mp hl
   exact hj ((List.getElem_inj r.nd).mp (e1.trans e2.symm))
  cases c' with
  |lst ds=>
   obtain ⟨vs,e1,e2⟩:=this
   exact ⟨vs,by rw [Ao hne];exact e1,e2.keep (AJ _) (.set ho i)⟩
  |tab=>exact TabIs.keep this (.set ho i) (Ao hne)
def ER (K:PySem.W.Frag) (m:List Addr) (H:Hp) (ρ:Ai) (σ:L2.St):Prop:=ρ.length=σ.length∧∀(i:Nat) (d:D),ρ[i]?=some (some d)→∃v,σ[i]?=some (some v)∧DV K m H d v
theorem ER.keep {ρ:Ai} {σ:L2.St} (p:m <+:m') (k:Kp H H') (e:ER K m H ρ σ):ER K m' H' ρ σ:=⟨e.1,fun i d h=>let ⟨v,a,b⟩:=e.2 i d h;⟨v,a,b.keep p k⟩⟩
theorem ER.set {ρ:Ai} {σ:L2.St} {i:Nat} {d:D} {v:V} (e:ER K m H ρ σ) (r:DV K m H d v):ER K m H (ρ.set i (some d)) (σ.set i (some v)):=by
 refine ⟨by simp [e.1],fun j d' h=>?_⟩
 by_cases hj:i=j
 ·subst hj
  by_cases hl:i < ρ.length
  ·rw [CZ hl] at h
   cases h
   exact ⟨v,by rw [CZ (by rw [←e.1];exact hl)],r⟩
  ·rw [List.getElem?_eq_none (by simp;omega)] at h;cases h
 ·rw [BW hj] at h
  obtain ⟨w,a,b⟩:=e.2 j d' h
  exact ⟨w,by rw [BW hj];exact a,b⟩
theorem ER.start {N:List Str} {ds:List D} {vs:List V} (h:DVs K m H ds vs):ER K m H (ds.map some++List.replicate (N.length - ds.length) none) (L2.start N vs):=by
 refine ⟨by simp [L2.start,h.len],fun i d e=>?_⟩
 by_cases hl:i<ds.length
 ·rw [FG (by simpa using hl),Ca] at e
  obtain ⟨d',e1⟩:∃d',ds[i]?=some d':=⟨ds[i],A6 hl⟩
  rw [e1] at e
  simp at e
  subst e
  obtain ⟨v,q,r⟩:=h.get e1
  refine ⟨v,?_,r⟩
  unfold L2.start
  rw [FG (by simpa [←h.len] using hl),Ca,q]
  rfl
 ·rw [IV (by simpa using HU hl)] at e
  rw [Mz] at e
  split at e<;>cases e
def XD (K:PySem.W.Frag) (m:List Addr) (H:Hp) (fs:List (Str×D)) (da:Option Addr):Prop:=
 ∀f d,fs.lookup f=some d→∃a fv v,da=some a∧H a=some (.xd fv)∧fv.lookup f=some v∧DV K m H d v
def Post {α β:Type} (K:PySem.W.Frag) (R:List Addr→Hp→α→β→Prop) (m:List Addr) (H:Hp) (E:XK) (Q:β→Hp→Prop):Out α→Prop
 |.ok a h'=>∀v m' H',m <+:m'→Kp H H'→HR K m' h' H'→R m' H' a v→Q v H'
 |.err C fs h'=>∀da m' H',m <+:m'→Kp H H'→HR K m' h' H'→XD K m' H' fs da→E C da H'
 |.stuck=>False
theorem Post.ahead {α β:Type} {R:List Addr→Hp→α→β→Prop} {E:XK} {Q:β→Hp→Prop} {o:Out α} (p:m <+:m') (k:Kp H H') (h:Post K R m H E Q o):Post K R m' H' E Q o:=by
 cases o with
 |ok a h'=>exact fun v m2 H2 p2 k2=>h v m2 H2 (p.trans p2) (k.trans k2)
 |err C fs h'=>exact fun da m2 H2 p2 k2=>h da m2 H2 (p.trans p2) (k.trans k2)
 |stuck=>exact h
theorem Post.bind {α β γ δ:Type} {R:List Addr→Hp→α→β→Prop} {R':List Addr→Hp→γ→δ→Prop} {E:XK} {Q:δ→Hp→Prop} {Q':β→Hp→Prop} {o:Out α} {k:α→HD→Out γ}
 (h:Post K R' m H E Q (o.bind k)) (f:∀a h1 v m1 H1,o=.ok a h1→m <+:m1→Kp H H1→HR K m1 h1 H1→R m1 H1 a v→Post K R' m1 H1 E Q (k a h1)→Q' v H1):Post K R m H E Q' o:=by
 cases o with
 |ok a h1=>exact fun v m1 H1 p kk hr r=>f a h1 v m1 H1 rfl p kk hr r (h.ahead p kk)
 |err C fs h1=>exact h
 |stuck=>exact h
theorem Post.mono {α β:Type} {R:List Addr→Hp→α→β→Prop} {E:XK} {Q Q':β→Hp→Prop} {o:Out α} (h:Post K R m H E Q o) (f:∀v H',Q v H'→Q' v H'):Post K R m H E Q' o:=by
 cases o with
 |ok a h1=>exact fun v m1 H1 p k hr r=>f _ _ (h v m1 H1 p k hr r)
 |err C fs h1=>exact h
 |stuck=>exact h
end
abbrev ME:=Ai→HD→Out D
abbrev MT:=Ai→HD→Out Bool
abbrev MA:=Ai→HD→Out (List D)
inductive Fl where
 |nx |bk |ct |rt (d:D)
abbrev MS:=Ai→HD→Out (Fl×Ai)
def rD (K:PySem.W.Frag):List Addr→Hp→D→V→Prop:=fun m H d v=>DV K m H d v
def rB:List Addr→Hp→Bool→Bool→Prop:=fun _ _ a b=>a=b
def Ec (K:PySem.W.Frag):List Addr→Hp→List D→List V→Prop:=fun m H d v=>DVs K m H d v
inductive tM {α β:Type} (K:PySem.W.Frag) (R:List Addr→Hp→α→β→Prop) (E:XK) (f:Ai→HD→Out α) (σ:L2.St) (H:Hp) (Q:β→Hp→Prop):Prop where
 |mk (m:List Addr) (ρ:Ai) (h:HD) (hr:HR K m h H) (er:ER K m H ρ σ) (p:Post K R m H E Q (f ρ h)):tM K R E f σ H Q
abbrev tD (K:PySem.W.Frag) (E:XK) (f:ME):TE:=tM K (rD K) E f
abbrev Ey (K:PySem.W.Frag) (E:XK) (f:MT):TT:=tM K rB E f
abbrev PU (K:PySem.W.Frag) (E:XK) (f:MA):TA:=tM K (Ec K) E f
def PV (K:PySem.W.Frag) (m:List Addr) (H:Hp) (D:D9):Fl×Ai→Prop
 |(.nx,ρ)=>∀σ,ER K m H ρ σ→D.nx σ H
 |(.bk,ρ)=>∀σ,ER K m H ρ σ→D.bk σ H
 |(.ct,ρ)=>∀σ,ER K m H ρ σ→D.ct σ H
 |(.rt d,_)=>∀v,DV K m H d v→D.rt v H
def PostS (K:PySem.W.Frag) (m:List Addr) (H:Hp) (E:XK) (D:D9):Out (Fl×Ai)→Prop
 |.ok a h'=>∀m' H',m <+:m'→Kp H H'→HR K m' h' H'→PV K m' H' D a
 |.err C fs h'=>∀da m' H',m <+:m'→Kp H H'→HR K m' h' H'→XD K m' H' fs da→E C da H'
 |.stuck=>False
inductive Ig (K:PySem.W.Frag) (E:XK) (g:MS) (D:D9) (σ:L2.St) (H:Hp):Prop where
 |mk (m:List Addr) (ρ:Ai) (h:HD) (hr:HR K m h H) (er:ER K m H ρ σ) (p:PostS K m H E D (g ρ h)):Ig K E g D σ H
theorem PostS.ahead {K:PySem.W.Frag} {m m':List Addr} {H H':Hp} {E:XK} {D:D9} {o:Out (Fl×Ai)} (p:m <+:m') (k:Kp H H') (h:PostS K m H E D o):PostS K m' H' E D o:=by
 cases o with
 |ok a h'=>exact fun m2 H2 p2 k2=>h m2 H2 (p.trans p2) (k.trans k2)
 |err C fs h'=>exact fun da m2 H2 p2 k2=>h da m2 H2 (p.trans p2) (k.trans k2)
 |stuck=>exact h
abbrev Ev (X:Cx) (E:XK) (e:Expr) (f:ME):Prop:=PE X e (tD X.K E f)
abbrev Ez (X:Cx) (E:XK) (e:Expr) (f:MT):Prop:=PT X e (Ey X.K E f)
abbrev Ct (X:Cx) (E:XK) (es:List Expr) (f:MA):Prop:=PA X es (PU X.K E f)
abbrev Ex (X:Cx) (E:XK) (st:Stmt) (g:MS):Prop:=PS X st (Ig X.K E g)
abbrev A8 (X:Cx) (E:XK) (sts:List Stmt) (g:MS):Prop:=Ep X sts (Ig X.K E g)
section
variable {X:Cx}
theorem Ck {e:Expr} {t t':TE} (h:PE X e t) (i:∀σ H Q,t' σ H Q→t σ H Q):PE X e t':=fun pins s σ H Q I q=>h pins s σ H Q I (i σ H Q q)
theorem KH {e:Expr} {t t':TT} (h:PT X e t) (i:∀σ H Q,t' σ H Q→t σ H Q):PT X e t':=fun pins s σ H Q I q=>h pins s σ H Q I (i σ H Q q)
theorem PX {e:List Expr} {t t':TA} (h:PA X e t) (i:∀σ H Q,t' σ H Q→t σ H Q):PA X e t':=fun pos pins s σ H Q I q=>h pos pins s σ H Q I (i σ H Q q)
theorem Gc {e:Stmt} {t t':TS} (h:PS X e t) (i:∀D σ H,t' D σ H→t D σ H):PS X e t':=fun pins s σ H D I q=>h pins s σ H D I (i D σ H q)
theorem PY {e:List Stmt} {t t':TS} (h:Ep X e t) (i:∀D σ H,t' D σ H→t D σ H):Ep X e t':=fun pins s σ H D I q=>h pins s σ H D I (i D σ H q)
end
end LS
namespace LS
open PySem PySem.Spec PyProof.Rows L2
section
variable {X:Cx} {E:XK} {a b c:Expr} {pos:Pos} {f g k:ME}
def Ab (i:Nat):ME:=fun ρ h=>match ρ[i]? with
 |some (some d)=>.ok d h
 |_=>.stuck
theorem Ae {i:Nat} (h:PE X a (MM i)):Ev X E a (Ab i):=Ck h fun σ H Q z1_=>by
 obtain ⟨m,ρ,hd,hr,er,p⟩:=z1_
 unfold Ab at p
 split at p
 ·rename_i d e
  obtain ⟨v,e1,r⟩:=er.2 i d e
  exact ⟨v,e1,p v m H (AJ _) (.refl _) hr r⟩
 ·exact p.elim
def mC (d:D):ME:=fun _ h=>.ok d h
theorem Ih {d:D} {v:V} (h:PE X a (tC v)) (r:∀m H,DV X.K m H d v):Ev X E a (mC d):=Ck h fun σ H Q z2_=>by obtain ⟨m,ρ,hd,hr,er,p⟩:=z2_;exact (p v m H (AJ _) (.refl _) hr (r m H))
theorem Ak {i:Int} {j:Nat}:Ev X E (.Constant (.int i) j pos) (mC (.int i)):=Ih Pc fun _ _=>by simp [DV]
theorem B7 {i:Bool} {j:Nat}:Ev X E (.Constant (.bool i) j pos) (mC (.bl i)):=Ih T3 fun _ _=>by simp [DV]
theorem Ii {j:Nat}:Ev X E (.Constant .none j pos) (mC .non):=Ih T4 fun _ _=>by simp [DV]
theorem BX {x:Str} {j:Nat}:Ev X E (.Constant (.str x) j pos) (mC (.str x)):=Ih T6 fun _ _=>by simp [DV]
theorem KI {x:Str} {i:Int} {t:Tok} {pos:Pos} (hg:Gl X x) (hm:X.mg x=some (.int i t)) (hd:(x==("__debug__":Str))=false:=by decide):Ev X E (.Name x pos) (mC (.int i)):=
 Ih (T7 (v:=.int i) hg hm ⟨t,rfl⟩ hd) fun _ _=>by simp [DV]
def Ag (op:D→D→HD→Out D) (f g:ME):ME:=fun ρ h=>(f ρ h).bind fun x h1=>(g ρ h1).bind fun y h2=>op x y h2
theorem KJ {op:D→D→HD→Out D} {Q:VK} {R:V→V→Hp→Prop} {σ:L2.St} {H:Hp} (h:tD X.K E (Ag op f g) σ H Q)
 (i:∀m H2 h2 x y v u,HR X.K m h2 H2→DV X.K m H2 x v→DV X.K m H2 y u→Post X.K (rD X.K) m H2 E Q (op x y h2)→R v u H2):tD X.K E f σ H fun v H1=>tD X.K E g σ H1 fun u H2=>R v u H2:=by
 obtain ⟨m,ρ,hd,hr,er,p⟩:=h
 refine ⟨m,ρ,hd,hr,er,Post.bind p fun x h1 v m1 H1 _ p1 k1 hr1 r1 q1=>?_⟩
 refine ⟨m1,ρ,h1,hr1,er.keep p1 k1,Post.bind q1 fun y h2 u m2 H2 _ p2 k2 hr2 r2 q2=>?_⟩
 exact i m2 H2 h2 x y v u hr2 (DV.keep p2 k2 r1) r2 q2
def BL (X:Cx) (f:Value→Value→Sem Value) (op:D→D→HD→Out D):Prop:=
 ∃r:R2,OpR X f r∧∀m H h E x y v u Q,HR X.K m h H→DV X.K m H x v→DV X.K m H y u→Post X.K (rD X.K) m H E Q (op x y h)→r v u H Q
theorem Aw {o:Operator} {op:D→D→HD→Out D} (ho:BL X (binaryOp o) op) (ha:Ev X E a f) (hb:Ev X E b g):Ev X E (.BinOp a o b pos) (Ag op f g):=by
 obtain ⟨r,ho,i⟩:=ho
 exact Ck (UM ho ha hb) fun σ H Q h=>KJ h fun m H2 h2 x y v u hr rx ry q=>i m H2 h2 E x y v u Q hr rx ry q
theorem Jm {o:CmpOp} {op:D→D→HD→Out D} (ho:BL X (compareOp o) op) (ha:Ev X E a f) (hb:Ev X E b g) (hm:behindInMarks o b=false):Ev X E (.Compare a [o] [b] pos) (Ag op f g):=by
 obtain ⟨r,ho,i⟩:=ho
 exact Ck (UW ho ha hb hm) fun σ H Q h=>KJ h fun m H2 h2 x y v u hr rx ry q=>i m H2 h2 E x y v u Q hr rx ry q
def Ij:D→HD→Out Bool
 |.bl b,h=>.ok b h
 |_,_=>.stuck
def Bj (f:ME):MT:=fun ρ h=>(f ρ h).bind Ij
theorem PZ {m:List Addr} {H:Hp} {x:D} {v:V} {h:HD} {Q:Bool→Hp→Prop} (hr:HR X.K m h H) (r:DV X.K m H x v) (q:Post X.K rB m H E Q (Ij x h)):∃k,v=.bl k∧Q k H:=by
 cases x with
 |bl b=>
  simp only [DV] at r
  exact ⟨b,r,q b m H (AJ _) (.refl _) hr rfl⟩
 |_=>exact q.elim
theorem CK {o:CmpOp} {op:D→D→HD→Out D} (ho:BL X (compareOp o) op) (ha:Ev X E a f) (hb:Ev X E b g) (hm:behindInMarks o b=false):Ez X E (.Compare a [o] [b] pos) (Bj (Ag op f g)):=by
 obtain ⟨r,ho,i⟩:=ho
 refine KH (UX ho ha hb hm) fun σ H Q h=>?_
 obtain ⟨m,ρ,hd,hr,er,p⟩:=h
 have h':tD X.K E (Ag op f g) σ H fun x H'=>∃k,x=.bl k∧Q k H':=
  ⟨m,ρ,hd,hr,er,Post.bind p fun x h1 v m1 H1 _ p1 k1 hr1 r1 q1=>PZ hr1 r1 q1⟩
 exact KJ h' fun m H2 h2 x y v u hr rx ry q=>i m H2 h2 E x y v u _ hr rx ry q
def Fi:D→HD→Out Bool
 |.non,h=>.ok false h
 |.bl b,h=>.ok b h
 |.int i,h=>.ok (i != 0) h
 |.tup ds,h=>.ok (!ds.isEmpty) h
 |.loc l,h=>match h[l]? with
  |some (.lst ds)=>.ok (!ds.isEmpty) h
  |_=>.stuck
 |_,_=>.stuck
def Cu (f:ME):MT:=fun ρ h=>(f ρ h).bind Fi
theorem P0 {α β:Type} {xs:List α} {ys:List β} (h:xs.length=ys.length):xs.isEmpty=ys.isEmpty:=by
 cases xs<;>cases ys<;>simp_all
theorem V6 {m:List Addr} {H:Hp} {x:D} {v:V} {h:HD} {Q:Bool→Hp→Prop} (hr:HR X.K m h H) (r:DV X.K m H x v) (q:Post X.K rB m H E Q (Fi x h)):∃k,MZ X.K v H k∧Q k H:=by
 have go:∀k,Fi x h=.ok k h→Q k H:=fun k e=>by rw [e] at q;exact q k m H (AJ _) (.refl _) hr rfl
 cases x with
 |non=>simp only [DV] at r;subst r;exact ⟨false,rfl,go _ rfl⟩
 |bl b=>simp only [DV] at r;subst r;exact ⟨b,rfl,go _ rfl⟩
 |int i=>simp only [DV] at r;subst r;exact ⟨_,rfl,go _ rfl⟩
 |str x=>exact q.elim
 |tup ds=>
  simp only [DV] at r
  obtain ⟨p,vs,rfl,hp,dv⟩:=r
  exact ⟨_,.inr ⟨vs,SqT.of hp,rfl⟩,by rw [←P0 dv.len];exact go _ rfl⟩
 |loc l=>
  simp only [DV] at r
  obtain ⟨p,rfl,hp⟩:=r
  simp only [Fi] at q
  split at q
  ·rename_i ds e
   obtain ⟨vs,e1,dv⟩:=hr.cells l _ p e hp
   exact ⟨_,.inl ⟨vs,SqL.of e1,rfl⟩,by rw [←P0 dv.len];exact q _ m H (AJ _) (.refl _) hr rfl⟩
  ·exact q.elim
 |scr ns=>exact q.elim
 |adr a=>exact q.elim
 |ty a=>exact q.elim
 |exc n fs=>exact q.elim
 |edic=>exact q.elim
 |glo n=>exact q.elim
 |clo a vs ds=>exact q.elim
theorem DL (ha:Ev X E a f) (he:∀Fx,isTrue a X.env Fx=(do let v ←Fx;standAt a.pos;holding [v] (truthy v)):=by intro _;rfl):Ez X E a (Cu f):=
 KH (U1 ha he) fun σ H Q z3_=>by obtain ⟨m,ρ,hd,hr,er,p⟩:=z3_;exact (⟨m,ρ,hd,hr,er,Post.bind p fun x h1 v m1 H1 _ p1 k1 hr1 r1 q1=>V6 hr1 r1 q1⟩)
variable {tf tg:MT} {rest:List Expr}
def GQ (f g:MT):MT:=fun ρ h=>(f ρ h).bind fun b h1=>if b=true then g ρ h1 else .ok false h1
def DM (f g:MT):MT:=fun ρ h=>(f ρ h).bind fun b h1=>if b=true then .ok true h1 else g ρ h1
def Cw (f:MT):MT:=fun ρ h=>(f ρ h).bind fun b h1=>.ok (!b) h1
abbrev GR (X:Cx) (E:XK) (e:Expr) (f:MT):Prop:=PW X e (Ey X.K E f)
theorem P3 {e:Expr} {t t':TT} (h:PW X e t) (i:∀σ H Q,t' σ H Q→t σ H Q):PW X e t':=fun wh pins s σ H Q I q=>h wh pins s σ H Q I (i σ H Q q)
theorem V7 (ha:Ez X E a tf):GR X E (.BoolOp .And [a] pos) tf:=Uc ha
theorem GS (ha:Ez X E a tf):GR X E (.BoolOp .Or [a] pos) tf:=Ud ha
theorem V8 (ha:Ez X E a tf) (hb:GR X E (.BoolOp .And (b::rest) pos) tg):GR X E (.BoolOp .And (a::b::rest) pos) (GQ tf tg):=
 P3 (Ue ha hb) fun σ H Q z4_=>by obtain ⟨m,ρ,hd,hr,er,p⟩:=z4_;exact (⟨m,ρ,hd,hr,er,Post.bind p fun x h1 v m1 H1 _ p1 k1 hr1 r1 q1=>by
  cases r1
  cases x with
  |true=>exact ⟨m1,ρ,h1,hr1,er.keep p1 k1,q1⟩
  |false=>exact q1 false m1 H1 (AJ _) (.refl _) hr1 rfl⟩)
theorem GT (ha:Ez X E a tf) (hb:GR X E (.BoolOp .Or (b::rest) pos) tg):GR X E (.BoolOp .Or (a::b::rest) pos) (DM tf tg):=
 P3 (Ug ha hb) fun σ H Q z5_=>by obtain ⟨m,ρ,hd,hr,er,p⟩:=z5_;exact (⟨m,ρ,hd,hr,er,Post.bind p fun x h1 v m1 H1 _ p1 k1 hr1 r1 q1=>by
  cases r1
  cases x with
  |false=>exact ⟨m1,ρ,h1,hr1,er.keep p1 k1,q1⟩
  |true=>exact q1 true m1 H1 (AJ _) (.refl _) hr1 rfl⟩)
theorem Gd (h:GR X E a tf):Ez X E a tf:=PW.pt h
theorem DN (ha:Ez X E a tf):Ez X E (.UnaryOp .Not a pos) (Cw tf):=
 KH (Uh ha) fun σ H Q z6_=>by obtain ⟨m,ρ,hd,hr,er,p⟩:=z6_;exact (⟨m,ρ,hd,hr,er,Post.bind p fun x h1 v m1 H1 _ p1 k1 hr1 r1 q1=>by
  cases r1
  exact q1 _ m1 H1 (AJ _) (.refl _) hr1 rfl⟩)
def Ge (f g:ME):ME:=fun ρ h=>(f ρ h).bind fun x h1=>match x with
 |.bl true=>g ρ h1
 |.bl false=>.ok (.bl false) h1
 |_=>.stuck
def P4 (f g:ME):ME:=fun ρ h=>(f ρ h).bind fun x h1=>match x with
 |.bl true=>.ok (.bl true) h1
 |.bl false=>g ρ h1
 |_=>.stuck
def KL (f:ME):ME:=fun ρ h=>(f ρ h).bind fun x h1=>match x with
 |.bl b=>.ok (.bl (!b)) h1
 |_=>.stuck
theorem Jn {o:BoolOp} (h:Ev X E a f):Ev X E (.BoolOp o [a] pos) f:=Uk h
theorem Jo (ha:Ev X E a f) (hb:Ev X E (.BoolOp .And (b::rest) pos) g):Ev X E (.BoolOp .And (a::b::rest) pos) (Ge f g):=
 Ck (Ul ha hb) fun σ H Q ⟨m,ρ,hd,hr,er,p⟩=>⟨m,ρ,hd,hr,er,Post.bind p fun x h1 v m1 H1 _ p1 k1 hr1 r1 q1=>by
  cases x with
  |bl b=>
   refine ⟨b,by simpa [rD,DV] using r1,?_⟩
   cases b with
   |true=>exact ⟨m1,ρ,h1,hr1,er.keep p1 k1,q1⟩
   |false=>exact q1 _ m1 H1 (AJ _) (.refl _) hr1 (by simp [rD,DV])
  |_=>exact q1.elim⟩
theorem V9 (ha:Ev X E a f):Ev X E (.UnaryOp .Not a pos) (KL f):=
 Ck (Um ha) fun σ H Q z9_=>by obtain ⟨m,ρ,hd,hr,er,p⟩:=z9_;exact (⟨m,ρ,hd,hr,er,Post.bind p fun x h1 v m1 H1 _ p1 k1 hr1 r1 q1=>by
  cases x with
  |bl b=>exact ⟨b,by simpa [rD,DV] using r1,q1 _ m1 H1 (AJ _) (.refl _) hr1 (by simp [rD,DV])⟩
  |_=>exact q1.elim⟩)
def P5 (t:MT) (f g:ME):ME:=fun ρ h=>(t ρ h).bind fun b h1=>if b=true then f ρ h1 else g ρ h1
def Fj (op op':D→D→HD→Out D) (f g k:ME):ME:=fun ρ h=>(f ρ h).bind fun x h1=>(g ρ h1).bind fun y h2=>(op x y h2).bind fun z h3=>match z with
 |.bl true=>(k ρ h3).bind fun w h4=>op' y w h4
 |.bl false=>.ok (.bl false) h3
 |_=>.stuck
theorem P6 {r r':R2} {op op':D→D→HD→Out D} {o o':Value→Value→Sem Value} (i:∀m H h E x y v u Q,HR X.K m h H→DV X.K m H x v→DV X.K m H y u→Post X.K (rD X.K) m H E Q (op x y h)→r v u H Q)
 (i':∀m H h E x y v u Q,HR X.K m h H→DV X.K m H x v→DV X.K m H y u→Post X.K (rD X.K) m H E Q (op' x y h)→r' v u H Q) {σ:L2.St} {H:Hp} {Q:VK} (h:tD X.K E (Fj op op' f g k) σ H Q):
 MY r r' (tD X.K E f) (tD X.K E g) (tD X.K E k) σ H Q:=by
 obtain ⟨m,ρ,hd,hr,er,p⟩:=h
 refine ⟨m,ρ,hd,hr,er,Post.bind p fun x h1 v m1 H1 _ p1 k1 hr1 r1 q1=>?_⟩
 refine ⟨m1,ρ,h1,hr1,er.keep p1 k1,Post.bind q1 fun y h2 u m2 H2 _ p2 k2 hr2 r2 q2=>?_⟩
 refine i m2 H2 h2 E x y v u _ hr2 (DV.keep p2 k2 r1) r2 (Post.bind q2 fun z h3 w m3 H3 _ p3 k3 hr3 r3 q3=>?_)
 cases z with
 |bl b=>
  refine ⟨b,by simpa [rD,DV] using r3,?_⟩
  cases b with
  |false=>exact q3 _ m3 H3 (AJ _) (.refl _) hr3 (by simp [rD,DV])
  |true=>
   refine ⟨m3,ρ,h3,hr3,((er.keep p1 k1).keep p2 k2).keep p3 k3,Post.bind q3 fun z h4 w' m4 H4 _ p4 k4 hr4 r4 q4=>?_⟩
   exact i' m4 H4 h4 E y z u w' Q hr4 (DV.keep p4 k4 (DV.keep p3 k3 r2)) r4 q4
 |_=>exact q3.elim
theorem P7 {o o':CmpOp} {op op':D→D→HD→Out D} (ho:BL X (compareOp o) op) (ho':BL X (compareOp o') op') (ha:Ev X E a f) (hb:Ev X E b g) (hc:Ev X E c k)
 (hm:lastMarks [o,o'] [b,c]=false:=by with_unfolding_all rfl):Ev X E (.Compare a [o,o'] [b,c] pos) (Fj op op' f g k):=by
 obtain ⟨r,ho,i⟩:=ho
 obtain ⟨r',ho',i'⟩:=ho'
 exact Ck (UY ho ho' ha hb hc hm) fun σ H Q h=>P6 (o:=compareOp o) (o':=compareOp o') i i' h
theorem P8 {o o':CmpOp} {op op':D→D→HD→Out D} (ho:BL X (compareOp o) op) (ho':BL X (compareOp o') op') (ha:Ev X E a f) (hb:Ev X E b g) (hc:Ev X E c k)
 (hm:lastMarks [o,o'] [b,c]=false:=by with_unfolding_all rfl):Ez X E (.Compare a [o,o'] [b,c] pos) (Bj (Fj op op' f g k)):=by
 obtain ⟨r,ho,i⟩:=ho
 obtain ⟨r',ho',i'⟩:=ho'
 refine KH (UZ ho ho' ha hb hc hm) fun σ H Q h=>?_
 obtain ⟨m,ρ,hd,hr,er,p⟩:=h
 exact P6 (o:=compareOp o) (o':=compareOp o') i i' ⟨m,ρ,hd,hr,er,Post.bind p fun x h1 v m1 H1 _ p1 k1 hr1 r1 q1=>PZ hr1 r1 q1⟩
variable {es:List Expr} {fa:MA}
def Ad:MA:=fun _ h=>.ok [] h
def Aa (f:ME) (r:MA):MA:=fun ρ h=>(f ρ h).bind fun x h1=>(r ρ h1).bind fun xs h2=>.ok (x::xs) h2
theorem Af:Ct X E [] Ad:=PX Vb fun σ H Q z11_=>by obtain ⟨m,ρ,hd,hr,er,p⟩:=z11_;exact (p [] m H (AJ _) (.refl _) hr .nil)
theorem Ac (ha:Ev X E a f) (hr:Ct X E es fa) (hs:starEach (a::es) X.env=(false,eval a X.env)::starEach es X.env:=by rfl):Ct X E (a::es) (Aa f fa):=
 PX (Vc ha hr hs) fun σ H Q z12_=>by obtain ⟨m,ρ,hd,hr,er,p⟩:=z12_;exact (⟨m,ρ,hd,hr,er,Post.bind p fun x h1 v m1 H1 _ p1 k1 hr1 r1 q1=>
  ⟨m1,ρ,h1,hr1,er.keep p1 k1,Post.bind q1 fun xs h2 vs m2 H2 _ p2 k2 hr2 r2 q2=>q2 _ m2 H2 (AJ _) (.refl _) hr2 (DVs.cons (DV.keep p2 k2 r1) r2)⟩⟩)
def Ax (fa:MA):ME:=fun ρ h=>(fa ρ h).bind fun xs h1=>if xs.length≤sizeLine then .ok (.tup xs) h1 else .stuck
def CL (xs:List D) (h:HD):Out D:=if xs.length≤sizeLine then .ok (.loc h.length) (h++[.lst xs]) else .stuck
def Be (fa:MA):ME:=fun ρ h=>(fa ρ h).bind CL
theorem GU {m:List Addr} {H:Hp} {h:HD} {xs:List D} {vs:List V} {Q:VK} (hr:HR X.K m h H) (r:DVs X.K m H xs vs) (q:Post X.K (rD X.K) m H E Q (.ok (.tup xs) h)):∀p,H p=none→Q (.ref p) (Am H p (.tup vs)):=fun p hp=>
 q (.ref p) m _ (AJ _) (.new hp) (hr.new hp) (by simp only [rD,DV];exact ⟨p,vs,rfl,Bt,r.keep (AJ _) (.new hp)⟩)
theorem Ik {m:List Addr} {H:Hp} {h:HD} {xs:List D} {vs:List V} {Q:VK} (hr:HR X.K m h H) (r:DVs X.K m H xs vs) (q:Post X.K (rD X.K) m H E Q (CL xs h)):vs.length≤sizeLine∧∀p,H p=none→Q (.ref p) (Am H p (.lst vs)):=by
 unfold CL at q
 by_cases hz:xs.length≤sizeLine
 ·rw [if_pos hz] at q
  refine ⟨by rw [←r.len];exact hz,fun p hp=>?_⟩
  refine q (.ref p) (m++[p]) _ (List.prefix_append _ _) (.new hp) (hr.newCell hp ⟨vs,Bt,r.keep (List.prefix_append _ _) (.new hp)⟩) ?_
  simp only [rD,DV]
  exact ⟨p,rfl,by rw [←hr.len];simp⟩
 ·rw [if_neg hz] at q;exact q.elim
theorem AY {x1:Nat} (h:Ct X E es fa):Ev X E (.Tuple es x1 pos) (Ax fa):=
 Ck (Vf h) fun σ H Q z13_=>by obtain ⟨m,ρ,hd,hr,er,p⟩:=z13_;exact (⟨m,ρ,hd,hr,er,Post.bind p fun xs h1 vs m1 H1 _ p1 k1 hr1 r1 q1=>by
  by_cases hz:xs.length≤sizeLine
  ·rw [if_pos hz] at q1
   exact ⟨by rw [←DVs.len r1];exact hz,GU hr1 r1 q1⟩
  ·rw [if_neg hz] at q1;exact q1.elim⟩)
theorem BD (h:Ct X E es fa):Ev X E (.List es pos) (Be fa):=
 Ck (Vg h) fun σ H Q z14_=>by obtain ⟨m,ρ,hd,hr,er,p⟩:=z14_;exact (⟨m,ρ,hd,hr,er,Post.bind p fun xs h1 vs m1 H1 _ p1 k1 hr1 r1 q1=>Ik hr1 r1 q1⟩)
inductive KM (K:PySem.W.Frag) (F:List D→HD→Out D) (vs:List V) (H:Hp) (Q:VK) (E:XK):Prop where
 |mk (m:List Addr) (ds:List D) (h:HD) (hr:HR K m h H) (r:DVs K m H ds vs) (p:Post K (rD K) m H E0 Q (F ds h)):KM K F vs H Q E
def Ar (n:Nat) (F:List D→HD→Out D):Prop:=∀ds h,ds.length≠n→F ds h=.stuck
theorem Ar.len {K:PySem.W.Frag} {n:Nat} {F:List D→HD→Out D} (ar:Ar n F) {vs:List V} {H:Hp} {Q:VK} {E':XK} (h:KM K F vs H Q E'):vs.length=n:=by
 obtain ⟨m,ds,hd,hr,r,p⟩:=h
 rw [←r.len]
 by_cases e:ds.length=n
 ·exact e
 ·rw [ar ds hd e] at p;exact p.elim
def ar0 (F:HD→Out D):List D→HD→Out D:=fun ds h=>match ds with
 |[]=>F h
 |_=>.stuck
def Aq (F:D→HD→Out D):List D→HD→Out D:=fun ds h=>match ds with
 |[a]=>F a h
 |_=>.stuck
def Br (F:D→D→HD→Out D):List D→HD→Out D:=fun ds h=>match ds with
 |[a,b]=>F a b h
 |_=>.stuck
def Wa (F:D→D→D→HD→Out D):List D→HD→Out D:=fun ds h=>match ds with
 |[a,b,c]=>F a b c h
 |_=>.stuck
def Ah (F:List D→HD→Out D) (fa:MA):ME:=fun ρ h=>(fa ρ h).bind F
def Dc (X:Cx) (f:Value) (F:List D→HD→Out D):Prop:=
 ∃r:List V→Hp→VK→Prop,DA X f r∧∀m H h E ds vs Q,HR X.K m h H→DVs X.K m H ds vs→Post X.K (rD X.K) m H E Q (F ds h)→r vs H Q
theorem AN {id:String} {F:List D→HD→Out D} {x:Str} {p pos:Pos} {e:Expr} (hc:Dc X (.builtin id) F) (hg:Gl X x) (hm:X.mg x=none) (hv:bootBuiltins x=some (.builtin id)) (ha:Ct X E (e::es) fa) (hn:x≠"__name__":=by decide) (hdb:(x==("__debug__":Str))=false:=by decide)
 (hs:starEach (e::es) X.env=(false,eval e X.env)::starEach es X.env:=by rfl) (hpl:(backTo pos (starEach es X.env)).any (·.1)=false:=by rfl):Ev X E (.Call (.Name x p) (e::es) [] pos) (Ah F fa):=by
 obtain ⟨r,hc,i⟩:=hc
 exact Ck (Vk hc hg hm hv ha hn hdb hs hpl) fun σ H Q z17_=>by obtain ⟨m,ρ,hd,hr,er,p⟩:=z17_;exact (⟨m,ρ,hd,hr,er,Post.bind p fun xs h1 vs m1 H1 e1 p1 k1 hr1 r1 q1=>i m1 H1 h1 E xs vs Q hr1 r1 q1⟩)
theorem Dr {id:String} {F:List D→HD→Out D} {x:Str} {p pos:Pos} {e:Expr} (hc:Dc X (.type id) F) (hg:Gl X x) (hm:X.mg x=none) (hv:bootBuiltins x=some (.type id)) (ha:Ct X E (e::es) fa) (hn:x≠"__name__":=by decide) (hdb:(x==("__debug__":Str))=false:=by decide)
 (hs:starEach (e::es) X.env=(false,eval e X.env)::starEach es X.env:=by rfl) (hpl:(backTo pos (starEach es X.env)).any (·.1)=false:=by rfl):Ev X E (.Call (.Name x p) (e::es) [] pos) (Ah F fa):=by
 obtain ⟨r,hc,i⟩:=hc
 exact Ck (Vl hc hg hm hv ha hn hdb hs hpl) fun σ H Q z18_=>by obtain ⟨m,ρ,hd,hr,er,p⟩:=z18_;exact (⟨m,ρ,hd,hr,er,Post.bind p fun xs h1 vs m1 H1 e1 p1 k1 hr1 r1 q1=>i m1 H1 h1 E xs vs Q hr1 r1 q1⟩)
end
section
variable {X:Cx} {E:XK}
theorem Bp {K:PySem.W.Frag} {m:List Addr} {H:Hp} {h:HD} {d:D} {v:V} {Q:VK} (hr:HR K m h H) (q:Post K (rD K) m H E Q (.ok d h)) (r:DV K m H d v):Q v H:=q v m H (AJ _) (.refl _) hr r
theorem op_catT0:OpR X (binaryOp .Add) (fun x y H Q=>∃a b ys,x=.ref a∧y=.ref b∧SqT X.K H a []∧SqT X.K H b ys∧Q (.ref b) H):=by
 intro pins s σ H x y v u Q I rx ry h
 obtain ⟨a,b,ys,rfl,rfl,ha,hb,q⟩:=h
 cases rx
 cases ry
 obtain ⟨its,r1,p1,_⟩:=I.tuple ha
 obtain ⟨its2,r2,p2,_⟩:=I.tuple hb
 cases r1
 obtain ⟨⟨cls,dd,data,sl⟩,ho,hc,n,hd⟩:=id p1
 obtain ⟨⟨cls2,dd2,data2,sl2⟩,ho2,hc2,n2,hd2⟩:=id p2
 simp only at hc hd hc2 hd2
 subst hc hd hc2 hd2
 exact concat_meets ⟨_,ho,rfl⟩ ⟨_,ho2,rfl⟩ noFill_tuple_add seq_tuple_add PySem.F.slot_tuple_add PySem.F.entry_tuple_add (PySem.F.args_tuple_add_2 _ _)
  (tuple_addW0 a b _ its2.toArray n n2 dd dd2 sl sl2 (by simp)) ⟨ho,ho2,⟨.ref b,H,I,rfl,q⟩⟩
def As:D→D→HD→Out D
 |.int i,.int j,h=>.ok (.int (i+j)) h
 |.str x,.str y,h=>if x.length+y.length≤sizeLine then .ok (.str (x++y)) h else .stuck
 |.tup xs,.tup ys,h=>if xs.length+ys.length≤sizeLine then .ok (.tup (xs++ys)) h else .stuck
 |.loc l,.loc k,h=>match h[l]?,h[k]? with
  |some (.lst xs),some (.lst ys)=>CL (xs++ys) h
  |_,_=>.stuck
 |_,_,_=>.stuck
theorem AH:BL X (binaryOp .Add) As:=by
 refine ⟨_,op_add.or (op_catT0.or (op_catT.or (op_cat.or U2))),fun m H h E x y v u Q hr rx ry q=>?_⟩
 unfold As at q
 split at q
 ·simp only [DV] at rx ry
  subst rx ry
  exact .inl ⟨_,_,rfl,rfl,Bp hr q (by simp [DV])⟩
 ·simp only [DV] at rx ry
  subst rx ry
  split at q
  ·rename_i hz
   exact .inr (.inr (.inr (.inr ⟨_,_,rfl,rfl,hz,Bp hr q (by simp [DV])⟩)))
  ·exact q.elim
 ·rename_i xs ys
  simp only [DV] at rx ry
  obtain ⟨a,vs,rfl,ha,dx⟩:=rx
  obtain ⟨b,ws,rfl,hb,dy⟩:=ry
  split at q
  ·rename_i hz
   cases xs with
   |nil=>
    simp only [DVs] at dx
    subst dx
    exact .inr (.inl ⟨a,b,ws,rfl,rfl,SqT.of ha,SqT.of hb,Bp hr q (by simp only [DV];exact ⟨b,ws,rfl,hb,dy⟩)⟩)
   |cons x xs=>
    refine .inr (.inr (.inl ⟨a,b,vs,ws,rfl,rfl,SqT.of ha,SqT.of hb,?_,by rw [←dx.len,←dy.len];exact hz,fun e=>?_,fun e=>?_⟩))
    ·intro e;have:=dx.len;rw [e] at this;simp at this
    ·subst e
     have:ys=[]:=by have:=dy.len;simpa using this
     subst this
     exact Bp hr q (by simp only [DV];exact ⟨a,vs,rfl,ha,by simpa using dx⟩)
    ·exact GU hr (dx.app dy) q
  ·exact q.elim
 ·simp only [DV] at rx ry
  obtain ⟨a,rfl,ha⟩:=rx
  obtain ⟨b,rfl,hb⟩:=ry
  split at q
  ·rename_i xs ys e1 e2
   obtain ⟨vs,h1,d1⟩:=hr.cells _ _ a e1 ha
   obtain ⟨ws,h2,d2⟩:=hr.cells _ _ b e2 hb
   obtain ⟨z,q'⟩:=Ik hr (d1.app d2) q
   exact .inr (.inr (.inr (.inl ⟨a,b,vs,ws,rfl,rfl,h1,h2,by simpa using z,q'⟩)))
  ·exact q.elim
 ·exact q.elim
def intD (f:Int→Int→D) (c:Int→Int→Prop) [∀i j,Decidable (c i j)]:D→D→HD→Out D
 |.int i,.int j,h=>if c i j then .ok (f i j) h else .stuck
 |_,_,_=>.stuck
theorem M8 {o:Value→Value→Sem Value} {f:Int→Int→V} {g:Int→Int→D} {c c':Int→Int→Prop} [∀i j,Decidable (c' i j)] (h:OpR X o (rI c f)) (hc:∀i j,c' i j→c i j) (hg:∀m H i j,DV X.K m H (g i j) (f i j)):BL X o (intD g c'):=by
 refine ⟨_,h,fun m H h E x y v u Q hr rx ry q=>?_⟩
 unfold intD at q
 split at q
 ·simp only [DV] at rx ry
  subst rx ry
  split at q
  ·rename_i hc'
   exact ⟨_,_,rfl,rfl,hc _ _ hc',Bp hr q (hg _ _ _ _)⟩
  ·exact q.elim
 ·exact q.elim
def Gf (f:Int→Int→D):D→D→HD→Out D
 |.int i,.int j,h=>.ok (f i j) h
 |_,_,_=>.stuck
theorem KN {o:Value→Value→Sem Value} {f:Int→Int→V} {g:Int→Int→D} (h:OpR X o (Gb f)) (hg:∀m H i j,DV X.K m H (g i j) (f i j)):BL X o (Gf g):=by
 refine ⟨_,h,fun m H h E x y v u Q hr rx ry q=>?_⟩
 unfold Gf at q
 split at q
 ·simp only [DV] at rx ry
  subst rx ry
  exact ⟨_,_,rfl,rfl,Bp hr q (hg _ _ _ _)⟩
 ·exact q.elim
abbrev KO:=Gf fun i j=>.int (i - j)
theorem P9:BL X (binaryOp .Sub) KO:=KN UN fun _ _ _ _=>by simp [DV]
abbrev GV:=Gf fun i j=>.bl (decide (i<j))
abbrev GW:=Gf fun i j=>.bl (decide (i≤j))
abbrev GX:=Gf fun i j=>.bl (decide (j<i))
theorem Jp:BL X (compareOp .Lt) GV:=KN UT fun _ _ _ _=>by simp [DV]
theorem Jq:BL X (compareOp .LtE) GW:=KN UU fun _ _ _ _=>by simp [DV]
theorem KP:BL X (compareOp .Gt) GX:=KN UV fun _ _ _ _=>by simp [DV]
instance (i j:Int):Decidable (CMul i j):=by unfold CMul;infer_instance
instance (i j:Int):Decidable (Pn i j):=by unfold Pn;infer_instance
instance (i j:Int):Decidable (Kw i j):=by unfold Kw;infer_instance
abbrev DF:=intD (fun i j=>.int (i % j)) fun _ j=>0<j
theorem GY:BL X (binaryOp .Mod) DF:=M8 UO (fun _ _ h=>h) fun _ _ _ _=>by simp [DV]
abbrev Jr:=intD (fun i j=>.int (i^j.toNat)) Kw
theorem Qa:BL X (binaryOp .Pow) Jr:=M8 UP (fun _ _ h=>h) fun _ _ _ _=>by simp [DV]
def Zb6:D→D→HD→Out D
 |.int i,.int j,h=>if CMul i j then .ok (.int (i*j)) h else .stuck
 |.loc l,.int k,h=>match h[l]? with
  |some (.lst xs)=>if -(2^63)≤k∧k<2^63 then CL (List.replicate k.toNat xs).flatten h else .stuck
  |_=>.stuck
 |_,_,_=>.stuck
def Qb:D→Bool
 |.non=>true
 |_=>false
def Wb:D→D→HD→Out D
 |.bl b,.bl c,h=>.ok (.bl (b==c)) h
 |x,.non,h=>.ok (.bl (Qb x)) h
 |_,_,_=>.stuck
def Wc:D→D→HD→Out D
 |.bl b,.bl c,h=>.ok (.bl (!(b==c))) h
 |x,.non,h=>.ok (.bl (!Qb x)) h
 |_,_,_=>.stuck
end
def A2 {α:Type}:List (Option α)→Option (List α)
 |[]=>some []
 |none::_=>none
 |some a::r=>(A2 r).map (a::·)
def Bv (h:HD):Nat→D→Option PyData
 |_,.non=>some .none
 |_,.bl b=>some (.bool b)
 |_,.int i=>some (.int i)
 |_,.str x=>some (.str x)
 |n+1,.tup ds=>(A2 (ds.map (Bv h n))).map .tuple
 |n+1,.loc l=>match h[l]? with
  |some (.lst ds)=>(A2 (ds.map (Bv h n))).map .list
  |_=>none
 |_,_=>none
section
variable {X:Cx} {E:XK} {pins:List (Addr×Obj)} {σ:L2.St} {H:Hp} {s:Shared} {m:List Addr} {h:HD}
theorem M9 {n:Nat} (ih:∀(d:D) (v:V) (u:Value) (p:PyData),DV X.K m H d v→RelV v u→Bv h n d=some p→∃as,Reads s.heap u p as):
 ∀(ds:List D) (vs:List V) (us:List Value) (ps:List PyData),DVs X.K m H ds vs→Vals vs us→A2 (ds.map (Bv h n))=some ps→∃as,ReadsAll s.heap us ps as
 |[],vs,us,ps,r,q,e=>by
  simp only [DVs] at r
  subst r
  cases q
  simp [A2] at e
  subst e
  exact ⟨[],.nil⟩
 |d::ds,vs,us,ps,r,q,e=>by
  simp only [DVs] at r
  obtain ⟨v,w,rfl,rv,rw'⟩:=r
  cases q with
  |cons q1 q2=>
   rw [Cs] at e
   cases ed:Bv h n d with
   |none=>rw [ed] at e;simp [A2] at e
   |some p=>
    rw [ed] at e
    simp only [A2,qaY] at e
    obtain ⟨ps',e1,rfl⟩:=e
    obtain ⟨as,h1⟩:=ih d v _ p rv q1 ed
    obtain ⟨bs,h2⟩:=M9 ih ds w _ ps' rw' q2 e1
    exact ⟨as++bs,.cons h1 h2⟩
theorem Na (hok:HOk X.prog X.w H s.heap) (hr:HR X.K m h H):∀(n:Nat) (d:D) (v:V) (u:Value) (p:PyData),DV X.K m H d v→RelV v u→Bv h n d=some p→∃as,Reads s.heap u p as:=by
 intro n
 induction n with
 |zero=>
  intro d v u p r q e
  cases d<;>simp only [Bv,DV,Option.some.injEq] at e r<;>try (cases e;done)
  ·subst e r;cases q;exact ⟨[],.none⟩
  ·subst e r;cases q;exact ⟨[],.bool _⟩
  ·subst e r;obtain ⟨t,rfl⟩:=q;exact ⟨[],.int _ _⟩
  ·subst e r;obtain ⟨t,rfl⟩:=q;exact ⟨[],.str _ _⟩
 |succ n ih=>
  intro d v u p r q e
  cases d with
  |non=>simp only [Bv,DV,Option.some.injEq] at e r;subst e r;cases q;exact ⟨[],.none⟩
  |bl b=>simp only [Bv,DV,Option.some.injEq] at e r;subst e r;cases q;exact ⟨[],.bool _⟩
  |int i=>simp only [Bv,DV,Option.some.injEq] at e r;subst e r;obtain ⟨t,rfl⟩:=q;exact ⟨[],.int _ _⟩
  |str x=>simp only [Bv,DV,Option.some.injEq] at e r;subst e r;obtain ⟨t,rfl⟩:=q;exact ⟨[],.str _ _⟩
  |tup ds=>
   simp only [Bv,DV,qaY] at e r
   obtain ⟨a,vs,rfl,ha,dv⟩:=r
   obtain ⟨ps,e1,rfl⟩:=e
   cases q
   obtain ⟨_,its,rv,⟨o,ho,hc,k,hd⟩,_⟩:=hok a _ ha
   obtain ⟨as,h1⟩:=M9 ih ds vs its ps dv rv e1
   exact ⟨as,.tuple ho hc hd (by simpa using h1)⟩
  |loc l=>
   simp only [DV] at r
   obtain ⟨a,rfl,ha⟩:=r
   cases q
   simp only [Bv] at e
   split at e
   ·rename_i ds el
    simp only [qaY] at e
    obtain ⟨ps,e1,rfl⟩:=e
    obtain ⟨vs,hv,dv⟩:=hr.cells l _ a el ha
    obtain ⟨_,its,k,rv,ho⟩:=hok a _ hv
    obtain ⟨as,h1⟩:=M9 ih ds vs its ps dv rv e1
    exact ⟨_,.list ho rfl rfl (by simpa using h1)⟩
   ·cases e
  |scr ns=>simp [Bv] at e
  |adr a=>simp [Bv] at e
  |ty a=>simp [Bv] at e
  |exc n fs=>simp [Bv] at e
  |edic=>simp [Bv] at e
  |glo n=>simp [Bv] at e
  |clo a vs ds=>simp [Bv] at e
def Il (f:PyData→PyData→Bool):D→D→HD→Out D:=fun x y h=>match Bv h 8 x,Bv h 8 y with
 |some p,some q=>if SeqAt.shaped p=true∧SeqAt.shaped q=true then .ok (.bl (f p q)) h else .stuck
 |_,_=>.stuck
abbrev Js:=Il PyData.eqv
abbrev Gg:=Il fun p q=>!PyData.eqv p q
theorem Qc {o:CmpOp} {f:PyData→PyData→Bool}
 (rule:∀{s:Shared} {a b:Value} {p q:PyData} {as bs:List Addr} {Q:Value→Shared→Prop},Reads s.heap a p as→Reads s.heap b q bs→SeqAt.shaped p=true→SeqAt.shaped q=true→Q (.bool (f p q)) s→wpAny (model X.prog X.w) X.A (compareOp o a b) Q X.xe s):
 BL X (compareOp o) (Il f):=by
 refine ⟨fun v u H Q=>∃m h x y,HR X.K m h H∧DV X.K m H x v∧DV X.K m H y u∧Post X.K (rD X.K) m H E0 Q (Il f x y h),?_,fun m H h E x y v u Q hr rx ry q=>⟨m,h,x,y,hr,rx,ry,?_⟩⟩
 ·intro pins s σ H x y v u Q I rx ry hq
  obtain ⟨m,h,dx,dy,hr,r1,r2,q⟩:=hq
  unfold Il at q
  split at q
  ·rename_i p p' e1 e2
   split at q
   ·rename_i hs
    obtain ⟨as,h1⟩:=Na I.hok hr 8 dx x v p r1 rx e1
    obtain ⟨bs,h2⟩:=Na I.hok hr 8 dy y u p' r2 ry e2
    exact rule h1 h2 hs.1 hs.2 ⟨.bl _,H,I,rfl,Bp hr q (by simp [DV])⟩
   ·exact q.elim
  ·exact q.elim
 ·unfold Il at q ⊢
  split
  ·split
   ·rename_i e1 e2 hs
    rw [e1,e2] at q
    simp only [hs] at q
    exact q
   ·rename_i e1 e2 hs
    rw [e1,e2] at q
    simp only [hs] at q
    exact q.elim
  ·rename_i hn
   split at q
   ·rename_i e1 e2
    exact (hn _ _ e1 e2).elim
   ·exact q.elim
theorem Wd (hu:X.A.units+64<cLine):BL X (compareOp .Eq) Js:=Qc fun ra rb ha hb h=>eq_dataH ra rb ha hb hu h
theorem Wf (hu:X.A.units+64<cLine):BL X (compareOp .NotEq) Gg:=Qc fun ra rb ha hb h=>ne_dataH ra rb ha hb hu h
def CM:D→Option V
 |.non=>some .non
 |.bl b=>some (.bl b)
 |.int i=>some (.int i)
 |.str x=>some (.str x)
 |_=>none
theorem KQ {d:D} {v w:V} (r:DV X.K m H d v) (e:CM d=some w):v=w∧Eb v=true:=by
 cases d<;>simp only [CM,Option.some.injEq,DV] at e r<;>first |(subst e r;exact ⟨rfl,rfl⟩) |cases e
theorem KR:∀{ds:List D} {vs ws:List V},DVs X.K m H ds vs→A2 (ds.map CM)=some ws→vs=ws∧vs.all Eb=true
 |[],vs,ws,r,e=>by
  simp only [DVs] at r
  simp [A2] at e
  subst r e
  exact ⟨rfl,rfl⟩
 |d::ds,vs,ws,r,e=>by
  simp only [DVs] at r
  obtain ⟨v,w,rfl,rv,rw'⟩:=r
  rw [Cs] at e
  cases ed:CM d with
  |none=>rw [ed] at e;simp [A2] at e
  |some p=>
   rw [ed] at e
   simp only [A2,qaY] at e
   obtain ⟨ps',e1,rfl⟩:=e
   obtain ⟨h1,h2⟩:=KQ rv ed
   obtain ⟨h3,h4⟩:=KR rw' e1
   subst h1 h3
   exact ⟨rfl,by simp [h2,h4]⟩
def BM:D→HD→Option (List D)
 |.tup ds,_=>some ds
 |.loc l,h=>match h[l]? with
  |some (.lst ds)=>some ds
  |_=>none
 |.scr ns,_=>some (ns.map .int)
 |_,_=>none
theorem Qd {ns:List Int}:DVs X.K m H (ns.map .int) (ns.map V.int):=by
 induction ns with
 |nil=>exact .nil
 |cons n ns ih=>exact .cons (by simp [DV]) ih
theorem Jt {d:D} {v:V} {ds:List D} (hr:HR X.K m h H) (r:DV X.K m H d v) (e:BM d h=some ds):∃p vs,v=.ref p∧(SqL X.K H p vs∨SqT X.K H p vs)∧DVs X.K m H ds vs:=by
 cases d with
 |tup xs=>
  simp only [DV,BM,Option.some.injEq] at r e
  subst e
  obtain ⟨a,vs,rfl,ha,dv⟩:=r
  exact ⟨a,vs,rfl,.inr (SqT.of ha),dv⟩
 |loc l=>
  simp only [DV] at r
  obtain ⟨a,rfl,ha⟩:=r
  simp only [BM] at e
  split at e
  ·rename_i xs el
   cases e
   obtain ⟨vs,hv,dv⟩:=hr.cells l _ a el ha
   exact ⟨a,vs,rfl,.inl (SqL.of hv),dv⟩
  ·cases e
 |scr ns=>
  simp only [DV,BM,Option.some.injEq] at r e
  subst e
  obtain ⟨a,rfl,ha⟩:=r
  exact ⟨a,_,rfl,.inl ha.sq,Qd⟩
 |_=>simp [BM] at e
def Gh (neg:Bool):D→D→HD→Out D:=fun x y h=>match BM y h with
 |none=>.stuck
 |some ds=>match CM x,A2 (ds.map CM) with
  |some v,some vs=>.ok (.bl (if neg then !Ib v vs else Ib v vs)) h
  |_,_=>.stuck
theorem Wg {neg:Bool}:∀m H h E x y v u Q,HR X.K m h H→DV X.K m H x v→DV X.K m H y u→Post X.K (rD X.K) m H E Q (Gh neg x y h)→PM X.K neg v u H Q:=fun m H h E x y v u Q hr rx ry q=>by
 unfold Gh at q
 split at q
 ·exact q.elim
 ·rename_i ds e
  split at q
  ·rename_i w ws e1 e2
   obtain ⟨p,vs,rfl,hs,dv⟩:=Jt hr ry e
   obtain ⟨h1,h2⟩:=KQ rx e1
   obtain ⟨h3,h4⟩:=KR dv e2
   subst h1 h3
   exact ⟨p,vs,rfl,hs,h2,h4,Bp hr q (by simp [DV])⟩
  ·exact q.elim
theorem Qe:BL X (compareOp .In) (Gh false):=⟨_,VQ,Wg⟩
def Au:D→D→HD→Out D:=fun x y h=>match BM x h,y with
 |some ds,.int i=>match DB ds i with
  |some d=>.ok d h
  |none=>.stuck
 |_,_=>.stuck
theorem Wh {ds:List D} {vs:List V} {i:Int} {d:D} (r:DVs X.K m H ds vs) (e:DB ds i=some d):∃v,DB vs i=some v∧DV X.K m H d v:=by
 unfold DB at e ⊢
 rw [r.len] at e
 cases k:Ea vs.length i with
 |none=>rw [k] at e;cases e
 |some j=>
  rw [k] at e
  exact r.get e
theorem Bn {a b:Expr} {pos:Pos} {f g:ME} (ha:Ev X E a f) (hb:Ev X E b g) (hs:PL b):Ev X E (.Subscript a b pos) (Ag Au f g):=
 Ck (VI (ix_list.or ix_tup) ha hb hs) fun σ H Q hq=>KJ hq fun m H2 h2 x y v u hr rx ry q=>by
  unfold Au at q
  split at q
  ·rename_i ds i e
   split at q
   ·rename_i d ed
    simp only [DV] at ry
    subst ry
    obtain ⟨p,vs,rfl,hsq,dv⟩:=Jt hr rx e
    obtain ⟨w,e1,r1⟩:=Wh dv ed
    rcases hsq with hsq |hsq
    ·exact .inl ⟨p,vs,i,w,rfl,rfl,hsq,e1,Bp hr q r1⟩
    ·exact .inr ⟨p,vs,i,w,rfl,rfl,hsq,e1,Bp hr q r1⟩
   ·exact q.elim
  ·exact q.elim
def Bk:D→HD→Out D:=fun x h=>match BM x h with
 |some ds=>.ok (.int ds.length) h
 |none=>.stuck
theorem FL {F:D→HD→Out D} {ds:List D} {vs:List V} {Q:VK} {C:Prop} (r:DVs X.K m H ds vs) (q:Post X.K (rD X.K) m H E Q (Aq F ds h)) (k:∀d v,vs=[v]→DV X.K m H d v→Post X.K (rD X.K) m H E Q (F d h)→C):C:=by
 unfold Aq at q
 split at q
 ·simp only [DVs] at r
  obtain ⟨v,w,rfl,rv,rfl⟩:=r
  exact k _ v rfl rv q
 ·exact q.elim
theorem two_of {F:D→D→HD→Out D} {ds:List D} {vs:List V} {Q:VK} {C:Prop} (r:DVs X.K m H ds vs) (q:Post X.K (rD X.K) m H E Q (Br F ds h)) (k:∀d d' v v',vs=[v,v']→DV X.K m H d v→DV X.K m H d' v'→Post X.K (rD X.K) m H E Q (F d d' h)→C):C:=by
 unfold Br at q
 split at q
 ·simp only [DVs] at r
  obtain ⟨v,w,rfl,rv,v',w',rfl,rv',rfl⟩:=r
  exact k _ _ v v' rfl rv rv' q
 ·exact q.elim
theorem Cm:Dc X (.builtin "len") (Aq Bk):=by
 refine ⟨_,VR,fun m H h E ds vs Q hr r q=>FL r q fun d v ev rv q=>?_⟩
 unfold Bk at q
 split at q
 ·rename_i xs e
  obtain ⟨p,ws,rfl,hs,dv⟩:=Jt hr rv e
  exact ⟨p,ws,ev,hs,by rw [←dv.len];exact Bp hr q (by simp [DV])⟩
 ·exact q.elim
def CDv (i j:Int):Prop:=0<j∧j<18446744073709551616
instance (i j:Int):Decidable (CDv i j):=by unfold CDv;infer_instance
theorem CDv.no {i j:Int} (h:CDv i j):Builtin.divisionGoesByPylong i j=false:=by
 refine PyProof.noPylong_of_log2 ?_
 have h0:j.natAbs≠0:=by have:=h.1;omega
 have h1:j.natAbs<2^64:=by have:=h.2;have:=h.1;omega
 exact Nat.lt_trans ((Nat.log2_lt h0).mpr h1) (by decide)
theorem Wi:DA X (.builtin "divmod") (fun xs H Q=>∃i j,xs=[.int i,.int j]∧CDv i j∧∀p,H p=none→Q (.ref p) (Am H p (.tup [.int (i / j),.int (i % j)]))):=by
 intro pins s σ H xs us Q I r h
 obtain ⟨i,j,rfl,hc,q⟩:=h
 obtain ⟨u,w',rfl,⟨t,rfl⟩,⟨t',rfl⟩⟩:=Ky r
 have h1:=hc.1
 refine divmod_int (by omega) ?_ (.inl hc.no)
 rw [Int.fdiv_eq_ediv_of_nonneg i (by omega),Int.fmod_eq_emod_of_nonneg i (by omega)]
 have hn:H s.heap.objs.size=none:=I.hok.fresh (AO _)
 refine ⟨.ref s.heap.objs.size,_,?_,rfl,q _ hn⟩
 refine I.laid (fun b o e=>AF _ e) (AO _) ⟨by simp only [Fc,FJ];rw [sizeLine_eq];decide,[.int (i / j) s.toks,.int (i % j) (s.toks+1)],.cons ⟨_,rfl⟩ (.cons ⟨_,rfl⟩ .nil),?_,NoDict.new⟩
 exact ⟨_,By s.heap rfl,rfl,0,rfl⟩
def Ju:D→D→HD→Out D
 |.int i,.int j,h=>if CDv i j then .ok (.tup [.int (i / j),.int (i % j)]) h else .stuck
 |_,_,_=>.stuck
theorem Wj:Dc X (.builtin "divmod") (Br Ju):=by
 refine ⟨_,Wi,fun m H h E ds vs Q hr r q=>two_of r q fun d d' v v' ev rv rv' q=>?_⟩
 unfold Ju at q
 split at q
 ·split at q
  ·rename_i i j hc
   simp only [DV] at rv rv'
   subst rv rv'
   exact ⟨i,j,ev,hc,GU hr (.cons (by simp [DV]) (.cons (by simp [DV]) .nil)) q⟩
  ·exact q.elim
 ·exact q.elim
theorem Wk:OpR X (binaryOp .FloorDiv) (rI CDv fun i j=>.int (i / j)):=Kv fun i j _ _ _ _ _ hc q=>by
 have h1:=hc.1
 exact floordiv_int (by omega) (by rw [Int.fdiv_eq_ediv_of_nonneg i (by omega)];exact q) (.inl hc.no)
abbrev KS:=intD (fun i j=>.int (i / j)) CDv
theorem Wl:BL X (binaryOp .FloorDiv) KS:=M8 Wk (fun _ _ h=>h) fun _ _ _ _=>by simp [DV]
def Jv:D→D→HD→Out D
 |.int i,.int j,h=>.ok (.int (if j>i then j else i)) h
 |_,_,_=>.stuck
def Gi:D→D→HD→Out D
 |.int i,.int j,h=>.ok (.int (if j<i then j else i)) h
 |_,_,_=>.stuck
theorem Wm (hc:X.calm=true):Dc X (.builtin "max") (Br Jv):=by
 refine ⟨_,U3 hc,fun m H h E ds vs Q hr r q=>two_of r q fun d d' v v' ev rv rv' q=>?_⟩
 unfold Jv at q
 split at q
 ·simp only [DV] at rv rv'
  subst rv rv'
  exact ⟨_,_,ev,Bp hr q (by simp [DV])⟩
 ·exact q.elim
theorem Qf (hc:X.calm=true):Dc X (.builtin "min") (Br Gi):=by
 refine ⟨_,U4 hc,fun m H h E ds vs Q hr r q=>two_of r q fun d d' v v' ev rv rv' q=>?_⟩
 unfold Gi at q
 split at q
 ·simp only [DV] at rv rv'
  subst rv rv'
  exact ⟨_,_,ev,Bp hr q (by simp [DV])⟩
 ·exact q.elim
def Fm:D→HD→Out D
 |.int i,h=>.ok (.int i) h
 |.bl b,h=>.ok (.int (if b then 1 else 0)) h
 |_,_=>.stuck
theorem KU:Dc X (.type "int") (Aq Fm):=by
 refine ⟨_,U5,fun m H h E ds vs Q hr r q=>FL r q fun d v ev rv q=>?_⟩
 unfold Fm at q
 split at q
 ·simp only [DV] at rv;subst rv
  exact .inl ⟨_,ev,Bp hr q (by simp [DV])⟩
 ·simp only [DV] at rv;subst rv
  exact .inr ⟨_,ev,Bp hr q (by simp [DV])⟩
 ·exact q.elim
def Cy:D→HD→Out D:=fun x h=>match x with
 |.tup ds=>.ok (.tup ds) h
 |.loc l=>match h[l]? with
  |some (.lst ds)=>.ok (.tup ds) h
  |_=>.stuck
 |_=>.stuck
theorem Im:Dc X (.type "tuple") (Aq Cy):=by
 refine ⟨_,VT,fun m H h E ds vs Q hr r q=>FL r q fun d v ev rv q=>?_⟩
 unfold Cy at q
 split at q
 ·simp only [DV] at rv
  obtain ⟨a,ws,rfl,ha,dv⟩:=rv
  exact ⟨a,ws,ev,.inr ⟨SqT.of ha,Bp hr q (by simp only [DV];exact ⟨a,ws,rfl,ha,dv⟩)⟩⟩
 ·split at q
  ·rename_i ds' el
   simp only [DV] at rv
   obtain ⟨a,rfl,ha⟩:=rv
   obtain ⟨ws,hv,dv⟩:=hr.cells _ _ a el ha
   exact ⟨a,ws,ev,.inl ⟨SqL.of hv,GU hr dv q⟩⟩
  ·exact q.elim
 ·exact q.elim
end
theorem PostS.bind {α β:Type} {K:PySem.W.Frag} {m:List Addr} {H:Hp} {R:List Addr→Hp→α→β→Prop} {E:XK} {Q':β→Hp→Prop} {Dn:D9} {o:Out α} {k:α→HD→Out (Fl×Ai)}
 (h:PostS K m H E Dn (o.bind k)) (f:∀a h1 v m1 H1,o=.ok a h1→m <+:m1→Kp H H1→HR K m1 h1 H1→R m1 H1 a v→PostS K m1 H1 E Dn (k a h1)→Q' v H1):Post K R m H E Q' o:=by
 cases o with
 |ok a h1=>exact fun v m1 H1 p kk hr r=>f a h1 v m1 H1 rfl p kk hr r (h.ahead p kk)
 |err C fs h1=>exact h
 |stuck=>exact h
theorem PostS.here {K:PySem.W.Frag} {m:List Addr} {H:Hp} {E:XK} {Dn:D9} {a:Fl×Ai} {h:HD} (hr:HR K m h H) (p:PostS K m H E Dn (.ok a h)):PV K m H Dn a:=p m H (AJ _) (.refl _) hr
section
variable {X:Cx} {E:XK} {st:Stmt} {sts b1 b2:List Stmt} {g g1 g2:MS} {e:Expr} {f:ME} {pos:Pos} {t:MT}
def Bo:MS:=fun ρ h=>.ok (.nx,ρ) h
def Al (g1 g2:MS):MS:=fun ρ h=>(g1 ρ h).bind fun x h1=>match x with
 |(.nx,ρ1)=>g2 ρ1 h1
 |y=>.ok y h1
theorem B1:A8 X E [] Bo:=PY Ur fun Dn σ H z1_=>by obtain ⟨m,ρ,h,hr,er,p⟩:=z1_;exact ((p.here hr) σ er)
theorem AC (h:Ex X E st g):A8 X E [st] g:=Pd h
theorem Av (h1:Ex X E st g1) (h2:A8 X E sts g2):A8 X E (st::sts) (Al g1 g2):=
 PY (MN h1 h2) fun Dn σ H z2_=>by
  obtain ⟨m,ρ,h,hr,er,p⟩:=z2_
  refine ⟨m,ρ,h,hr,er,?_⟩
  unfold Al at p
  cases o:g1 ρ h with
  |stuck=>rw [o] at p;exact p
  |err C fs h1=>rw [o] at p;exact p
  |ok x h1=>
   rw [o] at p
   obtain ⟨fl,ρ1⟩:=x
   intro m1 H1 p1 k1 hr1
   cases fl with
   |nx=>exact fun σ1 er1=>⟨m1,ρ1,h1,hr1,er1,PostS.ahead p1 k1 p⟩
   |bk=>exact p m1 H1 p1 k1 hr1
   |ct=>exact p m1 H1 p1 k1 hr1
   |rt d=>exact p m1 H1 p1 k1 hr1
def EA (f:ME):MS:=fun ρ h=>(f ρ h).bind fun _ h1=>.ok (.nx,ρ) h1
theorem Jw (he:Ev X E e f) (hs:swapsWith e none pos.line X.env=pure false:=by rfl):Ex X E (.Expr e pos) (EA f):=
 Gc (Pe he hs) fun Dn σ H z3_=>by obtain ⟨m,ρ,h,hr,er,p⟩:=z3_;exact (⟨m,ρ,h,hr,er,PostS.bind p fun x h1 v m1 H1 _ p1 k1 hr1 r1 q1=>(q1.here hr1) σ (er.keep p1 k1)⟩)
def AL (f:ME):MS:=fun ρ h=>(f ρ h).bind fun d h1=>.ok (.rt d,ρ) h1
theorem A4 (he:Ev X E e f):Ex X E (.Return (some e) pos) (AL f):=
 Gc (Uu he) fun Dn σ H z4_=>by obtain ⟨m,ρ,h,hr,er,p⟩:=z4_;exact (⟨m,ρ,h,hr,er,PostS.bind p fun x h1 v m1 H1 _ p1 k1 hr1 r1 q1=>(q1.here hr1) v r1⟩)
def Bh (t:MT) (g1 g2:MS):MS:=fun ρ h=>(t ρ h).bind fun b h1=>if b=true then g1 ρ h1 else g2 ρ h1
theorem BY {c:Expr} (hc:Ez X E c t) (ha:A8 X E b1 g1) (hb:A8 X E b2 g2):Ex X E (.If c b1 b2 pos) (Bh t g1 g2):=
 Gc (Uw hc ha hb) fun Dn σ H z5_=>by obtain ⟨m,ρ,h,hr,er,p⟩:=z5_;exact (⟨m,ρ,h,hr,er,PostS.bind p fun x h1 v m1 H1 _ p1 k1 hr1 r1 q1=>by
  cases r1
  cases x with
  |true=>exact ⟨m1,ρ,h1,hr1,er.keep p1 k1,q1⟩
  |false=>exact ⟨m1,ρ,h1,hr1,er.keep p1 k1,q1⟩⟩)
def Zb7:MS:=fun _ _=>.stuck
def Ay (i:Nat) (f:ME):MS:=fun ρ h=>(f ρ h).bind fun d h1=>.ok (.nx,ρ.set i (some d)) h1
theorem AZ {i:Nat} {x:Str} {pos':Pos} (hN:X.N.Nodup) (hi:X.N[i]?=some x) (hx:GM X.env.scope x) (he:Ev X E e f) (hs:swapsWith e (some (.Name x pos')) pos.line X.env=pure false:=by rfl) (hf:X.fn x=true∨X.env.scope.names.lookup x=some .local:=by first |exact .inl rfl |exact .inr rfl |assumption):
 Ex X E (.Assign [.Name x pos'] e pos) (Ay i f):=
 Gc (Uz hN hi hx he hs hf) fun Dn σ H z9_=>by obtain ⟨m,ρ,h,hr,er,p⟩:=z9_;exact (⟨m,ρ,h,hr,er,PostS.bind p fun x h1 v m1 H1 _ p1 k1 hr1 r1 q1=>(q1.here hr1) _ ((er.keep p1 k1).set r1)⟩)
def GZ (i j:Nat) (fa:MA):MS:=fun ρ h=>(fa ρ h).bind fun ds h1=>match ds with
 |[x,y]=>.ok (.nx,(ρ.set i (some x)).set j (some y)) h1
 |_=>.stuck
theorem Nb {i j:Nat} {x y:Str} {a b:Expr} {fa:MA} {px py pt:Pos} {kt k2:Nat} {pt2:Pos} (hc:X.calm=true) (hN:X.N.Nodup) (hi:X.N[i]?=some x) (hj:X.N[j]?=some y) (hij:i≠j)
 (hx:X.env.scope.names.lookup x=some .local) (hy:X.env.scope.names.lookup y=some .local) (ha:Ct X E [a,b] fa)
 (hw:swappedStores [.Tuple [.Name x px,.Name y py] kt pt] (.Tuple [a,b] k2 pt2) X.env=pure (some [x,y]))
 (hs:swapsWithSole [.Tuple [.Name x px,.Name y py] kt pt] (.Tuple [a,b] k2 pt2) pos.line X.env=pure false:=by rfl):
 Ex X E (.Assign [.Tuple [.Name x px,.Name y py] kt pt] (.Tuple [a,b] k2 pt2) pos) (GZ i j fa):=
 Gc (UB hc hN hi hj hij hx hy ha hw hs) fun Dn σ H z10_=>by obtain ⟨m,ρ,h,hr,er,p⟩:=z10_;exact (⟨m,ρ,h,hr,er,PostS.bind p fun x h1 v m1 H1 _ p1 k1 hr1 r1 q1=>by
  split at q1
  ·simp only [Ec,DVs] at r1
   obtain ⟨v,w,rfl,rv,v',w',rfl,rv',rfl⟩:=r1
   exact ⟨v,v',rfl,(q1.here hr1) _ (((er.keep p1 k1).set rv).set rv')⟩
  ·exact q1.elim⟩)
abbrev MG:=D→Ai→Option Ai
def Jx (X:Cx) (tg:Expr) (sg:MG):Prop:=
 ∃gg:TG,PG X tg gg∧∀m H d v ρ σ ρ' Q,DV X.K m H d v→ER X.K m H ρ σ→sg d ρ=some ρ'→(∀σ',ER X.K m H ρ' σ'→Q σ' H)→gg v σ H Q
def A7 (i:Nat):MG:=fun d ρ=>some (ρ.set i (some d))
def De (i j:Nat):MG:=fun d ρ=>match d with
 |.tup [x,y]=>some ((ρ.set i (some x)).set j (some y))
 |_=>none
theorem Ed {i:Nat} {x:Str} (h:PG X (.Name x pos) (Cj i)):Jx X (.Name x pos) (A7 i):=⟨_,h,fun m H d v ρ σ ρ' Q r er e q=>by
 simp only [A7,Option.some.injEq] at e
 subst e
 exact q _ (er.set r)⟩
theorem KV {i j:Nat} {x y:Str} {px py:Pos} {kt:Nat} (h:PG X (.Tuple [.Name x px,.Name y py] kt pos) (FK X.K 2 (Dy (Cj i) (Dy (Cj j) F8)))):Jx X (.Tuple [.Name x px,.Name y py] kt pos) (De i j):=⟨_,h,fun m H d v ρ σ ρ' Q r er e q=>by
 unfold De at e
 split at e
 ·rename_i a b
  cases e
  simp only [DV,DVs] at r
  obtain ⟨p,vs,rfl,hp,v1,w1,rfl,r1,v2,w2,rfl,r2,rfl⟩:=r
  exact ⟨p,_,rfl,SqT.of hp,rfl,v1,_,rfl,v2,_,rfl,rfl,q _ ((er.set r1).set r2)⟩
 ·cases e⟩
def EB (sg:MG) (f:ME):MS:=fun ρ h=>(f ρ h).bind fun d h1=>match sg d ρ with
 |some ρ1=>.ok (.nx,ρ1) h1
 |none=>.stuck
theorem G0 {tg:Expr} {sg:MG} (he:Ev X E e f) (hg:Jx X tg sg) (hs:swapsWithSole [tg] e pos.line X.env=pure false:=by rfl) (hw:swappedStores [tg] e X.env=pure none:=by rfl)
 (h1:(assignEach [tg] X.env).map (·.2)=[assign tg X.env]:=by rfl):Ex X E (.Assign [tg] e pos) (EB sg f):=by
 obtain ⟨gg,hg,i⟩:=hg
 exact Gc (Ph he hg hs hw h1) fun Dn σ H z11_=>by obtain ⟨m,ρ,h,hr,er,p⟩:=z11_;exact (⟨m,ρ,h,hr,er,PostS.bind p fun x h1 v m1 H1 _ p1 k1 hr1 r1 q1=>by
  split at q1
  ·rename_i ρ1 es
   exact i m1 H1 x v ρ σ ρ1 _ r1 (er.keep p1 k1) es fun σ' er'=>(q1.here hr1) σ' er'
  ·exact q1.elim⟩)
abbrev Bi:=List (Nat×List D)
def BN (src:Bi) (items:List D) (h:HD):Prop:=∀p∈src,h[p.1]?=some (.lst p.2)
theorem CN {items:List D} {h:HD}:BN [] items h:=fun p z=>nomatch z
theorem G1 {items ds:List D} {h:HD} {l:Nat} (e:h[l]?=some (.lst ds)):BN [(l,ds)] items h:=fun p z=>by
 rw [qaF] at z
 subst z
 exact e
def Gj (K:PySem.W.Frag):List Addr→Hp→(List D×Bi)→It→Prop:=fun m1 H1 x J=>
 ∀i m2 h2 H2,m1 <+:m2→Kp H1 H2→HR K m2 h2 H2→BN x.2 x.1 h2→
  (i<x.1.length→J.go i H2∧∀y H3,J.yld i H2 y H3→Kp H2 H3∧HR K m2 h2 H3∧∃d,x.1[i]?=some d∧DV K m2 H3 d y)∧(i=x.1.length→J.stop i H2)
abbrev MI:=Ai→HD→Out (List D×Bi)
abbrev ED (X:Cx) (E:XK) (tg iter:Expr) (it:MI):Prop:=PI X tg iter (tM X.K (Gj X.K) E it)
theorem Jy {tg iter:Expr} {w w':TI} (h:PI X tg iter w) (i:∀σ H R,w' σ H R→w σ H R):PI X tg iter w':=fun pins s σ H R I q=>h pins s σ H R I (i σ H R q)
theorem Wn {tg l:Expr} {tl:TE} (hl:PE X l tl):PI X tg l (fun σ H R=>tl σ H fun x H1=>∃a,x=.ref a∧(((∃xs,SqL X.K H1 a xs)∧R (Jg X.K a) H1)∨((∃xs,SqT X.K H1 a xs)∧R (Jh X.K a) H1))):=by
 intro pins s σ H R I h
 refine Az (hl pins s σ H _ I h) fun v s1 z12_=>?_
 obtain ⟨x,H1,I1,r1,q1⟩:=z12_
 obtain ⟨a,e,q⟩:=q1
 subst e
 cases r1
 rcases q with ⟨⟨xs,hq⟩,q⟩ |⟨⟨xs,hq⟩,q⟩
 ·obtain ⟨its,rv,p,hz⟩:=I1.list hq
  refine wpAny_pyIter_list p.isList ?_
  refine ⟨s1.heap.objs.size,[s1.heap.objs.size],_,_,H1,rfl,I1.kept (t':=s1.toks) fun b o e=>AF _ e,UC a _,⟨_,By _ rfl,rfl,rfl⟩,fun b hb=>?_,q⟩
  have e:b=s1.heap.objs.size:=by simpa using hb
  subst e
  exact I1.fpOk (AO _) (I1.hok.fresh (AO _))
 ·obtain ⟨its,rv,p,hz⟩:=I1.tuple hq
  refine wpAny_pyIter_tuple (show s1.heap.IsTuple a its.toArray from p) ?_
  refine ⟨s1.heap.objs.size,[s1.heap.objs.size],_,_,H1,rfl,I1.kept (t':=s1.toks) fun b o e=>AF _ e,UD a _,⟨_,By _ rfl,rfl,rfl⟩,fun b hb=>?_,q⟩
  have e:b=s1.heap.objs.size:=by simpa using hb
  subst e
  exact I1.fpOk (AO _) (I1.hok.fresh (AO _))
def Qg:D→List D→Bi
 |.loc l,ds=>[(l,ds)]
 |_,_=>[]
def Io (d:D) (h:HD):Out (List D×Bi):=match BM d h with
 |some ds=>.ok (ds,Qg d ds) h
 |none=>.stuck
def BV (f:ME):MI:=fun ρ h=>(f ρ h).bind Io
theorem Kp.lget {H H':Hp} {a:Addr} {K:PySem.W.Frag} {xs:List V} (k:Kp H H') (h:FzL K H a xs):SqL K H' a xs:=(k.fzL h).sq
theorem Qh {K:PySem.W.Frag} {a:Addr} {m:List Addr} {H:Hp} {h:HD} {i:Nat} {items:List D} {vs:List V} (hr:HR K m h H) (hs:SqL K H a vs) (dv:DVs K m H items vs) (uniq:∀ys,SqL K H a ys→ys=vs∨True):
 (i<items.length→(Jg K a).go i H∧∀y H3,(Jg K a).yld i H y H3→Kp H H3∧HR K m h H3∧∃d,items[i]?=some d∧DV K m H3 d y)∧(i=items.length→(Jg K a).stop i H):=by
 refine ⟨fun hi=>?_,fun hi=>⟨vs,hs,by rw [←dv.len];exact Nat.le_of_eq hi.symm⟩⟩
 have hd:items[i]?=some items[i]:=A6 hi
 obtain ⟨v,e1,r1⟩:=dv.get hd
 refine ⟨⟨vs,v,hs,e1⟩,fun y H3 z13_=>?_⟩
 obtain ⟨e3,hy⟩:=z13_
 subst e3
 have:=hy vs hs
 rw [e1] at this
 cases this
 exact ⟨.refl _,hr,_,hd,r1⟩
theorem Wo {K:PySem.W.Frag} {a:Addr} {m:List Addr} {H:Hp} {h:HD} {i:Nat} {items:List D} {vs:List V} (hr:HR K m h H) (hs:SqT K H a vs) (dv:DVs K m H items vs):
 (i<items.length→(Jh K a).go i H∧∀y H3,(Jh K a).yld i H y H3→Kp H H3∧HR K m h H3∧∃d,items[i]?=some d∧DV K m H3 d y)∧(i=items.length→(Jh K a).stop i H):=by
 refine ⟨fun hi=>?_,fun hi=>⟨vs,hs,by rw [←dv.len];exact Nat.le_of_eq hi.symm⟩⟩
 have hd:items[i]?=some items[i]:=A6 hi
 obtain ⟨v,e1,r1⟩:=dv.get hd
 refine ⟨⟨vs,v,hs,e1⟩,fun y H3 z14_=>?_⟩
 obtain ⟨e3,hy⟩:=z14_
 subst e3
 have:=hy vs hs
 rw [e1] at this
 cases this
 exact ⟨.refl _,hr,_,hd,r1⟩
theorem Df {tg a:Expr} (ha:Ev X E a f):ED X E tg a (BV f):=
 Jy (Wn ha) fun σ H R ⟨m,ρ,h,hr,er,p⟩=>⟨m,ρ,h,hr,er,Post.bind p fun x h1 v m1 H1 _ p1 k1 hr1 r1 q1=>by
  unfold Io at q1
  split at q1
  ·rename_i ds eds
   cases x with
   |tup xs=>
    simp only [BM,Option.some.injEq] at eds
    subst eds
    simp only [rD,DV] at r1
    obtain ⟨a,vs,rfl,ha,dv⟩:=r1
    refine ⟨a,rfl,.inr ⟨⟨vs,SqT.of ha⟩,q1 _ m1 H1 (AJ _) (.refl _) hr1 fun i m2 h2 H2 p2 k2 hr2 _=>?_⟩⟩
    exact Wo hr2 (SqT.of (k2 _ _ ha rfl)) (dv.keep p2 k2)
   |loc l=>
    simp only [rD,DV] at r1
    obtain ⟨a,rfl,ha⟩:=r1
    simp only [BM] at eds
    split at eds
    ·rename_i xs el
     cases eds
     obtain ⟨vs,hv,dv⟩:=hr1.cells l _ a el ha
     refine ⟨a,rfl,.inl ⟨⟨vs,SqL.of hv⟩,q1 _ m1 H1 (AJ _) (.refl _) hr1 fun i m2 h2 H2 p2 k2 hr2 hs=>?_⟩⟩
     obtain ⟨ws,hw,dw⟩:=hr2.cells l _ a (hs _ A0) (Jl p2 ha)
     exact Qh hr2 (SqL.of hw) dw fun _ _=>.inr trivial
    ·cases eds
   |scr ns=>
    simp only [BM,Option.some.injEq] at eds
    subst eds
    simp only [rD,DV] at r1
    obtain ⟨a,rfl,ha⟩:=r1
    refine ⟨a,rfl,.inl ⟨⟨_,ha.sq⟩,q1 _ m1 H1 (AJ _) (.refl _) hr1 fun i m2 h2 H2 p2 k2 hr2 _=>?_⟩⟩
    exact Qh hr2 (k2.lget ha) Qd fun _ _=>.inr trivial
   |_=>simp [BM] at eds
  ·exact q1.elim⟩
def Gk (lo:Int) (n:Nat):List D:=(List.range n).map fun k=>.int (lo+(k:Nat))
theorem Qi {K:PySem.W.Frag} {m1:List Addr} {H1:Hp} (lo:Int) (n:Nat):Gj K m1 H1 (Gk lo n,[]) (Ji lo n):=fun i m2 h2 H2 p2 k2 hr2 _=>by
 refine ⟨fun hi=>?_,fun hi=>?_⟩
 ·have hi':i<n:=by simpa [Gk] using hi
  refine ⟨hi',fun y H3 z16_=>?_⟩
  obtain ⟨e3,ey⟩:=z16_
  subst e3 ey
  refine ⟨.refl _,hr2,.int (lo+i),?_,by simp [DV]⟩
  simp [Gk,Kg,hi']
 ·show n≤i
  have hi':i=n:=by simpa [Gk] using hi
  omega
@[irreducible] noncomputable def G2:List D→HD→Out (List D×Bi):=fun ds h=>match ds with
  |[.int j]=>@ite _ (-(2^62)≤j∧j<2^62) (Classical.propDecidable _) (.ok (Gk 0 j.toNat,[]) h) .stuck
  |_=>.stuck
@[irreducible] noncomputable def Jz:List D→HD→Out (List D×Bi):=fun ds h=>match ds with
  |[.int i,.int j]=>@ite _ ((-(2^62)≤i∧i<2^62)∧-(2^62)≤j∧j<2^62) (Classical.propDecidable _) (.ok (Gk i (j - i).toNat,[]) h) .stuck
  |_=>.stuck
noncomputable def CO (fa:MA):MI:=fun ρ h=>(fa ρ h).bind G2
noncomputable def KW (fa:MA):MI:=fun ρ h=>(fa ρ h).bind Jz
theorem EF {tg a:Expr} {fa:MA} {p pos:Pos} (hg:Gl X "range") (hm:X.mg "range"=none) (ha:Ct X E [a] fa) (hs:starEach [a] X.env=[(false,eval a X.env)]:=by rfl):ED X E tg (.Call (.Name "range" p) [a] [] pos) (CO fa):=
 Jy (UH hg hm ha hs) fun σ H R z17_=>by obtain ⟨m,ρ,h,hr,er,p⟩:=z17_;exact (⟨m,ρ,h,hr,er,Post.bind p fun x h1 v m1 H1 _ p1 k1 hr1 r1 q1=>by
  unfold G2 at q1
  split at q1
  ·split at q1
   ·rename_i hj
    simp only [Ec,DVs,DV] at r1
    obtain ⟨v,w,rfl,rfl,rfl⟩:=r1
    exact ⟨_,rfl,hj.1,hj.2,q1 _ m1 H1 (AJ _) (.refl _) hr1 (Qi 0 _)⟩
   ·exact q1.elim
  ·exact q1.elim⟩)
theorem Wq {tg a b:Expr} {fa:MA} {p pos:Pos} (hg:Gl X "range") (hm:X.mg "range"=none) (ha:Ct X E [a,b] fa) (hs:starEach [a,b] X.env=[(false,eval a X.env),(false,eval b X.env)]:=by rfl) (hs2:starEach [b] X.env=[(false,eval b X.env)]:=by rfl):ED X E tg (.Call (.Name "range" p) [a,b] [] pos) (KW fa):=
 Jy (UI hg hm ha hs hs2) fun σ H R z18_=>by obtain ⟨m,ρ,h,hr,er,p⟩:=z18_;exact (⟨m,ρ,h,hr,er,Post.bind p fun x h1 v m1 H1 _ p1 k1 hr1 r1 q1=>by
  unfold Jz at q1
  split at q1
  ·split at q1
   ·rename_i hj
    simp only [Ec,DVs,DV] at r1
    obtain ⟨v,w,rfl,rfl,v',w',rfl,rfl,rfl⟩:=r1
    exact ⟨_,_,rfl,⟨hj.1.1,hj.1.2,hj.2.1,hj.2.2⟩,q1 _ m1 H1 (AJ _) (.refl _) hr1 (Qi _ _)⟩
   ·exact q1.elim
  ·exact q1.elim⟩)
open Classical in
noncomputable def Fo (src:Bi) (items:List D) (sg:MG) (body:MS):List D→MS
 |[]=>fun ρ h=>if BN src items h then .ok (.nx,ρ) h else .stuck
 |d::ds=>fun ρ h=>if BN src items h then match sg d ρ with
   |none=>.stuck
   |some ρ1=>(body ρ1 h).bind fun x h2=>match x with
    |(.nx,ρ2)=>Fo src items sg body ds ρ2 h2
    |(.ct,ρ2)=>Fo src items sg body ds ρ2 h2
    |(.bk,ρ2)=>.ok (.nx,ρ2) h2
    |(.rt d,ρ2)=>.ok (.rt d,ρ2) h2
  else .stuck
noncomputable def B4 (it:MI) (sg:MG) (body:MS):MS:=fun ρ h=>(it ρ h).bind fun x h1=>Fo x.2 x.1 sg body x.1 ρ h1
inductive Qj (K:PySem.W.Frag) (E:XK) (Dn:D9) (src:Bi) (items:List D) (sg:MG) (g:MS) (m1:List Addr) (H1:Hp) (i n:Nat) (σ2:L2.St) (H2:Hp):Prop where
 |mk (e:n=items.length - i) (l:i≤items.length) (m2:List Addr) (ρ2:Ai) (h2:HD) (p:m1 <+:m2) (k:Kp H1 H2) (hr:HR K m2 h2 H2) (er:ER K m2 H2 ρ2 σ2) (q:PostS K m2 H2 E Dn (Fo src items sg g (items.drop i) ρ2 h2)):Qj K E Dn src items sg g m1 H1 i n σ2 H2
inductive Qk (K:PySem.W.Frag) (E:XK) (Dn:D9) (src:Bi) (items:List D) (sg:MG) (g:MS) (m1:List Addr) (H1:Hp) (i:Nat) (σ2:L2.St) (H2:Hp):Prop where
 |mk (m2:List Addr) (ρ2:Ai) (h2:HD) (p:m1 <+:m2) (k:Kp H1 H2) (hr:HR K m2 h2 H2) (er:ER K m2 H2 ρ2 σ2) (q:PostS K m2 H2 E Dn (Fo src items sg g (items.drop i) ρ2 h2)):Qk K E Dn src items sg g m1 H1 i σ2 H2
theorem DO {tg iter:Expr} {body:List Stmt} {it:MI} {sg:MG} {g:MS} (hp:PassesOwn (model X.prog X.w) X.A X.env X.xe) (hc:X.calm=true) (hi:ED X E tg iter it) (hg:Jx X tg sg) (hb:A8 X E body g)
 (hs:∀x,foldedSetIterable iter X.env x=pure x:=by intro _;rfl):Ex X E (.For tg iter body [] pos) (B4 it sg g):=by
 obtain ⟨gg,hg,ig⟩:=hg
 refine Gc (UK hp hc hi hg hb hs) ?_
 rintro Dn σ H ⟨m,ρ,h,hr,er,p⟩
 refine ⟨m,ρ,h,hr,er,PostS.bind p fun x h1 J m1 H1 _ p1 k1 hr1 r1 q1=>?_⟩
 obtain ⟨items,src⟩:=x
 refine ⟨Qj X.K E Dn src items sg g m1 H1,⟨items.length,rfl,BU _,m1,ρ,h1,AJ _,.refl _,hr1,er.keep p1 k1,by simpa using q1⟩,?_⟩
 rintro i n σ2 H2 ⟨rfl,hi,m2,ρ2,h2,p2,k2,hr2,er2,q2⟩
 by_cases hlt:i<items.length
 ·rw [Kd hlt] at q2
  unfold Fo at q2
  split at q2
  ·rename_i hs
   obtain ⟨hgo,hy⟩:=(r1 i m2 h2 H2 p2 k2 hr2 hs).1 hlt
   refine .inr ⟨hgo,Qk X.K E Dn src items sg g m1 H1 (i+1),fun σ5 H5 z20_=>by obtain ⟨m5,ρ5,h5,a1,a2,a3,a4,a5⟩:=z20_;exact (⟨items.length - (i+1),by omega,rfl,hlt,m5,ρ5,h5,a1,a2,a3,a4,a5⟩),fun y H3 hyl=>?_⟩
   obtain ⟨k3,hr3,d,ed,rd⟩:=hy y H3 hyl
   have ed':d=items[i]:=by rw [A6 hlt] at ed;exact (Option.some.inj ed).symm
   subst ed'
   split at q2
   ·exact q2.elim
   ·rename_i ρ3 es
    refine ig m2 H3 _ y ρ2 σ2 ρ3 _ rd (er2.keep (AJ _) k3) es fun σ4 er4=>?_
    refine ⟨m2,ρ3,h2,hr3,er4,?_⟩
    have q3:=PostS.ahead (AJ _) k3 q2
    cases o:g ρ3 h2 with
    |stuck=>rw [o] at q3;exact q3
    |err C fs h5=>rw [o] at q3;exact q3
    |ok z h5=>
     rw [o] at q3
     obtain ⟨fl,ρ5⟩:=z
     intro m5 H5 p5 k5 hr5
     have pk:m1 <+:m5:=p2.trans p5
     have kk:Kp H1 H5:=(k2.trans k3).trans k5
     cases fl with
     |nx=>exact fun σ5 er5=>⟨m5,ρ5,h5,pk,kk,hr5,er5,PostS.ahead p5 k5 q3⟩
     |ct=>exact fun σ5 er5=>⟨m5,ρ5,h5,pk,kk,hr5,er5,PostS.ahead p5 k5 q3⟩
     |bk=>exact fun σ5 er5=>q3 m5 H5 p5 k5 hr5 σ5 er5
     |rt d=>exact fun v rv=>q3 m5 H5 p5 k5 hr5 v rv
  ·exact q2.elim
 ·have he:i=items.length:=Nat.le_antisymm hi (HU hlt)
  subst he
  rw [List.drop_length] at q2
  unfold Fo at q2
  split at q2
  ·rename_i hs
   exact .inl ⟨(r1 _ m2 h2 H2 p2 k2 hr2 hs).2 rfl,(q2.here hr2) σ2 er2⟩
  ·exact q2.elim
end
section
variable {M:Model} {A:Around} {E:Value→Shared→Prop} {s:Shared}
theorem Nd {env:Env}:∀(names:List (Str×NameKind)) (acc:List (Str×Addr)),(∀y∈names,y.2=.free→∃c,env.cells.lookup y.1=some c)→
 ∃cl:List (Str×Addr),(forIn names acc (fun (x:Str×NameKind) (cs:List (Str×Addr))=>match x with
  |(name,kind)=>if (kind==NameKind.free)=true then do let y ←cellOf env name;pure (ForInStep.yield ((name,y)::cs)) else pure (ForInStep.yield cs)):Sem (List (Str×Addr)))=pure cl∧
  (∀x c,(x,c)∈cl→(x,c)∈acc∨(env.cells.lookup x=some c∧(x,NameKind.free)∈names))∧(∀y∈names,y.2=.free→∃c,(y.1,c)∈cl)∧(∀p∈acc,p∈cl)
 |[],acc,_=>⟨acc,rfl,fun x c h=>.inl h,fun y hy=>absurd hy (by simp),fun p h=>h⟩
 |(name,kind)::r,acc,h=>by
  rw [List.forIn_cons]
  by_cases hk:kind=.free
  ·subst hk
   obtain ⟨c,hc⟩:=h (name,.free) A0 rfl
   obtain ⟨cl,e,h1,h2,h3⟩:=Nd (env:=env) r ((name,c)::acc) (fun y hy=>h y (A5 _ hy))
   refine ⟨cl,?_,fun x c' hm=>?_,fun y hy hf=>?_,fun p hp=>h3 p (A5 _ hp)⟩
   ·rw [←e]
    have:cellOf env name=pure c:=by unfold cellOf;rw [hc]
    simp only [this,beq_self_eq_true,if_true,pure_bind]
   ·rcases h1 x c' hm with q |⟨q1,q2⟩
    ·rcases qa5.mp q with q |q
     ·cases q;exact .inr ⟨hc,A0⟩
     ·exact .inl q
    ·exact .inr ⟨q1,A5 _ q2⟩
   ·rcases qa5.mp hy with q |q
    ·subst q;exact ⟨c,h3 _ A0⟩
    ·exact h2 y q hf
  ·obtain ⟨cl,e,h1,h2,h3⟩:=Nd (env:=env) r acc (fun y hy=>h y (A5 _ hy))
   refine ⟨cl,?_,fun x c' hm=>?_,fun y hy hf=>?_,h3⟩
   ·rw [←e]
    have hk':(kind==NameKind.free)=false:=by simpa using hk
    simp only [hk',Dx,if_false,pure_bind]
   ·rcases h1 x c' hm with q |⟨q1,q2⟩
    ·exact .inl q
    ·exact .inr ⟨q1,A5 _ q2⟩
   ·rcases qa5.mp hy with q |q
    ·subst q;exact absurd hf hk
    ·exact h2 y q hf
theorem Nf {scope:Scope} {env:Env} (h:∀y∈scope.names,y.2=.free→∃c,env.cells.lookup y.1=some c):
 ∃cl:List (Str×Addr),closureFor scope env=pure cl∧(∀x c,(x,c)∈cl→env.cells.lookup x=some c∧(x,NameKind.free)∈scope.names)∧(∀y∈scope.names,y.2=.free→∃c,(y.1,c)∈cl):=by
 obtain ⟨cl,e,h1,h2,h3⟩:=Nd (env:=env) scope.names [] h
 refine ⟨cl,?_,fun x c hm=>?_,h2⟩
 ·unfold closureFor
  simp only [bind_pure]
  exact e
 ·rcases h1 x c hm with q |q
  ·exact nomatch q
  ·exact q
theorem Ql {scope:Scope} {globals:Addr} {cl:List (Str×Addr)} {qual:Str} {around:Env} {Q:Env→Shared→Prop}
 (h:Q (newEnv scope s.heap.objs.size globals (cellsFrom (s.heap.objs.size+1) scope.names cl) qual none .none (some around) builtinsNs) {s with heap:=pushCells (s.heap.push {cls:=.type "dict",data:=.dict #[]}) scope.names}):
 wpAny M A (newFunctionEnv scope globals cl [] qual none .none (some around)) Q E s:=by
 simp only [newFunctionEnv,Option.isSome_some,if_true]
 refine wpAny_bind (wpAny_alloc ?_)
 refine wpAny_bind (wpAny_layCells _ (fun name kind cells=>by cases hkc:kind==NameKind.cell<;>simp [hkc]) _ _ _ _ ?_)
 simp only [List.forIn_nil,pure_bind]
 refine wpAny_pure ?_
 rw [show ({s with heap:=s.heap.push {cls:=.type "dict",data:=.dict #[]}}:Shared).heap.objs.size=s.heap.objs.size+1 from CJ ..]
 exact h
end
section
variable {prog:Program} {w:World} {A:Around} {R:Result→Shared→Prop} {s:Shared}
theorem Wr {elt target iter:Expr} {ifs:List Expr} {scope:Scope} {pos:Pos} {it acc:Value} {env:Env} (I:Nat→Shared→Prop)
 (turn:∀n s,I n s→wpAny (model prog w) A (pyNext it) (fun r s₁=>match r with
  |none=>R (.ok .next) s₁
  |some v=>wpAny (model prog w) A (letOwnedTupleGo target it v) (fun _ s₁'=>wpAny (model prog w) A (assign target env v) (fun _ s₂=>
   wpAny (model prog w) A (forIn ifs true fun c r=>if r=true then do let ok ←isTrue c env (eval c env);pure (ForInStep.yield ok) else pure (ForInStep.yield r)) (fun ok s₃=>
    if ok=true then wpAny (model prog w) A (eval elt env) (fun x s₄=>
     wpAny (model prog w) A (call (.builtin "list.append") [acc,x]) (fun _ s₅=>∃m,m<n∧I m s₅) (notedBy (model prog w) A env fun e s'=>R (.error e) s') s₄) (notedBy (model prog w) A env fun e s'=>R (.error e) s') s₃
    else ∃m,m<n∧I m s₃) (notedBy (model prog w) A env fun e s'=>R (.error e) s') s₂) (notedBy (model prog w) A env fun e s'=>R (.error e) s') s₁') (notedBy (model prog w) A env fun e s'=>R (.error e) s') s₁) (notedBy (model prog w) A env fun e s'=>R (.error e) s') s)
 (n:Nat) (h:I n s):
 codeAny (model prog w) A (.compLoop (.ListComp elt [⟨target,iter,ifs,0⟩] scope pos) 0 it acc env) R s:=by
 refine codeAny_loop rfl I (fun n s hI=>?_) n h
 show wpAny _ A ((compTurn (.ListComp elt [⟨target,iter,ifs,0⟩] scope pos) 0 it acc env).onRaise (fun x=>do noteFrame x env;theTreesLotGoes x)) _ _ s
 refine wpAny_noted ?_
 rw [compTurn_list]
 refine wpAny_bind (wpAny_standAt (wpAny_bind (wpAny_mono (turn n s hI) (fun r s₁ h₁=>?_) fun _ _ h'=>h')))
 cases r with
 |none=>exact wpAny_pure h₁
 |some v=>
  refine wpAny_bind (wpAny_mono h₁ (fun _ s₁' h₁'=>?_) fun _ _ h'=>h')
  refine wpAny_bind (wpAny_mono h₁' (fun _ s₂ h₂=>wpAny_bind (wpAny_mono h₂ (fun ok s₃ h₃=>?_) fun _ _ h'=>h')) fun _ _ h'=>h')
  cases ok with
  |false=>exact wpAny_pure ⟨rfl,h₃⟩
  |true=>
   exact wpAny_bind (wpAny_bind (wpAny_mono h₃ (fun x s₄ h₄=>wpAny_bind (wpAny_mono h₄ (fun _ s₅ h₅=>wpAny_pure (wpAny_pure ⟨rfl,h₅⟩)) fun _ _ h'=>h')) fun _ _ h'=>h'))
end
def Gm (X:Cx) (ifs:List Expr) (t:TT):Prop:=∀(pins:List (Addr×Obj)) (s:Shared) (σ:L2.St) (H:Hp) (Q:Bool→Hp→Prop),Inv X pins σ H s→t σ H Q→
 wpAny (model X.prog X.w) X.A (forIn ifs true fun c r=>if r=true then do let ok ←isTrue c X.env (eval c X.env);pure (ForInStep.yield ok) else pure (ForInStep.yield r)) (TP X pins σ Q) X.xe s
theorem Ws {X:Cx}:Gm X [] (fun _ H Q=>Q true H):=fun _ _ _ H _ I h=>wpAny_tests_nil ⟨H,I,h⟩
def Qm (env:Env) (scope:Scope) (C:Addr) (cells:List (Str×Addr)):Env:=
 {scope:=relabel scope env,locals:=C,globals:=env.globals,cells:=cells,qual:=env.qual,func:=none,code:=env.code,frame:=env.frame,builtins:=env.builtins}
def A3 (X:Cx) (Nc:List Str) (scope:Scope) (C D:Addr) (cells:List (Str×Addr)) (fp:List Addr) (s₀:Shared) (H₀:Hp) (pins:List (Addr×Obj)):Cx:=
 {X with N:=Nc,s₀:=s₀,H₀:=H₀,env:=Qm X.env scope C cells,outer:=X.stack,stack:=X.stack,ex:=D::fp,fn:=fun x=>scope.names.lookup x==some .cell,pn:=X.pn++pins,xe:=fun _ _=>False}
def BE (cs:List (Option Nat)) (σ:L2.St):L2.St:=cs.map fun o=>o.bind fun j=>(σ[j]?).join
def Sub (σ σ':L2.St):Prop:=σ.length=σ'.length∧∀(i:Nat) v,σ[i]?=some (some v)→σ'[i]?=some (some v)
def KY (cs:List (Option Nat)) (wi:TI) (g:TG) (tc:TT) (te:TE):TE:=fun σ H Q=>wi σ H fun J H1=>∃W:Nat→Nat→List V→Hp→Prop,(∃n,W 0 n [] H1)∧∀i n acc H,W i n acc H→
 (J.stop i H∧acc.length≤sizeLine∧∀p,H p=none→Q (.ref p) (Am H p (.lst acc)))∨
 (J.go i H∧acc.length<sizeLine∧∀x H',J.yld i H x H'→g x (BE cs σ) H' fun σ2 H2=>Sub (BE cs σ) σ2∧tc σ2 H2 fun b H3=>if b=true then te σ2 H3 fun y H4=>∃n',n' < n∧W (i+1) n' (acc++[y]) H4 else ∃n',n' < n∧W (i+1) n' acc H3)
theorem Ng:∀(names:List (Str×NameKind)) (h:Heap) (acc:List (Str×Addr)) (x:Str) (c:Addr),(x,c)∈cellsFrom h.objs.size names acc→(x,c)∈acc∨(h.objs.size≤c∧(x,NameKind.cell)∈names∧(pushCells h names).IsCell c none)
 |[],_,_,_,_,m=>.inl m
 |(name,kind)::r,h,acc,x,c,m=>by
  unfold cellsFrom at m
  unfold pushCells
  split at m
  ·rename_i hk
   rw [if_pos hk]
   have hk':kind=.cell:=by simpa using hk
   have e:h.objs.size+1=(h.push {cls:=.type "cell",data:=.cell none}).objs.size:=(CJ ..).symm
   rw [e] at m
   rcases Ng r _ _ x c m with q |⟨q1,q2,q3⟩
   ·rcases qa5.mp q with q |q
    ·cases q
     refine .inr ⟨AO _,by rw [hk'];exact A0,?_⟩
     exact (show (h.push {cls:=.type "cell",data:=.cell none}).IsCell h.objs.size none from ⟨_,By _ rfl,rfl⟩).keeps fun b o e=>pushCells_keeps _ _ b o e
    ·exact .inl q
   ·exact .inr ⟨by rw [←e] at q1;exact Nat.le_of_succ_le q1,A5 _ q2,q3⟩
  ·rename_i hk
   rw [if_neg hk]
   rcases Ng r h acc x c m with q |⟨q1,q2,q3⟩
   ·exact .inl q
   ·exact .inr ⟨q1,A5 _ q2,q3⟩
theorem Nh:∀(names:List (Str×NameKind)) (h:Heap) (acc:List (Str×Addr)),(∀x c,(x,c)∈acc→c<h.objs.size)→(∀x y c,(x,c)∈acc→(y,c)∈acc→x=y)→
 ∀x y c,(x,c)∈cellsFrom h.objs.size names acc→(y,c)∈cellsFrom h.objs.size names acc→x=y
 |[],_,_,_,i=>i
 |(name,kind)::r,h,acc,lt,i=>by
  unfold cellsFrom
  split
  ·have e:h.objs.size+1=(h.push {cls:=.type "cell",data:=.cell none}).objs.size:=(CJ ..).symm
   rw [e]
   refine Nh r _ _ (fun x c m=>?_) (fun x y c m m'=>?_)
   ·rw [←e]
    rcases qa5.mp m with q |q
    ·cases q;exact Km _
    ·exact HQ (lt x c q)
   ·rcases qa5.mp m with q |q<;>rcases qa5.mp m' with q' |q'
    ·cases q;cases q';rfl
    ·cases q;exact absurd (lt y _ q') (Dp _)
    ·cases q';exact absurd (lt x _ q) (Dp _)
    ·exact i x y c q q'
  ·exact Nh r h acc lt i
theorem lookup_mem {α:Type} {l:List (Str×α)} {x:Str} {k:α} (nd:(l.map (·.1)).Nodup) (h:(x,k)∈l):l.lookup x=some k:=by
 induction l with
 |nil=>cases h
 |cons p r ih=>
  obtain ⟨y,j⟩:=p
  rw [Cs,qbQ] at nd
  rw [FH]
  rcases qa5.mp h with e |e
  ·cases e;simp
  ·have:x≠y:=by
    rintro rfl
    exact nd.1 (qaL.mpr ⟨(x,k),e,rfl⟩)
   have hb:(x==y)=false:=by simpa using this
   rw [hb]
   exact ih nd.2 e
theorem Wt {env:Env} {x n:Str} {j:NameKind} {r:List (Str×NameKind)} {k:NameKind} (h:List.lookup x ((if (j==NameKind.free&&env.scope.kind==.function&&env.kindOf n==some .cell)=true then (n,NameKind.cell) else (n,j))::r)=some k):
 (x=n∧(k=j∨(j=.free∧k=.cell)))∨(x≠n∧List.lookup x r=some k):=by
 by_cases hx:x=n
 ·subst hx
  refine .inl ⟨rfl,?_⟩
  split at h
  ·rename_i hc
   rw [FH] at h
   simp only [beq_self_eq_true] at h
   cases h
   simp only [BR] at hc
   exact .inr ⟨by simpa using hc.1.1,rfl⟩
  ·rw [FH] at h
   simp only [beq_self_eq_true] at h
   cases h
   exact .inl rfl
 ·have hb:(x==n)=false:=by simpa using hx
  refine .inr ⟨hx,?_⟩
  split at h<;>(rw [FH] at h;simp only [hb] at h;exact h)
theorem Qn {scope:Scope} {env:Env} {x:Str} {k:NameKind}:(relabel scope env).names.lookup x=some k→∃k0,scope.names.lookup x=some k0∧(k=k0∨(k0=.free∧k=.cell)):=by
 show (scope.names.map _).lookup x=some k→_
 induction scope.names with
 |nil=>intro h;cases h
 |cons p r ih=>
  obtain ⟨n,j⟩:=p
  intro h
  rw [Cs] at h
  rw [FH]
  rcases Wt h with ⟨hx,hk⟩ |⟨hx,hr⟩
  ·subst hx
   simp only [beq_self_eq_true]
   exact ⟨j,rfl,hk⟩
  ·have hb:(x==n)=false:=by simpa using hx
   rw [hb]
   exact ih hr
structure Fp (X:Cx) (scope:Scope) (Nc:List Str) (cs:List (Option Nat)):Prop where
 kind:scope.kind=.function
 loc:∀y∈scope.names,y.2=.local→scope.names.lookup y.1=some .local
 free:∀y∈scope.names,y.2=.free→X.env.kindOf y.1=some .cell∨X.env.kindOf y.1=some .free
 nd:(scope.names.map (·.1)).Nodup
 len:cs.length=Nc.length
 out:∀(i:Nat) (x:Str) (j:Nat),Nc[i]?=some x→cs[i]?=some (some j)→X.N[j]?=some x∧scope.names.lookup x=some .free
theorem Wu {a b:Addr} (h:a<b):@LT.lt Nat instLTNat a b:=h
theorem BK {a b:Addr} (h:@LT.lt Nat instLTNat a b):a≠b:=BI h
theorem FM {a b:Addr} (h:@LT.lt Nat instLTNat a b):b≠a:=Ne.symm (BI h)
section
variable {X:Cx} {pins:List (Addr×Obj)} {σ:L2.St} {H:Hp} {s:Shared}
theorem Qo {scope:Scope} {Nc:List Str} {cs:List (Option Nat)} {fp:List Addr} {cl:List (Str×Addr)} (S:Fp X scope Nc cs) (I:Inv X pins σ H s) (f:∀b∈fp,Dq X pins H b) (ob:∀b∈fp,∃o,s.heap.get? b=some o)
 (hcl:∀x c,(x,c)∈cl→X.env.cells.lookup x=some c∧(x,NameKind.free)∈scope.names) (hcl2:∀y∈scope.names,y.2=.free→∃c,(y.1,c)∈cl) {s3:Shared} (e3:s3={s with heap:=s.heap.push {cls:=.type "list",data:=.seq ([]:List Value).toArray}}):
 Inv (A3 X Nc scope s3.heap.objs.size s.heap.objs.size (cellsFrom (s3.heap.objs.size+1) scope.names cl) fp s3 H pins) [] (BE cs σ) H
  {s3 with heap:=pushCells (s3.heap.push {cls:=.type "dict",data:=.dict #[]}) scope.names}:=by
 have k3:∀b o,s.heap.get? b=some o→s3.heap.get? b=some o:=fun b o e=>by subst e3;exact AF _ e
 have JE:s3.heap.objs.size=s.heap.objs.size+1:=by subst e3;exact CJ ..
 have szd:(s3.heap.push {cls:=.type "dict",data:=.dict #[]}).objs.size=s3.heap.objs.size+1:=CJ ..
 have k34:∀b o,s3.heap.get? b=some o→(pushCells (s3.heap.push {cls:=.type "dict",data:=.dict #[]}) scope.names).get? b=some o:=fun b o e=>pushCells_keeps _ _ b o (AF _ e)
 have k4:∀b o,s.heap.get? b=some o→(pushCells (s3.heap.push {cls:=.type "dict",data:=.dict #[]}) scope.names).get? b=some o:=fun b o e=>k34 b o (k3 b o e)
 have cllt:∀x c,(x,c)∈cl→c<s.heap.objs.size:=fun x c m=>by
  obtain ⟨v,q⟩:=I.cell x c (hcl x c m).1
  exact q.lt
 have cm:∀x c,(cellsFrom (s3.heap.objs.size+1) scope.names cl).lookup x=some c→(x,c)∈cl∨(s3.heap.objs.size+1≤c∧(x,NameKind.cell)∈scope.names∧(pushCells (s3.heap.push {cls:=.type "dict",data:=.dict #[]}) scope.names).IsCell c none):=fun x c e=>by
  have m:=mem_of_lookup e
  rw [←szd] at m
  have:=Ng scope.names _ cl x c m
  rw [szd] at this
  exact this
 have frs_lt:∀b∈frs X.stack,b<s.heap.objs.size:=fun b hb=>by
  obtain ⟨_,o,ho,_⟩:=I.stack.mem hb
  exact AG ho
 have nfs:∀b,b≠X.env.locals→b∉X.fs→b∉frs X.stack:=fun b h1 h2 hb=>by
  rcases qa5.mp (I.stkSub b hb) with q |q
  ·exact h1 q
  ·exact h2 q
 have ok:(A3 X Nc scope s3.heap.objs.size s.heap.objs.size (cellsFrom (s3.heap.objs.size+1) scope.names cl) fp s3 H pins).Ok:=by
  refine ⟨I.ok.mod,S.kind,I.ok.glob,I.ok.blt,AO _,fun x y c e1 e2=>?_,fun x hx=>?_,fun x c hf e=>?_,I.ok.hd,I.ok.frames,.inl rfl,fun b hb=>?_,fun b o e=>?_,?_,fun b o e hb=>?_,fun b hb=>?_,?_,I.stkFree⟩
  ·have m1:=mem_of_lookup e1
   have m2:=mem_of_lookup e2
   have m1':(x,c)∈cellsFrom (s3.heap.push {cls:=.type "dict",data:=.dict #[]}).objs.size scope.names cl:=by rw [szd];exact m1
   have m2':(y,c)∈cellsFrom (s3.heap.push {cls:=.type "dict",data:=.dict #[]}).objs.size scope.names cl:=by rw [szd];exact m2
   exact Nh scope.names (s3.heap.push {cls:=.type "dict",data:=.dict #[]}) cl (fun x c m=>by rw [szd,JE];exact Bb (cllt x c m) (by omega))
    (fun x y c a b=>I.ok.inj x y c (hcl x c a).1 (hcl y c b).1) x y c m1' m2'
  ·have:∃k,(relabel scope X.env).names.lookup x=some k∧(k=.cell∨k=.free):=by
    rcases hx with q |q
    ·exact ⟨_,q,.inl rfl⟩
    ·exact ⟨_,q,.inr rfl⟩
   obtain ⟨k,e1,hk⟩:=this
   obtain ⟨k0,e0,hk0⟩:=Qn e1
   refine qbO.mp (PySem.W.cellsFrom_some _ _ _ ?_)
   have:k0=.cell∨k0=.free:=by
    rcases hk0 with q |⟨q,_⟩
    ·rw [←q];exact hk
    ·exact .inr q
   rcases this with q |q
   ·subst q;exact .inl e0
   ·subst q
    obtain ⟨c,hc⟩:=hcl2 _ (mem_of_lookup e0) rfl
    refine .inr ?_
    cases hl:cl.lookup x with
    |some c'=>rfl
    |none=>
     exfalso
     have:∀p∈cl,p.1≠x:=fun p hp e=>by
      have h2:=List.lookup_eq_none_iff.mp hl p hp
      rw [e] at h2
      simp at h2
     exact this _ hc rfl
  ·have hk:scope.names.lookup x=some .cell:=by
    have:(scope.names.lookup x==some NameKind.cell)=true:=hf
    simpa using this
   rcases cm x c e with q |⟨q1,_,_⟩
   ·have:=lookup_mem S.nd (hcl x c q).2
    rw [hk] at this
    cases this
   ·exact Nat.le_of_succ_le q1
  ·rcases qa5.mp hb with q |q
   ·subst q
    refine ⟨BK (show _<s3.heap.objs.size by omega),fun x c e=>?_⟩
    rcases cm x c e with q |⟨q1,_,_⟩
    ·exact BI (cllt x c q)
    ·exact FM (Bb (by omega) q1)
   ·obtain ⟨o,ho⟩:=ob b q
    have hlt:=Wu (AG ho)
    refine ⟨BK (show _<s3.heap.objs.size by omega),fun x c e=>?_⟩
    rcases cm x c e with q2 |⟨q1,_,_⟩
    ·exact (f b q).2.2.2.2.1 x c (hcl x c q2).1
    ·exact FM (Bb (by omega) q1)
  ·obtain ⟨h1,h2⟩:=I.bs b o e
   exact ⟨k3 b o h1,h2⟩
  ·show X.base.objs.size≤s3.heap.objs.size
   have:=BS I.ok.bsz I.sz
   omega
  ·obtain ⟨h1,h2⟩:=I.bs b o e
   rcases qa5.mp hb with q |q
   ·exact absurd q (BK (AG h1))
   ·rcases (f b q).2.2.2.1 with z |z
    ·exact I.ok.noex b o e z
    ·exact absurd (Bb (AG (I.ok.bs b o e).1) z) (Dp _)
  ·rcases qa5.mp hb with q |q
   ·subst q
    intro z
    exact absurd (frs_lt _ z) (Dp _)
   ·exact nfs b (f b q).2.1 (f b q).2.2.1
  ·exact I.stack.of_keeps fun b o e _=>⟨o,k3 b o e,rfl⟩
 refine ⟨ok,rfl,?_,?_,?_,fun x c e=>?_,?_,fun x c e=>?_,fun p hp=>?_,I.hok.kept k4,?_⟩
 ·show AllBare s3.gens
  subst e3;exact I.bare
 ·exact Un.kept k34
 ·refine ⟨fun _=>none,(Heap.Ns.new s3.heap (.type "dict")).keeps (pushCells_keeps _ _),fun i x v e1 e2 e3'=>?_⟩
  unfold BE at e2
  rw [Ca] at e2
  cases ec:cs[i]? with
  |none=>rw [ec] at e2;cases e2
  |some o=>
   rw [ec] at e2
   cases o with
   |none=>cases e2
   |some j=>
    simp only [Jc,Option.bind_some,Option.some.injEq] at e2
    have e2':σ[j]?=some (some v):=by
     cases ej:σ[j]? with
     |none=>rw [ej] at e2;cases e2
     |some w=>rw [ej] at e2;simp at e2;rw [e2]
    obtain ⟨hN,hfr⟩:=S.out i x j e1 ec
    have hfm:=mem_of_lookup hfr
    have hkind:=S.free _ hfm rfl
    obtain ⟨m,hn,hl⟩:=I.loc
    obtain ⟨u,r,look⟩:=hl j x v hN e2' (by
     rcases hkind with q |q
     ·exact .inr (.inl q)
     ·exact .inr (.inr q))
    refine ⟨u,r,.inr ?_⟩
    rcases look with ⟨q,_⟩ |⟨_,c,ec',hc⟩
    ·rcases hkind with z |z<;>(rw [q] at z;cases z)
    ·obtain ⟨c',hc'⟩:=hcl2 _ hfm rfl
     have hv:(A3 X Nc scope s3.heap.objs.size s.heap.objs.size (cellsFrom (s3.heap.objs.size+1) scope.names cl) fp s3 H pins).env.kindOf x=some .cell∨(A3 X Nc scope s3.heap.objs.size s.heap.objs.size (cellsFrom (s3.heap.objs.size+1) scope.names cl) fp s3 H pins).env.kindOf x=some .free:=by
      rcases e3' with z |z |z
      ·obtain ⟨k0,a1,a2⟩:=Qn z
       rw [hfr] at a1
       cases a1
       rcases a2 with a2 |⟨_,a2⟩<;>cases a2
      ·exact .inl z
      ·exact .inr z
     refine ⟨hv,c,?_,hc.keeps k4⟩
     obtain ⟨c2,h2⟩:=ok.has x hv
     rw [h2]
     rcases cm x c2 h2 with q |⟨_,q,_⟩
     ·rw [←ec',(hcl x c2 q).1]
     ·have:=lookup_mem S.nd q
      rw [hfr] at this
      cases this
 ·rcases cm x c e with q |⟨_,_,q⟩
  ·obtain ⟨v,z⟩:=I.cell x c (hcl x c q).1
   exact ⟨v,z.keeps k4⟩
  ·exact ⟨none,q⟩
 ·exact I.hok.fresh (show s.heap.objs.size≤s3.heap.objs.size by omega)
 ·rcases cm x c e with q |⟨q,_,_⟩
  ·exact I.freeC x c (hcl x c q).1
  ·exact I.hok.fresh (by omega)
 ·have hp':p∈X.pn++pins:=by
   rcases qaP.mp hp with q |q
   ·exact q
   ·exact absurd q (by simp)
  obtain ⟨a1,a2,a3,a4,a5⟩:=I.pin p hp'
  refine ⟨k4 _ _ a1,a2,?_,nfs p.1 a3 a4,a5⟩
  show p.1≠s3.heap.objs.size
  exact BK (Bb (AG a1) (by omega))
 ·show (BE cs σ).length=Nc.length
  simp [BE,S.len]
end
section
variable {X:Cx} {elt tg iter:Expr} {ifs:List Expr} {scope:Scope} {pos:Pos} {Nc:List Str} {cs:List (Option Nat)} {wi:TI} {g:TG} {tc:TT} {te:TE}
theorem Qp {pins:List (Addr×Obj)} {σ:L2.St} {H H':Hp} {s s3 s':Shared} {fp:List Addr} {C:Addr} {cells:List (Str×Addr)} {po:List (Addr×Obj)} {σc:L2.St} {acc:List V} {its:List Value} {n:Nat}
 (I:Inv X pins σ H s) (f:∀b∈fp,Dq X pins H b) (e3:s3={s with heap:=s.heap.push {cls:=.type "list",data:=.seq ([]:List Value).toArray}}) (hC:C=s3.heap.objs.size)
 (I':Inv (A3 X Nc scope C s.heap.objs.size cells fp s3 H pins) po σc H' s') (hD:H' s.heap.objs.size=none) (hl:acc.length≤sizeLine) (rv:Vals acc its) (ho:s'.heap.get? s.heap.objs.size=some {cls:=.type "list",data:=.seq its.toArray n})
 {h':Heap} (sb:Heap.SameBut C s'.heap h'):Inv X pins σ (Am H' s.heap.objs.size (.lst acc)) {s' with heap:=h'}:=by
 have k3:∀b o,s.heap.get? b=some o→s3.heap.get? b=some o:=fun b o e=>by subst e3;exact AF _ e
 have JE:s3.heap.objs.size=s.heap.objs.size+1:=by subst e3;exact CJ ..
 have Gg:∀b o,s.heap.get? b=some o→b≠s.heap.objs.size:=fun b o e=>BK (AG e)
 have neC:∀b o,s.heap.get? b=some o→b≠C:=fun b o e=>by rw [hC];exact BK (Bb (AG e) (by omega))
 have DC:s.heap.objs.size≠C:=by rw [hC];exact BK (by omega)
 have U:Un (frs X.stack) (s.heap.objs.size::fp) H H' s3.heap s'.heap:=I'.base
 have exn:∀b o,s.heap.get? b=some o→b∉fp→b∉s.heap.objs.size::fp:=fun b o e hx hb=>by
  rcases qa5.mp hb with z |z
  ·exact Gg b o e z
  ·exact hx z
 have neT:∀b u,H' b=some u→b≠s.heap.objs.size:=fun b u e=>BJ e hD
 have hCn:H' C=none:=I'.free
 refine I.call' (s':={s' with heap:=h'}) (ch:=fp) ?_ ?_ ?_ I'.bare ?_
 ·show s'.os=s.os
  have:=I'.os
  rw [this]
  show s3.os=s.os
  subst e3;rfl
 ·refine ⟨fun b o e nn hb hx=>?_,fun b o e nn hb hx=>?_,fun b o e nn hx=>?_,fun b o e hx=>?_,fun b xs e=>?_,fun b o u e=>?_,fun b ps e=>?_⟩
  ·exact (sb.2 b (neC b o e)).trans (U.keep b o (k3 b o e) nn hb (exn b o e hx))
  ·obtain ⟨sl,z⟩:=U.slot b o (k3 b o e) nn hb (exn b o e hx)
   exact ⟨sl,(sb.2 b (neC b o e)).trans z⟩
  ·rw [Ao (Gg b o e)]
   exact U.free b o (k3 b o e) nn (exn b o e hx)
  ·obtain ⟨o',z⟩:=U.there b o (k3 b o e) (exn b o e hx)
   exact ⟨o',(sb.2 b (neC b o e)).trans z⟩
  ·have z:=U.tups b xs e
   rw [Ao (neT b _ z)]
   exact z
  ·have z:=U.frzs b o u e
   rw [Ao (neT b _ z)]
   exact z
  ·obtain ⟨more,z⟩:=U.tbls b ps e
   exact ⟨more,by rw [Ao (neT b _ z)];exact z⟩
 ·intro b u e
  by_cases hb:b=s.heap.objs.size
  ·subst hb
   rw [Bt] at e
   cases e
   exact ⟨hl,its,n,rv,(sb.2 _ DC).trans ho⟩
  ·rw [Ao hb] at e
   refine (I'.hok b u e).stay (fun c v hc z=>(sb.2 c ?_).trans z) (fun c z=>by rw [Ao (neT c _ z)];exact z) fun c xs z=>by rw [Ao (neT c _ z)];exact z
   rcases hc with rfl |hc
   ·exact BJ e hCn
   ·exact BJ hc hCn
 ·intro b hb
  obtain ⟨_,f1,_,f3,f4,f5⟩:=f b hb
  exact ⟨f3,f1,f4,f5⟩
inductive Qq (W:Nat→Nat→List V→Hp→Prop) (Xc:Cx) (σc:L2.St) (tn:Nat→Heap→Prop) (fp:List Addr) (Da:Addr) (n:Nat) (s':Shared):Prop where
 |mk (i:Nat) (acc:List V) (H':Hp) (its:List Value) (k:Nat) (w:W i n acc H') (ii:Inv Xc [] σc H' s') (st:tn i s'.heap) (fr:∀b∈fp,H' b=none) (hD:H' Da=none) (rv:Vals acc its) (ho:s'.heap.get? Da=some {cls:=.type "list",data:=.seq its.toArray k}):Qq W Xc σc tn fp Da n s'
theorem Qr {use:Option (Value→Sem Unit)} {QQ:Value→Shared→Prop} {ppos:Pos} {pins:List (Addr×Obj)} {s:Shared} {σ:L2.St} {H:Hp} {Q:VK} (hcalm:X.calm=true) (S:Fp X scope Nc cs) (hi:PI X tg iter wi)
 (hb:∀(C D:Addr) (cells:List (Str×Addr)) (fp:List Addr) (s₀:Shared) (H₀:Hp) (pins:List (Addr×Obj)),PG (A3 X Nc scope C D cells fp s₀ H₀ pins) tg g∧Gm (A3 X Nc scope C D cells fp s₀ H₀ pins) ifs tc∧PE (A3 X Nc scope C D cells fp s₀ H₀ pins) elt te)
 (hsf:∀x,foldedSetIterable iter X.env x=pure x) (I:Inv X pins σ H s) (h:KY cs wi g tc te σ H Q)
 (fin:∀(s6:Shared) (C D:Addr) (H7:Hp) (m6:Str→Option Value),s6.heap.Ns C m6→H7 C=none→X.s₀.heap.objs.size≤C→C≠X.env.locals→(∀x c,X.env.cells.lookup x=some c→c≠C)→(∀p∈X.pn++pins,p.1≠C)→
  (∀h',Heap.SameBut C s6.heap h'→Inv X pins σ H7 {s6 with heap:=h'})→Q (.ref D) H7→compPost (model X.prog X.w) X.A X.xe use QQ (.ref D) C (.ok .next) s6):
 wpAny (model X.prog X.w) X.A (comprehension (.ListComp elt [⟨tg,iter,ifs,0⟩] scope pos) scope X.env ppos (newList []) false (eval iter X.env) use) QQ X.xe s:=by
 obtain ⟨cl,hclos,hcl,hcl2⟩:=Nf (scope:=scope) (env:=X.env) fun y hy hf=>I.ok.has y.1 (S.free y hy hf)
 refine wpAny_comprehension_free (use:=use) rfl hsf hclos S.kind S.loc (Az (hi pins s σ H _ I h) fun xv s1 h1=>Az h1 fun itv s2 h2=>?_)
 obtain ⟨it,fp,tn,J,H2,e,I2,T,Cr,f2,W,⟨n0,w0⟩,turn⟩:=h2
 subst e
 refine wpAny_newObj_type ?_
 generalize e3:({s2 with heap:=s2.heap.push {cls:=.type "list",data:=.seq ([]:List Value).toArray}}:Shared)=s3
 refine Ql ?_
 have ob2:∀b∈fp,∃o,s2.heap.get? b=some o:=fun b hb=>let ⟨o,e,_⟩:=T.obj _ _ Cr b hb;⟨o,e⟩
 have I4:=Qo (fp:=fp) (cl:=cl) S I2 f2 ob2 hcl hcl2 e3.symm
 generalize e4:({s3 with heap:=pushCells (s3.heap.push {cls:=.type "dict",data:=.dict #[]}) scope.names}:Shared)=s4 at I4
 generalize ecl:cellsFrom (s3.heap.objs.size+1) scope.names cl=cells at I4
 obtain ⟨pg,pt,pe⟩:=hb s3.heap.objs.size s2.heap.objs.size cells fp s3 H2 pins
 generalize eX:A3 X Nc scope s3.heap.objs.size s2.heap.objs.size cells fp s3 H2 pins=Xc at I4 pg pt pe
 have xP:Xc.prog=X.prog:=by subst eX;rfl
 have xw:Xc.w=X.w:=by subst eX;rfl
 have xK:Xc.K=X.K:=by subst eX;rfl
 have xA:Xc.A=X.A:=by subst eX;rfl
 have xE:Xc.env=Qm X.env scope s3.heap.objs.size cells:=by subst eX;rfl
 have xL:Xc.env.locals=s3.heap.objs.size:=by subst eX;rfl
 have xe:Xc.xe=fun _ _=>False:=by subst eX;rfl
 have xc:Xc.calm=true:=by subst eX;exact hcalm
 have xex:Xc.ex=s2.heap.objs.size::fp:=by subst eX;rfl
 have okc:=I4.ok
 have k3:∀b o,s2.heap.get? b=some o→s3.heap.get? b=some o:=fun b o e=>by subst e3;exact AF _ e
 have JE:s3.heap.objs.size=s2.heap.objs.size+1:=by subst e3;exact CJ ..
 have k34:∀b o,s3.heap.get? b=some o→s4.heap.get? b=some o:=fun b o e=>by subst e4;exact pushCells_keeps _ _ b o (AF _ e)
 have hDC:s2.heap.objs.size≠Xc.env.locals:=by rw [xL];exact BK (by omega)
 have hDcell:∀x c,Xc.env.cells.lookup x=some c→c≠s2.heap.objs.size:=fun x c e=>(okc.exf _ (by rw [xex];exact A0)).2 x c e
 have hDpin:∀p∈Xc.pn,p.1≠s2.heap.objs.size:=fun p hp=>by
  have hp':p∈X.pn++pins:=by subst eX;exact hp
  exact BK (AG (I2.pin p hp').1)
 have hDfp:s2.heap.objs.size∉fp:=fun hm=>by
  obtain ⟨o,e⟩:=ob2 _ hm
  exact absurd (AG e) (Dp _)
 have hDex:s2.heap.objs.size∈Xc.ex:=by rw [xex];exact A0
 have hDfs:s2.heap.objs.size∉Xc.fs:=okc.exfs _ hDex
 have fpC:∀{po:List (Addr×Obj)} {H':Hp},(∀b∈fp,H' b=none)→(∀p∈po,p.1=s2.heap.objs.size)→∀b∈fp,Dq Xc po H' b:=fun {po H'} hn hp b hb=>by
  have hbx:b∈Xc.ex:=by rw [xex];exact A5 _ hb
  refine ⟨hn b hb,(okc.exf b hbx).1,okc.exfs b hbx,.inl hbx,(okc.exf b hbx).2,fun p hpp=>?_⟩
  rcases qaP.mp hpp with z |z
  ·have hp':p∈X.pn++pins:=by subst eX;exact z
   exact (f2 b hb).2.2.2.2.2 p hp'
  ·rw [hp p z]
   intro e
   exact hDfp (e ▸ hb)
 have loop:∀sx,sx=s4→codeAny (model X.prog X.w) X.A (.compLoop (.ListComp elt [⟨tg,iter,ifs,0⟩] scope pos) 0 (.ref it) (.ref s2.heap.objs.size) Xc.env)
  (compPost (model X.prog X.w) X.A X.xe use QQ (.ref s2.heap.objs.size) s3.heap.objs.size) sx:=by
  rintro sx rfl
  refine Wr (Qq W Xc (BE cs σ) tn fp s2.heap.objs.size) ?_ n0
   ⟨0,[],H2,[],0,w0,I4,?_,fun b hb=>(f2 b hb).1,I2.hok.fresh (AO _),.nil,?_⟩
  ·rintro n s5 ⟨i,acc,H5,its,k,w5,I5,E8,fr5,hD5,rv5,ho5⟩
   have pin1:Inv Xc [(s2.heap.objs.size,{cls:=.type "list",data:=.seq its.toArray k})] (BE cs σ) H5 s5:=I5.pins_of fun p hp=>by
    rw [qaF] at hp
    subst hp
    exact ⟨ho5,hD5,hDC,hDfs,fun v z=>by cases z⟩
   have pone:∀p∈[((s2.heap.objs.size:Addr),({cls:=.type "list",data:=.seq its.toArray k}:Obj))],p.1=s2.heap.objs.size:=fun p hp=>by
    rw [qaF] at hp;subst hp;rfl
   rcases turn i n acc H5 w5 with ⟨stop,hlen,qn⟩ |⟨go,hlen,step⟩
   ·have z1:=T.done Xc xP xw xK xc i _ s5 (BE cs σ) H5 (fun _ _=>False) pin1 (fpC fr5 pone) E8 stop
    rw [xA] at z1
    refine wpAny_mono z1 (fun r s6 z1_=>?_) fun _ _ z=>False.elim z
    obtain ⟨hr,I6⟩:=z1_
    subst hr
    obtain ⟨m6,hn6,_⟩:=I6.loc
    obtain ⟨ho6,hD6,_⟩:=I6.pin _ (BC _ A0)
    rw [xL] at hn6
    have lt2:∀b,b<s2.heap.objs.size→b≠s3.heap.objs.size:=fun b hb=>BK (Bb hb (by omega))
    refine fin s6 s3.heap.objs.size s2.heap.objs.size (Am H5 s2.heap.objs.size (.lst acc)) m6 hn6 ?_ (BS I2.sz (by omega)) ?_ ?_ ?_ ?_ (qn _ hD6)
    ·rw [Ao (FM (by omega))]
     have:=I6.free
     rw [xL] at this
     exact this
    ·obtain ⟨m2,hn2,_⟩:=I2.loc
     exact Ne.symm (lt2 _ hn2.lt)
    ·intro x c hx
     obtain ⟨v,hv⟩:=I2.cell x c hx
     obtain ⟨o,ho,_⟩:=hv
     exact lt2 _ (AG ho)
    ·intro p hp
     exact lt2 _ (AG (I2.pin p hp).1)
    ·intro h' sb
     subst eX
     exact Qp I2 f2 e3.symm rfl I6 hD6 hlen rv5 ho6 sb
   ·have z1:=T.item Xc xP xw xK xc i _ s5 (BE cs σ) H5 (fun _ _=>False) pin1 (fpC fr5 pone) E8 go
    rw [xA] at z1
    refine wpAny_mono z1 (fun r s6 z2_=>?_) fun _ _ z=>False.elim z
    obtain ⟨u,hr,h6⟩:=z2_
    subst hr
    refine wpAny_mono h6 (fun _ s7 z3_=>?_) fun _ _ z=>False.elim z
    obtain ⟨x,H7,I7,r7,y7,FZ,fr7⟩:=z3_
    have I7':=I7.pinned (fp:=fp) (fpC fr7 pone) (T.obj _ _ FZ)
    have z2:=pg _ s7 (BE cs σ) H7 x u _ I7' r7 (step x H7 y7)
    rw [xP,xw,xA,xe] at z2
    refine wpAny_mono z2 (fun _ s8 z4_=>?_) fun _ _ z=>False.elim z
    obtain ⟨σ8,H8,I8,sub8,q8⟩:=z4_
    have z3:=pt _ s8 σ8 H8 _ I8 q8
    rw [xP,xw,xA,xe] at z3
    refine wpAny_mono z3 (fun ok s9 z5_=>?_) fun _ _ z=>False.elim z
    obtain ⟨H9,I9,q9⟩:=z5_
    have back:∀{sy:Shared} {Hy:Hp},Inv Xc ([(s2.heap.objs.size,{cls:=.type "list",data:=.seq its.toArray k})]++Ga fp s7.heap) σ8 Hy sy→
     Inv Xc [] (BE cs σ) Hy sy∧tn (i+1) sy.heap∧(∀b∈fp,Hy b=none)∧Hy s2.heap.objs.size=none∧sy.heap.get? s2.heap.objs.size=some {cls:=.type "list",data:=.seq its.toArray k}:=fun {sy Hy} Iy=>by
     obtain ⟨ho,hD,_⟩:=Iy.pin _ (BC _ (GG _ A0))
     refine ⟨(Iy.pins_of fun p hp=>absurd hp (by simp)).weak (sub8.1) (fun j v z=>sub8.2 j v z),T.keep _ _ _ FZ fun b hb o e=>(Iy.pin (b,o) (BC _ (BC _ (Jj hb e)))).1,fun b hb=>?_,hD,ho⟩
     obtain ⟨o,e,_⟩:=T.obj _ _ FZ b hb
     exact (Iy.pin (b,o) (BC _ (BC _ (Jj hb e)))).2.1
    cases ok with
    |false=>
     simp only [Dx,if_false] at q9 ⊢
     obtain ⟨n',hn',w'⟩:=q9
     obtain ⟨a1,a2,a3,a4,a5⟩:=back I9
     exact ⟨n',hn',i+1,acc,H9,its,k,w',a1,a2,a3,a4,rv5,a5⟩
    |true=>
     simp only [if_true] at q9 ⊢
     have z4:=pe _ s9 σ8 H9 _ I9 q9
     rw [xP,xw,xA,xe] at z4
     refine wpAny_mono z4 (fun y s10 z6_=>?_) fun _ _ z=>False.elim z
     obtain ⟨yv,H10,I10,r10,n',hn',w'⟩:=z6_
     obtain ⟨a1,a2,a3,a4,a5⟩:=back I10
     have hlen':=rv5.length
     refine wpAny_list_append_plain ⟨k,a5⟩ (fun h' ⟨k',hl'⟩ sb=>?_) (by rw [Bc];omega)
     have tu:Inv Xc [] (BE cs σ) H10 {s10 with heap:=h'}:=a1.turned (t':=s10.toks) (it:=s2.heap.objs.size) (fun b o hb e=>(sb.2 b hb).trans e) a4 hDC (.inl hDex) hDcell (fun p hp=>by
      rcases qaP.mp hp with z |z
      ·exact hDpin p z
      ·exact absurd z (by simp))
     refine ⟨n',hn',i+1,acc++[yv],H10,its++[y],k',w',tu,T.keep _ _ _ a2 (fun b hb o e=>(sb.2 b (fun z=>hDfp (z ▸ hb))).trans e),a3,a4,rv5.append (.cons r10 .nil),?_⟩
     rw [hl']
     simp
  ·exact T.keep _ _ _ Cr fun b hb o e=>k34 b o (k3 b o e)
  ·refine k34 _ _ ?_
   subst e3
   exact By _ rfl
 have fin:=loop s4 rfl
 have hst4:tn 0 s4.heap:=T.keep _ _ _ Cr fun b hb o e=>k34 b o (k3 b o e)
 rw [xE] at fin
 have:=codeAny_compStart_list fin (T.self X.A 0 s4 _ _ hst4 fin)
 exact this
theorem Wv (hcalm:X.calm=true) (S:Fp X scope Nc cs) (hi:PI X tg iter wi)
 (hb:∀(C D:Addr) (cells:List (Str×Addr)) (fp:List Addr) (s₀:Shared) (H₀:Hp) (pins:List (Addr×Obj)),PG (A3 X Nc scope C D cells fp s₀ H₀ pins) tg g∧Gm (A3 X Nc scope C D cells fp s₀ H₀ pins) ifs tc∧PE (A3 X Nc scope C D cells fp s₀ H₀ pins) elt te)
 (hsf:∀x,foldedSetIterable iter X.env x=pure x:=by intro _;rfl):PE X (.ListComp elt [⟨tg,iter,ifs,0⟩] scope pos) (KY cs wi g tc te):=by
 intro pins s σ H Q I h
 rw [eval_ListComp]
 exact Qr (use:=none) hcalm S hi hb hsf I h fun s6 C D H7 m6 hn _ _ _ _ _ inv q=>⟨m6,hn,fun h' sb=>⟨.ref D,H7,inv h' sb,rfl,q⟩⟩
end
def noErr {α:Type}:Out α→Out α
 |.ok a h=>.ok a h
 |_=>.stuck
@[simp] theorem Zb8 {α:Type} (a:α) (h:HD):noErr (.ok a h)=.ok a h:=rfl
theorem Ip {α β γ δ:Type} {K:PySem.W.Frag} {R:List Addr→Hp→α→β→Prop} {R':List Addr→Hp→γ→δ→Prop} {m:List Addr} {H:Hp} {E:XK} {Q:δ→Hp→Prop} {Q':β→Hp→Prop} {o:Out α} {k:α→HD→Out γ}
 (h:Post K R' m H E Q ((noErr o).bind k)) (f:∀a h1 v m1 H1,o=.ok a h1→m <+:m1→Kp H H1→HR K m1 h1 H1→R m1 H1 a v→Post K R' m1 H1 E Q (k a h1)→Q' v H1):Post K R m H E0 Q' o:=by
 cases o with
 |ok a h1=>exact fun v m1 H1 p kk hr r=>f a h1 v m1 H1 rfl p kk hr r (Post.ahead p kk h)
 |err C fs h1=>exact False.elim h
 |stuck=>exact False.elim h
def Cz (cs:List (Option Nat)) (ρ:Ai):Ai:=cs.map fun o=>o.bind fun j=>(ρ[j]?).join
theorem join_some {α:Type} {l:List (Option α)} {j:Nat} {a:α}:(l[j]?).join=some a↔l[j]?=some (some a):=by
 cases h:l[j]? with
 |none=>simp
 |some o=>simp
theorem ER.comp {K:PySem.W.Frag} {m:List Addr} {H:Hp} {ρ:Ai} {σ:L2.St} (cs:List (Option Nat)) (er:ER K m H ρ σ):ER K m H (Cz cs ρ) (BE cs σ):=by
 refine ⟨by simp [Cz,BE],fun i d e=>?_⟩
 unfold Cz at e
 rw [Ca] at e
 cases ec:cs[i]? with
 |none=>rw [ec] at e;cases e
 |some o=>
  rw [ec] at e
  cases o with
  |none=>cases e
  |some j=>
   simp only [Jc,Option.bind_some,Option.some.injEq] at e
   obtain ⟨v,e1,r⟩:=er.2 j d (join_some.mp e)
   refine ⟨v,?_,r⟩
   unfold BE
   rw [Ca,ec]
   simp only [Jc,Option.bind_some,Option.some.injEq]
   exact join_some.mpr e1
theorem Sub.set {cs:List (Option Nat)} {σ:L2.St} {σ':L2.St} {i:Nat} {v:V} (h:cs[i]?=some none) (s:Sub (BE cs σ) σ'):Sub (BE cs σ) (σ'.set i (some v)):=by
 refine ⟨by rw [s.1];simp,fun j w e=>?_⟩
 have hj:i≠j:=by
  rintro rfl
  unfold BE at e
  rw [Ca,h] at e
  cases e
 rw [BW hj]
 exact s.2 j w e
theorem Sub.refl (σ:L2.St):Sub σ σ:=⟨rfl,fun _ _ h=>h⟩
def Iq (K:PySem.W.Frag) (cs:List (Option Nat)) (gg:TG) (sg:MG):Prop:=
 ∀m H d v ρ σ0 ρ' Q,DV K m H d v→ER K m H ρ (BE cs σ0)→sg d ρ=some ρ'→(∀σ',Sub (BE cs σ0) σ'→ER K m H ρ' σ'→Q σ' H)→gg v (BE cs σ0) H Q
theorem Ee {K:PySem.W.Frag} {cs:List (Option Nat)} {i:Nat} (h:cs[i]?=some none):Iq K cs (Cj i) (A7 i):=fun m H d v ρ σ0 ρ' Q r er e q=>by
 simp only [A7,Option.some.injEq] at e
 subst e
 exact q _ ((Sub.refl _).set h) (er.set r)
theorem Qs {K:PySem.W.Frag} {cs:List (Option Nat)} {i j:Nat} (h:cs[i]?=some none) (h':cs[j]?=some none):Iq K cs (FK K 2 (Dy (Cj i) (Dy (Cj j) F8))) (De i j):=fun m H d v ρ σ0 ρ' Q r er e q=>by
 unfold De at e
 split at e
 ·rename_i a b
  cases e
  simp only [DV,DVs] at r
  obtain ⟨p,vs,rfl,hp,v1,w1,rfl,r1,v2,w2,rfl,r2,rfl⟩:=r
  exact ⟨p,_,rfl,SqT.of hp,rfl,v1,_,rfl,v2,_,rfl,rfl,q _ (((Sub.refl _).set h).set h') ((er.set r1).set r2)⟩
 ·cases e
abbrev Ir (X:Cx) (E:XK) (ifs:List Expr) (t:MT):Prop:=Gm X ifs (Ey X.K E t)
def Bq:MT:=fun _ h=>.ok true h
theorem Cn {X:Cx} {E:XK}:Ir X E [] Bq:=fun pins s σ H Q I z1_=>by obtain ⟨m,ρ,h,hr,er,p⟩:=z1_;exact (Ws pins s σ H Q I (p true m H (AJ _) (.refl _) hr rfl))
open Classical in
noncomputable def DP (src:Bi) (items:List D) (sg:MG) (t:MT) (f:ME) (ρc:Ai):List D→HD→Out (List D)
 |[],h=>if BN src items h then .ok [] h else .stuck
 |d::ds,h=>if BN src items h then match sg d ρc with
   |none=>.stuck
   |some ρ1=>(noErr (t ρ1 h)).bind fun b h1=>if b=true then (noErr (f ρ1 h1)).bind fun y h2=>(DP src items sg t f ρc ds h2).bind fun ys h3=>.ok (y::ys) h3 else DP src items sg t f ρc ds h1
  else .stuck
noncomputable def Bf (cs:List (Option Nat)) (it:MI) (sg:MG) (t:MT) (f:ME):ME:=fun ρ h=>(it ρ h).bind fun x h1=>if x.1.length≤sizeLine then (DP x.2 x.1 sg t f (Cz cs ρ) x.1 h1).bind CL else .stuck
theorem Out.bind_assoc {α β γ:Type} (o:Out α) (k:α→HD→Out β) (l:β→HD→Out γ):(o.bind k).bind l=o.bind fun a h=>(k a h).bind l:=by cases o<;>rfl
section
variable {X:Cx} {E:XK} {elt tg iter:Expr} {ifs:List Expr} {scope:Scope} {pos:Pos} {Nc:List Str} {cs:List (Option Nat)} {it:MI} {gg:TG} {sg:MG} {t:MT} {f:ME}
inductive Qt (K:PySem.W.Frag) (E:XK) (Q:VK) (src:Bi) (items:List D) (sg:MG) (t:MT) (f:ME) (ρc:Ai) (m1:List Addr) (H1:Hp) (i n:Nat) (acc:List V) (H2:Hp):Prop where
 |mk (e:n=items.length - i) (l:i≤items.length) (a:acc.length≤i) (m2:List Addr) (h2:HD) (dacc:List D) (p:m1 <+:m2) (k:Kp H1 H2) (hr:HR K m2 h2 H2) (da:DVs K m2 H2 dacc acc) (q:Post K (rD K) m2 H2 E Q ((DP src items sg t f ρc (items.drop i) h2).bind fun ys h3=>CL (dacc++ys) h3)):Qt K E Q src items sg t f ρc m1 H1 i n acc H2
theorem Qu (hg:Iq X.K cs gg sg):∀σ H Q,tD X.K E (Bf cs it sg t f) σ H Q→KY cs (tM X.K (Gj X.K) E it) gg (Ey X.K E0 t) (tD X.K E0 f) σ H Q:=by
 refine ?_
 rintro σ H Q ⟨m,ρ,h,hr,er,p⟩
 refine ⟨m,ρ,h,hr,er,Post.bind p fun x h1 J m1 H1 _ p1 k1 hr1 r1 q1=>?_⟩
 obtain ⟨items,src⟩:=x
 dsimp only at q1
 split at q1
 ·rename_i hz
  have er1:ER X.K m1 H1 (Cz cs ρ) (BE cs σ):=(er.keep p1 k1).comp cs
  refine ⟨Qt X.K E Q src items sg t f (Cz cs ρ) m1 H1,
   ⟨items.length,rfl,BU _,AO _,m1,h1,[],AJ _,.refl _,hr1,.nil,by simpa using q1⟩,?_⟩
  rintro i n acc H2 ⟨rfl,hi',ha,m2,h2,dacc,p2,k2,hr2,da,q2⟩
  by_cases hlt:i<items.length
  ·rw [Kd hlt] at q2
   unfold DP at q2
   split at q2
   ·rename_i hs
    obtain ⟨hgo,hy⟩:=(r1 i m2 h2 H2 p2 k2 hr2 hs).1 hlt
    refine .inr ⟨hgo,by omega,fun y H3 hyl=>?_⟩
    obtain ⟨k3,hr3,d,ed,rd⟩:=hy y H3 hyl
    have ed':d=items[i]:=by rw [A6 hlt] at ed;exact (Option.some.inj ed).symm
    subst ed'
    split at q2
    ·exact q2.elim
    ·rename_i ρ3 es
     have er3:ER X.K m2 H3 (Cz cs ρ) (BE cs σ):=er1.keep p2 (k2.trans k3)
     refine hg m2 H3 _ y (Cz cs ρ) σ ρ3 _ rd er3 es fun σ4 sub4 er4=>⟨sub4,m2,ρ3,h2,hr3,er4,?_⟩
     rw [Out.bind_assoc] at q2
     refine Ip (Post.ahead (AJ _) k3 q2) fun b h5 v m5 H5 _ p5 k5 hr5 r5 q5=>?_
     cases r5
     cases b with
     |false=>
      simp only [Dx,if_false] at q5 ⊢
      exact ⟨items.length - (i+1),by omega,rfl,hlt,by omega,m5,h5,dacc,p2.trans p5,(k2.trans k3).trans k5,hr5,DVs.keep p5 (k3.trans k5) da,q5⟩
     |true=>
      simp only [if_true] at q5 ⊢
      rw [Out.bind_assoc] at q5
      refine ⟨m5,ρ3,h5,hr5,er4.keep p5 k5,Ip q5 fun z h6 w m6 H6 _ p6 k6 hr6 r6 q6=>?_⟩
      refine ⟨items.length - (i+1),by omega,rfl,hlt,by simp;omega,m6,h6,dacc++[z],(p2.trans p5).trans p6,((k2.trans k3).trans k5).trans k6,hr6,(DVs.keep (p5.trans p6) ((k3.trans k5).trans k6) da).app (.cons r6 .nil),?_⟩
      rw [Out.bind_assoc] at q6
      simp only [Out.bind_ok] at q6
      simpa using q6
   ·exact q2.elim
  ·have he:i=items.length:=Nat.le_antisymm hi' (HU hlt)
   subst he
   rw [List.drop_length] at q2
   unfold DP at q2
   split at q2
   ·rename_i hs
    simp only [Out.bind_ok,Fd] at q2
    obtain ⟨z1,z2⟩:=Ik hr2 da q2
    exact .inl ⟨(r1 _ m2 h2 H2 p2 k2 hr2 hs).2 rfl,z1,z2⟩
   ·exact q2.elim
 ·exact q1.elim
theorem EG (hcalm:X.calm=true) (S:Fp X scope Nc cs) (hi:ED X E tg iter it) (hg:Iq X.K cs gg sg)
 (hb:∀(C D:Addr) (cells:List (Str×Addr)) (fp:List Addr) (s₀:Shared) (H₀:Hp) (pins:List (Addr×Obj)),PG (A3 X Nc scope C D cells fp s₀ H₀ pins) tg gg∧Ir (A3 X Nc scope C D cells fp s₀ H₀ pins) E0 ifs t∧Ev (A3 X Nc scope C D cells fp s₀ H₀ pins) E0 elt f)
 (hsf:∀x,foldedSetIterable iter X.env x=pure x:=by intro _;rfl):Ev X E (.ListComp elt [⟨tg,iter,ifs,0⟩] scope pos) (Bf cs it sg t f):=by
 exact Ck (Wv (g:=gg) (tc:=Ey X.K E0 t) (te:=tD X.K E0 f) hcalm S hi hb hsf) (Qu hg)
theorem KZ {i:Nat} {x:Str} {pos' pos2:Pos} (hcalm:X.calm=true) (hN:X.N.Nodup) (hix:X.N[i]?=some x) (hx:GM X.env.scope x) (S:Fp X scope Nc cs) (hi:ED X E tg iter it) (hg:Iq X.K cs gg sg)
 (hb:∀(C D:Addr) (cells:List (Str×Addr)) (fp:List Addr) (s₀:Shared) (H₀:Hp) (pins:List (Addr×Obj)),PG (A3 X Nc scope C D cells fp s₀ H₀ pins) tg gg∧Ir (A3 X Nc scope C D cells fp s₀ H₀ pins) E0 ifs t∧Ev (A3 X Nc scope C D cells fp s₀ H₀ pins) E0 elt f)
 (hsf:∀x,foldedSetIterable iter X.env x=pure x:=by intro _;rfl) (hsw:swapsWith (.ListComp elt [⟨tg,iter,ifs,0⟩] scope pos) (some (.Name x pos')) pos2.line X.env=pure true:=by rfl)
 (hf:X.fn x=true∨X.env.scope.names.lookup x=some .local:=by first |exact .inl rfl |exact .inr rfl |assumption):Ex X E (.Assign [.Name x pos'] (.ListComp elt [⟨tg,iter,ifs,0⟩] scope pos) pos2) (Ay i (Bf cs it sg t f)):=by
 rintro pins s σ H D I ⟨m,ρ,h,hr,er,p⟩
 have hq:KY cs (tM X.K (Gj X.K) E it) gg (Ey X.K E0 t) (tD X.K E0 f) σ H (fun v H1=>D.nx (σ.set i (some v)) H1):=Qu hg σ H _ ⟨m,ρ,h,hr,er,PostS.bind p fun y h1 v m1 H1 _ p1 k1 hr1 r1 q1=>(q1.here hr1) _ ((er.keep p1 k1).set r1)⟩
 rw [exec_Assign_Name_used _ _ _ _ hsw]
 refine wpAny_bind (wpAny_standAt (wpAny_bind ?_))
 show wpAny _ X.A (do let _ ←comprehension (.ListComp elt [⟨tg,iter,ifs,0⟩] scope pos) scope X.env _ (newList []) false (eval iter X.env) (some (assign (.Name x pos') X.env))) _ _ s
 refine wpAny_bind (wpAny_mono (Qr (QQ:=fun _ s'=>SP X pins D .next s') hcalm S hi hb hsf I hq fun s6 C Dd H7 m6 hn hC h0 hL hc hp inv q=>?_) (fun _ s' z=>wpAny_pure (wpAny_pure z)) fun _ _ z=>z)
 have I6:Inv X pins σ H7 s6:=inv s6.heap ⟨rfl,fun _ _=>rfl⟩
 refine wpAny_assign_Name (Jf I6 hN hix hx (v:=.ref Dd) rfl (fun s7 I7 z3_=>?_) hf)
 obtain ⟨a,sb7,ha⟩:=z3_
 have nCa:C≠a:=by
  rcases ha with z |z
  ·rw [z];exact hL
  ·exact Ne.symm (hc x a z)
 obtain ⟨o,es,ep,e1,e2⟩:=hn
 refine ⟨m6,⟨o,es,ep,(sb7.2 C nCa).trans e1,e2⟩,fun h' sb=>?_⟩
 exact ⟨_,H7,I7.turned (t':=s7.toks) (it:=C) (fun b o hb e=>(sb.2 b hb).trans e) hC hL (.inr h0) hc hp,q⟩
end
section
variable {X:Cx} {E:XK}
def EH:D→HD→Option String
 |.non,_=>some "NoneType"
 |.bl _,_=>some "bool"
 |.int _,_=>some "int"
 |.str _,_=>some "str"
 |.tup _,_=>some "tuple"
 |.loc l,h=>match h[l]? with
  |some (.lst _)=>some "list"
  |_=>none
 |_,_=>none
theorem Ww {m:List Addr} {H:Hp} {h:HD} {d:D} {v:V} {t:String} (hr:HR X.K m h H) (r:DV X.K m H d v) (e:EH d h=some t):Fg X.K H v (.type t):=by
 cases d with
 |non=>simp only [EH,Option.some.injEq,DV] at e r;subst e r;exact .non
 |bl b=>simp only [EH,Option.some.injEq,DV] at e r;subst e r;exact .bl _
 |int i=>simp only [EH,Option.some.injEq,DV] at e r;subst e r;exact .int _
 |str x=>simp only [EH,Option.some.injEq,DV] at e r;subst e r;exact .str _
 |tup ds=>simp only [EH,Option.some.injEq,DV] at e r;subst e;obtain ⟨a,vs,rfl,ha,_⟩:=r;exact .tup ha
 |loc l=>
  simp only [DV] at r
  obtain ⟨a,rfl,ha⟩:=r
  simp only [EH] at e
  split at e
  ·rename_i ds el
   cases e
   obtain ⟨vs,hv,_⟩:=hr.cells l _ a el ha
   exact .lst hv
  ·cases e
 |_=>simp [EH] at e
def subL:List (String×String×Bool):=[("NoneType","int",false),("bool","int",true),("int","int",true),("str","int",false),("tuple","int",false),("list","int",false),("NoneType","bool",false),("bool","bool",true),("int","bool",false),("str","bool",false),("tuple","bool",false),("list","bool",false),("NoneType","tuple",false),("bool","tuple",false),("int","tuple",false),("str","tuple",false),("tuple","tuple",true),("list","tuple",false),("NoneType","str",false),("bool","str",false),("int","str",false),("str","str",true),("tuple","str",false),("list","str",false),("NoneType","list",false),("bool","list",false),("int","list",false),("str","list",false),("tuple","list",false),("list","list",true),("dict","int",false),("dict","bool",false),("dict","tuple",false),("dict","str",false),("dict","list",false)]
def K0 (t c:String):Option Bool:=(subL.find? fun p=>p.1==t&&p.2.1==c).map fun p=>p.2.2
theorem Wx {K:PySem.W.Frag}:∀p∈subL,PySem.W.kitOne K (.type p.1) (.type p.2.1)=some p.2.2:=by
 unfold subL
 simp only [List.forall_mem_cons]
 exact ⟨rfl,rfl,rfl,rfl,rfl,rfl,rfl,rfl,rfl,rfl,rfl,rfl,rfl,rfl,rfl,rfl,rfl,rfl,rfl,rfl,rfl,rfl,rfl,rfl,rfl,rfl,rfl,rfl,rfl,rfl,rfl,rfl,rfl,rfl,rfl,fun _ h=>nomatch h⟩
theorem Qv {K:PySem.W.Frag} {t c:String} {b:Bool} (h:K0 t c=some b):PySem.W.kitOne K (.type t) (.type c)=some b:=by
 unfold K0 at h
 rw [qaY] at h
 obtain ⟨p,hp,rfl⟩:=h
 have e:=List.find?_some hp
 rw [BR,beq_iff_eq,beq_iff_eq] at e
 rw [←e.1,←e.2]
 exact Wx p (List.mem_of_find?_eq_some hp)
def BO:D→D→HD→Out D:=fun x y h=>match y,EH x h with
 |.ty T,some t=>match K0 t T with
  |some b=>.ok (.bl b) h
  |none=>.stuck
 |_,_=>.stuck
theorem Gn {x:Str} {T:String} {pos:Pos} (hg:Gl X x) (hm:X.mg x=none) (hv:bootBuiltins x=some (.type T)) (hn:x≠"__name__":=by decide) (hd:(x==("__debug__":Str))=false:=by decide):Ev X E (.Name x pos) (mC (.ty T)):=
 Ih (T8 (v:=.ty T) hg hm hv rfl hn hd) fun _ _=>by simp [DV]
theorem Ni (ns:List Int):∀j,j≤ns.length→preSum (fun i=>ns.getD i 0) j=(ns.take j).sum
 |0,_=>by simp [preSum]
 |j+1,h=>by
  rw [preSum,Ni ns j (by omega),List.take_succ_eq_append_getElem (by omega),List.sum_append]
  simp [E9,A6 (show j<ns.length by omega)]
theorem Nj {h h2 h':Heap} {it:Addr} (k:∀b o,h.get? b=some o→h2.get? b=some o) (hit:h.objs.size≤it) (hk:∀b o,b∉[it]→h2.get? b=some o→h'.get? b=some o):∀b o,h.get? b=some o→h'.get? b=some o:=fun b o e=>
 hk b o (by rw [qaF];exact BK (Bb (AG e) hit)) (k b o e)
theorem Qw {ns:List Int} {its:List Value} (r:Vals (ns.map V.int) its) {i:Nat} {v:Value} (e:its.toArray[i]?=some v):∃t,v=.int (ns.getD i 0) t:=by
 have e':its[i]?=some v:=by simpa using e
 have hi:i<its.length:=(qa6.mp e').1
 have hl:ns.length=its.length:=by have:=r.length;simpa using this
 have hn:(ns.map V.int)[i]?=some (V.int (ns.getD i 0)):=by
  rw [Ca,A6 (by omega)]
  simp [E9,A6 (show i<ns.length by omega)]
 obtain ⟨u,h1,t,h2⟩:=r.get hn
 rw [e'] at h1
 cases h1
 exact ⟨t,h2⟩
theorem Wy (hc:X.calm=true):DA X (.builtin "sum") (fun xs H Q=>∃(p:Addr) (ns:List Int),xs=[.ref p]∧(SqL X.K H p (ns.map V.int)∨SqT X.K H p (ns.map V.int))∧Q (.int ns.sum) H):=by
 intro pins s σ H xs us Q I r h
 obtain ⟨p,ns,rfl,hs,q⟩:=h
 obtain ⟨u,rfl,rx⟩:=Es r
 cases rx
 have hh:X.A.in1.handled=none:=I.ok.hd hc
 rcases hs with hs |hs
 ·obtain ⟨its,rv,pl,hz⟩:=I.list hs
  have hl:=rv.length
  rw [Cb] at hl
  have hlt:p<s.heap.objs.size:=by obtain ⟨_,e,_⟩:=pl.isList;exact AG e
  refine call_sum_walkG (wpAny_pyIter_list pl.isList ?_)
  refine ⟨s.heap.objs.size,[s.heap.objs.size,p],[s.heap.objs.size],its.toArray.size,_,_,fun i=>ns.getD i 0,rfl,Walks.list (A:=X.A.in1) hh _ p (BK hlt) its.toArray,⟨⟨_,By _ rfl,rfl,rfl⟩,pl.isList.push _⟩,fun b hb=>?_,fun i v e=>Qw rv e,fun h' tk t' hk=>?_⟩
  ·show b<(s.heap.push _).objs.size
   rw [CJ]
   rcases qa5.mp hb with z |z
   ·rw [z];exact Km _
   ·rw [qaF.mp z];exact HQ hlt
  ·have e:preSum (fun i=>ns.getD i 0) its.toArray.size=ns.sum:=by
    rw [Bc,←hl,Ni ns _ (AO _),List.take_length]
   rw [e]
   exact ⟨.int ns.sum,H,I.kept (Nj (fun b o e=>AF _ e) (AO _) hk),⟨t',rfl⟩,q⟩
 ·obtain ⟨its,rv,pl,hz⟩:=I.tuple hs
  have hl:=rv.length
  rw [Cb] at hl
  have hT:s.heap.IsTuple p its.toArray:=pl
  have hlt:p<s.heap.objs.size:=pl.lt
  refine call_sum_walkG (wpAny_pyIter_tuple hT ?_)
  refine ⟨s.heap.objs.size,[s.heap.objs.size,p],[s.heap.objs.size],its.toArray.size,_,_,fun i=>ns.getD i 0,rfl,Walks.tuple (A:=X.A.in1) hh _ p (BK hlt) its.toArray,⟨⟨_,By _ rfl,rfl,rfl⟩,hT.push _⟩,fun b hb=>?_,fun i v e=>Qw rv e,fun h' tk t' hk=>?_⟩
  ·show b<(s.heap.push _).objs.size
   rw [CJ]
   rcases qa5.mp hb with z |z
   ·rw [z];exact Km _
   ·rw [qaF.mp z];exact HQ hlt
  ·have e:preSum (fun i=>ns.getD i 0) its.toArray.size=ns.sum:=by
    rw [Bc,←hl,Ni ns _ (AO _),List.take_length]
   rw [e]
   exact ⟨.int ns.sum,H,I.kept (Nj (fun b o e=>AF _ e) (AO _) hk),⟨t',rfl⟩,q⟩
def Gp:D→Option Int
 |.int i=>some i
 |_=>none
def Gq:D→HD→Out D:=fun x h=>match BM x h with
 |some ds=>match A2 (ds.map Gp) with
  |some ns=>.ok (.int ns.sum) h
  |none=>.stuck
 |none=>.stuck
theorem K1 {m:List Addr} {H:Hp}:∀{ds:List D} {vs:List V} {ns:List Int},DVs X.K m H ds vs→A2 (ds.map Gp)=some ns→vs=ns.map V.int
 |[],vs,ns,r,e=>by
  simp only [DVs] at r
  simp [A2] at e
  subst r e
  rfl
 |d::ds,vs,ns,r,e=>by
  simp only [DVs] at r
  obtain ⟨v,w,rfl,rv,rw'⟩:=r
  rw [Cs] at e
  cases d with
  |int i=>
   simp only [Gp,A2,qaY] at e
   obtain ⟨ns',e1,rfl⟩:=e
   simp only [DV] at rv
   subst rv
   rw [K1 rw' e1]
   rfl
  |_=>simp [Gp,A2] at e
theorem Qx (hc:X.calm=true):Dc X (.builtin "sum") (Aq Gq):=by
 refine ⟨_,Wy hc,fun m H h E ds vs Q hr r q=>FL r q fun d v ev rv q=>?_⟩
 unfold Gq at q
 split at q
 ·rename_i xs e
  split at q
  ·rename_i ns en
   obtain ⟨p,ws,rfl,hs,dv⟩:=Jt hr rv e
   have:=K1 dv en
   subst this
   exact ⟨p,ns,ev,hs,Bp hr q (by simp [DV])⟩
  ·exact q.elim
 ·exact q.elim
theorem Wz (hc:X.calm=true):DA X (.builtin "all") (fun xs H Q=>∃(p:Addr) (bs:List Bool),xs=[.ref p]∧SqL X.K H p (bs.map V.bl)∧Q (.bl (bs.all id)) H):=by
 intro pins s σ H xs us Q I r h
 obtain ⟨p,bs,rfl,hs,q⟩:=h
 obtain ⟨u,rfl,rx⟩:=Es r
 cases rx
 have hh:X.A.in1.handled=none:=I.ok.hd hc
 obtain ⟨its,rv,pl,hz⟩:=I.list hs
 have hl:=rv.length
 rw [Cb] at hl
 have hlt:p<s.heap.objs.size:=by obtain ⟨_,e,_⟩:=pl.isList;exact AG e
 have item:∀(i:Nat) (v:Value),its.toArray[i]?=some v→v=.bool (bs.getD i true):=fun i v e=>by
  have e':its[i]?=some v:=by simpa using e
  have hi:i<its.length:=(qa6.mp e').1
  have hn:(bs.map V.bl)[i]?=some (V.bl (bs.getD i true)):=by
   rw [Ca,A6 (by omega)]
   simp [E9,A6 (show i<bs.length by omega)]
  obtain ⟨u,h1,h2⟩:=rv.get hn
  rw [e'] at h1
  cases h1
  exact h2
 refine call_all_walk (wpAny_pyIter_list pl.isList ?_)
 refine ⟨s.heap.objs.size,[s.heap.objs.size,p],[s.heap.objs.size],its.toArray.size,_,_,fun i=>bs.getD i true,rfl,Walks.list (A:=X.A.in1) hh _ p (BK hlt) its.toArray,⟨⟨_,By _ rfl,rfl,rfl⟩,pl.isList.push _⟩,fun i v s' Q' E' e hQ=>?_,fun h' tk hk=>?_⟩
 ·rw [item i v e]
  exact wpAny_truthy_bool hQ
 ·have e:(List.range its.toArray.size).all (fun i=>bs.getD i true)=bs.all id:=by
   rw [Bc,←hl]
   apply qbE.mpr
   simp only [qaJ,qbH,id]
   constructor
   ·intro h b hb
    obtain ⟨i,hi,rfl⟩:=Kf hb
    have:=h i hi
    simpa [E9,A6 hi] using this
   ·intro h i hi
    have:=h bs[i] (F5 hi)
    simpa [E9,A6 hi] using this
  rw [e]
  exact ⟨.bl _,H,I.kept (Nj (fun b o e=>AF _ e) (AO _) hk),rfl,q⟩
def Iu:D→Option Bool
 |.bl b=>some b
 |_=>none
def DQ:D→HD→Out D:=fun x h=>match x with
 |.loc l=>match h[l]? with
  |some (.lst ds)=>match A2 (ds.map Iu) with
   |some bs=>.ok (.bl (bs.all id)) h
   |none=>.stuck
  |_=>.stuck
 |_=>.stuck
theorem Qy {m:List Addr} {H:Hp}:∀{ds:List D} {vs:List V} {bs:List Bool},DVs X.K m H ds vs→A2 (ds.map Iu)=some bs→vs=bs.map V.bl
 |[],vs,ns,r,e=>by
  simp only [DVs] at r
  simp [A2] at e
  subst r e
  rfl
 |d::ds,vs,ns,r,e=>by
  simp only [DVs] at r
  obtain ⟨v,w,rfl,rv,rw'⟩:=r
  rw [Cs] at e
  cases d with
  |bl i=>
   simp only [Iu,A2,qaY] at e
   obtain ⟨ns',e1,rfl⟩:=e
   simp only [DV] at rv
   subst rv
   rw [Qy rw' e1]
   rfl
  |_=>simp [Iu,A2] at e
theorem JA (hc:X.calm=true):Dc X (.builtin "all") (Aq DQ):=by
 refine ⟨_,Wz hc,fun m H h E ds vs Q hr r q=>FL r q fun d v ev rv q=>?_⟩
 unfold DQ at q
 split at q
 ·rename_i l
  split at q
  ·rename_i xs el
   split at q
   ·rename_i bs eb
    simp only [DV] at rv
    obtain ⟨a,rfl,ha⟩:=rv
    obtain ⟨ws,hv,dv⟩:=hr.cells _ _ a el ha
    have:=Qy dv eb
    subst this
    exact ⟨a,bs,ev,SqL.of hv,Bp hr q (by simp [DV])⟩
   ·exact q.elim
  ·exact q.elim
 ·exact q.elim
def Iv:D→D→HD→Out D:=fun x y h=>match x with
 |.loc l=>match h[l]? with
  |some (.lst ds)=>if ds.length<sizeLine then .ok .non (h.set l (.lst (ds++[y]))) else .stuck
  |_=>.stuck
 |_=>.stuck
def Dg:D→HD→Out D:=fun x h=>match x with
 |.loc l=>match h[l]? with
  |some (.lst _)=>.ok x h
  |_=>.stuck
 |_=>.stuck
def Gr (f g:ME):ME:=fun ρ h=>((f ρ h).bind Dg).bind fun x h1=>(g ρ h1).bind fun y h2=>Iv x y h2
theorem Nk {o e:Expr} {f g:ME} {apos cpos:Pos} (ho:Ev X E o f) (he:Ev X E e g)
 (hbase:attributeBase o "append" X.env (eval o X.env)=eval o X.env:=by rfl)
 (hfew:((backTo cpos (starEach [e] X.env)).all (fun x=>!x.1)&&(backToKw cpos (keywordEach [] X.env)).all (fun x=>x.1.isSome)
  &&decide ([e].length+([]:List Keyword).length+(if ([]:List Keyword).isEmpty then 0 else 1)<30))=true:=by rfl)
 (hline:(apos.endLine==cpos.line)=true:=by rfl) (hs:starEach [e] X.env=(false,eval e X.env)::starEach [] X.env:=by rfl) (hplain:(backTo cpos (starEach [] X.env)).any (·.1)=false:=by rfl):
 Ev X E (.Call (.Attribute o "append" apos) [e] [] cpos) (Gr f g):=
 Ck (VV PySem.F.plainAttrs_list PySem.F.slot_list_append PySem.F.type_list_append VZ ho (Ac he Af hs) hbase hfew hline hs hplain) fun σ H Q z1_=>by
  obtain ⟨m,ρ,h,hr,er,p⟩:=z1_
  refine ⟨m,ρ,h,hr,er,?_⟩
  unfold Gr at p
  rw [Out.bind_assoc] at p
  refine Post.bind p fun x h1 v m1 H1 eo p1 k1 hr1 r1 q1=>?_
  clear eo
  unfold Dg at q1
  split at q1
  ·rename_i l
   split at q1
   ·rename_i ds el
    simp only [Out.bind_ok] at q1
    have r1':=r1
    simp only [rD,DV] at r1'
    obtain ⟨a,rfl,ha⟩:=r1'
    obtain ⟨ws,hv,dv⟩:=hr1.cells l _ a el ha
    refine ⟨.inl ⟨rfl,ws,SqL.of hv⟩,m1,ρ,h1,hr1,er.keep p1 k1,?_⟩
    have q2:Post X.K (rD X.K) m1 H1 E Q ((Aa g Ad ρ h1).bind fun ys h2=>match ys with
     |[y]=>Iv (.loc l) y h2
     |_=>.stuck):=by
     unfold Aa Ad
     rw [Out.bind_assoc]
     exact q1
    refine Post.bind q2 fun ys h2 vs m2 H2 eo p2 k2 hr2 r2 q3=>?_
    clear eo
    split at q3
    ·rename_i y
     simp only [Ec,DVs] at r2
     obtain ⟨yv,w,rfl,ry,rfl⟩:=r2
     unfold Iv at q3
     simp only at q3
     split at q3
     ·rename_i ds2 el2
      split at q3
      ·rename_i hz
       have ha2:=Jl p2 ha
       obtain ⟨ws2,hv2,dv2⟩:=hr2.cells l _ a el2 ha2
       refine ⟨a,ws2,yv,rfl,rfl,hv2,by rw [←dv2.len];exact hz,?_⟩
       refine q3 .non m2 _ (AJ _) (.set hv2 rfl) (hr2.setCell ha2 hv2 rfl ⟨_,Bt,?_⟩) (by simp [rD,DV])
       exact (dv2.app (.cons ry .nil)).keep (AJ _) (.set hv2 rfl)
      ·exact q3.elim
     ·exact q3.elim
    ·exact q3.elim
   ·exact q1.elim
  ·exact q1.elim
def Iw:D→D→D→HD→Out (Fl×Ai)→Out (Fl×Ai):=fun o i v h k=>match o,i with
 |.loc l,.int n=>match h[l]? with
  |some (.lst ds)=>match Ea ds.length n with
   |some j=>match k with
    |.ok a _=>.ok a (h.set l (.lst (ds.set j v)))
    |_=>.stuck
   |none=>.stuck
  |_=>.stuck
 |_,_=>.stuck
def K2 (fo fi fv:ME):MS:=fun ρ h=>(fv ρ h).bind fun v h1=>(fo ρ h1).bind fun o h2=>(fi ρ h2).bind fun i h3=>Iw o i v h3 (.ok (.nx,ρ) h3)
theorem WA {o i e:Expr} {fo fi fv:ME} {pos pos':Pos} (ho:Ev X E o fo) (hi:Ev X E i fi) (he:Ev X E e fv)
 (ha:∀v,assign (.Subscript o i pos') X.env v=(do
  let ov ←holding [v] (eval o X.env)
  let iv ←holding [v,ov] (eval i X.env)
  standAt pos'
  holding [v,ov,iv] (setItem ov iv v)
  release [v,ov,iv] []):=by intro _;rfl)
 (hs:swapsWithSole [.Subscript o i pos'] e pos.line X.env=pure false:=by rfl) (hw:swappedStores [.Subscript o i pos'] e X.env=pure none:=by rfl)
 (h1:(assignEach [.Subscript o i pos'] X.env).map (·.2)=[assign (.Subscript o i pos') X.env]:=by rfl):Ex X E (.Assign [.Subscript o i pos'] e pos) (K2 fo fi fv):=
 Gc (Ph he (Uy ho hi VO ha) hs hw h1) fun Dn σ H ⟨m,ρ,h,hr,er,p⟩=>⟨m,ρ,h,hr,er,PostS.bind p fun v h1 vv m1 H1 eo1 p1 k1 hr1 r1 q1=>by
  refine ⟨m1,ρ,h1,hr1,er.keep p1 k1,PostS.bind q1 fun ov h2 vo m2 H2 eo2 p2 k2 hr2 r2 q2=>?_⟩
  refine ⟨m2,ρ,h2,hr2,(er.keep p1 k1).keep p2 k2,PostS.bind q2 fun iv h3 vi m3 H3 eo3 p3 k3 hr3 r3 q3=>?_⟩
  clear eo1 eo2 eo3
  unfold Iw at q3
  split at q3
  ·rename_i l n
   split at q3
   ·rename_i ds el
    split at q3
    ·rename_i j ej
     have ro:=DV.keep p3 k3 r2
     simp only [DV] at ro
     obtain ⟨a,rfl,ha⟩:=ro
     have ri:=r3
     simp only [rD,DV] at ri
     subst ri
     obtain ⟨ws,hv,dv⟩:=hr3.cells l _ a el ha
     refine ⟨a,ws,n,j,rfl,rfl,hv,by rw [←dv.len];exact ej,?_⟩
     have rvv:=DV.keep p3 k3 (DV.keep p2 k2 r1)
     have hr4:HR X.K m3 (h3.set l (.lst (ds.set j v))) (Am H3 a (.lst (ws.set j vv))):=hr3.setCell ha hv rfl ⟨_,Bt,(dv.set j rvv).keep (AJ _) (.set hv rfl)⟩
     exact q3 m3 _ (AJ _) (.set hv rfl) hr4 σ ((((er.keep p1 k1).keep p2 k2).keep p3 k3).keep (AJ _) (.set hv rfl))
    ·exact q3.elim
   ·exact q3.elim
  ·exact q3.elim⟩
end
def AA (n:Nat) (g:MS):List D→HD→Out D:=fun ds h=>(g (ds.map some++List.replicate (n - ds.length) none) h).bind fun x h1=>match x with
 |(.nx,_)=>.ok .non h1
 |(.rt d,_)=>.ok d h1
 |_=>.stuck
open AutoSeq1 (wpAny_loadPart')
section
variable {prog:Program} {w:World} {A:Around} {E:Value→Shared→Prop} {s:Shared}
theorem WB {it l:Addr} {i:Nat} {items:Array Value} {x:Value} {Q:Value→Shared→Prop} (hit:s.heap.IsTupleIter it l i)
 (hl:s.heap.IsTuple l items) (hx:items[i]?=some x)
 (hQ:∀h',h'.IsTupleIter it l (i+1)→Heap.SameBut it s.heap h'→Q x {s with heap:=h'}):
 wpAny (model prog w) A (Builtin.SmallTypes.nextOf (.ref it)) Q E s:=by
 obtain ⟨o,ho,hc,hd⟩:=id hit
 obtain ⟨ol,hol,_,nl,hdl⟩:=hl
 unfold Builtin.SmallTypes.nextOf
 refine wpAny_bind (wpAny_callSpecial?_slot (name:=Str.ofString "__next__") hit.typeIs F.slot_tuple_iterator_next
  (wpAny_call_entry F.slot_tuple_iterator_next hit.typeIs F.entry_tuple_iterator_next ?_ (F.args_tuple_iterator_next_1 _)))
 show wpAny _ _ (field (.ref it) 0 >>=_) _ _ s
 refine wpAny_bind (wpAny_field ho hd (x:=.ref l) rfl ?_)
 show wpAny _ _ (if (Value.ref l==Value.none)=true then _ else _) _ _ s
 rw [if_neg (show ¬((Value.ref l==Value.none)=true) from BH)]
 show wpAny _ _ (field (.ref it) 1 >>=_) _ _ s
 refine wpAny_bind (wpAny_field ho hd (x:=.int i 0) rfl ?_)
 show wpAny _ _ (seqItems? (.ref l) >>=_) _ _ s
 refine wpAny_bind (wpAny_seqItems hol hdl ?_)
 simp only [IZ,hx]
 refine wpAny_bind (wpAny_setField ho hd (by simp) (wpAny_pure ⟨x,rfl,wpAny_pure (hQ _ ?_ (Heap.SameBut.update ..))⟩))
 exact ⟨_,IX _ ho (Obj.isFreed_of_fields (Obj.data_mapFields hd _)),(Obj.cls_mapFields ..).trans hc,by
  rw [Obj.data_mapFields hd];simp [rawInt]⟩
theorem WC {it l:Addr} {i:Nat} {items:Array Value} {Q:Value→Shared→Prop} (hh:A.handled=none)
 (hit:s.heap.IsTupleIter it l i) (hl:s.heap.IsTuple l items) (hx:items[i]?=none)
 (hE:∀h' e,Heap.ExtBut it s.heap h'→(∃o,h'.get? e=some o∧o.cls=.type "StopIteration")→E (.ref e) {s with heap:=h'}):
 wpAny (model prog w) A (Builtin.SmallTypes.nextOf (.ref it)) Q E s:=by
 obtain ⟨o,ho,hc,hd⟩:=id hit
 obtain ⟨ol,hol,_,nl,hdl⟩:=hl
 unfold Builtin.SmallTypes.nextOf
 refine wpAny_bind (wpAny_callSpecial?_slot (name:=Str.ofString "__next__") hit.typeIs F.slot_tuple_iterator_next
  (wpAny_call_entry F.slot_tuple_iterator_next hit.typeIs F.entry_tuple_iterator_next ?_ (F.args_tuple_iterator_next_1 _)))
 show wpAny _ _ (field (.ref it) 0 >>=_) _ _ s
 refine wpAny_bind (wpAny_field ho hd (x:=.ref l) rfl ?_)
 show wpAny _ _ (if (Value.ref l==Value.none)=true then _ else _) _ _ s
 rw [if_neg (show ¬((Value.ref l==Value.none)=true) from BH)]
 show wpAny _ _ (field (.ref it) 1 >>=_) _ _ s
 refine wpAny_bind (wpAny_field ho hd (x:=.int i 0) rfl ?_)
 show wpAny _ _ (seqItems? (.ref l) >>=_) _ _ s
 refine wpAny_bind (wpAny_seqItems hol hdl ?_)
 simp only [IZ,hx]
 refine wpAny_bind (wpAny_rule (wpAny_bind (wpAny_setField ho hd (by simp) ?_)))
 show wpAny _ _ (newExc (.type "StopIteration") [] >>=_) _ _ _
 refine wpAny_bind ?_
 simp only [newExc,newTuple]
 refine wpAny_bind (wpAny_newObj_type ?_ (by size_fits))
 refine wpAny_bind (m:=firstArgMember _ _) (wpAny_of_eq (a:=Value.none) (by first |rfl |(simp only [firstArgMember];rfl)) ?_)
 refine wpAny_newObj_type ?_ (by size_fits)
 simp only [raiseNew]
 refine wpAny_bind (wpAny_handled ?_)
 first |rw [show A.in1.handled=none from hh] |rw [hh]
 refine wpAny_bind (wpAny_pure (wpAny_throw ?_))
 exact hE _ _ (((Heap.SameBut.update ..).extBut.push _).push _) ⟨_,By _ rfl,rfl⟩
end
theorem Nl {prog:Program} {w:World} {A:Around} (hh:A.handled=none) (it l:Addr) (hne:l≠it) (items:Array Value):
 Draws prog w A it [it,l] items.size (fun i v=>items[i]?=some v) (fun i h=>h.IsTupleIter it l i∧h.IsTuple l items) where
 live:=fun _ _ st=>let ⟨o,ho,_⟩:=st.1;⟨o,ho⟩
 frame:=fun _ _ _ st hk=>⟨st.1.at fun o e=>hk it (by simp) o e,st.2.at fun o e=>hk l (by simp) o e⟩
 item:=fun i s Q E hi st hQ=>by
  refine WB st.1 st.2 (x:=items[i]) (by simp [hi]) fun h' hit' hs'=>?_
  exact hQ _ h' s.toks (by simp [hi]) ⟨hit',st.2.extBut hs'.extBut hne⟩ hs'
 done:=fun s Q E st hE=>WC hh st.1 st.2 (by simp) hE
theorem WD (l:Addr) (items:Array Value) (n:Nat) (dct:Option Addr) (sl:Array (Option Value)):
 Meets (Builtin.«enumerate.__new__» ⟨[.type "enumerate",.ref l],[]⟩) (fun _ R s=>s.heap.get? l=some {cls:=.type "tuple",dict:=dct,data:=.seq items n,slots:=sl}∧
  R (.ok (.ret (.ref (s.heap.push {cls:=.type "tuple_iterator",data:=.fields #[.ref l,.int 0 0]}).objs.size)))
    {s with heap:=(s.heap.push {cls:=.type "tuple_iterator",data:=.fields #[.ref l,.int 0 0]}).push {cls:=.type "enumerate",data:=.fields #[.none,.bool false,.ref s.heap.objs.size,rawInt 0,.none,.none]}}):=
 .of_wp fun prog w A R s h=>by
  obtain ⟨hp,g,d,tk,os⟩:=s;obtain ⟨hl,h⟩:=h
  have hsub:=sub_enumerate
  have hL:Heap.IsTuple (Shared.heap ⟨hp,g,d,tk,os⟩) l items:=⟨_,hl,rfl,n,rfl⟩
  wp_walk using wpAny_loadPart' hl
  refine wpAny_stack_any fun st=>wpAny_pure ?_
  split
  ·rename_i c _ _ _ _ _
   cases (c==Value.type "enumerate")
   ·wp_walk using wpAny_loadPart' hl,wpAny_pyIter_tuple hL
    exact ⟨_,rfl,h⟩
   ·wp_walk using wpAny_loadPart' hl,wpAny_pyIter_tuple hL
    exact ⟨_,rfl,h⟩
  ·wp_walk using wpAny_loadPart' hl,wpAny_pyIter_tuple hL
   exact ⟨_,rfl,h⟩
section
variable {prog:Program} {w:World} {A:Around} {E:Value→Shared→Prop} {s:Shared}
theorem WE {l:Addr} {items:Array Value} {Q:Value→Shared→Prop} (hL:s.heap.IsTuple l items)
 (h:∀h',IsEnum h' (s.heap.objs.size+1) s.heap.objs.size 0 .none→h'.IsTupleIter s.heap.objs.size l 0→h'.objs.size=s.heap.objs.size+2→
  (∀b o,s.heap.get? b=some o→h'.get? b=some o)→Q (.ref (s.heap.objs.size+1)) {s with heap:=h'}):
 wpAny (model prog w) A (call (.type "enumerate") [.ref l]) Q E s:=by
 obtain ⟨⟨c,dct,dt,sl⟩,hl,hc,n,hd⟩:=hL
 replace hc:c=.type "tuple":=hc
 replace hd:dt=.seq items n:=hd
 subst hc hd
 refine callType_new F.called_enumerate (by decide) (F.typeCall_enumerate_1 _) (F.newCall_enumerate_1 _) (fun obj=>F.args_object_init_2 obj _) F.entry_enumerate_new
  (WD l items n dct sl) ⟨hl,?_⟩
 have hz:(s.heap.push {cls:=.type "tuple_iterator",data:=.fields #[.ref l,.int 0 0]}).objs.size=s.heap.objs.size+1:=CJ ..
 show _∧_
 rw [hz]
 have he:IsEnum ((s.heap.push {cls:=.type "tuple_iterator",data:=.fields #[.ref l,.int 0 0]}).push
  {cls:=.type "enumerate",data:=.fields #[.none,.bool false,.ref s.heap.objs.size,rawInt 0,.none,.none]}) (s.heap.objs.size+1) s.heap.objs.size 0 .none:=by
  have:=By (s.heap.push {cls:=.type "tuple_iterator",data:=.fields #[.ref l,.int 0 0]})
   (o:={cls:=.type "enumerate",data:=.fields #[.none,.bool false,.ref s.heap.objs.size,rawInt 0,.none,.none]}) rfl
  rw [hz] at this;exact this
 refine ⟨⟨_,he,rfl⟩,h _ he ⟨_,AF _ (By _ rfl),rfl,rfl⟩ (by rw [CJ,hz]) fun b o x=>AF _ (AF _ x)⟩
end
def Qz (K:PySem.W.Frag) (t:Addr) (xs:List V):It:=⟨fun i H=>i<xs.length∧SqT K H t xs,fun i H x H'=>∃p v,H p=none∧x=.ref p∧xs[i]?=some v∧H'=Am H p (.tup [.int i,v]),fun i H=>i=xs.length∧SqT K H t xs⟩
theorem WG {P:Program} {w:World} {K:PySem.W.Frag} {elts:List Expr} {kt:Nat} {tpos:Pos} (e it t:Addr) (hei:e≠it) (hte:t≠e) (hti:t≠it) (xs:List V):
 F9 P w K (.Tuple elts kt tpos) (Qz K t xs) [e,it] e (fun i h=>(∃old,IsEnum h e it i old)∧h.IsTupleIter it t i) where
 mem:=by simp
 obj:=fun i h st b hb=>by
  obtain ⟨⟨old,h1⟩,o,h2,hc,hd⟩:=st
  rcases qa5.mp hb with z |z
  ·subst z;exact ⟨_,h1,fun v z=>by cases z⟩
  ·rw [qaF] at z
   subst z
   exact ⟨o,h2,fun v z=>by rw [hd] at z;cases z⟩
 keep:=fun i h h' st k=>by
  obtain ⟨⟨old,h1⟩,h2⟩:=st
  exact ⟨⟨old,k e (by simp) _ h1⟩,h2.at fun o z=>k it (by simp) o z⟩
 item:=by
  intro X hP hw hK hc i pins s σ H E I hf st hg
  subst hP hw hK
  obtain ⟨⟨old,he⟩,hit⟩:=st
  obtain ⟨hi,hq⟩:=hg
  obtain ⟨its,rv,p,hz⟩:=I.tuple hq
  have hT:s.heap.IsTuple t its.toArray:=p
  have hl:=rv.length
  obtain ⟨e0,e1,e2,e3,e4,e5⟩:=hf e (by simp)
  obtain ⟨i0,i1,i2,i3,i4,i5⟩:=hf it (by simp)
  have hx:xs[i]?=some xs[i]:=A6 hi
  refine wpAny_pyNext_enum_itemD (Nl (A:=X.A.in1) (I.ok.hd hc) it t hti its.toArray) he ⟨hit,hT⟩ (by rw [Bc];omega) hei (by simp [hei,Ne.symm hte]) fun x h1 tk hPx ho hs1 hTup hsz hk=>?_
  obtain ⟨u,hu,ru⟩:=rv.get hx
  have hux:u=x:=by
   have:its[i]?=some x:=by simpa using hPx
   rw [hu] at this
   exact Option.some.inj this
  subst hux
  refine ⟨.ref s.heap.objs.size,rfl,wpAny_letOwnedTupleGo_enum ho fun h2 he2 sb=>?_⟩
  have hfr:H s.heap.objs.size=none:=I.hok.fresh (AO _)
  have kk:∀b o,b∉[e,it]→s.heap.get? b=some o→h2.get? b=some o:=fun b o hb z=>by
   have n1:b≠e:=fun q=>hb (by simp [q])
   have n2:b≠it:=fun q=>hb (by simp [q])
   exact (sb.2 b n1).trans (hk b o n1 n2 z)
  have na:s.heap.objs.size≠e:=FM (AG he)
  have hnew:h2.get? s.heap.objs.size=some {cls:=.type "tuple",data:=.seq #[.int i tk,u]}:=(sb.2 _ na).trans hTup
  have ntr:∀b w,H b=some w→b∉[e,it]:=fun b w z hb=>by
   rcases qa5.mp hb with q |q
   ·rw [q,e0] at z;cases z
   ·rw [qaF.mp q,i0] at z;cases z
  have nal:∀b o,s.heap.get? b=some o→b≠s.heap.objs.size:=fun b o z=>BK (AG z)
  have it2:h2.IsTupleIter it t (i+1):=by
   obtain ⟨o,q,r⟩:=hs1.1
   exact ⟨o,(sb.2 it (Ne.symm hei)).trans q,r⟩
  refine ⟨.ref s.heap.objs.size,Am H s.heap.objs.size (.tup [.int i,xs[i]]),?_,rfl,⟨s.heap.objs.size,xs[i],hfr,rfl,hx,rfl⟩,⟨⟨u,he2⟩,it2⟩,fun b hb=>?_⟩
  ·show Inv X pins σ _ {s with heap:=h2,gens:=s.gens,drawn:=s.drawn,toks:=tk+1}
   refine I.step (g':=s.gens) (d':=s.drawn) (t':=tk+1) (h':=h2) (ch:=[e,it]) (fun b hb=>?_) (fun b o _ _ hc z _=>kk b o hc z) (fun b o _ _ hc z _=>⟨o.slots,kk b o hc z⟩) (fun b o _ z n=>by rw [Ao (nal b o z)];exact n)
    (fun b o hc z=>⟨o,kk b o hc z⟩) (fun b ys z=>by rw [Ao (BJ z hfr)];exact z) (fun b o u z=>by rw [Ao (BJ z hfr)];exact z) (fun b ps z=>⟨#[],by rw [Ao (BJ z hfr),z];simp⟩) (fun m hm=>?_) (fun b w z=>?_) I.bare
   ·rcases qa5.mp hb with q |q
    ·subst q;exact ⟨e3,e1,e4,e5⟩
    ·rw [qaF] at q;subst q;exact ⟨i3,i1,i4,i5⟩
   ·obtain ⟨o,es,ep,q,r⟩:=hm
    exact ⟨o,es,ep,kk _ o (by simp [Ne.symm e1,Ne.symm i1]) q,r⟩
   ·by_cases hb:b=s.heap.objs.size
    ·subst hb
     rw [Bt] at z
     cases z
     exact ⟨by simp only [Fc,FJ];rw [sizeLine_eq];decide,[.int i tk,u],.cons ⟨tk,rfl⟩ (.cons ru .nil),⟨_,hnew,rfl,0,rfl⟩,fun o e=>by rw [hnew] at e;cases e;rfl⟩
    ·rw [Ao hb] at z
     refine (I.hok b w z).stay (fun c v hc q=>kk c v ?_ q) (fun c q=>by rw [Ao (BJ q hfr)];exact q) fun c ys q=>by rw [Ao (BJ q hfr)];exact q
     rcases hc with rfl |hc
     ·exact ntr c _ z
     ·exact ntr c _ hc
  ·have nb:b≠s.heap.objs.size:=by
    rcases qa5.mp hb with q |q
    ·rw [q];exact na.symm
    ·rw [qaF.mp q]
     obtain ⟨o,z,_⟩:=hit
     exact nal _ _ z
   rw [Ao nb]
   exact (hf b hb).1
 done:=by
  intro X hP hw hK hc i pins s σ H E I hf st hg
  subst hP hw hK
  obtain ⟨⟨old,he⟩,hit⟩:=st
  obtain ⟨hi,hq⟩:=hg
  obtain ⟨its,rv,p,hz⟩:=I.tuple hq
  have hT:s.heap.IsTuple t its.toArray:=p
  have hl:=rv.length
  obtain ⟨i0,i1,i2,i3,i4,i5⟩:=hf it (by simp)
  have hin:i=its.toArray.size:=by rw [Bc];omega
  refine wpAny_pyNext_enum_endD (Nl (A:=X.A.in1) (I.ok.hd hc) it t hti its.toArray) he (hin ▸ ⟨hit,hT⟩) fun h' eb=>⟨rfl,I.turned (t':=s.toks) (fun b o hb z=>eb b o hb z) i0 i1 i3 i4 i5⟩
 self:=fun A i s Q E st h=>by
  obtain ⟨⟨old,he⟩,_⟩:=st
  exact wpAny_pyIter_enum he h
section
variable {X:Cx} {E:XK}
def EI (ds:List D):List D:=ds.mapIdx fun i d=>.tup [.int (i:Nat),d]
def QC:List D→HD→Out (List D×Bi):=fun ds h=>match ds with
 |[.tup xs]=>.ok (EI xs,[]) h
 |_=>.stuck
def QE (fa:MA):MI:=fun ρ h=>(fa ρ h).bind QC
end
end LS
namespace LS
open PySem PySem.Spec PyProof.Rows L2
section
variable {prog:Program} {w:World} {A:Around} {E:Value→Shared→Prop} {s:Shared}
end
section
variable {X:Cx} {E:XK} {e:Expr} {f:ME}
def Nm:D→HD→Out D:=fun x h=>match x with
 |.tup [a,b]=>.ok (.tup [b,a]) h
 |_=>.stuck
def QF (f:ME):ME:=fun ρ h=>(f ρ h).bind Nm
end
structure CSc (X:Cx) (scope:Scope) (Nc:List Str) (cs:List (Option Nat)):Prop where
 kind:scope.kind=.function
 loc:(scope.names.all fun y=>y.2 != .local||scope.names.lookup y.1==some .local)=true
 free:(scope.names.all fun y=>y.2 != .free||(X.env.kindOf y.1==some .cell||X.env.kindOf y.1==some .free))=true
 nd:(scope.names.map (·.1)).Nodup
 len:cs.length=Nc.length
 out:((Nc.zip cs).all fun p=>match p.2 with
  |none=>true
  |some j=>X.N[j]?==some p.1&&scope.names.lookup p.1==some .free)=true
theorem CSc.ok {X:Cx} {scope:Scope} {Nc:List Str} {cs:List (Option Nat)} (S:CSc X scope Nc cs):Fp X scope Nc cs:=by
 refine ⟨S.kind,fun y hy e=>?_,fun y hy e=>?_,S.nd,S.len,fun i x j h1 h2=>?_⟩
 ·have:=qaJ.mp S.loc y hy
  rw [e] at this
  simpa using this
 ·have:=qaJ.mp S.free y hy
  rw [e] at this
  simpa using this
 ·have hz:(Nc.zip cs)[i]?=some (x,some j):=by
   rw [List.getElem?_zip_eq_some]
   exact ⟨h1,h2⟩
  have:=qaJ.mp S.out (x,some j) (GH hz)
  simpa using this
structure Dn (K:PySem.W.Frag) (mg:Str→Option Value) (x:Str) (ps:List Str) (st:Stmt) (f:Addr) (fd:FuncData):Prop where
 fn:Fun K x x st f fd
 bd:Binds K fd ps []
 mg:mg x=some (.ref f)
section
variable {X:Cx} {E:XK}
theorem K3 {a:Expr} {f:ME} {pos:Pos} (ha:Ev X E a f):Ev X E (.UnaryOp .USub a pos) (fun ρ h=>(f ρ h).bind fun x h1=>match x with
 |.int i=>.ok (.int (-i)) h1
 |_=>.stuck):=
 Ck (Pl Po ha) fun σ H Q z1_=>by obtain ⟨m,ρ,h,hr,er,p⟩:=z1_;exact (⟨m,ρ,h,hr,er,Post.bind p fun x h1 v m1 H1 eo p1 k1 hr1 r1 q1=>by
  clear eo
  split at q1
  ·simp only [rD,DV] at r1
   subst r1
   exact ⟨_,rfl,Bp hr1 q1 (by simp [DV])⟩
  ·exact q1.elim⟩)
def Iz (f:ME):ME:=fun ρ h=>(f ρ h).bind fun x h1=>match x with
    |.int i=>.ok (.int (-i)) h1
    |_=>.stuck
theorem Gs {i j:Nat} {x y:Str} {px py tp:Pos} {kt:Nat} (hc:X.calm=true) (h1:PG X (.Name x px) (Cj i)) (h2:PG X (.Name y py) (Cj j)):PG X (.Tuple [.Name x px,.Name y py] kt tp) (FK X.K 2 (Dy (Cj i) (Dy (Cj j) F8))):=
 HZ hc (Dz h1 (Dz h2 HY))
end
def CMl (i j:Int):Prop:=CMul i j∨(Builtin.Int.intBits i≤16777216∧Builtin.Int.intBits j≤16777216)
instance (i j:Int):Decidable (CMl i j):=by unfold CMl;infer_instance
theorem CMl.ok {i j:Int} (h:CMl i j):IntMulOk i j:=by
 rcases h with h |⟨h1,h2⟩
 ·exact h.ok
 ·unfold IntMulOk
  intro z
  simp only [BR,decide_eq_true_eq] at z
  have:=z.2
  unfold Builtin.Int.intTooBig at this
  simp only [decide_eq_true_eq] at this
  have hb:(bitsLine:Int)=134217728:=by first |rfl |decide
  omega
variable {X:Cx}
theorem op_mul':OpR X (binaryOp .Mult) (rI CMl fun i j=>.int (i*j)):=Kv fun _ _ _ _ _ _ _ hc q=>mul_int q hc.ok
def DR:D→D→HD→Out D
 |.int i,.int j,h=>if CMl i j then .ok (.int (i*j)) h else .stuck
 |.loc l,.int k,h=>match h[l]? with
  |some (.lst xs)=>if -(2^63)≤k∧k<2^63 then CL (List.replicate k.toNat xs).flatten h else .stuck
  |_=>.stuck
 |_,_,_=>.stuck
theorem WH:BL X (binaryOp .Mult) DR:=by
 refine ⟨_,op_mul'.or V2,fun m H h E x y v u Q hr rx ry q=>?_⟩
 unfold DR at q
 split at q
 ·simp only [DV] at rx ry
  subst rx ry
  split at q
  ·rename_i hc
   exact .inl ⟨_,_,rfl,rfl,hc,Bp hr q (by simp [DV])⟩
  ·exact q.elim
 ·simp only [DV] at rx ry
  obtain ⟨a,rfl,ha⟩:=rx
  subst ry
  split at q
  ·rename_i k _ xs e
   split at q
   ·rename_i hk
    obtain ⟨vs,h1,d1⟩:=hr.cells _ _ a e ha
    obtain ⟨z,q'⟩:=Ik hr (d1.rep k.toNat) q
    refine .inr ⟨a,k,vs,rfl,rfl,h1,hk.1,hk.2,?_,q'⟩
    rw [KC] at z
    rw [Nat.mul_comm];exact z
   ·exact q.elim
  ·exact q.elim
 ·exact q.elim
end LS
namespace Att
open PySem PySem.W PySem.Calls PyProof.Rows
theorem WI {ns:List Int} (h:WData.layable (.list (ns.map WData.int))=true):∀n∈ns,Builtin.Int.intBits n≤2^20:=by
 have hw:WData.weight (.list (ns.map WData.int))≤2^20:=(layableW_iff.mp h).2.2
 have key:∀(ns:List Int) (b:Nat),WData.weightAll (ns.map WData.int)≤b→∀n∈ns,Builtin.Int.intBits n≤b:=by
  intro ns
  induction ns with
  |nil=>intro b _ n hn;cases hn
  |cons m r ih=>
   intro b hb n hn
   have e:WData.weightAll ((m::r).map WData.int)=Builtin.Int.intBits m+1+WData.weightAll (r.map WData.int):=by
    simp only [Cs,WData.weightAll,WData.weight]
    rfl
   rw [e] at hb
   rcases qa5.mp hn with z |z
   ·subst z;omega
   ·exact ih b (by omega) n z
 exact key ns _ (by simpa only [WData.weight] using hw)
theorem attach_bits {l:OpenLaw} {n:Nat} {q:Program} {loose:List Str} {XP:(Str→Option Value)→Heap→Prop} {YP:World→Heap→Prop} {d:DefRec}
 (hn:l.most=some n) (hdf:d.params.defaults=[])
 (call:∀(w:World) (s₀ s₁:Shared) (mg mb:Str→Option Value) (fa:Addr) (o:Obj) (pm cd doc:Value) (a:Addr) (vs:List Value) (ns:List Int),(∀n∈ns,Builtin.Int.intBits n≤2^20)→
  Ground q loose [] XP w s₀ mg mb s₁.heap→YP w s₁.heap→
  s₁.heap.get? fa=some o→o.data=.func (docDef d.name d.params d.body d.scope pm cd doc)→s₁.heap.CodeRec cd d.name→mg d.name=some (.ref fa)→
  s₁.heap.get? a=some {cls:=.type "list",data:=.seq vs.toArray}→IntsAre vs ns→ns.length≤n→s₁.gens=#[]→
  codeAny (model l.prog w) callerA (.call (.ref fa) ⟨[.ref a],[]⟩) (fun r s'=>r=.ok (.ret (.bool true))∧OldK s₁.heap s'.heap∧s'.os=s₁.os∧AllBare s'.gens) s₁):
 WalkO q loose XP YP l.row.toRowW d [] (fun f vs=>PySem.call f vs):=by
 intro w s₀ s₁ mg mb G Y fa o pm cd doc dV kV ho hd hcd hD hmg hg args vals as hpre hlay hrd hwl hlo
 obtain rfl:dV=.none:=Dflts.none hD hdf
 obtain rfl:kV=.none:=Dflts.noKw hD
 obtain ⟨a,vs,ns,rfl,rfl,hobj,hints,hlen⟩:=V4 hn hpre hwl
 have hb:=WI (layableW_arg hlay _ A0)
 refine enter_call (codeAny_mono (call w s₀ s₁ mg mb fa o pm cd doc a vs ns hb G Y ho (fd_plain hd) hcd hmg hobj hints hlen hg) fun r s' hq=>?_)
 obtain ⟨rfl,h2,h3,h4⟩:=hq
 exact ⟨.inl ⟨.bool true,.bool true,[],rfl,fun _=>rfl,.bool true,V5 l _,fun _=>⟨List.Pairwise.nil,fun _ hm=>(nomatch hm)⟩⟩,h2,h3,h4⟩
end Att
namespace LS
open PySem PySem.Spec PyProof.Rows L2
def Wp {α:Type} (o:Out α) (Q:α→HD→Prop):Prop:=match o with
 |.ok a h=>Q a h
 |_=>False
section
variable {α β:Type} {o:Out α} {Q Q':α→HD→Prop}
@[simp] theorem Bz (a:α) (h:HD):Wp (.ok a h) Q=Q a h:=rfl
@[simp] theorem Zb9:Wp .stuck Q=False:=rfl
theorem An {o':Out α} (e:o=o') (h:Wp o' Q):Wp o Q:=e ▸ h
theorem AD {k:α→HD→Out β} {Q:β→HD→Prop}:Wp (o.bind k) Q=Wp o fun a h=>Wp (k a h) Q:=by cases o<;>rfl
theorem Wp.mono (h:Wp o Q) (f:∀a h,Q a h→Q' a h):Wp o Q':=by
 cases o with
 |ok a h'=>exact f _ _ h
 |_=>exact h.elim
theorem Wp.ex (h:Wp o Q):∃a h',o=.ok a h'∧Q a h':=by
 cases o with
 |ok a h'=>exact ⟨a,h',rfl,h⟩
 |_=>exact h.elim
end
def Sm (h h':HD):Prop:=∀(l:Nat) (c:DE),h[l]?=some c→h'[l]?=some c
theorem Sm.refl (h:HD):Sm h h:=fun _ _ e=>e
theorem Sm.trans {h h1 h2:HD} (a:Sm h h1) (b:Sm h1 h2):Sm h h2:=fun l c e=>b l c (a l c e)
theorem Sm.app (h t:HD):Sm h (h++t):=fun l c e=>by
 rw [FG (qa6.mp e).1];exact e
def Pu {α:Type} (o:Out α) (h:HD) (a:α):Prop:=Wp o fun x h'=>x=a∧Sm h h'
section
variable {α β:Type} {o:Out α} {h:HD} {a:α}
theorem Pu.wp {Q:α→HD→Prop} (p:Pu o h a) (k:∀h',Sm h h'→Q a h'):Wp o Q:=Wp.mono p fun x h' z1_=>by obtain ⟨e,s⟩:=z1_;subst e;exact k h' s
theorem Pu.ok:Pu (.ok a h) h a:=⟨rfl,.refl _⟩
theorem Pu.bind {k:α→HD→Out β} {b:β} (p:Pu o h a) (q:∀h',Sm h h'→Pu (k a h') h' b):Pu (o.bind k) h b:=by
 unfold Pu
 rw [AD]
 exact p.wp fun h' s=>Wp.mono (q h' s) fun x h2 z2_=>by obtain ⟨e,s2⟩:=z2_;exact (⟨e,s.trans s2⟩)
theorem Pu.noErr (p:Pu o h a):Pu (noErr o) h a:=by
 obtain ⟨x,h',e,q⟩:=Wp.ex p
 rw [e];exact q
end
def QG (i j:Nat) (ρ:Ai) (ds:List D) (h:HD):Out (Fl×Ai):=match ds with
 |[x,y]=>.ok (.nx,(ρ.set i (some x)).set j (some y)) h
 |_=>.stuck
def QH (o:Option Ai) (h:HD):Out (Fl×Ai):=match o with
 |some ρ1=>.ok (.nx,ρ1) h
 |none=>.stuck
def K4 (g:HD→Out D) (x:D) (h:HD):Out D:=match x with
 |.bl true=>g h
 |.bl false=>.ok (.bl false) h
 |_=>.stuck
def Nn (g:HD→Out D) (x:D) (h:HD):Out D:=match x with
 |.bl true=>.ok (.bl true) h
 |.bl false=>g h
 |_=>.stuck
def QJ (x:D) (h:HD):Out D:=match x with
 |.bl b=>.ok (.bl (!b)) h
 |_=>.stuck
def QK (x:D) (h:HD):Out D:=match x with
 |.int i=>.ok (.int (-i)) h
 |_=>.stuck
@[simp] theorem Zca {i j:Nat} {ρ:Ai} {x y:D} {h:HD} {Q:Fl×Ai→HD→Prop}:Wp (QG i j ρ [x,y] h) Q=Q (.nx,(ρ.set i (some x)).set j (some y)) h:=rfl
@[simp] theorem WJ {ρ:Ai} {h:HD} {Q:Fl×Ai→HD→Prop}:Wp (QH (some ρ) h) Q=Q (.nx,ρ) h:=rfl
@[simp] theorem Zcb {g:HD→Out D} {h:HD}:K4 g (.bl true) h=g h:=rfl
@[simp] theorem Zcc {g:HD→Out D} {h:HD}:K4 g (.bl false) h=.ok (.bl false) h:=rfl
@[simp] theorem Zcd {g:HD→Out D} {h:HD}:Nn g (.bl true) h=.ok (.bl true) h:=rfl
@[simp] theorem Zce {g:HD→Out D} {h:HD}:Nn g (.bl false) h=g h:=rfl
@[simp] theorem Zcf {b:Bool} {h:HD}:QJ (.bl b) h=.ok (.bl (!b)) h:=rfl
@[simp] theorem Zcg {i:Int} {h:HD}:QK (.int i) h=.ok (.int (-i)) h:=rfl
def Np (g:MS) (Q:Fl×Ai→HD→Prop):Fl×Ai→HD→Prop
 |(.nx,ρ),h=>Wp (g ρ h) Q
 |y,h=>Q y h
def G3 (Q:D→HD→Prop):Fl×Ai→HD→Prop
 |(.nx,_),h=>Q .non h
 |(.rt d,_),h=>Q d h
 |_,_=>False
section
variable {ρ:Ai} {h:HD} {Q:Fl×Ai→HD→Prop} {QB:D→HD→Prop} {g g1 g2:MS} {f:ME} {t:MT}
@[simp] theorem Aj:Np g Q (.nx,ρ) h=Wp (g ρ h) Q:=rfl
@[simp] theorem Zch {d:D}:Np g Q (.rt d,ρ) h=Q (.rt d,ρ) h:=rfl
@[simp] theorem Zci:G3 QB (.nx,ρ) h=QB .non h:=rfl
@[simp] theorem Zcj {d:D}:G3 QB (.rt d,ρ) h=QB d h:=rfl
@[simp] theorem B8:Wp (Al g1 g2 ρ h) Q=Wp (g1 ρ h) (Np g2 Q):=by
  unfold Al
  rw [AD]
  congr 1
  funext x h'
  obtain ⟨fl,ρ1⟩:=x
  cases fl<;>rfl
theorem Bs {n:Nat} {ds:List D}:Wp (AA n g ds h) QB=Wp (g (ds.map some++List.replicate (n - ds.length) none) h) (G3 QB):=by
 unfold AA
 rw [AD]
 congr 1
 funext x h'
 obtain ⟨fl,ρ1⟩:=x
 cases fl<;>rfl
@[simp] theorem Zck:Wp (Bo ρ h) Q=Q (.nx,ρ) h:=rfl
@[simp] theorem Zcl:Wp (EA f ρ h) Q=Wp (f ρ h) fun _ h1=>Q (.nx,ρ) h1:=by unfold EA;rw [AD];rfl
@[simp] theorem Zcm:Wp (AL f ρ h) Q=Wp (f ρ h) fun d h1=>Q (.rt d,ρ) h1:=by unfold AL;rw [AD];rfl
@[simp] theorem JB {i:Nat}:Wp (Ay i f ρ h) Q=Wp (f ρ h) fun d h1=>Q (.nx,ρ.set i (some d)) h1:=by unfold Ay;rw [AD];rfl
@[simp] theorem Zcn:Wp (Bh t g1 g2 ρ h) Q=Wp (t ρ h) fun b h1=>Wp (if b=true then g1 ρ h1 else g2 ρ h1) Q:=by unfold Bh;rw [AD]
@[simp] theorem Zco {i j:Nat} {fa:MA}:Wp (GZ i j fa ρ h) Q=Wp (fa ρ h) fun ds h1=>Wp (QG i j ρ ds h1) Q:=by unfold GZ;rw [AD];rfl
@[simp] theorem Zcp {sg:MG}:Wp (EB sg f ρ h) Q=Wp (f ρ h) fun d h1=>Wp (QH (sg d ρ) h1) Q:=by unfold EB;rw [AD];rfl
@[simp] theorem Zcq {fo fi fv:ME}:Wp (K2 fo fi fv ρ h) Q=Wp (fv ρ h) fun v h1=>Wp (fo ρ h1) fun o h2=>Wp (fi ρ h2) fun i h3=>Wp (Iw o i v h3 (.ok (.nx,ρ) h3)) Q:=by
  unfold K2;simp only [AD]
end
section
variable {ρ:Ai} {h:HD} {Q:D→HD→Prop} {QB:Bool→HD→Prop} {QA:List D→HD→Prop} {f g k:ME} {t u:MT} {fa:MA} {op op':D→D→HD→Out D} {F:List D→HD→Out D}
@[simp] theorem Nq {d:D} {r:Ai}:Wp (Ab 0 (some d::r) h) Q=Q d h:=rfl
@[simp] theorem WK {i:Nat} {x:Option D} {r:Ai}:Wp (Ab (i+1) (x::r) h) Q=Wp (Ab i r h) Q:=rfl
@[simp] theorem WL {d:D}:Wp (mC d ρ h) Q=Q d h:=rfl
@[simp] theorem QL:Wp (Ag op f g ρ h) Q=Wp (f ρ h) fun x h1=>Wp (g ρ h1) fun y h2=>Wp (op x y h2) Q:=by unfold Ag;simp only [AD]
@[simp] theorem JC:Wp (Ah F fa ρ h) Q=Wp (fa ρ h) fun ds h1=>Wp (F ds h1) Q:=by unfold Ah;rw [AD]
@[simp] theorem Gu:Wp (Ad ρ h) QA=QA [] h:=rfl
@[simp] theorem G4:Wp (Aa f fa ρ h) QA=Wp (f ρ h) fun x h1=>Wp (fa ρ h1) fun xs h2=>QA (x::xs) h2:=by unfold Aa;simp only [AD];rfl
@[simp] theorem Zcr:Wp (Ax fa ρ h) Q=Wp (fa ρ h) fun xs h1=>Wp (if xs.length≤sizeLine then .ok (.tup xs) h1 else .stuck) Q:=by unfold Ax;simp only [AD]
@[simp] theorem WM:Wp (Be fa ρ h) Q=Wp (fa ρ h) fun xs h1=>Wp (CL xs h1) Q:=by unfold Be;simp only [AD]
@[simp] theorem Zcs:Wp (Bj f ρ h) QB=Wp (f ρ h) fun x h1=>Wp (Ij x h1) QB:=by unfold Bj;rw [AD]
@[simp] theorem Zct:Wp (Cu f ρ h) QB=Wp (f ρ h) fun x h1=>Wp (Fi x h1) QB:=by unfold Cu;rw [AD]
@[simp] theorem Zcu:Wp (Cw t ρ h) QB=Wp (t ρ h) fun b h1=>QB (!b) h1:=by unfold Cw;rw [AD];rfl
@[simp] theorem Zcv:Wp (GQ t u ρ h) QB=Wp (t ρ h) fun b h1=>Wp (if b=true then u ρ h1 else .ok false h1) QB:=by unfold GQ;rw [AD]
@[simp] theorem Zcw:Wp (DM t u ρ h) QB=Wp (t ρ h) fun b h1=>Wp (if b=true then .ok true h1 else u ρ h1) QB:=by unfold DM;rw [AD]
@[simp] theorem Zcx:Wp (Ge f g ρ h) Q=Wp (f ρ h) fun x h1=>Wp (K4 (g ρ) x h1) Q:=by unfold Ge;rw [AD];rfl
@[simp] theorem Zcy:Wp (P4 f g ρ h) Q=Wp (f ρ h) fun x h1=>Wp (Nn (g ρ) x h1) Q:=by unfold P4;rw [AD];rfl
@[simp] theorem Zcz:Wp (KL f ρ h) Q=Wp (f ρ h) fun x h1=>Wp (QJ x h1) Q:=by unfold KL;rw [AD];rfl
@[simp] theorem ZcA:Wp (Iz f ρ h) Q=Wp (f ρ h) fun x h1=>Wp (QK x h1) Q:=by unfold Iz;rw [AD];rfl
@[simp] theorem ZcB:Wp (P5 t f g ρ h) Q=Wp (t ρ h) fun b h1=>Wp (if b=true then f ρ h1 else g ρ h1) Q:=by unfold P5;rw [AD]
@[simp] theorem ZcC:Wp (Fj op op' f g k ρ h) Q=Wp (f ρ h) fun x h1=>Wp (g ρ h1) fun y h2=>Wp (op x y h2) fun z h3=>Wp (K4 (fun h=>(k ρ h).bind fun w h4=>op' y w h4) z h3) Q:=by unfold Fj;simp only [AD];rfl
@[simp] theorem ZcD:Wp (QF f ρ h) Q=Wp (f ρ h) fun x h1=>Wp (Nm x h1) Q:=by unfold QF;rw [AD]
@[simp] theorem ZcE:Wp (Gr f g ρ h) Q=Wp (f ρ h) fun x h1=>Wp (Dg x h1) fun x h1=>Wp (g ρ h1) fun y h2=>Wp (Iv x y h2) Q:=by unfold Gr;simp only [AD]
@[simp] theorem ZcF:Wp (Bq ρ h) QB=QB true h:=rfl
theorem AX {xs:List D} (hn:xs.length≤sizeLine) (q:∀l h',Sm h h'→h'[l]?=some (.lst xs)→l=h.length→h'=h++[.lst xs]→Q (.loc l) h'):Wp (CL xs h) Q:=by
 unfold CL
 rw [if_pos hn]
 exact q h.length _ (.app _ _) (by simp) rfl rfl
end
section
variable {ρ:Ai} {h:HD} {QI:(List D×Bi)→HD→Prop} {f:ME} {fa:MA}
@[simp] theorem ZcG:Wp (BV f ρ h) QI=Wp (f ρ h) fun d h1=>Wp (Io d h1) QI:=by unfold BV;rw [AD]
@[simp] theorem ZcH:Wp (CO fa ρ h) QI=Wp (fa ρ h) fun d h1=>Wp (G2 d h1) QI:=by unfold CO;rw [AD]
@[simp] theorem ZcI:Wp (KW fa ρ h) QI=Wp (fa ρ h) fun d h1=>Wp (Jz d h1) QI:=by unfold KW;rw [AD]
@[simp] theorem ZcJ:Wp (QE fa ρ h) QI=Wp (fa ρ h) fun d h1=>Wp (QC d h1) QI:=by unfold QE;rw [AD]
theorem Fq {n:Nat} (hn:n≤1000):G2 [.int (n:Int)] h=.ok ((List.range n).map fun k=>D.int ((k:Nat):Int),[]) h:=by
 have:(-(2^62):Int)≤(n:Int)∧(n:Int)<2^62:=by omega
 unfold G2
 simp only
 rw [if_pos this]
 simp [Gk]
end
theorem QM {α:Type} {src:Bi} {items:List D} {sg:MG} {t:MT} {f:ME} {ρc:Ai} (φ:α→D) (g:α→Bool) (e:α→D) (ρ1:α→Ai):
 ∀(xs:List α) (h:HD),(∀h',Sm h h'→BN src items h')→(∀x∈xs,sg (φ x) ρc=some (ρ1 x))→(∀x∈xs,∀h',Sm h h'→Pu (t (ρ1 x) h') h' (g x))→(∀x∈xs,g x=true→∀h',Sm h h'→Pu (f (ρ1 x) h') h' (e x))→
  Pu (DP src items sg t f ρc (xs.map φ) h) h ((xs.filter g).map e)
 |[],h,hs,_,_,_=>by
  simp only [HW,List.filter_nil,DP]
  rw [if_pos (hs h (.refl _))]
  exact .ok
 |x::xs,h,hs,hg,ht,hf=>by
  simp only [Cs,DP]
  rw [if_pos (hs h (.refl _)),hg x A0]
  simp only
  refine Pu.bind (ht x A0 h (.refl _)).noErr fun h1 s1=>?_
  have ih:∀h2,Sm h h2→Pu (DP src items sg t f ρc (xs.map φ) h2) h2 ((xs.filter g).map e):=fun h2 s2=>QM φ g e ρ1 xs h2 (fun h' s'=>hs h' (s2.trans s'))
   (fun y hy=>hg y (A5 _ hy)) (fun y hy h' s'=>ht y (A5 _ hy) h' (s2.trans s')) (fun y hy gy h' s'=>hf y (A5 _ hy) gy h' (s2.trans s'))
  cases hgx:g x with
  |false=>
   rw [if_neg BH,MB (by simp [hgx])]
   exact ih h1 s1
  |true=>
   rw [if_pos rfl,MC hgx]
   refine Pu.bind (hf x A0 hgx h1 s1).noErr fun h2 s2=>?_
   exact Pu.bind (ih h2 (s1.trans s2)) fun h3 _=>.ok
theorem DG {α:Type} {xs:List α}:xs.filter (fun _=>true)=xs:=List.filter_eq_self.mpr fun _ _=>rfl
section
variable {α:Type} {cs:List (Option Nat)} {it:MI} {sg:MG} {t:MT} {f:ME} {ρ:Ai} {h:HD} {src:Bi} {xs:List α} {φ:α→D}
theorem Gv {Q:D→HD→Prop} (g:α→Bool) (e:α→D) (ρ1:α→Ai) (hi:Wp (it ρ h) fun x h'=>x=(xs.map φ,src)∧Sm h h'∧∀h2,Sm h' h2→BN src (xs.map φ) h2) (hn:xs.length≤sizeLine)
 (hg:∀x∈xs,sg (φ x) (Cz cs ρ)=some (ρ1 x)) (ht:∀x∈xs,∀h',Sm h h'→Pu (t (ρ1 x) h') h' (g x)) (hf:∀x∈xs,g x=true→∀h',Sm h h'→Pu (f (ρ1 x) h') h' (e x))
 (q:∀l h',Sm h h'→h'[l]?=some (.lst ((xs.filter g).map e))→Q (.loc l) h'):Wp (Bf cs it sg t f ρ h) Q:=by
 unfold Bf
 rw [AD]
 refine Wp.mono hi fun x h1 z4_=>?_
 obtain ⟨ex,s1,hs⟩:=z4_
 subst ex
 rw [if_pos (by simpa using hn),AD]
 refine (QM φ g e ρ1 xs h1 hs hg (fun x hx h' s'=>ht x hx h' (s1.trans s')) (fun x hx gx h' s'=>hf x hx gx h' (s1.trans s'))).wp fun h2 s2=>?_
 refine AX ?_ fun l h3 s3 e3 _ _=>q l h3 ((s1.trans s2).trans s3) e3
 rw [Cb]
 exact BS (MD _ _) hn
theorem JD {β γ:Type} {f:β→Option γ} {g:β→γ}:∀{xs:List β},(∀x∈xs,f x=some (g x))→A2 (xs.map f)=some (xs.map g)
 |[],_=>rfl
 |x::xs,hf=>by
  simp only [Cs,hf x A0,A2,JD (fun y hy=>hf y (A5 _ hy)),Jc]
theorem WN (b:α→Bool) (ρ1:α→Ai) (hi:Wp (it ρ h) fun x h'=>x=(xs.map φ,src)∧Sm h h'∧∀h2,Sm h' h2→BN src (xs.map φ) h2) (hn:xs.length≤sizeLine)
 (hg:∀x∈xs,sg (φ x) (Cz cs ρ)=some (ρ1 x)) (hf:∀x∈xs,∀h',Sm h h'→Pu (f (ρ1 x) h') h' (.bl (b x))):
 Pu (Ah (Aq DQ) (Aa (Bf cs it sg Bq f) Ad) ρ h) h (.bl (xs.all b)):=by
 unfold Pu
 rw [JC,G4]
 refine Gv (fun _=>true) (fun x=>.bl (b x)) ρ1 hi hn hg (fun x hx h' s'=>(.ok:Pu (.ok true h') h' true)) (fun x hx _ h' s'=>hf x hx h' s') fun l h' s' e'=>?_
 rw [Gu]
 rw [DG] at e'
 simp only [Aq,DQ,e',Fe]
 rw [JD (f:=Iu∘fun x=>D.bl (b x)) (g:=b) (fun x _=>rfl)]
 refine ⟨?_,s'⟩
 simp [List.all_map]
end
def Ds (I:Ai→HD→Prop) (Q:Fl×Ai→HD→Prop):Fl×Ai→HD→Prop
 |(.nx,ρ),h=>I ρ h
 |(.ct,ρ),h=>I ρ h
 |(.bk,ρ),h=>Q (.nx,ρ) h
 |(.rt d,ρ),h=>Q (.rt d,ρ) h
theorem K5 {α:Type} {src:Bi} {items:List D} {sg:MG} {body:MS} {Q:Fl×Ai→HD→Prop} (φ:α→D) (I:List α→Ai→HD→Prop) (ho:∀xs ρ h,I xs ρ h→BN src items h)
 (step:∀x xs ρ h,I (x::xs) ρ h→∃ρ1,sg (φ x) ρ=some ρ1∧Wp (body ρ1 h) (Ds (I xs) Q)) (done:∀ρ h,I [] ρ h→Q (.nx,ρ) h):∀(xs:List α) (ρ:Ai) (h:HD),I xs ρ h→Wp (Fo src items sg body (xs.map φ) ρ h) Q
 |[],ρ,h,i=>by
  simp only [HW,Fo]
  rw [if_pos (ho _ _ _ i)]
  exact done ρ h i
 |x::xs,ρ,h,i=>by
  simp only [Cs,Fo]
  rw [if_pos (ho _ _ _ i)]
  obtain ⟨ρ1,e,w⟩:=step x xs ρ h i
  rw [e]
  simp only
  rw [AD]
  refine Wp.mono w fun y h' k=>?_
  obtain ⟨fl,ρ2⟩:=y
  cases fl with
  |nx=>exact K5 φ I ho step done xs ρ2 h' k
  |ct=>exact K5 φ I ho step done xs ρ2 h' k
  |bk=>exact k
  |rt d=>exact k
theorem Ef {α:Type} {src:Bi} {it:MI} {sg:MG} {body:MS} {Q:Fl×Ai→HD→Prop} {ρ:Ai} {h:HD} {xs:List α} (φ:α→D) (I:List α→Ai→HD→Prop) (hi:Wp (it ρ h) fun x h'=>x=(xs.map φ,src)∧I xs ρ h') (ho:∀ys ρ h,I ys ρ h→BN src (xs.map φ) h)
 (step:∀x xs ρ h,I (x::xs) ρ h→∃ρ1,sg (φ x) ρ=some ρ1∧Wp (body ρ1 h) (Ds (I xs) Q)) (done:∀ρ h,I [] ρ h→Q (.nx,ρ) h):Wp (B4 it sg body ρ h) Q:=by
 unfold B4
 rw [AD]
 refine Wp.mono hi fun x h1 z5_=>?_
 obtain ⟨e,i⟩:=z5_
 subst e
 exact K5 φ I ho step done xs ρ h1 i
def Py (d:D) (p:PyData):Prop:=Bv [] 8 d=some p∧SeqAt.shaped p=true
@[simp] theorem sz0:(0≤sizeLine)=True:=eq_true (BU _)
@[simp] theorem sz1:(1≤sizeLine)=True:=eq_true (by unfold sizeLine;omega)
@[simp] theorem sz2:(2≤sizeLine)=True:=eq_true (by unfold sizeLine;omega)
@[simp] theorem JE:(3≤sizeLine)=True:=eq_true (by unfold sizeLine;omega)
@[simp] theorem sz4:(4≤sizeLine)=True:=eq_true (by unfold sizeLine;omega)
@[simp] theorem sz5:(5≤sizeLine)=True:=eq_true (by unfold sizeLine;omega)
section
variable {h:HD} {a b c:D} {ds es:List D} {i j:Int} {F1:D→HD→Out D} {F2:D→D→HD→Out D} {F3:D→D→D→HD→Out D}
@[simp] theorem QN:Aq F1 [a] h=F1 a h:=rfl
@[simp] theorem ZcK:Br F2 [a,b] h=F2 a b h:=rfl
@[simp] theorem ZcL:Wa F3 [a,b,c] h=F3 a b c h:=rfl
@[simp] theorem ZcM {b:Bool}:Ij (.bl b) h=.ok b h:=rfl
@[simp] theorem ZcN {b:Bool}:Fi (.bl b) h=.ok b h:=rfl
@[simp] theorem ZcO:Fi .non h=.ok false h:=rfl
@[simp] theorem ZcP:Fi (.int i) h=.ok (i != 0) h:=rfl
@[simp] theorem ZcQ:Fi (.tup ds) h=.ok (!ds.isEmpty) h:=rfl
@[simp] theorem ZcR:BO (.int i) (.ty "int") h=.ok (.bl true) h:=rfl
@[simp] theorem ZcS:BO (.int i) (.ty "bool") h=.ok (.bl false) h:=rfl
@[simp] theorem ZcT:BO (.int i) (.ty "tuple") h=.ok (.bl false) h:=rfl
@[simp] theorem ZcU:BO (.tup ds) (.ty "tuple") h=.ok (.bl true) h:=rfl
@[simp] theorem ZcV:BO (.tup ds) (.ty "int") h=.ok (.bl false) h:=rfl
@[simp] theorem ZcW:As (.int i) (.int j) h=.ok (.int (i+j)) h:=rfl
@[simp] theorem WO {f:Int→Int→D}:Gf f (.int i) (.int j) h=.ok (f i j) h:=rfl
@[simp] theorem ZcX {b c:Bool}:Wb (.bl b) (.bl c) h=.ok (.bl (b==c)) h:=rfl
@[simp] theorem ZcY {b c:Bool}:Wc (.bl b) (.bl c) h=.ok (.bl (!(b==c))) h:=rfl
@[simp] theorem ZcZ:Bk (.tup ds) h=.ok (.int ds.length) h:=rfl
@[simp] theorem Zc0 {ns:List Int}:Bk (.scr ns) h=.ok (.int ns.length) h:=by simp [Bk,BM]
@[simp] theorem Zc1:Io (.tup ds) h=.ok (ds,[]) h:=rfl
@[simp] theorem Zc2:Cy (.tup ds) h=.ok (.tup ds) h:=rfl
@[simp] theorem Zc3:Nm (.tup [a,b]) h=.ok (.tup [b,a]) h:=rfl
@[simp] theorem Zc4:Jv (.int i) (.int j) h=.ok (.int (if j>i then j else i)) h:=rfl
@[simp] theorem QP:Gi (.int i) (.int j) h=.ok (.int (if j<i then j else i)) h:=rfl
@[simp] theorem WQ {b:Bool}:Fm (.bl b) h=.ok (.int (if b then 1 else 0)) h:=rfl
@[simp] theorem Zc5:Fm (.int i) h=.ok (.int i) h:=rfl
@[simp] theorem Zc6 {ρ:Ai} {k:Nat}:A7 k a ρ=some (ρ.set k (some a)):=rfl
@[simp] theorem Zc7 {ρ:Ai} {k l:Nat}:De k l (.tup [a,b]) ρ=some ((ρ.set k (some a)).set l (some b)):=rfl
@[simp] theorem Zc8 {b c:Bool}:Js (.bl b) (.bl c) h=.ok (.bl (b==c)) h:=rfl
@[simp] theorem Zc9 {b c:Bool}:Gg (.bl b) (.bl c) h=.ok (.bl (!(b==c))) h:=rfl
@[simp] theorem Zda:Js (.int i) (.int j) h=.ok (.bl (i==j)) h:=rfl
@[simp] theorem Zdb:Gg (.int i) (.int j) h=.ok (.bl (!(i==j))) h:=rfl
theorem JF {l:Nat} (e:h[l]?=some (.lst ds)):Cy (.loc l) h=.ok (.tup ds) h:=by simp only [Cy,e]
theorem G5 {l:Nat} (e:h[l]?=some (.lst ds)):Dg (.loc l) h=.ok (.loc l) h:=by simp only [Dg,e]
theorem K6 {l:Nat} (e:h[l]?=some (.lst ds)) (hn:ds.length<sizeLine):Iv (.loc l) a h=.ok .non (h.set l (.lst (ds++[a]))):=by simp only [Iv,e];rw [if_pos hn]
theorem ix_tup {k:Nat} (e:ds[k]?=some a):Au (.tup ds) (.int (k:Nat)) h=.ok a h:=by
 have hk:k<ds.length:=(qa6.mp e).1
 have e1:DB ds ((k:Nat):Int)=some a:=by
  unfold DB Ea
  rw [if_pos (by omega),if_pos (by omega)]
  simpa using e
 simp only [Au,BM,e1]
theorem K7 {n k:Nat} {e:Nat→D} (hk:k<n):Au (.tup ((List.range n).map e)) (.int (k:Nat)) h=.ok (e k) h:=ix_tup (by simp [Kg,hk])
theorem WR {n:Nat} {e:Nat→D} (hk:0<n):Au (.tup ((List.range n).map e)) (.int 0) h=.ok (e 0) h:=K7 (k:=0) hk
@[simp] theorem Zdc:Au (.tup [a,b]) (.int 0) h=.ok a h:=rfl
@[simp] theorem Zdd:Au (.tup [a,b]) (.int 1) h=.ok b h:=rfl
theorem WS {ns:List Int} {k:Nat} (e:ns[k]?=some i):Au (.scr ns) (.int (k:Nat)) h=.ok (.int i) h:=by
 have hk:k<ns.length:=(qa6.mp e).1
 have e1:DB (ns.map D.int) ((k:Nat):Int)=some (.int i):=by
  unfold DB Ea
  rw [if_pos (by omega),if_pos (by simpa using hk)]
  simp [e]
 simp only [Au,BM,e1]
theorem EJ {l k:Nat} (el:h[l]?=some (.lst ds)) (e:ds[k]?=some a):Au (.loc l) (.int (k:Nat)) h=.ok a h:=by
 have hk:k<ds.length:=(qa6.mp e).1
 have e1:DB ds ((k:Nat):Int)=some a:=by
  unfold DB Ea
  rw [if_pos (by omega),if_pos (by omega)]
  simpa using e
 simp only [Au,BM,el,e1]
theorem WT {l k:Nat} {ρ:Ai} (el:h[l]?=some (.lst ds)) (hk:k<ds.length):Iw (.loc l) (.int (k:Nat)) a h (.ok (.nx,ρ) h)=.ok (.nx,ρ) (h.set l (.lst (ds.set k a))):=by
 have:Ea ds.length ((k:Nat):Int)=some k:=by
  unfold Ea
  rw [if_pos (by omega),if_pos (by omega)]
  simp
 simp only [Iw,el,this]
theorem WU {neg:Bool} {k:Nat} {ks:List Nat}:Gh neg (.int (k:Nat)) (.tup (ks.map fun i=>.int ((i:Nat):Int))) h=.ok (.bl (if neg then !ks.contains k else ks.contains k)) h:=by
 have e:A2 ((ks.map fun i=>D.int ((i:Nat):Int)).map CM)=some (ks.map fun i=>V.int ((i:Nat):Int)):=by
  rw [Fe]
  exact JD (f:=CM∘fun i=>D.int ((i:Nat):Int)) (fun x _=>rfl)
 have e2:Ib (V.int ((k:Nat):Int)) (ks.map fun i=>V.int ((i:Nat):Int))=ks.contains k:=by
  unfold Ib
  rw [List.any_map,List.contains_eq_any_beq]
  congr 1
  funext i
  change (((i:Nat):Int)==((k:Nat):Int))=_
  rw [qbE]
  simp
  omega
 simp only [Gh,BM,e,CM,e2]
end
noncomputable def Nr (cs:List (Option Nat)) (it:MI) (sg:MG) (t:MT) (f:ME):ME:=Ah (Aq Cy) (Aa (Bf cs it sg t f) Ad)
noncomputable def QR (cs:List (Option Nat)) (it:MI) (sg:MG) (t:MT) (f:ME):ME:=Ah (Aq DQ) (Aa (Bf cs it sg t f) Ad)
section
variable {α:Type} {cs:List (Option Nat)} {it:MI} {sg:MG} {t:MT} {f:ME} {ρ:Ai} {h:HD} {src:Bi} {xs:List α} {φ:α→D}
@[simp] theorem Zde:Ah (Aq Cy) (Aa (Bf cs it sg t f) Ad) ρ h=Nr cs it sg t f ρ h:=rfl
@[simp] theorem Zdf:Ah (Aq DQ) (Aa (Bf cs it sg t f) Ad) ρ h=QR cs it sg t f ρ h:=rfl
def CA (o:Out (List D×Bi)) (h:HD) (ds:List D) (src:Bi):Prop:=Wp o fun x h'=>x=(ds,src)∧Sm h h'∧∀h2,Sm h' h2→BN src ds h2
theorem JG (b:α→Bool) (ρ1:α→Ai) (hi:CA (it ρ h) h (xs.map φ) src) (hg:∀x∈xs,sg (φ x) (Cz cs ρ)=some (ρ1 x)) (hf:∀x∈xs,∀h',Sm h h'→Pu (f (ρ1 x) h') h' (.bl (b x))) (hn:xs.length≤sizeLine):
 Pu (QR cs it sg Bq f ρ h) h (.bl (xs.all b)):=WN b ρ1 hi hn hg hf
theorem Nt {ds:List D}:CA (BV (Ab 0) (some (.tup ds)::ρ) h) h ds []:=by
 simp [CA,Sm.refl,BN]
end
section
variable {h:HD} {i j:Int}
theorem K8 (h1:-18446744073709551616<j) (h2:j<18446744073709551616):DR (.int i) (.int j) h=.ok (.int (i*j)) h:=by
 have:CMl i j:=.inl (.inr ⟨by omega,by omega⟩)
 simp only [DR];rw [if_pos this]
theorem Nu (h1:-18446744073709551616<i) (h2:i<18446744073709551616):DR (.int i) (.int j) h=.ok (.int (i*j)) h:=by
 have:CMl i j:=.inl (.inl ⟨by omega,by omega⟩)
 simp only [DR];rw [if_pos this]
theorem WV (h1:Builtin.Int.intBits i≤16777216) (h2:Builtin.Int.intBits j≤16777216):DR (.int i) (.int j) h=.ok (.int (i*j)) h:=by
 have:CMl i j:=.inr ⟨h1,h2⟩
 simp only [DR];rw [if_pos this]
theorem G6 (h1:0<j):DF (.int i) (.int j) h=.ok (.int (i % j)) h:=by
 simp only [DF,intD];rw [if_pos h1]
theorem WW (h1:0<j) (h2:j<18446744073709551616):KS (.int i) (.int j) h=.ok (.int (i / j)) h:=by
 have:CDv i j:=⟨h1,h2⟩
 simp only [KS,intD];rw [if_pos this]
theorem WX (h1:0<j) (h2:j<18446744073709551616):Ju (.int i) (.int j) h=.ok (.tup [.int (i / j),.int (i % j)]) h:=by
 have:CDv i j:=⟨h1,h2⟩
 simp only [Ju];rw [if_pos this]
end
theorem QT {α:Type} {o:Out α} {Q:α→HD→Prop}:Wp (noErr o) Q=Wp o Q:=by cases o<;>rfl
theorem Nv {src:Bi} {items:List D} {sg:MG} {t:MT} {f:ME} {ρc:Ai} (φ:Nat→D) (I:HD→Prop) (T:Nat→Bool→Prop) (R:Nat→D→Prop) (ρ1:Nat→Ai) (hs:∀h,I h→BN src items h):
 ∀(xs:List Nat) (h:HD),xs.Nodup→I h→(∀x∈xs,sg (φ x) ρc=some (ρ1 x))→(∀x∈xs,∀h,I h→Wp (t (ρ1 x) h) fun b h1=>T x b∧if b=true then Wp (f (ρ1 x) h1) (fun y h2=>I h2∧R x y) else I h1)→
  Wp (DP src items sg t f ρc (xs.map φ) h) fun ys h'=>I h'∧∃(g:Nat→Bool) (e:Nat→D),ys=(xs.filter g).map e∧(∀x∈xs,g x=true→R x (e x))∧∀x∈xs,T x (g x)
 |[],h,_,i,_,_=>by
  simp only [HW,DP]
  rw [if_pos (hs h i)]
  exact ⟨i,fun _=>true,fun _=>.non,rfl,by simp,by simp⟩
 |x::xs,h,hd,i,hg,ht=>by
  simp only [Cs,DP]
  rw [if_pos (hs h i),hg x A0]
  simp only
  rw [AD,QT]
  rw [qbQ] at hd
  refine Wp.mono (ht x A0 h i) fun b h1 z1_=>?_
  obtain ⟨tb,w⟩:=z1_
  have ih:∀h2,I h2→_:=fun h2 i2=>Nv φ I T R ρ1 hs xs h2 hd.2 i2 (fun y hy=>hg y (A5 _ hy)) (fun y hy=>ht y (A5 _ hy))
  cases b with
  |false=>
   rw [if_neg BH] at w ⊢
   refine Wp.mono (ih h1 w) ?_
   rintro ys h' ⟨i',g,e,ey,hr,tr⟩
   refine ⟨i',fun y=>if y=x then false else g y,e,?_,?_,?_⟩
   ·rw [MB (by simp),ey]
    congr 1
    refine List.filter_congr fun y hy=>?_
    rw [if_neg]
    intro z;subst z;exact hd.1 hy
   ·intro y hy gy
    rcases qa5.mp hy with z |z
    ·subst z;simp at gy
    ·refine hr y z ?_
     by_cases hz:y=x
     ·subst hz;exact absurd z hd.1
     ·simpa [hz] using gy
   ·intro y hy
    by_cases hz:y=x
    ·subst hz;simpa using tb
    ·simp only [if_neg hz]
     exact tr y (by rcases qa5.mp hy with z |z;exact absurd z hz;exact z)
  |true=>
   rw [if_pos rfl] at w ⊢
   rw [AD,QT]
   refine Wp.mono w fun y h2 z3_=>?_
   obtain ⟨i2,ry⟩:=z3_
   rw [AD]
   refine Wp.mono (ih h2 i2) ?_
   rintro ys h' ⟨i',g,e,ey,hr,tr⟩
   refine ⟨i',fun z=>if z=x then true else g z,fun z=>if z=x then y else e z,?_,?_,?_⟩
   ·rw [MC (by simp),Cs,if_pos rfl,ey]
    congr 1
    rw [show xs.filter (fun z=>if z=x then true else g z)=xs.filter g from List.filter_congr fun z hz=>by
     rw [if_neg]
     intro q;subst q;exact hd.1 hz]
    refine GI fun z hz=>?_
    rw [if_neg]
    intro q;subst q;exact hd.1 (List.mem_filter.mp hz).1
   ·intro z hz gz
    by_cases q:z=x
    ·subst q;simpa using ry
    ·rcases qa5.mp hz with w |w
     ·exact absurd w q
     ·simp only [if_neg q] at gz ⊢
      exact hr z w gz
   ·intro z hz
    by_cases q:z=x
    ·subst q;simpa using tb
    ·simp only [if_neg q]
     exact tr z (by rcases qa5.mp hz with w |w;exact absurd w q;exact w)
theorem WY {cs:List (Option Nat)} {it:MI} {sg:MG} {t:MT} {f:ME} {ρ:Ai} {h:HD} {src:Bi} {xs:List Nat} {Q:D→HD→Prop} (φ:Nat→D) (I:HD→Prop) (T:Nat→Bool→Prop) (R:Nat→D→Prop) (ρ1:Nat→Ai) (hi:Wp (it ρ h) fun x h'=>x=(xs.map φ,src)∧I h') (hs:∀h,I h→BN src (xs.map φ) h)
 (hnew:∀h c,I h→I (h++[c])) (hd:xs.Nodup) (hn:xs.length≤sizeLine) (hg:∀x∈xs,sg (φ x) (Cz cs ρ)=some (ρ1 x)) (ht:∀x∈xs,∀h,I h→Wp (t (ρ1 x) h) fun b h1=>T x b∧if b=true then Wp (f (ρ1 x) h1) (fun y h2=>I h2∧R x y) else I h1)
 (q:∀h' (g:Nat→Bool) (e:Nat→D),I h'→(∀x∈xs,g x=true→R x (e x))→(∀x∈xs,T x (g x))→Q (.tup ((xs.filter g).map e)) h'):Wp (Nr cs it sg t f ρ h) Q:=by
 unfold Nr
 rw [JC,G4]
 unfold Bf
 rw [AD]
 refine Wp.mono hi fun x h1 z5_=>?_
 obtain ⟨ex,i1⟩:=z5_
 subst ex
 rw [if_pos (by simpa using hn),AD]
 refine Wp.mono (Nv φ I T R ρ1 hs xs h1 hd i1 hg ht) fun ys h2 z6_=>?_
 obtain ⟨i2,g,e,ey,hr,tr⟩:=z6_
 subst ey
 refine AX ?_ fun l h3 s3 e3 _ eh=>?_
 ·rw [Cb]
  exact BS (MD _ _) hn
 ·rw [Gu]
  simp only [Aq,Cy,e3]
  refine q h3 g e ?_ hr tr
  rw [eh]
  exact hnew _ _ i2
structure PyN (n:Nat) (d:D) (p:PyData):Prop where
 rd:∀k,n≤k→Bv [] k d=some p
 ly:p.canLay0=true
 dp:p.depth≤n
theorem PyN.py {n:Nat} {d:D} {p:PyData} (h:PyN n d p) (hn:n≤8):Py d p:=⟨h.rd 8 hn,by
 unfold SeqAt.shaped
 rw [h.ly]
 have:=h.dp
 simp
 omega⟩
def KD {α:Type}:Sem α→Prop
 |.pure _=>True
 |.raise _=>True
 |.unsupported _=>True
 |.finish _=>True
 |.rule _ k=>KD (k ())
 |.at _ k=>KD (k ())
 |.load _ _ k=>∀o,KD (k o)
 |.update _ _ f k=>(∀o,(f o).dict=o.dict∧(o.isFreed=false→(f o).isFreed=false))∧KD (k ())
 |.loadIfAlive _ k=>∀o,KD (k o)
 |.point _ k=>KD (k ())
 |.register _ _=>True
 |.alloc _ k=>∀a,KD (k a)
 |.fresh k=>∀a,KD (k a)
 |.ask k=>∀a,KD (k a)
 |.choose _ _ k=>∀a,KD (k a)
 |.os _ _ k=>∀a,KD (k a)
 |.call ..=>False
 |.handled _ k=>∀a,KD (k a)
 |.genState _ k=>∀a,KD (k a)
 |.newGen _ k=>∀a,KD (k a)
 |.resume ..=>False
 |.yield ..=>True
 |.stack k=>∀a,KD (k a)
 |.fork ..=>True
 |.thread k=>∀a,KD (k a)
 |.await ..=>True
def Dicts (h h':Heap):Prop:=∀b o,h.get? b=some o→∃o',h'.get? b=some o'∧o'.dict=o.dict
theorem Dicts.refl (h:Heap):Dicts h h:=fun _ o e=>⟨o,e,rfl⟩
theorem Dicts.trans {h h1 h2:Heap} (a:Dicts h h1) (b:Dicts h1 h2):Dicts h h2:=fun c o e=>by
 obtain ⟨o1,e1,d1⟩:=a c o e
 obtain ⟨o2,e2,d2⟩:=b c o1 e1
 exact ⟨o2,e2,d2.trans d1⟩
theorem WZ {α:Type} {M:Model} {Γ:PySem.Ctx} {Q:α→Pos→Shared→Prop} {E:Value→Pos→Shared→Prop}:∀(t:Sem α) (p:Pos) (s:Shared),KD t→Sem.wp M Γ t Q E p s→Sem.wp M Γ t (fun a p s'=>Q a p s'∧Dicts s.heap s'.heap) (fun a p s'=>E a p s'∧Dicts s.heap s'.heap) p s:=by
 have lift:∀(t:Sem α) (p:Pos) (h0:Heap) (s:Shared),Dicts h0 s.heap→Sem.wp M Γ t (fun a p s'=>Q a p s'∧Dicts s.heap s'.heap) (fun a p s'=>E a p s'∧Dicts s.heap s'.heap) p s→Sem.wp M Γ t (fun a p s'=>Q a p s'∧Dicts h0 s'.heap) (fun a p s'=>E a p s'∧Dicts h0 s'.heap) p s:=
  fun t p h0 s d w=>Sem.wp_mono M Γ t (fun a p s' z=>⟨z.1,d.trans z.2⟩) (fun a p s' z=>⟨z.1,d.trans z.2⟩) p s w
 intro t
 induction t with
 |pure a=>exact fun p s _ w=>⟨w,.refl _⟩
 |raise e=>exact fun p s _ w=>⟨w,.refl _⟩
 |unsupported w=>exact fun p s _ w=>w.elim
 |finish w=>exact fun p s _ w=>w.elim
 |rule t k ih=>exact fun p s kd w=>ih () p s kd w
 |«at» t k ih=>exact fun p s kd w=>ih () t s kd w
 |load a x k ih=>exact fun p s kd ⟨o,e,w⟩=>⟨o,e,ih o p s (kd o) w⟩
 |update a x f k ih=>
  refine fun p s kd ⟨e,w⟩=>⟨e,lift _ p s.heap {s with heap:=s.heap.update a f} (fun b o eb=>?_) (ih () p _ kd.2 w)⟩
  by_cases hb:b=a
  ·subst hb
   obtain ⟨d1,d2⟩:=kd.1 o
   exact ⟨f o,IX f eb (d2 (Heap.get?_some_iff.mp eb).2),d1⟩
  ·exact ⟨o,(IW s.heap f (Ne.symm hb)).trans eb,rfl⟩
 |alloc o k ih=>exact fun p s kd w=>lift _ p s.heap {s with heap:=s.heap.push o} (fun b ob eb=>⟨ob,AF _ eb,rfl⟩) (ih _ p {s with heap:=s.heap.push o} (kd _) w)
 |loadIfAlive a k ih=>exact fun p s kd w=>ih _ p s (kd _) w
 |point l k ih=>exact fun p s kd w=>ih () p s kd w
 |register a k ih=>exact fun p s kd w=>w.elim
 |fresh k ih=>exact fun p s kd w=>ih _ p {s with toks:=s.toks+1} (kd _) w
 |ask k ih=>exact fun p s kd w=>ih _ p s (kd _) w
 |choose src n k ih=>exact fun p s kd ⟨z,w⟩=>⟨z,ih _ p {s with drawn:=s.drawn.bump src} (kd _) w⟩
 |os q l k ih=>exact fun p s kd w=>ih _ p {s with os:=(Os.step s.os q).1} (kd _) w
 |call c h g l k ih=>exact fun p s kd w=>kd.elim
 |handled o k ih=>exact fun p s kd w=>ih _ p s (kd _) w
 |newGen c k ih=>exact fun p s kd w=>ih _ p {s with gens:=s.gens.push (.fresh c)} (kd _) w
 |genState g k ih=>exact fun p s kd ⟨st,e,w⟩=>⟨st,e,ih _ p s (kd _) w⟩
 |resume g r l k ih=>exact fun p s kd w=>kd.elim
 |yield v g l k ih=>exact fun p s kd w=>w.elim
 |stack k ih=>exact fun p s kd w=>ih _ p s (kd _) w
 |fork c k ih=>exact fun p s kd w=>w.elim
 |thread k ih=>exact fun p s kd w=>ih _ p s (kd _) w
 |await a t b l k ih=>exact fun p s kd w=>w.elim
theorem JH {α:Type} {M:Model} {A:Around} {t:Sem α} {Q:α→Shared→Prop} {E:Value→Shared→Prop} {s:Shared} (kd:KD t) (h:wpAny M A t Q E s):wpAny M A t (fun a s'=>Q a s'∧Dicts s.heap s'.heap) (fun a s'=>E a s'∧Dicts s.heap s'.heap) s:=
 fun Γ p hΓ=>WZ t p s kd (h Γ p hΓ)
theorem KD.bind {α β:Type} {f:α→Sem β}:∀{t:Sem α},KD t→(∀a,KD (f a))→KD (t >>=f):=by
 intro t
 induction t with
 |pure a=>exact fun _ h=>h a
 |raise e=>exact fun _ _=>True.intro
 |unsupported w=>exact fun _ _=>True.intro
 |finish w=>exact fun _ _=>True.intro
 |rule t k ih=>exact fun kd h=>ih () kd h
 |«at» t k ih=>exact fun kd h=>ih () kd h
 |load a x k ih=>exact fun kd h o=>ih o (kd o) h
 |update a x g k ih=>exact fun kd h=>⟨kd.1,ih () kd.2 h⟩
 |alloc o k ih=>exact fun kd h a=>ih a (kd a) h
 |loadIfAlive a k ih=>exact fun kd h a=>ih a (kd a) h
 |point l k ih=>exact fun kd h=>ih () kd h
 |register a k ih=>exact fun kd h=>True.intro
 |fresh k ih=>exact fun kd h a=>ih a (kd a) h
 |ask k ih=>exact fun kd h a=>ih a (kd a) h
 |choose src n k ih=>exact fun kd h a=>ih a (kd a) h
 |os q l k ih=>exact fun kd h a=>ih a (kd a) h
 |call c h g l k ih=>exact fun kd h=>kd.elim
 |handled o k ih=>exact fun kd h a=>ih a (kd a) h
 |newGen c k ih=>exact fun kd h a=>ih a (kd a) h
 |genState g k ih=>exact fun kd h a=>ih a (kd a) h
 |resume g r l k ih=>exact fun kd h=>kd.elim
 |yield v g l k ih=>exact fun kd h=>True.intro
 |stack k ih=>exact fun kd h a=>ih a (kd a) h
 |fork c k ih=>exact fun kd h=>True.intro
 |thread k ih=>exact fun kd h a=>ih a (kd a) h
 |await a t b l k ih=>exact fun kd h=>True.intro
theorem Gw {α:Type} {c:Prop} [Decidable c] {a b:Sem α} (ha:KD a) (hb:KD b):KD (if c then a else b):=by split<;>assumption
theorem Nw {a:Addr}:KD (load a):=fun _=>True.intro
theorem W0 {f:Array Value→Array Value} (o:Obj):(Obj.mapFields f o).dict=o.dict∧(o.isFreed=false→(Obj.mapFields f o).isFreed=false):=by
 obtain ⟨c,d,dt,sl⟩:=o
 cases dt<;>exact ⟨rfl,fun h=>h⟩
theorem W2 {v:Value}:KD (fieldsOf v):=by
 unfold fieldsOf
 split
 ·exact KD.bind Nw fun o=>by split<;>exact True.intro
 ·exact True.intro
theorem K9 {v:Value} {i:Nat}:KD (field v i):=by
 unfold field
 exact KD.bind W2 fun o=>by split<;>exact True.intro
theorem Nx {v x:Value} {i:Nat}:KD (setField v i x):=by
 unfold setField
 split
 ·unfold updateField
  refine KD.bind Nw fun o=>?_
  split
  ·exact Gw ⟨W0,True.intro⟩ True.intro
  ·exact True.intro
 ·exact True.intro
theorem Ny {v:Value} {o:Option Addr}:KD (setFlight v o):=by
 unfold setFlight
 exact KD.bind K9 fun o=>Gw Nx True.intro
theorem W3 {n:String} {vs:List Value}:KD (newFields n vs):=by
 unfold newFields newObj
 unfold newObjAsIs
 dsimp only
 split
 ·exact True.intro
 ·exact fun a=>True.intro
theorem QU:∀{l:List Env},KD (readyFrames l)
 |[]=>True.intro
 |env::outer=>by
  unfold readyFrames
  split
  ·refine KD.bind Nw fun o=>Gw True.intro (KD.bind ?_ fun b=>KD.bind ?_ fun v=>KD.bind ⟨fun o=>⟨rfl,fun h=>?_⟩,True.intro⟩ fun _=>QU)
   ·unfold behindIsImport
    exact Gw True.intro (Gw True.intro (KD.bind K9 fun _=>True.intro))
   ·unfold keptBack
    split
    ·exact Gw True.intro fun _=>True.intro
    ·exact True.intro
   ·obtain ⟨c,d,dt,sl⟩:=o
    cases dt<;>exact h
  ·exact True.intro
theorem W4 {env:Env}:KD (PySem.frameOf env):=by
 unfold PySem.frameOf
 refine KD.bind (fun _=>True.intro) fun l=>KD.bind ?_ fun o=>?_
 ·unfold frameObject
  split
  ·exact True.intro
  ·exact KD.bind QU fun _=>True.intro
 ·split<;>exact True.intro
theorem W5 {f:Addr} {b:Bool}:KD (entryPlaceOf f b):=by
 unfold entryPlaceOf
 intro l
 show KD (match l.find? _ with |some (_,pos)=>_ |none=>_)
 split<;>exact True.intro
theorem QV {e:Value} {env:Env}:KD (noteFrame e env):=by
 unfold noteFrame
 split
 ·refine KD.bind K9 fun hd=>?_
  have fin:∀f:Addr,KD (do setField e 1 (←EntryCells.newEntry hd (←PySem.frameOf env) .none (rawInt f) .none (←entryPlaceOf f (hd != .none)))):=fun f=>
   KD.bind W4 fun _=>KD.bind W5 fun _=>KD.bind W3 fun _=>Nx
  refine Gw (KD.bind K9 fun x=>Gw True.intro (KD.bind Nx fun _=>?_)) ?_
  ·exact fin _
  ·exact fin _
 ·exact True.intro
theorem QW {e:Value} {env:Env}:KD (leaving env e):=by
 unfold leaving
 exact KD.bind QV fun _=>Ny
open Classical in
noncomputable def blank (p:Addr→Prop) (h:Heap):Heap:=⟨h.objs.mapIdx fun i o=>if p i then {o with data:=.freed} else o,h.life⟩
theorem G7 {p:Addr→Prop} {h:Heap} {b:Addr} (hp:p b):(blank p h).get? b=none:=by
 unfold blank Heap.get?
 simp only [Array.getElem?_mapIdx]
 cases e:h.objs[b]? with
 |none=>rfl
 |some o=>simp [hp]
theorem G8 {p:Addr→Prop} {h:Heap} {b:Addr} (hp:¬p b):(blank p h).get? b=h.get? b:=by
 unfold blank Heap.get?
 simp only [Array.getElem?_mapIdx]
 cases e:h.objs[b]? with
 |none=>rfl
 |some o=>simp [hp]
theorem Nz {p:Addr→Prop} {h:Heap}:(blank p h).StaysIn h:=fun b o e=>by
 by_cases hp:p b
 ·rw [G7 hp] at e;cases e
 ·rw [G8 hp] at e;exact e
inductive La (h0 h:Heap) (H:Hp) (a:Addr) (C:Value) (da:Option Addr):Prop where
 |mk (new:h0.get? a=none) (no:H a=none) (oe:Obj) (vs:Array Value) (a0:Value) (T:Addr) (oT:Obj) (ts:Array Value) (e1:h.get? a=some oe) (e2:oe.cls=C∧vs[0]?=some a0) (e3:oe.data=.fields vs) (e4:vs[1]?=some (.ref T)) (e5:h0.get? T=none) (e6:H T=none) (e7:T≠a) (e8:h.get? T=some oT) (e9:oT.data=.fields ts) (e10:ts[3]?=some .none) (e11:oe.dict=da):La h0 h H a C da
abbrev DS (n:Str):Value:=.str n 0
inductive AE (P:Program) (w:World) (K:PySem.W.Frag) (outer:List Env) (H:Hp) (s:Shared) (E:XK) (e:Value) (s':Shared):Prop where
 |mk (a C:Addr) (n:Str) (da:Option Addr) (H':Hp) (ee:e=.ref a) (os:s'.os=s.os) (bare:AllBare s'.gens) (un:Un (frs outer) [] H H' s.heap s'.heap) (hok:HOk P w H' s'.heap) (fly:La s.heap s'.heap H' a (.ref C) da) (nm:PySem.W.nsIn K mainGlobals n=some (some (.ref C))) (q:E (DS n) da H'):AE P w K outer H s E e s'
theorem Lb {h base:Heap} {p:Addr→Prop}:∀{l:List Env},h.FunFrames base l→(∀b∈frs l,p b)→h.FunFrames (blank p h) l
 |[],_,_=>trivial
 |env::rest,⟨k,⟨L,o,hf,_,ho,hd⟩,r⟩,hp=>⟨k,⟨L,o,hf,G7 (hp L (by unfold frs;rw [F0,hf];exact A0)),ho,hd⟩,
  Lb r fun b hb=>hp b (by
   unfold frs at hb ⊢
   rw [F0,hf]
   exact A5 _ hb)⟩
theorem Lc {P:Program} {w:World} {H:Hp} {h:Heap} {a:Addr} {o:HO} (x:ObjOk P w H h a o):∃ob,h.get? a=some ob:=by
 cases o with
 |lst xs=>obtain ⟨_,_,_,_,e⟩:=x;exact ⟨_,e⟩
 |tup xs=>obtain ⟨_,_,_,⟨_,e,_⟩,_⟩:=x;exact ⟨_,e⟩
 |own y=>exact x
 |xd fs=>obtain ⟨_,⟨_,_,_,e,_⟩,_⟩:=x;exact ⟨_,e⟩
 |frz ob u=>obtain ⟨e,_⟩:=x;exact ⟨_,e⟩
 |tbl ps=>exact ⟨_,x⟩
 |ext φ=>exact x.2.1
 |mex φ=>exact x.2.1
structure Lv (X:Cx) (E:XK):Prop where
 xe:∀e s',wpAny (model X.prog X.w) X.A (leaving X.env e) (fun _ s''=>AE X.prog X.w X.K X.outer X.H₀ X.s₀ E e s'') (fun e' s''=>AE X.prog X.w X.K X.outer X.H₀ X.s₀ E e' s'') s'→X.xe e s'
 stk:X.stack=X.env::X.outer
 fr:X.env.frame=some X.env.locals
 ex:X.ex=[]
theorem G9 {P:Program} {w:World} {K:PySem.W.Frag} {mg:Str→Option Value} {base:Heap} {N:List Str} {qual:Str} {scope:Scope} {f:Addr} {cd:Value} {A:Around} {outer:List Env} {s:Shared} {H:Hp} {E:XK}:Lv (AW (AE P w K) P w K mg base N qual scope f cd A outer s H E) E:=
 ⟨fun _ _ h=>h,rfl,rfl,rfl⟩
section
variable {X:Cx} {E:XK}
theorem Lv.frs (lv:Lv X E):L2.frs X.stack=X.env.locals::X.fs:=by
 rw [lv.stk];unfold L2.frs;rw [F0,lv.fr];rfl
theorem QX {pins:List (Addr×Obj)} {σ:L2.St} {H':Hp} {s':Shared} {h':Heap} {a T:Addr} {C:Value} (lv:Lv X E)
 (I:Inv X pins σ H' s')
 (na:X.s₀.heap.get? a=none) (nT:X.s₀.heap.get? T=none) (ha:H' a=none) (hT:H' T=none) {a0:Value}
 (L:Heap.LeftW (blank (fun b=>b=a∨b=T∨b∈frs X.stack) s'.heap) X.stack a C a0 s'.heap h') {da:Option Addr} {oa:Obj} (ea:s'.heap.get? a=some oa) (ed:oa.dict=da) (dd:Dicts s'.heap h'):
 Un X.fs [] X.H₀ H' X.s₀.heap h'∧HOk X.prog X.w H' h'∧La X.s₀.heap h' H' a C da:=by
 obtain ⟨stay,ff,⟨oe,vs,T2,oT,ts,e1,e2,e3,e4,e5,e6,e7,e8,e9⟩,ups⟩:=L
 have e11:oe.dict=da:=by
  obtain ⟨o',q1,q2⟩:=dd a oa ea
  rw [e1] at q1
  cases q1
  exact q2.trans ed
 have B:Un X.fs [] X.H₀ H' X.s₀.heap s'.heap:=by have:=I.base;rw [lv.ex] at this;exact this
 have stk:=I.stack
 have frNone:∀b∈frs X.stack,H' b=none:=fun b hb=>I.stkFree b hb
 have keepOf:∀b o,¬(b=a∨b=T∨b∈frs X.stack)→s'.heap.get? b=some o→h'.get? b=some o:=fun b o hb e=>stay b o (by rw [G8 hb];exact e)
 have notL:∀b o,X.s₀.heap.get? b=some o→b∉X.fs→b∉frs X.stack:=fun b o e hb z=>by
  rw [lv.frs] at z
  rcases qa5.mp z with z |z
  ·have:=AG e
   rw [z] at this
   exact absurd (Bb this I.ok.above) (Dp _)
  ·exact hb z
 have old:∀b o,X.s₀.heap.get? b=some o→b≠a∧b≠T:=fun b o e=>⟨fun z=>(by rw [z,na] at e;cases e),fun z=>(by rw [z,nT] at e;cases e)⟩
 have noFields:∀b,b∈frs X.stack→∃o,s'.heap.get? b=some o∧∀vs,o.data≠.fields vs:=fun b hb=>(stk.mem hb).2
 have any:∀b o,X.s₀.heap.get? b=some o→s'.heap.get? b≠none→∃o',h'.get? b=some o':=fun b o e hn=>by
  cases e':s'.heap.get? b with
  |none=>exact absurd e' hn
  |some o'=>
   by_cases hb:b∈frs X.stack
   ·obtain ⟨o2,h2,d2⟩:=noFields b hb
    obtain ⟨sl,h3⟩:=ups b o2 h2 d2
    exact ⟨_,h3⟩
   ·exact ⟨o',keepOf b o' (fun z=>by rcases z with z |z |z;exact (old b o e).1 z;exact (old b o e).2 z;exact hb z) e'⟩
 refine ⟨⟨fun b o e n hb hx=>?_,fun b o e n hb hx=>?_,B.free,fun b o e hx=>?_,B.tups,B.frzs,B.tbls⟩,fun b o e=>?_,na,ha,oe,vs,a0,T2,oT,ts,e1,e2,e3,e4,?_,?_,e6,e7,e8,e9,e11⟩
 ·exact keepOf b o (fun z=>by rcases z with z |z |z;exact (old b o e).1 z;exact (old b o e).2 z;exact notL b o e hb z) (B.keep b o e n hb hx)
 ·obtain ⟨sl,h1⟩:=B.slot b o e n hb hx
  have hb':b∈frs X.stack:=by rw [lv.frs];exact A5 _ hb
  obtain ⟨o2,h2,d2⟩:=noFields b hb'
  rw [h1] at h2
  cases h2
  obtain ⟨sl2,h3⟩:=ups b _ h1 d2
  exact ⟨sl2,h3⟩
 ·obtain ⟨o',h1⟩:=B.there b o e hx
  exact any b o e (by rw [h1];simp)
 ·refine (I.hok b o e).stay (fun c u hc q=>keepOf c u (fun z=>?_) q) (fun _ q=>q) fun _ _ q=>q
  have hc':H' c≠none:=by
   rcases hc with rfl |hc
   ·rw [e];simp
   ·rw [hc];simp
  rcases z with z |z |z
  ·exact hc' (z ▸ ha)
  ·exact hc' (z ▸ hT)
  ·exact hc' (frNone c z)
 ·cases q:X.s₀.heap.get? T2 with
  |none=>rfl
  |some o=>
   exfalso
   obtain ⟨o',h1⟩:=B.there T2 o q (by simp)
   by_cases hb:T2∈frs X.stack
   ·obtain ⟨o2,h2,d2⟩:=noFields T2 hb
    obtain ⟨sl,h3⟩:=ups T2 o2 h2 d2
    rw [h3] at e7
    cases e7
    exact d2 _ e8
   ·rw [G8 (fun z=>by rcases z with z |z |z;exact (old T2 o q).1 z;exact (old T2 o q).2 z;exact hb z),h1] at e5
    cases e5
 ·cases q:H' T2 with
  |none=>rfl
  |some o=>
   exfalso
   by_cases hb:T2=a∨T2=T∨T2∈frs X.stack
   ·rcases hb with z |z |z
    ·rw [z,ha] at q;cases q
    ·rw [z,hT] at q;cases q
    ·rw [frNone T2 z] at q;cases q
   ·rw [G8 hb] at e5
    obtain ⟨ob,eb⟩:=Lc (I.hok T2 o q)
    rw [eb] at e5
    cases e5
theorem Lv.older (lv:Lv X E) {pins:List (Addr×Obj)} {σ:L2.St} {H1:Hp} {s1:Shared} (I:Inv X pins σ H1 s1):∀b,s1.heap.get? b=none→X.s₀.heap.get? b=none:=fun b hb=>by
 cases q:X.s₀.heap.get? b with
 |none=>rfl
 |some o=>
  obtain ⟨o',h1⟩:=I.base.there b o q (by rw [lv.ex];simp)
  rw [hb] at h1;cases h1
theorem NA (lv:Lv X E):GP (AE X.prog X.w X.K) X E:=by
 rintro pins σ H1 s1 e s' I ⟨a,C,n,da,H',ee,os,bare,un,hok,fly,nm,q⟩
 subst ee
 have I':Inv X pins σ H' s':=I.call' os un hok bare (fun b hb=>absurd hb (by simp))
 obtain ⟨fnew,fno,oe,vs,a0,T,oT,ts,e1,e2,e3,e4,e5,e6,e7,e8,e9,e10,e11⟩:=fly
 have fro:X.A.frames=some (X.env::X.outer):=by rw [←lv.stk];exact I'.ok.frames
 have stk:s'.heap.FunFrames X.base (X.env::X.outer):=by have:=I'.stack;rw [lv.stk] at this;exact this
 have run:=JH QW (wpAny_leaving_nextW (M:=model X.prog X.w) (E:=fun _ _=>False) (Q:=fun _ s''=>∃h',s''={s' with heap:=h'}∧Heap.LeftW (blank (fun b=>b=a∨b=T∨b∈frs X.stack) s'.heap) (X.env::X.outer) a (.ref C) a0 s'.heap h') (base:=blank (fun b=>b=a∨b=T∨b∈frs X.stack) s'.heap) (cls:=.ref C) (a0:=a0) fro (Lb stk fun b hb=>.inr (.inr (by rw [lv.stk];exact hb))) lv.fr
  ⟨oe,vs,T,oT,ts,e1,e2,e3,e4,G7 (.inr (.inl rfl)),e7,e8,e9,e10⟩ Nz (G7 (.inl rfl)) fun h' L=>⟨h',rfl,L⟩)
 refine lv.xe _ _ (wpAny_mono run (fun _ s'' z=>?_) fun _ _ z=>z.1.elim)
 obtain ⟨⟨h',rfl,L⟩,D⟩:=z
 obtain ⟨u1,u2,u3⟩:=QX lv I' (lv.older I a fnew) (lv.older I T e5) fno e6 (by rw [lv.stk] at *;exact L) e1 e11 D
 exact ⟨a,C,n,da,H',rfl,I'.os,bare,u1,u2,u3,nm,q⟩
theorem QY (lv:Lv X E) {pins:List (Addr×Obj)} {σ:L2.St} {H1:Hp} {s1:Shared} {a C:Addr} {n:Str} {da:Option Addr} {oe:Obj} {vs:Array Value} {a0:Value} (I':Inv X pins σ H1 s1)
 (e1:s1.heap.get? a=some oe) (ec:oe.cls=.ref C) (e3:oe.data=.fields vs) (v0:vs[0]?=some a0) (v1:vs[1]?=some .none) (ed:oe.dict=da) (new:X.s₀.heap.get? a=none) (fresh:H1 a=none) (nm:PySem.W.nsIn X.K mainGlobals n=some (some (.ref C))) (q:E (DS n) da H1):X.xe (.ref a) s1:=by
 have fro:X.A.frames=some (X.env::X.outer):=by rw [←lv.stk];exact I'.ok.frames
 have stk:s1.heap.FunFrames X.base (X.env::X.outer):=by have:=I'.stack;rw [lv.stk] at this;exact this
 have run:=JH QW (wpAny_leaving_firstW (M:=model X.prog X.w) (E:=fun _ _=>False) (Q:=fun _ s''=>∃h',s''={s1 with heap:=h'}∧Heap.LeftW (blank (fun b=>b=a∨b=a∨b∈frs X.stack) s1.heap) (X.env::X.outer) a oe.cls a0 s1.heap h') (base:=blank (fun b=>b=a∨b=a∨b∈frs X.stack) s1.heap) (a0:=a0) fro (Lb stk fun b hb=>.inr (.inr (by rw [lv.stk];exact hb))) lv.fr
  e1 Nz (G7 (.inl rfl)) e3 v1 v0 fun h2 L=>⟨h2,rfl,L⟩)
 refine lv.xe _ _ (wpAny_mono run (fun _ s'' z=>?_) fun _ _ z=>z.1.elim)
 obtain ⟨⟨h',rfl,L⟩,D⟩:=z
 obtain ⟨u1,u2,u3⟩:=QX lv I' new new fresh fresh (by rw [lv.stk] at *;exact L) e1 ed D
 rw [ec] at u3
 exact ⟨a,C,n,da,H1,rfl,I'.os,I'.bare,u1,u2,u3,nm,q⟩
theorem W6 (lv:Lv X E) {pins:List (Addr×Obj)} {σ:L2.St} {H1:Hp} {s1:Shared} {h':Heap} {a C:Addr} {n:Str} {vs:List Value} (I:Inv X pins σ H1 s1)
 (m:Heap.MadeExcOf s1.heap h' a (.ref C) vs) (nm:PySem.W.nsIn X.K mainGlobals n=some (some (.ref C))) (q:E (DS n) none H1):X.xe (.ref a) {s1 with heap:=h'}:=by
 have I':Inv X pins σ H1 {s1 with heap:=h'}:=I.kept m.keeps
 obtain ⟨t,e1,e2,e3⟩:=m.there
 have fresh:H1 a=none:=by
  cases q:H1 a with
  |none=>rfl
  |some o=>
   obtain ⟨ob,eb⟩:=Lc (I.hok a o q)
   rw [m.new] at eb;cases eb
 exact QY lv I' e1 rfl rfl rfl rfl rfl (lv.older I a m.new) fresh nm q
end
section
variable {P:Program} {w:World} {K:PySem.W.Frag} {mg:Str→Option Value} {base:Heap} {N:List Str} {qual:Str} {scope:Scope} {f:Addr} {cd:Value} {A:Around} {outer:List Env} {s:Shared} {H:Hp} {E:XK}
theorem A1:GP (AE P w K) (AW (AE P w K) P w K mg base N qual scope f cd A outer s H E) E:=NA G9
theorem W7 {pins:List (Addr×Obj)} {σ:L2.St} {H1:Hp} {s1:Shared} {h':Heap} {a C:Addr} {n:Str} {vs:List Value} (I:Inv (AW (AE P w K) P w K mg base N qual scope f cd A outer s H E) pins σ H1 s1)
 (m:Heap.MadeExcOf s1.heap h' a (.ref C) vs) (nm:PySem.W.nsIn K mainGlobals n=some (some (.ref C))) (q:E (DS n) none H1):(AW (AE P w K) P w K mg base N qual scope f cd A outer s H E).xe (.ref a) {s1 with heap:=h'}:=W6 G9 I m nm q
end
inductive QZ (h:Heap) (C:Addr) (bmB:List Value) (newId:String):Prop where
 |mk (bm:List Value) (N:Addr) (nm q:Str) (bs:List Value) (hdct:Bool) (sn:List Str) (sub:List Value) (ab:Bool) (col:Option Bool) (dd:Option Addr) (k0 k1 k2 k3 k5:Option Value) (mN:Str→Option Value)
  (hC:h.get? C=some (excClassObj nm q C N bs bm hdct sn sub ab col dd k0 k1 k2 k3 k5 newId)) (hN:h.Ns N mN) (hni:mN "__init__"=none) (T:OwnTail h bmB bm):QZ h C bmB newId
def NB (K:PySem.W.Frag) (C:Addr) (bmB:List Value) (newId:String):Prop:=∀h:Heap,K.In h→QZ h C bmB newId
def clsOf:Data→Option ClassData
 |.cls c=>some c
 |_=>none
theorem NC {d:Data} {c:ClassData} (h:clsOf d=some c):d=.cls c:=by
 cases d<;>first |(cases h;rfl) |cases h
inductive Q0 {α:Type} (l:List α):Prop where
 |mk (a b c d e f:α) (q:l=[a,b,c,d,e,f]):Q0 l
theorem Q1 {α:Type} {l:List α} (h:l.length=6):Q0 l:=by
 cases l with
 |nil=>cases h
 |cons a l=>cases l with
  |nil=>cases h
  |cons b l=>cases l with
   |nil=>cases h
   |cons c l=>cases l with
    |nil=>cases h
    |cons d l=>cases l with
     |nil=>cases h
     |cons e l=>cases l with
      |nil=>cases h
      |cons f l=>cases l with
       |nil=>exact ⟨a,b,c,d,e,f,rfl⟩
       |cons g l=>cases h
def Ld (K:PySem.W.Frag) (C:Addr) (bmB:List Value) (newId:String) (o:Obj) (cd:ClassData):Bool:=
 decide (o.cls=.type "type")&&(decide (cd.mro=.ref C::cd.mro.tail)&&(!cd.hasDel&&(PySem.W.tailIn K bmB cd.mro.tail&&(PySem.W.nsOkIn K cd.ns&&(PySem.W.nsIn K cd.ns "__init__"==some none&&(decide (o.slots.toList.length=6)&&decide (o.slots.toList[4]?=some (some (.builtin newId)))))))))
def ND (K:PySem.W.Frag) (C:Addr) (bmB:List Value) (newId:String):Bool:=match K.lookup C with
 |some o=>(match clsOf o.data with
  |some cd=>Ld K C bmB newId o cd
  |none=>false)
 |none=>false
theorem W8 {K:PySem.W.Frag} {C:Addr} {bmB:List Value} {newId:String} (q:ND K C bmB newId=true):NB K C bmB newId:=by
 intro h X
 unfold ND at q
 cases lk:K.lookup C with
 |none=>rw [lk] at q;cases q
 |some o=>
  rw [lk] at q
  replace q:(match clsOf o.data with |some cd=>Ld K C bmB newId o cd |none=>false)=true:=q
  cases ec:clsOf o.data with
  |none=>rw [ec] at q;cases q
  |some cd=>
   rw [ec] at q
   replace q:Ld K C bmB newId o cd=true:=q
   unfold Ld at q
   simp only [BR,decide_eq_true_eq,Bool.not_eq_true',beq_iff_eq] at q
   obtain ⟨e1,e2,e3,e4,e5,e6,e7,e8⟩:=q
   obtain ⟨cls,od,dt,⟨sl⟩⟩:=o
   obtain ⟨nm,bs,mro,ns,qn,hd,sn,sub,ab,col,del⟩:=cd
   replace ec:=NC ec
   simp only at ec e1 e2 e3 e4 e5 e6 e7 e8
   obtain ⟨k0,k1,k2,k3,k4,k5,rfl⟩:=Q1 e7
   cases mro with
   |nil=>cases e2
   |cons c bm=>
    cases e2
    cases Option.some.inj e8
    subst ec e1 e3
    exact ⟨_,_,_,_,_,_,_,_,_,_,_,_,_,_,_,_,h.nsMap ns,X _ _ lk,.of_isNs (PySem.W.isNs_of_in X e5),PySem.W.nsMap_none_of_in X e5 e6,PySem.W.tail_of_in X e4⟩
abbrev JI:List Value:=[.type "ValueError",.type "Exception",.type "BaseException",.type "object"]
def NF (X:Cx) (E:XK):Prop:=∀(pins:List (Addr×Obj)) (σ:L2.St) (H1:Hp) (s1:Shared) (h':Heap) (a C:Addr) (n:Str) (vs:List Value),Inv X pins σ H1 s1→Heap.MadeExcOf s1.heap h' a (.ref C) vs→PySem.W.nsIn X.K mainGlobals n=some (some (.ref C))→E (DS n) none H1→X.xe (.ref a) {s1 with heap:=h'}
theorem Q2 {P:Program} {w:World} {K:PySem.W.Frag} {mg:Str→Option Value} {base:Heap} {N:List Str} {qual:Str} {scope:Scope} {f:Addr} {cd:Value} {A:Around} {outer:List Env} {s:Shared} {H:Hp} {E:XK}:
 NF (AW (AE P w K) P w K mg base N qual scope f cd A outer s H E) E:=fun pins σ H1 s1 h' a C n vs I m nm q=>W7 I m nm q
section
variable {X:Cx} {E:XK}
def IA (n:Str) (fa:MA):MS:=fun ρ h=>(fa ρ h).bind fun xs h1=>if xs.length≤sizeLine then .err (DS n) [] h1 else .stuck
theorem W9 {x:Str} {C:Addr} {e:Expr} {es:List Expr} {fa:MA} {np cpos pos:Pos} (O:NB X.K C JI "ValueError.__new__") (nmC:PySem.W.nsIn X.K mainGlobals x=some (some (.ref C))) (hg:Gl X x) (hc:X.calm=true) (th:NF X E) (ha:Ct X E (e::es) fa)
 (hdb:(x==("__debug__":Str))=false:=by decide) (he:starEach (e::es) X.env=(false,eval e X.env)::starEach es X.env:=by rfl) (hpl:(backTo cpos (starEach (e::es) X.env)).any (·.1)=false:=by rfl):
 Ex X E (.Raise (some (.Call (.Name x np) (e::es) [] cpos)) none pos) (IA x fa):=by
 rintro pins s σ H D I ⟨m,ρ,h,hr,er,p⟩
 have hm:X.mg x=some (.ref C):=PySem.W.mg_of I.mod.kin I.mod.glob nmC
 obtain ⟨bm,NN,nm,q,bs,hdct,sn,sub,ab,col,dd,k0,k1,k2,k3,k5,mN,hC,hN,hni,T⟩:=O X.base I.mod.kin
 refine wpAny_Raise_call_subT (C:=C) (nm:=nm) (q:=q) (N:=NN) (bs:=bs) (bm:=bm) (hdct:=hdct) (sn:=sn) (sub:=sub) (ab:=ab) (col:=col) (dd:=dd) (k0:=k0) (k1:=k1) (k2:=k2) (k3:=k3) (k5:=k5)
  PySem.F.excBase_ValueError (mN:=mN) (T.hasType PySem.F.excBase_ValueError.hasBase) (I.ok.hd hc) hpl hni (F6 I hg hm ⟨rfl,?_⟩ hdb)
 have hh:=ha cpos pins s σ H (fun vs H1=>vs.length≤sizeLine∧E (DS x) none H1) I ⟨m,ρ,h,hr,er,PostS.bind p fun xs h1 vs m1 H1 _ p1 k1 hr1 r1 q1=>by
  split at q1
  ·rename_i hz
   exact ⟨by rw [←DVs.len r1];exact hz,q1 none m1 H1 (AJ _) (.refl _) hr1 (fun f d z=>by cases z)⟩
  ·exact q1.elim⟩
 rw [he] at hh ⊢
 exact Calls.evalArgs_plain (Az hh fun us s1 z1_=>by obtain ⟨vs,H1,I1,r,hl,q1⟩:=z1_;exact (⟨rfl,by rw [←r.length];exact hl,I1.bk _ _ hC,hN.keeps I1.bk,T.keeps I1.bk,fun h' a z=>th pins σ H1 s1 h' a C x us I1 z nmC q1⟩))
inductive FN (K:PySem.W.Frag) (F:List D→HD→Out D) (vs:List V) (H:Hp) (Q:VK) (E:XK):Prop where
 |mk (m:List Addr) (ds:List D) (h:HD) (hr:HR K m h H) (r:DVs K m H ds vs) (p:Post K (rD K) m H E Q (F ds h)):FN K F vs H Q E
theorem Ha {P:Program} {w:World} {K:PySem.W.Frag} {X:Cx}:GP (AE P w K) X E0:=fun _ _ _ _ _ _ _ z2_=>by obtain ⟨_,_,_,_,_,_,_,_,_,_,_,_,q⟩:=z2_;exact (q.elim)
theorem Le {K:PySem.W.Frag} {n:Nat} {F:List D→HD→Out D} (ar:Ar n F) {vs:List V} {H:Hp} {Q:VK} {E':XK} (h:FN K F vs H Q E'):vs.length=n:=by
 obtain ⟨m,ds,hd,hr,r,p⟩:=h
 rw [←r.len]
 by_cases e:ds.length=n
 ·exact e
 ·rw [ar ds hd e] at p;exact p.elim
structure CaE (P:Program) (w:World) (K:PySem.W.Frag) (mg:Str→Option Value) (base:Heap) (x:Str) (k:Nat) (F:List D→HD→Out D):Prop where
 ex:∃(f:Addr) (fd:FuncData) (ps:List Str),FnOk P w K mg base (AE P w K) k f fd ps (FN K F)∧Binds K fd ps []∧mg x=some (.ref f)∧PySem.W.keepIn K (.ref f)=true
theorem AQ {k k':Nat} {F:List D→HD→Out D} {fa:MA} {x:Str} {p pos:Pos} {e:Expr} {es:List Expr} (C:CaE X.prog X.w X.K X.mg X.base x k F) (hr:Room k' X.A) (hx:GP (AE X.prog X.w X.K) X E) (ha:Ct X E (e::es) fa) (hk:k≤k':=by decide) (hg:Gl X x:=by rfl)
 (hdb:(x==("__debug__":Str))=false:=by decide) (he:starEach (e::es) X.env=(false,eval e X.env)::starEach es X.env:=by rfl) (hpl:(backTo pos (starEach es X.env)).any (·.1)=false:=by rfl):
 Ev X E (.Call (.Name x p) (e::es) [] pos) (Ah F fa):=by
 obtain ⟨f,fd,ps,G,hb,hm,hkp⟩:=C.ex
 exact Ck (Vj (E:=E) G (hr.mono hk) hg hm hkp hb .nil hx ha hdb he hpl) fun σ H Q z3_=>by obtain ⟨m,ρ,hd,hr,er,p⟩:=z3_;exact (⟨m,ρ,hd,hr,er,Post.bind p fun xs h1 vs m1 H1 e1 p1 k1 hr1 r1 q1=>by
  rw [Fd]
  exact ⟨m1,xs,h1,hr1,r1,q1⟩⟩)
theorem BP {P:Program} {w:World} {K:PySem.W.Frag} {mg:Str→Option Value} {base:Heap} {x qual:Str} {st:Stmt} {f:Addr} {fd:FuncData} {N ps:List Str} {k:Nat} {F:List D→HD→Out D} {g:MS} (Fn:Fun K x qual st f fd) (S:Bg N ps (defScope st)) (ar:Ar ps.length F)
 (hg:∀ds h,ds.length=ps.length→F ds h=AA N.length g ds h)
 (hbody:∀(cdv:Value) (A:Around) (outer:List Env) (s:Shared) (H:Hp) (E:XK),Room k (A.deeper (envOfC qual (defScope st) s.heap.objs.size f cdv))→A8 (AW (AE P w K) P w K mg base N qual (defScope st) f cdv A outer s H E) E (defBody st) g):FnOk P w K mg base (AE P w K) (k+1) f fd ps (FN K F):=by
 obtain ⟨oc,od,kV,doc,pm,an,cdv,ct,osl,rfl,lk,hcd⟩:=Fn.ex
 refine M3 lk hcd S (fun vs H Q E h=>Le ar h) fun A outer s H vs Q E hr h=>?_
 refine ⟨_,hbody cdv A outer s H E hr,?_⟩
 have hl:=Le ar h
 obtain ⟨m,ds,hd,hr1,r,p⟩:=h
 have hld:ds.length=ps.length:=by rw [r.len];exact hl
 refine ⟨m,ds.map some++List.replicate (N.length - ds.length) none,hd,hr1,ER.start r,?_⟩
 rw [hg ds hd hld] at p
 unfold AA at p
 cases o:g (ds.map some++List.replicate (N.length - ds.length) none) hd with
 |stuck=>rw [o] at p;exact p
 |err C fs h1=>rw [o] at p;exact p
 |ok a h1=>
  rw [o] at p
  obtain ⟨fl,ρ1⟩:=a
  intro m1 H1 p1 k1 hr1
  cases fl with
  |nx=>exact fun σ er=>p .non m1 H1 p1 k1 hr1 (by simp [rD,DV])
  |bk=>exact False.elim p
  |ct=>exact False.elim p
  |rt d=>exact fun v rv=>p v m1 H1 p1 k1 hr1 rv
end
theorem DT {P:Program} {w:World} {K:PySem.W.Frag} {mg:Str→Option Value} {base:Heap} {N:List Str} {qual:Str} {scope:Scope} {f:Addr} {cd:Value} {A:Around} {outer:List Env} {s:Shared} {H:Hp} {E:XK}:
 PassesOwn (model P w) (AW (AE P w K) P w K mg base N qual scope f cd A outer s H E).A (AW (AE P w K) P w K mg base N qual scope f cd A outer s H E).env (AW (AE P w K) P w K mg base N qual scope f cd A outer s H E).xe:=by
 passes_own
section
variable {X:Cx} {E:XK}
abbrev MO:=Ai→HD→Out (Option Int)
abbrev Lf (X:Cx) (E:XK) (e:Option Expr) (f:MO):Prop:=PO X e (tM X.K (fun _ _ a b=>a=b) E f)
def BF:MO:=fun _ h=>.ok none h
def BA (f:ME):MO:=fun ρ h=>(f ρ h).bind fun x h1=>match x with
 |.int i=>.ok (some i) h1
 |_=>.stuck
theorem Q3 {e:Option Expr} {t t':TO} (h:PO X e t) (i:∀σ H Q,t' σ H Q→t σ H Q):PO X e t':=fun pins s σ H Q I q=>h pins s σ H Q I (i σ H Q q)
theorem CP:Lf X E none BF:=Q3 Vy fun σ H Q z1_=>by obtain ⟨m,ρ,h,hr,er,p⟩:=z1_;exact (p none m H (AJ _) (.refl _) hr rfl)
theorem CQ {e:Expr} {f:ME} (he:Ev X E e f):Lf X E (some e) (BA f):=Q3 (Vz he) fun σ H Q z2_=>by obtain ⟨m,ρ,h,hr,er,p⟩:=z2_;exact (⟨m,ρ,h,hr,er,Post.bind p fun x h1 v m1 H1 eo p1 k1 hr1 r1 q1=>by
 clear eo
 split at q1
 ·rename_i i
  simp only [rD,DV] at r1
  exact ⟨i,r1,q1 (some i) m1 H1 (AJ _) (.refl _) hr1 rfl⟩
 ·exact q1.elim⟩)
def cutD (xs:List D) (lo hi:Option Int):List D:=(xs.drop (HT.sIx xs.length 0 lo)).take (HT.sIx xs.length xs.length hi - HT.sIx xs.length 0 lo)
def Q4 (x:D) (lo hi:Option Int) (h:HD):Out D:=match x with
 |.tup xs=>if HT.sIx xs.length 0 lo=0∧HT.sIx xs.length xs.length hi=xs.length then .stuck else .ok (.tup (cutD xs lo hi)) h
 |_=>.stuck
def Q5 (f:ME) (lo hi:MO):ME:=fun ρ h=>(f ρ h).bind fun x h1=>(lo ρ h1).bind fun l h2=>(hi ρ h2).bind fun u h3=>Q4 x l u h3
theorem DVs.cut {K:PySem.W.Frag} {m:List Addr} {H:Hp} {ds:List D} {vs:List V} (r:DVs K m H ds vs) (lo hi:Option Int):DVs K m H (cutD ds lo hi) (Ia vs lo hi):=by
 unfold cutD Ia
 rw [r.len]
 exact (r.drop _).take _
def Q6 (o i x y:D) (ρ:Ai) (h:HD):Out (Fl×Ai):=match x,y with
 |.int a,.int b=>Iw o i (.int (a+b)) h (.ok (.nx,ρ) h)
 |_,_=>.stuck
def Q7 (o i:D) (h:HD):Out D:=match o,i with
 |.loc l,.int n=>if 0≤n then (match h[l]? with
  |some (.lst ds)=>(match ds[n.toNat]? with
   |some d=>.ok d h
   |none=>.stuck)
  |_=>.stuck) else .stuck
 |_,_=>.stuck
def Q8 (fo fi fv:ME):MS:=fun ρ h=>(fo ρ h).bind fun o h1=>(fi ρ h1).bind fun i h2=>(Q7 o i h2).bind fun x h3=>(fv ρ h3).bind fun y h4=>Q6 o i x y ρ h4
end
theorem vals_ints:∀{ns:List Int} {its:List Value},Vals (ns.map V.int) its→∃ys:List (Int×Tok),its=ys.map (fun p=>Value.int p.1 p.2)∧ys.map (·.1)=ns
 |[],its,r=>by cases r;exact ⟨[],rfl,rfl⟩
 |n::ns,its,r=>by
  cases r with
  |cons r1 r2=>
   obtain ⟨t,rfl⟩:=r1
   obtain ⟨ys,rfl,e⟩:=vals_ints r2
   exact ⟨(n,t)::ys,rfl,by simp [e]⟩
section
variable {X:Cx}
theorem Xa (hc:X.calm=true):DA X (.builtin "min") (fun xs H Q=>∃(p:Addr) (ns:List Int),xs=[.ref p]∧SqL X.K H p (ns.map V.int)∧ns≠[]∧∀M,M∈ns→(∀a∈ns,M≤a)→Q (.int M) H):=by
 intro pins s σ H xs us Q I r h
 obtain ⟨p,ns,rfl,hs,hne,q⟩:=h
 obtain ⟨u,rfl,rx⟩:=Es r
 cases rx
 obtain ⟨its,rv,pl,hz⟩:=I.list hs
 obtain ⟨ys,rfl,en⟩:=vals_ints rv
 have hlen:ys.length=ns.length:=by rw [←en];simp
 have hpos:0<ys.length:=by rw [hlen];exact List.length_pos_iff.mpr hne
 have hl:s.heap.IsList p (intItems ys.toArray):=by
  have:=pl.isList
  simpa [intItems] using this
 refine min_intList (I.ok.hd hc) hl (by simpa using hpos) fun v h' tk hv hk=>?_
 obtain ⟨t,rfl⟩:=intItems_at hv
 obtain ⟨h1,h2⟩:=argBest_lt (numAt ys.toArray) (ys.toArray.size - 1)
 have hsz:ys.toArray.size=ys.length:=by simp
 have at':∀j,j<ys.length→numAt ys.toArray j∈ns:=fun j hj=>by
  rw [numAt_eq]
  simp only [E9]
  rw [←en,A6 (by simpa using hj)]
  simp only [Option.getD_some]
  exact F5 _
 refine ⟨.int (numAt ys.toArray (argBest _ (ys.toArray.size - 1))),H,I.kept hk,⟨t,rfl⟩,q _ (at' _ (by omega)) fun a ha=>?_⟩
 rw [←en] at ha
 obtain ⟨j,hj,rfl⟩:=Kf ha
 have hj':j<ys.length:=by simpa using hj
 have:=h2 j (by omega)
 rw [numAt_eq ys.toArray j] at this
 simpa [E9,A6 hj'] using this
def DU:List Int→Int
 |[]=>0
 |n::ns=>ns.foldl min n
theorem NG:∀(ns:List Int) (n:Int),(ns.foldl min n∈n::ns)∧∀a∈n::ns,ns.foldl min n≤a
 |[],n=>by simp
 |m::ns,n=>by
  obtain ⟨h1,h2⟩:=NG ns (min n m)
  rw [List.foldl_cons]
  refine ⟨?_,fun a ha=>?_⟩
  ·rcases qa5.mp h1 with z |z
   ·rw [z]
    rcases Int.le_total n m with q |q
    ·rw [Int.min_eq_left q];simp
    ·rw [Int.min_eq_right q];simp
   ·exact A5 _ (A5 _ z)
  ·have h0:=h2 (min n m) A0
   rcases qa5.mp ha with z |z
   ·subst z;omega
   ·rcases qa5.mp z with z |z
    ·subst z;omega
    ·exact h2 a (A5 _ z)
theorem Lg {ns:List Int} (h:ns≠[]):DU ns∈ns:=by
 cases ns with
 |nil=>exact absurd rfl h
 |cons n ns=>exact (NG ns n).1
theorem NH {ns:List Int} {a:Int} (h:a∈ns):DU ns≤a:=by
 cases ns with
 |nil=>cases h
 |cons n ns=>exact (NG ns n).2 a h
def FO (f:List Int→Int):D→HD→Out D:=fun x h=>match x with
 |.loc l=>match h[l]? with
  |some (.lst ds)=>match A2 (ds.map Gp) with
   |some ns=>if ns=[] then .stuck else .ok (.int (f ns)) h
   |none=>.stuck
  |_=>.stuck
 |_=>.stuck
theorem Q9 (hc:X.calm=true):Dc X (.builtin "min") (Aq (FO DU)):=by
 refine ⟨_,Xa hc,fun m H h E ds vs Q hr r q=>FL r q fun d v ev rv q=>?_⟩
 unfold FO at q
 split at q
 ·rename_i l
  split at q
  ·rename_i ds el
   split at q
   ·rename_i ns en
    split at q
    ·exact q.elim
    ·rename_i hne
     simp only [DV] at rv
     obtain ⟨a,rfl,ha⟩:=rv
     obtain ⟨ws,hv,dv⟩:=hr.cells l _ a el ha
     have ew:=K1 dv en
     subst ew
     refine ⟨a,ns,ev,SqL.of hv,hne,fun M h1 h2=>?_⟩
     have:M=DU ns:=Int.le_antisymm (h2 _ (Lg hne)) (NH h1)
     subst this
     exact Bp hr q (by simp [DV])
   ·exact q.elim
  ·exact q.elim
 ·exact q.elim
end
def Ra (K:PySem.W.Frag) (t:Addr):It:=⟨fun i H=>∃xs,SqL K H t xs∧i<xs.length,fun i H x H'=>∃p v,H p=none∧x=.ref p∧(∀xs:List V,SqL K H t xs→xs[i]?=some v)∧H'=Am H p (.tup [.int i,v]),fun i H=>∃xs,SqL K H t xs∧i=xs.length⟩
theorem Xb {P:Program} {w:World} {K:PySem.W.Frag} {elts:List Expr} {kt:Nat} {tpos:Pos} (e it t:Addr) (hei:e≠it) (hte:t≠e) (hti:t≠it):
 F9 P w K (.Tuple elts kt tpos) (Ra K t) [e,it] e (fun i h=>(∃old,IsEnum h e it i old)∧h.IsListIter it t i) where
 mem:=by simp
 obj:=fun i h st b hb=>by
  obtain ⟨⟨old,h1⟩,o,h2,hc,hd⟩:=st
  rcases qa5.mp hb with z |z
  ·subst z;exact ⟨_,h1,fun v z=>by cases z⟩
  ·rw [qaF] at z
   subst z
   exact ⟨o,h2,fun v z=>by rw [hd] at z;cases z⟩
 keep:=fun i h h' st k=>by
  obtain ⟨⟨old,h1⟩,h2⟩:=st
  exact ⟨⟨old,k e (by simp) _ h1⟩,h2.at fun o z=>k it (by simp) o z⟩
 item:=by
  intro X hP hw hK hc i pins s σ H E I hf st hg
  subst hP hw hK
  obtain ⟨⟨old,he⟩,hit⟩:=st
  obtain ⟨xs,hq,hi⟩:=hg
  obtain ⟨its,rv,p,hz⟩:=I.list hq
  have hT:s.heap.IsList t its.toArray:=p.isList
  have hl:=rv.length
  obtain ⟨e0,e1,e2,e3,e4,e5⟩:=hf e (by simp)
  obtain ⟨i0,i1,i2,i3,i4,i5⟩:=hf it (by simp)
  have hx:xs[i]?=some xs[i]:=A6 hi
  refine wpAny_pyNext_enum_itemD (Draws.list (A:=X.A.in1) (I.ok.hd hc) it t hti its.toArray) he ⟨hit,hT⟩ (by rw [Bc];omega) hei (by simp [hei,Ne.symm hte]) fun x h1 tk hPx ho hs1 hTup hsz hk=>?_
  obtain ⟨u,hu,ru⟩:=rv.get hx
  have hux:u=x:=by
   have:its[i]?=some x:=by simpa using hPx
   rw [hu] at this
   exact Option.some.inj this
  subst hux
  refine ⟨.ref s.heap.objs.size,rfl,wpAny_letOwnedTupleGo_enum ho fun h2 he2 sb=>?_⟩
  have hfr:H s.heap.objs.size=none:=I.hok.fresh (AO _)
  have kk:∀b o,b∉[e,it]→s.heap.get? b=some o→h2.get? b=some o:=fun b o hb z=>by
   have n1:b≠e:=fun q=>hb (by simp [q])
   have n2:b≠it:=fun q=>hb (by simp [q])
   exact (sb.2 b n1).trans (hk b o n1 n2 z)
  have na:s.heap.objs.size≠e:=FM (AG he)
  have hnew:h2.get? s.heap.objs.size=some {cls:=.type "tuple",data:=.seq #[.int i tk,u]}:=(sb.2 _ na).trans hTup
  have ntr:∀b w,H b=some w→b∉[e,it]:=fun b w z hb=>by
   rcases qa5.mp hb with q |q
   ·rw [q,e0] at z;cases z
   ·rw [qaF.mp q,i0] at z;cases z
  have nal:∀b o,s.heap.get? b=some o→b≠s.heap.objs.size:=fun b o z=>BK (AG z)
  have it2:h2.IsListIter it t (i+1):=by
   obtain ⟨o,q,r⟩:=hs1.1
   exact ⟨o,(sb.2 it (Ne.symm hei)).trans q,r⟩
  refine ⟨.ref s.heap.objs.size,Am H s.heap.objs.size (.tup [.int i,xs[i]]),?_,rfl,⟨s.heap.objs.size,xs[i],hfr,rfl,fun ys hy=>by rw [I.list_inj hy hq];exact hx,rfl⟩,⟨⟨u,he2⟩,it2⟩,fun b hb=>?_⟩
  ·show Inv X pins σ _ {s with heap:=h2,gens:=s.gens,drawn:=s.drawn,toks:=tk+1}
   refine I.step (g':=s.gens) (d':=s.drawn) (t':=tk+1) (h':=h2) (ch:=[e,it]) (fun b hb=>?_) (fun b o _ _ hc z _=>kk b o hc z) (fun b o _ _ hc z _=>⟨o.slots,kk b o hc z⟩) (fun b o _ z n=>by rw [Ao (nal b o z)];exact n)
    (fun b o hc z=>⟨o,kk b o hc z⟩) (fun b ys z=>by rw [Ao (BJ z hfr)];exact z) (fun b o u z=>by rw [Ao (BJ z hfr)];exact z) (fun b ps z=>⟨#[],by rw [Ao (BJ z hfr),z];simp⟩) (fun m hm=>?_) (fun b w z=>?_) I.bare
   ·rcases qa5.mp hb with q |q
    ·subst q;exact ⟨e3,e1,e4,e5⟩
    ·rw [qaF] at q;subst q;exact ⟨i3,i1,i4,i5⟩
   ·obtain ⟨o,es,ep,q,r⟩:=hm
    exact ⟨o,es,ep,kk _ o (by simp [Ne.symm e1,Ne.symm i1]) q,r⟩
   ·by_cases hb:b=s.heap.objs.size
    ·subst hb
     rw [Bt] at z
     cases z
     exact ⟨by simp only [Fc,FJ];rw [sizeLine_eq];decide,[.int i tk,u],.cons ⟨tk,rfl⟩ (.cons ru .nil),⟨_,hnew,rfl,0,rfl⟩,fun o e=>by rw [hnew] at e;cases e;rfl⟩
    ·rw [Ao hb] at z
     refine (I.hok b w z).stay (fun c v hc q=>kk c v ?_ q) (fun c q=>by rw [Ao (BJ q hfr)];exact q) fun c ys q=>by rw [Ao (BJ q hfr)];exact q
     rcases hc with rfl |hc
     ·exact ntr c _ z
     ·exact ntr c _ hc
  ·have nb:b≠s.heap.objs.size:=by
    rcases qa5.mp hb with q |q
    ·rw [q];exact na.symm
    ·rw [qaF.mp q]
     obtain ⟨o,z,_⟩:=hit
     exact nal _ _ z
   rw [Ao nb]
   exact (hf b hb).1
 done:=by
  intro X hP hw hK hc i pins s σ H E I hf st hg
  subst hP hw hK
  obtain ⟨⟨old,he⟩,hit⟩:=st
  obtain ⟨xs,hq,hi⟩:=hg
  obtain ⟨its,rv,p,hz⟩:=I.list hq
  have hT:s.heap.IsList t its.toArray:=p.isList
  have hl:=rv.length
  obtain ⟨i0,i1,i2,i3,i4,i5⟩:=hf it (by simp)
  have hin:i=its.toArray.size:=by rw [Bc];omega
  refine wpAny_pyNext_enum_endD (Draws.list (A:=X.A.in1) (I.ok.hd hc) it t hti its.toArray) he (hin ▸ ⟨hit,hT⟩) fun h' eb=>⟨rfl,I.turned (t':=s.toks) (fun b o hb z=>eb b o hb z) i0 i1 i3 i4 i5⟩
 self:=fun A i s Q E st h=>by
  obtain ⟨⟨old,he⟩,_⟩:=st
  exact wpAny_pyIter_enum he h
section
variable {X:Cx} {E:XK}
theorem Xd {elts:List Expr} {kt:Nat} {tpos p pos:Pos} {a:Expr} {ta:TA} (hg:Gl X "enumerate") (hm:X.mg "enumerate"=none) (ha:PA X [a] ta) (hs:starEach [a] X.env=[(false,eval a X.env)]:=by rfl):
 PI X (.Tuple elts kt tpos) (.Call (.Name "enumerate" p) [a] [] pos) (fun σ H R=>ta σ H fun vs H1=>(∃t xs,vs=[.ref t]∧SqT X.K H1 t xs∧R (Qz X.K t xs) H1)∨∃t xs,vs=[.ref t]∧SqL X.K H1 t xs∧R (Ra X.K t) H1):=by
 intro pins s σ H R I h
 refine Call_ (GO I hg hm boot_enumerate (PyProof.Rows.callWith_type1 (Az (ha pos pins s σ H _ I h) fun us s1 z1_=>?_) hs rfl))
 obtain ⟨vs,H1,I1,r1,q1⟩:=z1_
 rcases q1 with ⟨t,xs,e,hq,q⟩ |⟨t,xs,e,hq,q⟩
 ·subst e
  cases r1 with
  |cons r rr=>
   cases rr
   cases r
   obtain ⟨its,rv,p,hz⟩:=I1.tuple hq
   have hT:s1.heap.IsTuple t its.toArray:=p
   have hlt:t<s1.heap.objs.size:=p.lt
   refine WE hT fun h' he hit hsz hk=>wpAny_pyIter_enum (s:={s1 with heap:=h'}) he ?_
   have I2:Inv X pins σ H1 {s1 with heap:=h'}:=I1.kept (t':=s1.toks) hk
   refine ⟨s1.heap.objs.size+1,[s1.heap.objs.size+1,s1.heap.objs.size],_,_,H1,rfl,I2,WG (s1.heap.objs.size+1) s1.heap.objs.size t (Nat.succ_ne_self _) (BK (HQ hlt)) (BK hlt) xs,⟨⟨.none,he⟩,hit⟩,fun b hb=>?_,q⟩
   rcases qa5.mp hb with z |z
   ·subst z;exact I1.fpOk (HX _) (I1.hok.fresh (HX _))
   ·rw [qaF] at z;subst z;exact I1.fpOk (AO _) (I1.hok.fresh (AO _))
 ·subst e
  cases r1 with
  |cons r rr=>
   cases rr
   cases r
   obtain ⟨its,rv,p,hz⟩:=I1.list hq
   have hT:s1.heap.IsList t its.toArray:=p.isList
   have hlt:t<s1.heap.objs.size:=by obtain ⟨_,z,_⟩:=hT;exact AG z
   refine call_enumerate_list hT fun h' he hit hsz hk=>wpAny_pyIter_enum (s:={s1 with heap:=h'}) he ?_
   have I2:Inv X pins σ H1 {s1 with heap:=h'}:=I1.kept (t':=s1.toks) hk
   refine ⟨s1.heap.objs.size+1,[s1.heap.objs.size+1,s1.heap.objs.size],_,_,H1,rfl,I2,Xb (s1.heap.objs.size+1) s1.heap.objs.size t (Nat.succ_ne_self _) (BK (HQ hlt)) (BK hlt),⟨⟨.none,he⟩,hit⟩,fun b hb=>?_,q⟩
   rcases qa5.mp hb with z |z
   ·subst z;exact I1.fpOk (HX _) (I1.hok.fresh (HX _))
   ·rw [qaF] at z;subst z;exact I1.fpOk (AO _) (I1.hok.fresh (AO _))
def JJ:List D→HD→Out (List D×Bi):=fun ds h=>match ds with
 |[.tup xs]=>.ok (EI xs,[]) h
 |[.loc l]=>match h[l]? with
  |some (.lst xs)=>.ok (EI xs,[(l,xs)]) h
  |_=>.stuck
 |_=>.stuck
def Hb (fa:MA):MI:=fun ρ h=>(fa ρ h).bind JJ
theorem NI {elts:List Expr} {kt:Nat} {tpos p pos:Pos} {a:Expr} {fa:MA} (hg:Gl X "enumerate") (hm:X.mg "enumerate"=none) (ha:Ct X E [a] fa) (hs:starEach [a] X.env=[(false,eval a X.env)]:=by rfl):
 ED X E (.Tuple elts kt tpos) (.Call (.Name "enumerate" p) [a] [] pos) (Hb fa):=
 Jy (Xd hg hm ha hs) fun σ H R ⟨m,ρ,h,hr,er,p⟩=>⟨m,ρ,h,hr,er,Post.bind p fun x h1 v m1 H1 eo p1 k1 hr1 r1 q1=>by
  clear eo
  unfold JJ at q1
  split at q1
  ·rename_i xs
   simp only [Ec,DVs,DV] at r1
   obtain ⟨v,w,rfl,⟨a,vs,rfl,ha,dv⟩,rfl⟩:=r1
   refine .inl ⟨a,vs,rfl,SqT.of ha,q1 _ m1 H1 (AJ _) (.refl _) hr1 fun i m2 h2 H2 p2 k2 hr2 _=>⟨fun hi=>?_,fun hi=>?_⟩⟩
   ·have hi':i<xs.length:=by simpa [EI] using hi
    refine ⟨⟨by rw [←dv.len];exact hi',SqT.of (k2 _ _ ha rfl)⟩,fun y H3 ⟨pp,vv,hp,ey,ev,eH⟩=>?_⟩
    subst ey eH
    have hd:xs[i]?=some xs[i]:=A6 hi'
    obtain ⟨v2,e2,r2⟩:=dv.get hd
    rw [ev] at e2
    cases e2
    refine ⟨.new hp,hr2.new hp,.tup [.int i,xs[i]],?_,?_⟩
    ·simp [EI,hd]
    ·simp only [DV]
     exact ⟨pp,_,rfl,Bt,.cons (by simp [DV]) (.cons (DV.keep p2 (k2.trans (.new hp)) r2) .nil)⟩
   ·exact ⟨by rw [←dv.len];simpa [EI] using hi,SqT.of (k2 _ _ ha rfl)⟩
  ·rename_i l
   split at q1
   ·rename_i xs el
    simp only [Ec,DVs,DV] at r1
    obtain ⟨v,w,rfl,⟨a,rfl,ha⟩,rfl⟩:=r1
    obtain ⟨vs,hv,dv⟩:=hr1.cells l _ a el ha
    refine .inr ⟨a,vs,rfl,SqL.of hv,q1 _ m1 H1 (AJ _) (.refl _) hr1 fun i m2 h2 H2 p2 k2 hr2 hsr=>?_⟩
    obtain ⟨ws,hw,dw⟩:=hr2.cells l _ a (hsr _ A0) (Jl p2 ha)
    refine ⟨fun hi=>?_,fun hi=>⟨ws,SqL.of hw,by rw [←dw.len];simpa [EI] using hi⟩⟩
    have hi':i<xs.length:=by simpa [EI] using hi
    refine ⟨⟨ws,SqL.of hw,by rw [←dw.len];exact hi'⟩,fun y H3 ⟨pp,vv,hp,ey,ev,eH⟩=>?_⟩
    subst ey eH
    have hd:xs[i]?=some xs[i]:=A6 hi'
    obtain ⟨v2,e2,r2⟩:=dw.get hd
    rw [ev ws (SqL.of hw)] at e2
    cases e2
    refine ⟨.new hp,hr2.new hp,.tup [.int i,xs[i]],?_,?_⟩
    ·simp [EI,hd]
    ·simp only [DV]
     exact ⟨pp,_,rfl,Bt,.cons (by simp [DV]) (.cons (DV.keep (AJ _) (.new hp) r2) .nil)⟩
   ·exact q1.elim
  ·exact q1.elim⟩
end
structure IB (z TI TO p q:Addr) (f g:List Addr):Prop where
 a1:TI≠z
 a2:TO≠z
 a3:p≠z
 a4:q≠z
 a5:TI≠TO
 a6:TI≠p
 a7:TI≠q
 a8:TO≠p
 a9:TO≠q
 b1:p≠q
 b2:z∉f
 b3:z∉g
 b4:TO∉f
 b5:TO∉g
 b6:p∉g
 b7:q∉f
section
variable {prog:Program} {w:World} {A:Around} {E:Value→Shared→Prop} {s:Shared} {z TI TO p q:Addr} {f g:List Addr} {n1 n2 k:Nat} {P1 P2:Nat→Value→Prop} {S1 S2:Nat→Heap→Prop} {a b:Value}
theorem Xe {Q:Value→Shared→Prop} (D1:Draws prog w A p f n1 P1 S1) (D2:Draws prog w A q g n2 P2 S2) (ap:IB z TI TO p q f g)
 (zz:IsZip s.heap z TI TO .none) (zi:IsPair s.heap TI (.ref p) (.ref q)) (zo:IsPair s.heap TO a b) (s1:S1 k s.heap) (s2:S2 k s.heap) (l1:k<n1) (l2:k<n2)
 (hQ:∀h' tk x y,P1 k x→P2 k y→IsZip h' z TI TO (rawInt s.heap.objs.size)→IsPair h' TO x y→S1 (k+1) h'→S2 (k+1) h'→IsPair h' s.heap.objs.size x y→
  (∀c o,c≠z→c≠TO→c≠p→c≠q→s.heap.get? c=some o→h'.get? c=some o)→Q (.ref s.heap.objs.size) {s with heap:=h',toks:=tk}):
 wpAny (model prog w) A (Builtin.«zip.__next__» ⟨[.ref z],[]⟩) (fun fin s'=>∃v,fin=.done (.ret v)∧Q v s') E s:=by
 show wpAny _ _ (field (.ref z) 2 >>=_) _ _ _
 refine wpAny_bind (wpAny_field zz rfl (x:=.bool false) rfl ?_)
 show wpAny _ _ (field (.ref z) 3 >>=_) _ _ _
 refine wpAny_bind (wpAny_field zz rfl (x:=.ref TI) rfl ?_)
 refine wpAny_bind (wpAny_seqItems zi rfl ?_)
 show wpAny _ _ (Builtin.SmallTypes.ownedTupleIsFree (.ref z) >>=_) _ _ _
 refine wpAny_bind ?_
 unfold Builtin.SmallTypes.ownedTupleIsFree
 refine wpAny_bind (wpAny_field zz rfl (x:=.none) rfl (wpAny_pure ?_))
 simp only [if_true]
 refine wpAny_bind (wpAny_rule ?_)
 refine wpAny_bind (wpAny_field zz rfl (x:=.ref TO) rfl ?_)
 refine wpAny_bind (wpAny_setField_rec zz (by simp) fun m1 zz1 t1=>?_)
 replace zz1:IsZip m1 z TI TO .ellipsis:=zz1
 refine wpAny_bind ?_
 simp only [List.zipIdx_cons,List.zipIdx_nil,List.forIn_cons,List.forIn_nil]
 refine wpAny_bind (wpAny_bind (wpAny_onRaise ?_))
 show wpAny _ _ (Builtin.SmallTypes.nextOf (.ref p) >>=_) _ _ _
 refine wpAny_bind (D1.item k _ _ _ l1 (D1.frame k _ _ s1 fun c hc o e=>t1.extBut _ _ (fun y=>ap.b2 (y ▸ hc)) e) fun x m2 tk2 px s12 t2=>wpAny_pure ?_)
 have zo2:IsPair m2 TO a b:=t2.extBut _ _ ap.a8 (t1.extBut _ _ ap.a2 zo)
 refine wpAny_bind (wpAny_seqItems zo2 rfl ?_)
 refine wpAny_bind (wpAny_updateSeq_pair zo2 fun m3 zo3 t3=>?_)
 replace zo3:IsPair m3 TO x b:=zo3
 refine wpAny_bind (wpAny_letGo (wpAny_pure ?_))
 refine wpAny_bind (wpAny_bind (wpAny_onRaise ?_))
 show wpAny _ _ (Builtin.SmallTypes.nextOf (.ref q) >>=_) _ _ _
 have s23:S2 k m3:=D2.frame k _ _ s2 fun c hc o e=>t3.extBut _ _ (fun y=>ap.b5 (y ▸ hc)) (t2.extBut _ _ (fun y=>ap.b6 (y ▸ hc)) (t1.extBut _ _ (fun y=>ap.b3 (y ▸ hc)) e))
 refine wpAny_bind (D2.item k _ _ _ l2 s23 fun y m4 tk4 py s24 t4=>wpAny_pure ?_)
 have zo4:IsPair m4 TO x b:=t4.extBut _ _ ap.a9 zo3
 refine wpAny_bind (wpAny_seqItems zo4 rfl ?_)
 refine wpAny_bind (wpAny_updateSeq_pair zo4 fun m5 zo5 t5=>?_)
 replace zo5:IsPair m5 TO x y:=zo5
 refine wpAny_bind (wpAny_letGo (wpAny_pure (wpAny_pure ?_)))
 refine wpAny_bind (wpAny_seqItems zo5 rfl ?_)
 refine wpAny_bind (wpAny_newTuple ?_)
 have sz:m5.objs.size=s.heap.objs.size:=by rw [t5.1,t4.1,t3.1,t2.1,t1.1]
 have zz5:IsZip m5 z TI TO .ellipsis:=t5.extBut _ _ ap.a2.symm (t4.extBut _ _ ap.a4.symm (t3.extBut _ _ ap.a2.symm (t2.extBut _ _ ap.a3.symm zz1)))
 have kp:∀c o,c≠z→c≠TO→c≠p→c≠q→s.heap.get? c=some o→m5.get? c=some o:=fun c o c1 c2 c3 c4 e=>t5.extBut _ _ c2 (t4.extBut _ _ c4 (t3.extBut _ _ c2 (t2.extBut _ _ c3 (t1.extBut _ _ c1 e))))
 have zlt:z<m5.objs.size:=AG zz5
 show wpAny _ _ (Builtin.SmallTypes.ownedTupleHandOut (.ref z) (.ref m5.objs.size) >>=_) _ _ _
 refine wpAny_bind ?_
 unfold Builtin.SmallTypes.ownedTupleHandOut
 have zz6:IsZip (m5.push {cls:=.type "tuple",data:=.seq #[x,y]}) z TI TO .ellipsis:=AF _ zz5
 refine wpAny_bind (wpAny_setField_rec zz6 (by simp) fun m7 zz7 t7=>?_)
 replace zz7:IsZip m7 z TI TO (rawInt m5.objs.size):=zz7
 refine wpAny_setField_rec zz7 (by simp) fun m8 zz8 t8=>?_
 replace zz8:IsZip m8 z TI TO (rawInt m5.objs.size):=zz8
 have up:∀c o,c≠z→m5.get? c=some o→m8.get? c=some o:=fun c o c1 e=>t8.extBut _ _ c1 (t7.extBut _ _ c1 (AF _ e))
 have nw:IsPair m8 m5.objs.size x y:=t8.extBut _ _ (Ci zlt) (t7.extBut _ _ (Ci zlt) (By _ rfl))
 rw [sz] at zz8 nw
 refine wpAny_pure ⟨_,rfl,?_⟩
 show Q (.ref m5.objs.size) _
 rw [sz]
 refine hQ m8 tk4 x y px py zz8 (up _ _ ap.a2 zo5) (D1.frame _ m2 m8 s12 fun c hc o e=>?_) (D2.frame _ m4 m8 s24 fun c hc o e=>?_) nw fun c o c1 c2 c3 c4 e=>up c o c1 (kp c o c1 c2 c3 c4 e)
 ·have n1:c≠TO:=fun y=>ap.b4 (y ▸ hc)
  exact up c o (fun y=>ap.b2 (y ▸ hc)) (t5.extBut _ _ n1 (t4.extBut _ _ (fun y=>ap.b7 (y ▸ hc)) (t3.extBut _ _ n1 e)))
 ·exact up c o (fun y=>ap.b3 (y ▸ hc)) (t5.extBut _ _ (fun y=>ap.b5 (y ▸ hc)) e)
theorem Xf {Q:Fin→Shared→Prop} (D1:Draws prog w A p f n1 P1 S1) (D2:Draws prog w A q g n2 P2 S2) (ap:IB z TI TO p q f g)
 (zz:IsZip s.heap z TI TO .none) (zi:IsPair s.heap TI (.ref p) (.ref q)) (zo:IsPair s.heap TO a b) (s1:S1 k s.heap) (s2:S2 k s.heap) (hk:k=n1∨(k<n1∧k=n2))
 (hE:∀h' tk e,(∀c o,c≠z→c≠TO→c≠p→c≠q→s.heap.get? c=some o→h'.get? c=some o)→(∃o,h'.get? e=some o∧o.cls=.type "StopIteration")→E (.ref e) {s with heap:=h',toks:=tk}):
 wpAny (model prog w) A (Builtin.«zip.__next__» ⟨[.ref z],[]⟩) Q E s:=by
 show wpAny _ _ (field (.ref z) 2 >>=_) _ _ _
 refine wpAny_bind (wpAny_field zz rfl (x:=.bool false) rfl ?_)
 show wpAny _ _ (field (.ref z) 3 >>=_) _ _ _
 refine wpAny_bind (wpAny_field zz rfl (x:=.ref TI) rfl ?_)
 refine wpAny_bind (wpAny_seqItems zi rfl ?_)
 show wpAny _ _ (Builtin.SmallTypes.ownedTupleIsFree (.ref z) >>=_) _ _ _
 refine wpAny_bind ?_
 unfold Builtin.SmallTypes.ownedTupleIsFree
 refine wpAny_bind (wpAny_field zz rfl (x:=.none) rfl (wpAny_pure ?_))
 simp only [if_true]
 refine wpAny_bind (wpAny_rule ?_)
 refine wpAny_bind (wpAny_field zz rfl (x:=.ref TO) rfl ?_)
 refine wpAny_bind (wpAny_setField_rec zz (by simp) fun m1 zz1 t1=>?_)
 replace zz1:IsZip m1 z TI TO .ellipsis:=zz1
 refine wpAny_bind ?_
 simp only [List.zipIdx_cons,List.zipIdx_nil,List.forIn_cons,List.forIn_nil]
 refine wpAny_bind (wpAny_bind (wpAny_onRaise ?_))
 show wpAny _ _ (Builtin.SmallTypes.nextOf (.ref p) >>=_) _ _ _
 have s11:=D1.frame k _ m1 s1 fun c hc o e=>t1.extBut _ _ (fun y=>ap.b2 (y ▸ hc)) e
 rcases hk with hk |⟨hk,hk2⟩
 ·subst hk
  refine wpAny_bind (D1.done _ _ _ s11 fun m2 e t2 he=>?_)
  obtain ⟨oe,e1,e2⟩:=he
  have zz2:IsZip m2 z TI TO .ellipsis:=t2 _ _ ap.a3.symm zz1
  have ne:e≠z:=fun y=>by subst y;rw [zz2] at e1;cases e1;simp at e2
  exact wpAny_setField_rec zz2 (by simp) fun m3 _ t3=>hE m3 _ e (fun c o c1 _ c3 _ y=>t3.extBut _ _ c1 (t2 _ _ c3 (t1.extBut _ _ c1 y))) ⟨oe,t3.extBut _ _ ne e1,e2⟩
 ·subst hk2
  refine wpAny_bind (D1.item k _ _ _ hk s11 fun x m2 tk2 px s12 t2=>wpAny_pure ?_)
  have zo2:IsPair m2 TO a b:=t2.extBut _ _ ap.a8 (t1.extBut _ _ ap.a2 zo)
  refine wpAny_bind (wpAny_seqItems zo2 rfl ?_)
  refine wpAny_bind (wpAny_updateSeq_pair zo2 fun m3 zo3 t3=>?_)
  refine wpAny_bind (wpAny_letGo (wpAny_pure ?_))
  refine wpAny_bind (wpAny_bind (wpAny_onRaise ?_))
  show wpAny _ _ (Builtin.SmallTypes.nextOf (.ref q) >>=_) _ _ _
  have s23:S2 k m3:=D2.frame k _ _ s2 fun c hc o e=>t3.extBut _ _ (fun y=>ap.b5 (y ▸ hc)) (t2.extBut _ _ (fun y=>ap.b6 (y ▸ hc)) (t1.extBut _ _ (fun y=>ap.b3 (y ▸ hc)) e))
  refine wpAny_bind (D2.done _ _ _ s23 fun m4 e t4 he=>?_)
  obtain ⟨oe,e1,e2⟩:=he
  have zz4:IsZip m4 z TI TO .ellipsis:=t4 _ _ ap.a4.symm (t3.extBut _ _ ap.a2.symm (t2.extBut _ _ ap.a3.symm zz1))
  have ne:e≠z:=fun y=>by subst y;rw [zz4] at e1;cases e1;simp at e2
  exact wpAny_setField_rec zz4 (by simp) fun m5 _ t5=>hE m5 _ e (fun c o c1 c2 c3 c4 y=>t5.extBut _ _ c1 (t4 _ _ c4 (t3.extBut _ _ c2 (t2.extBut _ _ c3 (t1.extBut _ _ c1 y))))) ⟨oe,t5.extBut _ _ ne e1,e2⟩
theorem Xg {Q:Option Value→Shared→Prop} (D1:Draws prog w A.in1 p f n1 P1 S1) (D2:Draws prog w A.in1 q g n2 P2 S2) (ap:IB z TI TO p q f g)
 (zz:IsZip s.heap z TI TO .none) (zi:IsPair s.heap TI (.ref p) (.ref q)) (zo:IsPair s.heap TO a b) (s1:S1 k s.heap) (s2:S2 k s.heap) (l1:k<n1) (l2:k<n2)
 (hQ:∀h' tk x y,P1 k x→P2 k y→IsZip h' z TI TO (rawInt s.heap.objs.size)→IsPair h' TO x y→S1 (k+1) h'→S2 (k+1) h'→IsPair h' s.heap.objs.size x y→
  (∀c o,c≠z→c≠TO→c≠p→c≠q→s.heap.get? c=some o→h'.get? c=some o)→Q (some (.ref s.heap.objs.size)) {s with heap:=h',toks:=tk}):
 wpAny (model prog w) A (pyNext (.ref z)) Q E s:=by
 have hT:s.TypeIs (.ref z) "zip":=⟨_,zz,rfl⟩
 unfold pyNext
 exact wpAny_bind (wpAny_attempt (wpAny_callSpecial?_slot (name:=Str.ofString "__next__") hT F.slot_zip_next (wpAny_call_entry F.slot_zip_next hT F.entry_zip_next
  (Xe D1 D2 ap zz zi zo s1 s2 l1 l2 fun h' tk x y c1 c2 c3 c4 c5 c6 c7 c8=>wpAny_pure (hQ h' tk x y c1 c2 c3 c4 c5 c6 c7 c8)) (F.args_zip_next_1 _))))
theorem Xh {Q:Option Value→Shared→Prop} (D1:Draws prog w A.in1 p f n1 P1 S1) (D2:Draws prog w A.in1 q g n2 P2 S2) (ap:IB z TI TO p q f g)
 (zz:IsZip s.heap z TI TO .none) (zi:IsPair s.heap TI (.ref p) (.ref q)) (zo:IsPair s.heap TO a b) (s1:S1 k s.heap) (s2:S2 k s.heap) (hk:k=n1∨(k<n1∧k=n2))
 (hQ:∀h' tk,(∀c o,c≠z→c≠TO→c≠p→c≠q→s.heap.get? c=some o→h'.get? c=some o)→Q none {s with heap:=h',toks:=tk}):wpAny (model prog w) A (pyNext (.ref z)) Q E s:=by
 have hT:s.TypeIs (.ref z) "zip":=⟨_,zz,rfl⟩
 unfold pyNext
 refine wpAny_bind (wpAny_attempt (wpAny_callSpecial?_slot (name:=Str.ofString "__next__") hT F.slot_zip_next (wpAny_call_entry F.slot_zip_next hT F.entry_zip_next
  (Xf D1 D2 ap zz zi zo s1 s2 hk fun h' tk e kp he=>?_) (F.args_zip_next_1 _))))
 obtain ⟨o,ho,hc⟩:=he
 refine wpAny_bind (wpAny_isInstance (T:="StopIteration") (b:=true) ⟨o,ho,hc⟩ isSubtype_stop ?_)
 exact wpAny_pure (hQ _ _ kp)
end
open AutoSeq1 (wpAny_loadPart')
def ItAt:Bool→Heap→Addr→Addr→Nat→Prop
 |true,h,it,l,i=>h.IsTupleIter it l i
 |false,h,it,l,i=>h.IsListIter it l i
def SqA:Bool→Heap→Addr→Array Value→Prop
 |true,h,l,xs=>h.IsTuple l xs
 |false,h,l,xs=>h.IsList l xs
def Eg:Bool→PySem.W.Frag→Hp→Addr→List V→Prop
 |true,K,H,a,xs=>SqT K H a xs
 |false,K,H,a,xs=>SqL K H a xs
def Hc (k:Bool) (l:Addr):Obj:={cls:=.type (if k then "tuple_iterator" else "list_iterator"),data:=.fields #[.ref l,.int 0 0]}
theorem Lh {prog:Program} {w:World} {A:Around} (k:Bool) (hh:A.handled=none) (it l:Addr) (hne:l≠it) (items:Array Value):
 Draws prog w A it [it,l] items.size (fun i v=>items[i]?=some v) (fun i h=>ItAt k h it l i∧SqA k h l items):=by
 cases k
 ·exact Draws.list hh it l hne items
 ·exact Nl hh it l hne items
theorem ItAt.obj {k:Bool} {h:Heap} {it l:Addr} {i:Nat} (x:ItAt k h it l i):∃o,h.get? it=some o∧∀v,o.data≠.cell v:=by
 cases k
 ·obtain ⟨o,e,c,d⟩:=x
  exact ⟨o,e,fun v z=>by rw [d] at z;cases z⟩
 ·obtain ⟨o,e,c,d⟩:=x
  exact ⟨o,e,fun v z=>by rw [d] at z;cases z⟩
theorem ItAt.at {k:Bool} {h h':Heap} {it l:Addr} {i:Nat} (x:ItAt k h it l i) (f:∀o,h.get? it=some o→h'.get? it=some o):ItAt k h' it l i:=by
 cases k
 ·exact Heap.IsListIter.at x f
 ·exact Heap.IsTupleIter.at x f
section
variable {X:Cx} {pins:List (Addr×Obj)} {σ:L2.St} {H:Hp} {s:Shared}
theorem IC {k:Bool} {a:Addr} {xs:List V} (I:Inv X pins σ H s) (h:Eg k X.K H a xs):∃its:List Value,Vals xs its∧SqA k s.heap a its.toArray∧a<s.heap.objs.size:=by
 cases k
 ·obtain ⟨its,r,p,_⟩:=I.list h
  have q:=p.isList
  exact ⟨its,r,q,by obtain ⟨_,e,_⟩:=q;exact AG e⟩
 ·obtain ⟨its,r,p,_⟩:=I.tuple h
  exact ⟨its,r,p,p.lt⟩
theorem Rb {k:Bool} {a:Addr} {xs ys:List V} (I:Inv X pins σ H s) (h:Eg k X.K H a xs) (h':Eg k X.K H a ys):xs=ys:=by
 cases k
 ·exact I.list_inj h h'
 ·exact I.tuple_inj h h'
end
def Rc (K:PySem.W.Frag) (k1 k2:Bool) (t u:Addr):It:=⟨fun i H=>∃xs ys,Eg k1 K H t xs∧Eg k2 K H u ys∧i<xs.length∧i<ys.length,
 fun i H x H'=>∃p v v',H p=none∧x=.ref p∧(∀xs:List V,Eg k1 K H t xs→xs[i]?=some v)∧(∀ys:List V,Eg k2 K H u ys→ys[i]?=some v')∧H'=Am H p (.tup [v,v']),
 fun i H=>∃xs ys,Eg k1 K H t xs∧Eg k2 K H u ys∧(i=xs.length∨(i<xs.length∧i=ys.length))⟩
inductive Re (k1 k2:Bool) (z TI TO p q t u:Addr) (i:Nat) (h:Heap):Prop where
 |mk (zz:IsZip h z TI TO .none) (zi:IsPair h TI (.ref p) (.ref q)) (zo:∃a b,IsPair h TO a b) (x1:ItAt k1 h p t i) (x2:ItAt k2 h q u i):Re k1 k2 z TI TO p q t u i h
theorem Xi {P:Program} {w:World} {K:PySem.W.Frag} {elts:List Expr} {kt:Nat} {tpos:Pos} (k1 k2:Bool) (z TI TO p q t u:Addr) (ap:IB z TI TO p q [p,t] [q,u]) (n1:t≠p) (n2:u≠q):
 F9 P w K (.Tuple elts kt tpos) (Rc K k1 k2 t u) [z,TI,TO,p,q] z (Re k1 k2 z TI TO p q t u) where
 mem:=by simp
 obj:=fun i h st c hc=>by
  obtain ⟨zz,zi,⟨a,b,zo⟩,x1,x2⟩:=st
  simp only [qa5,Do,or_false] at hc
  rcases hc with rfl |rfl |rfl |rfl |rfl
  ·exact ⟨_,zz,fun v y=>by cases y⟩
  ·exact ⟨_,zi,fun v y=>by cases y⟩
  ·exact ⟨_,zo,fun v y=>by cases y⟩
  ·exact x1.obj
  ·exact x2.obj
 keep:=fun i h h' st kp=>by
  obtain ⟨zz,zi,⟨a,b,zo⟩,x1,x2⟩:=st
  exact ⟨kp z (by simp) _ zz,kp TI (by simp) _ zi,⟨a,b,kp TO (by simp) _ zo⟩,x1.at fun o e=>kp p (by simp) o e,x2.at fun o e=>kp q (by simp) o e⟩
 item:=by
  intro X hP hw hK hc i pins s σ H E I hf st hg
  subst hP hw hK
  obtain ⟨zz,zi,⟨a,b,zo⟩,x1,x2⟩:=st
  obtain ⟨xs,ys,hq1,hq2,l1,l2⟩:=hg
  obtain ⟨it1,rv1,sq1,lt1⟩:=IC I hq1
  obtain ⟨it2,rv2,sq2,lt2⟩:=IC I hq2
  have e1:=rv1.length
  have e2:=rv2.length
  have hh:X.A.in1.handled=none:=I.ok.hd hc
  refine Xg (Lh k1 hh p t n1 it1.toArray) (Lh k2 hh q u n2 it2.toArray) ap zz zi zo ⟨x1,sq1⟩ ⟨x2,sq2⟩ (by rw [Bc];omega) (by rw [Bc];omega) fun h1 tk x y px py zz1 zo1 O7 Cr nw kp=>?_
  refine ⟨.ref s.heap.objs.size,rfl,wpAny_letOwnedTupleGo_zip zz1 fun h2 zz2 sb=>?_⟩
  have hx:xs[i]?=some xs[i]:=A6 l1
  have hy:ys[i]?=some ys[i]:=A6 l2
  obtain ⟨u1,hu1,ru1⟩:=rv1.get hx
  obtain ⟨u2,hu2,ru2⟩:=rv2.get hy
  have hux:u1=x:=by
   have:it1[i]?=some x:=by simpa using px
   rw [hu1] at this
   exact Option.some.inj this
  have huy:u2=y:=by
   have:it2[i]?=some y:=by simpa using py
   rw [hu2] at this
   exact Option.some.inj this
  subst hux huy
  have hfr:H s.heap.objs.size=none:=I.hok.fresh (AO _)
  have kk:∀c o,c∉[z,TI,TO,p,q]→s.heap.get? c=some o→h2.get? c=some o:=fun c o hc e=>by
   simp only [qa5,Do,or_false,not_or] at hc
   exact (sb.2 c hc.1).trans (kp c o hc.1 hc.2.2.1 hc.2.2.2.1 hc.2.2.2.2 e)
  have nal:∀c o,s.heap.get? c=some o→c≠s.heap.objs.size:=fun c o e=>BK (AG e)
  have na:s.heap.objs.size≠z:=Ne.symm (nal z _ zz)
  have hnew:h2.get? s.heap.objs.size=some {cls:=.type "tuple",data:=.seq #[u1,u2]}:=(sb.2 _ na).trans nw
  have ntr:∀c o,H c=some o→c∉[z,TI,TO,p,q]:=fun c o e hc=>by
   rw [(hf c hc).1] at e;cases e
  refine ⟨.ref s.heap.objs.size,Am H s.heap.objs.size (.tup [xs[i],ys[i]]),?_,rfl,⟨s.heap.objs.size,xs[i],ys[i],hfr,rfl,fun zs hz=>by rw [Rb I hz hq1];exact hx,fun zs hz=>by rw [Rb I hz hq2];exact hy,rfl⟩,
   ⟨zz2,(sb.2 TI ap.a1).trans (kp TI _ ap.a1 ap.a5 ap.a6 ap.a7 zi),⟨u1,u2,(sb.2 TO ap.a2).trans zo1⟩,O7.1.at fun o e=>(sb.2 p ap.a3).trans e,Cr.1.at fun o e=>(sb.2 q ap.a4).trans e⟩,fun c hc=>?_⟩
  ·show Inv X pins σ _ {s with heap:=h2,gens:=s.gens,drawn:=s.drawn,toks:=tk}
   refine I.step (g':=s.gens) (d':=s.drawn) (t':=tk) (h':=h2) (ch:=[z,TI,TO,p,q]) (fun c hc=>?_) (fun c o _ _ hc e _=>kk c o hc e) (fun c o _ _ hc e _=>⟨o.slots,kk c o hc e⟩) (fun c o _ e n=>by rw [Ao (nal c o e)];exact n)
    (fun c o hc e=>⟨o,kk c o hc e⟩) (fun c zs e=>by rw [Ao (BJ e hfr)];exact e) (fun c o v e=>by rw [Ao (BJ e hfr)];exact e) (fun c ps e=>⟨#[],by rw [Ao (BJ e hfr),e];simp⟩) (fun m hm=>?_) (fun c o e=>?_) I.bare
   ·obtain ⟨_,c1,_,c3,c4,c5⟩:=hf c hc
    exact ⟨c3,c1,c4,c5⟩
   ·obtain ⟨o,es,ep,e,r⟩:=hm
    exact ⟨o,es,ep,kk _ o (fun hc=>(hf _ hc).2.1 rfl) e,r⟩
   ·by_cases hb:c=s.heap.objs.size
    ·subst hb
     rw [Bt] at e
     cases e
     exact ⟨by simp only [Fc,FJ];rw [sizeLine_eq];decide,[u1,u2],.cons ru1 (.cons ru2 .nil),⟨_,hnew,rfl,0,rfl⟩,fun o e=>by rw [hnew] at e;cases e;rfl⟩
    ·rw [Ao hb] at e
     refine (I.hok c o e).stay (fun d v hd e'=>kk d v ?_ e') (fun d e'=>by rw [Ao (BJ e' hfr)];exact e') fun d zs e'=>by rw [Ao (BJ e' hfr)];exact e'
     rcases hd with rfl |hd
     ·exact ntr d _ e
     ·exact ntr d _ hd
  ·have nc:c≠s.heap.objs.size:=by
    simp only [qa5,Do,or_false] at hc
    rcases hc with rfl |rfl |rfl |rfl |rfl
    ·exact nal _ _ zz
    ·exact nal _ _ zi
    ·exact nal _ _ zo
    ·obtain ⟨o,e,_⟩:=x1.obj;exact nal _ _ e
    ·obtain ⟨o,e,_⟩:=x2.obj;exact nal _ _ e
   rw [Ao nc]
   exact (hf c hc).1
 done:=by
  intro X hP hw hK hc i pins s σ H E I hf st hg
  subst hP hw hK
  obtain ⟨zz,zi,⟨a,b,zo⟩,x1,x2⟩:=st
  obtain ⟨xs,ys,hq1,hq2,hl⟩:=hg
  obtain ⟨it1,rv1,sq1,lt1⟩:=IC I hq1
  obtain ⟨it2,rv2,sq2,lt2⟩:=IC I hq2
  have e1:=rv1.length
  have e2:=rv2.length
  have hh:X.A.in1.handled=none:=I.ok.hd hc
  refine Xh (Lh k1 hh p t n1 it1.toArray) (Lh k2 hh q u n2 it2.toArray) ap zz zi zo ⟨x1,sq1⟩ ⟨x2,sq2⟩ (by simp only [Bc];omega) fun h' tk kp=>⟨rfl,?_⟩
  have kk:∀c o,c∉[z,TI,TO,p,q]→s.heap.get? c=some o→h'.get? c=some o:=fun c o hc e=>by
   simp only [qa5,Do,or_false,not_or] at hc
   exact kp c o hc.1 hc.2.2.1 hc.2.2.2.1 hc.2.2.2.2 e
  have ntr:∀c o,H c=some o→c∉[z,TI,TO,p,q]:=fun c o e hc=>by
   rw [(hf c hc).1] at e;cases e
  show Inv X pins σ _ {s with heap:=h',gens:=s.gens,drawn:=s.drawn,toks:=tk}
  refine I.step (g':=s.gens) (d':=s.drawn) (t':=tk) (h':=h') (ch:=[z,TI,TO,p,q]) (fun c hc=>?_) (fun c o _ _ hc e _=>kk c o hc e) (fun c o _ _ hc e _=>⟨o.slots,kk c o hc e⟩) (fun c o _ e n=>n)
   (fun c o hc e=>⟨o,kk c o hc e⟩) (fun c zs e=>e) (fun c o v e=>e) (fun c ps e=>⟨#[],by rw [e];simp⟩) (fun m hm=>?_) (fun c o e=>?_) I.bare
  ·obtain ⟨_,c1,_,c3,c4,c5⟩:=hf c hc
   exact ⟨c3,c1,c4,c5⟩
  ·obtain ⟨o,es,ep,e,r⟩:=hm
   exact ⟨o,es,ep,kk _ o (fun hc=>(hf _ hc).2.1 rfl) e,r⟩
  ·refine (I.hok c o e).stay (fun d v hd e'=>kk d v ?_ e') (fun d e'=>e') fun d zs e'=>e'
   rcases hd with rfl |hd
   ·exact ntr d _ e
   ·exact ntr d _ hd
 self:=fun A i s Q E st h=>by cases st with |mk zz zi zo x1 x2=>exact wpAny_pyIter_zip zz h
abbrev zA (h:Heap) (k1:Bool) (t:Addr):Heap:=h.push (Hc k1 t)
abbrev zB (h:Heap) (k1 k2:Bool) (t u:Addr):Heap:=(zA h k1 t).push (Hc k2 u)
abbrev zC (h:Heap) (k1 k2:Bool) (t u:Addr):Heap:=(zB h k1 k2 t u).push {cls:=.type "tuple",data:=.seq #[.ref h.objs.size,.ref (zA h k1 t).objs.size]}
abbrev zD (h:Heap) (k1 k2:Bool) (t u:Addr):Heap:=(zC h k1 k2 t u).push {cls:=.type "tuple",data:=.seq #[.none,.none]}
abbrev zE (h:Heap) (k1 k2:Bool) (t u:Addr):Heap:=(zD h k1 k2 t u).push {cls:=.type "zip",data:=.fields #[.none,.bool false,.bool false,.ref (zB h k1 k2 t u).objs.size,.ref (zC h k1 k2 t u).objs.size]}
theorem SqA.push {k:Bool} {h:Heap} {l:Addr} {xs:Array Value} (x:SqA k h l xs) (o:Obj):SqA k (h.push o) l xs:=by
 cases k
 ·exact Heap.IsList.push x o
 ·exact Heap.IsTuple.push x o
theorem Rf {prog:Program} {w:World} {A:Around} {E:Value→Shared→Prop} {s:Shared} {k:Bool} {l:Addr} {xs:Array Value} {Q:Value→Shared→Prop} (x:SqA k s.heap l xs) (hQ:Q (.ref s.heap.objs.size) {s with heap:=s.heap.push (Hc k l)}):
 wpAny (model prog w) A (pyIter (.ref l)) Q E s:=by
 cases k
 ·exact wpAny_pyIter_list x hQ
 ·exact wpAny_pyIter_tuple x hQ
theorem Xj (k1 k2:Bool) (t u:Addr) (xs ys:Array Value):
 Meets (Builtin.«zip.__new__» ⟨[.type "zip",.ref t,.ref u],[]⟩) (fun _ R s=>SqA k1 s.heap t xs∧SqA k2 s.heap u ys∧
  R (.ok (.ret (.ref (zD s.heap k1 k2 t u).objs.size))) {s with heap:=zE s.heap k1 k2 t u}):=
 .of_wp fun prog w A R s h=>by
  obtain ⟨hp,g,d,tk,os⟩:=s;obtain ⟨hl1,hl2,h⟩:=h
  have hsub:=sub_zip
  have hL1:SqA k1 (Shared.heap ⟨hp,g,d,tk,os⟩) t xs:=hl1
  have hL2:SqA k2 (Shared.heap ⟨hp.push (Hc k1 t),g,d,tk,os⟩) u ys:=SqA.push hl2 _
  wp_walk using Rf hL1,Rf hL2
  exact ⟨_,rfl,h⟩
theorem ItAt.new {k:Bool} {h:Heap} {it l:Addr} (e:h.get? it=some (Hc k l)):ItAt k h it l 0:=by
 cases k
 ·exact ⟨_,e,rfl,rfl⟩
 ·exact ⟨_,e,rfl,rfl⟩
theorem Xk {prog:Program} {w:World} {A:Around} {E:Value→Shared→Prop} {s:Shared} {k1 k2:Bool} {t u:Addr} {xs ys:Array Value} {Q:Value→Shared→Prop} (h1:SqA k1 s.heap t xs) (h2:SqA k2 s.heap u ys)
 (h:∀h',IsZip h' (s.heap.objs.size+4) (s.heap.objs.size+2) (s.heap.objs.size+3) .none→IsPair h' (s.heap.objs.size+2) (.ref s.heap.objs.size) (.ref (s.heap.objs.size+1))→
  IsPair h' (s.heap.objs.size+3) .none .none→ItAt k1 h' s.heap.objs.size t 0→ItAt k2 h' (s.heap.objs.size+1) u 0→(∀c o,s.heap.get? c=some o→h'.get? c=some o)→Q (.ref (s.heap.objs.size+4)) {s with heap:=h'}):
 wpAny (model prog w) A (call (.type "zip") [.ref t,.ref u]) Q E s:=by
 refine callType_new F.called_zip (by decide) (F.typeCall_zip_2 _ _) (F.newCall_zip_2 _ _) (fun obj=>F.args_object_init_3 obj _ _) F.entry_zip_new
  (Xj k1 k2 t u xs ys) ⟨h1,h2,?_⟩
 have y1:(zA s.heap k1 t).objs.size=s.heap.objs.size+1:=CJ ..
 have y2:(zB s.heap k1 k2 t u).objs.size=s.heap.objs.size+2:=by rw [CJ,y1]
 have y3:(zC s.heap k1 k2 t u).objs.size=s.heap.objs.size+3:=by rw [CJ,y2]
 have y4:(zD s.heap k1 k2 t u).objs.size=s.heap.objs.size+4:=by rw [CJ,y3]
 have g5:(zE s.heap k1 k2 t u).get? (zD s.heap k1 k2 t u).objs.size=some _:=By _ rfl
 have g4:(zE s.heap k1 k2 t u).get? (zC s.heap k1 k2 t u).objs.size=some _:=AF _ (By _ rfl)
 have g3:(zE s.heap k1 k2 t u).get? (zB s.heap k1 k2 t u).objs.size=some _:=AF _ (AF _ (By _ rfl))
 have g2:(zE s.heap k1 k2 t u).get? (zA s.heap k1 t).objs.size=some (Hc k2 u):=AF _ (AF _ (AF _ (By _ rfl)))
 have g1:(zE s.heap k1 k2 t u).get? s.heap.objs.size=some (Hc k1 t):=AF _ (AF _ (AF _ (AF _ (By _ rfl))))
 show _∧_
 rw [y2,y3,y4] at g5
 rw [y1,y2] at g3
 rw [y3] at g4
 rw [y1] at g2
 rw [y4]
 exact ⟨⟨_,g5,rfl⟩,h _ g5 g3 g4 (.new g1) (.new g2) fun c o x=>AF _ (AF _ (AF _ (AF _ (AF _ x))))⟩
section
variable {X:Cx} {E:XK}
theorem Xl {elts:List Expr} {kt:Nat} {tpos p pos:Pos} {a b:Expr} {ta:TA} (hg:Gl X "zip") (hm:X.mg "zip"=none) (ha:PA X [a,b] ta) (hs:starEach [a,b] X.env=[(false,eval a X.env),(false,eval b X.env)]:=by rfl) (hs2:starEach [b] X.env=[(false,eval b X.env)]:=by rfl):
 PI X (.Tuple elts kt tpos) (.Call (.Name "zip" p) [a,b] [] pos) (fun σ H R=>ta σ H fun vs H1=>∃k1 k2 t u xs ys,vs=[.ref t,.ref u]∧Eg k1 X.K H1 t xs∧Eg k2 X.K H1 u ys∧R (Rc X.K k1 k2 t u) H1):=by
 intro pins s σ H R I h
 refine Call_ (GO I hg hm PyProof.Rows.boot_zip (PyProof.Rows.callWith_type1 (Az (ha pos pins s σ H _ I h) fun us s1 ⟨vs,H1,I1,r1,q1⟩=>?_) (by rw [hs,hs2]) (by rw [hs2];rfl)))
 obtain ⟨k1,k2,t,u,xs,ys,e,hq1,hq2,q⟩:=q1
 subst e
 cases r1 with
 |cons r rr=>
  cases rr with
  |cons r' rr=>
   cases rr
   cases r
   cases r'
   obtain ⟨it1,rv1,sq1,lt1⟩:=IC I1 hq1
   obtain ⟨it2,rv2,sq2,lt2⟩:=IC I1 hq2
   refine Xk sq1 sq2 fun h' zz zi zo x1 x2 kp=>wpAny_pyIter_zip (s:={s1 with heap:=h'}) zz ?_
   have I2:Inv X pins σ H1 {s1 with heap:=h'}:=I1.kept (t':=s1.toks) kp
   have fr:∀c,s1.heap.objs.size≤c→Dq X pins H1 c:=fun c hc=>I1.fpOk hc (I1.hok.fresh hc)
   have m0:s1.heap.objs.size≠s1.heap.objs.size+4:=BI (by omega)
   have ap:IB (s1.heap.objs.size+4) (s1.heap.objs.size+2) (s1.heap.objs.size+3) s1.heap.objs.size (s1.heap.objs.size+1) [s1.heap.objs.size,t] [s1.heap.objs.size+1,u]:=by
    generalize s1.heap.objs.size=n at lt1 lt2
    exact ⟨BI (by omega),BI (by omega),BI (by omega),BI (by omega),BI (by omega),Ci (by omega),Ci (by omega),Ci (by omega),Ci (by omega),BI (by omega),
     fun z=>by simp only [qa5,Do,or_false] at z;rcases z with z |z;exact absurd z (Ci (by omega));exact absurd z (Ci (Bb lt1 (FI _ _))),
     fun z=>by simp only [qa5,Do,or_false] at z;rcases z with z |z;exact absurd z (Ci (by omega));exact absurd z (Ci (Bb lt2 (FI _ _))),
     fun z=>by simp only [qa5,Do,or_false] at z;rcases z with z |z;exact absurd z (Ci (by omega));exact absurd z (Ci (Bb lt1 (FI _ _))),
     fun z=>by simp only [qa5,Do,or_false] at z;rcases z with z |z;exact absurd z (Ci (by omega));exact absurd z (Ci (Bb lt2 (FI _ _))),
     fun z=>by simp only [qa5,Do,or_false] at z;rcases z with z |z;exact absurd z (BI (by omega));exact absurd z (Ci lt2),
     fun z=>by simp only [qa5,Do,or_false] at z;rcases z with z |z;exact absurd z (Ci (by omega));exact absurd z (Ci (Bb lt1 (FI _ _)))⟩
   refine ⟨s1.heap.objs.size+4,[s1.heap.objs.size+4,s1.heap.objs.size+2,s1.heap.objs.size+3,s1.heap.objs.size,s1.heap.objs.size+1],_,_,H1,rfl,I2,Xi k1 k2 _ _ _ _ _ t u ap (BK lt1) (BK (HQ lt2)),⟨zz,zi,⟨_,_,zo⟩,x1,x2⟩,fun c hc=>?_,q⟩
   simp only [qa5,Do,or_false] at hc
   rcases hc with rfl |rfl |rfl |rfl |rfl
   ·exact fr _ (FI _ _)
   ·exact fr _ (FI _ _)
   ·exact fr _ (FI _ _)
   ·exact fr _ (AO _)
   ·exact fr _ (FI _ _)
def ID (xs ys:List D):List D:=List.zipWith (fun a b=>.tup [a,b]) xs ys
def Fs:D→HD→Option (List D×Bi)
 |.tup xs,_=>some (xs,[])
 |.loc l,h=>match h[l]? with
  |some (.lst xs)=>some (xs,[(l,xs)])
  |_=>none
 |_,_=>none
def Li:List D→HD→Out (List D×Bi):=fun ds h=>match ds with
 |[x,y]=>match Fs x h,Fs y h with
  |some (xs,s1),some (ys,s2)=>.ok (ID xs ys,s1++s2) h
  |_,_=>.stuck
 |_=>.stuck
def Lj (fa:MA):MI:=fun ρ h=>(fa ρ h).bind Li
theorem Rg {m:List Addr} {h:HD} {d:D} {v:V} {H:Hp} {xs:List D} {sr:Bi} (hr:HR X.K m h H) (r:DV X.K m H d v) (e:Fs d h=some (xs,sr)):
 ∃k t,v=.ref t∧∀m2 h2 H2,m <+:m2→Kp H H2→HR X.K m2 h2 H2→(∀p∈sr,h2[p.1]?=some (.lst p.2))→∃vs,Eg k X.K H2 t vs∧DVs X.K m2 H2 xs vs:=by
 cases d with
 |tup zs=>
  simp only [Fs,Option.some.injEq,Prod.mk.injEq] at e
  obtain ⟨rfl,rfl⟩:=e
  simp only [DV] at r
  obtain ⟨a,vs,rfl,ha,dv⟩:=r
  exact ⟨true,a,rfl,fun m2 h2 H2 p2 k2 hr2 _=>⟨vs,SqT.of (k2 _ _ ha rfl),dv.keep p2 k2⟩⟩
 |loc l=>
  simp only [Fs] at e
  split at e
  ·rename_i zs el
   simp only [Option.some.injEq,Prod.mk.injEq] at e
   obtain ⟨rfl,rfl⟩:=e
   simp only [DV] at r
   obtain ⟨a,rfl,ha⟩:=r
   refine ⟨false,a,rfl,fun m2 h2 H2 p2 k2 hr2 hs=>?_⟩
   obtain ⟨ws,hw,dw⟩:=hr2.cells l _ a (hs _ A0) (Jl p2 ha)
   exact ⟨ws,SqL.of hw,dw⟩
  ·cases e
 |_=>simp [Fs] at e
theorem Rh {h:HD} {d:D} {xs:List D} {sr:Bi} (e:Fs d h=some (xs,sr)):∀p∈sr,h[p.1]?=some (.lst p.2):=by
 cases d with
 |tup zs=>
  simp only [Fs,Option.some.injEq,Prod.mk.injEq] at e
  obtain ⟨rfl,rfl⟩:=e
  exact fun p hp=>nomatch hp
 |loc l=>
  simp only [Fs] at e
  split at e
  ·rename_i zs el
   simp only [Option.some.injEq,Prod.mk.injEq] at e
   obtain ⟨rfl,rfl⟩:=e
   intro p hp
   rw [qaF] at hp
   subst hp
   exact el
  ·cases e
 |_=>simp [Fs] at e
theorem Xm {elts:List Expr} {kt:Nat} {tpos p pos:Pos} {a b:Expr} {fa:MA} (hg:Gl X "zip") (hm:X.mg "zip"=none) (ha:Ct X E [a,b] fa) (hs:starEach [a,b] X.env=[(false,eval a X.env),(false,eval b X.env)]:=by rfl) (hs2:starEach [b] X.env=[(false,eval b X.env)]:=by rfl):
 ED X E (.Tuple elts kt tpos) (.Call (.Name "zip" p) [a,b] [] pos) (Lj fa):=
 Jy (Xl hg hm ha hs hs2) fun σ H R ⟨m,ρ,h,hr,er,p⟩=>⟨m,ρ,h,hr,er,Post.bind p fun x h1 v m1 H1 eo p1 k1 hr1 r1 q1=>by
  clear eo
  unfold Li at q1
  split at q1
  ·rename_i d1 d2
   split at q1
   ·rename_i xs s1 ys s2 e1 e2
    simp only [Ec,DVs] at r1
    obtain ⟨v1,w1,rfl,rv1,v2,w2,rfl,rv2,rfl⟩:=r1
    obtain ⟨kd1,t,rfl,f1⟩:=Rg hr1 rv1 e1
    obtain ⟨kd2,u,rfl,f2⟩:=Rg hr1 rv2 e2
    obtain ⟨vs1,sq1,_⟩:=f1 m1 h1 H1 (AJ _) (.refl _) hr1 (Rh e1)
    obtain ⟨vs2,sq2,_⟩:=f2 m1 h1 H1 (AJ _) (.refl _) hr1 (Rh e2)
    refine ⟨kd1,kd2,t,u,vs1,vs2,rfl,sq1,sq2,q1 _ m1 H1 (AJ _) (.refl _) hr1 fun i m2 h2 H2 p2 k2 hr2 hsr=>?_⟩
    obtain ⟨ws1,sw1,dw1⟩:=f1 m2 h2 H2 p2 k2 hr2 fun p hp=>hsr p (GG _ hp)
    obtain ⟨ws2,sw2,dw2⟩:=f2 m2 h2 H2 p2 k2 hr2 fun p hp=>hsr p (BC _ hp)
    have n1:=dw1.len
    have n2:=dw2.len
    have nl:(ID xs ys).length=min xs.length ys.length:=by simp [ID]
    refine ⟨fun hi=>?_,fun hi=>⟨ws1,ws2,sw1,sw2,by dsimp only at hi;omega⟩⟩
    dsimp only at hi
    have i1:i<xs.length:=by omega
    have i2:i<ys.length:=by omega
    refine ⟨⟨ws1,ws2,sw1,sw2,by omega,by omega⟩,fun y H3 z3_=>?_⟩
    obtain ⟨pp,vv,vv',hp,ey,ev,ev',eH⟩:=z3_
    subst ey eH
    have g1:xs[i]?=some xs[i]:=A6 i1
    have g2:ys[i]?=some ys[i]:=A6 i2
    obtain ⟨c1,z1,r1'⟩:=dw1.get g1
    obtain ⟨c2,z2,r2'⟩:=dw2.get g2
    rw [ev ws1 sw1] at z1
    rw [ev' ws2 sw2] at z2
    cases z1
    cases z2
    refine ⟨.new hp,hr2.new hp,.tup [xs[i],ys[i]],?_,?_⟩
    ·simp [ID,List.getElem?_zipWith,g1,g2]
    ·simp only [DV]
     exact ⟨pp,_,rfl,Bt,.cons (DV.keep (AJ _) (.new hp) r1') (.cons (DV.keep (AJ _) (.new hp) r2') .nil)⟩
   ·exact q1.elim
  ·exact q1.elim⟩
end
end LS
namespace LS
open PySem PySem.Spec PyProof.Rows L2
section
variable {ρ:Ai} {h:HD} {QI:(List D×Bi)→HD→Prop} {Q:D→HD→Prop} {QO:Option Int→HD→Prop} {QS:Fl×Ai→HD→Prop} {f fo fi fv:ME} {lo hi:MO} {fa:MA}
@[simp] theorem Zdg:Wp (Hb fa ρ h) QI=Wp (fa ρ h) fun d h1=>Wp (JJ d h1) QI:=by unfold Hb;rw [AD]
@[simp] theorem Zdh:Wp (Lj fa ρ h) QI=Wp (fa ρ h) fun d h1=>Wp (Li d h1) QI:=by unfold Lj;rw [AD]
@[simp] theorem Zdi:Wp (Q5 f lo hi ρ h) Q=Wp (f ρ h) fun x h1=>Wp (lo ρ h1) fun l h2=>Wp (hi ρ h2) fun u h3=>Wp (Q4 x l u h3) Q:=by unfold Q5;simp only [AD]
@[simp] theorem Zdj:Wp (BF ρ h) QO=QO none h:=id rfl
@[simp] theorem Zdk:Wp (BA f ρ h) QO=Wp (f ρ h) fun x h1=>Wp (match x with
  |.int i=>(.ok (some i) h1:Out (Option Int))
  |_=>.stuck) QO:=by unfold BA;rw [AD]<;>rfl
@[simp] theorem Zdl:Wp (Q8 fo fi fv ρ h) QS=Wp (fo ρ h) fun o h1=>Wp (fi ρ h1) fun i h2=>Wp (Q7 o i h2) fun x h3=>Wp (fv ρ h3) fun y h4=>Wp (Q6 o i x y ρ h4) QS:=by unfold Q8;simp only [AD]
theorem Xn {n:Nat} {e:Nat→D}:EI ((List.range n).map e)=(List.range n).map fun k=>D.tup [.int ((k:Nat):Int),e k]:=by
 unfold EI
 apply List.ext_getElem
 ·simp
 ·intro i h1 h2;simp
theorem NJ {n:Nat} {e:Nat→D}:JJ [.tup ((List.range n).map e)] h=.ok ((List.range n).map fun k=>D.tup [.int ((k:Nat):Int),e k],[]) h:=by
 simp only [JJ,Xn]
theorem Ri {l:Nat} {F:List Int→Int} {ns:List Int} (e:h[l]?=some (.lst (ns.map D.int))) (hn:ns≠[]):FO F (.loc l) h=.ok (.int (F ns)) h:=by
 simp only [FO,e,Fe]
 rw [JD (f:=Gp∘D.int) (g:=id) (fun x _=>rfl)]
 simp only [List.map_id,if_neg hn]
theorem Hd {l:Nat} {ds:List D} (e:h[l]?=some (.lst ds)):Io (.loc l) h=.ok (ds,[(l,ds)]) h:=by
 simp only [Io,BM,e,Qg]
theorem Rj {l:Nat} {ds:List D} (e:h[l]?=some (.lst ds)):Bk (.loc l) h=.ok (.int ds.length) h:=by
 simp only [Bk,BM,e]
theorem Rk {a:D}:∀n:Nat,(List.replicate n [a]).flatten=List.replicate n a
 |0=>rfl
 |n+1=>by rw [F4,GJ,Rk n];rfl
theorem Xo {l n:Nat} {a:D} (e:h[l]?=some (.lst [a])) (hn:n≤1000):DR (.loc l) (.int (n:Nat)) h=CL (List.replicate n a) h:=by
 have:(-(2^63):Int)≤(n:Int)∧(n:Int)<2^63:=by omega
 simp only [DR,e]
 rw [if_pos this]
 simp [Rk]
end
noncomputable def NK (cs:List (Option Nat)) (it:MI) (sg:MG) (t:MT) (f:ME):ME:=Ah (Aq Gq) (Aa (Bf cs it sg t f) Ad)
noncomputable def NL (F:List Int→Int) (cs:List (Option Nat)) (it:MI) (sg:MG) (t:MT) (f:ME):ME:=Ah (Aq (FO F)) (Aa (Bf cs it sg t f) Ad)
section
variable {α:Type} {cs:List (Option Nat)} {it:MI} {sg:MG} {t:MT} {f:ME} {ρ:Ai} {h:HD} {src:Bi} {xs:List α} {φ:α→D} {F:List Int→Int}
@[simp] theorem Zdm:Ah (Aq Gq) (Aa (Bf cs it sg t f) Ad) ρ h=NK cs it sg t f ρ h:=rfl
@[simp] theorem Zdn:Ah (Aq (FO F)) (Aa (Bf cs it sg t f) Ad) ρ h=NL F cs it sg t f ρ h:=rfl
theorem Rl (n:α→Int) (ρ1:α→Ai) (hi:CA (it ρ h) h (xs.map φ) src) (hg:∀x∈xs,sg (φ x) (Cz cs ρ)=some (ρ1 x)) (hf:∀x∈xs,∀h',Sm h h'→Pu (f (ρ1 x) h') h' (.int (n x))) (hn:xs.length≤sizeLine):
 Pu (NK cs it sg Bq f ρ h) h (.int (xs.map n).sum):=by
 unfold Pu NK
 rw [JC,G4]
 refine Gv (fun _=>true) (fun x=>.int (n x)) ρ1 hi hn hg (fun x hx h' s'=>(.ok:Pu (.ok true h') h' true)) (fun x hx _ h' s'=>hf x hx h' s') fun l h' s' e'=>?_
 rw [DG] at e'
 rw [Gu]
 simp only [Aq,Gq,BM,e',Fe]
 rw [JD (f:=Gp∘fun x=>D.int (n x)) (g:=n) (fun x _=>rfl)]
 exact ⟨rfl,s'⟩
theorem Xp (n:α→Int) (ρ1:α→Ai) (hi:CA (it ρ h) h (xs.map φ) src) (hg:∀x∈xs,sg (φ x) (Cz cs ρ)=some (ρ1 x)) (hf:∀x∈xs,∀h',Sm h h'→Pu (f (ρ1 x) h') h' (.int (n x))) (hn:xs.length≤sizeLine) (hne:xs≠[]):
 Pu (NL F cs it sg Bq f ρ h) h (.int (F (xs.map n))):=by
 unfold Pu NL
 rw [JC,G4]
 refine Gv (fun _=>true) (fun x=>.int (n x)) ρ1 hi hn hg (fun x hx h' s'=>(.ok:Pu (.ok true h') h' true)) (fun x hx _ h' s'=>hf x hx h' s') fun l h' s' e'=>?_
 rw [DG] at e'
 rw [Gu,QN,Ri (ns:=xs.map n) (by rw [e',Fe];rfl) (by simpa using hne)]
 exact ⟨rfl,s'⟩
end
section
variable {X:Cx} {E:XK}
end
section
variable {X:Cx}
def Rm:D→HD→Out D:=fun x h=>match x with
 |.loc l=>match h[l]? with
  |some (.lst ds)=>match A2 (ds.map Iu) with
   |some bs=>.ok (.bl (bs.any id)) h
   |none=>.stuck
  |_=>.stuck
 |_=>.stuck
end
noncomputable def Xq (cs:List (Option Nat)) (it:MI) (sg:MG) (t:MT) (f:ME):ME:=Ah (Aq Rm) (Aa (Bf cs it sg t f) Ad)
section
variable {α:Type} {cs:List (Option Nat)} {it:MI} {sg:MG} {t:MT} {f:ME} {ρ:Ai} {h:HD} {src:Bi} {xs:List α} {φ:α→D}
@[simp] theorem Zdo:Ah (Aq Rm) (Aa (Bf cs it sg t f) Ad) ρ h=Xq cs it sg t f ρ h:=rfl
end
end LS
namespace LK
open LS
def Xr (n:Nat) (r:Nat→Bool):Int:=((List.range n).map fun j=>if r j then (1:Int) else 0).sum
theorem Rn {α:Type} {f g:α→Int} {xs:List α} (h:∀x∈xs,f x=g x):(xs.map f).sum=(xs.map g).sum:=by
 rw [GI h]
def cc (H:Nat) (f:Nat→Nat→Bool) (R:Nat→Bool) (j:Nat):Int:=Xr H fun i=>Bool.xor (f i j) (R i)
def Xs (W:Nat) (H:Int) (c:Nat→Int) (C:Nat→Bool):Int:=((List.range W).map fun j=>if C j then H - c j else c j).sum
def Xu (W:Nat) (H:Int) (c:Nat→Int):Int:=((List.range W).map fun j=>if H - c j<c j then H - c j else c j).sum
def TT (H W:Nat) (f:Nat→Nat→Bool) (R C:Nat→Bool):Int:=Xs W H (cc H f R) C
def ext (n:Nat) (R:Nat→Bool):Nat→Bool:=fun i=>if i=n then true else R i
def LL (s:Nat):Nat→List (Nat→Bool)
 |0=>[fun _=>false]
 |k+1=>LL s k++(LL s k).map (ext (s+k))
theorem Lk {s:Nat}:∀{k:Nat} {R:Nat→Bool},R∈LL s k→∀i,i<s∨s+k≤i→R i=false
 |0,R,h,i,_=>by
  simp only [LL,qaF] at h
  subst h;rfl
 |k+1,R,h,i,hi=>by
  rcases qaP.mp h with z |z
  ·exact Lk z i (by omega)
  ·obtain ⟨R',z1,rfl⟩:=qaL.mp z
   unfold ext
   rw [if_neg (by omega)]
   exact Lk z1 i (by omega)
theorem Ro {s:Nat} (R:Nat→Bool):∀k:Nat,∃R'∈LL s k,∀i,s≤i→i<s+k→R' i=R i
 |0=>⟨_,A0,fun i h1 h2=>by omega⟩
 |k+1=>by
  obtain ⟨R',h1,h2⟩:=Ro R k
  cases e:R (s+k) with
  |false=>
   refine ⟨R',GG _ h1,fun i hi hi2=>?_⟩
   by_cases hz:i=s+k
   ·rw [hz,e];exact Lk h1 _ (by omega)
   ·exact h2 i hi (by omega)
  |true=>
   refine ⟨ext (s+k) R',BC _ (qaL.mpr ⟨R',h1,rfl⟩),fun i hi hi2=>?_⟩
   unfold ext
   by_cases hz:i=s+k
   ·rw [if_pos hz,hz,e]
   ·rw [if_neg hz];exact h2 i hi (by omega)
theorem Ll {s:Nat}:∀k,(LL s k).length=2^k
 |0=>rfl
 |k+1=>by simp only [LL,Dw,Cb,Ll k];omega
def Zdp (H W:Nat) (f:Nat→Nat→Bool):Int:=DU ((LL 1 (H - 1)).map fun R=>Xu W H (cc H f R))
theorem NM {s k:Nat}:LL s k≠[]:=fun h=>by
 have:=Ll (s:=s) k
 rw [h] at this
 have:0<2^k:=Nat.two_pow_pos k
 simp_all
end LK
namespace LS
open PySem PySem.Spec PyProof.Rows L2 PySem.W
structure EC (K:Frag) (C:Addr):Prop where
 ga:findIn K (.ref C) "__getattribute__"=some (some (.builtin "BaseException.__getattribute__"))
 gt:findIn K (.ref C) "__getattr__"=some none
 cl:(clsIn K C).isSome=true
 ac:findIn K (.ref C) "__class__"=some (some (.builtin "object.__class__"))
 sg:specialIn K (.builtin "object.__class__") "__get__"=some (some (.builtin "getset_descriptor.__get__"))
 tk:takesIn K (.builtin "object.__class__")=some true
 mo:mroIn K C (.type "object")=some true
 mb:mroIn K C (.type "BaseException")=some true
section
variable {prog:Program} {w:World} {A:Around} {E:Value→Shared→Prop} {s:Shared} {K:Frag} {x C:Addr} {ox:Obj} {od:Option Obj}
def TyAt (x C:Addr) (h:Heap):Prop:=∃o,h.get? x=some o∧o.cls=.ref C
theorem TyAt.type {M:Model} {h:Heap} (t:TyAt x C h):Looks M h (typeOf (.ref x)) (.ref C):=by
 obtain ⟨o,h1,h2⟩:=t
 exact h2 ▸ (Looks.ld h1).andThen .now
theorem Xv {M:Model} {h:Heap} (c:EC K C) (X:K.In h):Looks M h (Builtin.ObjectAttr.find (.ref x) (.ref C) "__class__") (.bind (.builtin "getset_descriptor.__get__") (.builtin "object.__class__")):=by
 have L1:=looks_findIn (M:=M) X c.ac
 have L2:Looks M h (Builtin.ObjectAttr.getOf (some (.builtin "object.__class__"))) (some (.builtin "getset_descriptor.__get__")):=looks_specialIn X c.sg
 have L3:=looks_takesIn (M:=M) X c.tk
 refine L1.andThen (L2.andThen ?_)
 exact (show Looks M h (Builtin.ObjectAttr.dataDescriptor? (some (.builtin "object.__class__")) (some (.builtin "getset_descriptor.__get__"))) (some (.builtin "getset_descriptor.__get__",.builtin "object.__class__")) from L3.andThen .now).andThen (Looks.tag .now)
theorem Xw {R:Result→Shared→Prop} {tp:Value} (X:K.In s.heap) (I:TyAt x C s.heap) (hm:mroIn K C (.type "object")=some true)
 (h:R (.ok (.ret (.ref C))) s):codeAny (model prog w) A (.call (.builtin "getset_descriptor.__get__") ⟨[.builtin "object.__class__",.ref x,tp],[]⟩) R s:=by
 obtain ⟨hh,g,dr,t,os⟩:=s
 have L0:=I.type (M:=model prog w)
 have L1:=looks_mroIn (M:=model prog w) X hm
 refine codeAny_call_builtin KF.slot_gs.plain KF.entry_gs (KF.slot_gs.check _ _ _ _ _ _ _ _ KF.type_class (KF.args_gs _ _ _) ?_)
 unfold Builtin.«getset_descriptor.__get__» Builtin.Getset_descriptor.descrGet
 rw [dga_obj]
 refine wpAny_bind (wpAny_pure ?_)
 unfold Builtin.Getset_descriptor.descrGetter Builtin.Getset_descriptor.descrCheckInstance Builtin.Getset_descriptor.descrNameAndClass isInstance
 simp only [KF.owner_class]
 repeat lk
 refine ⟨Code.quiet_builtin _ (by decide +kernel),codeAny_builtin KF.entry_class ?_⟩
 unfold Builtin.«object.__class__» shownTypeOf
 repeat lk
 exact h
theorem Xx {Q:Option Value→Shared→Prop} (c:EC K C) (X:K.In s.heap) (I:TyAt x C s.heap) (h:Q (some (.ref C)) {s with toks:=s.toks+1}):wpAny (model prog w) A (getAttr? (.ref x) "__class__") Q E s:=by
 obtain ⟨hh,g,d,t,os⟩:=s
 have L0:=I.type (M:=model prog w)
 have L1:=looks_findIn (M:=model prog w) X c.ga
 have L2:=looks_findIn (M:=model prog w) X c.gt
 have LF:=Xv (M:=model prog w) (x:=x) c X
 have LB:=looks_mroIn (M:=model prog w) X c.mb
 have ha:=F.args_bexc_ga (.ref x) (.str "__class__" t)
 have hk:builtinKind "BaseException.__getattribute__"=some .slot:=by decide +kernel
 have hsplit:splitId "BaseException.__getattribute__"=some ("BaseException","__getattribute__"):=by decide +kernel
 have hx2:(Value.builtin "BaseException.__getattribute__"==Value.builtin "object.__getattribute__")=false:=by decide +kernel
 have hx1:(onTheHeap (Value.ref C)&&Value.builtin "BaseException.__getattribute__"==Value.builtin "object.__getattribute__")=false:=by rw [hx2];rfl
 unfold getAttr? getAttrBy? getAttrBy
 refine wpAny_bind (wpAny_mkText (wpAny_bind (wpAny_attempt (wpAny_holding (wpAny_bind (L0.at (wpAny_bind (L1.at ?_))))))))
 dsimp only
 rw [hx1]
 simp only [Dx,if_false]
 unfold getAttrByItsOwn hookBefore
 refine wpAny_bind ?_
 show wpAny _ _ (typeLookup (.ref C) "__getattr__") _ _ _
 refine L2.at ?_
 refine wpAny_bind (wpAny_attempt (wpAny_holding ?_))
 unfold callGetattribute boundAndCalled
 simp only [Je,Dx,if_false]
 rw [PySem.F.attr_ValueError.ga.bind (.ref x)]
 refine wpAny_bind (wpAny_pure (wpAny_call (codeAny_call_builtin PySem.F.attr_ValueError.ga.plain F.entry_bexc_ga ?_)))
 simp only [checkBuiltinCall,hk,hsplit]
 refine wpAny_bind ?_
 unfold isInstance
 refine wpAny_bind (L0.at (LB.at ?_))
 wp_step
 unfold Builtin.«object.__getattribute__»
 repeat lk
 refine wpAny_run (Xw (s:=⟨hh,g,d,t+1,os⟩) X I c.mo ?_) (by intro z;cases z)
 refine wpAny_pure (wpAny_pure ?_)
 exact handed_on rfl (wpAny_pure h)
theorem Xy (c:EC K C):KitX K (.ref x) (.ref C) (TyAt x C) where
 ty:=fun _ _ _ I=>I.type
 it:=fun _ _ X _=>by
  obtain ⟨cdD,hcD⟩:=qbO.mp c.cl
  unfold clsIn at hcD
  split at hcD
  ·rename_i c' d' cd' sl' ho
   intro A' Q' E' s' k q
   unfold isType loadHead
   exact wpAny_bind (wpAny_loadPart (k _ _ (X _ _ ho)) (wpAny_pure q))
  ·cases hcD
 ne:=fun h tp dd its n sl X htp=>by
  obtain ⟨cdD,hcD⟩:=qbO.mp c.cl
  refine Bool.eq_false_iff.mpr fun q=>?_
  have e:C=tp:=Value.ref.inj (beq_iff_eq.mp q)
  subst e
  unfold clsIn at hcD
  split at hcD
  ·rename_i c' d' cd' sl' ho
   have z:=(X _ _ ho).symm.trans htp
   cases z
  ·cases hcD
 ca:=fun X I k=>Xx c X I k
end
def excNames:List Str:=["NoBoard","NoLine","NoSwitching","NoNumber","Unlike","NoNet","NoPlace","NoText","NoRow","TooMany","SwitchError"]
def Bm (n n':Str):Bool:=n==n'||n'=="SwitchError"
def NO (K:Frag) (C:Addr):Bool:=
 findIn K (.ref C) "__getattribute__"==some (some (.builtin "BaseException.__getattribute__"))&&findIn K (.ref C) "__getattr__"==some none&&(clsIn K C).isSome&&
 findIn K (.ref C) "__class__"==some (some (.builtin "object.__class__"))&&specialIn K (.builtin "object.__class__") "__get__"==some (some (.builtin "getset_descriptor.__get__"))&&
 takesIn K (.builtin "object.__class__")==some true&&mroIn K C (.type "object")==some true&&mroIn K C (.type "BaseException")==some true
theorem Xz {K:Frag} {C:Addr} (h:NO K C=true):EC K C:=by
 unfold NO at h
 simp only [BR,beq_iff_eq] at h
 obtain ⟨⟨⟨⟨⟨⟨⟨h1,h2⟩,h3⟩,h4⟩,h5⟩,h6⟩,h7⟩,h8⟩:=h
 exact ⟨h1,h2,h3,h4,h5,h6,h7,h8⟩
def Ft (K:Frag) (n:Str):Option Addr:=match nsIn K mainGlobals n with
 |some (some (.ref C))=>some C
 |_=>none
theorem Rq {K:Frag} {n:Str} {C:Addr} (h:Ft K n=some C):nsIn K mainGlobals n=some (some (.ref C)):=by
 unfold Ft at h
 split at h
 ·rename_i e;cases h;exact e
 ·cases h
def NP (K:Frag) (n:Str) (C S:Addr):Bool:=
 NO K C&&kitOne K (.ref C) (.type "ValueError")==some true&&(n=="TooMany"||ND K C JI "ValueError.__new__")&&exmOne K (.ref C) (.ref S)==some true&&
  excNames.all fun n'=>match Ft K n' with
   |some C'=>kitOne K (.ref C) (.ref C')==some (Bm n n')
   |none=>false
def etOk (K:Frag):Bool:=match Ft K "SwitchError" with
 |some S=>excNames.all fun n=>match Ft K n with
  |some C=>NP K n C S
  |none=>false
 |none=>false
structure ET (K:Frag) (n:Str) (C:Addr):Prop where
 ec:EC K C
 ve:kitOne K (.ref C) (.type "ValueError")=some true
 at_:n≠"TooMany"→NB K C JI "ValueError.__new__"
 sw:∀S,nsIn K mainGlobals "SwitchError"=some (some (.ref S))→exmOne K (.ref C) (.ref S)=some true
 sub:∀n' C',n'∈excNames→nsIn K mainGlobals n'=some (some (.ref C'))→kitOne K (.ref C) (.ref C')=some (Bm n n')
theorem Lm {K:Frag} (h:etOk K=true) {n:Str} {C:Addr} (hn:n∈excNames) (hC:nsIn K mainGlobals n=some (some (.ref C))):ET K n C:=by
 unfold etOk at h
 split at h
 ·rename_i S hS
  have h1:=qaJ.mp h n hn
  have e:Ft K n=some C:=by unfold Ft;rw [hC]
  rw [e] at h1
  have h1:NP K n C S=true:=h1
  unfold NP at h1
  simp only [BR,beq_iff_eq,Bool.or_eq_true] at h1
  obtain ⟨⟨⟨⟨a1,a2⟩,a3⟩,a4⟩,a5⟩:=h1
  refine ⟨Xz a1,a2,fun z=>W8 (a3.resolve_left z),fun S' hS'=>?_,fun n' C' hn' hC'=>?_⟩
  ·have:=Rq hS
   rw [this] at hS'
   cases hS'
   exact a4
  ·have z:=qaJ.mp a5 n' hn'
   have e':Ft K n'=some C':=by unfold Ft;rw [hC']
   rw [e'] at z
   exact beq_iff_eq.mp z
 ·cases h
section
variable {X:Cx} {E:XK}
theorem XA {x:Str} {a:Addr} {pos:Pos} (hg:Gl X x) (hn:nsIn X.K mainGlobals x=some (some (.ref a))) (hd:(x==("__debug__":Str))=false:=by decide):Ev X E (.Name x pos) (mC (.glo x)):=
 fun pins s σ H Q I z1_=>by obtain ⟨m,ρ,h,hr,er,p⟩:=z1_;exact (F6 I hg (mg_of I.mod.kin I.mod.glob hn) ⟨.ref a,H,I,rfl,p (.ref a) m H (AJ _) (.refl _) hr (by simp only [rD,DV];exact ⟨a,rfl,hn⟩)⟩ hd)
def IE {α:Type}:Out α→Prop
 |.err _ _ _=>False
 |_=>True
theorem Post.noE {α β:Type} {K:Frag} {R:List Addr→Hp→α→β→Prop} {m:List Addr} {H:Hp} {E E':XK} {Q:β→Hp→Prop} {o:Out α} (n:IE o) (h:Post K R m H E Q o):Post K R m H E' Q o:=by
 cases o with
 |ok a h1=>exact h
 |err C fs h1=>exact False.elim n
 |stuck=>exact h
theorem Rr {f:Value} {F:List D→HD→Out D} (hF:∀ds h,IE (F ds h))
 (hc:∀(pins:List (Addr×Obj)) (s:Shared) (σ:L2.St) (H:Hp) (m:List Addr) (h:HD) (ds:List D) (vs:List V) (us:List Value) (Q:VK),Inv X pins σ H s→HR X.K m h H→DVs X.K m H ds vs→Vals vs us→Post X.K (rD X.K) m H E0 Q (F ds h)→
  wpAny (model X.prog X.w) X.A (call f us) (EP X pins σ Q) X.xe s):Dc X f F:=
 ⟨fun vs H Q=>∃m h ds,HR X.K m h H∧DVs X.K m H ds vs∧Post X.K (rD X.K) m H E0 Q (F ds h),fun pins s σ H vs us Q I r z2_=>by obtain ⟨m,h,ds,hr,rd,q⟩:=z2_;exact (hc pins s σ H m h ds vs us Q I hr rd r q),fun m H h E ds vs Q hr rd q=>⟨m,h,ds,hr,rd,Post.noE (hF ds h) q⟩⟩
def AR:D→D→HD→Out D:=fun x y h=>match x with
 |.exc n _=>(match y with
  |.glo n'=>if n∈excNames∧n'∈excNames then .ok (.bl (Bm n n')) h else .stuck
  |.ty T=>if n∈excNames∧T="ValueError" then .ok (.bl true) h else .stuck
  |_=>.stuck)
 |.edic=>(match y with
  |.ty T=>(match K0 "dict" T with
   |some b=>.ok (.bl b) h
   |none=>.stuck)
  |_=>.stuck)
 |_=>BO x y h
theorem XB (pins:List (Addr×Obj)) (s:Shared) (σ:L2.St) (H:Hp) (m:List Addr) (h:HD) (x y:D) (v v':V) (u u':Value) (Q:VK) (I:Inv X pins σ H s) (hr:HR X.K m h H) (rx:DV X.K m H x v) (ry:DV X.K m H y v') (r:RelV v u) (r':RelV v' u')
 (q:Post X.K (rD X.K) m H E0 Q (BO x y h)):wpAny (model X.prog X.w) X.A (call (.builtin "isinstance") [u,u']) (EP X pins σ Q) X.xe s:=by
 unfold BO at q
 split at q
 ·rename_i T t et
  split at q
  ·rename_i b eb
   simp only [DV] at ry
   subst ry
   cases (show u'=Value.type T from r')
   exact U6 I r (Ww hr rx et) (Qv eb) fun tk=>⟨.bl b,H,I.tok _,rfl,Bp hr q (by simp [DV])⟩
  ·exact q.elim
 ·exact q.elim
theorem CB (et:etOk X.K=true):Dc X (.builtin "isinstance") (Br AR):=by
 refine Rr (fun ds h=>?_) fun pins s σ H m h ds vs us Q I hr rd r q=>two_of rd q fun x y v v' ev rx ry q=>?_
 ·unfold Br AR BO
  repeat' split
  all_goals trivial
 ·subst ev
  obtain ⟨u,u',rfl,r1,r2⟩:=Ky r
  unfold AR at q
  split at q
  ·rename_i n fs
   simp only [DV] at rx
   obtain ⟨a,C,da,rfl,hC,ha,_⟩:=rx
   cases (show u=Value.ref a from r1)
   obtain ⟨⟨o,ws,ho,hcl,hdi,hdat⟩,_⟩:=(show ObjOk X.prog X.w H s.heap a (.ext (Fh C da a)) from I.hok a _ ha)
   have key:∀(c:Value) (b:Bool),EC X.K C→kitOne X.K (.ref C) c=some b→Q (.bl b) H→wpAny (model X.prog X.w) X.A (call (.builtin "isinstance") [.ref a,c]) (EP X pins σ Q) X.xe s:=by
    intro c b ec e q
    exact kia_one (Xy ec) I.kIn ⟨o,ho,hcl⟩ e (fun z=>nomatch z) fun tk=>⟨.bl b,H,I.tok _,rfl,q⟩
   split at q
   ·rename_i n'
    split at q
    ·rename_i hn
     simp only [DV] at ry
     obtain ⟨C',rfl,hC'⟩:=ry
     cases (show u'=Value.ref C' from r2)
     have t:=Lm et hn.1 hC
     exact key _ _ t.ec (t.sub n' C' hn.2 hC') (Bp hr q (by simp [DV]))
    ·exact q.elim
   ·rename_i T
    split at q
    ·rename_i hn
     simp only [DV] at ry
     subst ry
     cases (show u'=Value.type T from r2)
     obtain ⟨hn,rfl⟩:=hn
     have t:=Lm et hn hC
     exact key _ _ t.ec t.ve (Bp hr q (by simp [DV]))
    ·exact q.elim
   ·exact q.elim
  ·split at q
   ·rename_i T
    split at q
    ·rename_i b eb
     simp only [DV] at rx ry
     obtain ⟨a,rfl,ha⟩:=rx
     subst ry
     cases (show u=Value.ref a from r1)
     cases (show u'=Value.type T from r2)
     obtain ⟨⟨_,o,ep,ho,hx,hd⟩,_⟩:=(show ObjOk X.prog X.w H s.heap a (.ext (M7 a)) from I.hok a _ ha)
     exact kia_one kitx_dict I.kIn ⟨o,ho,hx.1⟩ (Qv eb) (fun z=>nomatch z) fun tk=>⟨.bl b,H,I.tok _,rfl,Bp hr q (by simp [DV])⟩
    ·exact q.elim
   ·exact q.elim
  ·exact XB pins s σ H m h x y v v' u u' Q I hr rx ry r1 r2 q
end
section
variable {X:Cx} {E:XK}
def IF (chk:D→HD→Out D) (op:D→D→HD→Out D) (f g:ME):ME:=fun ρ h=>((f ρ h).bind chk).bind fun x h1=>(g ρ h1).bind fun y h2=>op x y h2
def Rt (X:Cx) (T:String) (x:V) (H:Hp):Prop:=∀(pins:List (Addr×Obj)) (σ:L2.St) (s:Shared) (u:Value),Inv X pins σ H s→RelV x u→s.TypeIs u T∧∀a,u=.ref a→∃ob,s.heap.get? a=some ob∧ob.dict=none
def XC (X:Cx) (T:String) (r:V→List V→Hp→VK→Prop) (to:TE) (t:TA):TE:=fun σ H Q=>to σ H fun x H1=>Rt X T x H1∧t σ H1 fun xs H2=>r x xs H2 Q
theorem XE {o e:Expr} {es:List Expr} {to:TE} {t:TA} {name:Str} {apos cpos:Pos} {T id:String} {r:V→List V→Hp→VK→Prop} (pa:PlainAttrs T) (slot:Slot T name id) (hty:typeOf (.builtin id)=pure (.type "method_descriptor")) (hm:M4 X id r) (ho:PE X o to) (ha:PA X (e::es) t)
 (hbase:attributeBase o name X.env (eval o X.env)=eval o X.env:=by rfl)
 (hfew:((backTo cpos (starEach (e::es) X.env)).all (fun x=>!x.1)&&(backToKw cpos (keywordEach [] X.env)).all (fun x=>x.1.isSome)
  &&decide ((e::es).length+([]:List Keyword).length+(if ([]:List Keyword).isEmpty then 0 else 1)<30))=true:=by rfl)
 (hline:(apos.endLine==cpos.line)=true:=by rfl) (hs:starEach (e::es) X.env=(false,eval e X.env)::starEach es X.env:=by rfl) (hplain:(backTo cpos (starEach es X.env)).any (·.1)=false:=by rfl):
 PE X (.Call (.Attribute o name apos) (e::es) [] cpos) (XC X T r to t):=by
 intro pins s σ H Q I h
 refine wpAny_Call_method_late hbase hfew hline rfl (Az (ho pins s σ H _ I h) fun v s1 z1_=>?_)
 obtain ⟨x,H1,I1,r1,ty,q1⟩:=z1_
 obtain ⟨h1,h2⟩:=ty pins σ s1 v I1 r1
 refine ⟨T,id,pa,slot,hty,h1,h2,?_⟩
 have hA:=ha cpos pins s1 σ H1 _ I1 q1
 rw [hs] at hA ⊢
 refine Calls.callWith_builtin (by show (false||(backTo cpos (starEach es X.env)).any (·.1))=false;rw [hplain]<;>rfl) (Calls.evalArgs_plain ?_)
 exact Az hA fun us s2 z2_=>by obtain ⟨vs,H2,I2,r2,q2⟩:=z2_;exact (hm pins s2 σ H2 x vs v us Q I2 r1 r2 q2)
structure Ru (X:Cx) (T:String) (chk:D→HD→Out D):Prop where
 two:∀x h,chk x h=.ok x h∨chk x h=.stuck
 ty:∀m H h x v,HR X.K m h H→DV X.K m H x v→chk x h=.ok x h→Rt X T v H
def NQ (X:Cx) (id:String) (op:D→D→HD→Out D):Prop:=
 ∀(pins:List (Addr×Obj)) (s:Shared) (σ:L2.St) (H:Hp) (m:List Addr) (h:HD) (x y:D) (v yv:V) (u uy:Value) (Q:VK),Inv X pins σ H s→HR X.K m h H→DV X.K m H x v→DV X.K m H y yv→RelV v u→RelV yv uy→Post X.K (rD X.K) m H E0 Q (op x y h)→
  wpAny (model X.prog X.w) X.A (call (.builtin id) [u,uy]) (EP X pins σ Q) X.xe s
theorem Rv {o e:Expr} {f g:ME} {name:Str} {T id:String} {chk:D→HD→Out D} {op:D→D→HD→Out D} {apos cpos:Pos} (pa:PlainAttrs T) (slot:Slot T name id) (hty:typeOf (.builtin id)=pure (.type "method_descriptor"))
 (hc:Ru X T chk) (hn:∀x y h,IE (op x y h)) (hm:NQ X id op) (ho:Ev X E o f) (he:Ev X E e g)
 (hbase:attributeBase o name X.env (eval o X.env)=eval o X.env:=by rfl)
 (hfew:((backTo cpos (starEach [e] X.env)).all (fun x=>!x.1)&&(backToKw cpos (keywordEach [] X.env)).all (fun x=>x.1.isSome)
  &&decide ([e].length+([]:List Keyword).length+(if ([]:List Keyword).isEmpty then 0 else 1)<30))=true:=by rfl)
 (hline:(apos.endLine==cpos.line)=true:=by rfl) (hs:starEach [e] X.env=(false,eval e X.env)::starEach [] X.env:=by rfl) (hplain:(backTo cpos (starEach [] X.env)).any (·.1)=false:=by rfl):
 Ev X E (.Call (.Attribute o name apos) [e] [] cpos) (IF chk op f g):=by
 have hr:M4 X id (fun v vs H Q=>∃m h x y yv,vs=[yv]∧HR X.K m h H∧DV X.K m H x v∧DV X.K m H y yv∧Post X.K (rD X.K) m H E0 Q (op x y h)):=by
  rintro pins s σ H v vs u us Q I r rs ⟨m,h,x,y,yv,ev,hr,rx,ry,q⟩
  subst ev
  obtain ⟨uy,rfl,r2⟩:=Es rs
  exact hm pins s σ H m h x y v yv u uy Q I hr rx ry r r2 q
 refine Ck (XE pa slot hty hr ho (Ac he Af hs) hbase hfew hline hs hplain) fun σ H Q z3_=>?_
 obtain ⟨m,ρ,h,hr,er,p⟩:=z3_
 refine ⟨m,ρ,h,hr,er,?_⟩
 unfold IF at p
 rw [Out.bind_assoc] at p
 refine Post.bind p fun x h1 v m1 H1 eo p1 k1 hr1 r1 q1=>?_
 clear eo
 rcases hc.two x h1 with ec |ec
 ·rw [ec] at q1
  simp only [Out.bind_ok] at q1
  refine ⟨hc.ty m1 H1 h1 x v hr1 r1 ec,m1,ρ,h1,hr1,er.keep p1 k1,?_⟩
  have q2:Post X.K (rD X.K) m1 H1 E Q ((Aa g Ad ρ h1).bind fun ys h2=>match ys with
   |[y]=>op x y h2
   |_=>.stuck):=by
   unfold Aa Ad
   rw [Out.bind_assoc]
   exact q1
  refine Post.bind q2 fun ys h2 vs m2 H2 eo p2 k2 hr2 r2 q3=>?_
  clear eo
  split at q3
  ·rename_i y
   simp only [Ec,DVs] at r2
   obtain ⟨yv,w,rfl,ry,rfl⟩:=r2
   exact ⟨m2,h2,x,y,yv,rfl,hr2,DV.keep p2 k2 r1,ry,Post.noE (hn x y h2) q3⟩
  ·exact q3.elim
 ·rw [ec] at q1
  exact q1.elim
theorem NR:Ru X "list" Dg where
 two:=fun x h=>by
  unfold Dg
  split
  ·split
   ·exact .inl rfl
   ·exact .inr rfl
  ·exact .inr rfl
 ty:=fun m H h x v hr r e=>by
  unfold Dg at e
  split at e
  ·rename_i l
   split at e
   ·rename_i ds el
    simp only [DV] at r
    obtain ⟨a,rfl,ha⟩:=r
    obtain ⟨ws,hv,dv⟩:=hr.cells l _ a el ha
    exact fun pins σ s u I ru=>PP I ru (.inl ⟨rfl,ws,SqL.of hv⟩)
   ·cases e
  ·cases e
def He (x:V) (xs:List V):Nat:=xs.countP fun y=>Ew y x
theorem Rw {x:V}:∀{xs:List V} {us:List Value},Vals xs us→xs.all Eb=true→us.countP (DD x)=He x xs
 |_,_,.nil,_=>rfl
 |y::xs,u::us,.cons r t,f=>by
  rw [List.all_cons,BR] at f
  unfold He
  rw [List.countP_cons,List.countP_cons,KA r f.1,Rw t f.2]
  rfl
def IG:D→D→HD→Out D:=fun x y h=>match BM x h with
 |none=>.stuck
 |some ds=>match CM y,A2 (ds.map CM) with
  |some v,some vs=>.ok (.int (He v vs)) h
  |_,_=>.stuck
theorem XF (x y:D) (h:HD):IE (IG x y h):=by
 unfold IG
 repeat' split
 all_goals trivial
def Hf:D→D→HD→Out D:=fun x y h=>(Dg x h).bind fun _ _=>IG x y h
theorem XG:NQ X "list.count" Hf:=by
 intro pins s σ H m h x y v yv u uy Q I hr rx ry r r2 q
 unfold Hf at q
 rcases (NR (X:=X)).two x h with ec |ec
 ·rw [ec] at q
  simp only [Out.bind_ok] at q
  unfold Dg at ec
  split at ec
  ·rename_i l
   split at ec
   ·rename_i ds el
    unfold IG BM at q
    simp only [el] at q
    split at q
    ·rename_i w ws e1 e2
     simp only [DV] at rx
     obtain ⟨a,rfl,ha⟩:=rx
     cases (show u=Value.ref a from r)
     obtain ⟨vs,hv,dv⟩:=hr.cells l _ a el ha
     obtain ⟨h1,h2⟩:=KQ ry e1
     obtain ⟨h3,h4⟩:=KR dv e2
     subst h1 h3
     obtain ⟨z,its,n,rr,hl,e⟩:=I.lstM hv
     refine call_meets F.slot_list_count ⟨_,e,rfl⟩ F.entry_list_count (F.args_list_count_2 _ _) (PySem.SeqAt.list_countAt a its.toArray n none #[] uy (DD yv)) ⟨e,fun w hw=>Jk r2 h2 rr h4 w (by simpa using hw),?_⟩
     refine ⟨.int _,H,I.tok _,⟨_,rfl⟩,?_⟩
     rw [show (its.toArray.toList.countP (DD yv))=He yv vs by rw [←Rw rr h4]]
     exact Bp hr q (by simp [DV])
    ·exact q.elim
   ·cases ec
  ·cases ec
 ·rw [ec] at q;exact q.elim
def Ln (x:V) (xs:List V):Option Nat:=xs.findIdx? fun y=>Ew y x
def Hg:D→D→HD→Out D:=fun x y h=>match x with
 |.loc l=>(match h[l]? with
  |some (.lst ds)=>(match CM y,A2 (ds.map CM) with
   |some v,some vs=>(match Ln v vs with
    |some j=>.ok (.int j) h
    |none=>.stuck)
   |_,_=>.stuck)
  |_=>.stuck)
 |_=>.stuck
theorem XH (x y:D) (h:HD):IE (Hg x y h):=by
 unfold Hg
 repeat' split
 all_goals trivial
theorem XI (x y:D) (h:HD):IE (Hf x y h):=by
 unfold Hf
 rcases (show Dg x h=.ok x h∨Dg x h=.stuck by
  unfold Dg
  split
  ·split
   ·exact .inl rfl
   ·exact .inr rfl
  ·exact .inr rfl) with e |e
 ·rw [e];exact XF x y h
 ·rw [e];trivial
theorem Rx {xs:List V} {us:List Value} (r:Vals xs us) {x:V} (f:xs.all Eb=true) {j:Nat} (hj:j<us.length):DD x us[j]=Ew (xs[j]'(by rw [r.length];exact hj)) x:=by
 have hx:j<xs.length:=by rw [r.length];exact hj
 obtain ⟨u,e,ru⟩:=r.get (A6 hx)
 rw [A6 hj] at e
 cases e
 exact KA ru (qaJ.mp f _ (F5 hx))
theorem XJ:NQ X "list.index" Hg:=by
 intro pins s σ H m h x y v yv u uy Q I hr rx ry r r2 q
 unfold Hg at q
 split at q
 ·rename_i l
  split at q
  ·rename_i ds el
   split at q
   ·rename_i w ws e1 e2
    split at q
    ·rename_i j ej
     simp only [DV] at rx
     obtain ⟨a,rfl,ha⟩:=rx
     cases (show u=Value.ref a from r)
     obtain ⟨vs,hv,dv⟩:=hr.cells l _ a el ha
     obtain ⟨h1,h2⟩:=KQ ry e1
     obtain ⟨h3,h4⟩:=KR dv e2
     subst h1 h3
     obtain ⟨z,its,n,rr,hl,e⟩:=I.lstM hv
     unfold Ln at ej
     rw [List.findIdx?_eq_some_iff_getElem] at ej
     obtain ⟨hj,hit,hno⟩:=ej
     have hji:j<its.length:=by rw [←hl];exact hj
     have hsl:(j:Int)<2^63 - 1:=by have:=H0;omega
     refine call_meets F.slot_list_index ⟨_,e,rfl⟩ F.entry_list_index (F.args_list_index_2 _ _) (PySem.SeqAt.list_indexAt a its.toArray n none #[] uy (DD yv) j (by simpa using hji) hsl ?_ ?_) ⟨e,fun w hw=>Jk r2 h2 rr h4 w (by simpa using hw),?_⟩
     ·have:=Rx rr h4 (x:=yv) hji
      simp only [List.getElem_toArray]
      rw [this];exact hit
     ·intro k hk hkj
      have hk':k<its.length:=by simpa using hk
      have:=Rx rr h4 (x:=yv) hk'
      simp only [List.getElem_toArray]
      rw [this]
      simpa using hno k hkj
     ·exact ⟨.int _,H,I.tok _,⟨_,rfl⟩,Bp hr q (by simp [DV])⟩
    ·exact q.elim
   ·exact q.elim
  ·exact q.elim
 ·exact q.elim
end
theorem XM {pos:Pos} {l r:List Value} {cv:Value} (_:TriplesOk l) (e:codeAmong pos l=some cv):codeAmong pos (l++r)=some cv:=by
 rename_i ht
 clear ht
 fun_induction codeAmong pos l with
 |case1 line t col u c rest h=>rw [GK,GK,GK,codeAmong,if_pos h];exact e
 |case2 line t col u c rest h ih=>rw [GK,GK,GK,codeAmong,if_neg h];exact ih e
 |case3=>cases e
theorem Ry {pos p2:Pos} {c cv:Value}:∀{l:List Value},TriplesOk l→codeAmong p2 (l++[rawInt pos.line,rawInt pos.col,c])=some cv→codeAmong p2 l=some cv∨cv=c
 |[],_,e=>by
  simp only [HV,rawInt,codeAmong] at e
  split at e
  ·exact .inr (Option.some.inj e).symm
  ·cases e
 |.int i t::.int j u::c'::l,h,e=>by
  simp only [codeAmong,GK] at e ⊢
  split at e
  ·rename_i z
   rw [if_pos z];exact .inl e
  ·rename_i z
   rw [if_neg z];exact Ry (by simpa [TriplesOk] using h) e
theorem HR.tab {K:Frag} {m:List Addr} {h:HD} {H H':Hp} {P:Addr} (r:HR K m h H) (k:Kp H H') (s:∀b,b≠P→H b≠none→H' b=H b) (t:TabIs K H' P) (tt:TabIs K H P):HR K m h H':=by
 refine ⟨r.len,r.nd,fun l c a e q=>?_⟩
 have hm:a∈m:=GH q
 have hn:H a≠none:=r.mem hm
 have:=r.cells l c a e q
 cases c with
 |lst ds=>
  obtain ⟨vs,e1,e2⟩:=this
  have ha:a≠P:=by
   rintro rfl
   obtain ⟨_,ps,z,_⟩:=tt
   rw [z] at e1;cases e1
  exact ⟨vs,by rw [s a ha hn];exact e1,e2.keep (AJ _) k⟩
 |tab=>
  by_cases ha:a=P
  ·subst ha;exact t
  ·exact TabIs.keep this k (s a ha hn)
structure LamX (X:Cx) (c P:Addr):Prop where
 code:X.env.code=.ref c
 tp:tabP X.K=some (c,P)
 hd:codeHdIn X.K c P=true
 qual:X.env.qual="law.<locals>."
 bm:∃bm o,X.mg "__builtins__"=some (.ref bm)∧bm≠builtinsNs∧X.base.get? bm=some o∧o.cls=.type "module"∧o.dict=some builtinsNs∧o.data=.plain
section
variable {X:Cx} {E:Value→Shared→Prop} {c P:Addr} {pins:List (Addr×Obj)} {σ:L2.St} {H:Hp} {s:Shared}
theorem LamX.builtins (L:LamX X c P) (I:Inv X pins σ H s) (t:TabIs X.K H P):s.heap.BuiltinsAt X.mg P:=by
 obtain ⟨bm,o,h1,h2,h3,h4,h5,h6⟩:=L.bm
 obtain ⟨e,n⟩:=I.bs bm o h3
 refine ⟨bm,o,h1,h2,fun z=>?_,fun z=>?_,e,h4,h5,h6⟩
 ·obtain ⟨og,es,ep,e1,e2,_⟩:=I.mod.glob
  rw [z,e1] at h3
  cases h3
  rw [e2] at h6;cases h6
 ·obtain ⟨_,ps,q,_⟩:=t
  rw [z,q] at n;cases n
abbrev BG:Str:="law.<locals>.<lambda>"
theorem XN {params:Arguments} {body:Expr} {scope:Scope} {pos:Pos} {clos:List (Str×Addr)} {Q:Value→Shared→Prop} {A:Around} (L:LamX X c P) (I:Inv X pins σ H s) (t:TabIs X.K H P) (hdef:defaultsOf params X.env=([],[])) (hcl:closureFor scope X.env=pure clos)
 (k:∀(f' c':Addr) (ctv pm:Value) (h':Heap) (tk:Nat) (H':Hp),Inv X pins σ H' {s with heap:=h',toks:=tk}→Kp H H'→TabIs X.K H' P→(∀b,b≠P→H b≠none→H' b=H b)→(∀b o,b≠P→s.heap.get? b=some o→h'.get? b=some o)→s.heap.objs.size≤f'→
  H' f'=none→h'.get? f'=some (kla_obj "<lambda>" BG params body scope clos pm c' ctv)→(∃ps,H' P=some (.tbl ps)∧codeAmong pos ps.toList=some (.ref c'))→Q (.ref f') {s with heap:=h',toks:=tk}):
 wpAny (model X.prog X.w) A (eval (.Lambda params body scope pos) X.env) Q E s:=by
 have hB:=L.builtins I t
 have hg:s.heap.Ns mainGlobals X.mg:=I.mod.glob.keeps I.bk
 have hCd:CodeHd s.heap c P:=codeHd_of_K I.kIn L.hd
 obtain ⟨ht1,ps,hps,htr,hcs⟩:=id t
 have hP:s.heap.get? P=some (tabObj ps):=I.hok P _ hps
 have hgP:mainGlobals≠P:=fun z=>by
  obtain ⟨og,es,ep,e1,e2,_⟩:=I.mod.glob
  have:=(I.bs _ _ e1).2
  rw [z,hps] at this;cases this
 have hq:X.env.qual++"<lambda>"=BG:=by rw [L.qual];decide +kernel
 refine kla_eval hdef ?_
 rw [hq]
 cases hc:codeAmong pos ps.toList with
 |some cv=>
  obtain ⟨c',rfl,hx⟩:=hcs pos cv hc
  refine kla_makeFunctionHit (mg:=X.mg) hcl I.ok.glob hg L.code hCd hP htr hc hB fun ctv h' tk hk hsz=>?_
  have hk2:∀b o,s.heap.get? b=some o→(h'.push (kla_obj "<lambda>" BG params body scope clos ((X.mg "__name__").getD .none) c' ctv)).get? b=some o:=fun b o e=>AF _ (hk b o e)
  exact k _ c' ctv _ _ tk H (I.kept hk2) (.refl _) t (fun _ _ _=>rfl) (fun b o _ e=>hk2 b o e) hsz (I.hok.fresh hsz) (By _ rfl) ⟨ps,hps,hc⟩
 |none=>
  refine kla_makeFunction (mg:=X.mg) hcl I.ok.glob hg L.code hCd hP htr hc hgP hB fun c' ctv h' tk hx hge hlt hrec htb=>?_
  generalize ho:kla_obj "<lambda>" BG params body scope clos ((X.mg "__name__").getD .none) c' ctv=fo
  have hk2:∀b o,b≠P→s.heap.get? b=some o→(h'.push fo).get? b=some o:=fun b o hb e=>AF _ (hx b o hb e)
  have hPs:P<s.heap.objs.size:=AG hP
  have hc'P:c'≠P:=FM (Bb hPs hge)
  have hc'n:H c'=none:=I.hok.fresh hge
  generalize hps':ps++#[rawInt pos.line,rawInt pos.col,.ref c']=ps' at htb
  have tl:ps'.toList=ps.toList++[rawInt pos.line,rawInt pos.col,.ref c']:=by rw [←hps'];simp
  have hH:∀b,b≠P→H b≠none→Am (Am H P (.tbl ps')) c' (.ext (Ie BG c')) b=H b:=fun b hb hn=>by
   have:b≠c':=fun z=>hn (z ▸ hc'n)
   rw [Ao this,Ao hb]
  have hHP:Am (Am H P (.tbl ps')) c' (.ext (Ie BG c')) P=some (.tbl ps'):=by rw [Ao (Ne.symm hc'P),Bt]
  have kp:Kp H (Am (Am H P (.tbl ps')) c' (.ext (Ie BG c'))):=fun b o e i=>by
   have:b≠P:=fun z=>by rw [z,hps] at e;cases e;cases i
   rw [hH b this (by rw [e];simp)];exact e
  have lt':∀b o,s.heap.get? b=some o→b≠c':=fun b o e=>BK (Bb (AG e) hge)
  have un:Un X.fs [] H (Am (Am H P (.tbl ps')) c' (.ext (Ie BG c'))) s.heap (h'.push fo):=by
   have neP:∀{b},H b=none→b≠P:=fun {b} n z=>by rw [z,hps] at n;cases n
   refine ⟨fun b o e n _ _=>hk2 b o (neP n) e,fun b o e n _ _=>⟨o.slots,hk2 b o (neP n) e⟩,fun b o e n _=>?_,fun b o e _=>?_,fun b xs e=>?_,fun b o u e=>?_,fun b qs e=>?_⟩
   ·rw [Ao (lt' b o e),Ao (neP n)];exact n
   ·by_cases hb:b=P
    ·subst hb;exact ⟨_,AF _ htb⟩
    ·exact ⟨o,hk2 b o hb e⟩
   ·rw [hH b (fun z=>by rw [z,hps] at e;cases e) (by rw [e];simp)];exact e
   ·rw [hH b (fun z=>by rw [z,hps] at e;cases e) (by rw [e];simp)];exact e
   ·by_cases hb:b=P
    ·subst hb
     rw [hps] at e;cases e
     exact ⟨_,by rw [hHP,←hps']⟩
    ·exact ⟨#[],by rw [hH b hb (by rw [e];simp),e];simp⟩
  have hok:HOk X.prog X.w (Am (Am H P (.tbl ps')) c' (.ext (Ie BG c'))) (h'.push fo):=by
   intro b o e
   by_cases hb:b=c'
   ·subst hb
    rw [Bt] at e
    cases e
    have r1:(h'.push fo).CodeRec (.ref b) BG:=hrec.keeps fun b o e=>AF _ e
    refine ⟨r1,?_,fun h1 h2 z1 z2=>?_⟩
    ·obtain ⟨c2,oc,vs,t2,e1,e2,_⟩:=r1
     cases e1
     exact ⟨oc,e2⟩
    ·obtain ⟨c2,oc,vs,t2,e1,e2,e3⟩:=z1
     cases e1
     exact ⟨_,oc,vs,t2,rfl,z2 _ e2,e3⟩
   ·by_cases hbP:b=P
    ·subst hbP
     rw [hHP] at e
     cases e
     exact AF _ htb
    ·rw [Ao hb,Ao hbP] at e
     refine (I.hok b o e).stay (fun d u hd q=>hk2 d u ?_ q) (fun d q=>?_) fun d xs q=>?_
     ·rcases hd with rfl |hd
      ·exact hbP
      ·exact fun z=>by rw [z,hps] at hd;cases hd
     ·rw [hH d (fun z=>by rw [z,hps] at q;cases q) (by rw [q];simp)];exact q
     ·rw [hH d (fun z=>by rw [z,hps] at q;cases q) (by rw [q];simp)];exact q
  have hsz:s.heap.objs.size≤h'.objs.size:=GL (Nat.lt_of_le_of_lt hge hlt)
  refine k _ c' ctv ((X.mg "__name__").getD .none) _ tk _ (I.un un hok) kp ⟨ht1,ps',hHP,?_,fun p2 cv e=>?_⟩ hH hk2 hsz ?_ (by rw [←ho];exact By _ rfl) ⟨ps',hHP,?_⟩
  ·rw [tl];exact TriplesOk_snoc _ _ _ _ htr
  ·rw [tl] at e
   rcases Ry htr e with z |z
   ·obtain ⟨c2,z1,z2⟩:=hcs p2 cv z
    exact ⟨c2,z1,kp _ _ z2 rfl⟩
   ·exact ⟨c',z,Bt⟩
  ·have n1:h'.objs.size≠c':=FM hlt
   have n2:h'.objs.size≠P:=FM (Bb hPs hsz)
   rw [Ao n1,Ao n2];exact I.hok.fresh hsz
  ·rw [tl];exact codeAmong_snoc _ htr hc
end
def FP (P:Program) (w:World) (K:Frag) (mg:Str→Option Value) (base:Heap) (N:List Str) (scope:Scope) (a:Addr) (cd:Value) (cl:List (Str×Addr)) (A:Around) (outer:List Env) (s:Shared) (H:Hp) (E:XK):Cx where
 prog:=P
 w:=w
 K:=K
 mg:=mg
 base:=base
 A:=A.deeper (envX BG scope s.heap.objs.size a cd cl)
 N:=N
 s₀:=s
 H₀:=H
 env:=envX BG scope s.heap.objs.size a cd cl
 outer:=outer
 stack:=envX BG scope s.heap.objs.size a cd cl::outer
 ex:=[]
 calm:=true
 fn:=fun _=>false
 pn:=[]
 xe:=fun e s'=>wpAny (model P w) (A.deeper (envX BG scope s.heap.objs.size a cd cl)) (leaving (envX BG scope s.heap.objs.size a cd cl) e) (fun _ s''=>AE P w K outer H s E e s'') (fun e' s''=>AE P w K outer H s E e' s'') s'
theorem XO {P:Program} {w:World} {K:Frag} {mg:Str→Option Value} {base:Heap} {N:List Str} {scope:Scope} {a:Addr} {cd:Value} {cl:List (Str×Addr)} {A:Around} {outer:List Env} {s:Shared} {H:Hp} {E:XK}:
 Lv (FP P w K mg base N scope a cd cl A outer s H E) E:=⟨fun _ _ h=>h,rfl,rfl,rfl⟩
theorem NS {P:Program} {w:World} {K:Frag} {mg:Str→Option Value} {base:Heap} {N:List Str} {scope:Scope} {a:Addr} {cd:Value} {cl:List (Str×Addr)} {A:Around} {outer:List Env} {s:Shared} {H:Hp} {E:XK}:
 GP (AE P w K) (FP P w K mg base N scope a cd cl A outer s H E) E:=NA XO
structure JK (h:Heap) (H:Hp) (outer:List Env) (N:List Str) (scope:Scope) (cl:List (Str×Addr)) (vs:List V):Prop where
 len:vs.length=N.length
 inj:∀x y c,cl.lookup x=some c→cl.lookup y=some c→x=y
 has:∀x,scope.names.lookup x=some .free→∃c,cl.lookup x=some c
 cell:∀x c,cl.lookup x=some c→(∃v,h.IsCell c v)∧H c=none∧c∉frs outer
 val:∀(i:Nat) (x:Str) (v:V),N[i]?=some x→vs[i]?=some v→scope.names.lookup x=some .free∧∃c u,cl.lookup x=some c∧h.IsCell c (some u)∧RelV v u
structure LamSc (scope:Scope):Prop where
 kind:scope.kind=.function
 co:scope.isCoroutine=false
 gen:scope.isGenerator=false
 only:(scope.names.all fun y=>y.2 != .cell)=true
theorem LamSc.nocell {scope:Scope} (S:LamSc scope):∀x∈scope.names,x.2≠.cell:=fun x hx e=>by
 have:=qaJ.mp S.only x hx
 rw [e] at this
 simp at this
section
variable {P:Program} {w:World} {K:Frag} {mg:Str→Option Value} {base:Heap} {N:List Str} {scope:Scope} {a c':Addr} {pm ctv:Value} {params:Arguments} {body:Expr} {cl:List (Str×Addr)} {A:Around} {outer:List Env} {s:Shared} {H:Hp} {E:XK} {vs:List V}
theorem XQ {cd:Value} {h1:Heap} {t1:Nat} (S:LamSc scope) (hd:A.handled=none) (e0:Env0 P w K mg base A outer s H) (C:JK s.heap H outer N scope cl vs) (ns:h1.Ns s.heap.objs.size (fun _=>none)) (hk:∀b o,s.heap.get? b=some o→h1.get? b=some o):
 Inv (FP P w K mg base N scope a cd cl A outer s H E) [] (vs.map some) H {s with heap:=h1,toks:=t1}:=by
 have noA:∀b:Addr,b∉(FP P w K mg base N scope a cd cl A outer s H E).ex:=fun b z=>absurd (show b∈([]:List Addr) from z) (by simp)
 refine ⟨⟨e0.mod,S.kind,rfl,rfl,AO _,C.inj,fun x hx=>?_,fun x c hf=>(by cases hf),fun _=>hd,Around.frames_deeper e0.frames,.inr ⟨rfl,rfl⟩,fun b z=>absurd z (noA b),e0.bs,e0.bsz,fun b _ _=>noA b,fun b z=>absurd z (noA b),e0.funs,e0.frf⟩,
  rfl,e0.bare,Un.kept hk,⟨_,ns,fun i x v e1 e2 _=>?_⟩,fun x c e=>?_,e0.hok.fresh (AO _),fun x c e=>(C.cell x c e).2.1,fun p hp=>absurd (show p∈([]:List (Addr×Obj)) from hp) (by simp),e0.hok.kept hk,?_⟩
 ·have hx':scope.names.lookup x=some .cell∨scope.names.lookup x=some .free:=hx
  rcases hx' with z |z
  ·exact absurd rfl (S.nocell _ (mem_of_lookup z))
  ·exact C.has x z
 ·rw [Ca] at e2
  cases ev:vs[i]? with
  |none=>rw [ev] at e2;cases e2
  |some v'=>
   rw [ev] at e2
   cases e2
   obtain ⟨hf,c,u,e3,e4,r⟩:=C.val i x v e1 ev
   exact ⟨u,r,.inr ⟨.inr hf,c,e3,e4.keeps hk⟩⟩
 ·obtain ⟨⟨v,q⟩,_⟩:=C.cell x c e
  exact ⟨v,q.keeps hk⟩
 ·show (vs.map some).length=N.length
  rw [Cb];exact C.len
theorem XR {k:Nat} {f:ME} {Q:VK} (S:LamSc scope) (hr:Room (k+1) A) (e0:Env0 P w K mg base A outer s H) (C:JK s.heap H outer N scope cl vs) (ho:s.heap.get? a=some (kla_obj "<lambda>" BG params body scope cl pm c' ctv)) (hcd:s.heap.CodeRec (.ref c') BG)
 (hbind:bindArgs (kla_fn "<lambda>" BG params body scope cl pm (.ref c') ctv) ⟨[],[]⟩=pure [])
 (hb:Room k (A.deeper (envX BG scope s.heap.objs.size a (.ref c') cl))→Ev (FP P w K mg base N scope a (.ref c') cl A outer s H E) E body f)
 (q:∃m ds h,HR K m h H∧DVs K m H ds vs∧Post K (rD K) m H E Q (f (ds.map some) h)):codeAny (model P w) A (.call (.ref a) ⟨[],[]⟩) (CR (AE P w K) outer P w H s Q E) s:=by
 refine kla_callFunE hr.depth ho rfl S.co S.gen rfl hcd ?_
 rw [hbind]
 have lim:s.heap.NoLimit:=e0.mod.nolimit.keeps fun b o e=>(e0.bs b o e).1
 refine wpAny_pure (wpAny_newFunctionEnv S.nocell (fun y hy=>by cases hy) (fun h₁ hns hsb=>⟨lim.fresh _ hsb,?_⟩) S.kind)
 have hk₁:∀b o,s.heap.get? b=some o→h₁.get? b=some o:=fun b o e=>hsb.extBut b o (BI (AG e)) (AF _ e)
 have I:Inv (FP P w K mg base N scope a (.ref c') cl A outer s H E) [] (vs.map some) H {s with heap:=h₁,toks:=s.toks+0}:=XQ S hr.hd e0 C hns hk₁
 obtain ⟨m,ds,h,hr1,r,p⟩:=q
 have er:ER K m H (ds.map some) (vs.map some):=by
  refine ⟨by simp [r.len],fun i d e=>?_⟩
  rw [Ca] at e
  cases ed:ds[i]? with
  |none=>rw [ed] at e;cases e
  |some d'=>
   rw [ed] at e
   cases e
   obtain ⟨v,e1,r1⟩:=r.get ed
   exact ⟨v,by rw [Ca,e1];rfl,r1⟩
 refine kla_codeExpr (wpAny_mono (hb (hr.deeper _) [] _ _ H Q I ⟨m,ds.map some,h,hr1,er,p⟩) (fun u s' hs=>?_) fun e s' hs=>hs)
 obtain ⟨v,H',J,rv,qv⟩:=hs
 exact ⟨v,H',J.os,J.bare,J.base,J.hok,rv,qv⟩
end
structure RoomM (k:Nat) (A:Around):Prop where
 dp:A.depth+3*k+5<recursionLimit
 un:A.units+16*k+200<cLine
 gd:A.guards=some []
theorem RoomM.deeper {k:Nat} {A:Around} (r:RoomM (k+1) A) (env:Env):RoomM k (A.deeper env):=
 ⟨by have:=r.dp;show A.depth+1+3*k+5<_;omega,by have:=r.un;show A.units+3+16*k+200<_;omega,r.gd⟩
theorem RoomM.units {k:Nat} {A:Around} (r:RoomM k A):A.units+64<cLine:=by have:=r.un;omega
theorem RoomM.mono {j k:Nat} {A:Around} (r:RoomM k A) (h:j≤k):RoomM j A:=⟨by have:=r.dp;omega,by have:=r.un;omega,r.gd⟩
theorem RoomM.of {k:Nat} {A:Around} (r:Room k A) (e:Option Value):RoomM k (A.mark e):=⟨r.dp,r.un,r.gd⟩
def IH (P:Program) (w:World) (K:Frag) (mg:Str→Option Value) (base:Heap) (N:List Str) (qual:Str) (scope:Scope) (f:Addr) (cd:Value) (A:Around) (outer:List Env) (s:Shared) (H:Hp):Cx:=
 {AW PQ P w K mg base N qual scope f cd A outer s H E0 with calm:=false,xe:=fun _ _=>False}
theorem XS {P:Program} {w:World} {K:Frag} {mg:Str→Option Value} {base:Heap} {N ps:List Str} {qual:Str} {scope:Scope} {f:Addr} {cd:Value} {A:Around} {outer:List Env} {s s1:Shared} {H:Hp} {us:List Value} {vs:List V}
 (S:Bg N ps scope) (e0:Env0 P w K mg base A outer s H) (hl:vs.length=ps.length) (r:Vals vs us)
 (x:InCallC s s.heap.objs.size (bindL (envOfC qual scope s.heap.objs.size f cd).kindOf (ps.zip us) fun _=>none) (cellsFrom (s.heap.objs.size+1) scope.names []) (bindC (envOfC qual scope s.heap.objs.size f cd).kindOf (ps.zip us) fun _=>none) s1):
 Inv (IH P w K mg base N qual scope f cd A outer s H) [] (start N vs) H s1:=by
 have hpl:ps.length≤N.length:=by have:=congrArg List.length S.pre;rw [Kl] at this;omega
 obtain ⟨h1,tk,rfl,hk⟩:=x.done
 have noA:∀b:Addr,b∉(IH P w K mg base N qual scope f cd A outer s H).ex:=fun b z=>absurd (show b∈([]:List Addr) from z) (by simp)
 refine ⟨⟨e0.mod,S.kind,rfl,rfl,AO _,fun y z c h1 h2=>?_,fun y hy=>?_,fun y c _ h=>?_,fun z=>(nomatch z),Around.frames_deeper e0.frames,.inr ⟨rfl,rfl⟩,fun b z=>absurd z (noA b),e0.bs,e0.bsz,fun b _ _=>noA b,fun b z=>absurd z (noA b),e0.funs,e0.frf⟩,
  rfl,e0.bare,Un.kept hk,⟨_,x.toInCall.ns,fun i y v h1 h2 h3=>?_⟩,fun y c h=>⟨_,x.cell y c h⟩,e0.hok.fresh (AO _),fun y c h=>?_,fun p hp=>absurd (show p∈([]:List (Addr×Obj)) from hp) (by simp),e0.hok.kept hk,?_⟩
 ·exact name_of_addr x.apart (PySem.mem_of_lookup h1) (PySem.mem_of_lookup h2)
 ·have hy:scope.names.lookup y=some .cell∨scope.names.lookup y=some .free:=hy
  rcases hy with hy |hy
  ·exact Kz hy
  ·exact absurd rfl (S.nofree _ (PySem.mem_of_lookup hy))
 ·exact GL (x.above y c (PySem.mem_of_lookup h))
 ·have hi:i<vs.length:=by
   unfold L2.start at h2
   by_cases hi:i<vs.length
   ·exact hi
   ·rw [IV (by simpa using hi)] at h2
    rw [Mz] at h2
    split at h2<;>cases h2
  have ha:vs[i]?=some v:=by
   unfold L2.start at h2
   rw [FG (by simpa using hi),Ca] at h2
   cases e:vs[i]? with
   |none=>rw [e] at h2;cases h2
   |some a=>rw [e] at h2;cases h2;rfl
  obtain ⟨u,hu,rv⟩:=r.get ha
  have hp:ps[i]?=some y:=by
   rw [←S.pre,List.getElem?_take_of_lt (by omega)];exact h1
  have ndP:ps.Nodup:=by rw [←S.pre];exact S.nd.sublist (List.take_sublist _ _)
  refine ⟨u,rv,?_⟩
  rcases S.par y (GH hp) with k |k
  ·exact .inl ⟨k,M0 ndP hp hu k⟩
  ·obtain ⟨c,e⟩:=Kz (n:=s.heap.objs.size+1) k
   refine .inr ⟨.inl k,c,e,?_⟩
   have q:=x.cell y c e
   rw [M1 ndP hp hu (by show scope.names.lookup y≠_;rw [k];decide)] at q
   exact q
 ·exact e0.hok.fresh (GL (x.above y c (PySem.mem_of_lookup h)))
 ·unfold L2.start
  show _=N.length
  rw [Dw,Cb,List.length_replicate]
  omega
structure Rz (P:Program) (w:World) (K:Frag) (mg:Str→Option Value) (base:Heap) (k:Nat) (f:Addr) (fd:FuncData) (ps:List Str) (F:List D→HD→Out D):Prop where
 run:∀(A:Around) (outer:List Env) (s:Shared) (H:Hp) (args:Args) (us:List Value) (vs:List V) (Q:VK),RoomM k A→Env0 P w K mg base A outer s H→BindsTo s fd args (ps.zip us)→Vals vs us→KM K F vs H Q E0→
  codeAny (model P w) A (.call (.ref f) args) (CR PQ outer P w H s Q E0) s
theorem XT {P:Program} {w:World} {K:Frag} {mg:Str→Option Value} {base:Heap} {x qual:Str} {st:Stmt} {f:Addr} {fd:FuncData} {N ps:List Str} {k:Nat} {F:List D→HD→Out D} {g:MS} (Fn:Fun K x qual st f fd) (S:Bg N ps (defScope st)) (ar:Ar ps.length F)
 (hg:∀ds h,ds.length=ps.length→F ds h=AA N.length g ds h)
 (hbody:∀(cdv:Value) (A:Around) (outer:List Env) (s:Shared) (H:Hp),RoomM k (A.deeper (envOfC qual (defScope st) s.heap.objs.size f cdv))→A8 (IH P w K mg base N qual (defScope st) f cdv A outer s H) E0 (defBody st) g):Rz P w K mg base (k+1) f fd ps F:=by
 obtain ⟨oc,od,kV,doc,pm,an,cdv,ct,osl,rfl,lk,hcd⟩:=Fn.ex
 refine ⟨fun A outer s H args us vs Q hr e0 hb r hsp=>?_⟩
 have hl:vs.length=ps.length:=ar.len hsp
 have KX:K.In s.heap:=e0.mod.kin.keeps fun b o e=>(e0.bs b o e).1
 have lim:s.heap.NoLimit:=e0.mod.nolimit.keeps fun b o e=>(e0.bs b o e).1
 have hkind:∀y∈ps.zip us,(defScope st).names.lookup y.1=some .local∨((defScope st).names.lookup y.1=some .cell∧((cellsFrom (s.heap.objs.size+1) (defScope st).names []).lookup y.1).isSome=true):=fun z1_ hy=>by
  obtain ⟨n,v⟩:=z1_
  rcases S.par n (Jb hy).1 with q |q
  ·exact .inl q
  ·exact .inr ⟨q,PySem.W.cellsFrom_some _ _ _ (.inl q)⟩
 refine codeAny_call_function (by have:=hr.dp;omega) (KX _ _ lk) rfl S.co S.gen rfl (PySem.W.codeRec_of KX hcd) (hb _ _ _ _ ?_)
 refine wpAny_newFunctionEnv_cells S.kind hkind fun env he s1 x=>?_
 subst he
 refine ⟨lim.keeps x.toInCall.keep,codeAny_func ?_⟩
 have I:Inv (IH P w K mg base N qual (defScope st) f cdv A outer s H) [] (start N vs) H s1:=XS S e0 hl r x
 have fin:∀{σ':L2.St} {H':Hp} {v:V} {u:Value} {s':Shared},Inv (IH P w K mg base N qual (defScope st) f cdv A outer s H) [] σ' H' s'→RelV v u→Q v H'→CE outer P w H s Q u s':=
  fun {σ' H' v u s'} J rv q=>⟨v,H',J.os,J.bare,J.base,J.hok,rv,q⟩
 have post:Ig K E0 g {nx:=fun _ H'=>Q .non H',rt:=Q} (start N vs) H:=by
  obtain ⟨m,ds,hd,hr1,r,p⟩:=hsp
  have hld:ds.length=ps.length:=by rw [r.len];exact hl
  refine ⟨m,ds.map some++List.replicate (N.length - ds.length) none,hd,hr1,ER.start r,?_⟩
  rw [hg ds hd hld] at p
  unfold AA at p
  cases o:g (ds.map some++List.replicate (N.length - ds.length) none) hd with
  |stuck=>rw [o] at p;exact p
  |err C fs h1=>rw [o] at p;exact p
  |ok a h1=>
   rw [o] at p
   obtain ⟨fl,ρ1⟩:=a
   intro m1 H1 p1 k1 hr1
   cases fl with
   |nx=>exact fun σ er=>p .non m1 H1 p1 k1 hr1 (by simp [rD,DV])
   |bk=>exact False.elim p
   |ct=>exact False.elim p
   |rt d=>exact fun v rv=>p v m1 H1 p1 k1 hr1 rv
 refine wpAny_mono (hbody cdv A outer s H (hr.deeper _) [] s1 (start N vs) H _ I post) (fun fl s' hs=>?_) fun e s' hs=>hs.elim
 cases fl with
 |ret u=>
  obtain ⟨v,σ',H',J,rv,q⟩:=hs
  exact fin J rv q
 |next=>
  obtain ⟨σ',H',J,q⟩:=hs
  exact fin (v:=V.non) (u:=Value.none) J rfl q
 |brk=>
  obtain ⟨_,_,_,q⟩:=hs
  exact False.elim q
 |cont=>
  obtain ⟨_,_,_,q⟩:=hs
  exact False.elim q
structure CaM (P:Program) (w:World) (K:Frag) (mg:Str→Option Value) (base:Heap) (x:Str) (k:Nat) (F:List D→HD→Out D):Prop where
 ex:∃(f:Addr) (fd:FuncData) (ps:List Str),Rz P w K mg base k f fd ps F∧Binds K fd ps []∧mg x=some (.ref f)∧PySem.W.keepIn K (.ref f)=true∧Ar ps.length F
section
variable {X:Cx} {E:XK}
theorem XU {k k':Nat} {F:List D→HD→Out D} {fa:MA} {x:Str} {p pos:Pos} {e:Expr} {es:List Expr} (C:CaM X.prog X.w X.K X.mg X.base x k F) (hr:RoomM k' X.A) (ha:Ct X E0 (e::es) fa) (hk:k≤k':=by decide) (hg:Gl X x:=by rfl)
 (hdb:(x==("__debug__":Str))=false:=by decide) (he:starEach (e::es) X.env=(false,eval e X.env)::starEach es X.env:=by rfl) (hpl:(backTo pos (starEach es X.env)).any (·.1)=false:=by rfl):
 Ev X E0 (.Call (.Name x p) (e::es) [] pos) (Ah F fa):=by
 obtain ⟨f,fd,ps,G,hb,hm,hkp,ar⟩:=C.ex
 rintro pins s σ H Q I ⟨m,ρ,hd,hr1,er,pp⟩
 refine wpAny_Call_Name_kw (F6 I hg hm ?_ hdb)
 have post:PU X.K E0 fa σ H (fun vs H1=>KM X.K F vs H1 Q E0):=⟨m,ρ,hd,hr1,er,Post.bind pp fun xs h1 vs m1 H1 e1 p1 k1 hr1 r1 q1=>⟨m1,xs,h1,hr1,r1,q1⟩⟩
 refine PySem.W.callWith_K (h₀:=X.base) I.ok.mod.kin hkp (Az (ha pos pins s σ H _ I post) ?_) he hpl
 rintro us s1 ⟨vs,H1,I1,r,q⟩
 refine ⟨I1.kIn,?_⟩
 have hl:us.length=ps.length:=by rw [←r.length];exact ar.len q
 have hb':=hb s1 us I1.kIn (by rw [Fd];exact hl)
 rw [Fd] at hb'
 refine wpAny_call (codeAny_mono (G.run X.A X.stack s1 H1 ⟨us,[]⟩ us vs Q (hr.mono hk) I1.env0 hb' r q) fun r s' hq=>?_)
 cases r with
 |error e=>exact False.elim hq
 |ok fl=>
  cases fl with
  |ret u=>exact I1.after hq
  |next=>exact False.elim hq
  |brk=>exact False.elim hq
  |cont=>exact False.elim hq
end
theorem RA {P:Program} {w:World} {fs:List Addr} {H H':Hp} {h0 h h':Heap} {a T:Addr} {C a0:Value} (B:Un fs [] H H' h0 h) (hok:HOk P w H' h) (na:h0.get? a=none) (nT:h0.get? T=none) (ha:H' a=none) (hT:H' T=none)
 (frNone:∀b∈fs,H' b=none) (noFields:∀b∈fs,∃o,h.get? b=some o∧∀vs,o.data≠.fields vs) (stay:(blank (fun b=>b=a∨b=T∨b∈fs) h).StaysIn h') (ups:∀b o,h.get? b=some o→(∀vs,o.data≠.fields vs)→∃sl,h'.get? b=some {o with slots:=sl})
 (tr:h'.TracedW (blank (fun b=>b=a∨b=T∨b∈fs) h) a C a0) {da:Option Addr} {oa:Obj} (ea:h.get? a=some oa) (ed:oa.dict=da) (dd:Dicts h h'):Un fs [] H H' h0 h'∧HOk P w H' h'∧La h0 h' H' a C da:=by
 obtain ⟨oe,vs,T2,oT,ts,e1,e2,e3,e4,e5,e6,e7,e8,e9⟩:=tr
 have e11:oe.dict=da:=by
  obtain ⟨o',q1,q2⟩:=dd a oa ea
  rw [e1] at q1
  cases q1
  exact q2.trans ed
 have keepOf:∀b o,¬(b=a∨b=T∨b∈fs)→h.get? b=some o→h'.get? b=some o:=fun b o hb e=>stay b o (by rw [G8 hb];exact e)
 have old:∀b o,h0.get? b=some o→b≠a∧b≠T:=fun b o e=>⟨fun z=>(by rw [z,na] at e;cases e),fun z=>(by rw [z,nT] at e;cases e)⟩
 have any:∀b o,h0.get? b=some o→h.get? b≠none→∃o',h'.get? b=some o':=fun b o e hn=>by
  cases e':h.get? b with
  |none=>exact absurd e' hn
  |some o'=>
   by_cases hb:b∈fs
   ·obtain ⟨o2,h2,d2⟩:=noFields b hb
    obtain ⟨sl,h3⟩:=ups b o2 h2 d2
    exact ⟨_,h3⟩
   ·exact ⟨o',keepOf b o' (fun z=>by rcases z with z |z |z;exact (old b o e).1 z;exact (old b o e).2 z;exact hb z) e'⟩
 refine ⟨⟨fun b o e n hb hx=>?_,fun b o e n hb hx=>?_,B.free,fun b o e hx=>?_,B.tups,B.frzs,B.tbls⟩,fun b o e=>?_,na,ha,oe,vs,a0,T2,oT,ts,e1,e2,e3,e4,?_,?_,e6,e7,e8,e9,e11⟩
 ·exact keepOf b o (fun z=>by rcases z with z |z |z;exact (old b o e).1 z;exact (old b o e).2 z;exact hb z) (B.keep b o e n hb hx)
 ·obtain ⟨sl,h1⟩:=B.slot b o e n hb hx
  obtain ⟨o2,h2,d2⟩:=noFields b hb
  rw [h1] at h2
  cases h2
  obtain ⟨sl2,h3⟩:=ups b _ h1 d2
  exact ⟨sl2,h3⟩
 ·obtain ⟨o',h1⟩:=B.there b o e hx
  exact any b o e (by rw [h1];simp)
 ·refine (hok b o e).stay (fun c u hc q=>keepOf c u (fun z=>?_) q) (fun _ q=>q) fun _ _ q=>q
  have hc':H' c≠none:=by
   rcases hc with rfl |hc
   ·rw [e];simp
   ·rw [hc];simp
  rcases z with z |z |z
  ·exact hc' (z ▸ ha)
  ·exact hc' (z ▸ hT)
  ·exact hc' (frNone c z)
 ·cases q:h0.get? T2 with
  |none=>rfl
  |some o=>
   exfalso
   obtain ⟨o',h1⟩:=B.there T2 o q (by simp)
   by_cases hb:T2∈fs
   ·obtain ⟨o2,h2,d2⟩:=noFields T2 hb
    obtain ⟨sl,h3⟩:=ups T2 o2 h2 d2
    rw [h3] at e7
    cases e7
    exact d2 _ e8
   ·rw [G8 (fun z=>by rcases z with z |z |z;exact (old T2 o q).1 z;exact (old T2 o q).2 z;exact hb z),h1] at e5
    cases e5
 ·cases q:H' T2 with
  |none=>rfl
  |some o=>
   exfalso
   by_cases hb:T2=a∨T2=T∨T2∈fs
   ·rcases hb with z |z |z
    ·rw [z,ha] at q;cases q
    ·rw [z,hT] at q;cases q
    ·rw [frNone T2 z] at q;cases q
   ·rw [G8 hb] at e5
    obtain ⟨ob,eb⟩:=Lc (hok T2 o q)
    rw [eb] at e5
    cases e5
theorem XW {M:Model} {A:Around} {E:Value→Shared→Prop} {s:Shared} {base:Heap} {env:Env} {outer:List Env} {L e:Addr} {C a0:Value} {Q:Unit→Shared→Prop} (fr:A.frames=some (env::outer)) (lo:env.frame=some L) (fl:Heap.FlyingW base (env::outer) e C a0 s.heap)
 (q:∀h',Heap.HeldW base (env::outer) e C a0 L h'→s.heap.UpToSlots h'→Dicts s.heap h'→Q () {s with heap:=h'}):wpAny M A (noteFrame (.ref e) env) Q E s:=by
 refine wpAny_mono (JH QV (wpAny_looks_onW (M:=M) (A:=A) (E:=fun _ _=>False) (Q:=fun _ s'=>∃h',s'={s with heap:=h'}∧Heap.HeldW base (env::outer) e C a0 L h'∧s.heap.UpToSlots h') fr lo fl fun h' z1 z2=>⟨h',rfl,z1,z2⟩)) (fun _ s' z=>?_) fun _ _ z=>z.1.elim
 obtain ⟨⟨h',rfl,z1,z2⟩,D⟩:=z
 exact q h' z1 z2 D
theorem XX {M:Model} {A:Around} {E:Value→Shared→Prop} {s:Shared} {base:Heap} {l:List Env} {e L:Addr} {C a0:Value} {Q:Unit→Shared→Prop} (held:Heap.HeldW base l e C a0 L s.heap)
 (q:∀h',Heap.FlyingW base l e C a0 h'→s.heap.UpToSlots h'→Dicts s.heap h'→Q () {s with heap:=h'}):wpAny M A (setFlight (.ref e) none) Q E s:=by
 refine wpAny_mono (JH Ny (wpAny_landsW (M:=M) (A:=A) (E:=fun _ _=>False) (Q:=fun _ s'=>∃h',s'={s with heap:=h'}∧Heap.FlyingW base l e C a0 h'∧s.heap.UpToSlots h') held fun h' z1 z2=>⟨h',rfl,z1,z2⟩)) (fun _ s' z=>?_) fun _ _ z=>z.1.elim
 obtain ⟨⟨h',rfl,z1,z2⟩,D⟩:=z
 exact q h' z1 z2 D
theorem XY {M:Model} {A:Around} {E:Value→Shared→Prop} {s:Shared} {base:Heap} {l:List Env} {e:Addr} {C a0:Value} {Q:Unit→Shared→Prop} (held:Heap.FlyingW base l e C a0 s.heap)
 (q:∀h',Heap.FlyingW base l e C a0 h'→s.heap.UpToSlots h'→Dicts s.heap h'→Q () {s with heap:=h'}):wpAny M A (setFlight (.ref e) none) Q E s:=by
 refine wpAny_mono (JH Ny (lands_againW (M:=M) (A:=A) (E:=fun _ _=>False) (Q:=fun _ s'=>∃h',s'={s with heap:=h'}∧Heap.FlyingW base l e C a0 h'∧s.heap.UpToSlots h') held fun h' z1 z2=>⟨h',rfl,z1,z2⟩)) (fun _ s' z=>?_) fun _ _ z=>z.1.elim
 obtain ⟨⟨h',rfl,z1,z2⟩,D⟩:=z
 exact q h' z1 z2 D
section
variable {X:Cx} {pins:List (Addr×Obj)} {σ:L2.St} {H:Hp} {s:Shared}
theorem Inv.track {a:Addr} {o:HO} (I:Inv X pins σ H s) (new:X.s₀.heap.get? a=none) (no:H a=none) (hL:a≠X.env.locals) (hc:∀x c,X.env.cells.lookup x=some c→c≠a) (hp:∀p∈X.pn++pins,p.1≠a) (ok:ObjOk X.prog X.w (Am H a o) s.heap a o):
 Inv X pins σ (Am H a o) s:=by
 have ne:∀b u,H b=some u→b≠a:=fun b u e=>BJ e no
 refine ⟨I.ok,I.os,I.bare,⟨I.base.keep,I.base.slot,fun b ob e n hx=>?_,I.base.there,fun b xs e=>?_,fun b ob u e=>?_,fun b ps e=>?_⟩,I.loc,I.cell,?_,fun x c e=>?_,fun p hp'=>?_,fun b u e=>?_,I.len⟩
 ·rw [Ao (fun z=>by rw [z,new] at e;cases e)];exact I.base.free b ob e n hx
 ·have:=I.base.tups b xs e
  rw [Ao (ne _ _ this)];exact this
 ·have:=I.base.frzs b ob u e
  rw [Ao (ne _ _ this)];exact this
 ·obtain ⟨more,this⟩:=I.base.tbls b ps e
  exact ⟨more,by rw [Ao (ne _ _ this)];exact this⟩
 ·rw [Ao (Ne.symm hL)];exact I.free
 ·rw [Ao (hc x c e)];exact I.freeC x c e
 ·obtain ⟨a1,a2,a3⟩:=I.pin p hp'
  exact ⟨a1,by rw [Ao (hp p hp')];exact a2,a3⟩
 ·by_cases hb:b=a
  ·subst hb
   rw [Bt] at e
   cases e
   exact ok
  ·rw [Ao hb] at e
   exact (I.hok b u e).stay (fun _ _ _ q=>q) (fun c q=>by rw [Ao (ne _ _ q)];exact q) fun c xs q=>by rw [Ao (ne _ _ q)];exact q
theorem Inv.locals {σ':L2.St} {h':Heap} {m':Str→Option Value} {t':Nat} (I:Inv X pins σ H s) (hn':h'.Ns X.env.locals m') (hs:Heap.SameBut X.env.locals s.heap h')
 (hl:∀(i:Nat) (x:Str) (v:V),X.N[i]?=some x→σ'[i]?=some (some v)→Eo X.env.scope x→∃u,RelV v u∧Pb X.env h' m' x u) (len:σ'.length=σ.length):Inv X pins σ' H {s with heap:=h',toks:=t'}:=by
 obtain ⟨m,hn,_⟩:=id I.loc
 obtain ⟨oL,_,_,hoL,_⟩:=id hn
 have neL:∀b o,X.s₀.heap.get? b=some o→b≠X.env.locals:=fun b o e=>BI (Bb (AG e) I.ok.above)
 refine ⟨I.ok,I.os,I.bare,⟨fun b o e n hb hx=>?_,fun b o e n hb hx=>?_,I.base.free,fun b o e hx=>?_,I.base.tups,I.base.frzs,I.base.tbls⟩,⟨_,hn',hl⟩,fun y c e=>?_,I.free,I.freeC,fun p hp=>?_,fun b ob e=>?_,len.trans I.len⟩
 ·exact (hs.2 b (neL b o e)).trans (I.base.keep b o e n hb hx)
 ·obtain ⟨sl,e1⟩:=I.base.slot b o e n hb hx
  exact ⟨sl,(hs.2 b (neL b o e)).trans e1⟩
 ·obtain ⟨o',e1⟩:=I.base.there b o e hx
  exact ⟨o',(hs.2 b (neL b o e)).trans e1⟩
 ·obtain ⟨v,z⟩:=I.cell y c e
  exact ⟨v,z.sameBut hs (I.cne y c e)⟩
 ·obtain ⟨a1,a2,a3,a4⟩:=I.pin p hp
  exact ⟨(hs.2 _ a3).trans a1,a2,a3,a4⟩
 ·refine (I.hok b ob e).stay (fun c w' hc q=>(hs.2 c ?_).trans q) (fun _ q=>q) fun _ _ q=>q
  rintro rfl
  have hfree:=I.free
  rcases hc with rfl |hc
  ·rw [hfree] at e;cases e
  ·rw [hfree] at hc;cases hc
theorem XZ {M:Model} {A:Around} {E:Value→Shared→Prop} {n:Str} {pos:Pos} {i:Nat} {Q:Unit→Shared→Prop} (I:Inv X pins σ H s) (hN:X.N.Nodup) (hi:X.N[i]?=some n) (hl:X.env.kindOf n=some .local)
 (h:∀s',Inv X pins (σ.set i none) H s'→Q () s'):wpAny M A (do bindName X.env n .none;unbindBehindTheSuite X.env n pos) Q E s:=by
 have hp:(X.env.scope.kind==.class||(X.env.scope.kind==.module&&X.env.locals != X.env.globals))=false:=by rw [I.ok.kind];rfl
 refine wpAny_bind (wpAny_bindName (Jf (v:=.non) I hN hi (.inl hl) rfl (fun s1 I1 _=>?_) (.inr hl)))
 unfold unbindBehindTheSuite
 refine wpAny_onRaise ?_
 unfold unbindName
 refine wpAny_bind (wpAny_point (wpAny_bind ?_))
 unfold deleteName
 simp only [hl,hp]
 rw [if_neg (by decide)]
 obtain ⟨m1,hn1,hl1⟩:=I1.loc
 have hin:(m1 n).isSome=true:=by
  have hiσ:i < σ.length:=by rw [I.len];exact (qa6.mp hi).1
  obtain ⟨u,_,lk⟩:=hl1 i n .non hi (by rw [CZ hiσ]) (.inl hl)
  rcases lk with ⟨_,z⟩ |⟨z,_⟩
  ·rw [z];rfl
  ·rcases z with z |z<;>(rw [hl] at z;cases z)
 refine wpAny_bind (wpAny_nsDel_keeps hn1 fun h2 v hn2 hs2=>?_)
 simp only [hin,if_true,Bool.not_true,Dx,if_false]
 refine wpAny_pure (wpAny_point (h _ (Inv.locals (t':=s1.toks) (I1.weak (σ':=σ.set i none) (by simp) fun j v' e=>?_) hn2 hs2 (fun j x v' e1 e2 e3=>?_) rfl)))
 ·by_cases hj:i=j
  ·subst hj
   have hiσ:i < σ.length:=by rw [I.len];exact (qa6.mp hi).1
   rw [CZ hiσ] at e;cases e
  ·rw [BW hj] at e ⊢;exact e
 ·have hj:i≠j:=by
   rintro rfl
   have hiσ:i < σ.length:=by rw [I.len];exact (qa6.mp hi).1
   rw [CZ hiσ] at e2;cases e2
  rw [BW hj] at e2
  obtain ⟨u,r,lk⟩:=hl1 j x v' e1 (by rw [BW hj];exact e2) e3
  have hx:x≠n:=fun z=>hj (ML hN hi (z ▸ e1))
  refine ⟨u,r,?_⟩
  rcases lk with ⟨k1,k2⟩ |⟨k1,c,k2,k3⟩
  ·exact .inl ⟨k1,(if_neg hx).trans k2⟩
  ·exact .inr ⟨k1,c,k2,k3.sameBut hs2 (I1.cne x c k2)⟩
end
def FQ:List (Str×D)→Option (List (Str×Int))
 |[]=>some []
 |(f,.int i)::r=>(FQ r).map fun l=>(f,i)::l
 |_=>none
theorem RB:∀{fs:List (Str×D)} {is:List (Str×Int)} {f:Str} {i:Int},FQ fs=some is→is.lookup f=some i→fs.lookup f=some (.int i)
 |[],is,f,i,e,l=>by cases e;cases l
 |(g,d)::r,is,f,i,e,l=>by
  cases d with
  |int j=>
   simp only [FQ] at e
   cases er:FQ r with
   |none=>rw [er] at e;cases e
   |some l2=>
    rw [er] at e
    cases e
    rw [FH] at l ⊢
    cases hb:f==g with
    |true=>rw [hb] at l;cases l;rfl
    |false=>rw [hb] at l;exact RB er l
  |_=>cases e
open Classical in
noncomputable def Lo (a:Addr) (vs:List V) (Fk:List D→HD→Out D) (f:ME):MS:=fun ρ h=>match (ρ[0]?:Option (Option D)),(h[0]?:Option DE) with
 |some (some (.clo a' vs' ds)),some .tab=>if a'=a∧vs'=vs then (match f (ds.map some) h with
  |.ok _ h1=>.ok (.nx,ρ) h1
  |.err (.str n _) fs h1=>if n∈excNames then (match FQ fs with
   |some is=>(match Fk [.exc n is] h1 with
    |.ok d h2=>.ok (.nx,(ρ.set 1 (some d)).set 2 none) h2
    |_=>.stuck)
   |none=>.stuck) else .stuck
  |_=>.stuck) else .stuck
 |_,_=>.stuck
structure SaidX (X:Cx) (P a c':Addr) (lpos:Pos) (Nc:List Str) (params:Arguments) (body:Expr) (scope:Scope) (cl:List (Str×Addr)) (pm ctv:Value) (vs:List V):Prop where
 N:X.N=(["_law_call","_law_word","_law_e"]:List Str)
 k0:X.env.kindOf "_law_call"=some .local
 k1:X.env.kindOf "_law_word"=some .local
 k2:X.env.kindOf "_law_e"=some .local
 tp:∃c,tabP X.K=some (c,P)
 tb:∃ps,X.H₀ P=some (.tbl ps)∧TriplesOk ps.toList∧codeAmong lpos ps.toList=some (.ref c')
 ob:X.s₀.heap.get? a=some (kla_obj "<lambda>" BG params body scope cl pm c' ctv)
 no:X.H₀ a=none
 nf:a∉X.fs
 clo:JK X.s₀.heap X.H₀ X.outer Nc scope cl vs
section
variable {X:Cx} {E:XK} {P a c':Addr} {lpos:Pos} {Nc:List Str} {params:Arguments} {body:Expr} {scope:Scope} {cl:List (Str×Addr)} {pm ctv:Value} {vs:List V}
theorem X0 {M:Model} {A:Around} {E:Value→Shared→Prop} {s:Shared} {a:Addr} {o:Obj} {fd:FuncData} {Q:Value→Shared→Prop} {env:Env} {pos:Pos} (h0:s.heap.get? a=some o) (hd:o.data=.func fd) (h:wpAny M A (call (.ref a) []) Q E s):
 wpAny M A (callWith pos (.ref a) [] (backTo pos (starEach [] env)) []) Q E s:=
 callWith_of (P:=fun h=>h.get? a=some o) rfl (fun h e=>⟨.frame,.inl rfl,(Looks.ld (part:=none) e).andThen (by rw [hd];exact .now)⟩) (evalArgs_nil3 ⟨h0,h⟩)
theorem SaidX.cloNow (S:SaidX X P a c' lpos Nc params body scope cl pm ctv vs) (lv:Lv X E) {pins:List (Addr×Obj)} {σ:L2.St} {H:Hp} {s:Shared} (I:Inv X pins σ H s):JK s.heap H X.stack Nc scope cl vs∧s.heap.get? a=some (kla_obj "<lambda>" BG params body scope cl pm c' ctv):=by
 have B:Un X.fs [] X.H₀ H X.s₀.heap s.heap:=by have:=I.base;rw [lv.ex] at this;exact this
 have keep:∀c v,X.s₀.heap.IsCell c v→X.H₀ c=none→c∉X.fs→s.heap.IsCell c v:=fun c v z1_ n f=>by obtain ⟨o,e,d⟩:=z1_;exact (⟨o,B.keep c o e n f (by simp),d⟩)
 refine ⟨⟨S.clo.len,S.clo.inj,S.clo.has,fun x c e=>?_,fun i x v e1 e2=>?_⟩,B.keep a _ S.ob S.no S.nf (by simp)⟩
 ·obtain ⟨⟨v,q⟩,n,f⟩:=S.clo.cell x c e
  obtain ⟨o,e1,d⟩:=id q
  refine ⟨⟨v,keep c v q n f⟩,B.free c o e1 n (by simp),fun z=>?_⟩
  rw [lv.frs] at z
  rcases qa5.mp z with z |z
  ·exact absurd (Bb (AG e1) I.ok.above) (by rw [z];exact Dp _)
  ·exact f z
 ·obtain ⟨hf,c,u,e3,e4,r⟩:=S.clo.val i x v e1 e2
  obtain ⟨_,n,f⟩:=S.clo.cell x c e3
  exact ⟨hf,c,u,e3,keep c _ e4 n f,r⟩
def Gx (X:Cx) (e:Addr):Cx:={X with A:=X.A.mark (some (.ref e)),calm:=false,xe:=fun _ _=>False}
theorem Inv.marked {pins:List (Addr×Obj)} {σ:L2.St} {H:Hp} {s:Shared} {e:Addr} (I:Inv X pins σ H s):Inv (Gx X e) pins σ H s:=
 ⟨⟨I.ok.mod,I.ok.kind,I.ok.glob,I.ok.blt,I.ok.above,I.ok.inj,I.ok.has,I.ok.cab,fun z=>(nomatch z),I.ok.frames,I.ok.stk,I.ok.exf,I.ok.bs,I.ok.bsz,I.ok.noex,I.ok.exfs,I.ok.funs,I.ok.frf⟩,I.os,I.bare,I.base,I.loc,I.cell,I.free,I.freeC,I.pin,I.hok,I.len⟩
theorem Inv.unmarked {pins:List (Addr×Obj)} {σ:L2.St} {H:Hp} {s:Shared} {e:Addr} (ok:X.Ok) (I:Inv (Gx X e) pins σ H s):Inv X pins σ H s:=
 ⟨ok,I.os,I.bare,I.base,I.loc,I.cell,I.free,I.freeC,I.pin,I.hok,I.len⟩
theorem X3 {k:Nat} {Fk:List D→HD→Out D} {f:ME} {p4 p5 p6 p7 p8 p9 p10 p11 p12 p13 p14:Pos} (lv:Lv X E) (S:SaidX X P a c' lpos Nc params body scope cl pm ctv vs) (hr:Room (k+1) X.A) (et:etOk X.K=true) (hsw:∃Sw,nsIn X.K mainGlobals "SwitchError"=some (some (.ref Sw)))
 (hgS:X.env.kindOf "SwitchError"=some .globalImplicit) (hgK:X.env.kindOf "_law_kind"=some .globalImplicit)
 (hkind:CaM X.prog X.w X.K X.mg X.base "_law_kind" k Fk) (hL:LamSc scope) (hbind:bindArgs (kla_fn "<lambda>" BG params body scope cl pm (.ref c') ctv) ⟨[],[]⟩=pure [])
 (hb:∀(s:Shared) (H:Hp) (E':XK),Room k (X.A.deeper (envX BG scope s.heap.objs.size a (.ref c') cl))→Ev (FP X.prog X.w X.K X.mg X.base Nc scope a (.ref c') cl X.A X.stack s H E') E' body f):
 Ex X E (.Try [.Expr (.Call (.Name "_law_call" p4) [] [] p5) p6] [.ExceptHandler (some (.Name "SwitchError" p7)) (some "_law_e") [.Assign [.Name "_law_word" p8] (.Call (.Name "_law_kind" p9) [.Name "_law_e" p10] [] p11) p12] p13] [] [] p14) (Lo a vs Fk f):=by
 rintro pins s σ H Dn I ⟨m,ρ,h,hr1,er,p⟩
 refine Classical.byContradiction fun nG=>?_
 have hN0:X.N[0]?=some ("_law_call":Str):=by rw [S.N];rfl
 have hN1:X.N[1]?=some ("_law_word":Str):=by rw [S.N];rfl
 have hN2:X.N[2]?=some ("_law_e":Str):=by rw [S.N];rfl
 have nd:X.N.Nodup:=by rw [S.N];decide +kernel
 obtain ⟨Sw,hSw⟩:=hsw
 unfold Lo at p
 split at p
 ·rename_i a' vs' ds e0 et0
  split at p
  ·rename_i hav
   obtain ⟨rfl,rfl⟩:=hav
   obtain ⟨C,ob⟩:=S.cloNow lv I
   obtain ⟨v0,hv0,rv0⟩:=er.2 0 _ e0
   simp only [DV] at rv0
   obtain ⟨rfl,rds⟩:=rv0
   obtain ⟨aP,haP,tab⟩:=hr1.at et0
   obtain ⟨⟨cc,htp⟩,ps2,hps2,htr2,hcs2⟩:=tab
   obtain ⟨cc',htp'⟩:=S.tp
   rw [htp'] at htp
   cases htp
   obtain ⟨ps,hps,htr,hca⟩:=S.tb
   obtain ⟨more,hmore⟩:=I.base.tbls P ps hps
   have hca2:codeAmong lpos ps2.toList=some (.ref c'):=by
    have e:=hmore.symm.trans hps2
    cases e
    rw [Array.toList_append]
    exact XM htr hca
   obtain ⟨c2,e2,hx2⟩:=hcs2 lpos _ hca2
   cases e2
   have hcd:s.heap.CodeRec (.ref c') BG:=(I.hok c' _ hx2).1
   have run:∀(Q:VK) (E':XK),Post X.K (rD X.K) m H E' Q (f (ds.map some) h)→codeAny (model X.prog X.w) X.A (.call (.ref a') ⟨[],[]⟩) (CR (AE X.prog X.w X.K) X.stack X.prog X.w H s Q E') s:=fun Q E' q=>
    XR hL hr I.env0 C ob hcd hbind (hb s H E') ⟨m,ds,h,hr1,rds,q⟩
   have start:∀{Q:Flow→Shared→Prop} {EE:Value→Shared→Prop},codeAny (model X.prog X.w) X.A (.call (.ref a') ⟨[],[]⟩) (fun r s'=>match r with |.ok (.ret u)=>Q .next s' |.error e=>EE e s' |_=>False) s→
    wpAny (model X.prog X.w) X.A (execs [.Expr (.Call (.Name "_law_call" p4) [] [] p5) p6] X.env) Q EE s:=fun {Q EE} hc=>by
    refine wpAny_execs_cons (wpAny_Expr_any (wpAny_Call_Name_kw ?_) I.quiet rfl)
    obtain ⟨m0,hn0,hl0⟩:=I.loc
    obtain ⟨u,ru,lk⟩:=hl0 0 "_law_call" (.ref a') hN0 hv0 (.inl S.k0)
    cases (show u=Value.ref a' from ru)
    rcases lk with ⟨hk,hm⟩ |⟨z,_⟩
    ·refine wpAny_Name (wpAny_loadName_local I.ok.kind hk hn0 hm (X0 ob rfl (wpAny_call (codeAny_mono hc fun r s' hq=>?_)))) (by decide)
     cases r with
     |error e=>exact hq
     |ok fl=>
      cases fl with
      |ret u=>exact wpAny_execs_nil hq
      |next=>exact hq.elim
      |brk=>exact hq.elim
      |cont=>exact hq.elim
    ·rcases z with z |z<;>(rw [S.k0] at z;cases z)
   refine nG (wpAny_Try_except (start ?_))
   clear nG
   refine Classical.byContradiction fun nG=>?_
   cases ho:f (ds.map some) h with
   |stuck=>rw [ho] at p;exact p.elim
   |ok d h1=>
    rw [ho] at p
    refine nG (codeAny_mono (run (fun v H'=>∃m',m <+:m'∧Kp H H'∧HR X.K m' h1 H') E0 (by rw [ho];exact fun v m' H' p1 k1 hr' _=>⟨m',p1,k1,hr'⟩)) fun r s' hq=>?_)
    cases r with
    |error e=>
     obtain ⟨_,_,_,_,_,_,_,_,_,_,_,_,q⟩:=hq
     exact q.elim
    |ok fl=>
     cases fl with
     |ret u=>
      obtain ⟨v,H',os,bare,un,hok,_,m',p1,k1,hr'⟩:=hq
      exact wpAny_execs_nil ⟨σ,H',I.call' os un hok bare (fun b hb=>absurd hb (by simp)),p m' H' p1 k1 hr' σ (er.keep p1 k1)⟩
     |next=>exact hq.elim
     |brk=>exact hq.elim
     |cont=>exact hq.elim
   |err Cv fs h1=>
    rw [ho] at p
    cases Cv with
    |str n t=>
     simp only at p
     split at p
     ·rename_i hn
      refine nG (codeAny_mono (run (fun _ _=>False) (fun C' da H'=>C'=.str n t∧∃m',m <+:m'∧Kp H H'∧HR X.K m' h1 H'∧XD X.K m' H' fs da) (by rw [ho];exact fun da m' H' p1 k1 hr' xd=>⟨rfl,m',p1,k1,hr',xd⟩)) fun r s1 hq=>?_)
      clear nG
      cases r with
      |ok fl=>
       cases fl with
       |ret u=>obtain ⟨_,_,_,_,_,_,_,z⟩:=hq;exact z.elim
       |next=>exact hq.elim
       |brk=>exact hq.elim
       |cont=>exact hq.elim
      |error e=>
       obtain ⟨ae,Cc,n',da,H',rfl,os,bare,un,hok,fly,nm,hE,m',p1,k1,hr',xd⟩:=hq
       refine Classical.byContradiction fun nG=>?_
       have hnn:n'=n:=by cases hE;rfl
       subst hnn
       have I1:Inv X pins σ H' s1:=I.call' os un hok bare (fun b hb=>absurd hb (by simp))
       obtain ⟨fnew,fno,oe,ws,a0,T,oT,ts,e1,e2,e3,e4,e5,e6,e7,e8,e9,e10,e11⟩:=fly
       have fro:X.A.frames=some (X.env::X.outer):=by rw [←lv.stk];exact I1.ok.frames
       have stk:s1.heap.FunFrames X.base (X.env::X.outer):=by have:=I1.stack;rw [lv.stk] at this;exact this
       have frN:∀b∈frs X.stack,H' b=none:=fun b hb=>I1.stkFree b hb
       have frO:∀b∈frs X.stack,∃o,s1.heap.get? b=some o∧∀vs,o.data≠.fields vs:=fun b hb=>(I1.stack.mem hb).2
       have fly0:Heap.FlyingW (blank (fun b=>b=ae∨b=T∨b∈frs X.stack) s1.heap) (X.env::X.outer) ae (.ref Cc) a0 s1.heap:=
        ⟨Nz,G7 (.inl rfl),Lb stk fun b hb=>.inr (.inr (by rw [lv.stk];exact hb)),oe,ws,T,oT,ts,e1,e2,e3,e4,G7 (.inr (.inl rfl)),e7,e8,e9,e10⟩
       refine nG (XW fro lv.fr fly0 fun h4 held4 sm4 D4=>?_)
       clear nG
       refine XX held4 fun h5 held5 sm5 D5=>?_
       refine Classical.byContradiction fun nG=>?_
       obtain ⟨un5,hok5,fly5⟩:=RA un hok fnew e5 fno e6 frN frO held5.1 (sm4.trans sm5) held5.2.2.2 e1 e11 (D4.trans D5)
       have I5:Inv X pins σ H' {s1 with heap:=h5}:=I.call' (s':={s1 with heap:=h5}) os un5 hok5 bare (fun b hb=>absurd hb (by simp))
       have hmS:X.mg "SwitchError"=some (.ref Sw):=mg_of I.mod.kin I.mod.glob hSw
       have T5:=Lm et hn nm
       obtain ⟨_,_,oe5,ws5,_,_,_,_,f1,f2,f3,_⟩:=id fly5
       refine nG (wpAny_handleBy_cons (codeAny_handlers_test ?_) (by intro q;cases q))
       clear nG
       refine Calls.Name_function_global I5.ok.kind hgS (Calls.loadGlobal_global (by rw [I5.ok.glob];exact I5.mod.glob.keeps I5.bk) hmS ?_) (by decide)
       refine (exm_one (M:=model X.prog X.w) I5.kIn (TyAt.type ⟨oe5,f1,f2.1⟩) (T5.sw Sw hSw)).here ?_
       simp only [if_true]
       refine codeAny_handlers_suite_as (XY held5 fun h6 held6 sm6 D6=>?_)
       obtain ⟨un6,hok6,fly6⟩:=RA un hok fnew e5 fno e6 frN frO held6.1 ((sm4.trans sm5).trans sm6) held6.2.2.2 e1 e11 ((D4.trans D5).trans D6)
       have I6:Inv X pins σ H' {s1 with heap:=h6}:=I.call' (s':={s1 with heap:=h6}) os un6 hok6 bare (fun b hb=>absurd hb (by simp))
       obtain ⟨_,_,oe6,ws6,_,_,_,_,g1,g2,g3,_,_,_,_,_,_,_,g11⟩:=id fly6
       have older:∀b,s.heap.get? b=none→X.s₀.heap.get? b=none:=lv.older I
       have xok:ObjOk X.prog X.w (Am H' ae (.ext (Fh Cc da ae))) h6 ae (.ext (Fh Cc da ae)):=
        ⟨⟨oe6,ws6,g1,g2.1,fun d z=>g11.trans z,g3⟩,⟨oe6,g1⟩,fun ha hb' z2_ k'=>by obtain ⟨o,w',z1,z2,z3,z4⟩:=z2_;exact (⟨o,w',k' o z1,z2,z3,z4⟩)⟩
       have neL:ae≠X.env.locals:=fun z=>by
        obtain ⟨mL,⟨oL,_,_,hoL,_⟩,_⟩:=I.loc
        rw [←z,fnew] at hoL;cases hoL
       have neC:∀x c,X.env.cells.lookup x=some c→c≠ae:=fun x c ex z=>by
        obtain ⟨v,o,hoc,_⟩:=I.cell x c ex
        rw [z,fnew] at hoc;cases hoc
       have neP:∀q∈X.pn++pins,q.1≠ae:=fun q hq z=>by
        have:=(I.pin q hq).1
        rw [z,fnew] at this;cases this
       have I6':=LS.Inv.track I6 (older ae fnew) fno neL neC neP xok
       have kx:Kp H' (Am H' ae (.ext (Fh Cc da ae))):=.new fno
       refine Jf (v:=.ref ae) I6' nd hN2 (.inl S.k2) rfl (fun s7 I7 _=>?_) (.inr S.k2)
       split at p
       rename_i is his
       split at p
       ·rename_i d h2 hk2
        have hr7:HR X.K m' h1 (Am H' ae (.ext (Fh Cc da ae))):=hr'.new fno
        have er7:ER X.K m' (Am H' ae (.ext (Fh Cc da ae))) (ρ.set 2 (some (.exc n' is))) (σ.set 2 (some (.ref ae))):=
         ((er.keep p1 k1).keep (AJ _) kx).set (by simp only [DV];exact ⟨ae,Cc,da,rfl,nm,Bt,fun f i z=>by
           obtain ⟨b,fv,v,q1,q2,q3,q4⟩:=xd f _ (RB his z)
           simp only [DV] at q4
           exact ⟨b,fv,q1,by rw [Ao (BJ q2 fno)];exact q2,by rw [q3,q4]⟩⟩)
        have hρ:2 < ρ.length:=by rw [er.1,I.len,S.N];decide
        have sx:A8 (Gx X ae) E0 [.Assign [.Name "_law_word" p8] (.Call (.Name "_law_kind" p9) [.Name "_law_e" p10] [] p11) p12] (Ay 1 (Ah Fk (Aa (Ab 2) Ad))):=
         AC (AZ (X:=Gx X ae) (i:=1) nd hN1 (Or.inl S.k1) (XU (X:=Gx X ae) hkind (RoomM.of hr _) (Ac (Ae (X:=Gx X ae) (GN (X:=Gx X ae) hN2 (.inl S.k2))) Af) (HX _) hgK) (hf:=.inr S.k1))
        have post:Ig (Gx X ae).K E0 (Ay 1 (Ah Fk (Aa (Ab 2) Ad))) {nx:=fun σ' H''=>Dn.nx (σ'.set 2 none) H'',rt:=fun _ _=>False} (σ.set 2 (some (.ref ae))) (Am H' ae (.ext (Fh Cc da ae))):=by
         refine ⟨m',ρ.set 2 (some (.exc n' is)),h1,hr7,er7,?_⟩
         have ev:Ay 1 (Ah Fk (Aa (Ab 2) Ad)) (ρ.set 2 (some (.exc n' is))) h1=.ok (.nx,(ρ.set 2 (some (.exc n' is))).set 1 (some d)) h2:=by
          unfold Ay Ah Aa Ad Ab
          rw [CZ hρ]
          simp only [Out.bind_ok]
          rw [hk2]
          rfl
         rw [ev]
         intro m2 H2 p2 k2 hr2 σ' er2
         refine p m2 H2 (p1.trans p2) ((k1.trans kx).trans k2) hr2 _ ⟨by simp [er2.1.symm],fun i di e=>?_⟩
         by_cases hi:2=i
         ·subst hi
          rw [CZ (by simpa using hρ)] at e
          cases e
         ·rw [BW hi] at e
          obtain ⟨v,z1,z2⟩:=er2.2 i di (by
           by_cases h1i:1=i
           ·subst h1i
            rw [CZ (by omega)] at e
            rw [CZ (by simp;omega)];exact e
           ·rw [BW h1i] at e
            rw [BW h1i,BW hi];exact e)
          exact ⟨v,by rw [BW hi];exact z1,z2⟩
        refine wpAny_mono (sx pins s7 _ _ _ (Inv.marked I7) post) (fun fl s8 h8=>?_) fun _ _ z=>False.elim z
        cases fl with
        |next=>
         obtain ⟨σ',H'',I8,q8⟩:=h8
         exact XZ (Inv.unmarked I.ok I8) nd hN2 S.k2 fun s9 I9=>⟨_,H'',I9,q8⟩
        |ret u=>obtain ⟨_,_,_,_,_,z⟩:=h8;exact False.elim z
        |brk=>obtain ⟨_,_,_,z⟩:=h8;exact False.elim z
        |cont=>obtain ⟨_,_,_,z⟩:=h8;exact False.elim z
       ·exact p.elim
       ·exact p.elim
     ·exact p.elim
    |_=>exact p.elim
  ·exact p.elim
 ·exact p.elim
end
noncomputable def NT (Fk:List D→HD→Out D):Out D→Out D
 |.ok _ h1=>.ok (.str "told") h1
 |.err (.str n _) fs h1=>if n∈excNames then (match FQ fs with
  |some is=>(match Fk [.exc n is] h1 with
   |.ok d h2=>.ok d h2
   |_=>.stuck)
  |none=>.stuck) else .stuck
 |_=>.stuck
noncomputable def DW (cs:List Nat) (Fk:List D→HD→Out D) (f:ME):ME:=fun ρ h=>match (h[0]?:Option DE),A2 (cs.map fun j=>(ρ[j]?).join) with
 |some .tab,some ds=>NT Fk (f (ds.map some) h)
 |_,_=>.stuck
structure LSc (X:Cx) (scope:Scope) (Nc:List Str) (cs:List Nat):Prop where
 lam:LamSc scope
 nd:(scope.names.map (·.1)).Nodup
 free:(scope.names.all fun y=>y.2 != .free||(X.env.kindOf y.1==some .cell||X.env.kindOf y.1==some .free))=true
 len:cs.length=Nc.length
 out:((Nc.zip cs).all fun p=>X.N[p.2]?==some p.1&&scope.names.lookup p.1==some .free)=true
theorem LSc.at_ {X:Cx} {scope:Scope} {Nc:List Str} {cs:List Nat} (S:LSc X scope Nc cs) {i j:Nat} {x:Str} (h1:Nc[i]?=some x) (h2:cs[i]?=some j):X.N[j]?=some x∧scope.names.lookup x=some .free:=by
 have hz:(Nc.zip cs)[i]?=some (x,j):=by
  rw [List.getElem?_zip_eq_some]
  exact ⟨h1,h2⟩
 have:=qaJ.mp S.out (x,j) (GH hz)
 simpa using this
theorem LSc.fr {X:Cx} {scope:Scope} {Nc:List Str} {cs:List Nat} (S:LSc X scope Nc cs):∀y∈scope.names,y.2=.free→X.env.kindOf y.1=some .cell∨X.env.kindOf y.1=some .free:=fun y hy e=>by
 have:=qaJ.mp S.free y hy
 rw [e] at this
 simpa using this
theorem RC {K:Frag} {m:List Addr} {H:Hp} {ρ:Ai} {σ:L2.St} (er:ER K m H ρ σ):∀{cs:List Nat} {ds:List D},A2 (cs.map fun j=>(ρ[j]?).join)=some ds→∃vs,DVs K m H ds vs∧vs.length=cs.length∧∀(i:Nat) (v:V),vs[i]?=some v→∃j,cs[i]?=some j∧σ[j]?=some (some v)
 |[],ds,e=>by
  simp [A2] at e
  subst e
  exact ⟨[],.nil,rfl,fun i v z=>by simp at z⟩
 |j::cs,ds,e=>by
  rw [Cs] at e
  cases ed:(ρ[j]?).join with
  |none=>rw [ed] at e;simp [A2] at e
  |some d=>
   rw [ed] at e
   simp only [A2,qaY] at e
   obtain ⟨ds',e1,rfl⟩:=e
   obtain ⟨vs,h1,h2,h3⟩:=RC er e1
   obtain ⟨v,e2,r⟩:=er.2 j d (join_some.mp ed)
   refine ⟨v::vs,.cons r h1,by simp [h2],fun i v' z=>?_⟩
   cases i with
   |zero=>simp at z;subst z;exact ⟨j,rfl,e2⟩
   |succ i=>simpa using h3 i v' (by simpa using z)
section
variable {X:Cx} {E:XK} {c P:Addr} {Nc:List Str} {cs:List Nat} {params:Arguments} {body:Expr} {scope:Scope}
theorem X4 {α:Type} {l:List (Str×α)} {x:Str} {v:α} (h:(x,v)∈l):∃w,l.lookup x=some w:=by
 cases e:l.lookup x with
 |some w=>exact ⟨w,rfl⟩
 |none=>
  have:=List.lookup_eq_none_iff.mp e _ h
  simp at this
theorem X5 {k:Nat} {Fk:List D→HD→Out D} {f:ME} {fs:Addr} {fd:FuncData} {st:Stmt} {lpos p pos p1 p2 p3 p4 p5 p6 p7 p8 p9 p10 p11 p12 p13 p14 p15 p16:Pos} {j1:Nat} (L:LamX X c P) (fna:∀x,X.fn x=true) (hr:Room (k+2) X.A) (lv:Lv X E) (et:etOk X.K=true)
 (hsw:∃Sw,nsIn X.K mainGlobals "SwitchError"=some (some (.ref Sw)))
 (Fn:Fun X.K "_law_said" "_law_said" st fs fd) (hbd:Binds X.K fd ["_law_call"] []) (hm:X.mg "_law_said"=some (.ref fs)) (hkp:keepIn X.K (.ref fs)=true)
 (Sf:Bg ["_law_call","_law_word","_law_e"] ["_law_call"] (defScope st)) (hk0:(defScope st).names.lookup ("_law_call":Str)=some .local) (hk1:(defScope st).names.lookup ("_law_word":Str)=some .local) (hk2:(defScope st).names.lookup ("_law_e":Str)=some .local)
 (hgS:∀L' cd,(envOfC "_law_said" (defScope st) L' fs cd).kindOf "SwitchError"=some .globalImplicit) (hgK:∀L' cd,(envOfC "_law_said" (defScope st) L' fs cd).kindOf "_law_kind"=some .globalImplicit)
 (hst:defBody st=[.Assign [.Name "_law_word" p1] (.Constant (.str "told") j1 p2) p3,.Try [.Expr (.Call (.Name "_law_call" p4) [] [] p5) p6] [.ExceptHandler (some (.Name "SwitchError" p7)) (some "_law_e") [.Assign [.Name "_law_word" p8] (.Call (.Name "_law_kind" p9) [.Name "_law_e" p10] [] p11) p12] p13] [] [] p14,.Return (some (.Name "_law_word" p15)) p16])
 (hkind:CaM X.prog X.w X.K X.mg X.base "_law_kind" k Fk) (hg:Gl X "_law_said") (S:LSc X scope Nc cs) (hdef:defaultsOf params X.env=([],[]))
 (hbind:∀(cl:List (Str×Addr)) (pm cv ctv:Value),bindArgs (kla_fn "<lambda>" BG params body scope cl pm cv ctv) ⟨[],[]⟩=pure [])
 (hb:∀(a:Addr) (cd:Value) (cl:List (Str×Addr)) (A:Around) (outer:List Env) (s:Shared) (H:Hp) (E':XK),Room k (A.deeper (envX BG scope s.heap.objs.size a cd cl))→Ev (FP X.prog X.w X.K X.mg X.base Nc scope a cd cl A outer s H E') E' body f)
 (he:starEach [.Lambda params body scope lpos] X.env=(false,eval (.Lambda params body scope lpos) X.env)::starEach [] X.env:=by rfl) (hpl:(backTo pos (starEach [] X.env)).any (·.1)=false:=by rfl):
 Ev X E (.Call (.Name "_law_said" p) [.Lambda params body scope lpos] [] pos) (DW cs Fk f):=by
 rintro pins s σ H Q I ⟨m,ρ,h,hr1,er,pp⟩
 unfold DW at pp
 split at pp
 ·rename_i ds et0 eds
  obtain ⟨aP,haP,tab⟩:=hr1.at et0
  obtain ⟨⟨cc,htp⟩,tabr⟩:=id tab
  rw [L.tp] at htp
  cases htp
  obtain ⟨vs,dvs,vlen,vat⟩:=RC er eds
  obtain ⟨cl,hclos,hcl,hcl2⟩:=Nf (scope:=scope) (env:=X.env) fun y hy hf=>I.ok.has y.1 (S.fr y hy hf)
  refine wpAny_Call_Name_kw (F6 I hg hm ?_ (by decide))
  refine PySem.W.callWith_K (h₀:=X.base) I.ok.mod.kin hkp ?_ he hpl
  rw [he]
  show wpAny _ _ (spliced ((false,eval (.Lambda params body scope lpos) X.env)::[])) _ _ s
  refine Calls.spliced_cons (XN L I tab hdef hclos fun a c' ctv pm h' tk H' I' kp tab' same keep hsz no ob code=>?_)
  refine wpAny_pure ⟨I'.kIn,wpAny_call ?_⟩
  generalize hs1:({s with heap:=h',toks:=tk}:Shared)=s1 at I'
  have hh1:s1.heap=h':=by rw [←hs1]
  have hrN:HR X.K m h H':=hr1.tab kp same tab' tab
  have frLt:∀b∈frs X.stack,b<s.heap.objs.size:=fun b hb=>by
   obtain ⟨_,o,ho,_⟩:=I.stack.mem hb
   exact AG ho
  have cof:∀x c,cl.lookup x=some c→X.env.cells.lookup x=some c:=fun x c e=>(hcl x c (mem_of_lookup e)).1
  have hasC:∀x,scope.names.lookup x=some .free→∃c,cl.lookup x=some c:=fun x e=>by
   obtain ⟨c,hc⟩:=hcl2 _ (mem_of_lookup e) rfl
   exact X4 hc
  have C1:JK s1.heap H' X.stack Nc scope cl vs:=by
   refine ⟨by rw [vlen,S.len],fun x y c e1 e2=>I.ok.inj x y c (cof x c e1) (cof y c e2),hasC,fun x c e=>?_,fun i x v e1 e2=>?_⟩
   ·refine ⟨I'.cell x c (cof x c e),I'.freeC x c (cof x c e),fun z=>?_⟩
    rcases qa5.mp (I.stkSub c z) with z |z
    ·exact I.cne x c (cof x c e) z
    ·obtain ⟨_,o,ho,_⟩:=I.ok.funs.mem z
     exact absurd (Bb (AG ho) (I.ok.cab x c (fna x) (cof x c e))) (Dp _)
   ·obtain ⟨j,ej,sj⟩:=vat i v e2
    obtain ⟨hN,hf⟩:=S.at_ e1 ej
    have hk:=S.fr _ (mem_of_lookup hf) rfl
    obtain ⟨m0,hn0,hl0⟩:=I'.loc
    obtain ⟨u,r,lk⟩:=hl0 j x v hN sj (by rcases hk with z |z;exact .inr (.inl z);exact .inr (.inr z))
    refine ⟨hf,?_⟩
    rcases lk with ⟨z,_⟩ |⟨_,c,e3,e4⟩
    ·rcases hk with y |y<;>(rw [z] at y;cases y)
    ·obtain ⟨c2,e5⟩:=hasC x hf
     have:=cof x c2 e5
     rw [e3] at this
     cases this
     exact ⟨c,u,e5,e4,r⟩
  obtain ⟨oc,od,kV,doc,pm2,an,cdv,ct,osl,rfl,lk,hcd⟩:=Fn.ex
  have e0:=I'.env0
  have KX:X.K.In s1.heap:=I'.kIn
  have lim:s1.heap.NoLimit:=I'.nolimit
  have hkind2:∀y∈(["_law_call"]:List Str).zip [Value.ref a],(defScope st).names.lookup y.1=some .local∨((defScope st).names.lookup y.1=some .cell∧((cellsFrom (s1.heap.objs.size+1) (defScope st).names []).lookup y.1).isSome=true):=fun y hy=>by
   have:y=(("_law_call":Str),Value.ref a):=by simpa using hy
   subst this
   exact .inl hk0
  have bt:=hbd s1 [.ref a] I'.kIn rfl
  rw [Fd] at bt
  refine codeAny_mono (R:=CR (AE X.prog X.w X.K) X.stack X.prog X.w H' s1 Q E) ?_ fun r s' hq=>?_
  ·refine codeAny_call_function hr.depth (KX _ _ lk) rfl Sf.co Sf.gen rfl (PySem.W.codeRec_of KX hcd) (bt _ _ _ _ ?_)
   refine wpAny_newFunctionEnv_cells Sf.kind hkind2 fun env he2 s2 x=>?_
   subst he2
   refine ⟨lim.keeps x.toInCall.keep,codeAny_func ?_⟩
   have I2:Inv (AW (AE X.prog X.w X.K) X.prog X.w X.K X.mg X.base ["_law_call","_law_word","_law_e"] "_law_said" (defScope st) fs cdv X.A X.stack s1 H' E) [] (L2.start ["_law_call","_law_word","_law_e"] [.ref a]) H' s2:=
    PB Sf hr.hd e0 rfl (.cons rfl .nil) x
   obtain ⟨ps,hps,hca⟩:=code
   have tri:TriplesOk ps.toList:=by
    obtain ⟨_,ps',z1,z2,_⟩:=tab'
    rw [hps] at z1;cases z1;exact z2
   have SX:SaidX (AW (AE X.prog X.w X.K) X.prog X.w X.K X.mg X.base ["_law_call","_law_word","_law_e"] "_law_said" (defScope st) fs cdv X.A X.stack s1 H' E) P a c' lpos Nc params body scope cl pm ctv vs:=
    ⟨rfl,hk0,hk1,hk2,⟨c,L.tp⟩,⟨ps,hps,tri,hca⟩,by show s1.heap.get? a=_;rw [hh1];exact ob,no,fun z=>absurd (Bb (frLt a z) hsz) (Dp _),C1⟩
   have hrS:Room (k+1) (AW (AE X.prog X.w X.K) X.prog X.w X.K X.mg X.base ["_law_call","_law_word","_law_e"] "_law_said" (defScope st) fs cdv X.A X.stack s1 H' E).A:=hr.deeper _
   have bx:=Av (AZ (X:=AW (AE X.prog X.w X.K) X.prog X.w X.K X.mg X.base ["_law_call","_law_word","_law_e"] "_law_said" (defScope st) fs cdv X.A X.stack s1 H' E) (E:=E) (i:=1) (pos:=p3) (pos':=p1) Sf.nd rfl (Or.inl hk1) (BX (x:="told") (j:=j1) (pos:=p2)))
    (Av (X3 (p4:=p4) (p5:=p5) (p6:=p6) (p7:=p7) (p8:=p8) (p9:=p9) (p10:=p10) (p11:=p11) (p12:=p12) (p13:=p13) (p14:=p14) G9 SX hrS et hsw (hgS _ _) (hgK _ _) hkind S.lam (hbind cl pm (.ref c') ctv) (fun s H E'=>hb a (.ref c') cl _ _ s H E'))
     (AC (A4 (pos:=p16) (Ae (GN (i:=1) (x:="_law_word") (pos:=p15) rfl (.inl hk1))))))
   rw [←hst] at bx
   have post:Ig X.K E (Al (Ay 1 (mC (.str "told"))) (Al (Lo a vs Fk f) (AL (Ab 1)))) {nx:=fun _ H''=>Q .non H'',rt:=Q} (L2.start ["_law_call","_law_word","_law_e"] [.ref a]) H':=by
    refine ⟨m,[some (.clo a vs ds),none,none],h,hrN,?_,?_⟩
    ·refine ⟨rfl,fun i d e=>?_⟩
     match i,e with
     |0,e=>cases e;exact ⟨.ref a,rfl,by unfold DV;exact ⟨rfl,DVs.keep (AJ _) kp dvs⟩⟩
     |1,e=>cases e
     |2,e=>cases e
     |i+3,e=>cases e
    ·have p2:=Post.ahead (AJ m) kp pp
     unfold Al Ay mC
     simp only [Out.bind_ok]
     unfold Lo
     simp only [List.set_cons_succ,List.set_cons_zero,List.getElem?_cons_zero,et0,and_self,if_true]
     unfold NT at p2
     cases ho:f (ds.map some) h with
     |stuck=>rw [ho] at p2;exact p2.elim
     |ok d h1=>
      rw [ho] at p2
      exact fun m' H'' p1 k1 hr' v rv=>p2 v m' H'' p1 k1 hr' rv
     |err Cv fs h1=>
      rw [ho] at p2
      cases Cv with
      |str n t=>
       simp only at p2 ⊢
       split at p2
       ·rename_i hn
        simp only [hn,if_true]
        cases hi:FQ fs with
        |none=>rw [hi] at p2;exact p2.elim
        |some is=>
         rw [hi] at p2
         simp only at p2 ⊢
         cases hk:Fk [.exc n is] h1 with
         |stuck=>rw [hk] at p2;exact p2.elim
         |err _ _ _=>rw [hk] at p2;exact p2.elim
         |ok d h2=>
          rw [hk] at p2
          exact fun m' H'' p1 k1 hr' v rv=>p2 v m' H'' p1 k1 hr' rv
       ·exact p2.elim
      |_=>exact p2.elim
   refine wpAny_mono (bx [] s2 _ H' _ I2 post) (fun fl s' hs=>?_) fun e s' hs=>hs
   cases fl with
   |ret u=>
    obtain ⟨v,σ',H'',J,rv,q⟩:=hs
    exact ⟨v,H'',J.os,J.bare,J.base,J.hok,rv,q⟩
   |next=>
    obtain ⟨σ',H'',J,q⟩:=hs
    exact ⟨V.non,H'',J.os,J.bare,J.base,J.hok,rfl,q⟩
   |brk=>
    obtain ⟨_,_,_,q⟩:=hs
    exact False.elim q
   |cont=>
    obtain ⟨_,_,_,q⟩:=hs
    exact False.elim q
  ·cases r with
   |error e=>exact NA lv pins σ H' s1 e s' I' hq
   |ok fl=>
    cases fl with
    |ret u=>exact I'.after hq
    |next=>exact False.elim hq
    |brk=>exact False.elim hq
    |cont=>exact False.elim hq
 ·exact pp.elim
end
def IJ (mg:Str→Option Value) (base:Heap):Prop:=∃bm o,mg "__builtins__"=some (.ref bm)∧bm≠builtinsNs∧base.get? bm=some o∧o.cls=.type "module"∧o.dict=some builtinsNs∧o.data=.plain
theorem X6 {P:Program} {w:World} {K:Frag} {mg mb:Str→Option Value} {k:Nat} {fa a c T:Addr} {fd:FuncData} {x:Str} {F:List D→HD→Out D} {s₁:Shared} {vs:List Value} {ns:List Int}
 (KX:K.In s₁.heap) (hns:s₁.heap.Ns mainGlobals mg) (hb:s₁.heap.Ns builtinsNs mb) (hbb:∀x:Str,x≠"__name__"→mb x=bootBuiltins x) (hlim:s₁.heap.NoLimit) (hg:s₁.gens=#[]) (hbm:IJ mg s₁.heap)
 (ha:s₁.heap.get? a=some {cls:=.type "list",data:=.seq vs.toArray}) (hi:IntsAre vs ns) (hl:ns.length≤sizeLine) (hr:Room k callerA)
 (htp:tabP K=some (c,T)) (hcd:codeHdIn K c T=true) (hT:s₁.heap.get? T=some (tabObj #[])) (hKT:K.lookup T=none)
 (FF:∀base:Heap,K.In base→base.Ns mainGlobals mg→IJ mg base→FnOk P w K mg base (AE P w K) k fa fd [x] (FN K F)) (hbind:∀(s:Shared) (u:Value),BindsTo s fd ⟨[u],[]⟩ [(x,u)])
 (hF:∃h',F [.scr ns] [.tab]=.ok (.bl true) h'):
 codeAny (model P w) callerA (.call (.ref fa) ⟨[.ref a],[]⟩) (fun r s'=>r=.ok (.ret (.bool true))∧OldK s₁.heap s'.heap∧s'.os=s₁.os∧AllBare s'.gens) s₁:=by
 have rv:=L2.vals_ints hi
 have lenV:=hi.length
 have aT:a≠T:=fun z=>by rw [z,hT] at ha;cases ha
 have core:∀H:Hp,(∀b,b=T∨H b=none∨∃o xs,H b=some (.frz o (.lst xs)))→H T=some (.tbl #[])→FzL K H a (ns.map V.int)→HOk P w H s₁.heap→(∀b,H b≠none→b=a∨b=T)→(H a≠none→K.lookup a=none)→
  codeAny (model P w) callerA (.call (.ref fa) ⟨[.ref a],[]⟩) (fun r s'=>r=.ok (.ret (.bool true))∧OldK s₁.heap s'.heap∧s'.os=s₁.os∧AllBare s'.gens) s₁:=by
  intro H hO hHT hS hok hA hK
  have base_of:∀{b:Addr} {o:Obj},s₁.heap.get? b=some o→H b=none→(Ff s₁.heap H).get? b=some o:=fun e n=>TY e n
  have noA:∀{b:Addr} {o:Obj},s₁.heap.get? b=some o→(∀its n,o.data≠.seq its n)→(∀ws,o.data≠.fields ws)→H b=none:=fun {b o} e d1 d2=>by
   cases q:H b with
   |none=>rfl
   |some u=>
    rcases hA b (by rw [q];simp) with e' |e'
    ·subst e'
     rw [ha] at e;cases e
     exact absurd rfl (d1 _ _)
    ·subst e'
     rw [hT] at e;cases e
     exact absurd rfl (d2 _)
  have nsK:∀{b:Addr} {m:Str→Option Value},s₁.heap.Ns b m→(Ff s₁.heap H).Ns b m:=fun {b m} ⟨o,es,ep,e,d,r⟩=>⟨o,es,ep,base_of e (noA e (fun _ _ z=>by rw [d] at z;cases z) (fun _ z=>by rw [d] at z;cases z)),d,r⟩
  have hKb:K.In (Ff s₁.heap H):=fun b o e=>base_of (KX b o e) (by
   cases q:H b with
   |none=>rfl
   |some u=>
    rcases hA b (by rw [q];simp) with e' |e'
    ·subst e'
     rw [hK (by rw [q];simp)] at e;cases e
    ·subst e'
     rw [hKT] at e;cases e)
  have hM:Mod K mg (Ff s₁.heap H):=⟨hKb,nsK hns,⟨mb,nsK hb,hbb⟩,let ⟨mc,h1,h2⟩:=hlim;⟨mc,nsK h1,h2⟩⟩
  have e0:Env0 P w K mg (Ff s₁.heap H) callerA [] s₁ H:=⟨rfl,hM,fun b o e=>TZ e,Nat.le_of_eq (TX _ _),trivial,fun b hb=>absurd (show b∈([]:List Addr) from hb) (by simp),hok,.of_eq hg⟩
  have hBM:IJ mg (Ff s₁.heap H):=by
   obtain ⟨bm,o,h1,h2,h3,h4,h5,h6⟩:=hbm
   exact ⟨bm,o,h1,h2,base_of h3 (noA h3 (fun _ _ z=>by rw [h6] at z;cases z) (fun _ z=>by rw [h6] at z;cases z)),h4,h5,h6⟩
  have hsp:FN K F [.ref a] H (fun v _=>v=.bl true) fun _ _ _=>False:=by
   obtain ⟨h',e⟩:=hF
   refine ⟨[T],[.scr ns],[.tab],⟨rfl,by simp,fun l cc b e1 e2=>?_⟩,.cons (by simp only [DV];exact ⟨a,rfl,hS⟩) .nil,?_⟩
   ·cases l with
    |zero=>
     simp at e1 e2
     subst e1 e2
     exact ⟨⟨c,htp⟩,#[],hHT,trivial,fun pos cv z=>by simp [codeAmong] at z⟩
    |succ l=>simp at e1
   ·rw [e]
    intro v m' H' _ _ _ r
    simpa [rD,DV] using r
  refine codeAny_mono ((FF _ hKb (nsK hns) hBM).run callerA [] s₁ H ⟨[.ref a],[]⟩ [.ref a] [.ref a] _ _ hr e0 (hbind s₁ (.ref a)) (.cons rfl .nil) hsp) fun r s' h=>?_
  cases r with
  |error e=>
   obtain ⟨_,_,_,_,_,_,_,_,_,_,_,_,q⟩:=h
   exact q.elim
  |ok fl=>
   cases fl with
   |next=>exact False.elim h
   |brk=>exact False.elim h
   |cont=>exact False.elim h
   |ret u=>
    obtain ⟨v,H',os,bare,un,hok',r',q⟩:=h
    have q':v=.bl true:=q
    subst q'
    obtain rfl:u=Value.bool true:=r'
    obtain ⟨more,hT'⟩:=un.tbls T _ hHT
    have hT2:s'.heap.get? T=some (tabObj (#[]++more)):=hok' T _ hT'
    have keepO:∀b o,b≠T→s₁.heap.get? b=some o→s'.heap.get? b=some o:=fun b o hbT e=>by
     cases q:H b with
     |none=>exact un.keep b o e q (by intro z;exact absurd (show b∈([]:List Addr) from z) (by simp)) (by simp)
     |some u=>
      rcases hO b with z |z |⟨ob,xs,z⟩
      ·exact absurd z hbT
      ·rw [q] at z;cases z
      ·have z2:=un.frzs b ob _ z
       obtain ⟨e1,_⟩:=hok b _ z
       obtain ⟨e2,_⟩:=hok' b _ z2
       rw [e] at e1;cases e1
       exact e2
    have hC:=codeHd_of_K KX hcd
    refine ⟨rfl,⟨fun b o e=>?_,fun b o e=>?_⟩,os,bare⟩
    ·by_cases hbT:b=T
     ·subst hbT
      rw [hT] at e
      cases e
      exact .inr (.inl ⟨(hC.tab hT).isCodeTable,rfl,#[],more,rfl,hT2⟩)
     ·exact .inl (keepO b o hbT e)
    ·by_cases hbT:b=T
     ·subst hbT;exact ⟨_,hT2⟩
     ·exact ⟨o,keepO b o hbT e⟩
 cases hk:K.lookup a with
 |some o=>
  have e:=KX a o hk
  rw [ha] at e
  cases e
  refine core (fun b=>if b=T then some (.tbl #[]) else none) (fun b=>?_) (if_pos rfl) (.inr (.inr ⟨_,vs.toArray,_,hk,rfl,rfl,rfl,by rw [Bc,lenV];exact hl,by simpa using rv⟩)) (fun b u z=>?_) (fun b z=>?_) fun z=>absurd (if_neg aT) z
  ·by_cases hb:b=T
   ·exact .inl hb
   ·exact .inr (.inl (if_neg hb))
  ·by_cases hb:b=T
   ·have z':=(if_pos hb).symm.trans z
    cases z'
    subst hb
    exact hT
   ·have z':=(if_neg hb).symm.trans z
    cases z'
  ·by_cases hb:b=T
   ·exact .inr hb
   ·exact absurd (if_neg hb) z
 |none=>
  refine core (fun b=>if b=T then some (.tbl #[]) else if b=a then some (.frz {cls:=.type "list",data:=.seq vs.toArray} (.lst (ns.map V.int))) else none) (fun b=>?_) (if_pos rfl) (.inl ⟨{cls:=.type "list",data:=.seq vs.toArray},(if_neg aT).trans (if_pos rfl)⟩) (fun b u z=>?_) (fun b z=>?_) fun _=>hk
  ·by_cases hb:b=T
   ·exact .inl hb
   ·by_cases hba:b=a
    ·exact .inr (.inr ⟨_,_,(if_neg hb).trans (if_pos hba)⟩)
    ·exact .inr (.inl ((if_neg hb).trans (if_neg hba)))
  ·by_cases hb:b=T
   ·have z':=(if_pos hb).symm.trans z
    cases z'
    subst hb
    exact hT
   ·have z1:=(if_neg hb).symm.trans z
    by_cases hba:b=a
    ·have z':=(if_pos hba).symm.trans z1
     cases z'
     subst hba
     exact ⟨ha,by rw [Cb];exact hl,vs,_,rv,ha⟩
    ·have z':=(if_neg hba).symm.trans z1
     cases z'
  ·by_cases hb:b=T
   ·exact .inr hb
   ·by_cases hba:b=a
    ·exact .inl hba
    ·exact absurd ((if_neg hb).trans (if_neg hba)) z
open AutoSeq1 (wpAny_loadPart')
theorem X7:fillsNumberSlot (.type "tuple") "mul"=pure false:=by
 first |exact noFill_tuple_mul' |(unfold fillsNumberSlot;kernel_rfl)
theorem X8:seqRepeat? (.type "tuple")=pure (some (.builtin "tuple.__mul__")):=by
 unfold seqRepeat?
 rw [PySem.seqSlot_of (T:="tuple") (name:="__mul__") (id:="tuple.__mul__") F.slot_tuple_mul.lookup (by decide +kernel),PySem.seqSlot_of (T:="tuple") (name:="__rmul__") (id:="tuple.__rmul__") (by rw [typeLookup_type,builtinLookup_eq_fast];kernel_rfl) (by decide +kernel)]
 rfl
theorem X9 (a:Int) (t:Tok) (l:Addr) (items:Array Value) (n:Nat) (dd:Option Addr) (sl:Array (Option Value)):
 Meets (Builtin.«int.__rmul__» ⟨[.int a t,.ref l],[]⟩) (fun _ R s=>s.heap.get? l=some {cls:=.type "tuple",dict:=dd,data:=.seq items n,slots:=sl}∧R (.ok (.ret Value.notImplemented)) s):=
 .of_wp fun prog w A R s h=>by
  obtain ⟨hp,g,d,tk,os⟩:=s;obtain ⟨hl,h⟩:=h
  wp_walk;exact ⟨_,rfl,h⟩
theorem Yb (l:Addr) (items:Array Value) (n:Nat) (dd:Option Addr) (sl:Array (Option Value)) (x:Int) (u:Tok) (h1:1<x) (h2:x<2^63) (hne:items.isEmpty=false) (hz:items.size*x.toNat≤sizeLine):
 Meets (Builtin.«tuple.__mul__» ⟨[.ref l,.int x u],[]⟩) (fun _ R s=>s.heap.get? l=some {cls:=.type "tuple",dict:=dd,data:=.seq items n,slots:=sl}∧R (.ok (.ret (Value.ref s.heap.objs.size))) {s with heap:=s.heap.push {cls:=Value.type "tuple",data:=Data.seq (List.foldl (fun x1 x2=>x1++x2) #[] (List.replicate x.toNat items))}}):=
 .of_wp fun prog w A R s h=>by
  obtain ⟨hp,g,d,tk,os⟩:=s;obtain ⟨hl,h⟩:=h
  have c1:(decide (x < -2^63)||decide (x≥2^63))=false:=by simp;omega
  have c2:(items.isEmpty||x==1)=false:=by
   rw [hne,Bool.false_or]
   exact beq_eq_false_iff_ne.mpr (by omega)
  have c3:(decide (x≤0)||items.isEmpty)=false:=by
   rw [hne,Bool.or_false]
   exact decide_eq_false (by omega)
  have hx:(x.toNat:Int)=x:=Int.toNat_of_nonneg (by omega)
  have hz':(items.size:Int)*x≤sizeLine:=by rw [←hx];exact_mod_cast hz
  have c4:¬((items.size:Int)*x>(2^63 - 1) / 8):=by
   have:(sizeLine:Int)≤(2^63 - 1) / 8:=by decide
   omega
  have c5:Builtin.Tuple.tupleTooMany ((items.size:Int)*x)=false:=by
   unfold Builtin.Tuple.tupleTooMany
   exact decide_eq_false (by omega)
  have c6:(List.foldl (fun x1 x2=>x1++x2) #[] (List.replicate x.toNat items)).size≤sizeLine:=by
   have f0:=KB items.toList x.toNat []
   rw [HV] at f0
   have:List.foldl (fun x1 x2=>x1++x2) #[] (List.replicate x.toNat items)=(List.replicate x.toNat items.toList).flatten.toArray:=by simpa using f0
   rw [this,Bc,KC,Nat.mul_comm]
   simpa using hz
  wp_walk using wpAny_loadPart' hl
  rw [c1]
  simp only [Dx,if_false]
  refine wpAny_bind ?_
  unfold Builtin.Tuple.tupleItemsOf
  wp_walk using wpAny_loadPart' hl
  rw [c2]
  simp only [Dx,if_false]
  rw [c3]
  simp only [Dx,if_false]
  rw [if_neg c4,c5]
  simp only [Dx,if_false]
  refine wpAny_bind (wpAny_newObj_type (wpAny_pure ⟨_,rfl,h⟩) c6)
theorem Yc (l:Addr) (items:Array Value) (n:Nat) (dd:Option Addr) (sl:Array (Option Value)) (u:Tok):
 Meets (Builtin.«tuple.__mul__» ⟨[.ref l,.int 1 u],[]⟩) (fun _ R s=>s.heap.get? l=some {cls:=.type "tuple",dict:=dd,data:=.seq items n,slots:=sl}∧R (.ok (.ret (Value.ref l))) s):=
 .of_wp fun prog w A R s h=>by
  obtain ⟨hp,g,d,tk,os⟩:=s;obtain ⟨hl,h⟩:=h
  have c1:(decide ((1:Int) < -2^63)||decide ((1:Int)≥2^63))=false:=by decide
  have c2:(items.isEmpty||(1:Int)==1)=true:=by simp
  wp_walk using wpAny_loadPart' hl
  exact ⟨_,rfl,h⟩
theorem Yd (l:Addr) (items:Array Value) (n:Nat) (dd:Option Addr) (sl:Array (Option Value)) (x:Int) (u:Tok) (h1:-(2^63)≤x) (h2:x≤0) (hne:items.isEmpty=false):
 Meets (Builtin.«tuple.__mul__» ⟨[.ref l,.int x u],[]⟩) (fun _ R s=>s.heap.get? l=some {cls:=.type "tuple",dict:=dd,data:=.seq items n,slots:=sl}∧R (.ok (.ret (Value.ref s.heap.objs.size))) {s with heap:=s.heap.push {cls:=Value.type "tuple",data:=Data.seq #[]}}):=
 .of_wp fun prog w A R s h=>by
  obtain ⟨hp,g,d,tk,os⟩:=s;obtain ⟨hl,h⟩:=h
  have c1:(decide (x < -2^63)||decide (x≥2^63))=false:=by simp;omega
  have c2:(items.isEmpty||x==1)=false:=by
   rw [hne,Bool.false_or]
   exact beq_eq_false_iff_ne.mpr (by omega)
  have c3:(decide (x≤0)||items.isEmpty)=true:=by
   rw [hne,Bool.or_false]
   exact decide_eq_true h2
  wp_walk using wpAny_loadPart' hl
  rw [c1]
  simp only [Dx,if_false]
  refine wpAny_bind ?_
  unfold Builtin.Tuple.tupleItemsOf
  wp_walk using wpAny_loadPart' hl
  rw [c2]
  simp only [Dx,if_false]
  rw [c3]
  simp only [if_true]
  refine wpAny_bind (wpAny_newObj_type (wpAny_pure ⟨_,rfl,h⟩) (by show (#[]:Array Value).size≤sizeLine;simp))
section
variable {X:Cx} {E:XK}
def Ye (K:Frag):R2:=fun x y H Q=>∃l k xs,x=.ref l∧y=.int k∧H l=some (.tup xs)∧xs≠[]∧-(2^63)≤k∧k<2^63∧xs.length*k.toNat≤sizeLine∧(k=1→Q (.ref l) H)∧
 ∀p,H p=none→Q (.ref p) (Am H p (.tup (List.replicate k.toNat xs).flatten))
theorem Inv.tnew {pins:List (Addr×Obj)} {σ:L2.St} {H:Hp} {s:Shared} {ys:List V} {its:List Value} {t':Nat} (I:Inv X pins σ H s) (hv:Vals ys its) (hz:ys.length≤sizeLine):
 Inv X pins σ (Am H s.heap.objs.size (.tup ys)) {s with heap:=s.heap.push {cls:=.type "tuple",data:=.seq its.toArray},toks:=t'}:=
 I.laid (fun _ _ q=>AF _ q) (AO _) ⟨hz,its,hv,⟨_,By _ rfl,rfl,0,rfl⟩,NoDict.new⟩
theorem op_repT:OpR X (binaryOp .Mult) (Ye X.K):=by
 intro pins s σ H x y v u Q I rx ry h
 obtain ⟨l,k,xs,rfl,rfl,hH,hne,h1,h2,hz,q1,q⟩:=h
 cases rx
 obtain ⟨t,rfl⟩:=ry
 obtain ⟨z,its,r,⟨o,ho,hc,n,hd⟩,_⟩:=(show ObjOk X.prog X.w H s.heap l (.tup xs) from I.hok l _ hH)
 obtain ⟨oc,dd,dat,sl⟩:=o
 simp only at hc hd
 subst hc hd
 have hl:=r.length
 have hine:its.toArray.isEmpty=false:=by
  cases its with
  |nil=>exfalso;cases xs with
   |nil=>exact hne rfl
   |cons _ _=>simp at hl
  |cons a b=>simp
 have mul:∀{Q':Value→Shared→Prop},wpAny (model X.prog X.w) X.A (call (.builtin "tuple.__mul__") [.ref l,.int k t]) Q' X.xe s→wpAny (model X.prog X.w) X.A (binaryOp .Mult (.ref l) (.int k t)) Q' X.xe s:=fun {Q'} hq=>
  wpAny_binaryOp_repeat_ref (T:="tuple") (U:="int") (by decide) ⟨_,ho,rfl⟩ (fun s'=>typeIs_int s' k t) X7 F.fills_int_mul F.slot_int_rmul X8 F.slot_int_index.lookup
   (call_meets F.slot_int_rmul (typeIs_int s k t) F.entry_int_rmul (F.args_int_rmul_2 _ _) (X9 k t l its.toArray n dd sl) ⟨ho,rfl,⟨_,ho,rfl⟩,hq⟩)
 refine mul ?_
 rcases Int.lt_trichotomy k 1 with hk |hk |hk
 ·refine call_meets F.slot_tuple_mul ⟨_,ho,rfl⟩ F.entry_tuple_mul (F.args_tuple_mul_2 _ _) (Yd l its.toArray n dd sl k t h1 (by omega) hine) ⟨ho,?_⟩
  have e:(List.replicate k.toNat xs).flatten=[]:=by
   have:k.toNat=0:=by omega
   rw [this];rfl
  have:=q _ I.fresh
  rw [e] at this
  exact ⟨.ref _,_,LS.Inv.tnew (its:=[]) (t':=s.toks) I .nil (BU _),rfl,this⟩
 ·subst hk
  refine call_meets F.slot_tuple_mul ⟨_,ho,rfl⟩ F.entry_tuple_mul (F.args_tuple_mul_2 _ _) (Yc l its.toArray n dd sl t) ⟨ho,?_⟩
  exact ⟨.ref l,H,I,rfl,q1 rfl⟩
 ·refine call_meets F.slot_tuple_mul ⟨_,ho,rfl⟩ F.entry_tuple_mul (F.args_tuple_mul_2 _ _) (Yb l its.toArray n dd sl k t hk h2 hine (by rw [Bc,←hl];exact hz)) ⟨ho,?_⟩
  have f0:=KB its k.toNat []
  rw [HV] at f0
  have f1:List.foldl (fun x1 x2=>x1++x2) #[] (List.replicate k.toNat its.toArray)=(List.replicate k.toNat its).flatten.toArray:=f0
  rw [f1]
  exact ⟨.ref _,_,LS.Inv.tnew (t':=s.toks) I (r.rep k.toNat) (by rw [KC,Nat.mul_comm];exact hz),rfl,q _ I.fresh⟩
noncomputable def CC:D→D→HD→Out D:=fun x y h=>match x,y with
 |.tup xs,.int k=>@ite _ (xs≠[]∧-(2^63)≤k∧k<2^63∧xs.length*k.toNat≤sizeLine) (Classical.propDecidable _) (.ok (.tup (List.replicate k.toNat xs).flatten) h) .stuck
 |_,_=>DR x y h
theorem EK:BL X (binaryOp .Mult) CC:=by
 obtain ⟨r0,hr0,i0⟩:=WH (X:=X)
 refine ⟨_,op_repT.or hr0,fun m H h E x y v u Q hr rx ry q=>?_⟩
 unfold CC at q
 split at q
 ·rename_i xs k
  split at q
  ·rename_i hc
   obtain ⟨hne,h1,h2,hz⟩:=hc
   simp only [DV] at rx ry
   obtain ⟨a,vs,rfl,ha,dv⟩:=rx
   subst ry
   refine .inl ⟨a,k,vs,rfl,rfl,ha,?_,h1,h2,by rw [←dv.len];exact hz,fun e=>?_,?_⟩
   ·intro e;have:=dv.len;rw [e] at this;exact hne (List.length_eq_zero_iff.mp this)
   ·subst e
    refine Bp hr q ?_
    simp only [DV]
    exact ⟨a,vs,rfl,ha,by simpa using dv⟩
   ·exact GU hr (DVs.rep dv k.toNat) q
  ·exact q.elim
 ·exact .inr (i0 m H h E x y v u Q hr rx ry q)
end
end LS
namespace LS
open PySem PySem.Spec PyProof.Rows L2 PySem.W
section
variable {X:Cx} {E:XK}
abbrev MJ:=Str→Ai→HD→Out Str
def IK (X:Cx) (E:XK) (parts:List Expr) (fj:MJ):Prop:=
 ∀(pins:List (Addr×Obj)) (s:Shared) (σ:L2.St) (H:Hp) (acc:Str) (Q:Str→Hp→Prop),Inv X pins σ H s→(∃m ρ h,HR X.K m h H∧ER X.K m H ρ σ∧Post X.K (fun _ _ (a b:Str)=>a=b) m H E Q (fj acc ρ h))→
  wpAny (model X.prog X.w) X.A (joinParts acc (evalEach parts X.env)) (fun v s'=>∃out t H',v=.str out t∧Inv X pins σ H' s'∧Q out H') X.xe s
def Lp:MJ:=fun acc _ h=>if acc.length≤sizeLine then .ok acc h else .stuck
def Lq (y:Str) (r:MJ):MJ:=fun acc ρ h=>if (acc++y).length≤sizeLine then r (acc++y) ρ h else .stuck
def Ls (f:ME) (r:MJ):MJ:=fun acc ρ h=>(f ρ h).bind fun d h1=>match d with
 |.int i=>if i.natAbs.log2<1920∧(acc++(toString i:Str)).length≤sizeLine then r (acc++(toString i:Str)) ρ h1 else .stuck
 |_=>.stuck
theorem Yg:IK X E [] Lp:=fun pins s σ H acc Q I z1_=>by
 obtain ⟨m,ρ,h,hr,er,p⟩:=z1_
 unfold Lp at p
 split at p
 ·rename_i hz
  exact joinParts_nil ⟨acc,_,H,rfl,I.tok _,p acc m H (AJ _) (.refl _) hr rfl⟩ hz
 ·exact p.elim
theorem Yh {y:Str} {j:Nat} {pos:Pos} {parts:List Expr} {r:MJ} (hp:IK X E parts r):IK X E (.Constant (.str y) j pos::parts) (Lq y r):=fun pins s σ H acc Q I z2_=>by
 obtain ⟨m,ρ,h,hr,er,p⟩:=z2_
 unfold Lq at p
 split at p
 ·rename_i hz
  exact joinParts_cons (Calls.Constant_str ⟨hz,hp pins _ σ H _ Q (I.tok _) ⟨m,ρ,h,hr,er,p⟩⟩)
 ·exact p.elim
theorem RD {e:Expr} {pos:Pos} {parts:List Expr} {f:ME} {r:MJ} (he:Ev X E e f) (hp:IK X E parts r):IK X E (.FormattedValue e (-1) none pos::parts) (Ls f r):=fun pins s σ H acc Q I z3_=>by
 obtain ⟨m,ρ,h,hr,er,p⟩:=z3_
 have post:tD X.K E f σ H (fun v H1=>∃i,v=.int i∧i.natAbs.log2<1920∧(acc++(toString i:Str)).length≤sizeLine∧∃m1 h1,HR X.K m1 h1 H1∧ER X.K m1 H1 ρ σ∧Post X.K (fun _ _ (a b:Str)=>a=b) m1 H1 E Q (r (acc++(toString i:Str)) ρ h1)):=by
  refine ⟨m,ρ,h,hr,er,Post.bind p fun d h1 v m1 H1 eo p1 k1 hr1 r1 q1=>?_⟩
  clear eo
  split at q1
  ·rename_i i
   split at q1
   ·rename_i hz
    simp only [rD,DV] at r1
    exact ⟨i,r1,hz.1,hz.2,m1,h1,hr1,er.keep p1 k1,q1⟩
   ·exact q1.elim
  ·exact q1.elim
 refine joinParts_cons (FormattedValue_plain (Az (he pins s σ H _ I post) fun u s1 z4_=>?_))
 obtain ⟨v,H1,I1,rv,i,ev,hd,hz,m1,h1,hr1,er1,q1⟩:=z4_
 subst ev
 obtain ⟨t,rfl⟩:=rv
 exact formatField_int_small hd ⟨hz,hp pins _ σ H1 _ Q (I1.tok _) ⟨m1,ρ,h1,hr1,er1,q1⟩⟩
def JL (fj:MJ):ME:=fun ρ h=>(fj Str.empty ρ h).bind fun x h1=>.ok (.str x) h1
theorem Yi {v1 v2:Expr} {rest:List Expr} {pos:Pos} {fj:MJ} (hj:IK X E (v1::v2::rest) fj):Ev X E (.JoinedStr (v1::v2::rest) pos) (JL fj):=fun pins s σ H Q I z5_=>by
 obtain ⟨m,ρ,h,hr,er,p⟩:=z5_
 refine JoinedStr_many (Az (hj pins s σ H Str.empty (fun out H1=>Q (.str out) H1) I ⟨m,ρ,h,hr,er,Post.bind p fun a h1 b m1 H1 _ p1 k1 hr1 r1 q1=>?_⟩) fun v s1 z6_=>by obtain ⟨out,t,H1,ev,I1,q⟩:=z6_;exact (⟨.str out,H1,I1,⟨t,ev⟩,q⟩))
 cases r1
 exact Bp hr1 q1 (by simp [DV])
def BZ:D→HD→Out D:=fun x h=>match Bv h 8 x with
 |some p=>if p.showable=true∧p.hasDict=false∧p.depth≤40∧p.shown.length≤sizeLine then .ok (.str p.shown) h else .stuck
 |none=>.stuck
theorem IP (hu:X.A.units+64<cLine) (hg:X.A.guards=some []):Dc X (.builtin "repr") (Aq BZ):=by
 refine Rr (fun ds h=>?_) fun pins s σ H m h ds vs us Q I hr rd r q=>FL rd q fun x v ev rx q=>?_
 ·unfold Aq BZ
  repeat' split
  all_goals trivial
 ·subst ev
  obtain ⟨u,rfl,ru⟩:=Es r
  unfold BZ at q
  split at q
  ·rename_i p e
   split at q
   ·rename_i hc
    obtain ⟨h1,h2,h3,h4⟩:=hc
    obtain ⟨as,hd⟩:=Na I.hok hr 8 x v u p rx ru e
    have fin:∀(h':Heap) (t tk:Tok),(∀b o,s.heap.get? b=some o→h'.get? b=some o)→EP X pins σ Q (.str p.shown t) {s with heap:=h',toks:=tk}:=fun h' t tk hk=>⟨.str p.shown,H,I.kept hk,⟨t,rfl⟩,Bp hr q (by simp [DV])⟩
    cases hd with
    |list a1 a2 a3 a4=>exact repr_of_reads' (.list a1 a2 a3 a4) h1 (fun z=>by rw [h2] at z;cases z) hg (by omega) (fun _ _ e=>e) fin h4
    |tuple a1 a2 a3 a4=>exact repr_of_reads' (.tuple a1 a2 a3 a4) h1 (fun z=>by rw [h2] at z;cases z) hg (by omega) (fun _ _ e=>e) fin h4
    |dict a1 a2 a3 a4 a5=>cases h2
    |int i t=>
     have h1':i.natAbs.log2<1920:=by simpa [PyData.showable] using h1
     exact PySem.P.repr_of_int h1' (fin s.heap _ _ fun _ _ e=>e)
    |none=>exact PySem.P.repr_of_none (fin s.heap _ _ fun _ _ e=>e)
    |bool b=>exact PySem.P.repr_of_bool (fin s.heap _ _ fun _ _ e=>e)
    |str x t=>exact PySem.P.repr_of_str (fin s.heap _ _ fun _ _ e=>e) (by simpa [PyData.shown] using h4)
   ·exact q.elim
  ·exact q.elim
def Eh:D→D→HD→Out D:=fun x y h=>match x,y with
 |.str a,.str b=>.ok (.bl (a==b)) h
 |_,_=>Js x y h
def B5:D→D→HD→Out D:=fun x y h=>match x,y with
 |.str a,.str b=>.ok (.bl (!(a==b))) h
 |_,_=>Gg x y h
theorem Lu (hu:X.A.units+64<cLine):BL X (compareOp .Eq) Eh:=by
 obtain ⟨r0,hr0,i0⟩:=Wd (X:=X) hu
 refine ⟨_,op_eq.or hr0,fun m H h E x y v u Q hr rx ry q=>?_⟩
 unfold Eh at q
 split at q
 ·simp only [DV] at rx ry
  subst rx ry
  exact .inl ⟨rfl,by rw [Kx];exact Bp hr q (by simp [DV])⟩
 ·exact .inr (i0 m H h E x y v u Q hr rx ry q)
theorem FR (hu:X.A.units+64<cLine):BL X (compareOp .NotEq) B5:=by
 obtain ⟨r0,hr0,i0⟩:=Wf (X:=X) hu
 refine ⟨_,op_ne.or hr0,fun m H h E x y v u Q hr rx ry q=>?_⟩
 unfold B5 at q
 split at q
 ·simp only [DV] at rx ry
  subst rx ry
  exact .inl ⟨rfl,by rw [Kx];exact Bp hr q (by simp [DV])⟩
 ·exact .inr (i0 m H h E x y v u Q hr rx ry q)
def Lw:List Nat→List D→Ai→Option Ai
 |[],[],ρ=>some ρ
 |i::is,d::ds,ρ=>Lw is ds (ρ.set i (some d))
 |_,_,_=>none
def Ei (is:List Nat):MG:=fun d ρ=>match d with
 |.tup ds=>Lw is ds ρ
 |_=>none
def Lx:List Nat→F7
 |[]=>F8
 |i::is=>Dy (Cj i) (Lx is)
theorem RE:∀{is:List Nat} {ds:List D} {ρ ρ':Ai},Lw is ds ρ=some ρ'→ds.length=is.length
 |[],[],_,_,_=>rfl
 |[],_::_,_,_,e=>by cases e
 |_::_,[],_,_,e=>by cases e
 |_::is,_::ds,_,_,e=>by simpa using RE (is:=is) (ds:=ds) e
theorem RF {K:Frag} {m:List Addr} {H:Hp}:∀{is:List Nat} {ds:List D} {vs:List V} {ρ ρ':Ai} {σ:L2.St} {Q:L2.St→Hp→Prop},DVs K m H ds vs→ER K m H ρ σ→Lw is ds ρ=some ρ'→(∀σ',ER K m H ρ' σ'→Q σ' H)→Lx is vs σ H Q
 |[],[],vs,ρ,ρ',σ,Q,r,er,e,q=>by
  simp only [DVs] at r
  subst r
  cases e
  exact ⟨rfl,q σ er⟩
 |[],_::_,_,_,_,_,_,_,_,e,_=>by cases e
 |_::_,[],_,_,_,_,_,_,_,e,_=>by cases e
 |i::is,d::ds,vs,ρ,ρ',σ,Q,r,er,e,q=>by
  simp only [DVs] at r
  obtain ⟨v,w,rfl,rv,rw'⟩:=r
  exact ⟨v,w,rfl,RF rw' (er.set rv) e q⟩
theorem Ly {es:List Expr} {is:List Nat} {kt:Nat} {pos:Pos} (h:PG X (.Tuple es kt pos) (FK X.K is.length (Lx is))):Jx X (.Tuple es kt pos) (Ei is):=⟨_,h,fun m H d v ρ σ ρ' Q r er e q=>by
 unfold Ei at e
 split at e
 ·rename_i ds
  simp only [DV] at r
  obtain ⟨p,vs,rfl,hp,dv⟩:=r
  exact ⟨p,vs,rfl,SqT.of hp,by rw [←dv.len];exact RE e,RF dv er e q⟩
 ·cases e⟩
end
theorem NU {K:Frag} (h:etOk K=true) {n:Str} (hn:n∈excNames):∃C,nsIn K mainGlobals n=some (some (.ref C)):=by
 unfold etOk at h
 split at h
 ·rename_i S hS
  have h1:=qaJ.mp h n hn
  cases e:Ft K n with
  |none=>rw [e] at h1;cases h1
  |some C=>exact ⟨C,Rq e⟩
 ·cases h
section
variable {X:Cx} {E:XK}
theorem Fu {x:Str} {pos:Pos} (et:etOk X.K=true) (hn:x∈excNames) (hg:Gl X x:=by rfl) (hd:(x==("__debug__":Str))=false:=by decide):Ev X E (.Name x pos) (mC (.glo x)):=by
 obtain ⟨a,h⟩:=NU et hn
 exact XA hg h hd
theorem RG {x:Str} {e:Expr} {es:List Expr} {fa:MA} {np cpos pos:Pos} (et:etOk X.K=true) (hn:x∈excNames) (hne:x≠"TooMany") (hg:Gl X x) (hc:X.calm=true) (th:NF X E) (ha:Ct X E (e::es) fa)
 (hdb:(x==("__debug__":Str))=false:=by decide) (he:starEach (e::es) X.env=(false,eval e X.env)::starEach es X.env:=by rfl) (hpl:(backTo cpos (starEach (e::es) X.env)).any (·.1)=false:=by rfl):
 Ex X E (.Raise (some (.Call (.Name x np) (e::es) [] cpos)) none pos) (IA x fa):=by
 obtain ⟨C,h⟩:=NU et hn
 exact W9 ((Lm et hn h).at_ hne) h hg hc th ha hdb he hpl
end
theorem CaM.mono {P:Program} {w:World} {K:Frag} {mg:Str→Option Value} {base:Heap} {x:Str} {j k:Nat} {F:List D→HD→Out D} (C:CaM P w K mg base x j F) (h:j≤k):CaM P w K mg base x k F:=by
 obtain ⟨f,fd,ps,G,r⟩:=C.ex
 exact ⟨f,fd,ps,⟨fun A outer s H args us vs Q hr=>G.run A outer s H args us vs Q (hr.mono h)⟩,r⟩
structure SaidD (K:Frag) (mg:Str→Option Value) (st:Stmt) (fs:Addr) (fd:FuncData):Prop where
 fn:Fun K "_law_said" "_law_said" st fs fd
 bd:Binds K fd ["_law_call"] []
 mg:mg "_law_said"=some (.ref fs)
structure RH (st:Stmt):Prop where
 sc:Bg ["_law_call","_law_word","_law_e"] ["_law_call"] (defScope st)
 k0:(defScope st).names.lookup ("_law_call":Str)=some .local
 k1:(defScope st).names.lookup ("_law_word":Str)=some .local
 k2:(defScope st).names.lookup ("_law_e":Str)=some .local
 gS:(defScope st).names.lookup ("SwitchError":Str)=some .globalImplicit
 gK:(defScope st).names.lookup ("_law_kind":Str)=some .globalImplicit
 tx:∃p1 j1 p2 p3 p4 p5 p6 p7 p8 p9 p10 p11 p12 p13 p14 p15 p16,defBody st=[.Assign [.Name "_law_word" p1] (.Constant (.str "told") j1 p2) p3,.Try [.Expr (.Call (.Name "_law_call" p4) [] [] p5) p6] [.ExceptHandler (some (.Name "SwitchError" p7)) (some "_law_e") [.Assign [.Name "_law_word" p8] (.Call (.Name "_law_kind" p9) [.Name "_law_e" p10] [] p11) p12] p13] [] [] p14,.Return (some (.Name "_law_word" p15)) p16]
theorem NV {X:Cx} {E:XK} {c P:Addr} {Nc:List Str} {cs:List Nat} {params:Arguments} {body:Expr} {scope:Scope} {k kk:Nat} {Fk:List D→HD→Out D} {f:ME} {fs:Addr} {fd:FuncData} {st:Stmt} {lpos p pos:Pos}
 (L:LamX X c P) (fna:∀x,X.fn x=true) (hr:Room kk X.A) (lv:Lv X E) (et:etOk X.K=true) (Sd:SaidD X.K X.mg st fs fd) (St:RH st) (hkind:CaM X.prog X.w X.K X.mg X.base "_law_kind" k Fk) (S:LSc X scope Nc cs)
 (hb:∀(a:Addr) (cd:Value) (cl:List (Str×Addr)) (A:Around) (outer:List Env) (s:Shared) (H:Hp) (E':XK),Room k (A.deeper (envX BG scope s.heap.objs.size a cd cl))→Ev (FP X.prog X.w X.K X.mg X.base Nc scope a cd cl A outer s H E') E' body f)
 (hg:Gl X "_law_said") (hkk:k+2≤kk:=by decide) (hdef:defaultsOf params X.env=([],[]):=by rfl)
 (hbind:∀(cl:List (Str×Addr)) (pm cv ctv:Value),bindArgs (kla_fn "<lambda>" BG params body scope cl pm cv ctv) ⟨[],[]⟩=pure []:=by exact fun _ _ _ _=>rfl)
 (he:starEach [.Lambda params body scope lpos] X.env=(false,eval (.Lambda params body scope lpos) X.env)::starEach [] X.env:=by rfl) (hpl:(backTo pos (starEach [] X.env)).any (·.1)=false:=by rfl):
 Ev X E (.Call (.Name "_law_said" p) [.Lambda params body scope lpos] [] pos) (DW cs Fk f):=by
 obtain ⟨p1,j1,p2,p3,p4,p5,p6,p7,p8,p9,p10,p11,p12,p13,p14,p15,p16,hst⟩:=St.tx
 exact X5 L fna (hr.mono hkk) lv et (NU et (by decide +kernel)) Sd.fn Sd.bd Sd.mg Sd.fn.kp St.sc St.k0 St.k1 St.k2 (fun _ _=>St.gS) (fun _ _=>St.gK) hst hkind hg S hdef hbind hb he hpl
theorem Yj {P:Program} {w:World} {K:Frag} {mg:Str→Option Value} {base:Heap} {x qual:Str} {st:Stmt} {f:Addr} {kV doc pm cdv ct oc:Value} {an od:Option Addr} {osl:Array (Option Value)} {N ps:List Str} {k:Nat} {F:List D→HD→Out D} {g:MS}
 (lk:K.lookup f=some ⟨oc,od,.func (PySem.W.fnOf x qual (defArgs st) (defBody st) (defScope st) .none kV doc pm an cdv ct),osl⟩) (hcd:PySem.W.codeIn K cdv qual=true) (S:Bg N ps (defScope st)) (ar:Ar ps.length F)
 (hg:∀ds h,ds.length=ps.length→F ds h=AA N.length g ds h)
 (hbody:∀(A:Around) (outer:List Env) (s:Shared) (H:Hp) (E:XK),Room k (A.deeper (envOfC qual (defScope st) s.heap.objs.size f cdv))→A8 (AW (AE P w K) P w K mg base N qual (defScope st) f cdv A outer s H E) E (defBody st) g):
 FnOk P w K mg base (AE P w K) (k+1) f (PySem.W.fnOf x qual (defArgs st) (defBody st) (defScope st) .none kV doc pm an cdv ct) ps (FN K F):=by
 refine M3 lk hcd S (fun vs H Q E h=>Le ar h) fun A outer s H vs Q E hr h=>?_
 refine ⟨_,hbody A outer s H E hr,?_⟩
 have hl:=Le ar h
 obtain ⟨m,ds,hd,hr1,r,p⟩:=h
 have hld:ds.length=ps.length:=by rw [r.len];exact hl
 refine ⟨m,ds.map some++List.replicate (N.length - ds.length) none,hd,hr1,ER.start r,?_⟩
 rw [hg ds hd hld] at p
 unfold AA at p
 cases o:g (ds.map some++List.replicate (N.length - ds.length) none) hd with
 |stuck=>rw [o] at p;exact p
 |err C fs h1=>rw [o] at p;exact p
 |ok a h1=>
  rw [o] at p
  obtain ⟨fl,ρ1⟩:=a
  intro m1 H1 p1 k1 hr1
  cases fl with
  |nx=>exact fun σ er=>p .non m1 H1 p1 k1 hr1 (by simp [rD,DV])
  |bk=>exact False.elim p
  |ct=>exact False.elim p
  |rt d=>exact fun v rv=>p v m1 H1 p1 k1 hr1 rv
def Zdq (K:Frag) (T:Addr):Bool:=match tabP K with
 |some (c,T')=>T'==T&&codeHdIn K c T
 |none=>false
end LS
namespace LS
open PySem PySem.Spec PyProof.Rows L2
def We {α:Type} (o:Out α) (Q:α→HD→Prop) (R:Str→List (Str×D)→HD→Prop):Prop:=match o with
 |.ok a h=>Q a h
 |.err (.str n _) fs h=>R n fs h
 |_=>False
section
variable {α β:Type} {o:Out α} {Q Q':α→HD→Prop} {R R':Str→List (Str×D)→HD→Prop}
@[simp] theorem Zdr (a:α) (h:HD):We (.ok a h) Q R=Q a h:=rfl
@[simp] theorem Zds (n:Str) (t:Tok) (fs:List (Str×D)) (h:HD):We (.err (.str n t) fs h:Out α) Q R=R n fs h:=rfl
@[simp] theorem Zdt:We .stuck Q R=False:=rfl
theorem Dh {k:α→HD→Out β} {Q:β→HD→Prop}:We (o.bind k) Q R=We o (fun a h=>We (k a h) Q R) R:=by
 cases o with
 |ok a h=>rfl
 |err C fs h=>cases C<;>rfl
 |stuck=>rfl
theorem Wp.we (h:Wp o Q):We o Q R:=by
 cases o with
 |ok a h'=>exact h
 |_=>exact h.elim
theorem We.mono (h:We o Q R) (f:∀a h,Q a h→Q' a h) (g:∀n fs h,R n fs h→R' n fs h):We o Q' R':=by
 cases o with
 |ok a h'=>exact f _ _ h
 |err C fs h'=>cases C<;>first |exact g _ _ _ h |exact h.elim
 |stuck=>exact h
theorem Pu.we {h:HD} {a:α} (p:Pu o h a) (k:∀h',Sm h h'→Q a h'):We o Q R:=Wp.we (p.wp k)
end
def Er {α:Type} (o:Out α) (h:HD) (n:Str):Prop:=We o (fun _ _=>False) fun n' fs h'=>n'=n∧fs=[]∧Sm h h'
theorem Er.we {α:Type} {o:Out α} {h:HD} {n:Str} {Q:α→HD→Prop} {R:Str→List (Str×D)→HD→Prop} (e:Er o h n) (k:∀h',Sm h h'→R n [] h'):We o Q R:=We.mono e (fun _ _ z=>z.elim) fun n' fs h' z1_=>by obtain ⟨rfl,rfl,s⟩:=z1_;exact k h' s
theorem JM {N:Nat} {g:MS} {ds:List D} {h:HD} {Q:D→HD→Prop} {R:Str→List (Str×D)→HD→Prop}:We (AA N g ds h) Q R=We (g (ds.map some++List.replicate (N - ds.length) none) h) (G3 Q) R:=by
 unfold AA
 cases o:g (ds.map some++List.replicate (N - ds.length) none) h with
 |ok a h1=>
  obtain ⟨fl,ρ⟩:=a
  cases fl<;>rfl
 |err C fs h1=>cases C<;>rfl
 |stuck=>rfl
section
variable {ρ:Ai} {h:HD} {Q:Fl×Ai→HD→Prop} {QD:D→HD→Prop} {QB:Bool→HD→Prop} {R:Str→List (Str×D)→HD→Prop} {g g1 g2:MS} {f:ME} {t:MT} {fa:MA} {F:List D→HD→Out D}
def NW (g2:MS) (Q:Fl×Ai→HD→Prop) (R:Str→List (Str×D)→HD→Prop):Fl×Ai→HD→Prop
 |(.nx,ρ),h=>We (g2 ρ h) Q R
 |y,h=>Q y h
@[simp] theorem Zdu:NW g2 Q R (.nx,ρ) h=We (g2 ρ h) Q R:=rfl
@[simp] theorem Zdv {d:D}:NW g2 Q R (.rt d,ρ) h=Q (.rt d,ρ) h:=rfl
@[simp] theorem Zdw:We (Al g1 g2 ρ h) Q R=We (g1 ρ h) (NW g2 Q R) R:=by
  unfold Al
  rw [Dh]
  congr 1
  funext x h1
  obtain ⟨fl,ρ1⟩:=x
  cases fl<;>rfl
@[simp] theorem Zdx:We (Bo ρ h) Q R=Q (.nx,ρ) h:=rfl
@[simp] theorem Zdy:We (EA f ρ h) Q R=We (f ρ h) (fun _ h1=>Q (.nx,ρ) h1) R:=by unfold EA;rw [Dh];rfl
@[simp] theorem Zdz:We (AL f ρ h) Q R=We (f ρ h) (fun d h1=>Q (.rt d,ρ) h1) R:=by unfold AL;rw [Dh];rfl
@[simp] theorem ZdA {i:Nat}:We (Ay i f ρ h) Q R=We (f ρ h) (fun d h1=>Q (.nx,ρ.set i (some d)) h1) R:=by unfold Ay;rw [Dh];rfl
@[simp] theorem ZdB:We (Bh t g1 g2 ρ h) Q R=We (t ρ h) (fun b h1=>We (if b=true then g1 ρ h1 else g2 ρ h1) Q R) R:=by unfold Bh;rw [Dh]
@[simp] theorem ZdC:We (Ah F fa ρ h) QD R=We (fa ρ h) (fun ds h1=>We (F ds h1) QD R) R:=by unfold Ah;rw [Dh]
@[simp] theorem ZdD {n:Str}:We (IA n fa ρ h) Q R=We (fa ρ h) (fun xs h1=>We (if xs.length≤sizeLine then (.err (DS n) [] h1:Out (Fl×Ai)) else .stuck) Q R) R:=by unfold IA;rw [Dh]
@[simp] theorem ZdE:We (Cw t ρ h) QB R=We (t ρ h) (fun b h1=>QB (!b) h1) R:=by unfold Cw;rw [Dh];rfl
@[simp] theorem ZdF {u:MT}:We (GQ t u ρ h) QB R=We (t ρ h) (fun b h1=>We (if b=true then u ρ h1 else .ok false h1) QB R) R:=by unfold GQ;rw [Dh]
@[simp] theorem ZdG {u:MT}:We (DM t u ρ h) QB R=We (t ρ h) (fun b h1=>We (if b=true then .ok true h1 else u ρ h1) QB R) R:=by unfold DM;rw [Dh]
@[simp] theorem ZdH:We (Cu f ρ h) QB R=We (f ρ h) (fun x h1=>We (Fi x h1) QB R) R:=by unfold Cu;rw [Dh]
@[simp] theorem ZdI:We (Bj f ρ h) QB R=We (f ρ h) (fun x h1=>We (Ij x h1) QB R) R:=by unfold Bj;rw [Dh]
@[simp] theorem ZdJ {QA:List D→HD→Prop}:We (Ad ρ h) QA R=QA [] h:=rfl
@[simp] theorem ZdK {QA:List D→HD→Prop}:We (Aa f fa ρ h) QA R=We (f ρ h) (fun x h1=>We (fa ρ h1) (fun xs h2=>QA (x::xs) h2) R) R:=by
  unfold Aa;simp only [Dh];rfl
@[simp] theorem ZdL {d:D} {r:Ai}:We (Ab 0 (some d::r) h) QD R=QD d h:=rfl
@[simp] theorem ZdM {i:Nat} {x:Option D} {r:Ai}:We (Ab (i+1) (x::r) h) QD R=We (Ab i r h) QD R:=rfl
@[simp] theorem ZdN {d:D}:We (mC d ρ h) QD R=QD d h:=rfl
@[simp] theorem ZdO {op:D→D→HD→Out D} {f':ME}:We (Ag op f f' ρ h) QD R=We (f ρ h) (fun x h1=>We (f' ρ h1) (fun y h2=>We (op x y h2) QD R) R) R:=by unfold Ag;simp only [Dh]
@[simp] theorem ZdP {fj:MJ}:We (JL fj ρ h) QD R=We (fj Str.empty ρ h) (fun x h1=>QD (.str x) h1) R:=by unfold JL;rw [Dh];rfl
end
def Et {α:Type} (o:Out α) (h:HD) (n:Str) (fs:List (Str×D)):Prop:=We o (fun _ _=>False) fun n' fs' h'=>n'=n∧fs'=fs∧Sm h h'
theorem Et.we {α:Type} {o:Out α} {h:HD} {n:Str} {fs:List (Str×D)} {Q:α→HD→Prop} {R:Str→List (Str×D)→HD→Prop} (e:Et o h n fs) (k:∀h',Sm h h'→R n fs h'):We o Q R:=We.mono e (fun _ _ z=>z.elim) fun n' fs h' z1_=>by obtain ⟨rfl,rfl,s⟩:=z1_;exact k h' s
theorem Lz {cs:List Nat} {Fk:List D→HD→Out D} {f:ME} {ρ:Ai} {h:HD} {ds:List D} {Q:D→HD→Prop} (ht:h[0]?=some .tab) (hd:A2 (cs.map fun j=>(ρ[j]?).join)=some ds)
 (q:We (f (ds.map some) h) (fun _ h1=>Q (.str "told") h1) fun n fs h1=>n∈excNames∧∃is,FQ fs=some is∧Wp (Fk [.exc n is] h1) Q):Wp (DW cs Fk f ρ h) Q:=by
 unfold DW
 rw [ht,hd]
 simp only
 unfold NT
 cases o:f (ds.map some) h with
 |ok a h1=>rw [o] at q;exact q
 |stuck=>rw [o] at q;exact q.elim
 |err C fs h1=>
  rw [o] at q
  cases C with
  |str n t=>
   obtain ⟨hn,is,hi,hk⟩:=(show n∈excNames∧∃is,FQ fs=some is∧Wp (Fk [.exc n is] h1) Q from q)
   simp only [hn,if_true,hi]
   cases e:Fk [.exc n is] h1 with
   |ok d h2=>rw [e] at hk;exact hk
   |_=>rw [e] at hk;exact hk.elim
  |_=>exact q.elim
def Rp (n L:Nat) (d:D):Prop:=∃p:PyData,(∀(h:HD) (m:Nat),Bv h (n+m) d=some p)∧p.showable=true∧p.hasDict=false∧p.depth≤n∧p.shown.length≤L
theorem RI {n L:Nat}:∀{ds:List D},(∀d∈ds,Rp n L d)→∃ps:List PyData,(∀(h:HD) (m:Nat),A2 (ds.map (Bv h (n+m)))=some ps)∧PyData.showableAll ps=true∧PyData.hasDictAll ps=false∧PyData.depthAll ps≤n∧ps.length=ds.length∧∀t∈PyData.shownAll ps,t.length≤L
 |[],_=>⟨[],fun _ _=>rfl,rfl,rfl,BU _,rfl,fun t ht=>by cases ht⟩
 |d::ds,hd=>by
  obtain ⟨p,a1,a2,a3,a4,a5⟩:=hd d A0
  obtain ⟨ps,b1,b2,b3,b4,b5,b6⟩:=RI (fun x hx=>hd x (A5 _ hx))
  refine ⟨p::ps,fun h m=>?_,by simp [PyData.showableAll,a2,b2],by simp [PyData.hasDictAll,a3,b3],by simp only [PyData.depthAll];omega,by simp [b5],fun t ht=>?_⟩
  ·rw [Cs,a1 h m]
   simp only [A2,b1 h m]
   rfl
  ·simp only [PyData.shownAll] at ht
   rcases qa5.mp ht with e |e
   ·rw [e];exact a5
   ·exact b6 t e
theorem RJ {L:Nat}:∀{ts:List Str},(∀t∈ts,t.length≤L)→piled ts≤ts.length*(L+2)
 |[],_=>by simp [piled]
 |t::ts,h=>by
  have h1:=h t A0
  have h2:=RJ (fun x hx=>h x (A5 _ hx)) (ts:=ts) (L:=L)
  simp only [piled] at *
  simp [Nat.succ_mul]
  omega
theorem RK:∀{ps:List PyData},(PyData.shownAll ps).length=ps.length
 |[]=>rfl
 |p::ps=>by simp [PyData.shownAll,RK (ps:=ps)]
theorem NX {n L k:Nat} {ds:List D} (h:∀d∈ds,Rp n L d) (hk:ds.length≤k):Rp (n+1) (k*(L+2)+3) (.tup ds):=by
 obtain ⟨ps,b1,b2,b3,b4,b5,b6⟩:=RI h
 refine ⟨.tuple ps,fun h m=>?_,by simpa [PyData.showable] using b2,by simpa [PyData.hasDict] using b3,by simp only [PyData.depth];omega,?_⟩
 ·rw [show n+1+m=(n+m)+1 by omega]
  simp only [Bv,b1 h m]
  rfl
 ·simp only [PyData.shown,tupleText]
  have hl:(PyData.shownAll ps).length=ds.length:=by rw [RK,b5]
  have hj:(Str.join ", " (PyData.shownAll ps)).length≤k*(L+2):=by
   by_cases he:PyData.shownAll ps=[]
   ·rw [he];exact BU _
   ·have h1:=join_length_add _ he
    have h2:=RJ b6
    have h3:(PyData.shownAll ps).length*(L+2)≤k*(L+2):=Nat.mul_le_mul_right _ (by rw [hl];exact hk)
    omega
  rw [strLen_append,strLen_append]
  have e1:((("(":String):Str)).length=1:=rfl
  have e2:(((if (PyData.shownAll ps).length==1 then ",)" else ")":String):Str)).length≤2:=by split<;>decide
  omega
theorem Yk {n L L':Nat} {d:D} (h:Rp n L d) (hl:L≤L'):Rp n L' d:=by
 obtain ⟨p,a1,a2,a3,a4,a5⟩:=h
 exact ⟨p,a1,a2,a3,a4,BS a5 hl⟩
theorem Yl {n L:Nat} {d:D} (h:Rp n L d) (hn:n≤8) (hl:L≤sizeLine):∃x:Str,∀hd,BZ d hd=.ok (.str x) hd:=by
 obtain ⟨p,a1,a2,a3,a4,a5⟩:=h
 refine ⟨p.shown,fun hd=>?_⟩
 have e:=a1 hd (8 - n)
 rw [show n+(8 - n)=8 by omega] at e
 unfold BZ
 rw [e]
 simp only
 rw [if_pos ⟨a2,a3,by omega,BS a5 hl⟩]
theorem LA {i:Int} (h1:0≤i) (h2:i<10):Rp 0 2 (.int i):=by
 refine ⟨.int i,fun h m=>by cases m<;>rfl,?_,rfl,by simp [PyData.depth],?_⟩
 ·obtain ⟨k,rfl⟩:∃k:Nat,i=(k:Int):=⟨i.toNat,by omega⟩
  have hk:k<10:=by omega
  match k,hk with
  |0,_=>decide
  |1,_=>decide
  |2,_=>decide
  |3,_=>decide
  |4,_=>decide
  |5,_=>decide
  |6,_=>decide
  |7,_=>decide
  |8,_=>decide
  |9,_=>decide
 ·obtain ⟨k,rfl⟩:∃k:Nat,i=(k:Int):=⟨i.toNat,by omega⟩
  have hk:k<10:=by omega
  match k,hk with
  |0,_=>decide
  |1,_=>decide
  |2,_=>decide
  |3,_=>decide
  |4,_=>decide
  |5,_=>decide
  |6,_=>decide
  |7,_=>decide
  |8,_=>decide
  |9,_=>decide
section
variable {h:HD} {i j:Int} {ds:List D} {a b:D} {l:Nat} {x y:Str}
@[simp] theorem ZdQ:B5 (.str x) (.str y) h=.ok (.bl (!(x==y))) h:=rfl
@[simp] theorem ZdR:Eh (.str x) (.str y) h=.ok (.bl (x==y)) h:=rfl
@[simp] theorem ZdS:B5 (.int i) (.int j) h=.ok (.bl (!(i==j))) h:=rfl
@[simp] theorem ZdT:Eh (.int i) (.int j) h=.ok (.bl (i==j)) h:=rfl
@[simp] theorem ZdU {c d:Bool}:B5 (.bl c) (.bl d) h=.ok (.bl (!(c==d))) h:=rfl
@[simp] theorem ZdV {c d:Bool}:Eh (.bl c) (.bl d) h=.ok (.bl (c==d)) h:=rfl
@[simp] theorem ZdW {es:List D}:B5 (.tup ds) (.tup es) h=Gg (.tup ds) (.tup es) h:=rfl
@[simp] theorem ZdX {es:List D}:Eh (.tup ds) (.tup es) h=Js (.tup ds) (.tup es) h:=rfl
@[simp] theorem ZdY:CC (.int i) (.int j) h=DR (.int i) (.int j) h:=rfl
@[simp] theorem Ym:CC (.loc l) b h=DR (.loc l) b h:=rfl
@[simp] theorem ZdZ:AR (.int i) b h=BO (.int i) b h:=rfl
@[simp] theorem Zd0 {c:Bool}:AR (.bl c) b h=BO (.bl c) b h:=rfl
@[simp] theorem Zd1:AR .non b h=BO .non b h:=rfl
@[simp] theorem Zd2:AR (.str x) b h=BO (.str x) b h:=rfl
@[simp] theorem Zd3:AR (.tup ds) b h=BO (.tup ds) b h:=rfl
@[simp] theorem Yn:AR (.loc l) b h=BO (.loc l) b h:=rfl
@[simp] theorem Zd4 {c:Bool}:BO (.bl c) (.ty "int") h=.ok (.bl true) h:=rfl
@[simp] theorem Zd5 {c:Bool}:BO (.bl c) (.ty "bool") h=.ok (.bl true) h:=rfl
@[simp] theorem Zd6 {c:Bool}:BO (.bl c) (.ty "tuple") h=.ok (.bl false) h:=rfl
@[simp] theorem Zd7:BO .non (.ty "int") h=.ok (.bl false) h:=rfl
@[simp] theorem Zd8:BO .non (.ty "tuple") h=.ok (.bl false) h:=rfl
@[simp] theorem Zd9:BO (.str x) (.ty "int") h=.ok (.bl false) h:=rfl
@[simp] theorem Zea:BO (.str x) (.ty "tuple") h=.ok (.bl false) h:=rfl
theorem Yo (e:h[l]?=some (.lst ds)):BO (.loc l) (.ty "int") h=.ok (.bl false) h:=by
 simp only [BO,EH,e];rfl
theorem Yp (e:h[l]?=some (.lst ds)):BO (.loc l) (.ty "tuple") h=.ok (.bl false) h:=by
 simp only [BO,EH,e];rfl
@[simp] theorem Zeb:AR .edic (.ty "int") h=.ok (.bl false) h:=rfl
@[simp] theorem Zec:AR .edic (.ty "tuple") h=.ok (.bl false) h:=rfl
theorem Ce {n n':Str} {fs:List (Str×Int)} (h1:n∈excNames) (h2:n'∈excNames):AR (.exc n fs) (.glo n') h=.ok (.bl (Bm n n')) h:=if_pos ⟨h1,h2⟩
theorem RL {n:Str} {fs:List (Str×Int)} (h1:n∈excNames):AR (.exc n fs) (.ty "ValueError") h=.ok (.bl true) h:=if_pos ⟨h1,rfl⟩
@[simp] theorem Zed {ρ:Ai} {c d:D} {i j k l:Nat}:Ei [i,j,k,l] (.tup [a,b,c,d]) ρ=some ((((ρ.set i (some a)).set j (some b)).set k (some c)).set l (some d)):=rfl
theorem IQ (hz:x.length+y.length≤1000):As (.str x) (.str y) h=.ok (.str (x++y)) h:=by
 simp only [As]
 rw [if_pos (by unfold sizeLine;omega)]
theorem Fv {xs ys:List D} {k:Nat} (e1:h[l]?=some (.lst xs)) (e2:h[k]?=some (.lst ys)):As (.loc l) (.loc k) h=CL (xs++ys) h:=by simp only [As,e1,e2]
theorem RM {vs:List V} {w:V} (e:h[l]?=some (.lst ds)) (e1:A2 (ds.map CM)=some vs) (e2:CM a=some w):Hf (.loc l) a h=.ok (.int (He w vs)) h:=by
 simp only [Hf,Dg,e,Out.bind_ok,IG,BM,e1,e2]
theorem Yq {vs:List V} {w:V} {j:Nat} (e:h[l]?=some (.lst ds)) (e1:A2 (ds.map CM)=some vs) (e2:CM a=some w) (e3:Ln w vs=some j):Hg (.loc l) a h=.ok (.int j) h:=by
 simp only [Hg,e,e1,e2,e3]
@[simp] theorem Zee {chk:D→HD→Out D} {op:D→D→HD→Out D} {f g:ME} {ρ:Ai} {Q:D→HD→Prop}:Wp (IF chk op f g ρ h) Q=Wp (f ρ h) fun x h1=>Wp (chk x h1) fun x h2=>Wp (g ρ h2) fun y h3=>Wp (op x y h3) Q:=by unfold IF;simp only [AD]
@[simp] theorem sz6:(6≤sizeLine)=True:=eq_true (by unfold sizeLine;omega)
@[simp] theorem sz7:(7≤sizeLine)=True:=eq_true (by unfold sizeLine;omega)
@[simp] theorem sz8:(8≤sizeLine)=True:=eq_true (by unfold sizeLine;omega)
@[simp] theorem sz9:(9≤sizeLine)=True:=eq_true (by unfold sizeLine;omega)
@[simp] theorem Zef:(10≤sizeLine)=True:=eq_true (by unfold sizeLine;omega)
theorem RN {k:Nat} (hne:ds≠[]) (hz:ds.length*k≤1000) (hk:1<k:=by decide):CC (.tup ds) (.int (k:Nat)) h=.ok (.tup (List.replicate k ds).flatten) h:=by
 simp only [CC]
 have h1:k≤1000:=by
  have:1≤ds.length:=by
   cases ds with
   |nil=>exact absurd rfl hne
   |cons _ _=>simp
  have:=Nat.mul_le_mul_right k this
  omega
 rw [if_pos ⟨hne,by omega,by omega,by simp;unfold sizeLine;omega⟩]
 simp
end
section
variable {ρ:Ai} {h:HD} {Q:Str→HD→Prop} {R:Str→List (Str×D)→HD→Prop} {acc y:Str} {r:MJ} {f:ME} {n:Nat} {i:Int}
end
end LS
namespace LS
open PySem PySem.Spec PyProof.Rows L2 PySem.W
section
variable {X:Cx} {E:XK}
def Fw:D→HD→Out D:=fun x h=>match BM x h with
 |some ds=>CL ds h
 |none=>.stuck
theorem LC:Dc X (.type "list") (Aq Fw):=by
 refine ⟨_,VS,fun m H h E ds vs Q hr r q=>FL r q fun d v ev rv q=>?_⟩
 unfold Fw at q
 split at q
 ·rename_i ds' e
  obtain ⟨p,ws,rfl,hs,dv⟩:=Jt hr rv e
  exact ⟨p,ws,ev,hs,(Ik hr dv q).2⟩
 ·exact q.elim
theorem LD {pos:Pos}:Ev X E (.Dict [] [] pos) (mC .edic):=fun pins s σ H Q I z1_=>by
 obtain ⟨m,ρ,h,hr,er,p⟩:=z1_
 have hf:H s.heap.objs.size=none:=I.hok.fresh (AO _)
 refine wpAny_Dict_empty ⟨.ref s.heap.objs.size,Am H s.heap.objs.size (.ext (M7 s.heap.objs.size)),I.laid (t':=s.toks) (fun _ _ q=>AF _ q) (AO _) ?_,rfl,?_⟩
 ·have ne:s.heap.objs.size≠sysModules:=by
   obtain ⟨og,_,_,eg,_⟩:=I.ok.mod.glob
   obtain ⟨ml,⟨ol,_,_,el,_⟩,_⟩:=I.loc
   have h1:(3:Nat)<X.base.objs.size:=AG eg
   have h2:(X.env.locals:Nat)<s.heap.objs.size:=AG el
   have h3:X.base.objs.size≤X.s₀.heap.objs.size:=I.ok.bsz
   have h4:X.s₀.heap.objs.size≤(X.env.locals:Nat):=I.ok.above
   have h5:(1:Nat)<s.heap.objs.size:=Bb (Bb (show 1<4 by decide) h1) (BS h3 (BS h4 (GL h2)))
   exact fun z=>Ci h5 z
  exact ⟨⟨ne,_,_,By _ rfl,⟨rfl,rfl,rfl⟩,rfl⟩,⟨_,By _ rfl⟩,fun h1 h2 z2_ k=>by obtain ⟨ne,o,ep,z1,z2⟩:=z2_;exact (⟨ne,o,ep,k o z1,z2⟩)⟩
 ·exact p (.ref s.heap.objs.size) m _ (AJ _) (.new hf) (hr.new hf) (by simp only [rD,DV];exact ⟨_,rfl,Bt⟩)
def Zeg (T:List (Str×(List D→HD→Out D))) (fv:ME) (fa:MA):ME:=fun ρ h=>(fv ρ h).bind fun d h1=>match d with
 |.glo n=>(match T.lookup n with
  |some F=>(fa ρ h1).bind F
  |none=>.stuck)
 |_=>.stuck
def Zeh (P:Program) (w:World) (K:Frag) (mg:Str→Option Value) (base:Heap) (k:Nat) (T:List (Str×(List D→HD→Out D))):Prop:=∀n F,T.lookup n=some F→CaE P w K mg base n k F
theorem CaE.mono {P:Program} {w:World} {K:Frag} {mg:Str→Option Value} {base:Heap} {x:Str} {j k:Nat} {F:List D→HD→Out D} (C:CaE P w K mg base x j F) (h:j≤k):CaE P w K mg base x k F:=by
 obtain ⟨f,fd,ps,G,r⟩:=C.ex
 exact ⟨f,fd,ps,G.mono h,r⟩
end
def Zei (K:Frag) (c:Addr):Bool:=match tabP K with
 |some (c',T)=>c'==c&&codeHdIn K c T
 |none=>false
section
variable {prog:Program} {w:World} {A:Around} {E:Str→Value→Shared→Prop}
end
section
variable {X:Cx} {E:XK}
def Yr (K:PySem.W.Frag):V→Option Int→Option Int→Hp→VK→Prop:=fun x lo hi H Q=>∃a xs,x=.ref a∧SqT K H a xs∧HT.sIx xs.length 0 lo=0∧HT.sIx xs.length xs.length hi=xs.length∧Q (.ref a) H
theorem sl_whole:SlR X (Yr X.K):=by
 rintro pins s σ H x v vl vu lo hi sl Q I rx hs pl pu ⟨a,xs,rfl,hx,w0,w1,q⟩
 cases rx
 obtain ⟨its,r,ht,hz⟩:=I.tuple hx
 have hl:its.toArray.size=xs.length:=by rw [Bc];exact r.length.symm
 rw [←hl] at w0 w1
 obtain ⟨os,hos,hcs,hds⟩:=id hs
 refine ⟨"tuple",_,slot_tuple_getitem.lookup,ht.typeIs,?_⟩
 unfold getItem
 try with_reducible refine wpAny_holding ?_
 first |refine wpAny_bind (wpAny_pure ?_) |skip
 refine wpAny_bind (wpAny_sequenceKey ht.typeIs (by decide) (wpAny_bind (wpAny_callSpecial?_slot (name:=Str.ofString "__getitem__") ht.typeIs slot_tuple_getitem
  (wpAny_call_entry slot_tuple_getitem ht.typeIs entry_tuple_getitem ?_ (args_tuple_getitem _ _)))))
 show wpAny _ _ (Builtin.Tuple.tupleItemsOf (.ref a) >>=_) _ _ s
 refine wpAny_bind (tupleItemsOf_ ht (wpAny_bind (wpAny_typeOf (show s.TypeIs (.ref sl) "slice" from ⟨os,hos,hcs⟩) ?_)))
 rw [if_pos (by decide)]
 refine wpAny_bind (HT.sliceApplied_gen hs pl pu ?_)
 have hy:(((HT.sIx its.toArray.size 0 lo:Nat):Int)==0&&(1:Int)==1&&(HT.sIx its.toArray.size its.toArray.size hi - HT.sIx its.toArray.size 0 lo)==its.toArray.size)=true:=by
  rw [w0,w1]
  simp
 show wpAny _ _ (if (((HT.sIx its.toArray.size 0 lo:Nat):Int)==0&&(1:Int)==1&&(HT.sIx its.toArray.size its.toArray.size hi - HT.sIx its.toArray.size 0 lo)==its.toArray.size)=true then _ else _) _ _ s
 rw [if_pos hy]
 unfold Builtin.Tuple.tupleIsExact
 refine wpAny_bind (wpAny_bind (wpAny_typeOf ht.typeIs (wpAny_pure ?_)))
 rw [if_pos (by decide)]
 refine wpAny_bind (wpAny_rule ?_)
 have fin:EP X pins σ Q (.ref a) s:=⟨.ref a,H,I,rfl,q⟩
 first
  |exact wpAny_pure ⟨_,rfl,wpAny_pure fin⟩
  |exact wpAny_pure fin
def Di (x:D) (lo hi:Option Int) (h:HD):Out D:=match x with
 |.tup xs=>.ok (.tup (cutD xs lo hi)) h
 |_=>.stuck
def BB (f:ME) (lo hi:MO):ME:=fun ρ h=>(f ρ h).bind fun x h1=>(lo ρ h1).bind fun l h2=>(hi ρ h2).bind fun u h3=>Di x l u h3
theorem Ys {α:Type} {xs:List α} {lo hi:Option Int} (h0:HT.sIx xs.length 0 lo=0) (h1:HT.sIx xs.length xs.length hi=xs.length):(xs.drop (HT.sIx xs.length 0 lo)).take (HT.sIx xs.length xs.length hi - HT.sIx xs.length 0 lo)=xs:=by
 rw [h0,h1];simp
theorem CS {e:Expr} {lo hi:Option Expr} {f:ME} {fl fh:MO} {p2 pos:Pos} (he:Ev X E e f) (hl:Lf X E lo fl) (hu:Lf X E hi fh):Ev X E (.Subscript e (.Slice lo hi none p2) pos) (BB f fl fh):=
 Ck (VB (sl_whole.or VE) he hl hu) fun σ H Q ⟨m,ρ,h,hr,er,p⟩=>⟨m,ρ,h,hr,er,Post.bind p fun x h1 v m1 H1 eo1 p1 k1 hr1 r1 q1=>
  ⟨m1,ρ,h1,hr1,er.keep p1 k1,Post.bind q1 fun l h2 l' m2 H2 eo2 p2 k2 hr2 r2 q2=>
   ⟨m2,ρ,h2,hr2,(er.keep p1 k1).keep p2 k2,Post.bind q2 fun u h3 u' m3 H3 eo3 p3 k3 hr3 r3 q3=>by
    clear eo1 eo2 eo3
    subst r2 r3
    have rx:=DV.keep p3 k3 (DV.keep p2 k2 r1)
    unfold Di at q3
    split at q3
    ·rename_i xs
     have rx0:=rx
     simp only [DV] at rx
     obtain ⟨a,vs,rfl,ha,dv⟩:=rx
     by_cases hz:HT.sIx xs.length 0 l=0∧HT.sIx xs.length xs.length u=xs.length
     ·refine .inl ⟨a,vs,rfl,SqT.of ha,by rw [←dv.len];exact hz.1,by rw [←dv.len];exact hz.2,?_⟩
      have e:cutD xs l u=xs:=Ys hz.1 hz.2
      rw [e] at q3
      exact q3 (.ref a) m3 H3 (AJ _) (.refl _) hr3 rx0
     ·rw [dv.len] at hz
      exact .inr ⟨a,vs,rfl,SqT.of ha,hz,GU hr3 (dv.cut l u) q3⟩
    ·exact q3.elim⟩⟩⟩
theorem RO {xs:List D} {k:Nat} {h:HD} (hk:k≤xs.length):Di (.tup xs) none (some (k:Int)) h=.ok (.tup (xs.take k)) h:=by
 simp only [Di]
 unfold cutD
 rw [HT.sIx_nat,HT.sIx_none,Ko,show min k xs.length - 0=k from by omega]
theorem RP {xs:List D} {k:Nat} {i:Int} {h:HD} (hi:i=((k+1:Nat):Int)) (hk:k<xs.length):Di (.tup xs) (some i) none h=.ok (.tup (xs.drop (k+1))) h:=by
 subst hi
 simp only [Di]
 unfold cutD
 rw [HT.sIx_nat,HT.sIx_none,show min (k+1) xs.length=k+1 from by omega]
 congr 2
 exact Ke (by simp)
theorem Yt {xs:List D} {h:HD} (hk:1≤xs.length):Di (.tup xs) none (some (-1)) h=.ok (.tup (xs.take (xs.length - 1))) h:=by
 have e:HT.sIx xs.length xs.length (some (-1))=xs.length - 1:=by
  simp only [HT.sIx]
  rw [if_pos (by decide)]
  omega
 simp only [Di]
 unfold cutD
 rw [e,HT.sIx_none,Ko,Nat.sub_zero]
end
section
variable {f:ME} {lo hi:MO} {ρ:Ai} {h:HD} {Q:D→HD→Prop}
@[simp] theorem Zej:Wp (BB f lo hi ρ h) Q=Wp (f ρ h) fun x h1=>Wp (lo ρ h1) fun l h2=>Wp (hi ρ h2) fun u h3=>Wp (Di x l u h3) Q:=by unfold BB;simp only [AD]
end
section
variable {K:Frag} {mg:Str→Option Value} {h:Heap}
theorem Yu {us:List Value} (h:us.length=0):us=[]:=List.length_eq_zero_iff.mp h
theorem RQ {us:List Value} (h:us.length=1):∃v0,us=[v0]:=by
 cases us with
 |nil=>cases h
 |cons v t=>
  obtain rfl:=Yu (Nat.succ.inj h)
  exact ⟨v,rfl⟩
theorem RS {us:List Value} (h:us.length=2):∃v0 v1,us=[v0,v1]:=by
 cases us with
 |nil=>cases h
 |cons v t=>
  obtain ⟨w0,rfl⟩:=RQ (Nat.succ.inj h)
  exact ⟨v,w0,rfl⟩
theorem Yv {us:List Value} (h:us.length=3):∃v0 v1 v2,us=[v0,v1,v2]:=by
 cases us with
 |nil=>cases h
 |cons v t=>
  obtain ⟨w0,w1,rfl⟩:=RS (Nat.succ.inj h)
  exact ⟨v,w0,w1,rfl⟩
theorem Dt {x p0:Str} {st:Stmt} {f:Addr} {oc:Value} {od an:Option Addr} {osl:Array (Option Value)} {kV doc pm cdv ct:Value} (X:K.In h) (G:h.Ns mainGlobals mg) (l:K.lookup f=some ⟨oc,od,.func (fnOf x x (defArgs st) (defBody st) (defScope st) .none kV doc pm an cdv ct),osl⟩) (c:codeIn K cdv x=true) (k:keepIn K (.ref f)=true) (a:nsIn K mainGlobals x=some (some (.ref f)))
 (b:∀(kV doc pm:Value) (an:Option Addr) (cdv ct v0:Value),bindArgs (fnOf x x (defArgs st) (defBody st) (defScope st) .none kV doc pm an cdv ct) ⟨[v0],[]⟩=pure (([p0]:List Str).zip [v0])):Dn K mg x [p0] st f (fnOf x x (defArgs st) (defBody st) (defScope st) .none kV doc pm an cdv ct):=
 ⟨Ic l c k,(Ic l c k).binds (fun kV doc pm an cdv ct us hl=>by obtain ⟨v0,rfl⟩:=RQ hl;exact b kV doc pm an cdv ct v0),mg_of X G a⟩
theorem EL {x p0 p1:Str} {st:Stmt} {f:Addr} {oc:Value} {od an:Option Addr} {osl:Array (Option Value)} {kV doc pm cdv ct:Value} (X:K.In h) (G:h.Ns mainGlobals mg) (l:K.lookup f=some ⟨oc,od,.func (fnOf x x (defArgs st) (defBody st) (defScope st) .none kV doc pm an cdv ct),osl⟩) (c:codeIn K cdv x=true) (k:keepIn K (.ref f)=true) (a:nsIn K mainGlobals x=some (some (.ref f)))
 (b:∀(kV doc pm:Value) (an:Option Addr) (cdv ct v0 v1:Value),bindArgs (fnOf x x (defArgs st) (defBody st) (defScope st) .none kV doc pm an cdv ct) ⟨[v0,v1],[]⟩=pure (([p0,p1]:List Str).zip [v0,v1])):Dn K mg x [p0,p1] st f (fnOf x x (defArgs st) (defBody st) (defScope st) .none kV doc pm an cdv ct):=
 ⟨Ic l c k,(Ic l c k).binds (fun kV doc pm an cdv ct us hl=>by obtain ⟨v0,v1,rfl⟩:=RS hl;exact b kV doc pm an cdv ct v0 v1),mg_of X G a⟩
theorem RT {x p0 p1 p2:Str} {st:Stmt} {f:Addr} {oc:Value} {od an:Option Addr} {osl:Array (Option Value)} {kV doc pm cdv ct:Value} (X:K.In h) (G:h.Ns mainGlobals mg) (l:K.lookup f=some ⟨oc,od,.func (fnOf x x (defArgs st) (defBody st) (defScope st) .none kV doc pm an cdv ct),osl⟩) (c:codeIn K cdv x=true) (k:keepIn K (.ref f)=true) (a:nsIn K mainGlobals x=some (some (.ref f)))
 (b:∀(kV doc pm:Value) (an:Option Addr) (cdv ct v0 v1 v2:Value),bindArgs (fnOf x x (defArgs st) (defBody st) (defScope st) .none kV doc pm an cdv ct) ⟨[v0,v1,v2],[]⟩=pure (([p0,p1,p2]:List Str).zip [v0,v1,v2])):Dn K mg x [p0,p1,p2] st f (fnOf x x (defArgs st) (defBody st) (defScope st) .none kV doc pm an cdv ct):=
 ⟨Ic l c k,(Ic l c k).binds (fun kV doc pm an cdv ct us hl=>by obtain ⟨v0,v1,v2,rfl⟩:=Yv hl;exact b kV doc pm an cdv ct v0 v1 v2),mg_of X G a⟩
theorem SaidD.of {st:Stmt} {f:Addr} {fd:FuncData} (d:Dn K mg "_law_said" ["_law_call"] st f fd):SaidD K mg st f fd:=⟨d.fn,d.bd,d.mg⟩
end
open AutoSeq1 (wpAny_loadPart')
section
variable {prog:Program} {w:World} {A:Around} {E:Value→Shared→Prop} {s:Shared}
end
def RU (r:Addr) (n:Nat) (h:Heap):Prop:=∃t u v,IsRange h r 0 (n:Int) 1 t u v
section
variable {X:Cx} {E:XK}
inductive Yw (vs:List V) (H:Hp) (Q:VK):Prop where
 |mk (n:Nat) (e:vs=[.int (n:Int)]) (hn:n≤1000) (q:∀p,H p=none→Q (.ref p) (Am H p (.ext (RU p n)))):Yw vs H Q
inductive Yx (vs:List V) (H:Hp) (Q:VK):Prop where
 |mk (r:Addr) (n:Nat) (e:vs=[.ref r]) (hr:H r=some (.ext (RU r n))) (hn:n≤1000) (q:∀p,H p=none→Q (.ref p) (Am H p (.tup ((List.range n).map fun i=>V.int ((i:Nat):Int))))):Yx vs H Q
noncomputable def Yy:D→HD→Out D:=fun d h=>match d with
 |.int i=>@ite _ (0≤i∧i≤1000) (Classical.propDecidable _) (.ok (.tup ((List.range i.toNat).map fun k=>D.int ((k:Nat):Int))) h) .stuck
 |_=>.stuck
noncomputable def Zek (f:ME):ME:=fun ρ h=>(f ρ h).bind Yy
end
end LS
namespace LS
open PySem PySem.Spec PyProof.Rows L2 PySem.W
section
variable {X:Cx} {E:XK}
def Yz:D→HD→Out D:=fun x h=>match x with
 |.tup _=>.ok x h
 |_=>.stuck
def Zel:D→D→HD→Out D:=fun x y h=>(Yz x h).bind fun _ _=>IG x y h
mutual
def NY:PyData→Bool
 |.list _=>false
 |.tuple xs=>NZ xs
 |_=>true
def NZ:List PyData→Bool
 |[]=>true
 |x::xs=>NY x&&NZ xs
end
def N0 (h:HD):Nat→D→Option PyData
 |_,.non=>some .none
 |_,.bl b=>some (.bool b)
 |_,.int i=>some (.int i)
 |_,.str x=>some (.str x)
 |_,.edic=>some (.dict [])
 |n+1,.tup ds=>(A2 (ds.map (N0 h n))).map .tuple
 |n+1,.loc l=>match h[l]? with
  |some (.lst ds)=>(A2 (ds.map (N0 h n))).map .list
  |_=>none
 |_,_=>none
inductive YA (h:Heap) (u:Value) (p:PyData):Prop where
 |mk (as:List Addr) (f1:Reads h u p as) (f2:NY p=true→sysModules∉as):YA h u p
inductive YB (h:Heap) (us:List Value) (ps:List PyData):Prop where
 |mk (as:List Addr) (f1:ReadsAll h us ps as) (f2:NZ ps=true→sysModules∉as):YB h us ps
variable {pins:List (Addr×Obj)} {σ:L2.St} {H:Hp} {s:Shared} {m:List Addr} {h:HD}
def Zem:D→HD→Out D:=fun x h=>match N0 h 8 x with
 |some p=>if p.showable=true∧(p.hasDict=false∨NY p=true)∧p.depth≤40∧p.shown.length≤sizeLine then .ok (.str p.shown) h else .stuck
 |none=>.stuck
end
end LS
namespace HT
open PySem PyProof.Rows
def lexLe:List Int→List Int→Bool
 |[],[]=>true
 |[],_::_=>true
 |_::_,[]=>false
 |x::xs,y::ys=>if x=y then lexLe xs ys else decide (x≤y)
section
open PySem.SeqAt
open PySem.AutoSeq1 (wpAny_loadPart')
open PySem.MeetsSeq PySem.MeetsSeq2 PySem.MeetsSeq3
end
section
variable {prog:Program} {w:World} {A:Around} {E:Value→Shared→Prop} {s:Shared}
end
end HT
namespace L2
open PySem PySem.Spec PyProof.Rows
section
variable {X:Cx}
def Zen (K:PySem.W.Frag):R2:=fun x y H Q=>∃a b ns ms,x=.ref a∧y=.ref b∧SqT K H a (ns.map V.int)∧SqT K H b (ms.map V.int)∧Q (.bl (HT.lexLe ns ms)) H
end
end L2
namespace LS
open PySem PySem.Spec PyProof.Rows L2
theorem YC {K:PySem.W.Frag} {cs:List (Option Nat)} {i j k:Nat} (h:cs[i]?=some none) (h':cs[j]?=some none) (h2:cs[k]?=some none):Iq K cs (FK K [i,j,k].length (Lx [i,j,k])) (Ei [i,j,k]):=fun m H d v ρ σ0 ρ' Q r er e q=>by
 unfold Ei at e
 split at e
 ·rename_i ds
  match ds,e with
  |[a,b,c],e=>
   cases e
   simp only [DV,DVs] at r
   obtain ⟨p,vs,rfl,hp,v1,w1,rfl,r1,v2,w2,rfl,r2,v3,w3,rfl,r3,rfl⟩:=r
   exact ⟨p,_,rfl,SqT.of hp,rfl,v1,_,rfl,v2,_,rfl,v3,_,rfl,rfl,q _ ((((Sub.refl _).set h).set h').set h2) (((er.set r1).set r2).set r3)⟩
 ·cases e
section
variable {X:Cx} {E:XK}
def N1:D→Option (List Int)
 |.tup ds=>A2 (ds.map Gp)
 |_=>none
theorem RV {m:List Addr} {H:Hp} {d:D} {v:V} {ns:List Int} (r:DV X.K m H d v) (e:N1 d=some ns):∃a,v=.ref a∧SqT X.K H a (ns.map V.int):=by
 cases d with
 |tup ds=>
  simp only [DV] at r
  obtain ⟨a,vs,rfl,ha,dv⟩:=r
  have:=K1 dv e
  subst this
  exact ⟨a,rfl,SqT.of ha⟩
 |_=>exact nomatch (show (none:Option (List Int))=some ns from e)
def LG (f:List Int→List Int→Bool):D→D→HD→Out D:=fun x y h=>match N1 x,N1 y with
 |some ns,some ms=>.ok (.bl (f ns ms)) h
 |_,_=>.stuck
theorem YD (hu:X.A.units+64<cLine):BL X (compareOp .Lt) (LG HT.lexLt):=⟨_,VG (by omega),fun m H h E x y v u Q hr rx ry q=>by
 unfold LG at q
 split at q
 ·rename_i ns ms e1 e2
  obtain ⟨a,rfl,ha⟩:=RV rx e1
  obtain ⟨b,rfl,hb⟩:=RV ry e2
  exact ⟨a,b,ns,ms,rfl,rfl,ha,hb,Bp hr q (by simp [DV])⟩
 ·exact q.elim⟩
end
section
variable {prog:Program} {w:World} {A:Around} {E:Value→Shared→Prop} {s:Shared}
theorem YE {n:Nat} {sl:Addr} {tk:Tok} {Q:Int×Int×Nat→Shared→Prop} (hs:s.heap.IsSliceOf sl .none .none (.int (-1) tk)) (h:Q ((n:Int) - 1,-1,n) s):wpAny (model prog w) A (Builtin.Slice.sliceApplied (.ref sl) (pure ((n:Nat):Int))) Q E s:=by
 obtain ⟨os,hos,hcs,hds⟩:=id hs
 unfold Builtin.Slice.sliceApplied Builtin.Slice.sliceFields
 refine wpAny_bind (wpAny_bind (wpAny_field hos hds (x:=.none) rfl (wpAny_bind (wpAny_field hos hds (x:=.none) rfl (wpAny_bind (wpAny_field hos hds (x:=.int (-1) tk) rfl (wpAny_pure ?_)))))))
 refine wpAny_bind (slicePart_int ?_)
 show wpAny _ _ (if ((-1:Int)==0)=true then _ else _) _ _ s
 rw [if_neg (by decide)]
 refine wpAny_bind (slicePart_none (wpAny_bind (slicePart_none (wpAny_bind (wpAny_pure ?_)))))
 refine wpAny_pure ?_
 have e1:Builtin.Slice.slicePlaces ((n:Int) - 1) (-1) (-1)=n:=by
  unfold Builtin.Slice.slicePlaces
  simp
  omega
 have e2:Builtin.Slice.sliceAdjust none none (-1) (n:Int)=((n:Int) - 1,-1):=by
  rfl
 show Q ((Builtin.Slice.sliceAdjust none none (-1) (n:Int)).1,-1,Builtin.Slice.slicePlaces (Builtin.Slice.sliceAdjust none none (-1) (n:Int)).1 (Builtin.Slice.sliceAdjust none none (-1) (n:Int)).2 (-1)) s
 rw [e2]
 show Q ((n:Int) - 1,-1,Builtin.Slice.slicePlaces ((n:Int) - 1) (-1) (-1)) s
 rw [e1]
 exact h
theorem RW {α β:Type} {f g:α→Option β}:∀{l:List α},(∀x∈l,f x=g x)→l.filterMap f=l.filterMap g
 |[],_=>rfl
 |x::xs,h=>by rw [F0,F0,h x A0,RW fun y hy=>h y (A5 _ hy)]
theorem LH {vs:List Value}:((List.range vs.toArray.size).filterMap fun (m:Nat)=>vs.toArray[(((vs.toArray.size:Nat):Int) - 1+(m:Int)*(-1)).toNat]?).toArray=vs.reverse.toArray:=by
 have e:(List.range vs.toArray.size).filterMap (fun (m:Nat)=>vs.toArray[(((vs.toArray.size:Nat):Int) - 1+(m:Int)*(-1)).toNat]?)=((List.range vs.toArray.size).map fun k=>vs.toArray.size - 1 - k).filterMap (vs.toArray[·]?):=by
  rw [List.filterMap_map]
  refine RW fun m hm=>?_
  have:=qbH.mp hm
  show vs.toArray[_]?=vs.toArray[vs.toArray.size - 1 - m]?
  congr 1
  omega
 rw [e,PySem.W.krv_range,List.filterMap_reverse,PySem.W.krv_all]
theorem YF {t sl:Addr} {vs:List Value} {tk:Tok} {Q:Value→Shared→Prop} (ht:IsTup s.heap t vs.toArray) (hs:s.heap.IsSliceOf sl .none .none (.int (-1) tk)) (hn:vs.length≤sizeLine)
 (h:Q (.ref s.heap.objs.size) {s with heap:=s.heap.push {cls:=.type "tuple",data:=.seq vs.reverse.toArray}}):wpAny (model prog w) A (getItem (.ref t) (.ref sl)) Q E s:=by
 obtain ⟨os,hos,hcs,hds⟩:=id hs
 have hTs:s.TypeIs (.ref sl) "slice":=⟨os,hos,hcs⟩
 unfold getItem
 try with_reducible refine wpAny_holding ?_
 first |refine wpAny_bind (wpAny_pure ?_) |skip
 refine wpAny_bind (wpAny_sequenceKey ht.typeIs (by decide) ?_)
 refine wpAny_bind (wpAny_callSpecial?_slot (name:=Str.ofString "__getitem__") ht.typeIs PyProof.Rows.slot_tuple_getitem
  (wpAny_call_entry PyProof.Rows.slot_tuple_getitem ht.typeIs entry_tuple_getitem ?_ (args_tuple_getitem _ _)))
 show wpAny _ _ (Builtin.Tuple.tupleItemsOf (.ref t) >>=_) _ _ s
 refine wpAny_bind (tupleItemsOf_ ht ?_)
 refine wpAny_bind (wpAny_typeOf hTs ?_)
 rw [if_pos (by decide)]
 refine wpAny_bind (YE (n:=vs.toArray.size) hs ?_)
 show wpAny _ _ (if ((((vs.toArray.size:Nat):Int) - 1)==0&&(-1:Int)==1&&vs.toArray.size==vs.toArray.size)=true then _ else _) _ _ s
 rw [if_neg (by rw [show ((-1:Int)==1)=false from rfl,Bool.and_false,Je];exact BH)]
 have hz:sizeOk (.seq vs.reverse.toArray):=by show vs.reverse.toArray.size≤sizeLine;simpa using hn
 first
  |(rw [LH];exact wpAny_bind (m:=Builtin.Tuple.tupleExact _) (wpAny_newObj_type (wpAny_pure ⟨_,rfl,wpAny_pure h⟩) hz))
  |(rw [LH];exact wpAny_bind (m:=Builtin.Tuple.tupleExact _) (wpAny_newObj_type (wpAny_bind (wpAny_pure (wpAny_pure ⟨_,rfl,wpAny_pure h⟩))) hz))
  |(rw [LH];exact wpAny_bind (wpAny_bind (m:=Builtin.Tuple.tupleExact _) (wpAny_newObj_type (wpAny_pure (wpAny_pure ⟨_,rfl,wpAny_pure h⟩)) hz)))
  |(rw [LH];exact wpAny_bind (wpAny_bind (m:=Builtin.Tuple.tupleExact _) (wpAny_newObj_type (wpAny_pure ⟨_,rfl,wpAny_pure h⟩) hz)))
end
section
variable {X:Cx} {E:XK} {e:Expr} {f:ME}
def LI:D→HD→Out D:=fun x h=>match x with
 |.tup ds=>.ok (.tup ds.reverse) h
 |_=>.stuck
def JN (f:ME):ME:=fun ρ h=>(f ρ h).bind LI
theorem DVs.rev {K:PySem.W.Frag} {m:List Addr} {H:Hp}:∀{ds:List D} {vs:List V},DVs K m H ds vs→DVs K m H ds.reverse vs.reverse
 |[],vs,r=>by
  simp only [DVs] at r
  subst r
  exact .nil
 |d::ds,vs,r=>by
  simp only [DVs] at r
  obtain ⟨v,w,rfl,rv,rw'⟩:=r
  rw [Ki,Ki]
  exact (DVs.rev rw').app (.cons rv .nil)
theorem YG {vs:List V} {us:List Value} (r:Vals vs us):Vals vs.reverse us.reverse:=r.reverse
theorem YH {j:Nat} {p1 p2 p3 pos:Pos} (he:Ev X E e f):Ev X E (.Subscript e (.Slice none none (some (.UnaryOp .USub (.Constant (.int 1) j p1) p2)) p3) pos) (JN f):=by
 rintro pins s σ H Q I ⟨m,ρ,h,hr,er,p⟩
 have p':tD X.K E f σ H fun v H1=>∃t xs,v=.ref t∧SqT X.K H1 t xs∧∀q,H1 q=none→Q (.ref q) (Am H1 q (.tup xs.reverse)):=⟨m,ρ,h,hr,er,Post.bind p fun x h1 v m1 H1 eo p1 k1 hr1 r1 q1=>by
  clear eo
  unfold LI at q1
  split at q1
  ·simp only [rD,DV] at r1
   obtain ⟨t,vs,rfl,ht,dv⟩:=r1
   exact ⟨t,vs,rfl,SqT.of ht,GU hr1 (DVs.rev dv) q1⟩
  ·exact q1.elim⟩
 refine Subscript_ (Az (he pins s σ H _ I p') fun v s1 z1_=>?_)
 obtain ⟨x,H1,I1,r1,t,xs,ex,hq,q1⟩:=z1_
 subst ex
 cases r1
 refine wpAny_Slice ?_
 rw [evalPart_none,evalPart_some]
 refine wpAny_pure (wpAny_pure ?_)
 have st:PE X (.UnaryOp .USub (.Constant (.int 1) j p1) p2) (Pk (rU fun i=>.int (-i)) (tC (.int 1))):=Pl Po Pc
 refine Az (st pins s1 σ H1 (fun v H3=>v=.int (-1)∧H3=H1) I1 ⟨1,rfl,rfl,rfl⟩) fun sv s3 z2_=>?_
 obtain ⟨x,H3,I3,r3,ex,eH⟩:=z2_
 subst ex eH
 obtain ⟨tk,rfl⟩:=r3
 obtain ⟨its,rv,pl,hz⟩:=I3.tuple hq
 have I4:Inv X pins σ H3 {s3 with heap:=s3.heap.push {cls:=.type "slice",data:=.fields #[.none,.none,.int (-1) tk]}}:=I3.kept (t':=s3.toks) fun b ob q=>AF _ q
 have pl4:IsTup (s3.heap.push {cls:=.type "slice",data:=.fields #[.none,.none,.int (-1) tk]}) t its.toArray:=by
  obtain ⟨o,ho,r⟩:=pl
  exact ⟨o,AF _ ho,r⟩
 have hsl:(s3.heap.push {cls:=.type "slice",data:=.fields #[.none,.none,.int (-1) tk]}).IsSliceOf s3.heap.objs.size .none .none (.int (-1) tk):=Heap.IsSliceOf.new ..
 show wpAny (model X.prog X.w) X.A (subscriptTail e (.Slice none none (some (.UnaryOp .USub (.Constant (.int 1) j p1) p2)) p3) (.ref t) (.ref s3.heap.objs.size)) (EP X pins σ Q) X.xe {s3 with heap:=s3.heap.push {cls:=.type "slice",data:=.fields #[.none,.none,.int (-1) tk]}}
 refine tail_any (ops:=[.ref t,.ref s3.heap.objs.size]) (T:="tuple") pl4.typeIs PyProof.Rows.slot_tuple_getitem.lookup (YF (s:={s3 with heap:=s3.heap.push {cls:=.type "slice",data:=.fields #[.none,.none,.int (-1) tk]}}) pl4 hsl (by rw [←rv.length];exact hz) ?_) (by with_unfolding_all rfl)
 refine ⟨.ref _,_,I4.laid (t':=s3.toks) (o:=.tup xs.reverse) (fun b ob q=>AF _ q) (AO _) ?_,rfl,q1 _ (I4.hok.fresh (AO _))⟩
 exact ⟨by rw [List.length_reverse];exact hz,its.reverse,YG rv,IsTup.new _ _,NoDict.new⟩
end
end LS
namespace LS
open PySem
section
variable {prog:Program} {w:World} {A:Around} {E:Value→Shared→Prop} {h:Heap} {g:Array GenState} {d:Drawn} {t:Nat} {os:OsState}
variable {nm q:Str} {C N:Addr} {bs bm bmB:List Value} {hdct:Bool} {sn:List Str} {sub:List Value} {ab:Bool} {col:Option Bool} {dd:Option Addr} {k0 k1 k2 k3 k5:Option Value} {B newId initId:String}
theorem YI (F:ExcBaseFacts B newId initId bmB) (T:OwnTail h bmB bm) {mN:Str→Option Value} {rest:List Value} {fI:Addr} {oI:Obj} {Q:Fin→Shared→Prop}
 (hC:h.get? C=some (excClassObj nm q C N bs bm hdct sn sub ab col dd k0 k1 k2 k3 k5 newId)) (hn:h.Ns N mN) (hi:mN "__init__"=some (.ref fI)) (hfI:h.get? fI=some oI) (hfc:oI.cls=.type "function")
 (hq:∀h' e,Heap.MadeExcOf h h' e (.ref C) rest→wpAny (model prog w) A (call (.ref fI) (.ref e::rest)) (fun r s'=>r=.none∧Q (.done (.ret (.ref e))) s') E ⟨h',g,d,t,os⟩) (hrest:rest.length≤sizeLine):
 wpAny (model prog w) A (Builtin.«type.__call__» ⟨.ref C::rest,[]⟩) Q E ⟨h,g,d,t,os⟩:=by
 repeat (first |with_reducible refine wpAny_loadPart_at hC ?_ |with_reducible refine wpAny_madeBy_exc hC ?_ |wp_step)
 refine codeAny_call_builtin_code (Code.quiet_builtin _ F.quiet) (wpAny_check_new_subT F T hC ?_)
 refine codeAny_exc_new_subT F T hC ?_ hrest
 generalize eT:({cls:=.type "tuple",data:=.seq rest.toArray}:Obj)=oT
 generalize eE:({cls:=.ref C,data:=.fields #[.ref h.objs.size,.none,.none,.none,.bool false,.none]}:Obj)=oE
 have up:∀b o,h.get? b=some o→((h.push oT).push oE).get? b=some o:=fun b o e=>AF _ (AF _ e)
 have hC₁:=up _ _ hC
 have hn₁:((h.push oT).push oE).Ns N mN:=hn.keeps up
 have hget:((h.push oT).push oE).get? (h.objs.size+1)=some oE:=Heap.get?_push_at (by rw [CJ]) (by rw [←eE];rfl)
 have T₁:=T.keeps up
 have hcC:(Value.ref C::bm).contains (.ref C)=true:=by simp
 subst eT eE
 have hgetE:=hget
 show wpAny _ _ _ _ _ _
 unfold isInstance
 repeat (first |with_reducible refine wpAny_loadPart_at hgetE ?_ |(with_reducible refine wpAny_isSubtype_exc hC₁ ?_;rw [hcC]) |wp_step)
 show wpAny _ _ (typeLookup (.ref C) _) _ _ _
 refine wpAny_typeLookup_tail hC₁ hn₁ T₁ F.mroIs F.init.lookup ?_
 rw [hi]
 refine wpAny_holding (wpAny_bind ?_)
 unfold bindSpecial
 refine wpAny_bind (wpAny_typeOf (T:="function") ⟨_,up _ _ hfI,hfc⟩ ?_)
 rw [if_pos (by decide)]
 have mk:Heap.MadeExcOf h ((h.push {cls:=.type "tuple",data:=.seq rest.toArray}).push {cls:=.ref C,data:=.fields #[.ref h.objs.size,.none,.none,.none,.bool false,.none]}) (h.objs.size+1) (.ref C) rest:=⟨up,MF (HX _),h.objs.size,hgetE,MF (AO _),AF _ (Heap.get?_push_at rfl rfl)⟩
 refine wpAny_pure (wpAny_bind (wpAny_mono (hq _ _ mk) (fun r s' hr=>?_) fun _ _ x=>x))
 obtain ⟨rfl,hQ⟩:=hr
 wp_walk
 exact hQ
theorem YJ (F:ExcBaseFacts B newId initId bmB) (T:OwnTail h bmB bm) {mN:Str→Option Value} {rest:List Value} {fI:Addr} {oI:Obj} {Q:Value→Shared→Prop}
 (hC:h.get? C=some (excClassObj nm q C N bs bm hdct sn sub ab col dd k0 k1 k2 k3 k5 newId)) (hn:h.Ns N mN) (hi:mN "__init__"=some (.ref fI)) (hfI:h.get? fI=some oI) (hfc:oI.cls=.type "function")
 (hq:∀h' e,Heap.MadeExcOf h h' e (.ref C) rest→wpAny (model prog w) (A.under (.builtin "type.__call__" ⟨.ref C::rest,[]⟩)) (call (.ref fI) (.ref e::rest)) (fun r s'=>r=.none∧Q (.ref e) s') E ⟨h',g,d,t,os⟩) (hrest:rest.length≤sizeLine):
 wpAny (model prog w) A (call (.ref C) rest) Q E ⟨h,g,d,t,os⟩:=by
 have f1:=tc_lookup
 have f2:=tc_bind (.ref C)
 have hT:(⟨h,g,d,t,os⟩:Shared).TypeIs (.ref C) "type":=⟨_,hC,rfl⟩
 refine wpAny_call (codeAny_of_tree ?_)
 show wpAny _ _ (callAny (.ref C) _) _ _ _
 repeat (any_goals (first |assumption |with_reducible refine wpAny_loadPart_at hC ?_ |wp_step))
 refine ⟨rfl,?_⟩
 exact codeAny_call_builtin_at (Code.quiet_builtin _ (by decide +kernel)) entry_typeCall (wpAny_check_type_call_sub hC (YI (hrest:=hrest) F T hC hn hi hfI hfc fun h' e hm=>hq h' e hm))
theorem YK (F:ExcBaseFacts B newId initId bmB) (T:OwnTail h bmB bm) {rest:List Value} {e t0:Addr} {Q:Value→Shared→Prop}
 (hC:h.get? C=some (excClassObj nm q C N bs bm hdct sn sub ab col dd k0 k1 k2 k3 k5 newId)) (hget:h.get? e=some {cls:=.ref C,data:=.fields #[.ref t0,.none,.none,.none,.bool false,.none]}) (hrest:rest.length≤sizeLine)
 (hq:∀h',h'.objs.size=h.objs.size+1→(∀b o,b≠e→h.get? b=some o→h'.get? b=some o)→h'.get? e=some {cls:=.ref C,data:=.fields #[.ref h.objs.size,.none,.none,.none,.bool false,.none]}→h'.get? h.objs.size=some {cls:=.type "tuple",data:=.seq rest.toArray}→Q .none ⟨h',g,d,t,os⟩):
 wpAny (model prog w) A (call (.builtin initId) (.ref e::rest)) Q E ⟨h,g,d,t,os⟩:=by
 have he:=AG hget
 refine wpAny_call (codeAny_call_builtin F.init.plain F.initEntry (wpAny_check_init_subT F T hC hget rfl ?_))
 wp_walk
 refine hq _ ?_ (fun b o hb eb=>?_) ?_ ?_
 ·simp
 ·rw [IW _ _ (Ne.symm hb)]
  exact AF _ eb
 ·rw [IX _ (AF _ hget) rfl]
  rfl
 ·rw [IW _ _ (BI he)]
  exact By _ rfl
end
end LS
namespace LS
open PySem PySem.Spec PyProof.Rows L2
def Zeo (i j k:Nat):MG:=fun d ρ=>match d with
 |.tup [x,.tup [y,z]]=>some (((ρ.set i (some x)).set j (some y)).set k (some z))
 |_=>none
abbrev Zep (K:PySem.W.Frag) (i j k:Nat):TG:=FK K 2 (Dy (Cj i) (Dy (FK K 2 (Dy (Cj j) (Dy (Cj k) F8))) F8))
def Dj (elt:Expr) (gens:List Comprehension) (scope:Scope) (pos:Pos) (d:Nat) (acc:Value) (env:Env):Sem Unit:=match gens[d+1]? with
 |some g=>eval g.iter env >>=fun x=>standAt g.iter.pos >>=fun _=>foldedSetIterable g.iter env x >>=fun y=>holding [y] (pyIter y) >>=fun it=>
  runOwn (.compStart (.ListComp elt gens scope pos) (d+1) it acc env) env >>=fun _=>pure ()
 |none=>eval elt env >>=fun x=>call (.builtin "list.append") [acc,x] >>=fun _=>pure ()
theorem YL {elt tg iter:Expr} {gens:List Comprehension} {ifs:List Expr} {scope:Scope} {pos:Pos} {d:Nat} {it acc:Value} {env:Env} (hg:gens[d]?=some ⟨tg,iter,ifs,0⟩) (ha:∀g,gens[d+1]?=some g→g.is_async=0):
 compTurn (.ListComp elt gens scope pos) d it acc env=standAt iter.pos >>=fun _=>pyNext it >>=fun r=>match r with
  |none=>pure (.done .next)
  |some v=>letOwnedTupleGo tg it v >>=fun _=>assign tg env v >>=fun _=>(forIn ifs true fun c r=>if r=true then do let ok ←isTrue c env (eval c env);pure (ForInStep.yield ok) else pure (ForInStep.yield r)) >>=fun ok=>
   if ok=true then Dj elt gens scope pos d acc env >>=fun _=>again (.compLoop (.ListComp elt gens scope pos) d it acc env) else again (.compLoop (.ListComp elt gens scope pos) d it acc env):=by
 unfold compTurn Dj
 simp only [hg]
 cases e:gens[d+1]? with
 |none=>rfl
 |some g=>
  obtain ⟨a,b,c,k⟩:=g
  have:k=0:=ha _ e
  subst this
  simp only [bind_assoc,pure_bind]
  rfl
section
variable {prog:Program} {w:World} {A:Around} {R:Result→Shared→Prop} {s:Shared} {elt tg iter:Expr} {gens:List Comprehension} {ifs:List Expr} {scope:Scope} {pos:Pos} {d:Nat} {it acc:Value} {env:Env}
theorem YM (hg:gens[d]?=some ⟨tg,iter,ifs,0⟩) (ha:∀g,gens[d+1]?=some g→g.is_async=0) (I:Nat→Shared→Prop)
 (turn:∀n s,I n s→wpAny (model prog w) A (pyNext it) (fun r s₁=>match r with
  |none=>R (.ok .next) s₁
  |some v=>wpAny (model prog w) A (letOwnedTupleGo tg it v) (fun _ s₁'=>wpAny (model prog w) A (assign tg env v) (fun _ s₂=>
   wpAny (model prog w) A (forIn ifs true fun c r=>if r=true then do let ok ←isTrue c env (eval c env);pure (ForInStep.yield ok) else pure (ForInStep.yield r)) (fun ok s₃=>
    if ok=true then wpAny (model prog w) A (Dj elt gens scope pos d acc env) (fun _ s₅=>∃m,m<n∧I m s₅) (fun _ _=>False) s₃ else ∃m,m<n∧I m s₃) (fun _ _=>False) s₂) (fun _ _=>False) s₁') (fun _ _=>False) s₁) (fun _ _=>False) s)
 (n:Nat) (h:I n s):codeAny (model prog w) A (.compLoop (.ListComp elt gens scope pos) d it acc env) R s:=by
 refine codeAny_loop rfl I (fun n s hI=>?_) n h
 show wpAny _ A ((compTurn (.ListComp elt gens scope pos) d it acc env).onRaise (fun x=>do noteFrame x env;theTreesLotGoes x)) _ _ s
 refine wpAny_noted ?_
 rw [YL hg ha]
 refine wpAny_bind (wpAny_standAt (wpAny_bind (wpAny_mono (turn n s hI) (fun r s₁ h₁=>?_) fun _ _ h'=>h'.elim)))
 cases r with
 |none=>exact wpAny_pure h₁
 |some v=>
  refine wpAny_bind (wpAny_mono h₁ (fun _ s₁' h₁'=>?_) fun _ _ h'=>h'.elim)
  refine wpAny_bind (wpAny_mono h₁' (fun _ s₂ h₂=>wpAny_bind (wpAny_mono h₂ (fun ok s₃ h₃=>?_) fun _ _ h'=>h'.elim)) fun _ _ h'=>h'.elim)
  cases ok with
  |false=>exact wpAny_pure ⟨rfl,h₃⟩
  |true=>exact wpAny_bind (wpAny_mono h₃ (fun _ s₅ h₅=>wpAny_pure ⟨rfl,h₅⟩) fun _ _ h'=>h'.elim)
theorem RX (hg:gens[d]?=some ⟨tg,iter,ifs,0⟩)
 (h0:codeAny (model prog w) A (.compLoop (.ListComp elt gens scope pos) d it acc env) R s)
 (h:wpAny (model prog w) A (pyIter it) (fun it' s'=>codeAny (model prog w) A (.compLoop (.ListComp elt gens scope pos) d it' acc env) R s') (fun _ _=>False) s):
 codeAny (model prog w) A (.compStart (.ListComp elt gens scope pos) d it acc env) R s:=by
 refine codeAny_of_tree ?_
 show wpAny _ _ ((compStart (.ListComp elt gens scope pos) d it acc env).onRaise (fun x=>do noteFrame x env;standAt theWindowsPlace)) _ _ s
 refine wpAny_notedAt ?_
 have hc:(clausesOf (.ListComp elt gens scope pos))[d]?=some ⟨tg,iter,ifs,0⟩:=hg
 unfold compStart
 rw [hc]
 show wpAny _ _ (ask >>=_) _ _ s
 refine wpAny_bind (wpAny_askSetting (wpAny_ite ?_))
 split
 ·first
   |exact wpAny_bind (wpAny_pure (wpAny_pure ⟨rfl,h0⟩))
   |exact wpAny_pure ⟨rfl,h0⟩
 ·refine wpAny_bind (wpAny_rule ?_)
  show wpAny _ _ (standAt iter.pos >>=_) _ _ s
  exact wpAny_bind (wpAny_standAt (wpAny_bind (wpAny_mono h (fun it' s' h'=>wpAny_pure ⟨rfl,h'⟩) fun _ _ x=>x.elim)))
end
abbrev CU (its:List Value) (k:Nat):Obj:={cls:=.type "list",data:=.seq its.toArray k}
structure Gy (X:Cx) (D:Addr):Prop where
 lo:D≠X.env.locals
 ce:∀x c,X.env.cells.lookup x=some c→c≠D
 pn:∀p∈X.pn,p.1≠D
 ex:D∈X.ex
 fs:D∉X.fs
section
variable {X:Cx} {D:Addr} {its its':List Value} {k k':Nat} {rest:List (Addr×Obj)} {σ:L2.St} {H:Hp} {s:Shared} {h':Heap}
theorem Inv.repin (ao:Gy X D) (I:Inv X ((D,CU its k)::rest) σ H s) (hr:∀p∈rest,p.1≠D) (sb:Heap.SameBut D s.heap h') (e:h'.get? D=some (CU its' k')):Inv X ((D,CU its' k')::rest) σ H {s with heap:=h'}:=by
 have hD:=(I.pin _ (BC _ A0)).2.1
 have I1:Inv X rest σ H s:=I.pins_of fun p hp=>I.pin p (BC _ (A5 _ hp))
 have I2:Inv X rest σ H {s with heap:=h'}:=I1.turned (t':=s.toks) (it:=D) (fun b o hb e=>(sb.2 b hb).trans e) hD ao.lo (.inl ao.ex) ao.ce fun p hp=>by
  rcases qaP.mp hp with z |z
  ·exact ao.pn p z
  ·exact hr p z
 refine I2.pins_of fun p hp=>?_
 rcases qa5.mp hp with rfl |z
 ·exact ⟨e,hD,ao.lo,ao.fs,fun v z=>by cases z⟩
 ·exact I2.pin p (BC _ z)
def EM (X:Cx) (D:Addr) (em:Sem Unit) (te:L2.St→Hp→List V→(List V→Hp→Prop)→Prop):Prop:=
 ∀(rest:List (Addr×Obj)) (its:List Value) (k:Nat) (acc:List V) (σ:L2.St) (H:Hp) (s:Shared) (Q:List V→Hp→Prop),Inv X ((D,CU its k)::rest) σ H s→(∀p∈rest,p.1≠D)→Vals acc its→te σ H acc Q→
  wpAny (model X.prog X.w) X.A em (fun _ s'=>∃its' k' acc' H',Inv X ((D,CU its' k')::rest) σ H' s'∧Vals acc' its'∧Q acc' H') (fun _ _=>False) s
def RY (te:TE):L2.St→Hp→List V→(List V→Hp→Prop)→Prop:=fun σ H acc Q=>acc.length<sizeLine∧te σ H fun y H'=>Q (acc++[y]) H'
theorem YN {elt:Expr} {gens:List Comprehension} {scope:Scope} {pos:Pos} {d:Nat} {te:TE} (ao:Gy X D) (xe:X.xe=fun _ _=>False) (hl:gens[d+1]?=none) (pe:PE X elt te):EM X D (Dj elt gens scope pos d (.ref D) X.env) (RY te):=by
 rintro rest its k acc σ H s Q I hr rv ⟨hz,h⟩
 unfold Dj
 rw [hl]
 have z:=pe _ s σ H _ I h
 rw [xe] at z
 refine wpAny_bind (wpAny_mono z (fun y s1 z1=>?_) fun _ _ z=>z.elim)
 obtain ⟨yv,H1,I1,r1,q1⟩:=z1
 obtain ⟨ho,hD,_⟩:=I1.pin _ (BC _ A0)
 have hlen:=rv.length
 refine wpAny_bind (wpAny_list_append_plain ⟨k,ho⟩ (fun h' z2 sb=>?_) (by rw [Bc];omega))
 obtain ⟨k',hl'⟩:=z2
 refine wpAny_pure ⟨its++[y],k',acc++[yv],H1,Inv.repin ao I1 hr sb (by rw [hl'];simp [CU]),rv.append (.cons r1 .nil),q1⟩
theorem YO {o o':Obj} {H':Hp} {b:Addr} (f:Dq X ((D,o)::rest) H b) (n:H' b=none):Dq X ((D,o')::rest) H' b:=by
 obtain ⟨_,f1,f2,f3,f4,f5⟩:=f
 refine ⟨n,f1,f2,f3,f4,fun p hp=>?_⟩
 rcases qaP.mp hp with z |z
 ·exact f5 p (GG _ z)
 ·rcases qa5.mp z with rfl |z
  ·exact f5 (D,o) (BC _ A0)
  ·exact f5 p (BC _ (A5 _ z))
def RZ (wi:TI) (g:TG) (tc:TT) (te:L2.St→Hp→List V→(List V→Hp→Prop)→Prop):L2.St→Hp→List V→(List V→Hp→Prop)→Prop:=fun σ H acc Q=>wi σ H fun J H1=>∃W:Nat→Nat→List V→Hp→Prop,(∃n,W 0 n acc H1)∧∀i n acc H,W i n acc H→
 (J.stop i H∧Q acc H)∨
 (J.go i H∧∀x H',J.yld i H x H'→g x σ H' fun σ2 H2=>Sub σ σ2∧tc σ2 H2 fun b H3=>if b=true then te σ2 H3 acc fun acc' H4=>∃n',n' < n∧W (i+1) n' acc' H4 else ∃n',n' < n∧W (i+1) n' acc H3)
inductive N2 (X:Cx) (D:Addr) (rest:List (Addr×Obj)) (σ:L2.St) (W:Nat→Nat→List V→Hp→Prop) (tn:Nat→Heap→Prop) (fp:List Addr) (n:Nat) (s':Shared):Prop where
 |mk (i:Nat) (acc:List V) (H':Hp) (its:List Value) (k:Nat) (w:W i n acc H') (ii:Inv X ((D,CU its k)::rest) σ H' s') (st:tn i s'.heap) (fr:∀b∈fp,H' b=none) (rv:Vals acc its):N2 X D rest σ W tn fp n s'
theorem R0 {elt tg iter:Expr} {gens:List Comprehension} {ifs:List Expr} {scope:Scope} {pos:Pos} {d:Nat} {g:TG} {tc:TT} {te:L2.St→Hp→List V→(List V→Hp→Prop)→Prop} {R:Result→Shared→Prop} {it:Addr} {fp:List Addr} {tn:Nat→Heap→Prop} {J:It} {W:Nat→Nat→List V→Hp→Prop} {QQ:List V→Hp→Prop}
 (xe:X.xe=fun _ _=>False) (xc:X.calm=true) (hg:gens[d]?=some ⟨tg,iter,ifs,0⟩) (ha:∀g,gens[d+1]?=some g→g.is_async=0) (pg:PG X tg g) (pt:Gm X ifs tc) (em:EM X D (Dj elt gens scope pos d (.ref D) X.env) te)
 (T:F9 X.prog X.w X.K tg J fp it tn) (f:∀b∈fp,∀o H',H' b=none→Dq X ((D,o)::rest) H' b) (hr:∀p∈rest,p.1≠D)
 (turn:∀i n acc H,W i n acc H→(J.stop i H∧QQ acc H)∨
  (J.go i H∧∀x H',J.yld i H x H'→g x σ H' fun σ2 H2=>Sub σ σ2∧tc σ2 H2 fun b H3=>if b=true then te σ2 H3 acc fun acc' H4=>∃n',n' < n∧W (i+1) n' acc' H4 else ∃n',n' < n∧W (i+1) n' acc H3))
 (fin:∀its k acc H' s',Inv X ((D,CU its k)::rest) σ H' s'→Vals acc its→QQ acc H'→R (.ok .next) s') (n:Nat) (h:N2 X D rest σ W tn fp n s):
 codeAny (model X.prog X.w) X.A (.compLoop (.ListComp elt gens scope pos) d (.ref it) (.ref D) X.env) R s:=by
 refine YM hg ha (N2 X D rest σ W tn fp) ?_ n h
 rintro n s5 ⟨i,acc,H5,its,k,w5,I5,E8,fr5,rv5⟩
 have fk:∀{H':Hp},(∀b∈fp,H' b=none)→∀b∈fp,Dq X ((D,CU its k)::rest) H' b:=fun hn b hb=>f b hb _ _ (hn b hb)
 rcases turn i n acc H5 w5 with ⟨stop,qn⟩ |⟨go,step⟩
 ·refine wpAny_mono (T.done X rfl rfl rfl xc i _ s5 σ H5 (fun _ _=>False) I5 (fk fr5) E8 stop) (fun r s6 z=>?_) fun _ _ z=>z
  obtain ⟨rfl,I6⟩:=z
  exact fin its k acc H5 s6 I6 rv5 qn
 ·refine wpAny_mono (T.item X rfl rfl rfl xc i _ s5 σ H5 (fun _ _=>False) I5 (fk fr5) E8 go) (fun r s6 z=>?_) fun _ _ z=>z
  obtain ⟨u,rfl,h6⟩:=z
  refine wpAny_mono h6 (fun _ s7 z=>?_) fun _ _ z=>z
  obtain ⟨x,H7,I7,r7,y7,FZ,fr7⟩:=z
  have I7':Inv X ((D,CU its k)::(rest++Ga fp s7.heap)) σ H7 s7:=I7.pinned (fp:=fp) (fk fr7) (T.obj _ _ FZ)
  have hr':∀p∈rest++Ga fp s7.heap,p.1≠D:=fun p hp=>by
   rcases qaP.mp hp with z |z
   ·exact hr p z
   ·obtain ⟨hb,_⟩:=Pj z
    exact Ne.symm ((f p.1 hb (CU its k) H7 (fr7 p.1 hb)).2.2.2.2.2 (D,CU its k) (BC _ A0))
  have z2:=pg _ s7 σ H7 x u _ I7' r7 (step x H7 y7)
  rw [xe] at z2
  refine wpAny_mono z2 (fun _ s8 z=>?_) fun _ _ z=>z
  obtain ⟨σ8,H8,I8,sub8,q8⟩:=z
  have z3:=pt _ s8 σ8 H8 _ I8 q8
  rw [xe] at z3
  refine wpAny_mono z3 (fun ok s9 z=>?_) fun _ _ z=>z
  obtain ⟨H9,I9,q9⟩:=z
  have back:∀{sy:Shared} {Hy:Hp} {its':List Value} {k':Nat},Inv X ((D,CU its' k')::(rest++Ga fp s7.heap)) σ8 Hy sy→
   Inv X ((D,CU its' k')::rest) σ Hy sy∧tn (i+1) sy.heap∧∀b∈fp,Hy b=none:=fun {sy Hy its' k'} Iy=>by
   have at_:∀b∈fp,∀o,s7.heap.get? b=some o→sy.heap.get? b=some o∧Hy b=none:=fun b hb o e=>by
    obtain ⟨z1,z2,_⟩:=Iy.pin (b,o) (BC _ (A5 _ (BC _ (Jj hb e))))
    exact ⟨z1,z2⟩
   refine ⟨(Iy.pins_of fun p hp=>Iy.pin p (BC _ ?_)).weak sub8.1 fun j v z=>sub8.2 j v z,T.keep _ _ _ FZ fun b hb o e=>(at_ b hb o e).1,fun b hb=>?_⟩
   ·rcases qa5.mp hp with rfl |z
    ·exact A0
    ·exact A5 _ (GG _ z)
   ·obtain ⟨o,e,_⟩:=T.obj _ _ FZ b hb
    exact (at_ b hb o e).2
  cases ok with
  |false=>
   simp only [Dx,if_false] at q9 ⊢
   obtain ⟨n',hn',w'⟩:=q9
   obtain ⟨a1,a2,a3⟩:=back I9
   exact ⟨n',hn',i+1,acc,H9,its,k,w',a1,a2,a3,rv5⟩
  |true=>
   simp only [if_true] at q9 ⊢
   refine wpAny_mono (em _ its k acc σ8 H9 s9 _ I9 hr' rv5 q9) (fun _ s10 z=>?_) fun _ _ z=>z
   obtain ⟨its',k',acc',H10,I10,rv10,n',hn',w'⟩:=z
   obtain ⟨a1,a2,a3⟩:=back I10
   exact ⟨n',hn',i+1,acc',H10,its',k',w',a1,a2,a3,rv10⟩
theorem YQ {elt tg iter:Expr} {gens:List Comprehension} {ifs:List Expr} {scope:Scope} {pos:Pos} {d:Nat} {wi:TI} {g:TG} {tc:TT} {te:L2.St→Hp→List V→(List V→Hp→Prop)→Prop}
 (xe:X.xe=fun _ _=>False) (xc:X.calm=true) (hg:gens[d+1]?=some ⟨tg,iter,ifs,0⟩) (ha:∀g,gens[d+1+1]?=some g→g.is_async=0) (hi:PI X tg iter wi) (pg:PG X tg g) (pt:Gm X ifs tc) (em:EM X D (Dj elt gens scope pos (d+1) (.ref D) X.env) te)
 (hsf:∀x,foldedSetIterable iter X.env x=pure x):EM X D (Dj elt gens scope pos d (.ref D) X.env) (RZ wi g tc te):=by
 rintro rest its k acc σ H s Q I hr rv h
 unfold Dj
 rw [hg]
 have z:=hi _ s σ H _ I h
 rw [xe] at z
 refine wpAny_bind (wpAny_mono z (fun xv s1 h1=>?_) fun _ _ z=>z)
 refine wpAny_bind (wpAny_standAt (wpAny_bind (wpAny_of_eq (hsf xv) ?_)))
 refine wpAny_bind (wpAny_holding (wpAny_mono h1 (fun itv s2 h2=>?_) fun _ _ z=>z))
 obtain ⟨it,fp,tn,J,H2,e,I2,T,Cr,f2,W,⟨n0,w0⟩,turn⟩:=h2
 subst e
 refine wpAny_bind (wpAny_runOwn ?_)
 rw [Around.mark_none]
 have loop:=R0 (R:=fun r s'=>match r with |.ok f=>wpAny (model X.prog X.w) X.A (pure ()) (fun _ s'=>∃its' k' acc' H',Inv X ((D,CU its' k')::rest) σ H' s'∧Vals acc' its'∧Q acc' H') (fun _ _=>False) s' |.error e=>cameBackBy (model X.prog X.w) X.A X.env (fun _ _=>False) e s')
  xe xc hg ha pg pt em T (fun b hb o H' hn=>YO (f2 b hb) hn) hr turn (fun its' k' acc' H' s' I' rv' q'=>wpAny_pure ⟨its',k',acc',H',I',rv',q'⟩) n0 ⟨0,acc,H2,its,k,w0,I2,Cr,fun b hb=>(f2 b hb).1,rv⟩
 exact RX hg loop (T.self X.A 0 s2 _ _ Cr loop)
end
def LJ (cs:List (Option Nat)) (wi:TI) (g:TG) (tc:TT) (te:L2.St→Hp→List V→(List V→Hp→Prop)→Prop):TE:=fun σ H Q=>wi σ H fun J H1=>∃W:Nat→Nat→List V→Hp→Prop,(∃n,W 0 n [] H1)∧∀i n acc H,W i n acc H→
 (J.stop i H∧acc.length≤sizeLine∧∀p,H p=none→Q (.ref p) (Am H p (.lst acc)))∨
 (J.go i H∧∀x H',J.yld i H x H'→g x (BE cs σ) H' fun σ2 H2=>Sub (BE cs σ) σ2∧tc σ2 H2 fun b H3=>if b=true then te σ2 H3 acc fun acc' H4=>∃n',n' < n∧W (i+1) n' acc' H4 else ∃n',n' < n∧W (i+1) n' acc H3)
section
variable {X:Cx} {elt tg iter:Expr} {ifs:List Expr} {gs:List Comprehension} {scope:Scope} {pos:Pos} {Nc:List Str} {cs:List (Option Nat)} {wi:TI} {g:TG} {tc:TT} {te:L2.St→Hp→List V→(List V→Hp→Prop)→Prop}
theorem R1 {use:Option (Value→Sem Unit)} {QQ:Value→Shared→Prop} {ppos:Pos} {pins:List (Addr×Obj)} {s:Shared} {σ:L2.St} {H:Hp} {Q:VK} (hcalm:X.calm=true) (S:Fp X scope Nc cs) (hi:PI X tg iter wi) (ha:∀g,gs[0]?=some g→g.is_async=0)
 (hb:∀(C D:Addr) (cells:List (Str×Addr)) (fp:List Addr) (s₀:Shared) (H₀:Hp) (pins:List (Addr×Obj)),Gy (A3 X Nc scope C D cells fp s₀ H₀ pins) D→PG (A3 X Nc scope C D cells fp s₀ H₀ pins) tg g∧Gm (A3 X Nc scope C D cells fp s₀ H₀ pins) ifs tc∧
  EM (A3 X Nc scope C D cells fp s₀ H₀ pins) D (Dj elt (⟨tg,iter,ifs,0⟩::gs) scope pos 0 (.ref D) (A3 X Nc scope C D cells fp s₀ H₀ pins).env) te)
 (hsf:∀x,foldedSetIterable iter X.env x=pure x) (I:Inv X pins σ H s) (h:LJ cs wi g tc te σ H Q)
 (fin:∀(s6:Shared) (C D:Addr) (H7:Hp) (m6:Str→Option Value),s6.heap.Ns C m6→H7 C=none→X.s₀.heap.objs.size≤C→C≠X.env.locals→(∀x c,X.env.cells.lookup x=some c→c≠C)→(∀p∈X.pn++pins,p.1≠C)→
  (∀h',Heap.SameBut C s6.heap h'→Inv X pins σ H7 {s6 with heap:=h'})→Q (.ref D) H7→compPost (model X.prog X.w) X.A X.xe use QQ (.ref D) C (.ok .next) s6):
 wpAny (model X.prog X.w) X.A (comprehension (.ListComp elt (⟨tg,iter,ifs,0⟩::gs) scope pos) scope X.env ppos (newList []) false (eval iter X.env) use) QQ X.xe s:=by
 obtain ⟨cl,hclos,hcl,hcl2⟩:=Nf (scope:=scope) (env:=X.env) fun y hy hf=>I.ok.has y.1 (S.free y hy hf)
 refine wpAny_comprehension_free (use:=use) rfl hsf hclos S.kind S.loc (Az (hi pins s σ H _ I h) fun xv s1 h1=>Az h1 fun itv s2 h2=>?_)
 obtain ⟨it,fp,tn,J,H2,e,I2,T,Cr,f2,W,⟨n0,w0⟩,turn⟩:=h2
 subst e
 refine wpAny_newObj_type ?_
 generalize e3:({s2 with heap:=s2.heap.push {cls:=.type "list",data:=.seq ([]:List Value).toArray}}:Shared)=s3
 refine Ql ?_
 have ob2:∀b∈fp,∃o,s2.heap.get? b=some o:=fun b hb=>let ⟨o,e,_⟩:=T.obj _ _ Cr b hb;⟨o,e⟩
 have I4:=Qo (fp:=fp) (cl:=cl) S I2 f2 ob2 hcl hcl2 e3.symm
 generalize e4:({s3 with heap:=pushCells (s3.heap.push {cls:=.type "dict",data:=.dict #[]}) scope.names}:Shared)=s4 at I4
 generalize ecl:cellsFrom (s3.heap.objs.size+1) scope.names cl=cells at I4
 have okc:=I4.ok
 have k3:∀b o,s2.heap.get? b=some o→s3.heap.get? b=some o:=fun b o e=>by subst e3;exact AF _ e
 have JE:s3.heap.objs.size=s2.heap.objs.size+1:=by subst e3;exact CJ ..
 have k34:∀b o,s3.heap.get? b=some o→s4.heap.get? b=some o:=fun b o e=>by subst e4;exact pushCells_keeps _ _ b o (AF _ e)
 have hDfp:s2.heap.objs.size∉fp:=fun hm=>by
  obtain ⟨o,e⟩:=ob2 _ hm
  exact absurd (AG e) (Dp _)
 have hDex:s2.heap.objs.size∈(A3 X Nc scope s3.heap.objs.size s2.heap.objs.size cells fp s3 H2 pins).ex:=A0
 have ao:Gy (A3 X Nc scope s3.heap.objs.size s2.heap.objs.size cells fp s3 H2 pins) s2.heap.objs.size:=
  ⟨show s2.heap.objs.size≠s3.heap.objs.size from BK (by omega),fun x c e=>(okc.exf _ hDex).2 x c e,fun p hp=>BK (AG (I2.pin p hp).1),hDex,okc.exfs _ hDex⟩
 obtain ⟨pg,pt,em⟩:=hb s3.heap.objs.size s2.heap.objs.size cells fp s3 H2 pins ao
 have hD4:s4.heap.get? s2.heap.objs.size=some (CU [] 0):=by
  refine k34 _ _ ?_
  subst e3
  exact By _ rfl
 have fC:∀b∈fp,∀(o:Obj) (H':Hp),H' b=none→Dq (A3 X Nc scope s3.heap.objs.size s2.heap.objs.size cells fp s3 H2 pins) ((s2.heap.objs.size,o)::[]) H' b:=fun b hb o H' hn=>by
  have hbx:b∈(A3 X Nc scope s3.heap.objs.size s2.heap.objs.size cells fp s3 H2 pins).ex:=A5 _ hb
  refine ⟨hn,(okc.exf b hbx).1,okc.exfs b hbx,.inl hbx,(okc.exf b hbx).2,fun p hpp=>?_⟩
  rcases qaP.mp hpp with z |z
  ·exact (f2 b hb).2.2.2.2.2 p z
  ·rw [qaF] at z
   subst z
   intro e
   exact hDfp ((show s2.heap.objs.size=b from e) ▸ hb)
 have I4':Inv (A3 X Nc scope s3.heap.objs.size s2.heap.objs.size cells fp s3 H2 pins) ((s2.heap.objs.size,CU [] 0)::[]) (BE cs σ) H2 s4:=I4.pins_of fun p hp=>by
  rw [qaF] at hp
  subst hp
  exact ⟨hD4,I2.hok.fresh (AO _),ao.lo,ao.fs,fun v z=>by cases z⟩
 have Mx:tn 0 s4.heap:=T.keep _ _ _ Cr fun b hb o e=>k34 b o (k3 b o e)
 have loop:=R0 (X:=A3 X Nc scope s3.heap.objs.size s2.heap.objs.size cells fp s3 H2 pins) (QQ:=fun acc H5=>acc.length≤sizeLine∧∀p,H5 p=none→Q (.ref p) (Am H5 p (.lst acc)))
  (R:=compPost (model X.prog X.w) X.A X.xe use QQ (.ref s2.heap.objs.size) s3.heap.objs.size) rfl hcalm (d:=0) (gens:=⟨tg,iter,ifs,0⟩::gs) rfl ha pg pt em T fC (fun p hp=>(nomatch hp)) turn (fun its k acc H5 s6 I6 rv5 qn=>?_) n0
   ⟨0,[],H2,[],0,w0,I4',Mx,fun b hb=>(f2 b hb).1,.nil⟩
 ·exact RX (d:=0) rfl loop (T.self X.A 0 s4 _ _ Mx loop)
 ·obtain ⟨m6,hn6,_⟩:=I6.loc
  obtain ⟨ho6,hD6,_⟩:=I6.pin _ (BC _ A0)
  have lt2:∀b,b<s2.heap.objs.size→b≠s3.heap.objs.size:=fun b hb=>BK (Bb hb (by omega))
  refine fin s6 s3.heap.objs.size s2.heap.objs.size (Am H5 s2.heap.objs.size (.lst acc)) m6 hn6 ?_ (BS I2.sz (by omega)) ?_ ?_ ?_ ?_ (qn.2 _ hD6)
  ·rw [Ao (FM (by omega))]
   exact I6.free
  ·obtain ⟨m2,hn2,_⟩:=I2.loc
   exact Ne.symm (lt2 _ hn2.lt)
  ·intro x c hx
   obtain ⟨v,hv⟩:=I2.cell x c hx
   obtain ⟨o,ho,_⟩:=hv
   exact lt2 _ (AG ho)
  ·intro p hp
   exact lt2 _ (AG (I2.pin p hp).1)
  ·intro h' sb
   exact Qp I2 f2 e3.symm rfl I6 hD6 qn.1 rv5 ho6 sb
theorem YR (hcalm:X.calm=true) (S:Fp X scope Nc cs) (hi:PI X tg iter wi) (ha:∀g,gs[0]?=some g→g.is_async=0)
 (hb:∀(C D:Addr) (cells:List (Str×Addr)) (fp:List Addr) (s₀:Shared) (H₀:Hp) (pins:List (Addr×Obj)),Gy (A3 X Nc scope C D cells fp s₀ H₀ pins) D→PG (A3 X Nc scope C D cells fp s₀ H₀ pins) tg g∧Gm (A3 X Nc scope C D cells fp s₀ H₀ pins) ifs tc∧
  EM (A3 X Nc scope C D cells fp s₀ H₀ pins) D (Dj elt (⟨tg,iter,ifs,0⟩::gs) scope pos 0 (.ref D) (A3 X Nc scope C D cells fp s₀ H₀ pins).env) te)
 (hsf:∀x,foldedSetIterable iter X.env x=pure x:=by intro _;rfl):PE X (.ListComp elt (⟨tg,iter,ifs,0⟩::gs) scope pos) (LJ cs wi g tc te):=by
 intro pins s σ H Q I h
 rw [eval_ListComp]
 exact R1 (use:=none) hcalm S hi ha hb hsf I h fun s6 C D H7 m6 hn _ _ _ _ _ inv q=>⟨m6,hn,fun h' sb=>⟨.ref D,H7,inv h' sb,rfl,q⟩⟩
end
abbrev Du:=Ai→HD→List D→Out (List D)
abbrev R3:=L2.St→Hp→List V→(List V→Hp→Prop)→Prop
def Frs (js:List Nat) (σ:L2.St):Prop:=∀j∈js,σ[j]?=some none
def Gz (K:PySem.W.Frag) (is js:List Nat) (gg:TG) (sg:MG):Prop:=
 ∀m H d v ρ σ ρ' Q,DV K m H d v→ER K m H ρ σ→Frs (is++js) σ→sg d ρ=some ρ'→(∀σ',Sub σ σ'→Frs js σ'→ER K m H ρ' σ'→Q σ' H)→gg v σ H Q
theorem N3 {σ σ':L2.St} {i:Nat} {v:V} (h:σ[i]?=some none) (s:Sub σ σ'):Sub σ (σ'.set i (some v)):=by
 refine ⟨by rw [s.1];simp,fun j w e=>?_⟩
 have hj:i≠j:=by
  rintro rfl
  rw [h] at e
  cases e
 rw [BW hj]
 exact s.2 j w e
theorem Frs.set {js:List Nat} {σ:L2.St} {i:Nat} {v:Option V} (h:Frs js σ) (n:i∉js):Frs js (σ.set i v):=fun j hj=>by
 have hn:i≠j:=by
  rintro rfl
  exact n hj
 rw [BW hn]
 exact h j hj
theorem R4 {K:PySem.W.Frag} {i:Nat} {js:List Nat} (n:i∉js):Gz K [i] js (Cj i) (A7 i):=fun m H d v ρ σ ρ' Q r er f e q=>by
 simp only [A7,Option.some.injEq] at e
 subst e
 exact q _ (N3 (f i A0) (.refl _)) (Frs.set (fun j hj=>f j (A5 _ hj)) n) (er.set r)
theorem R5 {K:PySem.W.Frag} {i j:Nat} {js:List Nat} (n:i∉js) (n':j∉js):Gz K [i,j] js (FK K 2 (Dy (Cj i) (Dy (Cj j) F8))) (De i j):=fun m H d v ρ σ ρ' Q r er f e q=>by
 unfold De at e
 split at e
 ·rename_i a b
  cases e
  simp only [DV,DVs] at r
  obtain ⟨p,vs,rfl,hp,v1,w1,rfl,r1,v2,w2,rfl,r2,rfl⟩:=r
  refine ⟨p,_,rfl,SqT.of hp,rfl,v1,_,rfl,v2,_,rfl,rfl,q _ (N3 (f j (by simp)) (N3 (f i (by simp)) (.refl _))) (Frs.set (Frs.set (fun k hk=>f k (by simp [hk])) n) n') ((er.set r1).set r2)⟩
 ·cases e
noncomputable def FS (f:ME):Du:=fun ρ h acc=>if acc.length<sizeLine then (noErr (f ρ h)).bind fun y h2=>.ok (acc++[y]) h2 else .stuck
open Classical in
noncomputable def Ej (src:Bi) (items:List D) (sg:MG) (t:MT) (e:Du) (ρ:Ai):List D→HD→List D→Out (List D)
 |[],h,acc=>if BN src items h then .ok acc h else .stuck
 |d::ds,h,acc=>if BN src items h then match sg d ρ with
   |none=>.stuck
   |some ρ1=>(noErr (t ρ1 h)).bind fun b h1=>if b=true then (noErr (e ρ1 h1 acc)).bind fun acc2 h2=>Ej src items sg t e ρ ds h2 acc2 else Ej src items sg t e ρ ds h1 acc
  else .stuck
noncomputable def GA (it:MI) (sg:MG) (t:MT) (e:Du):Du:=fun ρ h acc=>(noErr (it ρ h)).bind fun x h1=>Ej x.2 x.1 sg t e ρ x.1 h1 acc
noncomputable def EN (cs:List (Option Nat)) (it:MI) (sg:MG) (t:MT) (e:Du):ME:=fun ρ h=>(it ρ h).bind fun x h1=>(Ej x.2 x.1 sg t e (Cz cs ρ) x.1 h1 []).bind CL
def Ek (K:PySem.W.Frag) (js:List Nat) (e:Du):R3:=fun σ H acc Q=>∃m ρ h dacc,HR K m h H∧ER K m H ρ σ∧DVs K m H dacc acc∧Frs js σ∧Post K (Ec K) m H E0 Q (e ρ h dacc)
theorem EM.imp {X:Cx} {D:Addr} {em:Sem Unit} {te te':R3} (h:EM X D em te) (f:∀σ H acc Q,te' σ H acc Q→te σ H acc Q):EM X D em te':=
 fun rest its k acc σ H s Q I hr rv z=>h rest its k acc σ H s Q I hr rv (f _ _ _ _ z)
theorem YS {K:PySem.W.Frag} {js:List Nat} {f:ME} (σ:L2.St) (H:Hp) (acc:List V) (Q:List V→Hp→Prop):Ek K js (FS f) σ H acc Q→RY (tD K E0 f) σ H acc Q:=by
 rintro ⟨m,ρ,h,dacc,hr,er,da,_,p⟩
 unfold FS at p
 split at p
 ·rename_i hz
  refine ⟨by rw [←DVs.len da];exact hz,m,ρ,h,hr,er,Ip p fun y h1 v m1 H1 _ p1 k1 hr1 r1 q1=>?_⟩
  exact q1 _ m1 H1 (AJ _) (.refl _) hr1 ((DVs.keep p1 k1 da).app (.cons r1 .nil))
 ·exact p.elim
inductive R6 {β:Type} (K:PySem.W.Frag) (E:XK) (α:Type) (R:List Addr→Hp→α→β→Prop) (Q:β→Hp→Prop) (kk:List D→HD→Out α) (src:Bi) (items:List D) (sg:MG) (t:MT) (e:Du) (ρ:Ai) (m1:List Addr) (H1:Hp) (i n:Nat) (acc:List V) (H2:Hp):Prop where
 |mk (en:n=items.length - i) (l:i≤items.length) (m2:List Addr) (h2:HD) (dacc:List D) (p:m1 <+:m2) (k:Kp H1 H2) (hr:HR K m2 h2 H2) (da:DVs K m2 H2 dacc acc) (q:Post K R m2 H2 E Q ((Ej src items sg t e ρ (items.drop i) h2 dacc).bind kk)):R6 K E α R Q kk src items sg t e ρ m1 H1 i n acc H2
theorem R7 {K:PySem.W.Frag} {E:XK} {α β:Type} {R:List Addr→Hp→α→β→Prop} {Q:β→Hp→Prop} {kk:List D→HD→Out α} {is js:List Nat} {gg:TG} {sg:MG} {t:MT} {e:Du} {src:Bi} {items:List D} {J:It} {ρ:Ai} {σ:L2.St} {m1:List Addr} {h1:HD} {H1:Hp} {dacc:List D} {acc:List V} {QQ:List V→Hp→Prop}
 (hg:Gz K is js gg sg) (fr:Frs (is++js) σ) (er:ER K m1 H1 ρ σ) (r1:Gj K m1 H1 (items,src) J) (hr1:HR K m1 h1 H1) (da:DVs K m1 H1 dacc acc) (q:Post K R m1 H1 E Q ((Ej src items sg t e ρ items h1 dacc).bind kk))
 (fin:∀m h H dacc acc,m1 <+:m→Kp H1 H→HR K m h H→DVs K m H dacc acc→Post K R m H E Q (kk dacc h)→QQ acc H):
 ∃W:Nat→Nat→List V→Hp→Prop,(∃n,W 0 n acc H1)∧∀i n acc H,W i n acc H→(J.stop i H∧QQ acc H)∨
  (J.go i H∧∀x H',J.yld i H x H'→gg x σ H' fun σ2 H2=>Sub σ σ2∧Ey K E0 t σ2 H2 fun b H3=>if b=true then Ek K js e σ2 H3 acc fun acc' H4=>∃n',n' < n∧W (i+1) n' acc' H4 else ∃n',n' < n∧W (i+1) n' acc H3):=by
 refine ⟨R6 K E α R Q kk src items sg t e ρ m1 H1,⟨items.length,rfl,BU _,m1,h1,dacc,AJ _,.refl _,hr1,da,q⟩,?_⟩
 rintro i n acc H2 ⟨rfl,hi',m2,h2,dacc,p2,k2,hr2,da,q2⟩
 by_cases hlt:i<items.length
 ·rw [Kd hlt] at q2
  unfold Ej at q2
  split at q2
  ·rename_i hs
   obtain ⟨hgo,hy⟩:=(r1 i m2 h2 H2 p2 k2 hr2 hs).1 hlt
   refine .inr ⟨hgo,fun y H3 hyl=>?_⟩
   obtain ⟨k3,hr3,d,ed,rd⟩:=hy y H3 hyl
   have ed':d=items[i]:=by rw [A6 hlt] at ed;exact (Option.some.inj ed).symm
   subst ed'
   split at q2
   ·exact q2.elim
   ·rename_i ρ3 es
    refine hg m2 H3 _ y ρ σ ρ3 _ rd (er.keep p2 (k2.trans k3)) fr es fun σ4 sub4 fr4 er4=>⟨sub4,m2,ρ3,h2,hr3,er4,?_⟩
    rw [Out.bind_assoc] at q2
    refine Ip (Post.ahead (AJ _) k3 q2) fun b h5 v m5 H5 _ p5 k5 hr5 r5 q5=>?_
    cases r5
    cases b with
    |false=>
     simp only [Dx,if_false] at q5 ⊢
     exact ⟨items.length - (i+1),by omega,rfl,hlt,m5,h5,dacc,p2.trans p5,(k2.trans k3).trans k5,hr5,DVs.keep p5 (k3.trans k5) da,q5⟩
    |true=>
     simp only [if_true] at q5 ⊢
     rw [Out.bind_assoc] at q5
     refine ⟨m5,ρ3,h5,dacc,hr5,er4.keep p5 k5,DVs.keep p5 (k3.trans k5) da,fr4,Ip q5 fun z h6 w m6 H6 _ p6 k6 hr6 r6 q6=>?_⟩
     exact ⟨items.length - (i+1),by omega,rfl,hlt,m6,h6,z,(p2.trans p5).trans p6,((k2.trans k3).trans k5).trans k6,hr6,r6,q6⟩
  ·exact q2.elim
 ·have he:i=items.length:=Nat.le_antisymm hi' (HU hlt)
  subst he
  rw [List.drop_length] at q2
  unfold Ej at q2
  split at q2
  ·rename_i hs
   exact .inl ⟨(r1 _ m2 h2 H2 p2 k2 hr2 hs).2 rfl,fin m2 h2 H2 dacc acc p2 k2 hr2 da q2⟩
  ·exact q2.elim
theorem YT {K:PySem.W.Frag} {is js:List Nat} {it:MI} {gg:TG} {sg:MG} {t:MT} {e:Du} (hg:Gz K is js gg sg) (σ:L2.St) (H:Hp) (acc:List V) (Q:List V→Hp→Prop):Ek K (is++js) (GA it sg t e) σ H acc Q→RZ (tM K (Gj K) E0 it) gg (Ey K E0 t) (Ek K js e) σ H acc Q:=by
 rintro ⟨m,ρ,h,dacc,hr,er,da,fr,p⟩
 unfold GA at p
 refine ⟨m,ρ,h,hr,er,Ip p fun x h1 J m1 H1 _ p1 k1 hr1 r1 q1=>?_⟩
 refine R7 (E:=E0) (kk:=fun a h=>.ok a h) hg fr (er.keep p1 k1) r1 hr1 (DVs.keep p1 k1 da) ?_ fun m2 h2 H2 dacc2 acc2 p2 k2 hr2 da2 q2=>q2 _ m2 H2 (AJ _) (.refl _) hr2 da2
 have:∀o:Out (List D),(o.bind fun a h=>.ok a h)=o:=fun o=>by cases o<;>rfl
 rw [this]
 exact q1
section
variable {X:Cx} {E:XK} {D:Addr} {elt tg iter:Expr} {ifs:List Expr} {gs gens:List Comprehension} {scope:Scope} {pos:Pos} {Nc:List Str} {cs:List (Option Nat)} {it:MI} {gg:TG} {sg:MG} {t:MT} {f:ME} {e:Du} {d:Nat} {is js:List Nat}
theorem R8 (ao:Gy X D) (xe:X.xe=fun _ _=>False) (hl:gens[d+1]?=none) (pe:Ev X E0 elt f):EM X D (Dj elt gens scope pos d (.ref D) X.env) (Ek X.K js (FS f)):=(YN ao xe hl pe).imp YS
theorem R9 (xe:X.xe=fun _ _=>False) (xc:X.calm=true) (hg:gens[d+1]?=some ⟨tg,iter,ifs,0⟩) (ha:∀g,gens[d+1+1]?=some g→g.is_async=0) (hi:ED X E0 tg iter it) (pg:PG X tg gg) (gk:Gz X.K is js gg sg) (pt:Ir X E0 ifs t) (em:EM X D (Dj elt gens scope pos (d+1) (.ref D) X.env) (Ek X.K js e))
 (hsf:∀x,foldedSetIterable iter X.env x=pure x:=by intro _;rfl):EM X D (Dj elt gens scope pos d (.ref D) X.env) (Ek X.K (is++js) (GA it sg t e)):=(YQ xe xc hg ha hi pg pt em hsf).imp (YT gk)
theorem Sa (hc:∀j∈is++js,cs[j]?=some none) (hg:Gz X.K is js gg sg):∀σ H Q,tD X.K E (EN cs it sg t e) σ H Q→LJ cs (tM X.K (Gj X.K) E it) gg (Ey X.K E0 t) (Ek X.K js e) σ H Q:=by
 rintro σ H Q ⟨m,ρ,h,hr,er,p⟩
 refine ⟨m,ρ,h,hr,er,Post.bind p fun x h1 J m1 H1 _ p1 k1 hr1 r1 q1=>?_⟩
 exact R7 (QQ:=fun acc H=>acc.length≤sizeLine∧∀p,H p=none→Q (.ref p) (Am H p (.lst acc))) hg (fun j hj=>by unfold BE;rw [Ca,hc j hj];rfl) ((er.keep p1 k1).comp cs) r1 hr1 .nil q1 fun m2 h2 H2 dacc2 acc2 p2 k2 hr2 da2 q2=>Ik (X:=X) hr2 da2 q2
theorem YU (hcalm:X.calm=true) (S:Fp X scope Nc cs) (hi:ED X E tg iter it) (ha:∀g,gs[0]?=some g→g.is_async=0) (hc:∀j∈is++js,cs[j]?=some none) (hg:Gz X.K is js gg sg)
 (hb:∀(C D:Addr) (cells:List (Str×Addr)) (fp:List Addr) (s₀:Shared) (H₀:Hp) (pins:List (Addr×Obj)),Gy (A3 X Nc scope C D cells fp s₀ H₀ pins) D→PG (A3 X Nc scope C D cells fp s₀ H₀ pins) tg gg∧Ir (A3 X Nc scope C D cells fp s₀ H₀ pins) E0 ifs t∧
  EM (A3 X Nc scope C D cells fp s₀ H₀ pins) D (Dj elt (⟨tg,iter,ifs,0⟩::gs) scope pos 0 (.ref D) (A3 X Nc scope C D cells fp s₀ H₀ pins).env) (Ek X.K js e))
 (hsf:∀x,foldedSetIterable iter X.env x=pure x:=by intro _;rfl):Ev X E (.ListComp elt (⟨tg,iter,ifs,0⟩::gs) scope pos) (EN cs it sg t e):=
 Ck (YR (g:=gg) (tc:=Ey X.K E0 t) (te:=Ek X.K js e) hcalm S hi ha hb hsf) (Sa hc hg)
end
theorem N4 {α:Type} {src:Bi} {items:List D} {sg:MG} {t:MT} {e:Du} {ρ:Ai} (φ:α→D) (g:α→Bool) (es:α→List D) (ρ1:α→Ai):
 ∀(xs:List α) (h:HD) (acc:List D),(∀h',Sm h h'→BN src items h')→(∀x∈xs,sg (φ x) ρ=some (ρ1 x))→(∀x∈xs,∀h',Sm h h'→Pu (t (ρ1 x) h') h' (g x))→(∀x∈xs,g x=true→∀h' acc,Sm h h'→acc.length+(es x).length≤sizeLine→Pu (e (ρ1 x) h' acc) h' (acc++es x))→
  acc.length+((xs.filter g).flatMap es).length≤sizeLine→Pu (Ej src items sg t e ρ (xs.map φ) h acc) h (acc++(xs.filter g).flatMap es)
 |[],h,acc,hs,_,_,_,_=>by
  simp only [HW,List.filter_nil,Ej]
  rw [if_pos (hs h (.refl _))]
  simpa using (.ok:Pu (.ok acc h) h acc)
 |x::xs,h,acc,hs,hg,ht,hf,hz=>by
  simp only [Cs,Ej]
  rw [if_pos (hs h (.refl _)),hg x A0]
  simp only
  refine Pu.bind (ht x A0 h (.refl _)).noErr fun h1 s1=>?_
  have ih:∀h2 acc,Sm h h2→acc.length+((xs.filter g).flatMap es).length≤sizeLine→Pu (Ej src items sg t e ρ (xs.map φ) h2 acc) h2 (acc++(xs.filter g).flatMap es):=fun h2 acc s2 z2=>N4 φ g es ρ1 xs h2 acc (fun h' s'=>hs h' (s2.trans s'))
   (fun y hy=>hg y (A5 _ hy)) (fun y hy h' s'=>ht y (A5 _ hy) h' (s2.trans s')) (fun y hy gy h' a s' z'=>hf y (A5 _ hy) gy h' a (s2.trans s') z') z2
  cases hgx:g x with
  |false=>
   rw [MB (by simp [hgx])] at hz ⊢
   rw [if_neg BH]
   exact ih h1 acc s1 hz
  |true=>
   rw [MC hgx,Kk] at hz ⊢
   rw [Dw] at hz
   rw [if_pos rfl]
   refine Pu.bind (hf x A0 hgx h1 acc s1 (by omega)).noErr fun h2 s2=>?_
   have:=ih h2 (acc++es x) (s1.trans s2) (by rw [Dw];omega)
   rwa [Kj] at this
theorem YV {f:ME} {ρ:Ai} {h:HD} {acc:List D} {y:D} (hf:Pu (f ρ h) h y) (hz:acc.length+1≤sizeLine):Pu (FS f ρ h acc) h (acc++[y]):=by
 unfold FS
 rw [if_pos (by omega)]
 exact Pu.bind hf.noErr fun h2 s2=>.ok
theorem N5 {α β:Type} {y:α→β}:∀{xs:List α},xs.flatMap (fun x=>[y x])=xs.map y
 |[]=>rfl
 |x::xs=>by rw [Kk,N5,Cs];rfl
section
variable {α β:Type} {cs:List (Option Nat)} {it:MI} {sg:MG} {t:MT} {f:ME} {e:Du} {ρ:Ai} {h:HD} {src:Bi} {xs:List α} {φ:α→D} {acc:List D}
theorem YW (g:α→Bool) (es:α→List D) (ρ1:α→Ai) (hi:CA (it ρ h) h (xs.map φ) src) (hg:∀x∈xs,sg (φ x) ρ=some (ρ1 x)) (ht:∀x∈xs,∀h',Sm h h'→Pu (t (ρ1 x) h') h' (g x)) (hf:∀x∈xs,g x=true→∀h' acc,Sm h h'→acc.length+(es x).length≤sizeLine→Pu (e (ρ1 x) h' acc) h' (acc++es x))
 (hz:acc.length+((xs.filter g).flatMap es).length≤sizeLine):Pu (GA it sg t e ρ h acc) h (acc++(xs.filter g).flatMap es):=by
 unfold GA Pu
 have:Wp (noErr (it ρ h)) fun x h'=>x=(xs.map φ,src)∧Sm h h'∧∀h2,Sm h' h2→BN src (xs.map φ) h2:=by
  unfold CA at hi
  cases eo:it ρ h with
  |ok a h1=>rw [eo] at hi;exact hi
  |err C fs h1=>rw [eo] at hi;exact hi
  |stuck=>rw [eo] at hi;exact hi
 rw [AD]
 refine Wp.mono this fun x h1 z=>?_
 obtain ⟨rfl,s1,hs⟩:=z
 exact (N4 φ g es ρ1 xs h1 acc hs hg (fun x hx h' s'=>ht x hx h' (s1.trans s')) (fun x hx gx h' a s' z'=>hf x hx gx h' a (s1.trans s') z') hz).wp fun h2 s2=>⟨rfl,s1.trans s2⟩
theorem Sb (y:α→D) (ρ1:α→Ai) (hi:CA (it ρ h) h (xs.map φ) src) (hg:∀x∈xs,sg (φ x) ρ=some (ρ1 x)) (hf:∀x∈xs,∀h',Sm h h'→Pu (f (ρ1 x) h') h' (y x)) (hz:acc.length+(xs.map y).length≤sizeLine):
 Pu (GA it sg Bq (FS f) ρ h acc) h (acc++xs.map y):=by
 have:=YW (t:=Bq) (e:=FS f) (acc:=acc) (fun _=>true) (fun x=>[y x]) ρ1 hi hg (fun x hx h' s'=>(.ok:Pu (.ok true h') h' true)) (fun x hx _ h' acc s' z'=>YV (hf x hx h' s') z') (by rw [DG,N5];exact hz)
 rwa [DG,N5] at this
theorem Se {Q:D→HD→Prop} (g:α→Bool) (es:α→List D) (ρ1:α→Ai) (hi:CA (it ρ h) h (xs.map φ) src) (hg:∀x∈xs,sg (φ x) (Cz cs ρ)=some (ρ1 x)) (ht:∀x∈xs,∀h',Sm h h'→Pu (t (ρ1 x) h') h' (g x)) (hf:∀x∈xs,g x=true→∀h' acc,Sm h h'→acc.length+(es x).length≤sizeLine→Pu (e (ρ1 x) h' acc) h' (acc++es x))
 (hz:((xs.filter g).flatMap es).length≤sizeLine) (q:∀l h',Sm h h'→h'[l]?=some (.lst ((xs.filter g).flatMap es))→Q (.loc l) h'):Wp (EN cs it sg t e ρ h) Q:=by
 unfold EN
 rw [AD]
 refine Wp.mono hi fun x h1 z=>?_
 obtain ⟨rfl,s1,hs⟩:=z
 rw [AD]
 refine (N4 φ g es ρ1 xs h1 [] hs hg (fun x hx h' s'=>ht x hx h' (s1.trans s')) (fun x hx gx h' a s' z'=>hf x hx gx h' a (s1.trans s') z') (by simpa using hz)).wp fun h2 s2=>?_
 rw [HV]
 exact AX hz fun l h3 s3 e3 _ _=>q l h3 ((s1.trans s2).trans s3) e3
noncomputable def N6 (cs:List (Option Nat)) (it:MI) (sg:MG) (t:MT) (e:Du):ME:=Ah (Aq Cy) (Aa (EN cs it sg t e) Ad)
noncomputable def YX (cs:List (Option Nat)) (it:MI) (sg:MG) (t:MT) (e:Du):ME:=Ah (Aq DQ) (Aa (EN cs it sg t e) Ad)
@[simp] theorem Zeq:Ah (Aq Cy) (Aa (EN cs it sg t e) Ad) ρ h=N6 cs it sg t e ρ h:=rfl
@[simp] theorem Zer:Ah (Aq DQ) (Aa (EN cs it sg t e) Ad) ρ h=YX cs it sg t e ρ h:=rfl
theorem YY (es:α→List D) (ρ1:α→Ai) (hi:CA (it ρ h) h (xs.map φ) src) (hg:∀x∈xs,sg (φ x) (Cz cs ρ)=some (ρ1 x)) (hf:∀x∈xs,∀h' acc,Sm h h'→acc.length+(es x).length≤sizeLine→Pu (e (ρ1 x) h' acc) h' (acc++es x))
 (hz:(xs.flatMap es).length≤sizeLine):Pu (N6 cs it sg Bq e ρ h) h (.tup (xs.flatMap es)):=by
 unfold N6 Pu
 rw [JC,G4]
 refine Se (fun _=>true) es ρ1 hi hg (fun x hx h' s'=>(.ok:Pu (.ok true h') h' true)) (fun x hx _ h' a s' z'=>hf x hx h' a s' z') (by rw [DG];exact hz) fun l h' s' e'=>?_
 rw [Gu]
 rw [DG] at e'
 simp only [Aq,Cy,e']
 exact ⟨rfl,s'⟩
end
end LS
namespace LS
open PySem
inductive TlN (h:Heap) (ns:List Str) (bB:List Value):List Value→Prop
 |base:TlN h ns bB bB
 |own {a:Addr} {c0:Value} {dd:Option Addr} {cd:ClassData} {sl:Array (Option Value)} {m:Str→Option Value} {tl:List Value} (ha:h.get? a=some {cls:=c0,dict:=dd,data:=.cls cd,slots:=sl}) (hm:h.Ns cd.ns m) (no:∀n∈ns,m n=none) (r:TlN h ns bB tl):TlN h ns bB (.ref a::tl)
theorem TlN.keeps {h h':Heap} {ns:List Str} {bB tl:List Value} (T:TlN h ns bB tl) (k:∀b o,h.get? b=some o→h'.get? b=some o):TlN h' ns bB tl:=by
 induction T with
 |base=>exact .base
 |own ha hm no _ ih=>exact .own (k _ _ ha) (hm.keeps k) no ih
theorem TlN.has {h:Heap} {ns:List Str} {bB tl:List Value} {v:Value} (T:TlN h ns bB tl) (hv:bB.contains v=true):tl.contains v=true:=by
 induction T with
 |base=>exact hv
 |own ha hm no _ ih=>rw [Kh,ih,Bool.or_true]
theorem TlN.refuse {h:Heap} {ns:List Str} {bB tl:List Value} {self:Value} {what:Str} (T:TlN h ns bB tl):refuseLoop self what tl=refuseLoop self what bB:=by
 induction T with
 |base=>rfl
 |own ha hm no _ ih=>rw [refuseLoop_ref,ih]
section
variable {M:Model} {A:Around} {E:Value→Shared→Prop} {h:Heap} {g:Array GenState} {d:Drawn} {t:Nat} {os:OsState}
theorem TlN.look {ns:List Str} {bB tl:List Value} {n:Str} {y:Option Value} {Q:Option Value→Shared→Prop} (T:TlN h ns bB tl) (hn:n∈ns) (e:lookupAlong bB n=pure y) (q:Q y ⟨h,g,d,t,os⟩):wpAny M A (lookupAlong tl n) Q E ⟨h,g,d,t,os⟩:=by
 induction T with
 |base=>rw [e];exact wpAny_pure q
 |own ha hm no _ ih=>
  rw [lookupAlong_cons];refine wpAny_bind (wpAny_classOwn_cls ha hm ?_);rw [no n hn]
  exact ih
variable {nm q:Str} {C N x:Addr} {bs bm bB:List Value} {hd:Bool} {sn:List Str} {sub:List Value} {ab:Bool} {col:Option Bool} {dd:Option Addr} {k0 k1 k2 k3 k5:Option Value} {B newId sa owner:String} {ns:List Str} {mN mA:Str→Option Value} {name:Str} {v:Value}
theorem JO {n:Str} {y:Option Value} {Q:Option Value→Shared→Prop} (hC:h.get? C=some (excClassObj nm q C N bs bm hd sn sub ab col dd k0 k1 k2 k3 k5 newId)) (hN:h.Ns N mN) (T:TlN h ns bB bm) (hn:n∈ns) (hb:mroOf (.type B)=pure bB) (e:typeLookup (.type B) n=pure y)
 (q:Q (match mN n with |some v=>some v |none=>y) ⟨h,g,d,t,os⟩):wpAny M A (typeLookup (.ref C) n) Q E ⟨h,g,d,t,os⟩:=by
 have e2:lookupAlong bB n=pure y:=by rw [typeLookup_eq,hb] at e;exact e
 rw [typeLookup_eq];refine wpAny_bind (wpAny_mroOf_exc hC ?_);rw [lookupAlong_cons];refine wpAny_bind (wpAny_classOwn_exc hC hN ?_)
 cases hv:mN n with
 |some v=>rw [hv] at q;exact wpAny_pure q
 |none=>rw [hv] at q;exact T.look hn e2 q
end
section
variable {prog:Program} {w:World} {A:Around} {E:Value→Shared→Prop} {h:Heap} {g:Array GenState} {d:Drawn} {t:Nat} {os:OsState}
variable {nm q:Str} {C N x:Addr} {bs bm bB:List Value} {sn:List Str} {sub:List Value} {ab:Bool} {col:Option Bool} {dd:Option Addr} {k0 k1 k2 k3 k5:Option Value} {B newId sa owner:String} {ns:List Str} {mN mA:Str→Option Value} {name:Str} {v:Value}
structure Sg (h h':Heap) (x C:Addr) (name:Str) (v:Value) (mA:Str→Option Value):Prop where
 inst:h'.Inst x C (fun y=>if y=name then some v else mA y)
 keep:∀b o,b≠x→(∀o0 dx,h.get? x=some o0→o0.dict=some dx→b≠dx)→h.get? b=some o→h'.get? b=some o
 new:∀o0,h.get? x=some o0→o0.dict=none→∃o1,h'.get? x=some o1∧o1.dict=some h.objs.size
 same:∀o0,h.get? x=some o0→∃o1,h'.get? x=some o1∧o1.cls=o0.cls∧o1.data=o0.data∧o1.slots=o0.slots∧∀dx,o0.dict=some dx→o1.dict=some dx
theorem YZ {tk:Tok} {Q:Fin→Shared→Prop} {fs:List Str} (SF:StoreFacts B bB sa owner) (hC:h.get? C=some (excClassObj nm q C N bs bm true sn sub ab col dd k0 k1 k2 k3 k5 newId)) (hN:h.Ns N mN) (T:TlN h ns bB bm) (hin:name∈ns) (hna:mN name=none)
 (hB:typeLookup (.type B) name=pure none) (I:h.Inst x C mA) (hq:∀h' tk',Sg h h' x C name v mA→Q (.done (.ret .none)) ⟨h',g,d,tk',os⟩) (hw:Within mA fs) (hsz:fs.length+1≤sizeLine):
 wpAny (model prog w) A (Builtin.«object.__setattr__» ⟨[.ref x,.str name tk,v],[]⟩) Q E ⟨h,g,d,t,os⟩:=by
 obtain ⟨o,hx,hc,hnc,hdd⟩:=I
 have hpass:refuseLoop (.ref x) "__setattr__" bm=pure ():=T.refuse.trans (SF.passes (.ref x))
 unfold Builtin.«object.__setattr__»
 repeat (first |rw [refuse_eq] |(rw [refuseLoop_ref,hpass]) |(with_reducible refine wpAny_loadPart_at hx ?_;rw [hc]) |with_reducible refine wpAny_mroOf_exc hC ?_ |(with_reducible refine JO hC hN T hin SF.mro hB ?_;rw [hna]) |wp_step)
 rcases hdd with ⟨hdn,hmA⟩ |⟨dx,hdx,hne,hns⟩
 ·rw [hdn,if_neg (by simp [typeHasDict])]
  split
  ·rename_i z;cases z
  split
  ·rename_i c z;exact absurd z (hnc c)
  ·have hx1:(h.push {cls:=.type "dict",data:=.dict #[]}).get? x=some o:=AF _ hx
   have hxs:x≠h.objs.size:=BI (AG hx)
   refine wpAny_bind (wpAny_alloc' (wpAny_bind (wpAny_update' hx1 (wpAny_pure ?_))))
   generalize eh:((h.push {cls:=.type "dict",data:=.dict #[]}).update x fun o=>{cls:=o.cls,dict:=some h.objs.size,data:=o.data,slots:=o.slots})=hp
   have hgd:hp.get? h.objs.size=some {cls:=.type "dict",data:=.dict #[]}:=by rw [←eh];exact (Heap.get?_update_ne _ _ _ _ hxs.symm).trans (Heap.get?_push_at rfl rfl)
   have hnd:hp.Ns h.objs.size (fun _=>none):=⟨_,#[],_,hgd,rfl,fun e he=>absurd he (by simp),fun _=>rfl⟩
   have hx2:hp.get? x=some {cls:=o.cls,dict:=some h.objs.size,data:=o.data,slots:=o.slots}:=by
    rw [←eh];refine IX _ hx1 ?_
    have fr:=(Heap.get?_some_iff.mp hx).2
    obtain ⟨oc,od,odt,osl⟩:=o
    cases odt<;>first |rfl |exact fr
   have kp:∀b ob,b≠x→h.get? b=some ob→hp.get? b=some ob:=fun b ob hb e=>by rw [←eh];exact (Heap.get?_update_ne _ _ _ _ hb).trans (AF _ e)
   show wpAny _ _ (Builtin.ObjectAttr.storeInDict h.objs.size (.str name tk) name v) _ _ _
   unfold Builtin.ObjectAttr.storeInDict Builtin.ObjectAttr.newKeyGuard
   refine wpAny_bind (wpAny_pure (wpAny_bind (wpAny_nsSet1 (Heap.Ns1.of_empty hnd) fun h' hn' hs=>?_)))
   obtain ⟨oD,esD,epD,hoD,hdD,hcD⟩:=hn'.count (Within.cons name v Within.nil)
   refine wpAny_bind (wpAny_lookBehind hoD (by rw [hdD];exact pastItsLine_dict (BS hcD (by rw [Fc,FJ];omega))) ?_)
   wp_walk
   have hx3:h'.get? x=_:=(hs.2 x hxs).trans hx2
   refine hq h' _ ⟨⟨_,hx3,hc,hnc,.inr ⟨h.objs.size,rfl,hxs.symm,?_⟩⟩,fun b ob hb _ e=>(hs.2 b (BI (AG e))).trans (kp b ob hb e),fun o0 e0 _=>⟨_,hx3,rfl⟩,fun o0 e0=>?_⟩
   ·obtain ⟨o',es,ep,e1,e2,e3,eu,e4⟩:=hn'
    exact ⟨o',es,ep,e1,e2,e3,eu,fun y=>by rw [e4 y];by_cases hy:y=name<;>simp [hy,hmA]⟩
   ·obtain rfl:o=o0:=Option.some.inj (hx.symm.trans e0)
    exact ⟨_,hx3,rfl,rfl,rfl,fun dx e=>by rw [hdn] at e;cases e⟩
 ·rw [hdx]
  refine wpAny_pure ?_
  show wpAny _ _ (Builtin.ObjectAttr.storeInDict dx (.str name tk) name v) _ _ _
  unfold Builtin.ObjectAttr.storeInDict Builtin.ObjectAttr.newKeyGuard
  refine wpAny_bind (wpAny_pure (wpAny_bind (wpAny_nsSet1 hns fun h' hn' hs=>?_)))
  obtain ⟨oD,esD,epD,hoD,hdD,hcD⟩:=hn'.count (Within.cons name v hw)
  refine wpAny_bind (wpAny_lookBehind hoD (by rw [hdD];exact pastItsLine_dict (BS hcD (by rw [Fc];omega))) ?_)
  wp_walk
  have hx3:h'.get? x=some o:=(hs.2 x hne.symm).trans hx
  exact hq h' _ ⟨⟨o,hx3,hc,hnc,.inr ⟨dx,hdx,hne,hn'⟩⟩,fun b ob _ hb e=>(hs.2 b (hb o dx hx hdx)).trans e,fun o0 e0 z=>(by rw [hx] at e0;cases e0;rw [hdx] at z;cases z),fun o0 e0=>⟨o0,(hs.2 x hne.symm).trans e0,rfl,rfl,rfl,fun _ e=>e⟩⟩
theorem Y0 {M:Model} {o:Obj} {nameV:Value} {Q:Unit→Shared→Prop} (SF:StoreFacts B bB sa owner) (hC:h.get? C=some (excClassObj nm q C N bs bm true sn sub ab col dd k0 k1 k2 k3 k5 newId)) (own:(Value.ref C::bm).contains (.type owner)=true) (hx:h.get? x=some o) (hc:o.cls=.ref C) (hq:Q () ⟨h,g,d,t,os⟩):
 wpAny M A (checkBuiltinCall sa ⟨[.ref x,nameV,v],[]⟩) Q E ⟨h,g,d,t,os⟩:=by
 have ha:=SF.args (.ref x) nameV v
 simp only [checkBuiltinCall,SF.kind,SF.split]
 refine wpAny_bind ?_
 unfold isInstance
 repeat (first |(with_reducible refine wpAny_loadPart_at hx ?_;rw [hc]) |(with_reducible refine wpAny_isSubtype_exc hC ?_;rw [own]) |wp_step)
 cases hs:Manifest.signature? sa with
 |none=>exact wpAny_pure hq
 |some sig=>
  simp only [argsOk,hs] at ha
  show wpAny M A (Bind.checkArgs sa sig ⟨[.ref x,nameV,v],[]⟩) Q E _
  rw [show Bind.checkArgs sa sig ⟨[.ref x,nameV,v],[]⟩=pure () from ha];exact wpAny_pure hq
theorem Sh {Q:Unit→Shared→Prop} {fs:List Str} (SF:StoreFacts B bB sa owner) (hC:h.get? C=some (excClassObj nm q C N bs bm true sn sub ab col dd k0 k1 k2 k3 k5 newId)) (hN:h.Ns N mN) (T:TlN h ns bB bm) (hin:name∈ns) (hin2:("__setattr__":Str)∈ns) (hna:mN name=none) (hns:mN "__setattr__"=none)
 (hB:typeLookup (.type B) name=pure none) (I:h.Inst x C mA) (hq:∀h' tk',Sg h h' x C name v mA→Q () ⟨h',g,d,tk',os⟩) (hw:Within mA fs) (hsz:fs.length+1≤sizeLine):
 wpAny (model prog w) A (setAttr (.ref x) name v) Q E ⟨h,g,d,t,os⟩:=by
 obtain ⟨o,hx,hc,_⟩:=id I
 have f3:=SF.slot.bind (.ref x)
 have own:(Value.ref C::bm).contains (.type owner)=true:=by rw [Kh,T.has SF.hasOwner,Bool.or_true]
 unfold setAttr callSpecial? specialOf
 repeat (any_goals (first |assumption |(with_reducible refine wpAny_loadPart_at hx ?_;rw [hc]) |(with_reducible refine JO hC hN T hin2 SF.mro SF.slot.lookup ?_;rw [hns]) |wp_step))
 refine codeAny_call_builtin SF.slot.plain SF.entry (Y0 SF hC own hx hc (YZ SF hC hN T hin hna hB I (fun h' tk' st=>?_) hw hsz))
 repeat (any_goals (first |assumption |wp_step))
 exact hq h' tk' st
end
section
variable {prog:Program} {w:World} {A:Around} {E:Value→Shared→Prop} {h:Heap} {g:Array GenState} {d:Drawn} {t:Nat} {os:OsState}
variable {nm q:Str} {C N x:Addr} {bs bm bB:List Value} {sn:List Str} {sub:List Value} {ab:Bool} {col:Option Bool} {dd:Option Addr} {k0 k1 k2 k3 k5:Option Value} {B newId:String} {ns:List Str} {mN mA:Str→Option Value} {name:Str} {v:Value}
theorem Y1 {tk:Tok} {Q:Fin→Shared→Prop} (FB:ExcAttrBase B bB) (hC:h.get? C=some (excClassObj nm q C N bs bm true sn sub ab col dd k0 k1 k2 k3 k5 newId)) (hN:h.Ns N mN) (T:TlN h ns bB bm) (hin:name∈ns) (hna:mN name=none)
 (hB:typeLookup (.type B) name=pure none) (I:h.Inst x C mA) (hv:mA name=some v) (hq:Q (.done (.ret v)) ⟨h,g,d,t,os⟩):wpAny (model prog w) A (Builtin.«object.__getattribute__» ⟨[.ref x,.str name tk],[]⟩) Q E ⟨h,g,d,t,os⟩:=by
 obtain ⟨o,hx,hc,hnc,hdd⟩:=I
 rcases hdd with ⟨_,hmA⟩ |⟨dx,hdx,hne,hns⟩
 ·rw [hmA name] at hv;cases hv
 repeat (any_goals (first |assumption |(with_reducible refine wpAny_loadPart_at hx ?_;rw [hc]) |(with_reducible refine JO hC hN T hin FB.mro hB ?_;rw [hna]) |wp_step))
 split
 ·rename_i c z;exact absurd z (hnc c)
 unfold instanceDict
 repeat (first |(with_reducible refine wpAny_loadPart_at hx ?_;rw [hc]) |with_reducible refine wpAny_loadPart_at hC ?_ |wp_step)
 rw [hdx]
 repeat (first |(with_reducible refine wpAny_nsGet hns.ns ?_;rw [hv]) |wp_step)
 exact hq
theorem Y2 {M:Model} {o:Obj} {nameV:Value} {Q:Unit→Shared→Prop} (hC:h.get? C=some (excClassObj nm q C N bs bm true sn sub ab col dd k0 k1 k2 k3 k5 newId)) (own:(Value.ref C::bm).contains (.type "BaseException")=true) (hx:h.get? x=some o) (hc:o.cls=.ref C) (hq:Q () ⟨h,g,d,t,os⟩):
 wpAny M A (checkBuiltinCall "BaseException.__getattribute__" ⟨[.ref x,nameV],[]⟩) Q E ⟨h,g,d,t,os⟩:=by
 have e1:builtinKind "BaseException.__getattribute__"=some .slot:=by decide +kernel
 have e2:splitId "BaseException.__getattribute__"=some ("BaseException","__getattribute__"):=by decide +kernel
 have ha:=F.args_bexc_ga (.ref x) nameV
 simp only [checkBuiltinCall,e1,e2]
 refine wpAny_bind ?_
 unfold isInstance
 repeat (first |(with_reducible refine wpAny_loadPart_at hx ?_;rw [hc]) |(with_reducible refine wpAny_isSubtype_exc hC ?_;rw [own]) |wp_step)
 exact hq
theorem Y3 {expr:Bool} {Q:Value→Shared→Prop} (FB:ExcAttrBase B bB) (hC:h.get? C=some (excClassObj nm q C N bs bm true sn sub ab col dd k0 k1 k2 k3 k5 newId)) (hN:h.Ns N mN) (T:TlN h ns bB bm) (hin:name∈ns) (hin2:("__getattribute__":Str)∈ns) (hin3:("__getattr__":Str)∈ns) (hna:mN name=none) (hn2:mN "__getattribute__"=none) (hn3:mN "__getattr__"=none)
 (hB:typeLookup (.type B) name=pure none) (I:h.Inst x C mA) (hv:mA name=some v) (hh:handedOut v=pure v) (hq:Q v ⟨h,g,d,t+1,os⟩):wpAny (model prog w) A (getAttr (.ref x) name expr) Q E ⟨h,g,d,t,os⟩:=by
 obtain ⟨o,hx,hc,_⟩:=id I
 have own:(Value.ref C::bm).contains (.type "BaseException")=true:=by rw [Kh,T.has FB.hasBase,Bool.or_true]
 have f3:=FB.ga.bind (.ref x)
 have hx0:(expr&&onTheHeap (Value.builtin "BaseException.__getattribute__"))=false:=by cases expr<;>rfl
 have hx2:(Value.builtin "BaseException.__getattribute__"==Value.builtin "object.__getattribute__")=false:=by decide +kernel
 have hx1:(onTheHeap (Value.ref C)&&Value.builtin "BaseException.__getattribute__"==Value.builtin "object.__getattribute__")=false:=by rw [hx2];rfl
 unfold getAttr getAttrBy
 repeat (any_goals (first |assumption |(with_reducible refine wpAny_loadPart_at hx ?_;rw [hc]) |(with_reducible refine JO hC hN T hin2 FB.mro FB.ga.lookup ?_;rw [hn2]) |(with_reducible refine JO hC hN T hin3 FB.mro FB.noGetattr ?_;rw [hn3]) |wp_step))
 refine codeAny_call_builtin FB.ga.plain F.entry_bexc_ga (Y2 hC own hx hc (Y1 FB hC hN T hin hna hB I hv ?_))
 show wpAny _ _ (handedOut v) _ _ _
 rw [hh];exact wpAny_pure hq
end
end LS
namespace LS
open PySem PySem.Spec PyProof.Rows L2
def tmNames:List Str:=["__init__","__setattr__","__getattribute__","__getattr__","many","most"]
def LM (K:PySem.W.Frag) (ns:List Str) (bB:List Value):List Value→Bool
 |[]=>bB==[]
 |v::r=>(v::r)==bB||match v with
  |.ref a=>(match K.lookup a with
   |some o=>(match clsOf o.data with
    |some cd=>PySem.W.nsOkIn K cd.ns&&(ns.all (fun n=>PySem.W.nsIn K cd.ns n==some none)&&LM K ns bB r)
    |none=>false)
   |none=>false)
  |_=>false
theorem Si {K:PySem.W.Frag} {h:Heap} {ns:List Str} {bB:List Value} (X:K.In h):∀{l:List Value},LM K ns bB l=true→TlN h ns bB l
 |[],e=>by rw [←beq_iff_eq.mp e];exact .base
 |v::r,e=>by
  unfold LM at e
  rcases Bool.or_eq_true_iff.mp e with q |q
  ·rw [beq_iff_eq.mp q];exact .base
  ·cases v with
   |ref a=>
    simp only at q
    cases lk:K.lookup a with
    |none=>rw [lk] at q;cases q
    |some o=>
     rw [lk] at q
     simp only at q
     cases ec:clsOf o.data with
     |none=>rw [ec] at q;cases q
     |some cd=>
      rw [ec] at q
      simp only [BR] at q
      obtain ⟨q1,q2,q3⟩:=q
      obtain ⟨cls,od,dt,sl⟩:=o
      replace ec:=NC ec
      simp only at ec
      subst ec
      exact .own (X _ _ lk) (.of_isNs (PySem.W.isNs_of_in X q1)) (fun n hn=>PySem.W.nsMap_none_of_in X q1 (beq_iff_eq.mp (qaJ.mp q2 n hn))) (Si X q3)
   |_=>cases q
theorem TlN.tail {h:Heap} {ns:List Str} {bB tl:List Value} (T:TlN h ns bB tl) (hi:("__init__":Str)∈ns):OwnTail h bB tl:=by
 induction T with
 |base=>exact .base
 |own ha hm no _ ih=>exact .own ha hm (no _ hi) ih
theorem Y4 {K:PySem.W.Frag} {h:Heap} {N:Addr} {m:Str→Option Value} {n:Str} {v:Value} (X:K.In h) (G:h.Ns N m) (e:PySem.W.nsIn K N n=some (some v)):m n=some v:=by
 obtain ⟨o,es,ep,ho,hd,_,hf⟩:=G
 unfold PySem.W.nsIn at e
 split at e
 ·rename_i lk
  have z:=(X _ _ lk).symm.trans ho
  cases z
  cases hd
  split at e
  ·rename_i en he
   cases e
   rw [←hf];unfold nsFind findBy;first |(rw [he];rfl) |(rw [←Array.find?_toList,he];rfl)
  ·split at e<;>cases e
 ·cases e
inductive Sj (h:Heap) (C fI:Addr):Prop where
 |mk (bm:List Value) (N:Addr) (nm q:Str) (bs:List Value) (sn:List Str) (sub:List Value) (ab:Bool) (col:Option Bool) (dd:Option Addr) (k0 k1 k2 k3 k5:Option Value) (mN:Str→Option Value)
  (hC:h.get? C=some (excClassObj nm q C N bs bm true sn sub ab col dd k0 k1 k2 k3 k5 "ValueError.__new__")) (hN:h.Ns N mN) (hi:mN "__init__"=some (.ref fI)) (no:∀n∈tmNames.tail,mN n=none) (T:TlN h tmNames JI bm):Sj h C fI
def LN (K:PySem.W.Frag) (C fI:Addr) (o:Obj) (cd:ClassData):Bool:=
 decide (o.cls=.type "type")&&(decide (cd.mro=.ref C::cd.mro.tail)&&(!cd.hasDel&&(LM K tmNames JI cd.mro.tail&&(PySem.W.nsOkIn K cd.ns&&(PySem.W.nsIn K cd.ns "__init__"==some (some (.ref fI))&&(tmNames.tail.all (fun n=>PySem.W.nsIn K cd.ns n==some none)&&(decide (o.slots.toList.length=6)&&(decide (o.slots.toList[4]?=some (some (.builtin "ValueError.__new__")))&&cd.hasDict))))))))
def tmX (K:PySem.W.Frag) (C fI:Addr):Bool:=match K.lookup C with
 |some o=>(match clsOf o.data with
  |some cd=>LN K C fI o cd
  |none=>false)
 |none=>false
theorem JP {K:PySem.W.Frag} {C fI:Addr} (q:tmX K C fI=true) {h:Heap} (X:K.In h):Sj h C fI:=by
 unfold tmX at q
 cases lk:K.lookup C with
 |none=>rw [lk] at q;cases q
 |some o=>
  rw [lk] at q
  replace q:(match clsOf o.data with |some cd=>LN K C fI o cd |none=>false)=true:=q
  cases ec:clsOf o.data with
  |none=>rw [ec] at q;cases q
  |some cd=>
   rw [ec] at q
   replace q:LN K C fI o cd=true:=q
   unfold LN at q
   simp only [BR,decide_eq_true_eq,Bool.not_eq_true',beq_iff_eq] at q
   obtain ⟨e1,e2,e3,e4,e5,e6,e6b,e7,e8,e9⟩:=q
   obtain ⟨cls,od,dt,⟨sl⟩⟩:=o
   obtain ⟨nm,bs,mro,ns,qn,hd,sn,sub,ab,col,del⟩:=cd
   replace ec:=NC ec
   simp only at ec e1 e2 e3 e4 e5 e6 e6b e7 e8 e9
   obtain ⟨k0,k1,k2,k3,k4,k5,rfl⟩:=Q1 e7
   cases mro with
   |nil=>cases e2
   |cons c bm=>
    cases e2
    cases Option.some.inj e8
    subst ec e1 e3 e9
    have hNs:h.Ns ns (h.nsMap ns):=.of_isNs (PySem.W.isNs_of_in X e5)
    exact ⟨bm,ns,nm,qn,bs,sn,sub,ab,col,od,k0,k1,k2,k3,k5,h.nsMap ns,X _ _ lk,hNs,Y4 X hNs e6,fun n hn=>PySem.W.nsMap_none_of_in X e5 (beq_iff_eq.mp (qaJ.mp e6b n hn)),Si X e4⟩
def FT (C t0:Addr) (da:Option Addr):Obj:={cls:=.ref C,dict:=da,data:=.fields #[.ref t0,.none,.none,.none,.bool false,.none]}
def BQ (C e:Addr) (da:Option Addr) (h:Heap):Prop:=∃t0,h.get? e=some (FT C t0 da)
def GB (d:Addr) (m:Str→Option Value) (h:Heap):Prop:=h.Ns1 d m
def one (n:Str) (u:Value):Str→Option Value:=fun y=>if y=n then some u else none
theorem LO {P:Program} {w:World} {H:Hp} {h:Heap} {C e:Addr} {da:Option Addr} (x:BQ C e da h):ObjOk P w H h e (.mex (BQ C e da)):=
 ⟨x,let ⟨_,q⟩:=x;⟨_,q⟩,fun h1 h2 ⟨t0,q⟩ k=>⟨t0,k _ q⟩⟩
theorem Y5 {P:Program} {w:World} {H:Hp} {h:Heap} {d:Addr} {m:Str→Option Value} (x:GB d m h):ObjOk P w H h d (.mex (GB d m)):=
 ⟨x,let ⟨o,_,_,q,_⟩:=x;⟨o,q⟩,fun h1 h2 q k=>Heap.Ns1.at q k⟩
section
variable {X:Cx} {pins:List (Addr×Obj)} {σ:L2.St} {H:Hp} {s:Shared} {E:Value→Shared→Prop} {A:Around} {C fI e da:Addr} {n:Str} {u:Value}
def del (H:Hp) (a:Addr):Hp:=fun b=>if b=a then none else H b
theorem Sk {H:Hp} {a:Addr}:del H a a=none:=by unfold del;rw [if_pos rfl]
theorem GC {H:Hp} {a b:Addr} (h:b≠a):del H a b=H b:=by unfold del;rw [if_neg h]
theorem Y6 {H:Hp} {a:Addr} {o:HO} (h:H a=none):del (Am H a o) a=H:=by
 funext b;unfold del Am;split
 ·rename_i z;rw [z,h]
 ·rfl
theorem Kp.del {H:Hp} {a:Addr} {φ:Heap→Prop} (h:H a=some (.mex φ)):Kp H (LS.del H a):=fun b o e i=>by
 rw [GC]
 ·exact e
 ·intro z
  rw [z,h] at e;cases e;cases i
theorem HR.del {K:PySem.W.Frag} {m:List Addr} {h:HD} {H:Hp} {a:Addr} {φ:Heap→Prop} (r:HR K m h H) (e:H a=some (.mex φ)):HR K m h (LS.del H a):=r.same (.del e) fun b hb=>GC fun z=>by
 subst z
 obtain ⟨l,hl,el⟩:=Kf hb
 have hl':l<h.length:=by rw [←r.len];exact hl
 have c:=r.cells l h[l] m[l] (A6 hl') (A6 hl)
 rw [el] at c
 cases hc:h[l] with
 |lst ds=>rw [hc] at c;obtain ⟨vs,q,_⟩:=c;rw [e] at q;cases q
 |tab=>rw [hc] at c;obtain ⟨_,ps,q,_⟩:=c;rw [e] at q;cases q
theorem Inv.untrack {φ:Heap→Prop} (I:Inv X pins σ H s) (h:H e=some (.mex φ)):Inv X pins σ (del H e) s:=by
 have ne:∀b u,H b=some u→(∀ψ,u≠.mex ψ)→b≠e:=fun b u q nn z=>by rw [z,h] at q;cases q;exact nn _ rfl
 have no:∀b,H b=none→del H e b=none:=fun b q=>by
  unfold del;split
  ·rfl
  ·exact q
 refine ⟨I.ok,I.os,I.bare,⟨I.base.keep,I.base.slot,fun b o q n x=>no b (I.base.free b o q n x),I.base.there,fun b xs q=>?_,fun b o u q=>?_,fun b ps q=>?_⟩,I.loc,I.cell,no _ I.free,fun x c q=>no _ (I.freeC x c q),fun p hp=>?_,fun b u q=>?_,I.len⟩
 ·have z:=I.base.tups b xs q
  rw [GC (ne b _ z fun ψ y=>by cases y)];exact z
 ·have z:=I.base.frzs b o u q
  rw [GC (ne b _ z fun ψ y=>by cases y)];exact z
 ·obtain ⟨more,z⟩:=I.base.tbls b ps q
  exact ⟨more,by rw [GC (ne b _ z fun ψ y=>by cases y)];exact z⟩
 ·obtain ⟨a1,a2,a3⟩:=I.pin p hp
  exact ⟨a1,no _ a2,a3⟩
 ·by_cases z:b=e
  ·rw [z,Sk] at q;cases q
  ·rw [GC z] at q
   exact (I.hok b u q).stay (fun _ _ _ y=>y) (fun c y=>by rw [GC (ne c _ y fun ψ w=>by cases w)];exact y) fun c xs y=>by rw [GC (ne c _ y fun ψ w=>by cases w)];exact y
theorem Inv.retrack {o:HO} (I:Inv X pins σ H s) (old:X.H₀ e≠none) (no:H e=none) (hL:e≠X.env.locals) (hc:∀x c,X.env.cells.lookup x=some c→c≠e) (hp:∀p∈X.pn++pins,p.1≠e) (ok:ObjOk X.prog X.w (Am H e o) s.heap e o):Inv X pins σ (Am H e o) s:=by
 have ne:∀b u,H b=some u→b≠e:=fun b u q=>BJ q no
 refine ⟨I.ok,I.os,I.bare,⟨I.base.keep,I.base.slot,fun b ob q n hx=>?_,I.base.there,fun b xs q=>?_,fun b ob u q=>?_,fun b ps q=>?_⟩,I.loc,I.cell,?_,fun x c q=>?_,fun p hp'=>?_,fun b u q=>?_,I.len⟩
 ·rw [Ao (fun z=>by rw [z] at n;exact old n)];exact I.base.free b ob q n hx
 ·have z:=I.base.tups b xs q
  rw [Ao (ne _ _ z)];exact z
 ·have z:=I.base.frzs b ob u q
  rw [Ao (ne _ _ z)];exact z
 ·obtain ⟨more,z⟩:=I.base.tbls b ps q
  exact ⟨more,by rw [Ao (ne _ _ z)];exact z⟩
 ·rw [Ao (Ne.symm hL)];exact I.free
 ·rw [Ao (hc x c q)];exact I.freeC x c q
 ·obtain ⟨a1,a2,a3⟩:=I.pin p hp'
  exact ⟨a1,by rw [Ao (hp p hp')];exact a2,a3⟩
 ·by_cases hb:b=e
  ·subst hb
   rw [Bt] at q
   cases q
   exact ok
  ·rw [Ao hb] at q
   exact (I.hok b u q).stay (fun _ _ _ y=>y) (fun c y=>by rw [Ao (ne _ _ y)];exact y) fun c xs y=>by rw [Ao (ne _ _ y)];exact y
theorem Y7 {Q:Unit→Shared→Prop} (I:Inv X pins σ H s) (tm:tmX X.K C fI=true) (hin:n∈tmNames.tail) (hB:typeLookup (.type "ValueError") n=pure none) (hH:H e=some (.mex (BQ C e none)))
 (q:∀(da:Addr) (s':Shared),H da=none→da≠e→Inv X pins σ (Am (Am H e (.mex (BQ C e (some da)))) da (.mex (GB da (one n u)))) s'→Q () s'):wpAny (model X.prog X.w) A (setAttr (.ref e) n u) Q E s:=by
 obtain ⟨bm,N,nm,qn,bs,sn,sub,ab,col,dd,k0,k1,k2,k3,k5,mN,hC,hN,hi,no,T⟩:=JP tm I.kIn
 obtain ⟨⟨t0,he⟩,_,_⟩:=(show ObjOk X.prog X.w H s.heap e (.mex (BQ C e none)) from I.hok e _ hH)
 have II:s.heap.Inst e C (fun _=>none):=⟨_,he,rfl,fun c z=>(by cases z),.inl ⟨rfl,fun _=>rfl⟩⟩
 refine Sh (fs:=[]) PySem.F.store_ValueError hC hN T (MH hin) (by decide) (no n hin) (no _ (by decide)) hB II (fun h' tk' st=>?_) Within.nil (by unfold sizeLine;decide)
 obtain ⟨o1,a1,a2⟩:=st.new _ he rfl
 obtain ⟨o2,b1,b2,b3,b4,_⟩:=st.same _ he
 rw [a1] at b1
 cases b1
 have fresh:H s.heap.objs.size=none:=I.fresh
 have ne:s.heap.objs.size≠e:=fun z=>by rw [z,hH] at fresh;cases fresh
 have eo:o1=FT C t0 (some s.heap.objs.size):=by
  obtain ⟨c1,d1,dt1,sl1⟩:=o1
  simp only [FT] at b2 b3 b4 a2
  subst b2 b3 b4 a2
  rfl
 subst eo
 have hd:GB s.heap.objs.size (one n u) h':=by
  obtain ⟨o,x1,_,_,z⟩:=st.inst
  rw [a1] at x1
  cases x1
  rcases z with ⟨z,_⟩ |⟨d',z,_,z2⟩
  ·cases z
  ·cases z
   exact z2
 have keep:∀b o,b≠e→s.heap.get? b=some o→h'.get? b=some o:=fun b o hb eb=>st.keep b o hb (fun o0 dx x1 x2=>by rw [he] at x1;cases x1;cases x2) eb
 have nse:∀b w',H b=some w'→(∀φ,w'≠.mex φ)→b≠e∧b≠s.heap.objs.size:=fun b w' hb nn=>⟨fun z=>(by rw [z,hH] at hb;cases hb;exact nn _ rfl),fun z=>(by rw [z,fresh] at hb;cases hb)⟩
 refine q s.heap.objs.size _ fresh ne (I.un (t':=tk') (h':=h') ⟨fun b o eb nb _ _=>keep b o (fun z=>by rw [z,hH] at nb;cases nb) eb,fun b o eb nb _ _=>⟨o.slots,keep b o (fun z=>by rw [z,hH] at nb;cases nb) eb⟩,fun b o eb nb _=>?_,fun b o eb _=>?_,fun b xs eb=>?_,fun b o w' eb=>?_,fun b ps eb=>?_⟩ fun b w' eb=>?_)
 ·rw [Ao (BI (AG eb)),Ao (fun z=>by rw [z,hH] at nb;cases nb)];exact nb
 ·by_cases z:b=e
  ·subst z;exact ⟨_,a1⟩
  ·exact ⟨o,keep b o z eb⟩
 ·obtain ⟨z1,z2⟩:=nse b _ eb (fun φ z=>by cases z)
  rw [Ao z2,Ao z1];exact eb
 ·obtain ⟨z1,z2⟩:=nse b _ eb (fun φ z=>by cases z)
  rw [Ao z2,Ao z1];exact eb
 ·obtain ⟨z1,z2⟩:=nse b _ eb (fun φ z=>by cases z)
  exact ⟨#[],by rw [Ao z2,Ao z1,eb];simp⟩
 ·by_cases z2:b=s.heap.objs.size
  ·subst z2
   rw [Bt] at eb
   cases eb
   exact Y5 hd
  ·rw [Ao z2] at eb
   by_cases z1:b=e
   ·subst z1
    rw [Bt] at eb
    cases eb
    exact LO ⟨t0,a1⟩
   ·rw [Ao z1] at eb
    refine (I.hok b w' eb).stay (fun c o hc ec=>keep c o (fun z=>?_) ec) (fun c hc=>?_) fun c xs hc=>?_
    ·rcases hc with hc |hc
     ·exact z1 (hc.symm.trans z)
     ·rw [z,hH] at hc;cases hc
    ·obtain ⟨y1,y2⟩:=nse c _ hc (fun φ z=>by cases z)
     rw [Ao y2,Ao y1];exact hc
    ·obtain ⟨y1,y2⟩:=nse c _ hc (fun φ z=>by cases z)
     rw [Ao y2,Ao y1];exact hc
theorem Y8 {Q:Unit→Shared→Prop} {n2:Str} {u2:Value} {fs:List (Str×V)} (I:Inv X pins σ H s) (tm:tmX X.K C fI=true) (hin:n2∈tmNames.tail) (hB:typeLookup (.type "ValueError") n2=pure none) (hH:H e=some (.mex (BQ C e (some da)))) (hD:H da=some (.mex (GB da (one n u)))) (ne:da≠e)
 (rel:∀f,RelO (fs.lookup f) (if f=n2 then some u2 else one n u f)) (q:∀s':Shared,Inv X pins σ (Am H da (.xd fs)) s'→Q () s'):wpAny (model X.prog X.w) A (setAttr (.ref e) n2 u2) Q E s:=by
 obtain ⟨bm,N,nm,qn,bs,sn,sub,ab,col,dd,k0,k1,k2,k3,k5,mN,hC,hN,hi,no,T⟩:=JP tm I.kIn
 obtain ⟨⟨t0,he⟩,_,_⟩:=(show ObjOk X.prog X.w H s.heap e (.mex (BQ C e (some da))) from I.hok e _ hH)
 obtain ⟨hd,_,_⟩:=(show ObjOk X.prog X.w H s.heap da (.mex (GB da (one n u))) from I.hok da _ hD)
 have II:s.heap.Inst e C (one n u):=⟨_,he,rfl,fun c z=>(by cases z),.inr ⟨da,rfl,ne,hd⟩⟩
 refine Sh (fs:=[n]) PySem.F.store_ValueError hC hN T (MH hin) (by decide) (no n2 hin) (no _ (by decide)) hB II (fun h' tk' st=>?_) (Within.cons n u Within.nil) (by show 2≤sizeLine;unfold sizeLine;decide)
 obtain ⟨o2,b1,b2,b3,b4,b5⟩:=st.same _ he
 have eo:o2=FT C t0 (some da):=by
  obtain ⟨c1,d1,dt1,sl1⟩:=o2
  have b6:=b5 da rfl
  simp only [FT] at b2 b3 b4 b6
  subst b2 b3 b4 b6
  rfl
 subst eo
 have hd2:h'.Ns1 da (fun y=>if y=n2 then some u2 else one n u y):=by
  obtain ⟨o,x1,_,_,z⟩:=st.inst
  rw [b1] at x1
  cases x1
  rcases z with ⟨z,_⟩ |⟨d',z,_,z2⟩
  ·cases z
  ·cases z
   exact z2
 refine q _ (Inv.write (x:=da) (e:=da) (t':=tk') (h':=h') I (by rw [hD];trivial) (.inl rfl) (fun b o hb eb=>?_) ?_ ⟨_,hd2,rel⟩)
 ·by_cases z:b=e
  ·subst z
   rw [he] at eb
   cases eb
   exact b1
  ·exact st.keep b o z (fun o0 dx x1 x2=>by rw [he] at x1;cases x1;cases x2;exact hb) eb
 ·obtain ⟨o,_,_,x1,_⟩:=hd2
  exact ⟨o,x1⟩
end
end LS
namespace LS
open PySem PySem.Spec PyProof.Rows L2 PySem.Calls PySem.W
def swX (K:PySem.W.Frag) (S:Addr):Bool:=PySem.W.readsIn K S (.type "type")&&(match PySem.W.findCls K (.ref S) (.type "type") "__init__" with
 |some (.val (.builtin b))=>b=="ValueError.__init__"
 |_=>false)
theorem Y9 {prog:Program} {w:World} {A:Around} {E:Value→Shared→Prop} {s:Shared} {K:PySem.W.Frag} {S:Addr} {pl:Sem Bool} {Q:Value×List Value→Shared→Prop} (X:K.In s.heap) (q:swX K S=true)
 (h:Q (.builtin "ValueError.__init__",[]) {s with toks:=s.toks+1}):wpAny (model prog w) A (getMethod (.ref S) "__init__" pl) Q E s:=by
 unfold swX at q
 rw [BR] at q
 obtain ⟨hr,q⟩:=q
 split at q
 ·rename_i b e
  rw [beq_iff_eq] at q
  subst q
  have hr':=hr
  simp only [PySem.W.readsIn,BR,beq_iff_eq] at hr'
  obtain ⟨⟨⟨⟨_,ty⟩,hg⟩,_⟩,_⟩:=hr'
  have L0:Looks (model prog w) s.heap (typeOf (.ref S)) (.type "type"):=PySem.W.looks_typeIn X ty
  unfold getMethod specialOf
  refine wpAny_bind (wpAny_bind (L0.here ((PySem.W.looks_findIn X hg).here ?_)))
  dsimp only
  rw [if_pos PySem.W.canon_tga]
  refine wpAny_bind (wpAny_mono (Q:=fun v=>Q (v,[])) (E:=E) ?_ (fun _ _ z=>wpAny_pure z) fun _ _ z=>z)
  refine PySem.W.cls_read X hr e (wpAny_pure ?_)
  show wpAny _ _ (handedOut (.builtin "ValueError.__init__")) _ _ _
  rw [PySem.W.handedOut_of (by decide +kernel)];exact wpAny_pure h
 ·cases q
theorem Za {M:Model} {A:Around} {E:Value→Shared→Prop} {s:Shared} {env:Env} {pos:Pos} {b:String} {first:List Value} {Q:Value→Shared→Prop} {e:Expr} {rest:List Expr} (h:wpAny M A (spliced (backTo pos (starEach (e::rest) env))) (fun vs s1=>wpAny M A (call (.builtin b) (first++vs)) Q E s1) E s)
 (he:starEach (e::rest) env=(false,eval e env)::starEach rest env) (hpl:(backTo pos (starEach rest env)).any (·.1)=false):wpAny M A (callWith pos (.builtin b) first (backTo pos (starEach (e::rest) env)) []) Q E s:=by
 rw [he] at h ⊢
 exact callWith_of (P:=fun _=>True) (by show ((false||(backTo pos (starEach rest env)).any (·.1))||false)=false;rw [hpl];rfl) (fun _ _=>⟨.machine,.inr (.inl rfl),.now⟩) (evalArgs_plain (wpAny_mono h (fun _ _ z=>⟨trivial,z⟩) fun _ _ z=>z))
def Zb (H₀:Hp) (C:Addr) (ta:TA):TE:=fun σ H Q=>∃e,H₀ e≠none∧H e=some (.mex (BQ C e none))∧ta σ (del H e) fun vs H1=>∃x,vs=[.ref e,.str x]∧(H1 e=none→Q .non (Am H1 e (.mex (BQ C e none))))
section
variable {X:Cx} {C fI S:Addr} {ta:TA} {a1 a2:Expr} {p1 p2 p5:Pos}
theorem Zc (tm:tmX X.K C fI=true) (sw:swX X.K S=true) (hg:Gl X "SwitchError") (hS:PySem.W.nsIn X.K mainGlobals "SwitchError"=some (some (.ref S))) (ha:PA X [a1,a2] ta)
 (he:∀pl:Sem Bool,pl=(do return (←importBound (.Name "SwitchError" p1) X.env).getD true)→eval (.Call (.Attribute (.Name "SwitchError" p1) "__init__" p2) [a1,a2] [] p5) X.env=(do
  let ov ←eval (.Name "SwitchError" p1) X.env
  standAt p2.atName
  let (f,first) ←holding [ov] (getMethod ov "__init__" pl)
  callWith p5 f first (backTo p5 (starEach [a1,a2] X.env)) (backToKw p5 (keywordEach [] X.env)))) (hs:starEach [a1,a2] X.env=(false,eval a1 X.env)::starEach [a2] X.env:=by rfl) (hpl:(backTo p5 (starEach [a2] X.env)).any (·.1)=false:=by rfl):
 PE X (.Call (.Attribute (.Name "SwitchError" p1) "__init__" p2) [a1,a2] [] p5) (Zb X.H₀ C ta):=by
 rintro pins s σ H Q I ⟨e,old,hH,h⟩
 refine PySem.W.methodCall_KW (F6 I hg (PySem.W.mg_of I.mod.kin I.mod.glob hS) ?_) (he _ rfl)
 refine Y9 I.kIn sw ?_
 obtain ⟨⟨t0,ho0⟩,_,_⟩:=(show ObjOk X.prog X.w H s.heap e (.mex (BQ C e none)) from I.hok e _ hH)
 have neL:e≠X.env.locals:=fun z=>by have:=I.free;rw [←z,hH] at this;cases this
 have neF:e∉X.fs:=fun z=>old (I.ok.frf e z)
 have neC:∀x c,X.env.cells.lookup x=some c→c≠e:=fun x c q z=>by have:=I.freeC x c q;rw [z,hH] at this;cases this
 have neP:∀p∈X.pn++pins,p.1≠e:=fun p hp z=>by have:=(I.pin p hp).2.1;rw [z,hH] at this;cases this
 have I0:L2.Inv X ((e,FT C t0 none)::pins) σ (del H e) {s with toks:=s.toks+1}:=((LS.Inv.untrack I hH).tok (s.toks+1)).pins_of fun p hp=>by
  rcases qa5.mp hp with rfl |hp
  ·exact ⟨ho0,Sk,neL,neF,fun v z=>by cases z⟩
  ·exact (LS.Inv.untrack I hH).pin p (BC _ hp)
 refine Za (Az (ha p5 _ _ σ (del H e) _ I0 h) ?_) hs hpl
 rintro us s1 ⟨vs,H1,I2,r,x,rfl,q⟩
 obtain ⟨bm,N,nm,qn,bs,sn,sub,ab,col,dd,k0,k1,k2,k3,k5,mN,hC,hN,hi,no,T⟩:=JP tm I2.kIn
 obtain ⟨ho,no1,_⟩:=I2.pin _ (BC _ A0)
 have I3:Inv X pins σ (Am H1 e (.mex (BQ C e none))) s1:=LS.Inv.retrack (I2.pins_of fun p hp=>I2.pin p (BC _ (A5 _ hp))) old no1 neL neC neP (LO ⟨t0,ho⟩)
 cases r with
 |cons r1 r2=>
  cases r2 with
  |cons r2 r3=>
   cases r3
   cases (show _=Value.ref e from r1)
   refine YK (rest:=[_]) PySem.F.excBase_ValueError (T.tail (by decide)) hC ho (by simp [sizeLine]) fun h' sz kp e1 e2=>?_
   have I4:Inv X pins σ (Am (Am H1 e (.mex (BQ C e none))) e (.mex (BQ C e none))) {s1 with heap:=h'}:=Inv.write (x:=e) (e:=e) (t':=s1.toks) I3 (by rw [Bt];trivial) (.inl rfl) (fun b o hb eb=>kp b o hb eb) ⟨_,e1⟩ (LO ⟨_,e1⟩)
   rw [MK] at I4
   exact ⟨.non,_,I4,rfl,q no1⟩
end
end LS
namespace LS
open PySem PySem.Spec PyProof.Rows L2 PySem.Calls
section
variable {X:Cx} {C fI S:Addr}
theorem Zd {p1 p2 p3 p4:Pos} (tm:tmX X.K C fI=true) (h0:X.N[0]?=some ("self":Str)) (v0:Eo X.env.scope "self") (h1:X.N[1]?=some ("many":Str)) (v1:Eo X.env.scope "many") (hs:swapsWith (.Name "many" p3) (some (.Attribute (.Name "self" p1) "many" p2)) p4.line X.env=pure false:=by rfl):
 PS X (.Assign [.Attribute (.Name "self" p1) "many" p2] (.Name "many" p3) p4) (fun D σ H=>∃e a,σ[0]?=some (some (.ref e))∧σ[1]?=some (some (.int a))∧H e=some (.mex (BQ C e none))∧
  ∀da u,RelV (.int a) u→H da=none→da≠e→D.nx σ (Am (Am H e (.mex (BQ C e (some da)))) da (.mex (GB da (one "many" u))))):=by
 rintro pins s σ H D I ⟨e,a,s0,s1,hH,q⟩
 refine plainObj_wpAny_Assign_Attribute (Az ((GN (pos:=p3) h1 v1:PE X _ _) pins s σ H (fun v H1=>v=.int a∧H1=H) I ⟨_,s1,rfl,rfl⟩) fun u t1 z=>?_) hs
 obtain ⟨v,H1,I1,r1,rfl,rfl⟩:=z
 refine Az ((GN (pos:=p1) h0 v0:PE X _ _) pins t1 σ H1 (fun v H2=>v=.ref e∧H2=H1) I1 ⟨_,s0,rfl,rfl⟩) fun ou t2 z=>?_
 obtain ⟨v,H2,I2,r2,rfl,rfl⟩:=z
 cases (show ou=Value.ref e from r2)
 exact Y7 I2 tm (by decide) (by rw [typeLookup_type,builtinLookup_eq_fast];kernel_rfl) hH fun da s' n1 n2 I3=>⟨σ,_,I3,q da u r1 n1 n2⟩
theorem Ze {p1 p2 p3 p4:Pos} (tm:tmX X.K C fI=true) (h0:X.N[0]?=some ("self":Str)) (v0:Eo X.env.scope "self") (h1:X.N[2]?=some ("most":Str)) (v1:Eo X.env.scope "most") (hs:swapsWith (.Name "most" p3) (some (.Attribute (.Name "self" p1) "most" p2)) p4.line X.env=pure false:=by rfl):
 PS X (.Assign [.Attribute (.Name "self" p1) "most" p2] (.Name "most" p3) p4) (fun D σ H=>∃e da a b u,σ[0]?=some (some (.ref e))∧σ[2]?=some (some (.int b))∧RelV (.int a) u∧H e=some (.mex (BQ C e (some da)))∧H da=some (.mex (GB da (one "many" u)))∧da≠e∧
  D.nx σ (Am H da (.xd [("many",.int a),("most",.int b)]))):=by
 rintro pins s σ H D I ⟨e,da,a,b,u,s0,s1,ru,hH,hD,ne,q⟩
 refine plainObj_wpAny_Assign_Attribute (Az ((GN (pos:=p3) h1 v1:PE X _ _) pins s σ H (fun v H1=>v=.int b∧H1=H) I ⟨_,s1,rfl,rfl⟩) fun u2 t1 z=>?_) hs
 obtain ⟨v,H1,I1,r1,rfl,rfl⟩:=z
 refine Az ((GN (pos:=p1) h0 v0:PE X _ _) pins t1 σ H1 (fun v H2=>v=.ref e∧H2=H1) I1 ⟨_,s0,rfl,rfl⟩) fun ou t2 z=>?_
 obtain ⟨v,H2,I2,r2,rfl,rfl⟩:=z
 cases (show ou=Value.ref e from r2)
 refine Y8 I2 tm (by decide) (by rw [typeLookup_type,builtinLookup_eq_fast];kernel_rfl) hH hD ne (fun f=>?_) fun s' I3=>⟨σ,_,I3,q⟩
 by_cases f1:f="most"
 ·subst f1
  exact r1
 ·by_cases f2:f="many"
  ·subst f2
   exact ru
  ·have e1:(f=="many")=false:=by simp [f2]
   have e2:(f=="most")=false:=by simp [f1]
   simp only [FH,e1,e2,one,if_neg f1,if_neg f2]
   trivial
end
noncomputable abbrev EO:ME:=JL (Ls (Ab 1) (Lq " are more than " (Ls (Ab 2) Lp)))
inductive LP (K:PySem.W.Frag) (C:Addr) (vs:List V) (H:Hp) (Q:VK) (E:XK):Prop
 |mk (e:Addr) (a b:Int) (m:List Addr) (h h2:HD) (x:Str) (ev:vs=[.ref e,.int a,.int b]) (hr:HR K m h H) (hH:H e=some (.mex (BQ C e none))) (hj:EO [none,some (.int a),some (.int b)] h=.ok (.str x) h2)
  (q:∀m1 H1 da,m <+:m1→Kp (del H e) H1→HR K m1 h2 H1→H1 e=none→H1 da=none→da≠e→Q .non (Am (Am H1 e (.mex (BQ C e (some da)))) da (.xd [("many",.int a),("most",.int b)]))):LP K C vs H Q E
section
variable {P:Program} {w:World} {K:PySem.W.Frag} {mg:Str→Option Value} {base:Heap} {C f S:Addr} {k:Nat} {qual:Str} {scope:Scope} {p1 p2 p3 p4 p5 p6 q1 q2 q3 q4 r1 r2 r3 r4:Pos} {js:Expr}
abbrev Sl (js:Expr) (p1 p2 p3 p5 p6 q1 q2 q3 q4 r1 r2 r3 r4:Pos):List Stmt:=[.Expr (.Call (.Attribute (.Name "SwitchError" p1) "__init__" p2) [.Name "self" p3,js] [] p5) p6,.Assign [.Attribute (.Name "self" q1) "many" q2] (.Name "many" q3) q4,.Assign [.Attribute (.Name "self" r1) "most" r2] (.Name "most" r3) r4]
theorem Zf {name:Str} {params:Arguments} {dV kV doc pm cdv ct oc:Value} {an od:Option Addr} {osl:Array (Option Value)}
 (lk:K.lookup f=some ⟨oc,od,.func (PySem.W.fnOf name qual params (Sl js p1 p2 p3 p5 p6 q1 q2 q3 q4 r1 r2 r3 r4) scope dV kV doc pm an cdv ct),osl⟩) (hcd:PySem.W.codeIn K cdv qual=true) (Sc:Bg ["self","many","most"] ["self","many","most"] scope)
 (tm:tmX K C f=true) (sw:swX K S=true) (hS:PySem.W.nsIn K mainGlobals "SwitchError"=some (some (.ref S)))
 (hg:∀A outer s H E,Gl (AW (AE P w K) P w K mg base ["self","many","most"] qual scope f cdv A outer s H E) "SwitchError")
 (ha:∀A outer s H E,Ct (AW (AE P w K) P w K mg base ["self","many","most"] qual scope f cdv A outer s H E) E [.Name "self" p3,js] (Aa (Ab 0) (Aa EO Ad)))
 (he:∀(env:Env) (pl:Sem Bool),pl=(do return (←importBound (.Name "SwitchError" p1) env).getD true)→eval (.Call (.Attribute (.Name "SwitchError" p1) "__init__" p2) [.Name "self" p3,js] [] p5) env=(do
  let ov ←eval (.Name "SwitchError" p1) env
  standAt p2.atName
  let (f,first) ←holding [ov] (getMethod ov "__init__" pl)
  callWith p5 f first (backTo p5 (starEach [.Name "self" p3,js] env)) (backToKw p5 (keywordEach [] env))))
 (hst:∀env:Env,starEach [.Name "self" p3,js] env=(false,eval (.Name "self" p3) env)::starEach [js] env) (hpl:∀env:Env,(backTo p5 (starEach [js] env)).any (·.1)=false)
 (hsw1:∀env:Env,swapsWith (.Call (.Attribute (.Name "SwitchError" p1) "__init__" p2) [.Name "self" p3,js] [] p5) none p6.line env=pure false) (hsw2:∀env:Env,swapsWith (.Name "many" q3) (some (.Attribute (.Name "self" q1) "many" q2)) q4.line env=pure false) (hsw3:∀env:Env,swapsWith (.Name "most" r3) (some (.Attribute (.Name "self" r1) "most" r2)) r4.line env=pure false)
 (v0:Eo scope "self") (v1:Eo scope "many") (v2:Eo scope "most"):
 FnOk P w K mg base (AE P w K) (k+1) f (PySem.W.fnOf name qual params (Sl js p1 p2 p3 p5 p6 q1 q2 q3 q4 r1 r2 r3 r4) scope dV kV doc pm an cdv ct) ["self","many","most"] (LP K C):=by
 refine M3 lk hcd Sc (fun vs H Q E z=>by obtain ⟨e,a,b,_,_,_,_,rfl,_⟩:=z;rfl) fun A outer s H vs Q E hr z=>?_
 obtain ⟨e,a,b,m,h,h2,x,rfl,hr1,hH,hj,q⟩:=z
 refine ⟨_,MN (Pe (Zc (fI:=f) tm sw (hg A outer s H E) hS (ha A outer s H E) (he _) (hst _) (hpl _)) (hsw1 _)) (MN (Zd (fI:=f) tm rfl v0 rfl v1 (hsw2 _)) (Pd (Ze (fI:=f) tm rfl v0 rfl v2 (hsw3 _)))),?_⟩
 refine ⟨e,by show H e≠none;rw [hH];simp,hH,m,[some (.adr e),some (.int a),some (.int b)],h,HR.del hr1 hH,?_,?_⟩
 ·refine ⟨rfl,fun i d ed=>?_⟩
  match i,ed with
  |0,ed=>cases ed;exact ⟨.ref e,rfl,by simp [DV]⟩
  |1,ed=>cases ed;exact ⟨.int a,rfl,by simp [DV]⟩
  |2,ed=>cases ed;exact ⟨.int b,rfl,by simp [DV]⟩
  |i+3,ed=>cases ed
 ·have ev:Aa (Ab 0) (Aa EO Ad) [some (.adr e),some (.int a),some (.int b)] h=.ok [.adr e,.str x] h2:=by
   unfold Aa Ad
   show (Out.ok (D.adr e) h).bind _=_
   simp only [Out.bind_ok]
   rw [show EO [some (.adr e),some (.int a),some (.int b)] h=EO [none,some (.int a),some (.int b)] h from rfl,hj]
   rfl
  rw [ev]
  intro vs m1 H1 p1 k1 hr2 r
  simp only [Ec,DVs,DV] at r
  obtain ⟨v1,w1,rfl,rfl,v2,w2,rfl,rfl,rfl⟩:=r
  refine ⟨x,rfl,fun ne=>⟨e,a,rfl,rfl,Bt,fun da u ru n1 n2=>⟨e,da,a,b,u,rfl,rfl,ru,?_,Bt,n2,?_⟩⟩⟩
  ·rw [Ao (Ne.symm n2)];exact Bt
  ·rw [MK,MK]
   exact q m1 H1 da p1 k1 hr2 ne (by rw [Ao n2] at n1;exact n1) n2
end
theorem Zg {M:Model} {A:Around} {E:Value→Shared→Prop} {s:Shared} {env:Env} {x:Sem Value} {Q:Flow→Shared→Prop} {nm q:Str} {C N:Addr} {bs bm:List Value} {hd:Bool} {sn:List Str} {sub:List Value} {ab:Bool} {col:Option Bool} {dd:Option Addr} {k0 k1 k2 k3 k5:Option Value} {newId:String}
 (hb:(Value.ref C::bm).contains (.type "BaseException")=true) (hh:A.handled=none) (h:wpAny M A x (fun v s1=>∃e t da,v=.ref e∧s1.heap.get? C=some (excClassObj nm q C N bs bm hd sn sub ab col dd k0 k1 k2 k3 k5 newId)∧s1.heap.get? e=some (FT C t da)∧E (.ref e) s1) E s):
 wpAny M A (raiseStmt env (some x) none) Q E s:=by
 unfold raiseStmt
 refine wpAny_bind (wpAny_mono h (fun v s1 z=>?_) fun _ _ z=>z)
 obtain ⟨e,t,da,rfl,hC,he,hE⟩:=z
 unfold FT at he
 obtain ⟨hp,g,d,tk,os⟩:=s1
 repeat (first |with_reducible refine wpAny_loadPart_at he ?_ |with_reducible refine wpAny_loadPart_at hC ?_ |(with_reducible refine wpAny_isSubtype_exc hC ?_;rw [hb]) |wp_step)
 exact wpAny_raiseNew_none hh hE
noncomputable def JQ (fa:MA):MS:=fun ρ h=>(fa ρ h).bind fun xs h1=>match xs with
 |[.int a,.int b]=>(match EO [none,some (.int a),some (.int b)] h1 with
  |.ok (.str _) h2=>.err (DS "TooMany") [("many",.int a),("most",.int b)] h2
  |_=>.stuck)
 |_=>.stuck
section
variable {X:Cx} {E:XK} {C fI:Addr} {fd:FuncData} {k:Nat}
theorem Zh {e1 e2:Expr} {fa:MA} {np cpos pos:Pos} {oI:Obj} (lv:Lv X E) (tm:tmX X.K C fI=true) (F:FnOk X.prog X.w X.K X.mg X.base (AE X.prog X.w X.K) k fI fd ["self","many","most"] (LP X.K C)) (hb:Binds X.K fd ["self","many","most"] []) (hr:Room (k+1) X.A)
 (lI:X.K.lookup fI=some oI) (cI:oI.cls=.type "function") (kp:PySem.W.keepIn X.K (.ref C)=true) (nmC:PySem.W.nsIn X.K mainGlobals "TooMany"=some (some (.ref C))) (hg:Gl X "TooMany") (hc:X.calm=true) (ha:Ct X E [e1,e2] fa)
 (hs:starEach [e1,e2] X.env=(false,eval e1 X.env)::starEach [e2] X.env:=by rfl) (hpl:(backTo cpos (starEach [e2] X.env)).any (·.1)=false:=by rfl):Ex X E (.Raise (some (.Call (.Name "TooMany" np) [e1,e2] [] cpos)) none pos) (JQ fa):=by
 rintro pins s σ H D I ⟨m,ρ,h,hr0,er,p⟩
 obtain ⟨bm,N,nm,qn,bs,sn,sub,ab,col,dd,k0,k1,k2,k3,k5,mN,hC,hN,hi,no,T⟩:=JP tm I.mod.kin
 have base:(Value.ref C::bm).contains (.type "BaseException")=true:=by rw [Kh,T.has (by decide),Bool.or_true]
 rw [arm_exec_Raise]
 refine wpAny_bind (wpAny_standAt ?_)
 show wpAny _ _ (raiseStmt X.env (some (do let v ←eval (.Call (.Name "TooMany" np) [e1,e2] [] cpos) X.env;standAt pos;pure v)) none) _ _ s
 refine Zg base (I.ok.hd hc) (nm:=nm) (q:=qn) (N:=N) (bs:=bs) (hd:=true) (sn:=sn) (sub:=sub) (ab:=ab) (col:=col) (dd:=dd) (k0:=k0) (k1:=k1) (k2:=k2) (k3:=k3) (k5:=k5) (newId:="ValueError.__new__") ?_
 refine wpAny_bind (wpAny_mono (Q:=fun v s1=>∃e t da,v=.ref e∧s1.heap.get? C=some (excClassObj nm qn C N bs bm true sn sub ab col dd k0 k1 k2 k3 k5 "ValueError.__new__")∧s1.heap.get? e=some (FT C t da)∧X.xe (.ref e) s1) ?_ (fun v s1 z=>wpAny_bind (wpAny_standAt (wpAny_pure z))) fun _ _ z=>z)
 refine wpAny_Call_Name_kw (F6 I hg (PySem.W.mg_of I.mod.kin I.mod.glob nmC) ?_)
 refine PySem.W.callWith_K (h₀:=X.base) I.ok.mod.kin kp (Az (ha cpos pins s σ H (fun vs H1=>∃a b m1 h1 h2 x,vs=[.int a,.int b]∧m <+:m1∧Kp H H1∧HR X.K m1 h1 H1∧EO [none,some (.int a),some (.int b)] h1=.ok (.str x) h2∧Post X.K (rD X.K) m1 H1 E (fun _ _=>True) (.err (DS "TooMany") [("many",.int a),("most",.int b)] h2:Out LS.D)) I ⟨m,ρ,h,hr0,er,?_⟩) ?_) hs hpl
 ·unfold JQ at p
  refine PostS.bind p fun xs h1 vs m1 H1 _ p1 k1 hr1 r1 q1=>?_
  split at q1
  ·rename_i a b _
   split at q1
   ·rename_i x h2 hx
    simp only [Ec,DVs,DV] at r1
    obtain ⟨v1,w1,rfl,rfl,v2,w2,rfl,rfl,rfl⟩:=r1
    exact ⟨a,b,m1,h1,h2,x,rfl,p1,k1,hr1,hx,fun da m' H' y1 y2 y3 y4=>q1 da m' H' y1 y2 y3 y4⟩
   ·exact q1.elim
  ·exact q1.elim
 ·rintro us s1 ⟨vs,H1,I1,r,a,b,m1,h1,h2,x,rfl,p1,kk1,hr1,hj,pq⟩
  refine ⟨I1.kIn,?_⟩
  obtain ⟨hp,g,d,tk,os⟩:=s1
  refine YJ PySem.F.excBase_ValueError ((T.keeps I1.bk).tail (by decide)) (I1.bk _ _ hC) (hN.keeps I1.bk) hi (I1.kIn _ _ lI) cI (fun h' e mk=>?_) (by rw [HV,←r.length];simp [sizeLine])
  have I2:Inv X pins σ H1 ⟨h',g,d,tk,os⟩:=I1.kept (t':=tk) mk.keeps
  obtain ⟨t0,x1,x2,x3⟩:=mk.there
  have new:X.s₀.heap.get? e=none:=lv.older I1 e mk.new
  have no1:H1 e=none:=by
   cases q:H1 e with
   |none=>rfl
   |some o=>
    obtain ⟨ob,eb⟩:=Lc (I1.hok e o q)
    rw [show hp.get? e=none from mk.new] at eb;cases eb
  have neL:e≠X.env.locals:=fun z=>by
   obtain ⟨mL,⟨oL,_,_,hoL,_⟩,_⟩:=I1.loc
   rw [←z,show hp.get? e=none from mk.new] at hoL;cases hoL
  have neC:∀x c,X.env.cells.lookup x=some c→c≠e:=fun x c ex z=>by
   obtain ⟨v,o,hoc,_⟩:=I1.cell x c ex
   rw [z,show hp.get? e=none from mk.new] at hoc;cases hoc
  have neP:∀q∈X.pn++pins,q.1≠e:=fun q hq z=>by
   have:=(I1.pin q hq).1
   rw [z,show hp.get? e=none from mk.new] at this;cases this
  have I3:=LS.Inv.track I2 (o:=.mex (BQ C e none)) new no1 neL neC neP (LO ⟨t0,x1⟩)
  have hr3:HR X.K m1 h1 (Am H1 e (.mex (BQ C e none))):=hr1.new no1
  have rv:Vals [.ref e,.int a,.int b] (.ref e::us):=.cons rfl r
  refine wpAny_call (codeAny_mono (F.run (X.A.under (.builtin "type.__call__" ⟨.ref C::us,[]⟩)) X.stack ⟨h',g,d,tk,os⟩ (Am H1 e (.mex (BQ C e none))) ⟨.ref e::us,[]⟩ (.ref e::us) [.ref e,.int a,.int b]
   (fun v H4=>v=.non∧∃m4 H3 da,m1 <+:m4∧Kp H1 H3∧HR X.K m4 h2 H3∧H3 e=none∧H3 da=none∧da≠e∧H4=Am (Am H3 e (.mex (BQ C e (some da)))) da (.xd [("many",.int a),("most",.int b)])) E0 (hr.make C us []) (I3.env0.make C us []) ?_ rv
   ⟨e,a,b,m1,h1,h2,x,rfl,hr3,Bt,hj,fun m4 H3 da y1 y2 y3 y0 y4 y5=>⟨rfl,m4,H3,da,y1,by rw [Y6 no1] at y2;exact y2,y3,y0,y4,y5,rfl⟩⟩) fun res s4 hq=>?_)
  ·have:=hb ⟨h',g,d,tk,os⟩ (.ref e::us) I3.kIn (by rw [Fd,←rv.length];rfl)
   rwa [Fd] at this
  ·cases res with
   |error z=>obtain ⟨_,_,_,_,_,_,_,_,_,_,_,_,z⟩:=hq;exact z.elim
   |ok fl=>
    cases fl with
    |ret u=>
     obtain ⟨v,H4,os4,bare,un,hok,rr,rfl,m4,H3,da,y1,y2,y3,y0,y4,y5,rfl⟩:=hq
     have I4:Inv X pins σ _ s4:=I3.call' os4 un hok bare (fun b hb=>absurd hb (by simp))
     have he4:(Am (Am H3 e (.mex (BQ C e (some da)))) da (.xd [("many",.int a),("most",.int b)])) e=some (.mex (BQ C e (some da))):=by rw [Ao (Ne.symm y5)];exact Bt
     obtain ⟨⟨t4,o4⟩,_,_⟩:=(show ObjOk X.prog X.w _ s4.heap e (.mex (BQ C e (some da))) from I4.hok e _ he4)
     refine ⟨rr,e,t4,some da,rfl,I4.bk _ _ hC,o4,?_⟩
     have e5:del (Am (Am H3 e (.mex (BQ C e (some da)))) da (.xd [("many",.int a),("most",.int b)])) e=Am H3 da (.xd [("many",.int a),("most",.int b)]):=by
      funext c;unfold del Am
      by_cases z:c=e
      ·subst z;rw [if_pos rfl,if_neg (Ne.symm y5),y0]
      ·rw [if_neg z]
       split
       ·rfl
       ·first |rfl |rw [if_neg z]
     have I5:=LS.Inv.untrack I4 he4
     rw [e5] at I5
     refine QY lv I5 o4 rfl rfl rfl rfl rfl new (by rw [Ao (Ne.symm y5)];exact y0) nmC (pq (some da) m4 _ y1 (y2.trans (.new y4)) (y3.new y4) fun f v z=>?_)
     by_cases f1:f="many"
     ·subst f1
      cases z
      exact ⟨da,_,.int a,rfl,Bt,rfl,by simp [DV]⟩
     ·by_cases f2:f="most"
      ·subst f2
       cases z
       exact ⟨da,_,.int b,rfl,Bt,rfl,by simp [DV]⟩
      ·have g1:(f=="many")=false:=by simp [f1]
       have g2:(f=="most")=false:=by simp [f2]
       simp only [FH,g1,g2] at z
       cases z
    |next=>exact hq.elim
    |brk=>exact hq.elim
    |cont=>exact hq.elim
end
def N7 (nm:Str):D→HD→Out D
 |.exc n fs,h=>if n="TooMany" then (match fs.lookup nm with
  |some i=>.ok (.int i) h
  |none=>.stuck) else .stuck
 |_,_=>.stuck
noncomputable def JR (f:ME) (nm:Str):ME:=fun ρ h=>(f ρ h).bind fun d h1=>N7 nm d h1
section
variable {X:Cx} {E:XK} {C fI:Addr}
theorem Sn {o:Expr} {f:ME} {nm:Str} {pos:Pos} (tm:tmX X.K C fI=true) (nmC:PySem.W.nsIn X.K mainGlobals "TooMany"=some (some (.ref C))) (hin:nm="many"∨nm="most") (ho:Ev X E o f)
 (he:eval (.Attribute o nm pos) X.env=(eval o X.env >>=fun v=>standAt pos.atName >>=fun _=>holding [v] (getAttr v nm true) >>=fun r=>pure r):=by rfl):Ev X E (.Attribute o nm pos) (JR f nm):=by
 rintro pins s σ H Q I ⟨m,ρ,h,hr,er,p⟩
 have hB:typeLookup (.type "ValueError") nm=pure none:=by rcases hin with rfl |rfl<;>(rw [typeLookup_type,builtinLookup_eq_fast];kernel_rfl)
 have hin2:nm∈tmNames.tail:=by rcases hin with rfl |rfl<;>decide
 rw [he]
 refine wpAny_bind (wpAny_mono (ho pins s σ H (fun v H1=>∃a i C' da d fv,v=.ref a∧C'=C∧H1 a=some (.ext (Fh C' da a))∧da=some d∧H1 d=some (.xd fv)∧fv.lookup nm=some (.int i)∧Q (.int i) H1) I ⟨m,ρ,h,hr,er,Post.bind p fun d h1 v m1 H1 _ p1 k1 hr1 r1 q1=>?_⟩) (fun u s1 z=>?_) fun _ _ z=>z)
 ·unfold N7 at q1
  split at q1
  ·rename_i n fs
   split at q1
   ·rename_i hn
    subst hn
    split at q1
    ·rename_i i hi
     simp only [rD,DV] at r1
     obtain ⟨a,C',da,rfl,c1,c2,c3⟩:=r1
     rw [nmC] at c1
     cases c1
     obtain ⟨d,fv,z1,z2,z3⟩:=c3 nm i hi
     exact ⟨a,i,C,da,d,fv,rfl,rfl,c2,z1,z2,z3,q1 (.int i) m1 H1 (AJ _) (.refl _) hr1 (by simp [rD,DV])⟩
    ·exact q1.elim
   ·exact q1.elim
  ·exact q1.elim
 ·obtain ⟨v,H1,I1,r,a,i,C',da,d,fv,rfl,rfl,ha,rfl,hd,hf,q⟩:=z
  cases (show u=Value.ref a from r)
  refine wpAny_bind (wpAny_standAt (wpAny_bind (wpAny_holding ?_)))
  obtain ⟨bm,N,nn,qn,bs,sn,sub,ab,col,dd,k0,k1,k2,k3,k5,mN,hC,hN,hi,no,T⟩:=JP tm I1.kIn
  obtain ⟨⟨oe,vs,x1,x2,x3,x4⟩,_,_⟩:=(show ObjOk X.prog X.w H1 s1.heap a (.ext (Fh C' (some d) a)) from I1.hok a _ ha)
  obtain ⟨mA,n1,rel⟩:=(show ObjOk X.prog X.w H1 s1.heap d (.xd fv) from I1.hok d _ hd)
  have rl:=rel nm
  rw [hf] at rl
  obtain ⟨w,ew,rw1⟩:=RelO.some_of rl
  have ne:d≠a:=TV hd ha (by intro z;cases z)
  have II:s1.heap.Inst a C' mA:=⟨oe,x1,x2,fun c z=>(by rw [x4] at z;cases z),.inr ⟨d,x3 d rfl,ne,n1⟩⟩
  obtain ⟨hp,g,dr,tk,os⟩:=s1
  obtain ⟨t1,rfl⟩:∃t1,w=.int i t1:=rw1
  refine Y3 PySem.F.attrBase_ValueError hC hN T (MH hin2) (by decide) (by decide) (no nm hin2) (no _ (by decide)) (no _ (by decide)) hB II ew (by rfl) ?_
  exact wpAny_pure ⟨.int i,H1,I1.tok (tk+1),⟨t1,rfl⟩,q⟩
end
end LS
namespace Tp
open PySem PySem.W PySem.Spec PySem.Calls PyProof.Rows
section
variable {α β:Type}
noncomputable def fN (n:Nat) (k:Nat→α):α:=@Nat.rec (fun _=>α) (k 0) (fun m _=>k (Nat.succ m)) n
theorem LQ (n:Nat) (k:Nat→α):fN n k=k n:=by cases n<;>rfl
noncomputable def fL (l:List β):(List β→α)→α:=@List.rec β (fun _=>(List β→α)→α) (fun k=>k []) (fun a _ ih k=>ih fun l'=>k (a::l')) l
theorem JS:∀(l:List β) (k:List β→α),fL l k=k l
 |[],_=>rfl
 |a::l,k=>JS l fun l'=>k (a::l')
noncomputable def fE (l:List DictEntry):(List DictEntry→α)→α:=@List.rec DictEntry (fun _=>(List DictEntry→α)→α) (fun k=>k []) (fun a _ ih k=>ih fun l'=>@DictEntry.rec (fun _=>α) (fun x y z=>k (⟨x,y,z⟩::l')) a) l
theorem So:∀(l:List DictEntry) (k:List DictEntry→α),fE l k=k l
 |[],_=>rfl
 |⟨_,_,_⟩::l,k=>So l fun l'=>k (_::l')
noncomputable def fD (d:Data) (k:Data→α):α:=@Data.rec (fun _=>α) (k .plain) (fun v=>k (.prim v)) (fun x n=>@Array.rec Value (fun _=>α) (fun l=>fL l fun l=>fN n fun n=>k (.seq ⟨l⟩ n)) x)
 (fun x n=>@Array.rec DictEntry (fun _=>α) (fun l=>fE l fun l=>fN n fun n=>k (.dict ⟨l⟩ n)) x) (fun x n t=>k (.set x n t)) (fun b n=>k (.bytearray b n)) (fun v=>k (.cell v)) (fun f=>k (.func f)) (fun c=>k (.cls c))
 (fun x=>@Array.rec Value (fun _=>α) (fun l=>fL l fun l=>k (.fields ⟨l⟩)) x) (k .freed) d
theorem Zi (d:Data) (k:Data→α):fD d k=k d:=by
 cases d with
 |seq x n=>cases x;simp only [fD,JS,LQ]
 |dict x n=>cases x;simp only [fD,So,LQ]
 |fields x=>cases x;simp only [fD,JS]
 |_=>rfl
noncomputable def fO (o:Obj) (k:Obj→α):α:=@Obj.rec (fun _=>α) (fun c d da sl=>fD da fun da=>k ⟨c,d,da,sl⟩) o
theorem Sq (o:Obj) (k:Obj→α):fO o k=k o:=by cases o;simp only [fO,Zi]
noncomputable def fT (t:BT):(BT→α)→α:=@BT.rec (fun _=>(BT→α)→α) (fun k=>k .nil) (fun v _ _ il ir k=>fO v fun v=>il fun l=>ir fun r=>k (.node v l r)) t
theorem N8:∀(t:BT) (k:BT→α),fT t k=k t
 |.nil,_=>rfl
 |.node v l r,k=>by
  show fO v (fun v=>fT l fun l=>fT r fun r=>k (.node v l r))=_
  rw [Sq,N8 l,N8 r]
noncomputable def fS (s:SharedT) (k:SharedT→α):α:=@SharedT.rec (fun _=>α) (fun t n li g d tk os=>fT t fun t=>fN n fun n=>fN tk fun tk=>@Drawn.rec (fun _=>α) (fun a b c e=>@Array.rec GenState (fun _=>α) (fun g=>fL g fun g=>k ⟨t,n,li,⟨g⟩,⟨a,b,c,e⟩,tk,os⟩) g) d) s
theorem N9 (s:SharedT) (k:SharedT→α):fS s k=k s:=by
 obtain ⟨t,n,li,⟨g⟩,⟨a,b,c,e⟩,tk,os⟩:=s
 simp only [fS,N8,LQ,JS]
noncomputable def fP (p:Pos) (k:Pos→α):α:=@Pos.rec (fun _=>α) (fun a b c d=>fN a fun a=>fN b fun b=>fN c fun c=>fN d fun d=>k ⟨a,b,c,d⟩) p
theorem Oa (p:Pos) (k:Pos→α):fP p k=k p:=by cases p;simp only [fP,LQ]
end
section
variable (stp:SharedT→Thread→Option (SharedT×Thread)) (ok:Thread→Bool) (seg:Nat→SharedT→Thread→Option (Flow×SharedT×Code×Pos))
noncomputable def IR (env:Env) (c:Code) (f:Nat):List (List Stmt)→SharedT→Pos→List Code→Option (SharedT×Pos×List Code)
 |[],s,pos,cs=>some (s,pos,cs)
 |l::ls,s,pos,cs=>match seg f s (piecesOf l env c pos [topFrame ⟨0,0,0,0⟩]) with
  |some (.next,s',c',pos')=>fS s' fun s'=>fP pos' fun pos'=>IR env c f ls s' pos' (c'::cs)
  |_=>none
def LR:Nat→SharedT→Thread→Option (SharedT×Thread)
 |0,s,t=>some (s,t)
 |n+1,s,t=>match through t with
  |true=>none
  |false=>match ok t with
   |false=>none
   |true=>match stp s t with
    |some (s',t')=>LR n s' t'
    |none=>none
def LU:Nat→SharedT→Thread→Option SharedT
 |0,_,_=>none
 |n+1,s,t=>match through t with
  |true=>some s
  |false=>match ok t with
   |false=>none
   |true=>match stp s t with
    |some (s',t')=>LU n s' t'
    |none=>none
def cut:Nat→List Stmt→List (List Stmt)
 |0,l=>[l]
 |n+1,l=>match l with
  |[]=>[]
  |x::l=>[x]::cut n l
theorem Sr:∀(n:Nat) (l:List Stmt),(cut n l).flatten=l
 |0,l=>by simp [cut]
 |_+1,[]=>rfl
 |n+1,x::l=>by simp [cut,Sr n l]
theorem Ss:∀(n:Nat) (l:List Stmt),(cut n l).length≤n+1
 |0,l=>AO _
 |_+1,[]=>BU _
 |n+1,x::l=>Nat.succ_le_succ (Ss n l)
def Ob (p:Program):Env:={scope:=p.main.scope,locals:=mainNs,globals:=mainNs,cells:=[],code:=.ref 13,frame:=some 14}
def Hh (p:Program):Code:=.body (behindTheImports p) (Ob p)
noncomputable def Fx (p:Program) (S0:SharedT):Option (Thread×List Code×SharedT):=match LR stp ok 12 S0 (topStub p) with
 |some (sa,ta)=>match seg 1 sa (blockOf (behindTheImports p) (Ob p) (Hh p) ⟨0,0,0,0⟩ [topFrame ⟨0,0,0,0⟩]) with
  |some (.next,sb,cb,pb)=>fS sb fun sb=>fP pb fun pb=>match IR seg (Ob p) (Hh p) 2000 (cut 400 (behindTheImports p)) sb pb [cb] with
   |some (sf,pf,cs)=>match LU stp ok 2 sf ⟨doneF .next,Hh p,pf,[topFrame ⟨0,0,0,0⟩]⟩ with
    |some sg=>some (ta,cs,sg)
    |none=>none
   |none=>none
  |_=>none
 |none=>none
end
noncomputable def Su (P:Params) (os:OsState):SharedT:=⟨((boot_heap P).objs.toList.foldl (fun (x:BT×Nat) o=>(x.1.ins x.2 o,x.2+1)) (.nil,0)).1,11,(boot_heap P).life,⟨[]⟩,boot_drawn,boot_toks,os⟩
theorem Zj (P:Params) (os:OsState):(Su P os).abs=⟨boot_heap P,⟨[]⟩,boot_drawn,boot_toks,os⟩:=by kernel_rfl
section
variable {α:Type}
noncomputable def Oc (l:List Obj):(List Obj→α)→α:=@List.rec Obj (fun _=>(List Obj→α)→α) (fun k=>k []) (fun a _ ih k=>fO a fun a=>ih fun l'=>k (a::l')) l
theorem Sv:∀(l:List Obj) (k:List Obj→α),Oc l k=k l
 |[],_=>rfl
 |a::l,k=>by show fO a (fun a=>Oc l fun l'=>k (a::l'))=_;rw [Sq,Sv]
noncomputable def fin (s:SharedT) (k:Shared→α):α:=Oc (s.tree.list s.n) fun l=>k ⟨⟨⟨l⟩,s.life⟩,s.gens,s.drawn,s.toks,s.os⟩
theorem Zk (s:SharedT) (k:Shared→α):fin s k=k s.abs:=Sv _ _
end
section
variable {tb:String→Option Builtin} {p:Program} {w:World} {m0:Nat} {ann:Option Value}
theorem Sx:∀{n:Nat} {s s':SharedT} {t t':Thread},LR (stepT (denote tb) p w) (stepOk m0 ann) n s t=some (s',t')→topGo tb p w m0 ann n s.abs t=some (s'.abs,t')
 |0,_,_,_,_,h=>by cases h;rfl
 |n+1,s,s',t,t',h=>by
  unfold LR at h
  unfold topGo
  cases he:through t with
  |true=>rw [he] at h;cases h
  |false=>
   rw [he] at h
   cases hk:stepOk m0 ann t with
   |false=>rw [hk] at h;cases h
   |true=>
    rw [hk] at h
    cases hs:stepT (denote tb) p w s t with
    |none=>rw [hs] at h;cases h
    |some r=>obtain ⟨s₂,t₂⟩:=r;rw [hs] at h;rw [stepT_spec hs];exact Sx h
theorem Sy:∀{n:Nat} {s s':SharedT} {t:Thread},LU (stepT (denote tb) p w) (stepOk m0 ann) n s t=some s'→topRun tb p w m0 ann n s.abs t=some s'.abs
 |0,_,_,_,h=>by cases h
 |n+1,s,s',t,h=>by
  unfold LU at h
  unfold topRun
  cases he:through t with
  |true=>rw [he] at h;cases h;rfl
  |false=>
   rw [he] at h
   cases hk:stepOk m0 ann t with
   |false=>rw [hk] at h;cases h
   |true=>
    rw [hk] at h
    cases hs:stepT (denote tb) p w s t with
    |none=>rw [hs] at h;cases h
    |some r=>obtain ⟨s₂,t₂⟩:=r;rw [hs] at h;rw [stepT_spec hs];exact Sy h
theorem Od {seg:Nat→SharedT→Thread→Option (Flow×SharedT×Code×Pos)} {env:Env} {c:Code} {f:Nat}:∀{ls:List (List Stmt)} {s sf:SharedT} {pos pf:Pos} {c0 cs:List Code},IR seg env c f ls s pos c0=some (sf,pf,cs)→∀x∈c0,x∈cs
 |[],_,_,_,_,_,_,h,x,hx=>by cases h;exact hx
 |l::ls,s,sf,pos,pf,c0,cs,h,x,hx=>by
  unfold IR at h
  split at h
  ·rw [N9,Oa] at h;exact Od h x (.tail _ hx)
  ·cases h
theorem Sz {env:Env} {c:Code} {f:Nat}:∀{ls:List (List Stmt)} {s sf:SharedT} {pos pf:Pos} {c0 cs:List Code},IR (segRunT tb p w m0 ann 1) env c f ls s pos c0=some (sf,pf,cs)→(∀x∈cs,x=c)→∀{N:Nat} {r:Shared},
 topRun tb p w m0 ann N sf.abs ⟨doneF .next,c,pf,[topFrame ⟨0,0,0,0⟩]⟩=some r→topRun tb p w m0 ann (ls.length*f+N) s.abs (restOf ls.flatten env c pos [topFrame ⟨0,0,0,0⟩])=some r
 |[],s,sf,pos,pf,c0,cs,h,hc,N,r,k=>by
  cases h
  rw [FJ,Nat.zero_mul,Nat.zero_add]
  exact piece_nil k
 |l::ls,s,sf,pos,pf,c0,cs,h,hc,N,r,k=>by
  unfold IR at h
  split at h
  ·rename_i s' c' pos' e
   rw [N9,Oa] at h
   have e1:=segRun_of e
   rw [hc c' (Od h c' (.head _))] at e1
   have:=piece_app (rest:=ls.flatten) e1 (Sz h hc k)
   rw [Fc,Nat.succ_mul,Nat.add_comm (ls.length*f) f,Nat.add_assoc]
   exact this
  ·cases h
end
noncomputable def Zl {α:Type} (OS:Program→List Str→List Str→(Shared→Bool)→Bool→Shared→_) (IM:List Stmt→List Str) (p q:Program) (loose:List Str) (Yf:Shared→α) (H₀:Heap) (s:Shared):=
 ((staticsOk (IM p.main.body) H₀ s.heap&&namesBound p s.heap&&gensDone s&&laidKept H₀ s.heap),(OS q loose (IM p.main.body) (fun _=>true) true s:type_of% (openSeen q loose [] (fun _=>true) true s)),Yf s)
theorem left_of {p q:Program} {loose:List Str} {α:Type} {Yf:Shared→α} {Ya:World→α} {n:Nat} (e:opening p=plainProg p.main.scope.names) (fm:∀s,fenceModules? p s=some s)
 (size:∀w:World,((boot_heap w.params).isNs mainGlobals&&(Array.mk ([]:List GenState)).size==0,(boot_heap w.params).objs.size,(boot_heap w.params).nsMap mainGlobals "__annotations__")=(true,11,some (.ref 6)))
 (h:∀(w:World) (os:OsState),(Fx (stepT (denote treeTable) p w) (stepOk 11 (some (.ref 6))) (segRunT treeTable p w 11 (some (.ref 6)) 1) p (Su w.params os)).map (fun r=>(r.1,r.2.1,fin r.2.2 (Zl openSeen importedModules p q loose Yf (boot_heap w.params))))=
  some (⟨denote treeTable (Hh p),Hh p,⟨0,0,0,0⟩,[topFrame ⟨0,0,0,0⟩]⟩,List.replicate n (Hh p),(true,openGood q loose,Ya w))):
 LeftO p q loose (fun _=>true) Yf Ya 1000000:=fun w=>by
 obtain ⟨⟨hp,gs,d,k,os⟩,e0,e'⟩:=qaY.mp (boot_open (N:=1000000) e rfl fm w)
 obtain ⟨rfl,rfl,rfl,rfl⟩:hp=boot_heap w.params∧gs=Array.mk []∧d=boot_drawn∧k=boot_toks:=by simpa using e'
 obtain ⟨z1,z2,z3⟩:_∧_∧_:=by simpa only [Prod.mk.injEq] using size w
 obtain ⟨⟨ta,cs,sg⟩,h1,h2⟩:=qaY.mp (h w os)
 dsimp only at h2
 rw [Zk] at h2
 obtain ⟨h3,h4⟩:=Prod.mk.inj h2
 obtain ⟨h5,h6⟩:=Prod.mk.inj h4
 obtain ⟨l1,h7⟩:=Prod.mk.inj h6
 obtain ⟨l2,l3⟩:=Prod.mk.inj h7
 have hcs:∀x∈cs,x=Hh p:=fun x hx=>by rw [h5] at hx;exact My hx
 have run:topRun treeTable p w 11 (some (.ref 6)) 1000000 ⟨boot_heap w.params,Array.mk [],boot_drawn,boot_toks,os⟩ (topStub p)=some sg.abs:=by
  rw [←Zj]
  unfold Fx at h1
  split at h1
  ·rename_i sa ta' ea
   split at h1
   ·rename_i sb cb pb eb
    rw [N9,Oa] at h1
    split at h1
    ·rename_i sf pf cs' ec
     split at h1
     ·rename_i sg' eg
      cases h1
      have hb:=segRun_of eb
      rw [hcs cb (Od ec cb (.head _))] at hb
      have c1:=Sz ec hcs (Sy eg)
      rw [Sr] at c1
      have c2:=piece_block hb c1
      have c3:=Sx ea
      rw [h3] at c3
      have c4:=go_top c3 c2
      have hl:=Ss 400 (behindTheImports p)
      have:=topRun_mono (1000000 - (12+(1+((cut 400 (behindTheImports p)).length*2000+2)))) _ _ _ _ c4
      rwa [show 12+(1+((cut 400 (behindTheImports p)).length*2000+2))+(1000000 - (12+(1+((cut 400 (behindTheImports p)).length*2000+2))))=1000000 by omega] at this
     ·cases h1
    ·cases h1
   ·cases h1
  ·cases h1
 have t:topFrom treeTable p w 1000000 ⟨boot_heap w.params,Array.mk [],boot_drawn,boot_toks,os⟩=some sg.abs:=by
  unfold topFrom
  dsimp only
  rw [z1,z2,z3,run]
  show (match staticsOk (importedModules p.main.body) (boot_heap w.params) sg.abs.heap&&namesBound p sg.abs.heap&&gensDone sg.abs&&laidKept (boot_heap w.params) sg.abs.heap with |true=>_ |false=>_)=_
  rw [l1]
 unfold openEnds
 rw [e0]
 show (topFrom treeTable p w 1000000 _).map _=_
 rw [t]
 exact congrArg some (Prod.ext l2 l3)
def SA (h:Heap) (a:Addr):Option (Addr×Obj):=match h.get? a with
 |some o=>(match o.cls,a==mainNs||a==cStatics with
  |.none,false=>none
  |_,_=>some (a,o))
 |none=>none
def Oe (h:Heap):Frag:=(List.range h.objs.size).filterMap (SA h)
theorem lookup_mem {a:Addr} {o:Obj}:∀{l:Frag},l.lookup a=some o→(a,o)∈l
 |[],h=>by cases h
 |(b,o')::l,h=>by
  rw [FH] at h
  split at h
  ·rename_i q
   cases h
   rw [beq_iff_eq.mp q]
   exact .head _
  ·exact .tail _ (lookup_mem h)
theorem Zm (h:Heap):(Oe h).In h:=fun a o e=>by
 obtain ⟨b,_,hb⟩:=List.mem_filterMap.mp (lookup_mem e)
 unfold SA at hb
 split at hb
 ·rename_i o' e'
  split at hb
  ·cases hb
  ·cases hb;exact e'
 ·cases hb
def blank (fd:FuncData):FuncData:={fd with kwdefaults:=.none,doc:=.none,pyModule:=.none,annotations:=none,code:=.none,closureTuple:=.none}
def LV (K:Frag) (n:Str):Option (FuncData×Bool×Bool):=match nsIn K mainGlobals n with
 |some (some (.ref f))=>(match K.lookup f with
  |some ⟨_,_,.func fd,_⟩=>some (blank fd,codeIn K fd.code n,keepIn K (.ref f))
  |_=>none)
 |_=>none
abbrev Of (n:Str) (st:Stmt):FuncData:=fnOf n n (L2.defArgs st) (L2.defBody st) (L2.defScope st) .none .none .none .none none .none .none
inductive Og (K:Frag) (n:Str) (st:Stmt):Prop where
 |mk (f:Addr) (od an:Option Addr) (sl:Array (Option Value)) (oc kV dc pm cd ct:Value) (a:nsIn K mainGlobals n=some (some (.ref f)))
  (l:K.lookup f=some ⟨oc,od,.func (fnOf n n (L2.defArgs st) (L2.defBody st) (L2.defScope st) .none kV dc pm an cd ct),sl⟩) (c:codeIn K cd n=true) (k:keepIn K (.ref f)=true):Og K n st
theorem Zn {K:Frag} {n:Str} {st:Stmt} (e:LV K n=some (Of n st,true,true)):Og K n st:=by
 unfold LV at e
 split at e
 ·rename_i f hf
  split at e
  ·rename_i oc od fd sl hl
   obtain ⟨e1,e2⟩:=Prod.mk.inj (Option.some.inj e)
   obtain ⟨e3,e4⟩:=Prod.mk.inj e2
   obtain ⟨x1,x2,x3,x4,x5,x6,x7,x8,x9,x10,x11,x12,x13,x14,x15⟩:=fd
   replace e1:FuncData.mk x1 x2 x3 x4 x5 x6 x7 x8 .none .none .none none .none .none x15=Of n st:=e1
   injection e1 with y1 y2 y3 y4 y5 y6 y7 y8 y9 y10 y11 y12 y13 y14 y15
   subst x1 x2 x3 x4 x5 x6 x7 x8 x15
   exact ⟨f,od,x12,sl,oc,x9,x10,x11,x13,x14,hf,hl,e3,e4⟩
  ·cases e
 ·cases e
def LW (K:Frag) (x:Str):Option Int:=match nsIn K mainGlobals x with
 |some (some (.int v _))=>some v
 |_=>none
theorem Zo {K:Frag} {x:Str} {v:Int} (e:LW K x=some v):∃t,nsIn K mainGlobals x=some (some (.int v t)):=by
 unfold LW at e
 split at e
 ·rename_i t h;cases e;exact ⟨t,h⟩
 ·cases e
def Oh (K:Frag) (h:Heap):Option (Option Obj×Bool×Bool):=match LS.tabP K with
 |some (c,T)=>some (h.get? T,codeHdIn K c T,(K.lookup T).isNone)
 |none=>none
structure Want where
 fs:List (Str×Stmt)
 cs:List (Str×Int)
 bs:List Str
abbrev LY:=List (Option (FuncData×Bool×Bool))×List (Option Int)×List (Option (Option Value))×Bool×Option (Option Obj×Bool×Bool)
noncomputable def Zes (W:Want) (s:Shared):LY:=fL (Oe s.heap) fun K=>
 (W.fs.map fun x=>LV K x.1,W.cs.map fun x=>LW K x.1,W.bs.map (nsIn K mainGlobals),LS.etOk K,Oh K s.heap)
def SB (W:Want):LY:=(W.fs.map fun x=>some (Of x.1 x.2,true,true),W.cs.map fun x=>some x.2,W.bs.map fun _=>some none,true,some (some (tabObj #[]),true,true))
inductive Has (W:Want) (K:Frag) (c T:Addr):Prop where
 |mk (fs:∀(i:Nat) n st,W.fs[i]?=some (n,st)→Og K n st) (cs:∀(i:Nat) n v,W.cs[i]?=some (n,v)→∃t,nsIn K mainGlobals n=some (some (.int v t))) (bs:∀(i:Nat) n,W.bs[i]?=some n→nsIn K mainGlobals n=some none)
  (et:LS.etOk K=true) (tb:LS.tabP K=some (c,T)) (hd:codeHdIn K c T=true) (no:K.lookup T=none):Has W K c T
def Says (W:Want) (_:World) (h:Heap):Prop:=∃(K:Frag) (c T:Addr),K.In h∧Has W K c T∧h.get? T=some (tabObj #[])
theorem Says.keeps {W:Want} (w:World) (h h':Heap) (x:Says W w h) (k:∀b o,h.get? b=some o→h'.get? b=some o):Says W w h':=by
 obtain ⟨K,c,T,h1,h2,h3⟩:=x
 exact ⟨K,c,T,h1.keeps k,h2,k _ _ h3⟩
theorem Oi {α β:Type} {f g:α→β} {l:List α} (e:l.map f=l.map g) {i:Nat} {x:α} (h:l[i]?=some x):f x=g x:=by
 have:=congrArg (·[i]?) e
 simp only [Ca,h,Jc,Option.some.injEq] at this
 exact this
theorem tab_cd {K:Frag} {c T f:Addr} {oc kV dc pm cd ct:Value} {od an:Option Addr} {sl:Array (Option Value)} {st:Stmt} (h:LS.tabP K=some (c,T)) (a:nsIn K mainGlobals "law"=some (some (.ref f)))
 (l:K.lookup f=some ⟨oc,od,.func (fnOf "law" "law" (L2.defArgs st) (L2.defBody st) (L2.defScope st) .none kV dc pm an cd ct),sl⟩):cd=.ref c:=by
 unfold LS.tabP at h
 rw [a] at h
 dsimp only at h
 rw [l] at h
 dsimp only at h
 split at h
 ·split at h
  ·split at h
   ·cases h;rfl
   ·cases h
  ·cases h
 ·cases h
end Tp
namespace LS
open PySem PySem.W PySem.Spec PySem.Calls PyProof.Rows L2
end LS
namespace Tp
open PySem PySem.W PySem.Spec PySem.Calls PyProof.Rows
def Oj (K:Frag):Option (FuncData×List Bool):=match nsIn K mainGlobals "TooMany",nsIn K mainGlobals "SwitchError" with
 |some (some (.ref C)),some (some (.ref S))=>(match K.lookup C with
  |some o=>(match LS.clsOf o.data with
   |some cd=>(match nsIn K cd.ns "__init__" with
    |some (some (.ref f))=>(match K.lookup f with
     |some ⟨oc,_,.func fd,_⟩=>some (blank fd,[codeIn K fd.code "TooMany.__init__",LS.tmX K C f,LS.swX K S,keepIn K (.ref C),oc==.type "function"])
     |_=>none)
    |_=>none)
   |none=>none)
  |none=>none)
 |_,_=>none
abbrev Ol (st:Stmt):FuncData:=fnOf "__init__" "TooMany.__init__" (L2.defArgs st) (L2.defBody st) (L2.defScope st) .none .none .none .none none .none .none
inductive HasT (K:Frag) (st:Stmt):Prop where
 |mk (C S f:Addr) (od an:Option Addr) (sl:Array (Option Value)) (kV dc pm cd ct:Value) (nC:nsIn K mainGlobals "TooMany"=some (some (.ref C))) (nS:nsIn K mainGlobals "SwitchError"=some (some (.ref S)))
  (l:K.lookup f=some ⟨.type "function",od,.func (fnOf "__init__" "TooMany.__init__" (L2.defArgs st) (L2.defBody st) (L2.defScope st) .none kV dc pm an cd ct),sl⟩) (c:codeIn K cd "TooMany.__init__"=true) (tm:LS.tmX K C f=true) (sw:LS.swX K S=true) (kp:keepIn K (.ref C)=true):HasT K st
theorem Zp {K:Frag} {st:Stmt} (e:Oj K=some (Ol st,[true,true,true,true,true])):HasT K st:=by
 unfold Oj at e
 split at e
 ·rename_i C S hC hS
  split at e
  ·split at e
   ·rename_i cd _
    split at e
    ·rename_i f hf
     split at e
     ·rename_i oc od fd sl hl
      obtain ⟨e1,e2⟩:=Prod.mk.inj (Option.some.inj e)
      simp only [List.cons.injEq,and_true] at e2
      obtain ⟨e3,e4,e5,e6,e7⟩:=e2
      rw [beq_iff_eq] at e7
      subst e7
      obtain ⟨x1,x2,x3,x4,x5,x6,x7,x8,x9,x10,x11,x12,x13,x14,x15⟩:=fd
      replace e1:FuncData.mk x1 x2 x3 x4 x5 x6 x7 x8 .none .none .none none .none .none x15=Ol st:=e1
      injection e1 with y1 y2 y3 y4 y5 y6 y7 y8 y9 y10 y11 y12 y13 y14 y15
      subst x1 x2 x3 x4 x5 x6 x7 x8 x15
      exact ⟨C,S,f,od,x12,sl,x9,x10,x11,x13,x14,hC,hS,hl,e3,e4,e5,e6⟩
     ·cases e
    ·cases e
   ·cases e
  ·cases e
 ·cases e
noncomputable def obsT (W:Want) (s:Shared):LY×Option (FuncData×List Bool):=fL (Oe s.heap) fun K=>
 ((W.fs.map fun x=>LV K x.1,W.cs.map fun x=>LW K x.1,W.bs.map (nsIn K mainGlobals),LS.etOk K,Oh K s.heap),Oj K)
def valT (W:Want) (st:Stmt):LY×Option (FuncData×List Bool):=(SB W,some (Ol st,[true,true,true,true,true]))
def SaysT (W:Want) (st:Stmt) (_:World) (h:Heap):Prop:=∃(K:Frag) (c T:Addr),K.In h∧(Has W K c T∧HasT K st)∧h.get? T=some (tabObj #[])
theorem SaysT.keeps {W:Want} {st:Stmt} (w:World) (h h':Heap) (x:SaysT W st w h) (k:∀b o,h.get? b=some o→h'.get? b=some o):SaysT W st w h':=by
 obtain ⟨K,c,T,h1,h2,h3⟩:=x
 exact ⟨K,c,T,h1.keeps k,h2,k _ _ h3⟩
theorem says_ofT {W:Want} {st:Stmt} (w:World) (s:Shared) (e:obsT W s=valT W st):SaysT W st w s.heap:=by
 unfold obsT valT SB at e
 rw [JS] at e
 obtain ⟨e,e6⟩:=Prod.mk.inj e
 obtain ⟨e1,e⟩:=Prod.mk.inj e
 obtain ⟨e2,e⟩:=Prod.mk.inj e
 obtain ⟨e3,e⟩:=Prod.mk.inj e
 obtain ⟨e4,e5⟩:=Prod.mk.inj e
 unfold Oh at e5
 split at e5
 ·rename_i c T hT
  obtain ⟨a1,a2⟩:=Prod.mk.inj (Option.some.inj e5)
  obtain ⟨a2,a3⟩:=Prod.mk.inj a2
  exact ⟨_,c,T,Zm _,⟨⟨fun i n st h=>Zn (Oi e1 h),fun i n v h=>Zo (Oi e2 h),fun i n h=>Oi e3 h,e4,hT,a2,Option.isNone_iff_eq_none.mp a3⟩,Zp e6⟩,a1⟩
 ·cases e5
end Tp
namespace LS
open PySem PySem.W PySem.Spec PySem.Calls PyProof.Rows L2
theorem walk_hdT {l:OpenLaw} {n k:Nat} {q:Program} {loose:List Str} {XP:(Str→Option Value)→Heap→Prop} {W:Tp.Want} {st:Stmt} {d:DefRec} {x:Str} {F:List D→HD→Out D}
 (hn:l.most=some n) (hn2:n≤sizeLine) (hdf:d.params.defaults=[]) (hr:Room k callerA)
 (Fn:∀(w:World) (K:Frag) (c T:Addr) (mg:Str→Option Value) (fa:Addr) (h:Heap),Tp.Has W K c T∧Tp.HasT K st→K.In h→h.Ns mainGlobals mg→mg d.name=some (.ref fa)→
  ∃fd:FuncData,(∀(s:Shared) (u:Value),BindsTo s fd ⟨[u],[]⟩ [(x,u)])∧
   ∀base:Heap,K.In base→base.Ns mainGlobals mg→IJ mg base→FnOk l.prog w K mg base (AE l.prog w K) k fa fd [x] (FN K F))
 (hF:∀ns:List Int,ns.length≤n→(∀i∈ns,Builtin.Int.intBits i≤2^20)→∃h',F [.scr ns] [.tab]=.ok (.bl true) h'):
 WalkO q loose XP (Tp.SaysT W st) l.row.toRowW d [] (fun f vs=>PySem.call f vs):=by
 refine Att.attach_bits hn hdf fun w s₀ s₁ mg mb fa o pm cd doc a vs ns hbits G Y ho hd hcd' hmg hobj hints hlen hg=>?_
 obtain ⟨K,c,T,KX,HS,hT⟩:=Y
 obtain ⟨fd,hb,hF'⟩:=Fn w K c T mg fa _ HS KX G.T.g hmg
 obtain ⟨bm,ob,b1,b2,b3,b4,b5,b6⟩:=G.T.bmain
 obtain ⟨_,_,_,_,h1,h2,h3⟩:=HS.1
 exact X6 KX G.T.g G.T.b G.T.builtins G.T.nolimit hg ⟨bm,ob,b1,b2,b3,b4,b5,b6⟩ hobj hints (BS hlen hn2) hr h1 h2 hT h3 hF' hb (hF ns hlen hbits)
structure SC (P:Program) (w:World) (K:Frag) (mg:Str→Option Value) (base:Heap) (C f:Addr) (fd:FuncData) (oI:Obj):Prop where
 tm:tmX K C f=true
 F:FnOk P w K mg base (AE P w K) 1 f fd ["self","many","most"] (LP K C)
 hb:Binds K fd ["self","many","most"] []
 lI:K.lookup f=some oI
 cI:oI.cls=.type "function"
 kp:keepIn K (.ref C)=true
 nC:nsIn K mainGlobals "TooMany"=some (some (.ref C))
end LS
namespace LS
open PySem PySem.Spec PyProof.Rows L2
open Classical in
noncomputable def strOfD:D→HD→Out D
 |.int i,h=>if i.natAbs<4611686018427387904 then .ok (.str (toString i)) h else .stuck
 |_,_=>.stuck
section
variable {X:Cx}
theorem Zq:DA X (.type "str") (fun xs H Q=>∃i:Int,xs=[.int i]∧i.natAbs<4611686018427387904∧Q (.str (toString i)) H):=by
 intro pins s σ H xs us Q I r h
 obtain ⟨i,rfl,hi,q⟩:=h
 obtain ⟨u,rfl,t,rfl⟩:=Es r
 exact str_of_int_fit (N:=4611686018427387904) (by split<;>omega) (Int.le_refl _) fun _=>⟨.str (toString i),H,I.tok _,⟨_,rfl⟩,q⟩
theorem Zr:Dc X (.type "str") (Aq strOfD):=by
 refine ⟨_,Zq,fun m H h E ds vs Q hr r q=>FL r q fun d v ev rv q=>?_⟩
 unfold strOfD at q
 split at q
 ·split at q
  ·rename_i i hi
   simp only [DV] at rv;subst rv
   exact ⟨_,ev,hi,Bp hr q (by simp [DV])⟩
  ·exact q.elim
 ·exact q.elim
def Zet (i j k:Nat) (ta:TA):TS:=fun Dn σ H=>ta σ H fun vs H1=>∃u v w,vs=[u,v,w]∧Dn.nx (((σ.set i (some u)).set j (some v)).set k (some w)) H1
def Om (i j k:Nat) (ρ:Ai):List D→HD→Out (Fl×Ai)
 |[u,v,w],h=>.ok (.nx,((ρ.set i (some u)).set j (some v)).set k (some w)) h
 |_,_=>.stuck
noncomputable def SD (i j k:Nat) (fa:MA):MS:=fun ρ h=>(fa ρ h).bind fun ds h1=>Om i j k ρ ds h1
end
@[simp] theorem Zeu {i j k:Nat} {fa:MA} {ρ:Ai} {h:HD} {Q:Fl×Ai→HD→Prop}:Wp (SD i j k fa ρ h) Q=Wp (fa ρ h) fun ds h1=>Wp (Om i j k ρ ds h1) Q:=by unfold SD;rw [AD]
@[simp] theorem Zev {i j k:Nat} {ρ:Ai} {u v w:D} {h:HD} {Q:Fl×Ai→HD→Prop}:Wp (Om i j k ρ [u,v,w] h) Q=Q (.nx,((ρ.set i (some u)).set j (some v)).set k (some w)) h:=rfl
section
variable {X:Cx}
abbrev Zew:=Gf fun i j=>.int (Builtin.bitXor i j)
end
section
variable {X:Cx} {E:XK} {D:Addr} {elt tg iter:Expr} {ifs:List Expr} {gs gens:List Comprehension} {scope:Scope} {pos:Pos} {Nc:List Str} {cs:List (Option Nat)} {it:MI} {gg:TG} {sg:MG} {t:MT} {f:ME} {e:Du} {d:Nat} {is js:List Nat}
theorem Zs {i:Nat} {x:Str} {pos' pos2:Pos} (hcalm:X.calm=true) (hN:X.N.Nodup) (hix:X.N[i]?=some x) (hx:GM X.env.scope x) (S:Fp X scope Nc cs) (hi:ED X E tg iter it) (ha:∀g,gs[0]?=some g→g.is_async=0) (hc:∀j∈is++js,cs[j]?=some none) (hg:Gz X.K is js gg sg)
 (hb:∀(C D:Addr) (cells:List (Str×Addr)) (fp:List Addr) (s₀:Shared) (H₀:Hp) (pins:List (Addr×Obj)),Gy (A3 X Nc scope C D cells fp s₀ H₀ pins) D→PG (A3 X Nc scope C D cells fp s₀ H₀ pins) tg gg∧Ir (A3 X Nc scope C D cells fp s₀ H₀ pins) E0 ifs t∧
  EM (A3 X Nc scope C D cells fp s₀ H₀ pins) D (Dj elt (⟨tg,iter,ifs,0⟩::gs) scope pos 0 (.ref D) (A3 X Nc scope C D cells fp s₀ H₀ pins).env) (Ek X.K js e))
 (hsf:∀x,foldedSetIterable iter X.env x=pure x:=by intro _;rfl) (hsw:swapsWith (.ListComp elt (⟨tg,iter,ifs,0⟩::gs) scope pos) (some (.Name x pos')) pos2.line X.env=pure true:=by rfl)
 (hf:X.fn x=true∨X.env.scope.names.lookup x=some .local:=by first |exact .inl rfl |exact .inr rfl |assumption):Ex X E (.Assign [.Name x pos'] (.ListComp elt (⟨tg,iter,ifs,0⟩::gs) scope pos) pos2) (Ay i (EN cs it sg t e)):=by
 rintro pins s σ H D I ⟨m,ρ,h,hr,er,p⟩
 have hq:LJ cs (tM X.K (Gj X.K) E it) gg (Ey X.K E0 t) (Ek X.K js e) σ H (fun v H1=>D.nx (σ.set i (some v)) H1):=Sa hc hg σ H _ ⟨m,ρ,h,hr,er,PostS.bind p fun y h1 v m1 H1 _ p1 k1 hr1 r1 q1=>(q1.here hr1) _ ((er.keep p1 k1).set r1)⟩
 rw [exec_Assign_Name_used _ _ _ _ hsw]
 refine wpAny_bind (wpAny_standAt (wpAny_bind ?_))
 show wpAny _ X.A (do let _ ←comprehension (.ListComp elt (⟨tg,iter,ifs,0⟩::gs) scope pos) scope X.env _ (newList []) false (eval iter X.env) (some (assign (.Name x pos') X.env))) _ _ s
 refine wpAny_bind (wpAny_mono (R1 (QQ:=fun _ s'=>SP X pins D .next s') hcalm S hi ha hb hsf I hq fun s6 C Dd H7 m6 hn hC h0 hL hc hp inv q=>?_) (fun _ s' z=>wpAny_pure (wpAny_pure z)) fun _ _ z=>z)
 have I6:Inv X pins σ H7 s6:=inv s6.heap ⟨rfl,fun _ _=>rfl⟩
 refine wpAny_assign_Name (Jf I6 hN hix hx (v:=.ref Dd) rfl (fun s7 I7 z3_=>?_) hf)
 obtain ⟨a,sb7,ha⟩:=z3_
 have nCa:C≠a:=by
  rcases ha with z |z
  ·rw [z];exact hL
  ·exact Ne.symm (hc x a z)
 obtain ⟨o,es,ep,e1,e2⟩:=hn
 refine ⟨m6,⟨o,es,ep,(sb7.2 C nCa).trans e1,e2⟩,fun h' sb=>?_⟩
 exact ⟨_,H7,I7.turned (t':=s7.toks) (it:=C) (fun b o hb e=>(sb.2 b hb).trans e) hC hL (.inr h0) hc hp,q⟩
end
def Zt:List Expr→Option (List (Int×Int))
 |[]=>some []
 |.Tuple [.Constant (.int a) _ _,.Constant (.int b) _ _] _ _::es=>(Zt es).map ((a,b)::·)
 |_=>none
noncomputable def LZ:List (Int×Int)→MA
 |[]=>Ad
 |p::ps=>Aa (Ax (Aa (mC (.int p.1)) (Aa (mC (.int p.2)) Ad))) (LZ ps)
@[simp] theorem Zex:LZ []=Ad:=rfl
@[simp] theorem Zey {p:Int×Int} {ps:List (Int×Int)}:LZ (p::ps)=Aa (Ax (Aa (mC (.int p.1)) (Aa (mC (.int p.2)) Ad))) (LZ ps):=rfl
section
variable {X:Cx} {E:XK}
@[irreducible] def ExI (X:Cx) (E:XK) (st:Stmt) (g:MS):Prop:=Ex X E st g
@[irreducible] def Zez (X:Cx) (E:XK) (sts:List Stmt) (g:MS):Prop:=A8 X E sts g
end
end LS
set_option maxHeartbeats 0
namespace LK
open PySem PySem.Spec PyProof.Rows L2 LS
def Bw (i:Nat):Stmt:=PySem.Challenge.pw_lineswitch_k74_nets_left_and_nets_of_boa.main.body.getD i (.Pass ⟨0,0,0,0⟩)
structure Bl (mg:Str→Option Value):Prop where
 n_ValueError:mg "ValueError"=none
 n_all:mg "all"=none
 n_bool:mg "bool"=none
 n_divmod:mg "divmod"=none
 n_enumerate:mg "enumerate"=none
 n_int:mg "int"=none
 n_isinstance:mg "isinstance"=none
 n_len:mg "len"=none
 n_list:mg "list"=none
 n_max:mg "max"=none
 n_min:mg "min"=none
 n_range:mg "range"=none
 n_repr:mg "repr"=none
 n_str:mg "str"=none
 n_sum:mg "sum"=none
 n_tuple:mg "tuple"=none
 n_zip:mg "zip"=none
theorem Zu:bootBuiltins "ValueError"=some (.type "ValueError"):=by decide +kernel
theorem JT:bootBuiltins "all"=some (.builtin "all"):=by decide +kernel
theorem Zv:bootBuiltins "bool"=some (.type "bool"):=by decide +kernel
theorem Zw:bootBuiltins "divmod"=some (.builtin "divmod"):=by decide +kernel
theorem JU:bootBuiltins "int"=some (.type "int"):=by decide +kernel
theorem CD:bootBuiltins "isinstance"=some (.builtin "isinstance"):=by decide +kernel
theorem Co:bootBuiltins "len"=some (.builtin "len"):=by decide +kernel
theorem L4:bootBuiltins "list"=some (.type "list"):=by decide +kernel
theorem Zx:bootBuiltins "max"=some (.builtin "max"):=by decide +kernel
theorem L5:bootBuiltins "min"=some (.builtin "min"):=by decide +kernel
theorem IS:bootBuiltins "repr"=some (.builtin "repr"):=by decide +kernel
theorem Zy:bootBuiltins "str"=some (.type "str"):=by decide +kernel
theorem SE:bootBuiltins "sum"=some (.builtin "sum"):=by decide +kernel
theorem ES:bootBuiltins "tuple"=some (.type "tuple"):=by decide +kernel
abbrev JV:Stmt:=Bw 39
theorem On:RH JV:=⟨⟨rfl,rfl,rfl,by decide +kernel,rfl,by decide +kernel,by decide +kernel⟩,rfl,rfl,rfl,rfl,rfl,⟨_,_,_,_,_,_,_,_,_,_,_,_,_,_,_,_,_,rfl⟩⟩
abbrev El:Stmt:=match Bw 11 with
 |.ClassDef _ _ _ b _ _ _ _ _ _ _=>b.getD 0 (.Pass ⟨0,0,0,0⟩)
 |_=>.Pass ⟨0,0,0,0⟩
theorem Zz:Bg ["self","many","most"] ["self","many","most"] (defScope El):=⟨rfl,rfl,rfl,by decide +kernel,rfl,by decide +kernel,by decide +kernel⟩
theorem ZA {P:Program} {w:World} {K:PySem.W.Frag} {mg:Str→Option Value} {base:Heap} {C S f:Addr} {od an:Option Addr} {sl:Array (Option Value)} {kV dc pm cd ct:Value} (nC:PySem.W.nsIn K mainGlobals "TooMany"=some (some (.ref C))) (nS:PySem.W.nsIn K mainGlobals "SwitchError"=some (some (.ref S)))
 (l:K.lookup f=some ⟨.type "function",od,.func (PySem.W.fnOf "__init__" "TooMany.__init__" (defArgs El) (defBody El) (defScope El) .none kV dc pm an cd ct),sl⟩) (c:PySem.W.codeIn K cd "TooMany.__init__"=true) (tm:tmX K C f=true) (sw:swX K S=true) (kp:PySem.W.keepIn K (.ref C)=true):
 SC P w K mg base C f (PySem.W.fnOf "__init__" "TooMany.__init__" (defArgs El) (defBody El) (defScope El) .none kV dc pm an cd ct) ⟨.type "function",od,.func (PySem.W.fnOf "__init__" "TooMany.__init__" (defArgs El) (defBody El) (defScope El) .none kV dc pm an cd ct),sl⟩:=
 ⟨tm,Zf l c Zz tm sw nS (fun _ _ _ _ _=>rfl) (fun A outer s H E=>Ac (Ae (pv 0)) (Ac (Yi (RD (Ae (pv 1)) (Yh (RD (Ae (pv 2)) Yg)))) Af)) (fun env pl e=>by subst e;rfl) (fun _=>rfl) (fun _=>rfl) (fun _=>rfl) (fun _=>rfl) (fun _=>rfl) (.inl rfl) (.inl rfl) (.inl rfl),
  Binds.all (fun us hl=>by match us,hl with |[a,b,d],_=>rfl),l,rfl,kp,nC⟩
abbrev Hi:Stmt:=Bw 14
theorem ZC:Bg ["thing"] ["thing"] (defScope Hi):=⟨rfl,rfl,rfl,by decide +kernel,rfl,by decide +kernel,by decide +kernel⟩
noncomputable abbrev Oo:MS:=AL (Ge (Ah (Br AR) (Aa (Ab 0) (Aa (mC (.ty "int")) (Ad)))) (KL (Ah (Br AR) (Aa (Ab 0) (Aa (mC (.ty "bool")) (Ad))))))
abbrev Hj:Stmt:=Bw 17
theorem ZD:Bg ["thing"] ["thing"] (defScope Hj):=⟨rfl,rfl,rfl,by decide +kernel,rfl,by decide +kernel,by decide +kernel⟩
noncomputable abbrev Oq:MS:=AL (Ge (Ah (Br AR) (Aa (Ab 0) (Aa (mC (.ty "tuple")) (Ad)))) (Fj GW GW (mC (.int 1)) (Ah (Aq Bk) (Aa (Ab 0) (Ad))) (mC (.int 8))))
abbrev Hk:Stmt:=Bw 23
theorem sc_rising_rows:Bg ["start","many","rows","place"] ["start","many"] (defScope Hk):=⟨rfl,rfl,rfl,by decide +kernel,rfl,by decide +kernel,by decide +kernel⟩
noncomputable abbrev Ot:MS:=Al (Ay 2 (Be (Aa (Ab 0) (Ad)))) (Al (B4 (CO (Aa (Ab 1) (Ad))) (A7 3) (Ay 2 (EN [none,none] (BV (Ab 2)) (A7 0) (Bq) (GA (BV (Ax (Aa (mC (.int 0)) (Aa (mC (.int 1)) (Ad))))) (A7 1) (Bq) (FS (Ag As (Ab 0) (Ax (Aa (Ab 1) (Ad))))))))) (AL (Ab 2)))
abbrev Hl:Stmt:=Bw 29
theorem ZE:Bg ["ties","sides"] ["ties","sides"] (defScope Hl):=⟨rfl,rfl,rfl,by decide +kernel,rfl,by decide +kernel,by decide +kernel⟩
noncomputable abbrev Ou:MS:=AL (Ah (Aq Gq) (Aa (Bf [none,none,none,some 1] (BV (Ab 0)) (Ei [0,1,2]) (Bq) (Ag DF (Ag As (Ag As (Ab 2) (Ag Au (Ab 3) (Ab 0))) (Ag Au (Ab 3) (Ab 1))) (mC (.int 2)))) (Ad)))
abbrev Hm:Stmt:=Bw 33
theorem ZF:Bg ["_law_script","_law_k"] ["_law_script","_law_k"] (defScope Hm):=⟨rfl,rfl,rfl,by decide +kernel,rfl,by decide +kernel,by decide +kernel⟩
noncomputable abbrev L8:MS:=Al (Bh (Bj (Ag GV (Ab 1) (Ah (Aq Bk) (Aa (Ab 0) (Ad))))) (AL (Ag Au (Ab 0) (Ab 1))) (Bo)) (AL (Ag As (Ag CC (mC (.int 6151)) (Ab 1)) (mC (.int 29))))
abbrev Hn:Stmt:=Bw 34
theorem sc__law_mix:Bg ["_law_cell_here","_law_k","_law_number"] ["_law_cell_here","_law_k"] (defScope Hn):=⟨rfl,rfl,rfl,by decide +kernel,rfl,by decide +kernel,by decide +kernel⟩
noncomputable abbrev Ov:MS:=Al (Ay 2 (Ag As (Ag CC (Ag As (Ab 0) (mC (.int 1))) (mC (.int 40692))) (Ag CC (mC (.int 104729)) (Ab 1)))) (Al (Ay 2 (Ag As (Ag DF (Ag CC (Ab 2) (Ab 2)) (mC (.int 2147483399))) (Ab 1))) (AL (Ag DF (Ag CC (Ab 2) (Ag As (Ab 2) (mC (.int 31)))) (mC (.int 2147483563)))))
abbrev Ho:Stmt:=Bw 36
theorem sc__law_take:Bg ["_law_box_here","_law_many","_law_left","_law_digit"] ["_law_box_here","_law_many"] (defScope Ho):=⟨rfl,rfl,rfl,by decide +kernel,rfl,by decide +kernel,by decide +kernel⟩
noncomputable abbrev Ow:MS:=Al (EB (De 2 3) (Ah (Br Ju) (Aa (Ag Au (Ab 0) (mC (.int 0))) (Aa (Ab 1) (Ad))))) (Al (K2 (Ab 0) (mC (.int 0)) (Ab 2)) (AL (Ab 3)))
abbrev Hq:Stmt:=Bw 38
theorem sc__law_kind:Bg ["_law_e","_law_kinds","_law_words"] ["_law_e"] (defScope Hq):=⟨rfl,rfl,rfl,by decide +kernel,rfl,by decide +kernel,by decide +kernel⟩
noncomputable abbrev L9:MS:=Al (Ay 1 (Be (Aa (Ah (Br AR) (Aa (Ab 0) (Aa (mC (.glo "NoBoard")) (Ad)))) (Aa (Ah (Br AR) (Aa (Ab 0) (Aa (mC (.glo "NoLine")) (Ad)))) (Aa (Ah (Br AR) (Aa (Ab 0) (Aa (mC (.glo "NoSwitching")) (Ad)))) (Aa (Ah (Br AR) (Aa (Ab 0) (Aa (mC (.glo "NoNumber")) (Ad)))) (Ad))))))) (Al (Ay 1 (Ag As (Ab 1) (Be (Aa (Ah (Br AR) (Aa (Ab 0) (Aa (mC (.glo "Unlike")) (Ad)))) (Aa (Ah (Br AR) (Aa (Ab 0) (Aa (mC (.glo "NoNet")) (Ad)))) (Aa (Ah (Br AR) (Aa (Ab 0) (Aa (mC (.glo "NoPlace")) (Ad)))) (Aa (Ah (Br AR) (Aa (Ab 0) (Aa (mC (.glo "NoText")) (Ad)))) (Ad)))))))) (Al (Ay 1 (Ag As (Ab 1) (Be (Aa (Ah (Br AR) (Aa (Ab 0) (Aa (mC (.glo "NoRow")) (Ad)))) (Aa (Ah (Br AR) (Aa (Ab 0) (Aa (mC (.glo "TooMany")) (Ad)))) (Ad)))))) (Al (Bh (DM (Cw (Cu (Ah (Br AR) (Aa (Ab 0) (Aa (mC (.ty "ValueError")) (Ad)))))) (Bj (Ag B5 (IF Dg Hf (Ab 1) (mC (.bl true))) (mC (.int 1))))) (AL (mC (.str "! other"))) (Bo)) (Al (Bh (Cu (Ag Au (Ab 1) (mC (.int 9)))) (AL (Ag As (Ag As (Ag As (mC (.str "! many ")) (Ah (Aq BZ) (Aa (JR (Ab 0) "many") (Ad)))) (mC (.str " "))) (Ah (Aq BZ) (Aa (JR (Ab 0) "most") (Ad))))) (Bo)) (Al (Ay 2 (Be (Aa (mC (.str "board")) (Aa (mC (.str "line")) (Aa (mC (.str "switching")) (Aa (mC (.str "number")) (Aa (mC (.str "unlike")) (Aa (mC (.str "net")) (Aa (mC (.str "place")) (Aa (mC (.str "text")) (Aa (mC (.str "row")) (Ad)))))))))))) (AL (Ag As (mC (.str "! ")) (Ag Au (Ab 2) (IF Dg Hg (Ab 1) (mC (.bl true)))))))))))
abbrev Hr:Stmt:=Bw 42
theorem sc__law_lots:Bg ["_law_size","_law_found","_law_number"] ["_law_size"] (defScope Hr):=⟨rfl,rfl,rfl,by decide +kernel,rfl,by decide +kernel,by decide +kernel⟩
noncomputable abbrev Ox:MS:=Al (Ay 1 (Be (Aa (Ax (Ad)) (Ad)))) (Al (B4 (CO (Aa (Ab 0) (Ad))) (A7 2) (Ay 1 (Ag As (Ab 1) (Bf [none,some 2] (BV (Ab 1)) (A7 0) (Bq) (Ag As (Ab 0) (Ax (Aa (Ab 1) (Ad)))))))) (AL (Ab 1)))
abbrev Hs:Stmt:=Bw 45
theorem sc__law_net_switched:Bg ["_law_net_here","_law_lot","_law_ties","_law_a","_law_b","_law_light"] ["_law_net_here","_law_lot"] (defScope Hs):=⟨rfl,rfl,rfl,by decide +kernel,rfl,by decide +kernel,by decide +kernel⟩
noncomputable abbrev Oy:MS:=Al (Ay 2 (Be (Ad))) (Al (B4 (BV (Ag Au (Ab 0) (mC (.int 1)))) (Ei [3,4,5]) (EA (Gr (Ab 2) (Ax (Aa (Ab 3) (Aa (Ab 4) (Aa (Ag DF (Ag As (Ag As (Ab 5) (Ah (Aq Fm) (Aa (Ag (Gh false) (Ab 3) (Ab 1)) (Ad)))) (Ah (Aq Fm) (Aa (Ag (Gh false) (Ab 4) (Ab 1)) (Ad)))) (mC (.int 2))) (Ad)))))))) (AL (Ax (Aa (Ag Au (Ab 0) (mC (.int 0))) (Aa (Ah (Aq Cy) (Aa (Ab 2) (Ad))) (Ad))))))
abbrev Ht:Stmt:=Bw 15
theorem ZG:Bg ["thing","least","most"] ["thing","least","most"] (defScope Ht):=⟨rfl,rfl,rfl,by decide +kernel,rfl,by decide +kernel,by decide +kernel⟩
noncomputable abbrev Ma (B6:List D→HD→Out D):MS:=AL (Ge (Ah B6 (Aa (Ab 0) (Ad))) (Fj GW GW (Ab 1) (Ab 0) (Ab 2)))
abbrev Hu:Stmt:=Bw 21
theorem sc_is_lot:Bg ["thing","size","last","number"] ["thing","size"] (defScope Hu):=⟨rfl,rfl,rfl,by decide +kernel,rfl,by decide +kernel,by decide +kernel⟩
noncomputable abbrev Oz (B6:List D→HD→Out D):MS:=Al (Bh (Cw (Cu (Ah (Br AR) (Aa (Ab 0) (Aa (mC (.ty "tuple")) (Ad)))))) (AL (mC (.bl false))) (Bo)) (Al (Ay 2 (Iz (mC (.int 1)))) (Al (B4 (BV (Ab 0)) (A7 3) (Al (Bh (DM (Cw (Cu (Ah B6 (Aa (Ab 3) (Ad))))) (Cw (Bj (Fj GV GV (Ab 2) (Ab 3) (Ab 1))))) (AL (mC (.bl false))) (Bo)) (Ay 2 (Ab 3)))) (AL (mC (.bl true)))))
abbrev Hv:Stmt:=Bw 35
theorem sc__law_box:Bg ["_law_script","_law_k","_law_here","_law_number","_law_j"] ["_law_script","_law_k"] (defScope Hv):=⟨rfl,rfl,rfl,by decide +kernel,rfl,by decide +kernel,by decide +kernel⟩
noncomputable abbrev OA (Fy:List D→HD→Out D) (Fz:List D→HD→Out D):MS:=Al (Ay 2 (Ah Fy (Aa (Ab 0) (Aa (Ab 1) (Ad))))) (Al (Bh (Bj (Ag Eh (Ag DF (Ab 2) (mC (.int 2))) (mC (.int 0)))) (AL (Be (Aa (Ag KS (Ab 2) (mC (.int 2))) (Ad)))) (Bo)) (Al (Ay 3 (mC (.int 0))) (Al (B4 (CO (Aa (mC (.int 24)) (Ad))) (A7 4) (Ay 3 (Ag As (Ag CC (Ab 3) (mC (.int 2147483647))) (Ah Fz (Aa (Ab 2) (Aa (Ab 4) (Ad))))))) (AL (Be (Aa (Ab 3) (Ad)))))))
abbrev Hw:Stmt:=Bw 37
theorem sc__law_wide_box:Bg ["_law_box_here","_law_number","_law_many","_law_j"] ["_law_box_here"] (defScope Hw):=⟨rfl,rfl,rfl,by decide +kernel,rfl,by decide +kernel,by decide +kernel⟩
noncomputable abbrev OB (AB:List D→HD→Out D):MS:=Al (GZ 1 2 (Aa (Ah AB (Aa (Ab 0) (Aa (mC (.int 2147483647)) (Ad)))) (Aa (mC (.int 0)) (Ad)))) (Al (B4 (CO (Aa (mC (.int 24)) (Ad))) (A7 3) (Al (Ay 1 (Ag DF (Ag As (Ag As (Ag CC (Ab 1) (mC (.int 48271))) (mC (.int 11))) (Ab 3)) (mC (.int 2147483647)))) (Ay 2 (Ag As (Ag CC (Ab 2) (mC (.int 2147483647))) (Ab 1))))) (AL (Be (Aa (Ab 2) (Ad)))))
abbrev Hx:Stmt:=Bw 41
theorem sc__law_no_board:Bg ["_law_box_here","_law_board_here","_law_at","_law_place","_law_odd","_law_row","_law_bent","_law_some"] ["_law_box_here","_law_board_here"] (defScope Hx):=⟨rfl,rfl,rfl,by decide +kernel,rfl,by decide +kernel,by decide +kernel⟩
noncomputable abbrev OC (AB:List D→HD→Out D):MS:=Al (EB (Ei [2,3]) (Ax (Aa (Ah AB (Aa (Ab 0) (Aa (Ah (Aq Bk) (Aa (Ab 1) (Ad))) (Ad)))) (Aa (Ah AB (Aa (Ab 0) (Aa (Ah (Aq Bk) (Aa (Ag Au (Ab 1) (mC (.int 0))) (Ad))) (Ad)))) (Ad))))) (Al (Ay 4 (Ag Au (Be (Aa (mC (.int 2)) (Aa (Iz (mC (.int 1))) (Aa (mC (.bl true)) (Aa (mC (.bl false)) (Aa (mC .non) (Aa (mC (.str "0")) (Aa (Ax (Aa (mC (.int 0)) (Ad))) (Aa (Ag Jr (mC (.int 10)) (mC (.int 29))) (Aa (Be (Aa (mC (.int 0)) (Ad))) (Aa (mC .edic) (Ad)))))))))))) (Ah AB (Aa (Ab 0) (Aa (mC (.int 10)) (Ad)))))) (Al (Ay 5 (Ag Au (Ab 1) (Ab 2))) (Al (Ay 6 (Ag As (Ag As (BB (Ab 5) (BF) (BA (Ab 3))) (Ax (Aa (Ab 4) (Ad)))) (BB (Ab 5) (BA (Ag As (Ab 3) (mC (.int 1)))) (BF)))) (Al (Ay 7 (Be (Aa (Ab 6) (Aa (Ab 6) (Aa (Ab 6) (Aa (Ag As (Ab 5) (Ag CC (Ax (Aa (mC (.int 0)) (Ad))) (mC (.int 8)))) (Aa (Ax (Ad)) (Aa (Ah (Aq Fw) (Aa (Ab 5) (Ad))) (Aa (mC .non) (Aa (mC (.int 1)) (Ad))))))))))) (Al (Bh (Bj (Ag GX (Ah (Aq Bk) (Aa (Ab 1) (Ad))) (mC (.int 1)))) (Ay 7 (Ag As (Ab 7) (Be (Aa (BB (Ab 5) (BF) (BA (Iz (mC (.int 1))))) (Aa (Ag As (Ab 5) (Ax (Aa (mC (.int 0)) (Ad)))) (Ad)))))) (Bo)) (Al (Ay 7 (Bf [none,some 1,some 2] (BV (Ab 7)) (A7 0) (Bq) (Ag As (Ag As (BB (Ab 1) (BF) (BA (Ab 2))) (Ax (Aa (Ab 0) (Ad)))) (BB (Ab 1) (BA (Ag As (Ab 2) (mC (.int 1)))) (BF))))) (Al (Ay 7 (Ag As (Ab 7) (Be (Aa (Ah (Aq Fw) (Aa (Ab 1) (Ad))) (Aa (Ax (Aa (Ab 1) (Ad))) (Aa (Ag CC (Ax (Aa (Ag Au (Ab 1) (mC (.int 0))) (Ad))) (mC (.int 9))) (Aa (Ag As (Ab 1) (Ax (Aa (Ax (Ad)) (Ad)))) (Aa (Ag Au (Ab 1) (mC (.int 0))) (Aa (mC .non) (Aa (Ax (Ad)) (Aa (mC (.int 0)) (Aa (mC (.str "")) (Aa (mC .edic) (Ad)))))))))))))) (AL (Ag Au (Ab 7) (Ah AB (Aa (Ab 0) (Aa (Ah (Aq Bk) (Aa (Ab 7) (Ad))) (Ad)))))))))))))
abbrev Hz:Stmt:=Bw 44
theorem sc__law_no_net:Bg ["_law_box_here","_law_net_here","_law_many","_law_ties","_law_at","_law_spot","_law_odd","_law_tie","_law_bent","_law_some"] ["_law_box_here","_law_net_here"] (defScope Hz):=⟨rfl,rfl,rfl,by decide +kernel,rfl,by decide +kernel,by decide +kernel⟩
noncomputable abbrev OD (AB:List D→HD→Out D):MS:=Al (EB (De 2 3) (Ab 1)) (Al (EB (Ei [4,5]) (Ax (Aa (Ah AB (Aa (Ab 0) (Aa (Ag As (Ah (Aq Bk) (Aa (Ab 3) (Ad))) (mC (.int 1))) (Ad)))) (Aa (Ah AB (Aa (Ab 0) (Aa (mC (.int 3)) (Ad)))) (Ad))))) (Al (Ay 6 (Ag Au (Be (Aa (Ab 2) (Aa (Iz (mC (.int 1))) (Aa (mC (.bl true)) (Aa (mC (.bl false)) (Aa (mC .non) (Aa (mC (.str "0")) (Aa (Ax (Aa (mC (.int 0)) (Ad))) (Aa (Ag Jr (mC (.int 10)) (mC (.int 29))) (Aa (mC (.int 2)) (Aa (Be (Aa (mC (.int 0)) (Ad))) (Aa (mC .edic) (Ad))))))))))))) (Ah AB (Aa (Ab 0) (Aa (mC (.int 11)) (Ad)))))) (Al (Ay 7 (Ag Au (Ag As (Ab 3) (Ax (Aa (Ax (Aa (mC (.int 0)) (Aa (mC (.int 1)) (Aa (mC (.int 1)) (Ad))))) (Ad)))) (Ab 4))) (Al (Ay 8 (Ag As (Ag As (BB (Ab 7) (BF) (BA (Ab 5))) (Ax (Aa (Ab 6) (Ad)))) (BB (Ab 7) (BA (Ag As (Ab 5) (mC (.int 1)))) (BF)))) (Al (Ay 9 (Be (Aa (Ab 8) (Aa (Ab 8) (Aa (Ab 8) (Aa (BB (Ab 7) (BF) (BA (mC (.int 2)))) (Aa (Ag As (Ab 7) (Ax (Aa (mC (.int 0)) (Ad)))) (Aa (Ah (Aq Fw) (Aa (Ab 7) (Ad))) (Aa (mC .non) (Aa (Ax (Aa (Ag Au (Ab 7) (mC (.int 1))) (Aa (Ag Au (Ab 7) (mC (.int 0))) (Aa (Ag Au (Ab 7) (mC (.int 2))) (Ad))))) (Aa (Ax (Aa (Ag Au (Ab 7) (mC (.int 0))) (Aa (Ag Au (Ab 7) (mC (.int 0))) (Aa (mC (.int 0)) (Ad))))) (Aa (Ax (Ad)) (Ad))))))))))))) (Al (Ay 9 (Bf [none,some 2,some 3,some 4] (BV (Ab 9)) (A7 0) (Bq) (Ax (Aa (Ab 1) (Aa (Ag As (Ag As (BB (Ab 2) (BF) (BA (Ab 3))) (Ax (Aa (Ab 0) (Ad)))) (BB (Ab 2) (BA (Ag As (Ab 3) (mC (.int 1)))) (BF))) (Ad)))))) (Al (Ay 9 (Ag As (Ab 9) (Be (Aa (Ax (Aa (Ab 2) (Aa (Ah (Aq Fw) (Aa (Ab 3) (Ad))) (Ad)))) (Aa (Be (Aa (Ab 2) (Aa (Ab 3) (Ad)))) (Aa (Ax (Aa (mC (.int 9)) (Aa (Ab 3) (Ad)))) (Aa (Ax (Aa (mC (.int 0)) (Aa (Ax (Ad)) (Ad)))) (Aa (Ax (Aa (mC (.bl true)) (Aa (Ax (Ad)) (Ad)))) (Aa (Ax (Aa (Ab 2) (Ad))) (Aa (Ax (Aa (Ab 2) (Aa (Ab 3) (Aa (Ax (Ad)) (Ad))))) (Ad))))))))))) (Al (Ay 9 (Ag As (Ab 9) (Be (Aa (mC .non) (Aa (mC (.int 1)) (Aa (mC .edic) (Aa (Ab 3) (Aa (Ax (Aa (Ab 2) (Aa (JN (Ab 3)) (Ad)))) (Aa (Ax (Aa (Ab 2) (Aa (Ag As (Ag As (BB (Ab 3) (BF) (BA (Ab 4))) (BB (Ab 3) (BF) (BA (mC (.int 1))))) (BB (Ab 3) (BA (Ab 4)) (BF))) (Ad)))) (Ad)))))))))) (AL (Ag Au (Ab 9) (Ah AB (Aa (Ab 0) (Aa (Ah (Aq Bk) (Aa (Ab 9) (Ad))) (Ad))))))))))))))
abbrev HA:Stmt:=Bw 16
theorem ZH:Bg ["thing"] ["thing"] (defScope HA):=⟨rfl,rfl,rfl,by decide +kernel,rfl,by decide +kernel,by decide +kernel⟩
noncomputable abbrev OE (Cg:List D→HD→Out D):MS:=AL (Ah Cg (Aa (Ab 0) (Aa (mC (.int 0)) (Aa (mC (.int 1)) (Ad)))))
abbrev HB:Stmt:=Bw 40
theorem sc__law_board:Bg ["_law_box_here","_law_high","_law_wide","_law_way","_law_digits","_law_dense","_law_rows","_law_number"] ["_law_box_here","_law_high","_law_wide"] (defScope HB):=⟨rfl,rfl,rfl,by decide +kernel,rfl,by decide +kernel,by decide +kernel⟩
noncomputable abbrev OF (AB:List D→HD→Out D) (CG:List D→HD→Out D):MS:=Al (Ay 3 (Ah AB (Aa (Ab 0) (Aa (mC (.int 5)) (Ad))))) (Al (Ay 4 (Ah CG (Aa (Ab 0) (Ad)))) (Al (Ay 5 (Ag Au (Be (Aa (mC (.int 3)) (Aa (mC (.int 1)) (Aa (mC (.int 5)) (Aa (mC (.int 3)) (Aa (mC (.int 2)) (Ad))))))) (Ab 3))) (Al (Ay 6 (Be (Ad))) (Al (B4 (CO (Aa (Ab 1) (Ad))) (A7 7) (EA (Gr (Ab 6) (Ah (Aq Cy) (Aa (Bf [none,some 4,some 5] (CO (Aa (Ab 2) (Ad))) (A7 0) (Bq) (Ah (Aq Fm) (Aa (Ag GV (Ah AB (Aa (Ab 1) (Aa (mC (.int 6)) (Ad)))) (Ab 2)) (Ad)))) (Ad)))))) (Al (Bh (Bj (Ag Eh (Ab 3) (mC (.int 3)))) (Ay 6 (Ag CC (Be (Aa (Ag Au (Ab 6) (mC (.int 0))) (Ad))) (Ab 1))) (Bo)) (AL (Ah (Aq Cy) (Aa (Ab 6) (Ad)))))))))
abbrev HC:Stmt:=Bw 43
theorem sc__law_net:Bg ["_law_box_here","_law_many","_law_way","_law_digits","_law_some","_law_ties","_law_a","_law_b","_law_light"] ["_law_box_here"] (defScope HC):=⟨rfl,rfl,rfl,by decide +kernel,rfl,by decide +kernel,by decide +kernel⟩
noncomputable abbrev OG (AB:List D→HD→Out D) (CG:List D→HD→Out D):MS:=Al (GZ 1 2 (Aa (Ag As (mC (.int 1)) (Ah AB (Aa (Ab 0) (Aa (mC (.int 8)) (Ad))))) (Aa (Ah AB (Aa (Ab 0) (Aa (mC (.int 4)) (Ad)))) (Ad)))) (Al (Ay 3 (Ah CG (Aa (Ab 0) (Ad)))) (Al (Ay 4 (Bf [none,some 3] (CO (Aa (Ab 1) (Ad))) (A7 0) (Bq) (Ah AB (Aa (Ab 1) (Aa (mC (.int 2)) (Ad)))))) (Al (Ay 5 (Be (Ad))) (Al (B4 (CO (Aa (Ab 1) (Ad))) (A7 6) (B4 (KW (Aa (Ag As (Ab 6) (mC (.int 1))) (Aa (Ab 1) (Ad)))) (A7 7) (Al (Ay 8 (Ah AB (Aa (Ab 3) (Aa (mC (.int 2)) (Ad))))) (Al (Bh (Bj (Ag Eh (Ab 2) (mC (.int 0)))) (Ay 8 (Ag DF (Ag As (Ag Au (Ab 4) (Ab 6)) (Ag Au (Ab 4) (Ab 7))) (mC (.int 2)))) (Bo)) (Bh (GQ (Bj (Ag GX (Ah AB (Aa (Ab 3) (Aa (mC (.int 3)) (Ad)))) (mC (.int 0)))) (DM (Bj (Ag B5 (Ab 2) (mC (.int 1)))) (Bj (Fj GV GW (Ab 6) (mC (.int 3)) (Ab 7))))) (EA (Gr (Ab 5) (Ax (Aa (Ab 6) (Aa (Ab 7) (Aa (Ab 8) (Ad))))))) (Bo)))))) (AL (Ax (Aa (Ab 1) (Aa (Ah (Aq Cy) (Aa (Ab 5) (Ad))) (Ad)))))))))
abbrev HE:Stmt:=Bw 18
theorem ZI:Bg ["thing"] ["thing"] (defScope HE):=⟨rfl,rfl,rfl,by decide +kernel,rfl,by decide +kernel,by decide +kernel⟩
noncomputable abbrev OH (CF:List D→HD→Out D) (CH:List D→HD→Out D):MS:=AL (Ge (Ah CF (Aa (Ab 0) (Ad))) (Ah (Aq DQ) (Aa (Bf [none] (BV (Ab 0)) (A7 0) (Bq) (Ah CH (Aa (Ab 0) (Ad)))) (Ad))))
abbrev HF:Stmt:=Bw 26
theorem ZJ:Bg ["thing","many"] ["thing","many"] (defScope HF):=⟨rfl,rfl,rfl,by decide +kernel,rfl,by decide +kernel,by decide +kernel⟩
noncomputable abbrev OI (FA:List D→HD→Out D) (CH:List D→HD→Out D):MS:=Al (Bh (DM (Cw (Cu (Ah (Br AR) (Aa (Ab 0) (Aa (mC (.ty "tuple")) (Ad)))))) (Bj (Ag B5 (Ah (Aq Bk) (Aa (Ab 0) (Ad))) (mC (.int 3))))) (AL (mC (.bl false))) (Bo)) (AL (Ge (Ah FA (Aa (BB (Ab 0) (BF) (BA (mC (.int 2)))) (Aa (Ab 1) (Ad)))) (Ah CH (Aa (Ag Au (Ab 0) (mC (.int 2))) (Ad)))))
abbrev HG:Stmt:=Bw 19
theorem ZK:Bg ["thing"] ["thing"] (defScope HG):=⟨rfl,rfl,rfl,by decide +kernel,rfl,by decide +kernel,by decide +kernel⟩
noncomputable abbrev OJ (CF:List D→HD→Out D) (FC:List D→HD→Out D):MS:=Al (Bh (DM (Cw (Cu (Ah CF (Aa (Ab 0) (Ad))))) (Cw (Cu (Ah (Aq DQ) (Aa (Bf [none] (BV (Ab 0)) (A7 0) (Bq) (Ah FC (Aa (Ab 0) (Ad)))) (Ad)))))) (AL (mC (.bl false))) (Bo)) (AL (Ah (Aq DQ) (Aa (Bf [none,some 0] (BV (Ab 0)) (A7 0) (Bq) (Ag Eh (Ah (Aq Bk) (Aa (Ab 0) (Ad))) (Ah (Aq Bk) (Aa (Ag Au (Ab 1) (mC (.int 0))) (Ad))))) (Ad))))
abbrev HH:Stmt:=Bw 27
theorem sc_is_net:Bg ["thing","many","ties"] ["thing"] (defScope HH):=⟨rfl,rfl,rfl,by decide +kernel,rfl,by decide +kernel,by decide +kernel⟩
noncomputable abbrev OK (Cg:List D→HD→Out D) (FD:List D→HD→Out D):MS:=Al (Bh (DM (Cw (Cu (Ah (Br AR) (Aa (Ab 0) (Aa (mC (.ty "tuple")) (Ad)))))) (Bj (Ag B5 (Ah (Aq Bk) (Aa (Ab 0) (Ad))) (mC (.int 2))))) (AL (mC (.bl false))) (Bo)) (Al (EB (De 1 2) (Ab 0)) (Al (Bh (DM (Cw (Cu (Ah Cg (Aa (Ab 1) (Aa (mC (.int 1)) (Aa (mC (.int 8)) (Ad))))))) (Cw (Cu (Ah (Br AR) (Aa (Ab 2) (Aa (mC (.ty "tuple")) (Ad))))))) (AL (mC (.bl false))) (Bo)) (Al (Bh (Cw (Cu (Ah (Aq DQ) (Aa (Bf [none,some 1] (BV (Ab 2)) (A7 0) (Bq) (Ah FD (Aa (Ab 0) (Aa (Ab 1) (Ad))))) (Ad))))) (AL (mC (.bl false))) (Bo)) (AL (Ah (Aq DQ) (Aa (Bf [none,none] (Lj (Aa (Ab 2) (Aa (BB (Ab 2) (BA (mC (.int 1))) (BF)) (Ad)))) (De 0 1) (Bq) (Ag (LG HT.lexLt) (BB (Ab 0) (BF) (BA (mC (.int 2)))) (BB (Ab 1) (BF) (BA (mC (.int 2)))))) (Ad)))))))
abbrev HI:Stmt:=Bw 20
theorem ZL:Bg ["thing"] ["thing"] (defScope HI):=⟨rfl,rfl,rfl,by decide +kernel,rfl,by decide +kernel,by decide +kernel⟩
noncomputable abbrev Mb (E3:List D→HD→Out D):MS:=Bh (Cw (Cu (Ah E3 (Aa (Ab 0) (Ad))))) (IA "NoBoard" (Aa (mC (.str "this is no board")) (Ad))) (Bo)
abbrev HJ:Stmt:=Bw 28
theorem ZM:Bg ["thing"] ["thing"] (defScope HJ):=⟨rfl,rfl,rfl,by decide +kernel,rfl,by decide +kernel,by decide +kernel⟩
noncomputable abbrev JW (B2:List D→HD→Out D):MS:=Bh (Cw (Cu (Ah B2 (Aa (Ab 0) (Ad))))) (IA "NoNet" (Aa (mC (.str "this is no net")) (Ad))) (Bo)
abbrev HK:Stmt:=Bw 30
theorem sc_net_left:Bg ["net","many","ties"] ["net"] (defScope HK):=⟨rfl,rfl,rfl,by decide +kernel,rfl,by decide +kernel,by decide +kernel⟩
noncomputable abbrev Mc (DI:List D→HD→Out D) (EU:List D→HD→Out D) (EV:List D→HD→Out D):MS:=Al (EA (Ah DI (Aa (Ab 0) (Ad)))) (Al (EB (De 1 2) (Ab 0)) (AL (Ah (Aq (FO DU)) (Aa (Bf [none,some 2] (BV (Ah EU (Aa (Ax (Aa (mC (.int 0)) (Ad))) (Aa (Ag KO (Ab 1) (mC (.int 1))) (Ad))))) (A7 0) (Bq) (Ah EV (Aa (Ab 1) (Aa (Ab 0) (Ad))))) (Ad)))))
abbrev HL:Stmt:=Bw 31
theorem sc_net_of:Bg ["board","high","lines"] ["board"] (defScope HL):=⟨rfl,rfl,rfl,by decide +kernel,rfl,by decide +kernel,by decide +kernel⟩
noncomputable abbrev JX (DH:List D→HD→Out D):MS:=Al (EA (Ah DH (Aa (Ab 0) (Ad)))) (Al (Ay 1 (Ah (Aq Bk) (Aa (Ab 0) (Ad)))) (Al (Ay 2 (Ag As (Ab 1) (Ah (Aq Bk) (Aa (Ag Au (Ab 0) (mC (.int 0))) (Ad))))) (Al (Bh (Bj (Ag GX (Ab 2) (mC (.int 8)))) (JQ (Aa (Ab 2) (Aa (mC (.int 8)) (Ad)))) (Bo)) (AL (Ax (Aa (Ab 2) (Aa (Ah (Aq Cy) (Aa (EN [none,none,none,none,some 1] (Hb (Aa (Ab 0) (Ad))) (De 0 1) (Bq) (GA (Hb (Aa (Ab 1) (Ad))) (De 2 3) (Bq) (FS (Ax (Aa (Ab 0) (Aa (Ag As (Ab 4) (Ab 2)) (Aa (Ab 3) (Ad)))))))) (Ad))) (Ad))))))))
abbrev s_law:Stmt:=Bw 46
theorem sc_law:Bg ["_law_script","_law_k","_law_box_here","_law_net_here","_law_lits","_law_high","_law_wide","_law_less","_law_board_here","_law_lines","_law_ties","_law_row","_law_turn","_law_none","_law_bad"] ["_law_script"] (defScope s_law):=⟨rfl,rfl,rfl,by decide +kernel,rfl,by decide +kernel,by decide +kernel⟩
noncomputable abbrev Md (EY:List D→HD→Out D) (E2:List D→HD→Out D) (EW:List D→HD→Out D) (EX:List D→HD→Out D) (DJ:List D→HD→Out D) (AB:List D→HD→Out D) (DX:List D→HD→Out D) (CV:List D→HD→Out D) (EZ:List D→HD→Out D) (E1:List D→HD→Out D) (B2:List D→HD→Out D) (Cf:List D→HD→Out D):MS:=Al (B4 (CO (Aa (Ah (Br Jv) (Aa (mC (.int 1)) (Aa (Ah (Br Gi) (Aa (Ah (Aq Bk) (Aa (Ab 0) (Ad))) (Aa (mC (.int 4)) (Ad)))) (Ad)))) (Ad))) (A7 1) (Al (Ay 2 (Ah EY (Aa (Ab 0) (Aa (Ab 1) (Ad))))) (Al (Ay 3 (Ah E2 (Aa (Ab 2) (Ad)))) (Al (Ay 4 (Bf [none,some 3] (BV (Ah EW (Aa (Ag Au (Ab 3) (mC (.int 0))) (Ad)))) (A7 0) (Bq) (Ah (Aq Gq) (Aa (Bf [none] (BV (Ag Au (Ah EX (Aa (Ab 1) (Aa (Ab 0) (Ad)))) (mC (.int 1)))) (A7 0) (Bq) (Ag Au (Ab 0) (mC (.int 2)))) (Ad))))) (Al (Bh (Bj (Ag B5 (Ah (Aq BZ) (Aa (Ah DJ (Aa (Ab 3) (Ad))) (Ad))) (Ah (Aq BZ) (Aa (Ah (Aq (FO DU)) (Aa (Ab 4) (Ad))) (Ad))))) (AL (mC (.bl false))) (Bo)) (Al (GZ 5 6 (Aa (Ag As (mC (.int 1)) (Ah AB (Aa (Ab 2) (Aa (mC (.int 8)) (Ad))))) (Aa (Ag As (mC (.int 1)) (Ah AB (Aa (Ab 2) (Aa (mC (.int 8)) (Ad))))) (Ad)))) (Al (Ay 7 (Ag As (mC (.int 1)) (Ah AB (Aa (Ab 2) (Aa (Ah (Br Gi) (Aa (Ab 5) (Aa (mC (.int 7)) (Ad)))) (Ad)))))) (Al (B4 (BV (Be (Aa (Ah DX (Aa (Ab 2) (Aa (Ab 5) (Aa (Ab 6) (Ad))))) (Aa (Ah DX (Aa (Ab 2) (Aa (Ab 7) (Aa (Ag As (mC (.int 1)) (Ah AB (Aa (Ab 2) (Aa (Ag KO (mC (.int 8)) (Ab 7)) (Ad))))) (Ad))))) (Ad))))) (A7 8) (Al (Ay 9 (Ag As (Ah (Aq Bk) (Aa (Ab 8) (Ad))) (Ah (Aq Bk) (Aa (Ag Au (Ab 8) (mC (.int 0))) (Ad))))) (Bh (Bj (Ag GX (Ab 9) (mC (.int 8)))) (Bh (Bj (Ag B5 (DW [8] Cf (Ah CV (Aa (Ab 0) (Ad)))) (Ag As (Ag As (mC (.str "! many ")) (Ah (Aq strOfD) (Aa (Ab 9) (Ad)))) (mC (.str " 8"))))) (AL (mC (.bl false))) (Bo)) (Al (Ay 10 (Be (Ad))) (Al (B4 (CO (Aa (Ah (Aq Bk) (Aa (Ab 8) (Ad))) (Ad))) (A7 11) (Ay 10 (Ag As (Ab 10) (Bf [none,none,some 11,some 8] (Hb (Aa (Ag Au (Ab 8) (Ab 11)) (Ad))) (De 0 1) (Bq) (Ax (Aa (Ab 2) (Aa (Ag As (Ah (Aq Bk) (Aa (Ab 3) (Ad))) (Ab 0)) (Aa (Ab 1) (Ad))))))))) (Bh (Bj (Ag B5 (Ah (Aq BZ) (Aa (Ah CV (Aa (Ab 8) (Ad))) (Ad))) (Ah (Aq BZ) (Aa (Ax (Aa (Ab 9) (Aa (Ah (Aq Cy) (Aa (Ab 10) (Ad))) (Ad)))) (Ad))))) (AL (mC (.bl false))) (Bo))))))) (B4 (CO (Aa (mC (.int 3)) (Ad))) (A7 12) (Al (EB (Ei [13,14]) (Ax (Aa (Ah E1 (Aa (Ab 2) (Aa (Ab 3) (Ad)))) (Aa (Ah EZ (Aa (Ab 2) (Aa (Ab 8) (Ad)))) (Ad))))) (Al (Bh (Bj (Ag B5 (DW [13] Cf (Ah DJ (Aa (Ab 0) (Ad)))) (Ag Au (Be (Aa (mC (.str "! net")) (Aa (mC (.str "told")) (Ad)))) (Ah (Aq Fm) (Aa (Ah B2 (Aa (Ab 13) (Ad))) (Ad)))))) (AL (mC (.bl false))) (Bo)) (Bh (Bj (Ag B5 (DW [14] Cf (Ah CV (Aa (Ab 0) (Ad)))) (mC (.str "! board")))) (AL (mC (.bl false))) (Bo))))))))))))) (AL (mC (.bl true)))
section
variable {P:Program} {w:World} {K:PySem.W.Frag} {mg:Str→Option Value} {base:Heap} (B:Bl mg) (et:etOk K=true) {CT fT:Addr} {fdT:FuncData} {oT:Obj} (TM:SC P w K mg base CT fT fdT oT)
include B et TM
theorem ZN (f:Addr) (cdv:Value) (A:Around) (outer:List Env) (s:Shared) (H:Hp) (E:XK) (hr:Room 0 (A.deeper (envOfC "is_whole" (defScope Hi) s.heap.objs.size f cdv))):
 A8 (AW (AE P w K) P w K mg base ["thing"] "is_whole" (defScope Hi) f cdv A outer s H E) E (defBody Hi) (Oo):=
 AC (A4 (Jo (AN (CB et) rfl B.n_isinstance CD (Ac (Ae (pv 0)) (Ac (Gn rfl B.n_int JU) (Af)))) (Jn (V9 (AN (CB et) rfl B.n_isinstance CD (Ac (Ae (pv 0)) (Ac (Gn rfl B.n_bool Zv) (Af))))))))
theorem ZO {t_MOST_LINES:Tok} (m_MOST_LINES:mg "MOST_LINES"=some (.int 8 t_MOST_LINES)) (f:Addr) (cdv:Value) (A:Around) (outer:List Env) (s:Shared) (H:Hp) (E:XK) (hr:Room 0 (A.deeper (envOfC "is_line_tuple" (defScope Hj) s.heap.objs.size f cdv))):
 A8 (AW (AE P w K) P w K mg base ["thing"] "is_line_tuple" (defScope Hj) f cdv A outer s H E) E (defBody Hj) (Oq):=
 AC (A4 (Jo (AN (CB et) rfl B.n_isinstance CD (Ac (Ae (pv 0)) (Ac (Gn rfl B.n_tuple ES) (Af)))) (Jn (P7 Jq Jq (Ak) (AN Cm rfl B.n_len Co (Ac (Ae (pv 0)) (Af))) (KI rfl m_MOST_LINES)))))
theorem ZP (f:Addr) (cdv:Value) (A:Around) (outer:List Env) (s:Shared) (H:Hp) (E:XK) (hr:Room 0 (A.deeper (envOfC "rising_rows" (defScope Hk) s.heap.objs.size f cdv))):
 A8 (AW (AE P w K) P w K mg base ["start","many","rows","place"] "rising_rows" (defScope Hk) f cdv A outer s H E) E (defBody Hk) (Ot):=
 Av (AZ (i:=2) sc_rising_rows.nd rfl (by first|exact .inl rfl|exact .inr rfl) (BD (Ac (Ae (pv 0)) (Af)))) (Av (DO DT rfl (EF rfl B.n_range (Ac (Ae (pv 1)) (Af))) (Ed (AS (i:=3) (sc_rising_rows.nd) rfl (by first|exact .inl rfl|exact .inr rfl) (by first|exact .inl rfl|exact .inr rfl))) (AC (Zs (i:=2) (Nc:=["row","light"]) (cs:=[none,none]) (is:=[0]) (js:=[1]) rfl sc_rising_rows.nd rfl (by first|exact .inl rfl|exact .inr rfl) (CSc.ok ⟨rfl,by decide +kernel,by kernel_rfl,by decide +kernel,rfl,by kernel_rfl⟩) (Df (Ae (pv 2))) (fun g e=>by cases e<;>rfl) (by decide) (R4 (i:=0) (js:=[1]) (by decide)) (fun C D cells fp s₀ H₀ pins ao=>⟨AS (i:=0) (show (["row","light"]:List Str).Nodup from by decide +kernel) rfl (by first|exact .inl rfl|exact .inr rfl) (by first|exact .inl rfl|exact .inr rfl),Cn,R9 (is:=[1]) (js:=[]) rfl rfl rfl (fun g e=>by cases e<;>rfl) (Df (AY (Ac (Ak) (Ac (Ak) (Af))))) (AS (i:=1) (show (["row","light"]:List Str).Nodup from by decide +kernel) rfl (by first|exact .inl rfl|exact .inr rfl) (by first|exact .inl rfl|exact .inr rfl)) (R4 (i:=1) (js:=[]) (by decide)) (Cn) (R8 ao rfl rfl (Aw AH (Ae (pv 0)) (AY (Ac (Ae (pv 1)) (Af)))))⟩)))) (AC (A4 (Ae (pv 2)))))
theorem ZQ (f:Addr) (cdv:Value) (A:Around) (outer:List Env) (s:Shared) (H:Hp) (E:XK) (hr:Room 0 (A.deeper (envOfC "lit_by_sides" (defScope Hl) s.heap.objs.size f cdv))):
 A8 (AW (AE P w K) P w K mg base ["ties","sides"] "lit_by_sides" (defScope Hl) f cdv A outer s H E) E (defBody Hl) (Ou):=
 AC (A4 (AN (Qx rfl) rfl B.n_sum SE (Ac (EG (Nc:=["a","b","light","sides"]) (cs:=[none,none,none,some 1]) rfl (CSc.ok ⟨rfl,by decide +kernel,by kernel_rfl,by decide +kernel,rfl,by kernel_rfl⟩) (Df (Ae (pv 0))) (YC rfl rfl rfl) (fun C D cells fp s₀ H₀ pins=>⟨HZ rfl (Dz (AS (i:=0) (show (["a","b","light","sides"]:List Str).Nodup from by decide +kernel) rfl (by first|exact .inl rfl|exact .inr rfl) (by first|exact .inl rfl|exact .inr rfl)) (Dz (AS (i:=1) (show (["a","b","light","sides"]:List Str).Nodup from by decide +kernel) rfl (by first|exact .inl rfl|exact .inr rfl) (by first|exact .inl rfl|exact .inr rfl)) (Dz (AS (i:=2) (show (["a","b","light","sides"]:List Str).Nodup from by decide +kernel) rfl (by first|exact .inl rfl|exact .inr rfl) (by first|exact .inl rfl|exact .inr rfl)) (HY)))),Cn,Aw GY (Aw AH (Aw AH (Ae (pv 2)) (Bn (Ae (pv 3)) (Ae (pv 0)) (fun _ _=>rfl))) (Bn (Ae (pv 3)) (Ae (pv 1)) (fun _ _=>rfl))) (Ak)⟩)) (Af))))
theorem ZR (f:Addr) (cdv:Value) (A:Around) (outer:List Env) (s:Shared) (H:Hp) (E:XK) (hr:Room 0 (A.deeper (envOfC "_law_cell" (defScope Hm) s.heap.objs.size f cdv))):
 A8 (AW (AE P w K) P w K mg base ["_law_script","_law_k"] "_law_cell" (defScope Hm) f cdv A outer s H E) E (defBody Hm) (L8):=
 Av (BY (CK Jp (Ae (pv 1)) (AN Cm rfl B.n_len Co (Ac (Ae (pv 0)) (Af))) (Cd _)) (AC (A4 (Bn (Ae (pv 0)) (Ae (pv 1)) (fun _ _=>rfl)))) (B1)) (AC (A4 (Aw AH (Aw EK (Ak) (Ae (pv 1))) (Ak))))
theorem ZS (f:Addr) (cdv:Value) (A:Around) (outer:List Env) (s:Shared) (H:Hp) (E:XK) (hr:Room 0 (A.deeper (envOfC "_law_mix" (defScope Hn) s.heap.objs.size f cdv))):
 A8 (AW (AE P w K) P w K mg base ["_law_cell_here","_law_k","_law_number"] "_law_mix" (defScope Hn) f cdv A outer s H E) E (defBody Hn) (Ov):=
 Av (AZ (i:=2) sc__law_mix.nd rfl (by first|exact .inl rfl|exact .inr rfl) (Aw AH (Aw EK (Aw AH (Ae (pv 0)) (Ak)) (Ak)) (Aw EK (Ak) (Ae (pv 1))))) (Av (AZ (i:=2) sc__law_mix.nd rfl (by first|exact .inl rfl|exact .inr rfl) (Aw AH (Aw GY (Aw EK (Ae (pv 2)) (Ae (pv 2))) (Ak)) (Ae (pv 1)))) (AC (A4 (Aw GY (Aw EK (Ae (pv 2)) (Aw AH (Ae (pv 2)) (Ak))) (Ak)))))
theorem ZT (f:Addr) (cdv:Value) (A:Around) (outer:List Env) (s:Shared) (H:Hp) (E:XK) (hr:Room 0 (A.deeper (envOfC "_law_take" (defScope Ho) s.heap.objs.size f cdv))):
 A8 (AW (AE P w K) P w K mg base ["_law_box_here","_law_many","_law_left","_law_digit"] "_law_take" (defScope Ho) f cdv A outer s H E) E (defBody Ho) (Ow):=
 Av (G0 (AN Wj rfl B.n_divmod Zw (Ac (Bn (Ae (pv 0)) (Ak) (fun _ _=>rfl)) (Ac (Ae (pv 1)) (Af)))) (KV (Gs rfl (AS (i:=2) (sc__law_take.nd) rfl (by first|exact .inl rfl|exact .inr rfl) (by first|exact .inl rfl|exact .inr rfl)) (AS (i:=3) (sc__law_take.nd) rfl (by first|exact .inl rfl|exact .inr rfl) (by first|exact .inl rfl|exact .inr rfl))))) (Av (WA (Ae (pv 0)) (Ak) (Ae (pv 2))) (AC (A4 (Ae (pv 3)))))
theorem ZU (f:Addr) (cdv:Value) (A:Around) (outer:List Env) (s:Shared) (H:Hp) (hr:RoomM 0 (A.deeper (envOfC "_law_kind" (defScope Hq) s.heap.objs.size f cdv))):
 A8 (IH P w K mg base ["_law_e","_law_kinds","_law_words"] "_law_kind" (defScope Hq) f cdv A outer s H) E0 (defBody Hq) (L9):=
 Av (AZ (i:=1) sc__law_kind.nd rfl (by first|exact .inl rfl|exact .inr rfl) (BD (Ac (AN (CB et) rfl B.n_isinstance CD (Ac (Ae (pv 0)) (Ac (Fu et (by decide +kernel)) (Af)))) (Ac (AN (CB et) rfl B.n_isinstance CD (Ac (Ae (pv 0)) (Ac (Fu et (by decide +kernel)) (Af)))) (Ac (AN (CB et) rfl B.n_isinstance CD (Ac (Ae (pv 0)) (Ac (Fu et (by decide +kernel)) (Af)))) (Ac (AN (CB et) rfl B.n_isinstance CD (Ac (Ae (pv 0)) (Ac (Fu et (by decide +kernel)) (Af)))) (Af))))))) (Av (AZ (i:=1) sc__law_kind.nd rfl (by first|exact .inl rfl|exact .inr rfl) (Aw AH (Ae (pv 1)) (BD (Ac (AN (CB et) rfl B.n_isinstance CD (Ac (Ae (pv 0)) (Ac (Fu et (by decide +kernel)) (Af)))) (Ac (AN (CB et) rfl B.n_isinstance CD (Ac (Ae (pv 0)) (Ac (Fu et (by decide +kernel)) (Af)))) (Ac (AN (CB et) rfl B.n_isinstance CD (Ac (Ae (pv 0)) (Ac (Fu et (by decide +kernel)) (Af)))) (Ac (AN (CB et) rfl B.n_isinstance CD (Ac (Ae (pv 0)) (Ac (Fu et (by decide +kernel)) (Af)))) (Af)))))))) (Av (AZ (i:=1) sc__law_kind.nd rfl (by first|exact .inl rfl|exact .inr rfl) (Aw AH (Ae (pv 1)) (BD (Ac (AN (CB et) rfl B.n_isinstance CD (Ac (Ae (pv 0)) (Ac (Fu et (by decide +kernel)) (Af)))) (Ac (AN (CB et) rfl B.n_isinstance CD (Ac (Ae (pv 0)) (Ac (Fu et (by decide +kernel)) (Af)))) (Af)))))) (Av (BY (Gd (GT (DN (DL (AN (CB et) rfl B.n_isinstance CD (Ac (Ae (pv 0)) (Ac (Gn rfl B.n_ValueError Zu) (Af)))))) (GS (CK (FR hr.units) (Rv PySem.F.plainAttrs_list PySem.F.slot_list_count PySem.F.type_list_count NR XI XG (Ae (pv 1)) (B7)) (Ak) (Cd _))))) (AC (A4 (BX))) (B1)) (Av (BY (DL (Bn (Ae (pv 1)) (Ak) (fun _ _=>rfl))) (AC (A4 (Aw AH (Aw AH (Aw AH (BX) (AN (IP hr.units hr.gd) rfl B.n_repr IS (Ac (Sn TM.tm TM.nC (.inl rfl) (Ae (pv 0))) (Af)))) (BX)) (AN (IP hr.units hr.gd) rfl B.n_repr IS (Ac (Sn TM.tm TM.nC (.inr rfl) (Ae (pv 0))) (Af)))))) (B1)) (Av (AZ (i:=2) sc__law_kind.nd rfl (by first|exact .inl rfl|exact .inr rfl) (BD (Ac (BX) (Ac (BX) (Ac (BX) (Ac (BX) (Ac (BX) (Ac (BX) (Ac (BX) (Ac (BX) (Ac (BX) (Af)))))))))))) (AC (A4 (Aw AH (BX) (Bn (Ae (pv 2)) (Rv PySem.F.plainAttrs_list PySem.F.slot_list_index PySem.F.type_list_index NR XH XJ (Ae (pv 1)) (B7)) (fun _ _=>rfl))))))))))
theorem ZV (f:Addr) (cdv:Value) (A:Around) (outer:List Env) (s:Shared) (H:Hp) (E:XK) (hr:Room 0 (A.deeper (envOfC "_law_lots" (defScope Hr) s.heap.objs.size f cdv))):
 A8 (AW (AE P w K) P w K mg base ["_law_size","_law_found","_law_number"] "_law_lots" (defScope Hr) f cdv A outer s H E) E (defBody Hr) (Ox):=
 Av (AZ (i:=1) sc__law_lots.nd rfl (by first|exact .inl rfl|exact .inr rfl) (BD (Ac (AY (Af)) (Af)))) (Av (DO DT rfl (EF rfl B.n_range (Ac (Ae (pv 0)) (Af))) (Ed (AS (i:=2) (sc__law_lots.nd) rfl (by first|exact .inl rfl|exact .inr rfl) (by first|exact .inl rfl|exact .inr rfl))) (AC (AZ (i:=1) sc__law_lots.nd rfl (by first|exact .inl rfl|exact .inr rfl) (Aw AH (Ae (pv 1)) (EG (Nc:=["_law_lot","_law_number"]) (cs:=[none,some 2]) rfl (CSc.ok ⟨rfl,by decide +kernel,by kernel_rfl,by decide +kernel,rfl,by kernel_rfl⟩) (Df (Ae (pv 1))) (Ee rfl) (fun C D cells fp s₀ H₀ pins=>⟨AS (i:=0) (show (["_law_lot","_law_number"]:List Str).Nodup from by decide +kernel) rfl (by first|exact .inl rfl|exact .inr rfl) (by first|exact .inl rfl|exact .inr rfl),Cn,Aw AH (Ae (pv 0)) (AY (Ac (Ae (pv 1)) (Af)))⟩)))))) (AC (A4 (Ae (pv 1)))))
theorem ZW (f:Addr) (cdv:Value) (A:Around) (outer:List Env) (s:Shared) (H:Hp) (E:XK) (hr:Room 0 (A.deeper (envOfC "_law_net_switched" (defScope Hs) s.heap.objs.size f cdv))):
 A8 (AW (AE P w K) P w K mg base ["_law_net_here","_law_lot","_law_ties","_law_a","_law_b","_law_light"] "_law_net_switched" (defScope Hs) f cdv A outer s H E) E (defBody Hs) (Oy):=
 Av (AZ (i:=2) sc__law_net_switched.nd rfl (by first|exact .inl rfl|exact .inr rfl) (BD (Af))) (Av (DO DT rfl (Df (Bn (Ae (pv 0)) (Ak) (fun _ _=>rfl))) (Ly (is:=[3,4,5]) (HZ rfl (Dz (AS (i:=3) (sc__law_net_switched.nd) rfl (by first|exact .inl rfl|exact .inr rfl) (by first|exact .inl rfl|exact .inr rfl)) (Dz (AS (i:=4) (sc__law_net_switched.nd) rfl (by first|exact .inl rfl|exact .inr rfl) (by first|exact .inl rfl|exact .inr rfl)) (Dz (AS (i:=5) (sc__law_net_switched.nd) rfl (by first|exact .inl rfl|exact .inr rfl) (by first|exact .inl rfl|exact .inr rfl)) (HY)))))) (AC (Jw (Nk (Ae (pv 2)) (AY (Ac (Ae (pv 3)) (Ac (Ae (pv 4)) (Ac (Aw GY (Aw AH (Aw AH (Ae (pv 5)) (Dr KU rfl B.n_int JU (Ac (Jm Qe (Ae (pv 3)) (Ae (pv 1)) (by with_unfolding_all rfl)) (Af)))) (Dr KU rfl B.n_int JU (Ac (Jm Qe (Ae (pv 4)) (Ae (pv 1)) (by with_unfolding_all rfl)) (Af)))) (Ak)) (Af))))))))) (AC (A4 (AY (Ac (Bn (Ae (pv 0)) (Ak) (fun _ _=>rfl)) (Ac (Dr Im rfl B.n_tuple ES (Ac (Ae (pv 2)) (Af))) (Af)))))))
theorem ZX {B6:List D→HD→Out D} (c_is_whole:CaE P w K mg base "is_whole" 1 B6) (f:Addr) (cdv:Value) (A:Around) (outer:List Env) (s:Shared) (H:Hp) (E:XK) (hr:Room 1 (A.deeper (envOfC "is_between" (defScope Ht) s.heap.objs.size f cdv))):
 A8 (AW (AE P w K) P w K mg base ["thing","least","most"] "is_between" (defScope Ht) f cdv A outer s H E) E (defBody Ht) (Ma B6):=
 AC (A4 (Jo (AQ c_is_whole hr A1 (Ac (Ae (pv 0)) (Af))) (Jn (P7 Jq Jq (Ae (pv 1)) (Ae (pv 0)) (Ae (pv 2))))))
theorem ZY {B6:List D→HD→Out D} (c_is_whole:CaE P w K mg base "is_whole" 1 B6) (f:Addr) (cdv:Value) (A:Around) (outer:List Env) (s:Shared) (H:Hp) (E:XK) (hr:Room 1 (A.deeper (envOfC "is_lot" (defScope Hu) s.heap.objs.size f cdv))):
 A8 (AW (AE P w K) P w K mg base ["thing","size","last","number"] "is_lot" (defScope Hu) f cdv A outer s H E) E (defBody Hu) (Oz B6):=
 Av (BY (DN (DL (AN (CB et) rfl B.n_isinstance CD (Ac (Ae (pv 0)) (Ac (Gn rfl B.n_tuple ES) (Af)))))) (AC (A4 (B7))) (B1)) (Av (AZ (i:=2) sc_is_lot.nd rfl (by first|exact .inl rfl|exact .inr rfl) (K3 (Ak))) (Av (DO DT rfl (Df (Ae (pv 0))) (Ed (AS (i:=3) (sc_is_lot.nd) rfl (by first|exact .inl rfl|exact .inr rfl) (by first|exact .inl rfl|exact .inr rfl))) (Av (BY (Gd (GT (DN (DL (AQ c_is_whole hr A1 (Ac (Ae (pv 3)) (Af))))) (GS (DN (P8 Jp Jp (Ae (pv 2)) (Ae (pv 3)) (Ae (pv 1))))))) (AC (A4 (B7))) (B1)) (AC (AZ (i:=2) sc_is_lot.nd rfl (by first|exact .inl rfl|exact .inr rfl) (Ae (pv 3)))))) (AC (A4 (B7)))))
theorem ZZ {Fy:List D→HD→Out D} {Fz:List D→HD→Out D} (c__law_cell:CaE P w K mg base "_law_cell" 1 Fy) (c__law_mix:CaE P w K mg base "_law_mix" 1 Fz) (f:Addr) (cdv:Value) (A:Around) (outer:List Env) (s:Shared) (H:Hp) (E:XK) (hr:Room 1 (A.deeper (envOfC "_law_box" (defScope Hv) s.heap.objs.size f cdv))):
 A8 (AW (AE P w K) P w K mg base ["_law_script","_law_k","_law_here","_law_number","_law_j"] "_law_box" (defScope Hv) f cdv A outer s H E) E (defBody Hv) (OA Fy Fz):=
 Av (AZ (i:=2) sc__law_box.nd rfl (by first|exact .inl rfl|exact .inr rfl) (AQ c__law_cell hr A1 (Ac (Ae (pv 0)) (Ac (Ae (pv 1)) (Af))))) (Av (BY (CK (Lu hr.units) (Aw GY (Ae (pv 2)) (Ak)) (Ak) (Cd _)) (AC (A4 (BD (Ac (Aw Wl (Ae (pv 2)) (Ak)) (Af))))) (B1)) (Av (AZ (i:=3) sc__law_box.nd rfl (by first|exact .inl rfl|exact .inr rfl) (Ak)) (Av (DO DT rfl (EF rfl B.n_range (Ac (Ak) (Af))) (Ed (AS (i:=4) (sc__law_box.nd) rfl (by first|exact .inl rfl|exact .inr rfl) (by first|exact .inl rfl|exact .inr rfl))) (AC (AZ (i:=3) sc__law_box.nd rfl (by first|exact .inl rfl|exact .inr rfl) (Aw AH (Aw EK (Ae (pv 3)) (Ak)) (AQ c__law_mix hr A1 (Ac (Ae (pv 2)) (Ac (Ae (pv 4)) (Af)))))))) (AC (A4 (BD (Ac (Ae (pv 3)) (Af))))))))
theorem Z0 {AB:List D→HD→Out D} (c__law_take:CaE P w K mg base "_law_take" 1 AB) (f:Addr) (cdv:Value) (A:Around) (outer:List Env) (s:Shared) (H:Hp) (E:XK) (hr:Room 1 (A.deeper (envOfC "_law_wide_box" (defScope Hw) s.heap.objs.size f cdv))):
 A8 (AW (AE P w K) P w K mg base ["_law_box_here","_law_number","_law_many","_law_j"] "_law_wide_box" (defScope Hw) f cdv A outer s H E) E (defBody Hw) (OB AB):=
 Av (Nb (i:=1) (j:=2) rfl sc__law_wide_box.nd rfl rfl (by decide) rfl rfl (Ac (AQ c__law_take hr A1 (Ac (Ae (pv 0)) (Ac (Ak) (Af)))) (Ac (Ak) (Af))) (by first |rfl |with_unfolding_all rfl)) (Av (DO DT rfl (EF rfl B.n_range (Ac (Ak) (Af))) (Ed (AS (i:=3) (sc__law_wide_box.nd) rfl (by first|exact .inl rfl|exact .inr rfl) (by first|exact .inl rfl|exact .inr rfl))) (Av (AZ (i:=1) sc__law_wide_box.nd rfl (by first|exact .inl rfl|exact .inr rfl) (Aw GY (Aw AH (Aw AH (Aw EK (Ae (pv 1)) (Ak)) (Ak)) (Ae (pv 3))) (Ak))) (AC (AZ (i:=2) sc__law_wide_box.nd rfl (by first|exact .inl rfl|exact .inr rfl) (Aw AH (Aw EK (Ae (pv 2)) (Ak)) (Ae (pv 1))))))) (AC (A4 (BD (Ac (Ae (pv 2)) (Af))))))
theorem Z1 {AB:List D→HD→Out D} (c__law_take:CaE P w K mg base "_law_take" 1 AB) (f:Addr) (cdv:Value) (A:Around) (outer:List Env) (s:Shared) (H:Hp) (E:XK) (hr:Room 1 (A.deeper (envOfC "_law_no_board" (defScope Hx) s.heap.objs.size f cdv))):
 A8 (AW (AE P w K) P w K mg base ["_law_box_here","_law_board_here","_law_at","_law_place","_law_odd","_law_row","_law_bent","_law_some"] "_law_no_board" (defScope Hx) f cdv A outer s H E) E (defBody Hx) (OC AB):=
 Av (G0 (AY (Ac (AQ c__law_take hr A1 (Ac (Ae (pv 0)) (Ac (AN Cm rfl B.n_len Co (Ac (Ae (pv 1)) (Af))) (Af)))) (Ac (AQ c__law_take hr A1 (Ac (Ae (pv 0)) (Ac (AN Cm rfl B.n_len Co (Ac (Bn (Ae (pv 1)) (Ak) (fun _ _=>rfl)) (Af))) (Af)))) (Af)))) (Ly (is:=[2,3]) (HZ rfl (Dz (AS (i:=2) (sc__law_no_board.nd) rfl (by first|exact .inl rfl|exact .inr rfl) (by first|exact .inl rfl|exact .inr rfl)) (Dz (AS (i:=3) (sc__law_no_board.nd) rfl (by first|exact .inl rfl|exact .inr rfl) (by first|exact .inl rfl|exact .inr rfl)) (HY)))))) (Av (AZ (i:=4) sc__law_no_board.nd rfl (by first|exact .inl rfl|exact .inr rfl) (Bn (BD (Ac (Ak) (Ac (K3 (Ak)) (Ac (B7) (Ac (B7) (Ac (Ii) (Ac (BX) (Ac (AY (Ac (Ak) (Af))) (Ac (Aw Qa (Ak) (Ak)) (Ac (BD (Ac (Ak) (Af))) (Ac (LD) (Af)))))))))))) (AQ c__law_take hr A1 (Ac (Ae (pv 0)) (Ac (Ak) (Af)))) (fun _ _=>rfl))) (Av (AZ (i:=5) sc__law_no_board.nd rfl (by first|exact .inl rfl|exact .inr rfl) (Bn (Ae (pv 1)) (Ae (pv 2)) (fun _ _=>rfl))) (Av (AZ (i:=6) sc__law_no_board.nd rfl (by first|exact .inl rfl|exact .inr rfl) (Aw AH (Aw AH (CS (Ae (pv 5)) (CP) (CQ (Ae (pv 3)))) (AY (Ac (Ae (pv 4)) (Af)))) (CS (Ae (pv 5)) (CQ (Aw AH (Ae (pv 3)) (Ak))) (CP)))) (Av (AZ (i:=7) sc__law_no_board.nd rfl (by first|exact .inl rfl|exact .inr rfl) (BD (Ac (Ae (pv 6)) (Ac (Ae (pv 6)) (Ac (Ae (pv 6)) (Ac (Aw AH (Ae (pv 5)) (Aw EK (AY (Ac (Ak) (Af))) (Ak))) (Ac (AY (Af)) (Ac (Dr LC rfl B.n_list L4 (Ac (Ae (pv 5)) (Af))) (Ac (Ii) (Ac (Ak) (Af))))))))))) (Av (BY (CK KP (AN Cm rfl B.n_len Co (Ac (Ae (pv 1)) (Af))) (Ak) (Cd _)) (AC (AZ (i:=7) sc__law_no_board.nd rfl (by first|exact .inl rfl|exact .inr rfl) (Aw AH (Ae (pv 7)) (BD (Ac (CS (Ae (pv 5)) (CP) (CQ (K3 (Ak)))) (Ac (Aw AH (Ae (pv 5)) (AY (Ac (Ak) (Af)))) (Af))))))) (B1)) (Av (KZ (i:=7) (Nc:=["_law_other","_law_board_here","_law_at"]) (cs:=[none,some 1,some 2]) rfl sc__law_no_board.nd rfl (by first|exact .inl rfl|exact .inr rfl) (CSc.ok ⟨rfl,by decide +kernel,by kernel_rfl,by decide +kernel,rfl,by kernel_rfl⟩) (Df (Ae (pv 7))) (Ee rfl) (fun C D cells fp s₀ H₀ pins=>⟨AS (i:=0) (show (["_law_other","_law_board_here","_law_at"]:List Str).Nodup from by decide +kernel) rfl (by first|exact .inl rfl|exact .inr rfl) (by first|exact .inl rfl|exact .inr rfl),Cn,Aw AH (Aw AH (CS (Ae (pv 1)) (CP) (CQ (Ae (pv 2)))) (AY (Ac (Ae (pv 0)) (Af)))) (CS (Ae (pv 1)) (CQ (Aw AH (Ae (pv 2)) (Ak))) (CP))⟩)) (Av (AZ (i:=7) sc__law_no_board.nd rfl (by first|exact .inl rfl|exact .inr rfl) (Aw AH (Ae (pv 7)) (BD (Ac (Dr LC rfl B.n_list L4 (Ac (Ae (pv 1)) (Af))) (Ac (AY (Ac (Ae (pv 1)) (Af))) (Ac (Aw EK (AY (Ac (Bn (Ae (pv 1)) (Ak) (fun _ _=>rfl)) (Af))) (Ak)) (Ac (Aw AH (Ae (pv 1)) (AY (Ac (AY (Af)) (Af)))) (Ac (Bn (Ae (pv 1)) (Ak) (fun _ _=>rfl)) (Ac (Ii) (Ac (AY (Af)) (Ac (Ak) (Ac (BX) (Ac (LD) (Af)))))))))))))) (AC (A4 (Bn (Ae (pv 7)) (AQ c__law_take hr A1 (Ac (Ae (pv 0)) (Ac (AN Cm rfl B.n_len Co (Ac (Ae (pv 7)) (Af))) (Af)))) (fun _ _=>rfl)))))))))))
theorem Z2 {AB:List D→HD→Out D} (c__law_take:CaE P w K mg base "_law_take" 1 AB) (f:Addr) (cdv:Value) (A:Around) (outer:List Env) (s:Shared) (H:Hp) (E:XK) (hr:Room 1 (A.deeper (envOfC "_law_no_net" (defScope Hz) s.heap.objs.size f cdv))):
 A8 (AW (AE P w K) P w K mg base ["_law_box_here","_law_net_here","_law_many","_law_ties","_law_at","_law_spot","_law_odd","_law_tie","_law_bent","_law_some"] "_law_no_net" (defScope Hz) f cdv A outer s H E) E (defBody Hz) (OD AB):=
 Av (G0 (Ae (pv 1)) (KV (Gs rfl (AS (i:=2) (sc__law_no_net.nd) rfl (by first|exact .inl rfl|exact .inr rfl) (by first|exact .inl rfl|exact .inr rfl)) (AS (i:=3) (sc__law_no_net.nd) rfl (by first|exact .inl rfl|exact .inr rfl) (by first|exact .inl rfl|exact .inr rfl))))) (Av (G0 (AY (Ac (AQ c__law_take hr A1 (Ac (Ae (pv 0)) (Ac (Aw AH (AN Cm rfl B.n_len Co (Ac (Ae (pv 3)) (Af))) (Ak)) (Af)))) (Ac (AQ c__law_take hr A1 (Ac (Ae (pv 0)) (Ac (Ak) (Af)))) (Af)))) (Ly (is:=[4,5]) (HZ rfl (Dz (AS (i:=4) (sc__law_no_net.nd) rfl (by first|exact .inl rfl|exact .inr rfl) (by first|exact .inl rfl|exact .inr rfl)) (Dz (AS (i:=5) (sc__law_no_net.nd) rfl (by first|exact .inl rfl|exact .inr rfl) (by first|exact .inl rfl|exact .inr rfl)) (HY)))))) (Av (AZ (i:=6) sc__law_no_net.nd rfl (by first|exact .inl rfl|exact .inr rfl) (Bn (BD (Ac (Ae (pv 2)) (Ac (K3 (Ak)) (Ac (B7) (Ac (B7) (Ac (Ii) (Ac (BX) (Ac (AY (Ac (Ak) (Af))) (Ac (Aw Qa (Ak) (Ak)) (Ac (Ak) (Ac (BD (Ac (Ak) (Af))) (Ac (LD) (Af))))))))))))) (AQ c__law_take hr A1 (Ac (Ae (pv 0)) (Ac (Ak) (Af)))) (fun _ _=>rfl))) (Av (AZ (i:=7) sc__law_no_net.nd rfl (by first|exact .inl rfl|exact .inr rfl) (Bn (Aw AH (Ae (pv 3)) (AY (Ac (AY (Ac (Ak) (Ac (Ak) (Ac (Ak) (Af))))) (Af)))) (Ae (pv 4)) (fun _ _=>rfl))) (Av (AZ (i:=8) sc__law_no_net.nd rfl (by first|exact .inl rfl|exact .inr rfl) (Aw AH (Aw AH (CS (Ae (pv 7)) (CP) (CQ (Ae (pv 5)))) (AY (Ac (Ae (pv 6)) (Af)))) (CS (Ae (pv 7)) (CQ (Aw AH (Ae (pv 5)) (Ak))) (CP)))) (Av (AZ (i:=9) sc__law_no_net.nd rfl (by first|exact .inl rfl|exact .inr rfl) (BD (Ac (Ae (pv 8)) (Ac (Ae (pv 8)) (Ac (Ae (pv 8)) (Ac (CS (Ae (pv 7)) (CP) (CQ (Ak))) (Ac (Aw AH (Ae (pv 7)) (AY (Ac (Ak) (Af)))) (Ac (Dr LC rfl B.n_list L4 (Ac (Ae (pv 7)) (Af))) (Ac (Ii) (Ac (AY (Ac (Bn (Ae (pv 7)) (Ak) (fun _ _=>rfl)) (Ac (Bn (Ae (pv 7)) (Ak) (fun _ _=>rfl)) (Ac (Bn (Ae (pv 7)) (Ak) (fun _ _=>rfl)) (Af))))) (Ac (AY (Ac (Bn (Ae (pv 7)) (Ak) (fun _ _=>rfl)) (Ac (Bn (Ae (pv 7)) (Ak) (fun _ _=>rfl)) (Ac (Ak) (Af))))) (Ac (AY (Af)) (Af))))))))))))) (Av (KZ (i:=9) (Nc:=["_law_other","_law_many","_law_ties","_law_at"]) (cs:=[none,some 2,some 3,some 4]) rfl sc__law_no_net.nd rfl (by first|exact .inl rfl|exact .inr rfl) (CSc.ok ⟨rfl,by decide +kernel,by kernel_rfl,by decide +kernel,rfl,by kernel_rfl⟩) (Df (Ae (pv 9))) (Ee rfl) (fun C D cells fp s₀ H₀ pins=>⟨AS (i:=0) (show (["_law_other","_law_many","_law_ties","_law_at"]:List Str).Nodup from by decide +kernel) rfl (by first|exact .inl rfl|exact .inr rfl) (by first|exact .inl rfl|exact .inr rfl),Cn,AY (Ac (Ae (pv 1)) (Ac (Aw AH (Aw AH (CS (Ae (pv 2)) (CP) (CQ (Ae (pv 3)))) (AY (Ac (Ae (pv 0)) (Af)))) (CS (Ae (pv 2)) (CQ (Aw AH (Ae (pv 3)) (Ak))) (CP))) (Af)))⟩)) (Av (AZ (i:=9) sc__law_no_net.nd rfl (by first|exact .inl rfl|exact .inr rfl) (Aw AH (Ae (pv 9)) (BD (Ac (AY (Ac (Ae (pv 2)) (Ac (Dr LC rfl B.n_list L4 (Ac (Ae (pv 3)) (Af))) (Af)))) (Ac (BD (Ac (Ae (pv 2)) (Ac (Ae (pv 3)) (Af)))) (Ac (AY (Ac (Ak) (Ac (Ae (pv 3)) (Af)))) (Ac (AY (Ac (Ak) (Ac (AY (Af)) (Af)))) (Ac (AY (Ac (B7) (Ac (AY (Af)) (Af)))) (Ac (AY (Ac (Ae (pv 2)) (Af))) (Ac (AY (Ac (Ae (pv 2)) (Ac (Ae (pv 3)) (Ac (AY (Af)) (Af))))) (Af))))))))))) (Av (AZ (i:=9) sc__law_no_net.nd rfl (by first|exact .inl rfl|exact .inr rfl) (Aw AH (Ae (pv 9)) (BD (Ac (Ii) (Ac (Ak) (Ac (LD) (Ac (Ae (pv 3)) (Ac (AY (Ac (Ae (pv 2)) (Ac (YH (Ae (pv 3))) (Af)))) (Ac (AY (Ac (Ae (pv 2)) (Ac (Aw AH (Aw AH (CS (Ae (pv 3)) (CP) (CQ (Ae (pv 4)))) (CS (Ae (pv 3)) (CP) (CQ (Ak)))) (CS (Ae (pv 3)) (CQ (Ae (pv 4))) (CP))) (Af)))) (Af)))))))))) (AC (A4 (Bn (Ae (pv 9)) (AQ c__law_take hr A1 (Ac (Ae (pv 0)) (Ac (AN Cm rfl B.n_len Co (Ac (Ae (pv 9)) (Af))) (Af)))) (fun _ _=>rfl))))))))))))
theorem Z3 {Cg:List D→HD→Out D} (c_is_between:CaE P w K mg base "is_between" 2 Cg) (f:Addr) (cdv:Value) (A:Around) (outer:List Env) (s:Shared) (H:Hp) (E:XK) (hr:Room 2 (A.deeper (envOfC "is_light" (defScope HA) s.heap.objs.size f cdv))):
 A8 (AW (AE P w K) P w K mg base ["thing"] "is_light" (defScope HA) f cdv A outer s H E) E (defBody HA) (OE Cg):=
 AC (A4 (AQ c_is_between hr A1 (Ac (Ae (pv 0)) (Ac (Ak) (Ac (Ak) (Af))))))
theorem Z4 {AB:List D→HD→Out D} {CG:List D→HD→Out D} (c__law_take:CaE P w K mg base "_law_take" 1 AB) (c__law_wide_box:CaE P w K mg base "_law_wide_box" 2 CG) (f:Addr) (cdv:Value) (A:Around) (outer:List Env) (s:Shared) (H:Hp) (E:XK) (hr:Room 2 (A.deeper (envOfC "_law_board" (defScope HB) s.heap.objs.size f cdv))):
 A8 (AW (AE P w K) P w K mg base ["_law_box_here","_law_high","_law_wide","_law_way","_law_digits","_law_dense","_law_rows","_law_number"] "_law_board" (defScope HB) f cdv A outer s H E) E (defBody HB) (OF AB CG):=
 Av (AZ (i:=3) sc__law_board.nd rfl (by first|exact .inl rfl|exact .inr rfl) (AQ c__law_take hr A1 (Ac (Ae (pv 0)) (Ac (Ak) (Af))))) (Av (AZ (i:=4) sc__law_board.nd rfl (by first|exact .inl rfl|exact .inr rfl) (AQ c__law_wide_box hr A1 (Ac (Ae (pv 0)) (Af)))) (Av (AZ (i:=5) sc__law_board.nd rfl (by first|exact .inl rfl|exact .inr rfl) (Bn (BD (Ac (Ak) (Ac (Ak) (Ac (Ak) (Ac (Ak) (Ac (Ak) (Af))))))) (Ae (pv 3)) (fun _ _=>rfl))) (Av (AZ (i:=6) sc__law_board.nd rfl (by first|exact .inl rfl|exact .inr rfl) (BD (Af))) (Av (DO DT rfl (EF rfl B.n_range (Ac (Ae (pv 1)) (Af))) (Ed (AS (i:=7) (sc__law_board.nd) rfl (by first|exact .inl rfl|exact .inr rfl) (by first|exact .inl rfl|exact .inr rfl))) (AC (Jw (Nk (Ae (pv 6)) (Dr Im rfl B.n_tuple ES (Ac (EG (Nc:=["_law_place","_law_digits","_law_dense"]) (cs:=[none,some 4,some 5]) rfl (CSc.ok ⟨rfl,by decide +kernel,by kernel_rfl,by decide +kernel,rfl,by kernel_rfl⟩) (EF rfl B.n_range (Ac (Ae (pv 2)) (Af))) (Ee rfl) (fun C D cells fp s₀ H₀ pins=>⟨AS (i:=0) (show (["_law_place","_law_digits","_law_dense"]:List Str).Nodup from by decide +kernel) rfl (by first|exact .inl rfl|exact .inr rfl) (by first|exact .inl rfl|exact .inr rfl),Cn,Dr KU rfl B.n_int JU (Ac (Jm Jp (AQ c__law_take hr Ha (Ac (Ae (pv 1)) (Ac (Ak) (Af)))) (Ae (pv 2)) (Cd _)) (Af))⟩)) (Af))))))) (Av (BY (CK (Lu hr.units) (Ae (pv 3)) (Ak) (Cd _)) (AC (AZ (i:=6) sc__law_board.nd rfl (by first|exact .inl rfl|exact .inr rfl) (Aw EK (BD (Ac (Bn (Ae (pv 6)) (Ak) (fun _ _=>rfl)) (Af))) (Ae (pv 1))))) (B1)) (AC (A4 (Dr Im rfl B.n_tuple ES (Ac (Ae (pv 6)) (Af))))))))))
theorem Z5 {AB:List D→HD→Out D} {CG:List D→HD→Out D} (c__law_take:CaE P w K mg base "_law_take" 1 AB) (c__law_wide_box:CaE P w K mg base "_law_wide_box" 2 CG) (f:Addr) (cdv:Value) (A:Around) (outer:List Env) (s:Shared) (H:Hp) (E:XK) (hr:Room 2 (A.deeper (envOfC "_law_net" (defScope HC) s.heap.objs.size f cdv))):
 A8 (AW (AE P w K) P w K mg base ["_law_box_here","_law_many","_law_way","_law_digits","_law_some","_law_ties","_law_a","_law_b","_law_light"] "_law_net" (defScope HC) f cdv A outer s H E) E (defBody HC) (OG AB CG):=
 Av (Nb (i:=1) (j:=2) rfl sc__law_net.nd rfl rfl (by decide) rfl rfl (Ac (Aw AH (Ak) (AQ c__law_take hr A1 (Ac (Ae (pv 0)) (Ac (Ak) (Af))))) (Ac (AQ c__law_take hr A1 (Ac (Ae (pv 0)) (Ac (Ak) (Af)))) (Af))) (by first |rfl |with_unfolding_all rfl)) (Av (AZ (i:=3) sc__law_net.nd rfl (by first|exact .inl rfl|exact .inr rfl) (AQ c__law_wide_box hr A1 (Ac (Ae (pv 0)) (Af)))) (Av (KZ (i:=4) (Nc:=["_law_place","_law_digits"]) (cs:=[none,some 3]) rfl sc__law_net.nd rfl (by first|exact .inl rfl|exact .inr rfl) (CSc.ok ⟨rfl,by decide +kernel,by kernel_rfl,by decide +kernel,rfl,by kernel_rfl⟩) (EF rfl B.n_range (Ac (Ae (pv 1)) (Af))) (Ee rfl) (fun C D cells fp s₀ H₀ pins=>⟨AS (i:=0) (show (["_law_place","_law_digits"]:List Str).Nodup from by decide +kernel) rfl (by first|exact .inl rfl|exact .inr rfl) (by first|exact .inl rfl|exact .inr rfl),Cn,AQ c__law_take hr Ha (Ac (Ae (pv 1)) (Ac (Ak) (Af)))⟩)) (Av (AZ (i:=5) sc__law_net.nd rfl (by first|exact .inl rfl|exact .inr rfl) (BD (Af))) (Av (DO DT rfl (EF rfl B.n_range (Ac (Ae (pv 1)) (Af))) (Ed (AS (i:=6) (sc__law_net.nd) rfl (by first|exact .inl rfl|exact .inr rfl) (by first|exact .inl rfl|exact .inr rfl))) (AC (DO DT rfl (Wq rfl B.n_range (Ac (Aw AH (Ae (pv 6)) (Ak)) (Ac (Ae (pv 1)) (Af)))) (Ed (AS (i:=7) (sc__law_net.nd) rfl (by first|exact .inl rfl|exact .inr rfl) (by first|exact .inl rfl|exact .inr rfl))) (Av (AZ (i:=8) sc__law_net.nd rfl (by first|exact .inl rfl|exact .inr rfl) (AQ c__law_take hr A1 (Ac (Ae (pv 3)) (Ac (Ak) (Af))))) (Av (BY (CK (Lu hr.units) (Ae (pv 2)) (Ak) (Cd _)) (AC (AZ (i:=8) sc__law_net.nd rfl (by first|exact .inl rfl|exact .inr rfl) (Aw GY (Aw AH (Bn (Ae (pv 4)) (Ae (pv 6)) (fun _ _=>rfl)) (Bn (Ae (pv 4)) (Ae (pv 7)) (fun _ _=>rfl))) (Ak)))) (B1)) (AC (BY (Gd (V8 (CK KP (AQ c__law_take hr A1 (Ac (Ae (pv 3)) (Ac (Ak) (Af)))) (Ak) (Cd _)) (V7 (Gd (GT (CK (FR hr.units) (Ae (pv 2)) (Ak) (Cd _)) (GS (P8 Jp Jq (Ae (pv 6)) (Ak) (Ae (pv 7))))))))) (AC (Jw (Nk (Ae (pv 5)) (AY (Ac (Ae (pv 6)) (Ac (Ae (pv 7)) (Ac (Ae (pv 8)) (Af)))))))) (B1)))))))) (AC (A4 (AY (Ac (Ae (pv 1)) (Ac (Dr Im rfl B.n_tuple ES (Ac (Ae (pv 5)) (Af))) (Af))))))))))
theorem Z6 {CF:List D→HD→Out D} {CH:List D→HD→Out D} (c_is_line_tuple:CaE P w K mg base "is_line_tuple" 1 CF) (c_is_light:CaE P w K mg base "is_light" 3 CH) (f:Addr) (cdv:Value) (A:Around) (outer:List Env) (s:Shared) (H:Hp) (E:XK) (hr:Room 3 (A.deeper (envOfC "is_row" (defScope HE) s.heap.objs.size f cdv))):
 A8 (AW (AE P w K) P w K mg base ["thing"] "is_row" (defScope HE) f cdv A outer s H E) E (defBody HE) (OH CF CH):=
 AC (A4 (Jo (AQ c_is_line_tuple hr A1 (Ac (Ae (pv 0)) (Af))) (Jn (AN (JA rfl) rfl B.n_all JT (Ac (EG (Nc:=["light"]) (cs:=[none]) rfl (CSc.ok ⟨rfl,by decide +kernel,by kernel_rfl,by decide +kernel,rfl,by kernel_rfl⟩) (Df (Ae (pv 0))) (Ee rfl) (fun C D cells fp s₀ H₀ pins=>⟨AS (i:=0) (show (["light"]:List Str).Nodup from by decide +kernel) rfl (by first|exact .inl rfl|exact .inr rfl) (by first|exact .inl rfl|exact .inr rfl),Cn,AQ c_is_light hr Ha (Ac (Ae (pv 0)) (Af))⟩)) (Af))))))
theorem Z7 {FA:List D→HD→Out D} {CH:List D→HD→Out D} (c_is_lot:CaE P w K mg base "is_lot" 2 FA) (c_is_light:CaE P w K mg base "is_light" 3 CH) (f:Addr) (cdv:Value) (A:Around) (outer:List Env) (s:Shared) (H:Hp) (E:XK) (hr:Room 3 (A.deeper (envOfC "is_tie" (defScope HF) s.heap.objs.size f cdv))):
 A8 (AW (AE P w K) P w K mg base ["thing","many"] "is_tie" (defScope HF) f cdv A outer s H E) E (defBody HF) (OI FA CH):=
 Av (BY (Gd (GT (DN (DL (AN (CB et) rfl B.n_isinstance CD (Ac (Ae (pv 0)) (Ac (Gn rfl B.n_tuple ES) (Af)))))) (GS (CK (FR hr.units) (AN Cm rfl B.n_len Co (Ac (Ae (pv 0)) (Af))) (Ak) (Cd _))))) (AC (A4 (B7))) (B1)) (AC (A4 (Jo (AQ c_is_lot hr A1 (Ac (CS (Ae (pv 0)) (CP) (CQ (Ak))) (Ac (Ae (pv 1)) (Af)))) (Jn (AQ c_is_light hr A1 (Ac (Bn (Ae (pv 0)) (Ak) (fun _ _=>rfl)) (Af)))))))
theorem Z8 {CF:List D→HD→Out D} {FC:List D→HD→Out D} (c_is_line_tuple:CaE P w K mg base "is_line_tuple" 1 CF) (c_is_row:CaE P w K mg base "is_row" 4 FC) (f:Addr) (cdv:Value) (A:Around) (outer:List Env) (s:Shared) (H:Hp) (E:XK) (hr:Room 4 (A.deeper (envOfC "is_board" (defScope HG) s.heap.objs.size f cdv))):
 A8 (AW (AE P w K) P w K mg base ["thing"] "is_board" (defScope HG) f cdv A outer s H E) E (defBody HG) (OJ CF FC):=
 Av (BY (Gd (GT (DN (DL (AQ c_is_line_tuple hr A1 (Ac (Ae (pv 0)) (Af))))) (GS (DN (DL (AN (JA rfl) rfl B.n_all JT (Ac (EG (Nc:=["row"]) (cs:=[none]) rfl (CSc.ok ⟨rfl,by decide +kernel,by kernel_rfl,by decide +kernel,rfl,by kernel_rfl⟩) (Df (Ae (pv 0))) (Ee rfl) (fun C D cells fp s₀ H₀ pins=>⟨AS (i:=0) (show (["row"]:List Str).Nodup from by decide +kernel) rfl (by first|exact .inl rfl|exact .inr rfl) (by first|exact .inl rfl|exact .inr rfl),Cn,AQ c_is_row hr Ha (Ac (Ae (pv 0)) (Af))⟩)) (Af)))))))) (AC (A4 (B7))) (B1)) (AC (A4 (AN (JA rfl) rfl B.n_all JT (Ac (EG (Nc:=["row","thing"]) (cs:=[none,some 0]) rfl (CSc.ok ⟨rfl,by decide +kernel,by kernel_rfl,by decide +kernel,rfl,by kernel_rfl⟩) (Df (Ae (pv 0))) (Ee rfl) (fun C D cells fp s₀ H₀ pins=>⟨AS (i:=0) (show (["row","thing"]:List Str).Nodup from by decide +kernel) rfl (by first|exact .inl rfl|exact .inr rfl) (by first|exact .inl rfl|exact .inr rfl),Cn,Jm (Lu hr.units) (AN Cm rfl B.n_len Co (Ac (Ae (pv 0)) (Af))) (AN Cm rfl B.n_len Co (Ac (Bn (Ae (pv 1)) (Ak) (fun _ _=>rfl)) (Af))) (Cd _)⟩)) (Af)))))
theorem Z9 {Cg:List D→HD→Out D} {FD:List D→HD→Out D} (c_is_between:CaE P w K mg base "is_between" 2 Cg) (c_is_tie:CaE P w K mg base "is_tie" 4 FD) {t_MOST_PLACES:Tok} (m_MOST_PLACES:mg "MOST_PLACES"=some (.int 8 t_MOST_PLACES)) (f:Addr) (cdv:Value) (A:Around) (outer:List Env) (s:Shared) (H:Hp) (E:XK) (hr:Room 4 (A.deeper (envOfC "is_net" (defScope HH) s.heap.objs.size f cdv))):
 A8 (AW (AE P w K) P w K mg base ["thing","many","ties"] "is_net" (defScope HH) f cdv A outer s H E) E (defBody HH) (OK Cg FD):=
 Av (BY (Gd (GT (DN (DL (AN (CB et) rfl B.n_isinstance CD (Ac (Ae (pv 0)) (Ac (Gn rfl B.n_tuple ES) (Af)))))) (GS (CK (FR hr.units) (AN Cm rfl B.n_len Co (Ac (Ae (pv 0)) (Af))) (Ak) (Cd _))))) (AC (A4 (B7))) (B1)) (Av (G0 (Ae (pv 0)) (KV (Gs rfl (AS (i:=1) (sc_is_net.nd) rfl (by first|exact .inl rfl|exact .inr rfl) (by first|exact .inl rfl|exact .inr rfl)) (AS (i:=2) (sc_is_net.nd) rfl (by first|exact .inl rfl|exact .inr rfl) (by first|exact .inl rfl|exact .inr rfl))))) (Av (BY (Gd (GT (DN (DL (AQ c_is_between hr A1 (Ac (Ae (pv 1)) (Ac (Ak) (Ac (KI rfl m_MOST_PLACES) (Af))))))) (GS (DN (DL (AN (CB et) rfl B.n_isinstance CD (Ac (Ae (pv 2)) (Ac (Gn rfl B.n_tuple ES) (Af))))))))) (AC (A4 (B7))) (B1)) (Av (BY (DN (DL (AN (JA rfl) rfl B.n_all JT (Ac (EG (Nc:=["tie","many"]) (cs:=[none,some 1]) rfl (CSc.ok ⟨rfl,by decide +kernel,by kernel_rfl,by decide +kernel,rfl,by kernel_rfl⟩) (Df (Ae (pv 2))) (Ee rfl) (fun C D cells fp s₀ H₀ pins=>⟨AS (i:=0) (show (["tie","many"]:List Str).Nodup from by decide +kernel) rfl (by first|exact .inl rfl|exact .inr rfl) (by first|exact .inl rfl|exact .inr rfl),Cn,AQ c_is_tie hr Ha (Ac (Ae (pv 0)) (Ac (Ae (pv 1)) (Af)))⟩)) (Af))))) (AC (A4 (B7))) (B1)) (AC (A4 (AN (JA rfl) rfl B.n_all JT (Ac (EG (Nc:=["ahead","tie"]) (cs:=[none,none]) rfl (CSc.ok ⟨rfl,by decide +kernel,by kernel_rfl,by decide +kernel,rfl,by kernel_rfl⟩) (Xm rfl B.n_zip (Ac (Ae (pv 2)) (Ac (CS (Ae (pv 2)) (CQ (Ak)) (CP)) (Af)))) (Qs rfl rfl) (fun C D cells fp s₀ H₀ pins=>⟨Gs rfl (AS (i:=0) (show (["ahead","tie"]:List Str).Nodup from by decide +kernel) rfl (by first|exact .inl rfl|exact .inr rfl) (by first|exact .inl rfl|exact .inr rfl)) (AS (i:=1) (show (["ahead","tie"]:List Str).Nodup from by decide +kernel) rfl (by first|exact .inl rfl|exact .inr rfl) (by first|exact .inl rfl|exact .inr rfl)),Cn,Jm (YD hr.units) (CS (Ae (pv 0)) (CP) (CQ (Ak))) (CS (Ae (pv 1)) (CP) (CQ (Ak))) (Cd _)⟩)) (Af))))))))
theorem Zaa {E3:List D→HD→Out D} (c_is_board:CaE P w K mg base "is_board" 5 E3) (f:Addr) (cdv:Value) (A:Around) (outer:List Env) (s:Shared) (H:Hp) (E:XK) (hr:Room 5 (A.deeper (envOfC "need_board" (defScope HI) s.heap.objs.size f cdv))):
 A8 (AW (AE P w K) P w K mg base ["thing"] "need_board" (defScope HI) f cdv A outer s H E) E (defBody HI) (Mb E3):=
 AC (BY (DN (DL (AQ c_is_board hr A1 (Ac (Ae (pv 0)) (Af))))) (AC (RG et (by decide +kernel) (by decide +kernel) rfl rfl Q2 (Ac (BX) (Af)))) (B1))
theorem Zab {B2:List D→HD→Out D} (c_is_net:CaE P w K mg base "is_net" 5 B2) (f:Addr) (cdv:Value) (A:Around) (outer:List Env) (s:Shared) (H:Hp) (E:XK) (hr:Room 5 (A.deeper (envOfC "need_net" (defScope HJ) s.heap.objs.size f cdv))):
 A8 (AW (AE P w K) P w K mg base ["thing"] "need_net" (defScope HJ) f cdv A outer s H E) E (defBody HJ) (JW B2):=
 AC (BY (DN (DL (AQ c_is_net hr A1 (Ac (Ae (pv 0)) (Af))))) (AC (RG et (by decide +kernel) (by decide +kernel) rfl rfl Q2 (Ac (BX) (Af)))) (B1))
theorem Zac {DI:List D→HD→Out D} {EU:List D→HD→Out D} {EV:List D→HD→Out D} (c_need_net:CaE P w K mg base "need_net" 6 DI) (c_rising_rows:CaE P w K mg base "rising_rows" 1 EU) (c_lit_by_sides:CaE P w K mg base "lit_by_sides" 1 EV) (f:Addr) (cdv:Value) (A:Around) (outer:List Env) (s:Shared) (H:Hp) (E:XK) (hr:Room 6 (A.deeper (envOfC "net_left" (defScope HK) s.heap.objs.size f cdv))):
 A8 (AW (AE P w K) P w K mg base ["net","many","ties"] "net_left" (defScope HK) f cdv A outer s H E) E (defBody HK) (Mc DI EU EV):=
 Av (Jw (AQ c_need_net hr A1 (Ac (Ae (pv 0)) (Af)))) (Av (G0 (Ae (pv 0)) (KV (Gs rfl (AS (i:=1) (sc_net_left.nd) rfl (by first|exact .inl rfl|exact .inr rfl) (by first|exact .inl rfl|exact .inr rfl)) (AS (i:=2) (sc_net_left.nd) rfl (by first|exact .inl rfl|exact .inr rfl) (by first|exact .inl rfl|exact .inr rfl))))) (AC (A4 (AN (Q9 rfl) rfl B.n_min L5 (Ac (EG (Nc:=["sides","ties"]) (cs:=[none,some 2]) rfl (CSc.ok ⟨rfl,by decide +kernel,by kernel_rfl,by decide +kernel,rfl,by kernel_rfl⟩) (Df (AQ c_rising_rows hr A1 (Ac (AY (Ac (Ak) (Af))) (Ac (Aw P9 (Ae (pv 1)) (Ak)) (Af))))) (Ee rfl) (fun C D cells fp s₀ H₀ pins=>⟨AS (i:=0) (show (["sides","ties"]:List Str).Nodup from by decide +kernel) rfl (by first|exact .inl rfl|exact .inr rfl) (by first|exact .inl rfl|exact .inr rfl),Cn,AQ c_lit_by_sides hr Ha (Ac (Ae (pv 1)) (Ac (Ae (pv 0)) (Af)))⟩)) (Af))))))
theorem Zad {DH:List D→HD→Out D} (c_need_board:CaE P w K mg base "need_board" 6 DH) {t_MOST_PLACES:Tok} (m_MOST_PLACES:mg "MOST_PLACES"=some (.int 8 t_MOST_PLACES)) (f:Addr) (cdv:Value) (A:Around) (outer:List Env) (s:Shared) (H:Hp) (E:XK) (hr:Room 6 (A.deeper (envOfC "net_of" (defScope HL) s.heap.objs.size f cdv))):
 A8 (AW (AE P w K) P w K mg base ["board","high","lines"] "net_of" (defScope HL) f cdv A outer s H E) E (defBody HL) (JX DH):=
 Av (Jw (AQ c_need_board hr A1 (Ac (Ae (pv 0)) (Af)))) (Av (AZ (i:=1) sc_net_of.nd rfl (by first|exact .inl rfl|exact .inr rfl) (AN Cm rfl B.n_len Co (Ac (Ae (pv 0)) (Af)))) (Av (AZ (i:=2) sc_net_of.nd rfl (by first|exact .inl rfl|exact .inr rfl) (Aw AH (Ae (pv 1)) (AN Cm rfl B.n_len Co (Ac (Bn (Ae (pv 0)) (Ak) (fun _ _=>rfl)) (Af))))) (Av (BY (CK KP (Ae (pv 2)) (KI rfl m_MOST_PLACES) (Cd _)) (AC (Zh G9 TM.tm TM.F TM.hb (hr.mono (by decide)) TM.lI TM.cI TM.kp TM.nC rfl rfl (Ac (Ae (pv 2)) (Ac (KI rfl m_MOST_PLACES) (Af))))) (B1)) (AC (A4 (AY (Ac (Ae (pv 2)) (Ac (Dr Im rfl B.n_tuple ES (Ac (YU (Nc:=["number","row","column","light","high"]) (cs:=[none,none,none,none,some 1]) (is:=[0,1]) (js:=[2,3]) rfl (CSc.ok ⟨rfl,by decide +kernel,by kernel_rfl,by decide +kernel,rfl,by kernel_rfl⟩) (NI rfl B.n_enumerate (Ac (Ae (pv 0)) (Af))) (fun g e=>by cases e<;>rfl) (by decide) (R5 (i:=0) (j:=1) (js:=[2,3]) (by decide) (by decide)) (fun C D cells fp s₀ H₀ pins ao=>⟨Gs rfl (AS (i:=0) (show (["number","row","column","light","high"]:List Str).Nodup from by decide +kernel) rfl (by first|exact .inl rfl|exact .inr rfl) (by first|exact .inl rfl|exact .inr rfl)) (AS (i:=1) (show (["number","row","column","light","high"]:List Str).Nodup from by decide +kernel) rfl (by first|exact .inl rfl|exact .inr rfl) (by first|exact .inl rfl|exact .inr rfl)),Cn,R9 (is:=[2,3]) (js:=[]) rfl rfl rfl (fun g e=>by cases e<;>rfl) (NI rfl B.n_enumerate (Ac (Ae (pv 1)) (Af))) (Gs rfl (AS (i:=2) (show (["number","row","column","light","high"]:List Str).Nodup from by decide +kernel) rfl (by first|exact .inl rfl|exact .inr rfl) (by first|exact .inl rfl|exact .inr rfl)) (AS (i:=3) (show (["number","row","column","light","high"]:List Str).Nodup from by decide +kernel) rfl (by first|exact .inl rfl|exact .inr rfl) (by first|exact .inl rfl|exact .inr rfl))) (R5 (i:=2) (j:=3) (js:=[]) (by decide) (by decide)) (Cn) (R8 ao rfl rfl (AY (Ac (Ae (pv 0)) (Ac (Aw AH (Ae (pv 4)) (Ae (pv 2))) (Ac (Ae (pv 3)) (Af))))))⟩)) (Af))) (Af)))))))))
theorem Zae {EY:List D→HD→Out D} {E2:List D→HD→Out D} {EW:List D→HD→Out D} {EX:List D→HD→Out D} {DJ:List D→HD→Out D} {AB:List D→HD→Out D} {DX:List D→HD→Out D} {CV:List D→HD→Out D} {EZ:List D→HD→Out D} {E1:List D→HD→Out D} {B2:List D→HD→Out D} {Cf:List D→HD→Out D} (c__law_box:CaE P w K mg base "_law_box" 2 EY) (c__law_net:CaE P w K mg base "_law_net" 3 E2) (c__law_lots:CaE P w K mg base "_law_lots" 1 EW) (c__law_net_switched:CaE P w K mg base "_law_net_switched" 1 EX) (c_net_left:CaE P w K mg base "net_left" 7 DJ) (c__law_take:CaE P w K mg base "_law_take" 1 AB) (c__law_board:CaE P w K mg base "_law_board" 3 DX) (c_net_of:CaE P w K mg base "net_of" 7 CV) (c__law_no_board:CaE P w K mg base "_law_no_board" 2 EZ) (c__law_no_net:CaE P w K mg base "_law_no_net" 2 E1) (c_is_net:CaE P w K mg base "is_net" 5 B2) (c__law_kind:CaM P w K mg base "_law_kind" 1 Cf) {cT T fsd:Addr} {fdd:FuncData} (htp:tabP K=some (cT,T)) (hcd:PySem.W.codeHdIn K cT T=true) (hbm:IJ mg base) (Sd:SaidD K mg JV fsd fdd) (f:Addr) (A:Around) (outer:List Env) (s:Shared) (H:Hp) (E:XK) (hr:Room 9 (A.deeper (envOfC "law" (defScope s_law) s.heap.objs.size f (.ref cT)))):
 A8 (AW (AE P w K) P w K mg base ["_law_script","_law_k","_law_box_here","_law_net_here","_law_lits","_law_high","_law_wide","_law_less","_law_board_here","_law_lines","_law_ties","_law_row","_law_turn","_law_none","_law_bad"] "law" (defScope s_law) f (.ref cT) A outer s H E) E (defBody s_law) (Md EY E2 EW EX DJ AB DX CV EZ E1 B2 Cf):=
 have LX:LamX (AW (AE P w K) P w K mg base ["_law_script","_law_k","_law_box_here","_law_net_here","_law_lits","_law_high","_law_wide","_law_less","_law_board_here","_law_lines","_law_ties","_law_row","_law_turn","_law_none","_law_bad"] "law" (defScope s_law) f (.ref cT) A outer s H E) cT T:=⟨rfl,htp,hcd,(show ("law":Str)++".<locals>."=("law.<locals>.":Str) by decide +kernel),hbm⟩
 Av (DO DT rfl (EF rfl B.n_range (Ac (AN (Wm rfl) rfl B.n_max Zx (Ac (Ak) (Ac (AN (Qf rfl) rfl B.n_min L5 (Ac (AN Cm rfl B.n_len Co (Ac (Ae (pv 0)) (Af))) (Ac (Ak) (Af)))) (Af)))) (Af))) (Ed (AS (i:=1) (sc_law.nd) rfl (by first|exact .inl rfl|exact .inr rfl) (by first|exact .inl rfl|exact .inr rfl))) (Av (AZ (i:=2) sc_law.nd rfl (by first|exact .inl rfl|exact .inr rfl) (AQ c__law_box hr A1 (Ac (Ae (pv 0)) (Ac (Ae (pv 1)) (Af))))) (Av (AZ (i:=3) sc_law.nd rfl (by first|exact .inl rfl|exact .inr rfl) (AQ c__law_net hr A1 (Ac (Ae (pv 2)) (Af)))) (Av (KZ (i:=4) (Nc:=["_law_lot","_law_net_here"]) (cs:=[none,some 3]) rfl sc_law.nd rfl (by first|exact .inl rfl|exact .inr rfl) (CSc.ok ⟨rfl,by decide +kernel,by kernel_rfl,by decide +kernel,rfl,by kernel_rfl⟩) (Df (AQ c__law_lots hr A1 (Ac (Bn (Ae (pv 3)) (Ak) (fun _ _=>rfl)) (Af)))) (Ee rfl) (fun C D cells fp s₀ H₀ pins=>⟨AS (i:=0) (show (["_law_lot","_law_net_here"]:List Str).Nodup from by decide +kernel) rfl (by first|exact .inl rfl|exact .inr rfl) (by first|exact .inl rfl|exact .inr rfl),Cn,AN (Qx rfl) rfl B.n_sum SE (Ac (EG (Nc:=["_law_tie"]) (cs:=[none]) rfl (CSc.ok ⟨rfl,by decide +kernel,by kernel_rfl,by decide +kernel,rfl,by kernel_rfl⟩) (Df (Bn (AQ c__law_net_switched hr Ha (Ac (Ae (pv 1)) (Ac (Ae (pv 0)) (Af)))) (Ak) (fun _ _=>rfl))) (Ee rfl) (fun C D cells fp s₀ H₀ pins=>⟨AS (i:=0) (show (["_law_tie"]:List Str).Nodup from by decide +kernel) rfl (by first|exact .inl rfl|exact .inr rfl) (by first|exact .inl rfl|exact .inr rfl),Cn,Bn (Ae (pv 0)) (Ak) (fun _ _=>rfl)⟩)) (Af))⟩)) (Av (BY (CK (FR hr.units) (AN (IP hr.units hr.gd) rfl B.n_repr IS (Ac (AQ c_net_left hr A1 (Ac (Ae (pv 3)) (Af))) (Af))) (AN (IP hr.units hr.gd) rfl B.n_repr IS (Ac (AN (Q9 rfl) rfl B.n_min L5 (Ac (Ae (pv 4)) (Af))) (Af))) (Cd _)) (AC (A4 (B7))) (B1)) (Av (Nb (i:=5) (j:=6) rfl sc_law.nd rfl rfl (by decide) rfl rfl (Ac (Aw AH (Ak) (AQ c__law_take hr A1 (Ac (Ae (pv 2)) (Ac (Ak) (Af))))) (Ac (Aw AH (Ak) (AQ c__law_take hr A1 (Ac (Ae (pv 2)) (Ac (Ak) (Af))))) (Af))) (by first |rfl |with_unfolding_all rfl)) (Av (AZ (i:=7) sc_law.nd rfl (by first|exact .inl rfl|exact .inr rfl) (Aw AH (Ak) (AQ c__law_take hr A1 (Ac (Ae (pv 2)) (Ac (AN (Qf rfl) rfl B.n_min L5 (Ac (Ae (pv 5)) (Ac (Ak) (Af)))) (Af)))))) (Av (DO DT rfl (Df (BD (Ac (AQ c__law_board hr A1 (Ac (Ae (pv 2)) (Ac (Ae (pv 5)) (Ac (Ae (pv 6)) (Af))))) (Ac (AQ c__law_board hr A1 (Ac (Ae (pv 2)) (Ac (Ae (pv 7)) (Ac (Aw AH (Ak) (AQ c__law_take hr A1 (Ac (Ae (pv 2)) (Ac (Aw P9 (Ak) (Ae (pv 7))) (Af))))) (Af))))) (Af))))) (Ed (AS (i:=8) (sc_law.nd) rfl (by first|exact .inl rfl|exact .inr rfl) (by first|exact .inl rfl|exact .inr rfl))) (Av (AZ (i:=9) sc_law.nd rfl (by first|exact .inl rfl|exact .inr rfl) (Aw AH (AN Cm rfl B.n_len Co (Ac (Ae (pv 8)) (Af))) (AN Cm rfl B.n_len Co (Ac (Bn (Ae (pv 8)) (Ak) (fun _ _=>rfl)) (Af))))) (AC (BY (CK KP (Ae (pv 9)) (Ak) (Cd _)) (AC (BY (CK (FR hr.units) (NV (Nc:=["_law_board_here"]) (cs:=[8]) LX (fun _=>rfl) hr G9 et Sd On (CaM.mono (k:=7) c__law_kind (by decide)) ⟨⟨rfl,rfl,rfl,by kernel_rfl⟩,by decide +kernel,by kernel_rfl,rfl,by kernel_rfl⟩ (fun a cd cl A outer s H E' hr=>AQ c_net_of hr NS (Ac (Ae (pv 0)) (Af))) rfl) (Aw AH (Aw AH (BX) (Dr Zr rfl B.n_str Zy (Ac (Ae (pv 9)) (Af)))) (BX)) (Cd _)) (AC (A4 (B7))) (B1))) (Av (AZ (i:=10) sc_law.nd rfl (by first|exact .inl rfl|exact .inr rfl) (BD (Af))) (Av (DO DT rfl (EF rfl B.n_range (Ac (AN Cm rfl B.n_len Co (Ac (Ae (pv 8)) (Af))) (Af))) (Ed (AS (i:=11) (sc_law.nd) rfl (by first|exact .inl rfl|exact .inr rfl) (by first|exact .inl rfl|exact .inr rfl))) (AC (AZ (i:=10) sc_law.nd rfl (by first|exact .inl rfl|exact .inr rfl) (Aw AH (Ae (pv 10)) (EG (Nc:=["_law_place","_law_light","_law_row","_law_board_here"]) (cs:=[none,none,some 11,some 8]) rfl (CSc.ok ⟨rfl,by decide +kernel,by kernel_rfl,by decide +kernel,rfl,by kernel_rfl⟩) (NI rfl B.n_enumerate (Ac (Bn (Ae (pv 8)) (Ae (pv 11)) (fun _ _=>rfl)) (Af))) (Qs rfl rfl) (fun C D cells fp s₀ H₀ pins=>⟨Gs rfl (AS (i:=0) (show (["_law_place","_law_light","_law_row","_law_board_here"]:List Str).Nodup from by decide +kernel) rfl (by first|exact .inl rfl|exact .inr rfl) (by first|exact .inl rfl|exact .inr rfl)) (AS (i:=1) (show (["_law_place","_law_light","_law_row","_law_board_here"]:List Str).Nodup from by decide +kernel) rfl (by first|exact .inl rfl|exact .inr rfl) (by first|exact .inl rfl|exact .inr rfl)),Cn,AY (Ac (Ae (pv 2)) (Ac (Aw AH (AN Cm rfl B.n_len Co (Ac (Ae (pv 3)) (Af))) (Ae (pv 0))) (Ac (Ae (pv 1)) (Af))))⟩)))))) (AC (BY (CK (FR hr.units) (AN (IP hr.units hr.gd) rfl B.n_repr IS (Ac (AQ c_net_of hr A1 (Ac (Ae (pv 8)) (Af))) (Af))) (AN (IP hr.units hr.gd) rfl B.n_repr IS (Ac (AY (Ac (Ae (pv 9)) (Ac (Dr Im rfl B.n_tuple ES (Ac (Ae (pv 10)) (Af))) (Af)))) (Af))) (Cd _)) (AC (A4 (B7))) (B1))))))))) (AC (DO DT rfl (EF rfl B.n_range (Ac (Ak) (Af))) (Ed (AS (i:=12) (sc_law.nd) rfl (by first|exact .inl rfl|exact .inr rfl) (by first|exact .inl rfl|exact .inr rfl))) (Av (G0 (AY (Ac (AQ c__law_no_net hr A1 (Ac (Ae (pv 2)) (Ac (Ae (pv 3)) (Af)))) (Ac (AQ c__law_no_board hr A1 (Ac (Ae (pv 2)) (Ac (Ae (pv 8)) (Af)))) (Af)))) (Ly (is:=[13,14]) (HZ rfl (Dz (AS (i:=13) (sc_law.nd) rfl (by first|exact .inl rfl|exact .inr rfl) (by first|exact .inl rfl|exact .inr rfl)) (Dz (AS (i:=14) (sc_law.nd) rfl (by first|exact .inl rfl|exact .inr rfl) (by first|exact .inl rfl|exact .inr rfl)) (HY)))))) (Av (BY (CK (FR hr.units) (NV (Nc:=["_law_none"]) (cs:=[13]) LX (fun _=>rfl) hr G9 et Sd On (CaM.mono (k:=7) c__law_kind (by decide)) ⟨⟨rfl,rfl,rfl,by kernel_rfl⟩,by decide +kernel,by kernel_rfl,rfl,by kernel_rfl⟩ (fun a cd cl A outer s H E' hr=>AQ c_net_left hr NS (Ac (Ae (pv 0)) (Af))) rfl) (Bn (BD (Ac (BX) (Ac (BX) (Af)))) (Dr KU rfl B.n_int JU (Ac (AQ c_is_net hr A1 (Ac (Ae (pv 13)) (Af))) (Af))) (fun _ _=>rfl)) (Cd _)) (AC (A4 (B7))) (B1)) (AC (BY (CK (FR hr.units) (NV (Nc:=["_law_bad"]) (cs:=[14]) LX (fun _=>rfl) hr G9 et Sd On (CaM.mono (k:=7) c__law_kind (by decide)) ⟨⟨rfl,rfl,rfl,by kernel_rfl⟩,by decide +kernel,by kernel_rfl,rfl,by kernel_rfl⟩ (fun a cd cl A outer s H E' hr=>AQ c_net_of hr NS (Ac (Ae (pv 0)) (Af))) rfl) (BX) (Cd _)) (AC (A4 (B7))) (B1))))))))))))))) (AC (A4 (B7)))
noncomputable def B6:List D→HD→Out D:=fun ds h=>if ds.length=1 then AA 1 (Oo) ds h else .stuck
theorem Zaf {f:Addr} {fd:FuncData} (D:Dn K mg "is_whole" ["thing"] Hi f fd):CaE P w K mg base "is_whole" 1 B6:=
 ⟨f,fd,_,BP D.fn ZC (fun ds h e=>if_neg e) (fun ds h e=>if_pos e) (fun cdv A outer s H E hr=>ZN B et TM f cdv A outer s H E hr),D.bd,D.mg,D.fn.kp⟩
noncomputable def CF:List D→HD→Out D:=fun ds h=>if ds.length=1 then AA 1 (Oq) ds h else .stuck
theorem Zag {t_MOST_LINES:Tok} (m_MOST_LINES:mg "MOST_LINES"=some (.int 8 t_MOST_LINES)) {f:Addr} {fd:FuncData} (D:Dn K mg "is_line_tuple" ["thing"] Hj f fd):CaE P w K mg base "is_line_tuple" 1 CF:=
 ⟨f,fd,_,BP D.fn ZD (fun ds h e=>if_neg e) (fun ds h e=>if_pos e) (fun cdv A outer s H E hr=>ZO B et TM m_MOST_LINES f cdv A outer s H E hr),D.bd,D.mg,D.fn.kp⟩
noncomputable def EU:List D→HD→Out D:=fun ds h=>if ds.length=2 then AA 4 (Ot) ds h else .stuck
theorem Zah {f:Addr} {fd:FuncData} (D:Dn K mg "rising_rows" ["start","many"] Hk f fd):CaE P w K mg base "rising_rows" 1 EU:=
 ⟨f,fd,_,BP D.fn sc_rising_rows (fun ds h e=>if_neg e) (fun ds h e=>if_pos e) (fun cdv A outer s H E hr=>ZP B et TM f cdv A outer s H E hr),D.bd,D.mg,D.fn.kp⟩
noncomputable def EV:List D→HD→Out D:=fun ds h=>if ds.length=2 then AA 2 (Ou) ds h else .stuck
theorem Zai {f:Addr} {fd:FuncData} (D:Dn K mg "lit_by_sides" ["ties","sides"] Hl f fd):CaE P w K mg base "lit_by_sides" 1 EV:=
 ⟨f,fd,_,BP D.fn ZE (fun ds h e=>if_neg e) (fun ds h e=>if_pos e) (fun cdv A outer s H E hr=>ZQ B et TM f cdv A outer s H E hr),D.bd,D.mg,D.fn.kp⟩
noncomputable def Fy:List D→HD→Out D:=fun ds h=>if ds.length=2 then AA 2 (L8) ds h else .stuck
theorem Zaj {f:Addr} {fd:FuncData} (D:Dn K mg "_law_cell" ["_law_script","_law_k"] Hm f fd):CaE P w K mg base "_law_cell" 1 Fy:=
 ⟨f,fd,_,BP D.fn ZF (fun ds h e=>if_neg e) (fun ds h e=>if_pos e) (fun cdv A outer s H E hr=>ZR B et TM f cdv A outer s H E hr),D.bd,D.mg,D.fn.kp⟩
noncomputable def Fz:List D→HD→Out D:=fun ds h=>if ds.length=2 then AA 3 (Ov) ds h else .stuck
theorem Zak {f:Addr} {fd:FuncData} (D:Dn K mg "_law_mix" ["_law_cell_here","_law_k"] Hn f fd):CaE P w K mg base "_law_mix" 1 Fz:=
 ⟨f,fd,_,BP D.fn sc__law_mix (fun ds h e=>if_neg e) (fun ds h e=>if_pos e) (fun cdv A outer s H E hr=>ZS B et TM f cdv A outer s H E hr),D.bd,D.mg,D.fn.kp⟩
noncomputable def AB:List D→HD→Out D:=fun ds h=>if ds.length=2 then AA 4 (Ow) ds h else .stuck
theorem Zal {f:Addr} {fd:FuncData} (D:Dn K mg "_law_take" ["_law_box_here","_law_many"] Ho f fd):CaE P w K mg base "_law_take" 1 AB:=
 ⟨f,fd,_,BP D.fn sc__law_take (fun ds h e=>if_neg e) (fun ds h e=>if_pos e) (fun cdv A outer s H E hr=>ZT B et TM f cdv A outer s H E hr),D.bd,D.mg,D.fn.kp⟩
noncomputable def Cf:List D→HD→Out D:=fun ds h=>if ds.length=1 then AA 3 (L9) ds h else .stuck
theorem Zam {f:Addr} {fd:FuncData} (D:Dn K mg "_law_kind" ["_law_e"] Hq f fd):CaM P w K mg base "_law_kind" 1 Cf:=
 ⟨f,fd,_,XT D.fn sc__law_kind (fun ds h e=>if_neg e) (fun ds h e=>if_pos e) (fun cdv A outer s H hr=>ZU B et TM f cdv A outer s H hr),D.bd,D.mg,D.fn.kp,fun ds h e=>if_neg e⟩
noncomputable def EW:List D→HD→Out D:=fun ds h=>if ds.length=1 then AA 3 (Ox) ds h else .stuck
theorem Zan {f:Addr} {fd:FuncData} (D:Dn K mg "_law_lots" ["_law_size"] Hr f fd):CaE P w K mg base "_law_lots" 1 EW:=
 ⟨f,fd,_,BP D.fn sc__law_lots (fun ds h e=>if_neg e) (fun ds h e=>if_pos e) (fun cdv A outer s H E hr=>ZV B et TM f cdv A outer s H E hr),D.bd,D.mg,D.fn.kp⟩
noncomputable def EX:List D→HD→Out D:=fun ds h=>if ds.length=2 then AA 6 (Oy) ds h else .stuck
theorem Zao {f:Addr} {fd:FuncData} (D:Dn K mg "_law_net_switched" ["_law_net_here","_law_lot"] Hs f fd):CaE P w K mg base "_law_net_switched" 1 EX:=
 ⟨f,fd,_,BP D.fn sc__law_net_switched (fun ds h e=>if_neg e) (fun ds h e=>if_pos e) (fun cdv A outer s H E hr=>ZW B et TM f cdv A outer s H E hr),D.bd,D.mg,D.fn.kp⟩
noncomputable def Cg:List D→HD→Out D:=fun ds h=>if ds.length=3 then AA 3 (Ma B6) ds h else .stuck
theorem Zap (c_is_whole:CaE P w K mg base "is_whole" 1 B6) {f:Addr} {fd:FuncData} (D:Dn K mg "is_between" ["thing","least","most"] Ht f fd):CaE P w K mg base "is_between" 2 Cg:=
 ⟨f,fd,_,BP D.fn ZG (fun ds h e=>if_neg e) (fun ds h e=>if_pos e) (fun cdv A outer s H E hr=>ZX B et TM c_is_whole f cdv A outer s H E hr),D.bd,D.mg,D.fn.kp⟩
noncomputable def FA:List D→HD→Out D:=fun ds h=>if ds.length=2 then AA 4 (Oz B6) ds h else .stuck
theorem Zaq (c_is_whole:CaE P w K mg base "is_whole" 1 B6) {f:Addr} {fd:FuncData} (D:Dn K mg "is_lot" ["thing","size"] Hu f fd):CaE P w K mg base "is_lot" 2 FA:=
 ⟨f,fd,_,BP D.fn sc_is_lot (fun ds h e=>if_neg e) (fun ds h e=>if_pos e) (fun cdv A outer s H E hr=>ZY B et TM c_is_whole f cdv A outer s H E hr),D.bd,D.mg,D.fn.kp⟩
noncomputable def EY:List D→HD→Out D:=fun ds h=>if ds.length=2 then AA 5 (OA Fy Fz) ds h else .stuck
theorem Zar (c__law_cell:CaE P w K mg base "_law_cell" 1 Fy) (c__law_mix:CaE P w K mg base "_law_mix" 1 Fz) {f:Addr} {fd:FuncData} (D:Dn K mg "_law_box" ["_law_script","_law_k"] Hv f fd):CaE P w K mg base "_law_box" 2 EY:=
 ⟨f,fd,_,BP D.fn sc__law_box (fun ds h e=>if_neg e) (fun ds h e=>if_pos e) (fun cdv A outer s H E hr=>ZZ B et TM c__law_cell c__law_mix f cdv A outer s H E hr),D.bd,D.mg,D.fn.kp⟩
noncomputable def CG:List D→HD→Out D:=fun ds h=>if ds.length=1 then AA 4 (OB AB) ds h else .stuck
theorem Zas (c__law_take:CaE P w K mg base "_law_take" 1 AB) {f:Addr} {fd:FuncData} (D:Dn K mg "_law_wide_box" ["_law_box_here"] Hw f fd):CaE P w K mg base "_law_wide_box" 2 CG:=
 ⟨f,fd,_,BP D.fn sc__law_wide_box (fun ds h e=>if_neg e) (fun ds h e=>if_pos e) (fun cdv A outer s H E hr=>Z0 B et TM c__law_take f cdv A outer s H E hr),D.bd,D.mg,D.fn.kp⟩
noncomputable def EZ:List D→HD→Out D:=fun ds h=>if ds.length=2 then AA 8 (OC AB) ds h else .stuck
theorem Zat (c__law_take:CaE P w K mg base "_law_take" 1 AB) {f:Addr} {fd:FuncData} (D:Dn K mg "_law_no_board" ["_law_box_here","_law_board_here"] Hx f fd):CaE P w K mg base "_law_no_board" 2 EZ:=
 ⟨f,fd,_,BP D.fn sc__law_no_board (fun ds h e=>if_neg e) (fun ds h e=>if_pos e) (fun cdv A outer s H E hr=>Z1 B et TM c__law_take f cdv A outer s H E hr),D.bd,D.mg,D.fn.kp⟩
noncomputable def E1:List D→HD→Out D:=fun ds h=>if ds.length=2 then AA 10 (OD AB) ds h else .stuck
theorem Zau (c__law_take:CaE P w K mg base "_law_take" 1 AB) {f:Addr} {fd:FuncData} (D:Dn K mg "_law_no_net" ["_law_box_here","_law_net_here"] Hz f fd):CaE P w K mg base "_law_no_net" 2 E1:=
 ⟨f,fd,_,BP D.fn sc__law_no_net (fun ds h e=>if_neg e) (fun ds h e=>if_pos e) (fun cdv A outer s H E hr=>Z2 B et TM c__law_take f cdv A outer s H E hr),D.bd,D.mg,D.fn.kp⟩
noncomputable def CH:List D→HD→Out D:=fun ds h=>if ds.length=1 then AA 1 (OE Cg) ds h else .stuck
theorem Zav (c_is_between:CaE P w K mg base "is_between" 2 Cg) {f:Addr} {fd:FuncData} (D:Dn K mg "is_light" ["thing"] HA f fd):CaE P w K mg base "is_light" 3 CH:=
 ⟨f,fd,_,BP D.fn ZH (fun ds h e=>if_neg e) (fun ds h e=>if_pos e) (fun cdv A outer s H E hr=>Z3 B et TM c_is_between f cdv A outer s H E hr),D.bd,D.mg,D.fn.kp⟩
noncomputable def DX:List D→HD→Out D:=fun ds h=>if ds.length=3 then AA 8 (OF AB CG) ds h else .stuck
theorem Zaw (c__law_take:CaE P w K mg base "_law_take" 1 AB) (c__law_wide_box:CaE P w K mg base "_law_wide_box" 2 CG) {f:Addr} {fd:FuncData} (D:Dn K mg "_law_board" ["_law_box_here","_law_high","_law_wide"] HB f fd):CaE P w K mg base "_law_board" 3 DX:=
 ⟨f,fd,_,BP D.fn sc__law_board (fun ds h e=>if_neg e) (fun ds h e=>if_pos e) (fun cdv A outer s H E hr=>Z4 B et TM c__law_take c__law_wide_box f cdv A outer s H E hr),D.bd,D.mg,D.fn.kp⟩
noncomputable def E2:List D→HD→Out D:=fun ds h=>if ds.length=1 then AA 9 (OG AB CG) ds h else .stuck
theorem Zax (c__law_take:CaE P w K mg base "_law_take" 1 AB) (c__law_wide_box:CaE P w K mg base "_law_wide_box" 2 CG) {f:Addr} {fd:FuncData} (D:Dn K mg "_law_net" ["_law_box_here"] HC f fd):CaE P w K mg base "_law_net" 3 E2:=
 ⟨f,fd,_,BP D.fn sc__law_net (fun ds h e=>if_neg e) (fun ds h e=>if_pos e) (fun cdv A outer s H E hr=>Z5 B et TM c__law_take c__law_wide_box f cdv A outer s H E hr),D.bd,D.mg,D.fn.kp⟩
noncomputable def FC:List D→HD→Out D:=fun ds h=>if ds.length=1 then AA 1 (OH CF CH) ds h else .stuck
theorem Zay (c_is_line_tuple:CaE P w K mg base "is_line_tuple" 1 CF) (c_is_light:CaE P w K mg base "is_light" 3 CH) {f:Addr} {fd:FuncData} (D:Dn K mg "is_row" ["thing"] HE f fd):CaE P w K mg base "is_row" 4 FC:=
 ⟨f,fd,_,BP D.fn ZI (fun ds h e=>if_neg e) (fun ds h e=>if_pos e) (fun cdv A outer s H E hr=>Z6 B et TM c_is_line_tuple c_is_light f cdv A outer s H E hr),D.bd,D.mg,D.fn.kp⟩
noncomputable def FD:List D→HD→Out D:=fun ds h=>if ds.length=2 then AA 2 (OI FA CH) ds h else .stuck
theorem Zaz (c_is_lot:CaE P w K mg base "is_lot" 2 FA) (c_is_light:CaE P w K mg base "is_light" 3 CH) {f:Addr} {fd:FuncData} (D:Dn K mg "is_tie" ["thing","many"] HF f fd):CaE P w K mg base "is_tie" 4 FD:=
 ⟨f,fd,_,BP D.fn ZJ (fun ds h e=>if_neg e) (fun ds h e=>if_pos e) (fun cdv A outer s H E hr=>Z7 B et TM c_is_lot c_is_light f cdv A outer s H E hr),D.bd,D.mg,D.fn.kp⟩
noncomputable def E3:List D→HD→Out D:=fun ds h=>if ds.length=1 then AA 1 (OJ CF FC) ds h else .stuck
theorem ZaA (c_is_line_tuple:CaE P w K mg base "is_line_tuple" 1 CF) (c_is_row:CaE P w K mg base "is_row" 4 FC) {f:Addr} {fd:FuncData} (D:Dn K mg "is_board" ["thing"] HG f fd):CaE P w K mg base "is_board" 5 E3:=
 ⟨f,fd,_,BP D.fn ZK (fun ds h e=>if_neg e) (fun ds h e=>if_pos e) (fun cdv A outer s H E hr=>Z8 B et TM c_is_line_tuple c_is_row f cdv A outer s H E hr),D.bd,D.mg,D.fn.kp⟩
noncomputable def B2:List D→HD→Out D:=fun ds h=>if ds.length=1 then AA 3 (OK Cg FD) ds h else .stuck
theorem ZaB (c_is_between:CaE P w K mg base "is_between" 2 Cg) (c_is_tie:CaE P w K mg base "is_tie" 4 FD) {t_MOST_PLACES:Tok} (m_MOST_PLACES:mg "MOST_PLACES"=some (.int 8 t_MOST_PLACES)) {f:Addr} {fd:FuncData} (D:Dn K mg "is_net" ["thing"] HH f fd):CaE P w K mg base "is_net" 5 B2:=
 ⟨f,fd,_,BP D.fn sc_is_net (fun ds h e=>if_neg e) (fun ds h e=>if_pos e) (fun cdv A outer s H E hr=>Z9 B et TM c_is_between c_is_tie m_MOST_PLACES f cdv A outer s H E hr),D.bd,D.mg,D.fn.kp⟩
noncomputable def DH:List D→HD→Out D:=fun ds h=>if ds.length=1 then AA 1 (Mb E3) ds h else .stuck
theorem ZaC (c_is_board:CaE P w K mg base "is_board" 5 E3) {f:Addr} {fd:FuncData} (D:Dn K mg "need_board" ["thing"] HI f fd):CaE P w K mg base "need_board" 6 DH:=
 ⟨f,fd,_,BP D.fn ZL (fun ds h e=>if_neg e) (fun ds h e=>if_pos e) (fun cdv A outer s H E hr=>Zaa B et TM c_is_board f cdv A outer s H E hr),D.bd,D.mg,D.fn.kp⟩
noncomputable def DI:List D→HD→Out D:=fun ds h=>if ds.length=1 then AA 1 (JW B2) ds h else .stuck
theorem ZaD (c_is_net:CaE P w K mg base "is_net" 5 B2) {f:Addr} {fd:FuncData} (D:Dn K mg "need_net" ["thing"] HJ f fd):CaE P w K mg base "need_net" 6 DI:=
 ⟨f,fd,_,BP D.fn ZM (fun ds h e=>if_neg e) (fun ds h e=>if_pos e) (fun cdv A outer s H E hr=>Zab B et TM c_is_net f cdv A outer s H E hr),D.bd,D.mg,D.fn.kp⟩
noncomputable def DJ:List D→HD→Out D:=fun ds h=>if ds.length=1 then AA 3 (Mc DI EU EV) ds h else .stuck
theorem ZaE (c_need_net:CaE P w K mg base "need_net" 6 DI) (c_rising_rows:CaE P w K mg base "rising_rows" 1 EU) (c_lit_by_sides:CaE P w K mg base "lit_by_sides" 1 EV) {f:Addr} {fd:FuncData} (D:Dn K mg "net_left" ["net"] HK f fd):CaE P w K mg base "net_left" 7 DJ:=
 ⟨f,fd,_,BP D.fn sc_net_left (fun ds h e=>if_neg e) (fun ds h e=>if_pos e) (fun cdv A outer s H E hr=>Zac B et TM c_need_net c_rising_rows c_lit_by_sides f cdv A outer s H E hr),D.bd,D.mg,D.fn.kp⟩
noncomputable def CV:List D→HD→Out D:=fun ds h=>if ds.length=1 then AA 3 (JX DH) ds h else .stuck
theorem ZaF (c_need_board:CaE P w K mg base "need_board" 6 DH) {t_MOST_PLACES:Tok} (m_MOST_PLACES:mg "MOST_PLACES"=some (.int 8 t_MOST_PLACES)) {f:Addr} {fd:FuncData} (D:Dn K mg "net_of" ["board"] HL f fd):CaE P w K mg base "net_of" 7 CV:=
 ⟨f,fd,_,BP D.fn sc_net_of (fun ds h e=>if_neg e) (fun ds h e=>if_pos e) (fun cdv A outer s H E hr=>Zad B et TM c_need_board m_MOST_PLACES f cdv A outer s H E hr),D.bd,D.mg,D.fn.kp⟩
noncomputable def F_law:List D→HD→Out D:=fun ds h=>if ds.length=1 then AA 15 (Md EY E2 EW EX DJ AB DX CV EZ E1 B2 Cf) ds h else .stuck
end
theorem _root_.LS.Sm.len {h h':HD} (s:Sm h h'):h.length≤h'.length:=by
 cases e:h.length with
 |zero=>exact BU _
 |succ n=>
  have hn:n<h.length:=by omega
  have:=s n h[n] (A6 hn)
  have:=(qa6.mp this).1
  omega
theorem sz {n:Nat} (hn:n≤8):(List.range n).length≤sizeLine:=by
 rw [List.length_range];unfold sizeLine;omega
open PySem.Builtin.Int in
theorem ZaG {ns:List Int} {k:Nat} (hb:∀i∈ns,Builtin.Int.intBits i≤2^20) (hk:k≤1000):∃c:Int,Builtin.Int.intBits c≤2^20∧∀h,Pu (Fy [.scr ns,.int (k:Nat)] h) h (.int c):=by
 by_cases hl:k<ns.length
 ·refine ⟨ns[k],hb _ (F5 hl),fun h=>?_⟩
  change Wp (AA 2 L8 [.scr ns,.int (k:Nat)] h) _
  refine Eq.mpr (Bs) ?_
  have:(k:Int)<ns.length:=by omega
  simp [this]
  refine An (WS (A6 hl)) ?_
  simp [Sm.refl]
 ·refine ⟨6151*(k:Int)+29,?_,fun h=>?_⟩
  ·rw [intBits_le_iff]
   have h1:(6151*(k:Int)+29).natAbs<2^30:=by omega
   exact Bb h1 (IY (by decide) (by omega))
  ·change Wp (AA 2 L8 [.scr ns,.int (k:Nat)] h) _
   refine Eq.mpr (Bs) ?_
   have:¬(k:Int)<ns.length:=by omega
   simp [this]
   rw [Nu (by decide) (by decide)]
   simp [Sm.refl]
def SG (c:Int) (k:Nat):Int:=(((c+1)*40692+104729*(k:Int))*((c+1)*40692+104729*(k:Int))) % 2147483399+(k:Int)
theorem SH {h:HD}:G2 [.int 24] h=.ok ((List.range 24).map fun k=>D.int ((k:Nat):Int),[]) h:=Fq (n:=24) (by decide)
theorem ZaH {c:Int} {k:Nat} (hc:Builtin.Int.intBits c≤2^20) (hk:k≤1000):∃r:Int,∀h,Pu (Fz [.int c,.int (k:Nat)] h) h (.int r):=by
 refine ⟨SG c k*(SG c k+31) % 2147483563,fun h=>?_⟩
 change Wp (AA 3 Ov [.int c,.int (k:Nat)] h) _
 refine Eq.mpr (Bs) ?_
 have bX:Builtin.Int.intBits ((c+1)*40692+104729*(k:Int))≤16777216:=by
  have hk':Builtin.Int.intBits ((k:Nat):Int)≤10:=PySem.intBits_le_iff.mpr (by omega)
  have:=PySem.intBits_add_le (PySem.intBits_mul_le (PySem.intBits_add_le hc (show Builtin.Int.intBits 1≤1 by decide)) (show Builtin.Int.intBits 40692≤16 by decide)) (PySem.intBits_mul_le (show Builtin.Int.intBits 104729≤17 by decide) hk')
  exact BS this (by decide)
 have h1:=Int.emod_nonneg (((c+1)*40692+104729*(k:Int))*((c+1)*40692+104729*(k:Int))) (show (2147483399:Int)≠0 by decide)
 have h2:=Int.emod_lt_of_pos (((c+1)*40692+104729*(k:Int))*((c+1)*40692+104729*(k:Int))) (show (0:Int)<2147483399 by decide)
 simp
 rw [K8 (by decide) (by decide)]
 simp
 rw [Nu (by decide) (by decide)]
 simp
 rw [WV bX bX]
 simp
 rw [G6 (by decide)]
 simp
 rw [Nu (by omega) (by omega)]
 simp
 rw [G6 (by decide)]
 simp
 exact ⟨rfl,.refl _⟩
def BoxAt (h:HD) (b:Nat):Prop:=∃n:Int,h[b]?=some (.lst [.int n])
inductive SI (ns:List Int) (k:Nat) (c:Int) (h:HD) (xs:List Nat) (ρ:Ai) (h':HD):Prop where
 |mk (N:Int) (x:Option D) (f0:ρ=[some (.scr ns),some (.int (k:Nat)),some (.int c),some (.int N),x]) (f1:Sm h h') (f2:∀j∈xs,j<24):SI ns k c h xs ρ h'
theorem ZaI {ns:List Int} {k:Nat} {h:HD} {Q:D→HD→Prop} (hb:∀i∈ns,Builtin.Int.intBits i≤2^20) (hk:k≤1000) (q:∀l h',BoxAt h' l→h.length≤l→Sm h h'→Q (.loc l) h'):Wp (EY [.scr ns,.int (k:Nat)] h) Q:=by
 change Wp (AA 5 (OA Fy Fz) [.scr ns,.int (k:Nat)] h) _
 refine Eq.mpr (Bs) ?_
 obtain ⟨c,bc,pc⟩:=ZaG (k:=k) hb hk
 simp
 refine (pc h).wp fun h1 s1=>?_
 rw [G6 (by decide)]
 simp
 by_cases hz:c % 2=0
 ·simp [hz]
  rw [WW (by decide) (by decide)]
  simp
  exact AX (by simp) fun l h' s e el _=>q l h' ⟨_,e⟩ (by have:=s1.len;omega) (s1.trans s)
 ·simp [hz]
  refine Ef (src:=[]) (xs:=List.range 24) (fun i=>.int ((i:Nat):Int)) (SI ns k c h) ?_ (fun ys ρ h' _=>CN) ?_ ?_
  ·simp [SH]
   exact ⟨_,_,rfl,s1,fun j hj=>qbH.mp hj⟩
  ·rintro x xs ρ h' ⟨N,y,rfl,sh,hx⟩
   refine ⟨_,rfl,?_⟩
   obtain ⟨m,pm⟩:=ZaH (k:=x) bc (by have:=hx x A0;omega)
   simp
   rw [K8 (by decide) (by decide)]
   simp
   refine (pm h').wp fun h2 s2=>?_
   simp [Ds]
   exact ⟨_,_,rfl,sh.trans s2,fun j hj=>hx j (A5 _ hj)⟩
  ·rintro ρ h' ⟨N,y,rfl,sh,_⟩
   simp
   exact AX (by simp) fun l h' s e el _=>q l h' ⟨_,e⟩ (by have:=sh.len;omega) (sh.trans s)
def Smx (b:Nat) (h h':HD):Prop:=∀(l:Nat) (c:DE),l≠b→h[l]?=some c→h'[l]?=some c
theorem Smx.refl (b:Nat) (h:HD):Smx b h h:=fun _ _ _ e=>e
theorem Smx.trans {b:Nat} {h h1 h2:HD} (a:Smx b h h1) (c:Smx b h1 h2):Smx b h h2:=fun l x n e=>c l x n (a l x n e)
theorem Cp {b:Nat} {h h':HD} (s:Sm h h'):Smx b h h':=fun l c _ e=>s l c e
theorem GD {b:Nat} {m:Int} {h:HD} {Q:D→HD→Prop} (hx:BoxAt h b) (h1:0<m) (h2:m<18446744073709551616) (q:∀d h',0≤d→d<m→BoxAt h' b→Smx b h h'→Q (.int d) h'):Wp (AB [.loc b,.int m] h) Q:=by
 change Wp (AA 4 Ow [.loc b,.int m] h) _
 refine Eq.mpr (Bs) ?_
 obtain ⟨N,e⟩:=hx
 simp
 rw [show (0:Int)=((0:Nat):Int) from rfl]
 refine An (EJ e (k:=0) rfl) ?_
 simp
 refine An (WX h1 h2) ?_
 simp
 rw [show (0:Int)=((0:Nat):Int) from rfl]
 refine An (WT e (by simp)) ?_
 simp
 have hl:b<h.length:=(qa6.mp e).1
 refine q _ _ (Int.emod_nonneg _ (by omega)) (Int.emod_lt_of_pos _ h1) ⟨_,by rw [CZ hl]⟩ fun l c ne el=>?_
 rw [BW (Ne.symm ne)]
 exact el
theorem BoxAt.sm {b:Nat} {h h':HD} (x:BoxAt h b) (s:Sm h h'):BoxAt h' b:=let ⟨n,e⟩:=x;⟨n,s _ _ e⟩
theorem BoxAt.smx {a b:Nat} {h h':HD} (x:BoxAt h b) (s:Smx a h h') (ne:b≠a):BoxAt h' b:=let ⟨n,e⟩:=x;⟨n,s _ _ ne e⟩
theorem BoxAt.new {b:Nat} {h:HD} {c:DE} (x:BoxAt h b):BoxAt (h++[c]) b:=x.sm (.app _ _)
def Plain (h:HD):D→Prop
 |.int _=>True
 |.bl _=>True
 |.non=>True
 |.str _=>True
 |.tup _=>True
 |.edic=>True
 |.loc l=>∃ds,h[l]?=some (.lst ds)
 |_=>False
theorem Plain.sm {h h':HD} {d:D} (p:Plain h d) (s:Sm h h'):Plain h' d:=by
 cases d with
 |loc l=>obtain ⟨ds,e⟩:=p;exact ⟨ds,s _ _ e⟩
 |_=>exact p
def AI:D→List D
 |.tup ds=>ds
 |_=>[]
def Plain2 (h:HD) (d:D):Prop:=Plain h d∧∀x∈AI d,Plain h x
def Plain3 (h:HD) (d:D):Prop:=Plain h d∧∀x∈AI d,Plain2 h x
theorem Plain2.sm {h h':HD} {d:D} (p:Plain2 h d) (s:Sm h h'):Plain2 h' d:=⟨p.1.sm s,fun x hx=>(p.2 x hx).sm s⟩
theorem Plain3.sm {h h':HD} {d:D} (p:Plain3 h d) (s:Sm h h'):Plain3 h' d:=⟨p.1.sm s,fun x hx=>(p.2 x hx).sm s⟩
def DY:D→Bool
 |.int i=>decide (0≤i)&&decide (i≤1)
 |_=>false
def B9:D→Bool
 |.tup ds=>decide (1≤ds.length)&&decide (ds.length≤8)
 |_=>false
def B0 (d:D):Bool:=B9 d&&(AI d).all DY
def DZ (d:D):Nat:=(AI d).length
def CI (d:D):Bool:=B9 d&&(AI d).all B0&&(AI d).all fun x=>DZ x==DZ ((AI d).getD 0 .non)
theorem p_is_between_int {i a b:Int} {h:HD}:Pu (Cg [.int i,.int a,.int b] h) h (.bl (decide (a≤i)&&decide (i≤b))):=by
 change Wp (AA 3 (Ma B6) [.int i,.int a,.int b] h) _
 refine Eq.mpr (Bs) ?_
 have e:B6 [.int i] h=.ok (.bl true) h:=rfl
 simp [e]
 by_cases h1:a≤i<;>simp [h1,AD,Sm.refl]
theorem SJ {d:D} {a b:Int} {h:HD} (e:B6 [d] h=.ok (.bl false) h):Pu (Cg [d,.int a,.int b] h) h (.bl false):=by
 change Wp (AA 3 (Ma B6) [d,.int a,.int b] h) _
 refine Eq.mpr (Bs) ?_
 simp [e,Sm.refl]
def E4:D→Bool
 |.int _=>true
 |_=>false
theorem OL {d:D} {h:HD} (p:Plain h d):B6 [d] h=.ok (.bl (E4 d)) h:=by
 cases d with
 |loc l=>
  obtain ⟨ds,e⟩:=p
  have i1:AR (.loc l) (.ty "int") h=.ok (.bl false) h:=Yo e
  have w:Wp (AA 1 Oo [.loc l] h) fun d h'=>d=.bl false∧h'=h:=by
   refine Eq.mpr Bs ?_
   simp [-Yn,i1]
  obtain ⟨a,h',e',rfl,rfl⟩:=Wp.ex w
  exact e'
 |tup ds=>rfl
 |int i=>rfl
 |bl b=>rfl
 |non=>rfl
 |str x=>rfl
 |edic=>rfl
 |_=>exact p.elim
theorem HM {d:D} (h:E4 d=true):∃i,d=.int i:=by cases d<;>first |exact ⟨_,rfl⟩ |cases h
theorem SK {d:D} {h:HD} (p:Plain h d):Pu (CH [d] h) h (.bl (DY d)):=by
 change Wp (AA 1 (OE Cg) [d] h) _
 refine Eq.mpr Bs ?_
 simp
 cases hw:E4 d with
 |true=>
  obtain ⟨i,rfl⟩:=HM hw
  exact p_is_between_int.wp fun h' s=>⟨rfl,s⟩
 |false=>
  have e:=OL p
  rw [hw] at e
  have e2:DY d=false:=by cases d<;>first |rfl |cases hw
  exact (SJ e).wp fun h' s=>⟨by rw [e2],s⟩
def D0:D→Bool
 |.tup _=>true
 |_=>false
theorem JY {d:D} {h:HD} (p:Plain h d):AR d (.ty "tuple") h=.ok (.bl (D0 d)) h:=by
 cases d with
 |loc l=>obtain ⟨ds,e⟩:=p;exact Yp e
 |tup ds=>rfl
 |int i=>rfl
 |bl b=>rfl
 |non=>rfl
 |str x=>rfl
 |edic=>rfl
 |_=>exact p.elim
theorem GE {d:D} (h:D0 d=true):∃ds,d=.tup ds:=by cases d<;>first |exact ⟨_,rfl⟩ |cases h
theorem SL {d:D} {h:HD} (p:Plain h d):Pu (CF [d] h) h (.bl (B9 d)):=by
 change Wp (AA 1 Oq [d] h) _
 refine Eq.mpr Bs ?_
 cases hT:D0 d with
 |true=>
  obtain ⟨ds,rfl⟩:=GE hT
  have a1:(1:Int)≤ds.length↔1≤ds.length:=by omega
  have a2:(ds.length:Int)≤8↔ds.length≤8:=by omega
  by_cases h1:1≤ds.length
  ·by_cases h2:ds.length≤8
   ·simp [a1.mpr h1,a2.mpr h2,AD,Sm.refl,B9,h1,h2]
   ·have b2:¬(ds.length:Int)≤8:=by omega
    simp [a1.mpr h1,b2,AD,Sm.refl,B9,h1,h2]
  ·have b1:¬(1:Int)≤ds.length:=by omega
   simp [b1,AD,Sm.refl,B9,h1]
 |false=>
  have:B9 d=false:=by cases d<;>first |rfl |cases hT
  simp [JY p,hT,this,Sm.refl]
theorem OM {d:D} (h:B9 d=true):∃ds,d=.tup ds∧1≤ds.length∧ds.length≤8:=by
 cases d with
 |tup ds=>exact ⟨ds,rfl,by simpa [B9] using h⟩
 |_=>cases h
theorem ZaJ {d:D} {h:HD} (p:Plain2 h d):Pu (FC [d] h) h (.bl (B0 d)):=by
 change Wp (AA 1 (OH CF CH) [d] h) _
 refine Eq.mpr (Bs) ?_
 simp
 refine (SL p.1).wp fun h1 s1=>?_
 cases hl:B9 d with
 |false=>simp [B0,hl,s1]
 |true=>
  obtain ⟨ds,rfl,l1,l2⟩:=OM hl
  simp
  refine Pu.wp (JG (src:=[]) (xs:=ds) (φ:=fun x=>x) DY (fun x=>[some x]) (by rw [List.map_id'];exact Nt) (fun x _=>rfl) (fun x hx h' s'=>?_) (by unfold sizeLine;omega)) fun h2 s2=>?_
  ·simp [Pu]
   exact SK ((p.2 x hx).sm (s1.trans s'))
  ·simp [B0,hl,AI,s1.trans s2]
theorem SM {d:D} {h:HD} (hl:B9 d=true):Bk d h=.ok (.int (DZ d:Nat)) h:=by
 obtain ⟨ds,rfl,_,_⟩:=OM hl
 simp [DZ,AI]
theorem SO {d:D} (h:B0 d=true):B9 d=true:=by unfold B0 at h;exact (Bool.and_eq_true_iff.mp h).1
theorem SQ {d:D} {h:HD} (p:Plain3 h d):Pu (E3 [d] h) h (.bl (CI d)):=by
 change Wp (AA 1 (OJ CF FC) [d] h) _
 refine Eq.mpr (Bs) ?_
 simp
 refine (SL p.1).wp fun h1 s1=>?_
 cases hl:B9 d with
 |false=>simp [CI,hl,s1]
 |true=>
  obtain ⟨ds,rfl,l1,l2⟩:=OM hl
  simp
  refine Pu.wp (JG (src:=[]) (xs:=ds) (φ:=fun x=>x) B0 (fun x=>[some x]) (by rw [List.map_id'];exact Nt) (fun x _=>rfl) (fun x hx h' s'=>?_) (by unfold sizeLine;omega)) fun h2 s2=>?_
  ·simp [Pu]
   exact ZaJ ((p.2 x hx).sm (s1.trans s'))
  ·cases ha:ds.all B0 with
   |false=>simp [CI,hl,AI,ha,s1.trans s2]
   |true=>
    simp
    have hr:∀x∈ds,B0 x=true:=fun x hx=>qaJ.mp ha x hx
    obtain ⟨d0,rest,rfl⟩:∃d0 rest,ds=d0::rest:=by
     cases ds with
     |nil=>simp at l1
     |cons a r=>exact ⟨a,r,rfl⟩
    refine Pu.wp (JG (src:=[]) (xs:=d0::rest) (φ:=fun x=>x) (fun x=>DZ x==DZ d0) (fun x=>[some x,some (.tup (d0::rest))]) (by rw [List.map_id'];exact Nt) (fun x _=>rfl) (fun x hx h' s'=>?_) (by unfold sizeLine;omega)) fun h3 s3=>?_
    ·simp [Pu]
     rw [SM (SO (hr x hx))]
     simp
     rw [show (0:Int)=((0:Nat):Int) from rfl]
     refine An (ix_tup (k:=0) rfl) ?_
     simp
     rw [SM (SO (hr d0 A0))]
     simp [Sm.refl]
     rw [qbE]
     simp
     omega
    ·have:(d0::rest).all B0=true:=ha
     simp only [CI,hl,AI,this,Bool.true_and]
     refine ⟨?_,(s1.trans s2).trans s3⟩
     simp
theorem ZaK {d:D} {h:HD} (p:Plain3 h d) (hb:CI d=true):Pu (DH [d] h) h .non:=by
 change Wp (AA 1 (Mb E3) [d] h) _
 refine Eq.mpr (Bs) ?_
 simp
 refine (SQ p).wp fun h1 s1=>?_
 simp [hb,s1]
theorem ZaL {d:D} {h:HD} (p:Plain3 h d) (hb:CI d=false):Er (DH [d] h) h "NoBoard":=by
 change We (AA 1 (Mb E3) [d] h) _ _
 refine Eq.mpr (JM) ?_
 simp
 refine (SQ p).we fun h1 s1=>?_
 simp [hb,s1,DS]
def lit (x:Bool):D:=.int (if x then 1 else 0)
def AM (w:Nat) (f:Nat→Bool):D:=.tup ((List.range w).map fun j=>lit (f j))
def bD (h w:Nat) (f:Nat→Nat→Bool):D:=.tup ((List.range h).map fun i=>AM w (f i))
section
variable {H W:Nat} {h:HD} {f:Nat→Nat→Bool} {r:Nat→Bool}
theorem SS {x:Bool}:DY (lit x)=true:=by cases x<;>rfl
theorem Me:Plain2 h (AM W r):=⟨trivial,fun x hx=>by
 simp only [AM,AI,qaL] at hx
 obtain ⟨j,_,rfl⟩:=hx
 exact trivial⟩
theorem ZaM:Plain3 h (bD H W f):=⟨trivial,fun x hx=>by
 simp only [bD,AI,qaL] at hx
 obtain ⟨j,_,rfl⟩:=hx
 exact Me⟩
theorem SU {ds:List D} (h1:1≤ds.length) (h2:ds.length≤8):B9 (.tup ds)=true:=by simp [B9,h1,h2]
theorem ZaN (hw:1≤W∧W≤8):B0 (AM W r)=true:=by
 unfold B0
 rw [BR]
 refine ⟨SU (by simp;omega) (by simp;omega),qaJ.mpr fun x hx=>?_⟩
 simp only [AM,AI,qaL] at hx
 obtain ⟨j,_,rfl⟩:=hx
 exact SS
theorem Mf:DZ (AM W r)=W:=by simp [DZ,AM,AI]
theorem ZaO (hh:1≤H∧H≤8) (hw:1≤W∧W≤8):CI (bD H W f)=true:=by
 unfold CI
 rw [BR,BR]
 refine ⟨⟨SU (by simp;omega) (by simp;omega),qaJ.mpr fun x hx=>?_⟩,qaJ.mpr fun x hx=>?_⟩
 ·simp only [bD,AI,qaL] at hx
  obtain ⟨j,_,rfl⟩:=hx
  exact ZaN hw
 ·simp only [bD,AI,qaL] at hx ⊢
  obtain ⟨j,_,rfl⟩:=hx
  have:((List.range H).map fun i=>AM W (f i)).getD 0 .non=AM W (f 0):=by
   rw [E9,Ca,Kg (by omega)];rfl
  rw [this,Mf,Mf]
  simp
theorem SV (hh:1≤H∧H≤8) (hw:1≤W∧W≤8):Pu (DH [bD H W f] h) h .non:=ZaK ZaM (ZaO hh hw)
end
section
variable {h:HD}
theorem SW:Jr (.int 10) (.int 29) h=.ok (.int (10^29)) h:=by
 simp only [Jr,LS.intD]
 rw [if_pos (by decide)]
 rfl
variable {H W:Nat} {f:Nat→Nat→Bool} {r:Nat→Bool}
theorem GF:Bk (bD H W f) h=.ok (.int (H:Nat)) h:=by simp [bD]
theorem Mg:Bk (AM W r) h=.ok (.int (W:Nat)) h:=by simp [AM]
theorem SY {k:Nat} (hk:k<H):Au (bD H W f) (.int (k:Nat)) h=.ok (AM W (f k)) h:=K7 hk
theorem JZ (hk:1≤H):Au (bD H W f) (.int 0) h=.ok (AM W (f 0)) h:=WR (by omega)
def NoRowD (h:HD) (H W:Nat) (x:D):Prop:=Plain2 h x∧(B0 x=false∨(1<H∧DZ x≠W))
def Dk (H W:Nat) (f:Nat→Nat→Bool) (A:Nat) (x:D):D:=.tup (((List.range H).map fun i=>AM W (f i)).take A++[x]++((List.range H).map fun i=>AM W (f i)).drop (A+1))
theorem ZaP {A:Nat} {x y:D} (hy:y∈AI (Dk H W f A x)):y=x∨∃i,y=AM W (f i):=by
 simp only [Dk,AI,Kj,qaP,qa5,Do,or_false] at hy
 rcases hy with hy |hy |hy
 ·have:=En hy
  simp at this
  obtain ⟨i,_,rfl⟩:=this
  exact .inr ⟨i,rfl⟩
 ·exact .inl hy
 ·have:=Fb hy
  simp at this
  obtain ⟨i,_,rfl⟩:=this
  exact .inr ⟨i,rfl⟩
theorem ZaQ {A:Nat} {x:D} (hx:Plain2 h x):Plain3 h (Dk H W f A x):=⟨trivial,fun y hy=>by
 rcases ZaP hy with rfl |⟨i,rfl⟩
 ·exact hx
 ·exact Me⟩
theorem ZaR {A:Nat} {x:D} (hA:A<H) (hx:NoRowD h H W x):CI (Dk H W f A x)=false:=by
 have hm:x∈AI (Dk H W f A x):=by simp [Dk,AI]
 rcases hx.2 with hr |⟨h1,hl⟩
 ·unfold CI
  rw [show (AI (Dk H W f A x)).all B0=false from by
   rw [Ja]
   exact ⟨x,hm,by rw [hr];simp⟩]
  simp
 ·unfold CI
  rw [show ((AI (Dk H W f A x)).all fun y=>DZ y==DZ ((AI (Dk H W f A x)).getD 0 .non))=false from ?_]
  ·simp
  rw [Ja]
  have lenA:(((List.range H).map fun i=>AM W (f i)).take A).length=A:=by simp;omega
  by_cases hA0:A=0
  ·subst hA0
   have e0:(AI (Dk H W f 0 x)).getD 0 .non=x:=by simp [Dk,AI]
   rw [e0]
   have h2:((List.range H).map fun i=>AM W (f i)).drop 1≠[]:=by
    intro z
    have:=congrArg List.length z
    simp at this
    omega
   obtain ⟨y,hy⟩:=List.exists_mem_of_ne_nil _ h2
   refine ⟨y,by simp only [Dk,AI];exact qaP.mpr (.inr hy),?_⟩
   have:=Fb hy
   simp at this
   obtain ⟨i,_,rfl⟩:=this
   rw [Mf]
   simpa using fun z=>hl z.symm
  ·have e0:(AI (Dk H W f A x)).getD 0 .non=AM W (f 0):=by
    simp only [Dk,AI,Kj]
    rw [E9,FG (by rw [lenA];omega),List.getElem?_take,if_pos (by omega),Ca,Kg (by omega)]
    rfl
   rw [e0,Mf]
   exact ⟨x,hm,by simpa using hl⟩
theorem ON {ds:List D} {x:D} (hx:x∈ds) (hr:B0 x=false):CI (.tup ds)=false:=by
 unfold CI
 rw [show (AI (.tup ds)).all B0=false from by
  rw [Ja]
  exact ⟨x,hx,by rw [hr];simp⟩]
 simp
theorem SZ {d:D} (hl:B9 d=false):CI d=false:=by unfold CI;rw [hl];simp
theorem ZaS (hh:1≤H):B0 (bD H W f)=false:=by
 unfold B0
 rw [show (AI (bD H W f)).all DY=false from by
  rw [Ja]
  exact ⟨AM W (f 0),by simp [bD,AI];exact ⟨0,by omega,rfl⟩,by simp [AM,DY]⟩]
 simp
theorem ZaT (hw:1≤W):CI (AM W r)=false:=ON (x:=lit (r 0)) (by simp;exact ⟨0,by omega,rfl⟩) (by simp [B0,lit,B9])
def NoB (h:HD) (d:D):Prop:=Plain3 h d∧CI d=false
theorem NoB.sm {h':HD} {d:D} (n:NoB h d) (s:Sm h h'):NoB h' d:=⟨n.1.sm s,n.2⟩
end
theorem Plain.smx {b:Nat} {h h':HD} {d:D} (p:Plain h d) (s:Smx b h h') (x:BoxAt h' b):Plain h' d:=by
 cases d with
 |loc l=>
  obtain ⟨ds,e⟩:=p
  by_cases hl:l=b
  ·obtain ⟨n,e'⟩:=x
   exact ⟨_,hl ▸ e'⟩
  ·exact ⟨ds,s _ _ hl e⟩
 |_=>exact p
theorem Plain2.smx {b:Nat} {h h':HD} {d:D} (p:Plain2 h d) (s:Smx b h h') (x:BoxAt h' b):Plain2 h' d:=⟨p.1.smx s x,fun y hy=>(p.2 y hy).smx s x⟩
theorem Plain3.smx {b:Nat} {h h':HD} {d:D} (p:Plain3 h d) (s:Smx b h h') (x:BoxAt h' b):Plain3 h' d:=⟨p.1.smx s x,fun y hy=>(p.2 y hy).smx s x⟩
theorem NoB.smx {b:Nat} {h h':HD} {d:D} (n:NoB h d) (s:Smx b h h') (x:BoxAt h' b):NoB h' d:=⟨n.1.smx s x,n.2⟩
def TabAt (h:HD):Prop:=h[0]?=some .tab
theorem TabAt.sm {h h':HD} (t:TabAt h) (s:Sm h h'):TabAt h':=s _ _ t
theorem TabAt.smx {b:Nat} {h h':HD} (t:TabAt h) (s:Smx b h h') (hb:0<b):TabAt h':=s _ _ (by omega) t
theorem TabAt.pos {h:HD} (t:TabAt h):0<h.length:=(qa6.mp t).1
theorem D3 {b:Nat} {m:Int} {h:HD} {Q:D→HD→Prop} (hx:BoxAt h b) (hb:0<b) (ht:TabAt h) (h1:0<m) (h2:m≤1000) (q:∀(d:Nat) h',(d:Int)<m→BoxAt h' b→TabAt h'→Smx b h h'→Q (.int (d:Nat)) h'):Wp (AB [.loc b,.int m] h) Q:=
 GD hx (by omega) (by omega) fun d h' d0 d1 x s=>by
  obtain ⟨k,rfl⟩:∃k:Nat,d=(k:Int):=⟨d.toNat,by omega⟩
  exact q k h' (by omega) x (ht.smx s hb) s
theorem BoxAt.lt {b:Nat} {h:HD} (x:BoxAt h b):b<h.length:=let ⟨_,e⟩:=x;(qa6.mp e).1
@[simp] theorem ZeA {ρ:Ai} {a b:D} {i j:Nat}:Ei [i,j] (.tup [a,b]) ρ=some ((ρ.set i (some a)).set j (some b)):=id rfl
theorem CW {xs ys:List D} {h:HD} (hz:xs.length+ys.length≤1000):As (.tup xs) (.tup ys) h=.ok (.tup (xs++ys)) h:=by
 simp only [As]
 rw [if_pos (by unfold sizeLine;omega)]
theorem ZaU {ds:List D} {x:D} (hx:x∈ds) (hl:DY x=false):B0 (.tup ds)=false:=by
 unfold B0
 rw [show (AI (.tup ds)).all DY=false from by
  rw [Ja]
  exact ⟨x,hx,by rw [hl];simp⟩]
 simp
theorem ZaV {d:D} (hl:B9 d=false):B0 d=false:=by unfold B0;rw [hl];simp
theorem S3 {ds:List D} (hl:8<ds.length):B9 (.tup ds)=false:=by
 have:¬ds.length≤8:=by omega
 simp [B9,this]
theorem ZaW {h:HD} {W:Nat} {r:Nat→Bool} {x:D} (hx:x∈(List.range W).map fun j=>lit (r j)):Plain h x:=by
 simp only [qaL] at hx
 obtain ⟨j,_,rfl⟩:=hx
 exact trivial
theorem AV {P:D→Prop}:∀d∈([]:List D),P d:=fun d hd=>by cases hd
theorem all_cons {P:D→Prop} {a:D} {l:List D} (h:P a) (t:∀d∈l,P d):∀d∈a::l,P d:=fun d hd=>by
 rcases qa5.mp hd with rfl |hd
 ·exact h
 ·exact t d hd
theorem CY {P:D→Prop} {l r:List D} (h:∀d∈l,P d) (t:∀d∈r,P d):∀d∈l++r,P d:=fun d hd=>by
 rcases qaP.mp hd with hd |hd
 ·exact h d hd
 ·exact t d hd
theorem OO (P:D→Prop) {l o:Nat} {ds:List D} {h:HD} (e:h[l]?=some (.lst ds)) (ho:o<ds.length) (hp:∀d∈ds,P d):∃y,Au (.loc l) (.int (o:Nat)) h=.ok y h∧P y:=
 ⟨ds[o],EJ e (A6 ho),hp _ (F5 ho)⟩
theorem E5 {h:HD} {d:D} (p:Plain h d) (e:AI d=[]):Plain2 h d:=⟨p,fun x hx=>by rw [e] at hx;cases hx⟩
theorem FU {h:HD} {d:D} (p:Plain h d) (e:AI d=[]):Plain3 h d:=⟨p,fun x hx=>by rw [e] at hx;cases hx⟩
def ZaX (h:HD) (H W l:Nat):Prop:=∃ds:List D,h[l]?=some (.lst ds)∧ds.length≤10∧∀d∈ds,NoRowD h H W d
theorem NoRowD.sm {h h':HD} {H W:Nat} {d:D} (n:NoRowD h H W d) (s:Sm h h'):NoRowD h' H W d:=⟨n.1.sm s,n.2⟩
noncomputable abbrev ZaY:MS:=Al (Ay 7 (Bf [none,some 1,some 2] (BV (Ab 7)) (A7 0) (Bq) (Ag As (Ag As (BB (Ab 1) (BF) (BA (Ab 2))) (Ax (Aa (Ab 0) (Ad)))) (BB (Ab 1) (BA (Ag As (Ab 2) (mC (.int 1)))) (BF))))) (Al (Ay 7 (Ag As (Ab 7) (Be (Aa (Ah (Aq Fw) (Aa (Ab 1) (Ad))) (Aa (Ax (Aa (Ab 1) (Ad))) (Aa (Ag CC (Ax (Aa (Ag Au (Ab 1) (mC (.int 0))) (Ad))) (mC (.int 9))) (Aa (Ag As (Ab 1) (Ax (Aa (Ax (Ad)) (Ad)))) (Aa (Ag Au (Ab 1) (mC (.int 0))) (Aa (mC .non) (Aa (Ax (Ad)) (Aa (mC (.int 0)) (Aa (mC (.str "")) (Aa (mC .edic) (Ad)))))))))))))) (AL (Ag Au (Ab 7) (Ah AB (Aa (Ab 0) (Aa (Ah (Aq Bk) (Aa (Ab 7) (Ad))) (Ad)))))))
theorem OP {R:List D} {h:HD}:Fw (.tup R) h=CL R h:=rfl
theorem NoB.tup {h:HD} {ds:List D} (hp:∀x∈ds,Plain2 h x) (hb:CI (.tup ds)=false):NoB h (.tup ds):=⟨⟨trivial,hp⟩,hb⟩
theorem S4 {b H W A l:Nat} {f:Nat→Nat→Bool} {h:HD} {c3 c4 c5 c6:Option D} {Q:D→HD→Prop} (hx:BoxAt h b) (hb:0<b) (ht:TabAt h) (hh:1≤H∧H≤8) (hw:1≤W∧W≤8) (hA:A<H) (hn:ZaX h H W l)
 (q:∀d h',NoB h' d→BoxAt h' b→TabAt h'→Smx b h h'→Q d h'):Wp (ZaY [some (.loc b),some (bD H W f),some (.int (A:Nat)),c3,c4,c5,c6,some (.loc l)] h) (G3 Q):=by
 obtain ⟨ds,el,ln,hn⟩:=hn
 try simp [-Aj]
 refine Gv (src:=[(l,ds)]) (xs:=ds) (φ:=fun x=>x) (fun _=>true) (fun x=>Dk H W f A x) (fun x=>[some x,some (bD H W f),some (.int (A:Nat))]) ?_ (by unfold sizeLine;omega) (fun x _=>rfl) (fun x hx h' s'=>.ok) (fun x hx _ h' s'=>?_) fun l7 h7 s7 e7=>?_
 ·simp
  refine An (Hd el) ?_
  simp [Sm.refl]
  exact fun h2 s2=>G1 (s2 _ _ el)
 ·simp [Pu]
  rw [bD]
  refine An (RO (by simp;omega)) ?_
  simp
  refine An (CW (by simp;omega)) ?_
  simp
  refine An (RP (k:=A) (by omega) (by simp;omega)) ?_
  simp
  refine An (CW (by simp;omega)) ?_
  simp [Dk,Sm.refl]
 rw [DG] at e7
 refine Eq.mpr (Aj) ?_
 simp [-Aj,JZ hh.1]
 obtain ⟨R,eR,lR,pR⟩:∃R:List D,bD H W f=.tup R∧R.length=H∧∀x∈R,∀h,Plain2 h x:=⟨_,rfl,by simp,fun x hx h=>by
  simp only [qaL] at hx
  obtain ⟨j,_,rfl⟩:=hx
  exact Me⟩
 rw [eR]
 refine An (OP) ?_
 refine AX (by unfold sizeLine;omega) fun l8 h8 s8 e8 _ _=>?_
 rw [show (9:Int)=((9:Nat):Int) from rfl]
 refine An (RN (by simp) (by simp)) ?_
 try simp [-Aj]
 refine An (CW (by simp;omega)) ?_
 rw [Bz]
 refine AX (by simp) fun l9 h9 s9 e9 _ _=>?_
 try simp [-Aj]
 refine An (Fv (s9 _ _ (s8 _ _ e7)) e9) ?_
 refine AX (by simp;unfold sizeLine;omega) fun l10 h10 s10 e10 el10 _=>?_
 have s:=((s7.trans s8).trans s9).trans s10
 obtain ⟨L,eL,lL,nL⟩:∃L:List D,h10[l10]?=some (.lst L)∧L.length=ds.length+10∧∀d∈L,NoB h10 d:=by
  have s8':=s9.trans s10
  have pl:∀x∈R,Plain2 h10 x:=fun x hx=>pR x hx h10
  have flat:∀{x:D},Plain h10 x→AI x=[]→B9 x=false→NoB h10 x:=fun p e l=>⟨FU p e,SZ l⟩
  refine ⟨_,e10,by simp,CY (fun d hm=>?_) <| all_cons (flat ⟨_,s8' _ _ e8⟩ rfl rfl) <| all_cons (.tup (all_cons ⟨trivial,fun y hy=>(pl y hy).1⟩ AV) (ON (x:=.tup R) A0 (by rw [←eR];exact ZaS hh.1))) <|
   all_cons (.tup (fun x hx=>?_) (SZ (S3 (by simp)))) <| all_cons (.tup (CY pl (all_cons (E5 trivial rfl) AV)) (ON (x:=.tup []) (by simp) rfl)) <|
   all_cons ⟨⟨trivial,fun x hx=>?_⟩,ZaT hw.1⟩ <| all_cons (flat trivial rfl rfl) <| all_cons (flat trivial rfl rfl) <| all_cons (flat trivial rfl rfl) <| all_cons (flat trivial rfl rfl) <| all_cons (flat trivial rfl rfl) AV⟩
  ·obtain ⟨x,hx1,ex⟩:=qaL.mp hm
   rw [←ex]
   have:=(hn x hx1).sm s
   exact ⟨ZaQ this.1,ZaR hA this⟩
  ·rw [show x=_ from My (n:=9) hx]
   exact Me
  ·obtain ⟨j,_,rfl⟩:=qaL.mp hx
   exact E5 trivial rfl
 refine Eq.mpr (Aj) ?_
 try simp [-Aj]
 refine An (Rj eL) ?_
 try simp [-Aj]
 refine D3 (hx.sm s) hb (ht.sm s) (by omega) (by omega) fun d h11 ld x11 t11 s11=>?_
 have n10:l10≠b:=by have:=(((hx.sm s7).sm s8).sm s9).lt;omega
 have hd:d<L.length:=by omega
 refine An (EJ (s11 _ _ n10 eL) (A6 hd)) ?_
 exact q _ _ ((nL _ (F5 hd)).smx s11 x11) x11 t11 ((Cp s).trans s11)
theorem ZaZ {b H W:Nat} {f:Nat→Nat→Bool} {h:HD} {Q:D→HD→Prop} (hx:BoxAt h b) (hb:0<b) (ht:TabAt h) (hh:1≤H∧H≤8) (hw:1≤W∧W≤8) (q:∀d h',NoB h' d→BoxAt h' b→TabAt h'→Smx b h h'→Q d h'):Wp (EZ [.loc b,bD H W f] h) Q:=by
 change Wp (AA 8 (OC AB) [.loc b,bD H W f] h) _
 refine Eq.mpr (Bs) ?_
 simp [-Aj,GF,JZ hh.1,Mg]
 refine D3 hx hb ht (by omega) (by omega) fun A h1 lA x1 t1 s1=>?_
 refine D3 x1 hb t1 (by omega) (by omega) fun B h2 lB x2 t2 s2=>?_
 have hA:A<H:=by omega
 have hB:B<W:=by omega
 try simp [-Aj]
 refine Eq.mpr (Aj) ?_
 try simp [-Aj,SW]
 refine AX (by simp) fun l3 h3 s3 e3 el3 _=>?_
 try simp [-Aj]
 refine AX (by simp) fun l4 h4 s4 e4 el4 _=>?_
 have x4:BoxAt h4 b:=(x2.sm s3).sm s4
 have t4:TabAt h4:=(t2.sm s3).sm s4
 have n3:l3≠b:=by have:=x2.lt;omega
 have n4:l4≠b:=by have:=(x2.sm s3).lt;omega
 try simp [-Aj]
 refine D3 x4 hb t4 (by decide) (by decide) fun o h5 l2 x5 t5 s5=>?_
 have e4':=s5 _ _ n4 e4
 have e3':=s5 _ _ n3 (s4 _ _ e3)
 obtain ⟨y,ey,py,ly⟩:=OO (fun y=>Plain h5 y∧DY y=false) (o:=o) e4' (by simp;omega) <| all_cons ⟨trivial,rfl⟩ <| all_cons ⟨trivial,rfl⟩ <| all_cons ⟨trivial,rfl⟩ <| all_cons ⟨trivial,rfl⟩ <| all_cons ⟨trivial,rfl⟩ <| all_cons ⟨trivial,rfl⟩ <| all_cons ⟨trivial,rfl⟩ <| all_cons ⟨trivial,by decide⟩ <| all_cons ⟨⟨_,e3'⟩,rfl⟩ <| all_cons ⟨trivial,rfl⟩ AV
 refine An (ey) ?_
 rw [Bz]
 refine Eq.mpr (Aj) ?_
 try simp [-Aj]
 refine An (SY hA) ?_
 rw [Bz]
 refine Eq.mpr (Aj) ?_
 have S:Smx b h h5:=(((s1.trans s2).trans (Cp s3)).trans (Cp s4)).trans s5
 clear ey
 generalize hr:f A=r
 obtain ⟨R,eR,lR,pR⟩:∃R:List D,AM W r=.tup R∧R.length=W∧∀x∈R,∀h,Plain h x:=⟨_,rfl,by simp,fun x hx h=>ZaW hx⟩
 rw [eR]
 try simp [-Aj]
 refine An (RO (by omega)) ?_
 try simp [-Aj]
 refine An (CW (by simp;omega)) ?_
 try simp [-Aj]
 refine An (RP (k:=B) (by omega) (by omega)) ?_
 try simp [-Aj]
 refine An (CW (by simp;omega)) ?_
 rw [Bz]
 refine Eq.mpr (Aj) ?_
 try simp [-Aj]
 rw [show (8:Int)=((8:Nat):Int) from rfl]
 refine An (RN (by simp) (by simp)) ?_
 try simp [-Aj]
 refine An (CW (by simp;omega)) ?_
 rw [Bz]
 refine An (OP) ?_
 refine AX (by unfold sizeLine;omega) fun l6 h6 s6 e6 _ _=>?_
 refine AX (by simp) fun l7 h7 s7 e7 _ _=>?_
 refine Eq.mpr (Aj) ?_
 have hS7:Smx b h h7:=(S.trans (Cp s6)).trans (Cp s7)
 have x7:=(x5.sm s6).sm s7
 have t7:=(t5.sm s6).sm s7
 have py7:Plain h7 y:=(py.sm s6).sm s7
 have base:∀d∈[D.tup (List.take B R++y::List.drop (B+1) R),D.tup (List.take B R++y::List.drop (B+1) R),D.tup (List.take B R++y::List.drop (B+1) R),D.tup (R++[D.int 0,D.int 0,D.int 0,D.int 0,D.int 0,D.int 0,D.int 0,D.int 0]),D.tup [],D.loc l6,D.non,D.int 1],NoRowD h7 H W d:=by
  have pt:∀ds:List D,(∀x∈ds,Plain h7 x)→B0 (.tup ds)=false→NoRowD h7 H W (.tup ds):=fun ds hd hr=>⟨⟨trivial,hd⟩,.inl hr⟩
  have bent:NoRowD h7 H W (.tup (List.take B R++y::List.drop (B+1) R)):=by
   refine pt _ (fun x hx=>?_) (ZaU (x:=y) (by simp) ly)
   rcases qaP.mp hx with z |z
   ·exact pR x (En z) _
   ·rcases qa5.mp z with z |z
    ·exact z ▸ py7
    ·exact pR x (Fb z) _
  refine all_cons bent <| all_cons bent <| all_cons bent <| all_cons (pt _ (CY (fun x z=>pR x z _) fun x hx=>?_) (ZaV (S3 (by simp;omega)))) <| all_cons (pt _ AV rfl) <| all_cons ⟨E5 ⟨_,s7 _ _ e6⟩ rfl,.inl rfl⟩ <| all_cons ⟨E5 trivial rfl,.inl rfl⟩ <| all_cons ⟨E5 trivial rfl,.inl rfl⟩ AV
  rw [show x=_ from My (n:=8) hx]
  exact trivial
 refine Eq.mpr (B8) ?_
 by_cases h1:1<H
 ·have h1':(1:Int)<(H:Int):=by omega
  simp [-Aj,GF,h1',h1]
  refine An (Yt (by omega)) ?_
  try simp [-Aj]
  refine An (CW (by simp;omega)) ?_
  try simp [-Aj]
  refine AX (by simp) fun l8 h8 s8 e8 _ _=>?_
  try simp [-Aj]
  refine An (Fv (s8 _ _ e7) e8) ?_
  refine AX (by simp) fun l9 h9 s9 e9 _ _=>?_
  refine Eq.mpr (Aj) ?_
  have s79:=s8.trans s9
  refine S4 (x7.sm s79) hb (t7.sm s79) hh hw hA ⟨_,e9,by simp,fun d hd=>?_⟩ fun d h' n x t s'=>q d h' n x t ((hS7.trans (Cp s79)).trans s')
  rcases qaP.mp hd with z |z
  ·exact (base d z).sm s79
  ·simp only [qa5,Do,or_false] at z
   rcases z with rfl |rfl
   ·refine ⟨⟨trivial,fun x hx=>pR x (En hx) _⟩,.inr ⟨h1,?_⟩⟩
    simp [DZ,AI]
    omega
   ·refine ⟨⟨trivial,fun x hx=>?_⟩,.inr ⟨h1,?_⟩⟩
    ·rcases qaP.mp hx with z |z
     ·exact pR x z _
     ·simp only [qa5,Do,or_false] at z
      subst z
      exact trivial
    ·simp [DZ,AI]
     omega
 ·have h1':¬(1:Int)<(H:Int):=by omega
  simp [-Aj,GF,h1',h1]
  refine Eq.mpr (Aj) ?_
  exact S4 x7 hb t7 hh hw hA ⟨_,e7,by simp,base⟩ fun d h' n x t s'=>q d h' n x t (hS7.trans s')
theorem Smx.over {a b:Nat} {h h1 h2:HD} (s:Smx b h h1) (s2:Smx a h1 h2) (hl:h.length≤a):Smx b h h2:=fun l c n e=>s2 l c (by have:=(qa6.mp e).1;omega) (s l c n e)
theorem Smx.put {a b:Nat} {c:DE} {h h1:HD} (s:Smx b h h1) (hl:h.length≤a):Smx b h (h1.set a c):=fun l x n e=>by
 rw [BW (by have:=(qa6.mp e).1;omega)]
 exact s l x n e
theorem Smx.new {b:Nat} {c:DE} {h h1:HD} (s:Smx b h h1):Smx b h (h1++[c]):=s.trans (Cp (.app _ _))
theorem Smx.len {b:Nat} {h h':HD} (s:Smx b h h') (hb:b<h'.length):h.length≤h'.length:=by
 cases e:h.length with
 |zero=>exact BU _
 |succ n=>
  have hn:n<h.length:=by omega
  by_cases hz:n=b
  ·omega
  ·have:=s n h[n] hz (A6 hn)
   have:=(qa6.mp this).1
   omega
inductive S5 (b:Nat) (h1:HD) (xs:List Nat) (ρ:Ai) (h':HD):Prop where
 |mk (N M:Int) (x:Option D) (f0:ρ=[some (.loc b),some (.int N),some (.int M),x]) (f1:h'=h1):S5 b h1 xs ρ h'
theorem S6 {b:Nat} {h:HD} {Q:D→HD→Prop} (hx:BoxAt h b) (q:∀l h',BoxAt h' b→BoxAt h' l→l≠b→h.length≤l→Smx b h h'→Q (.loc l) h'):Wp (CG [.loc b] h) Q:=by
 change Wp (AA 4 (OB AB) [.loc b] h) _
 refine Eq.mpr (Bs) ?_
 simp
 refine GD hx (by decide) (by decide) fun d h1 d0 d1 x1 s1=>?_
 refine Ef (src:=[]) (xs:=List.range 24) (fun i=>.int ((i:Nat):Int)) (S5 b h1) ?_ (fun ys ρ h' _=>CN) ?_ ?_
 ·simp [SH]
  exact ⟨_,_,_,rfl,rfl⟩
 ·rintro x xs ρ h' ⟨N,M,y,rfl,rfl⟩
  refine ⟨_,rfl,?_⟩
  simp
  rw [K8 (by decide) (by decide)]
  simp
  rw [G6 (by decide)]
  simp
  rw [K8 (by decide) (by decide)]
  simp [Ds]
  exact ⟨_,_,_,rfl,rfl⟩
 ·rintro ρ h' ⟨N,M,y,rfl,rfl⟩
  simp
  refine AX (by simp) fun l h2 s e el _=>?_
  exact q l h2 (x1.sm s) ⟨_,e⟩ (by have:=x1.lt;omega) (by have:=s1.len x1.lt;omega) (s1.trans (Cp s))
theorem Za0 {W:Nat} {rows:List (Nat→Bool)} {H:Nat} (e:rows.length=H):D.tup (rows.map (AM W))=bD H W fun i=>rows.getD i fun _=>false:=by
 unfold bD
 congr 1
 apply List.ext_getElem
 ·simp [e]
 ·intro i h1 h2
  simp at h1 h2
  simp [E9,A6 h1]
inductive S7 (b H W:Nat) (way dense:Int) (l2 l3:Nat) (h:HD) (xs:List Nat) (ρ:Ai) (h':HD):Prop where
 |mk (x:Option D) (rows:List (Nat→Bool)) (f0:ρ=[some (.loc b),some (.int (H:Nat)),some (.int (W:Nat)),some (.int way),some (.loc l2),some (.int dense),some (.loc l3),x]) (f1:BoxAt h' b) (f2:BoxAt h' l2) (f3:h'[l3]?=some (.lst (rows.map (AM W)))) (f4:rows.length+xs.length=H) (f5:Smx b h h'):S7 b H W way dense l2 l3 h xs ρ h'
inductive S8 (b W l2 l3:Nat) (rows:List (Nat→Bool)) (h h':HD):Prop where
 |mk (f1:BoxAt h' b) (f2:BoxAt h' l2) (f3:h'[l3]?=some (.lst (rows.map (AM W)))) (f4:Smx b h h'):S8 b W l2 l3 rows h h'
theorem S9 {b H W:Nat} {h:HD} {Q:D→HD→Prop} (hx:BoxAt h b) (hh:1≤H∧H≤8) (hw:1≤W∧W≤8) (q:∀f h',BoxAt h' b→Smx b h h'→Q (bD H W f) h'):Wp (DX [.loc b,.int (H:Nat),.int (W:Nat)] h) Q:=by
 change Wp (AA 8 (OF AB CG) [.loc b,.int (H:Nat),.int (W:Nat)] h) _
 refine Eq.mpr (Bs) ?_
 simp [-Aj]
 refine GD hx (by decide) (by decide) fun way h1 d0 d1 x1 z1=>?_
 simp [-Aj,Aj (g:=Al (Ay 4 _) _)]
 refine S6 x1 fun l2 h2 x2 y2 n2 k2 z2=>?_
 have kl2:h.length≤l2:=by have:=z1.len x1.lt;omega
 refine Eq.mpr (Aj) ?_
 simp [-Aj]
 refine AX (by simp) fun l h3 s3 e3 el3 _=>?_
 obtain ⟨dense,ed⟩:∃dense:Int,Au (.loc l) (.int way) h3=.ok (.int dense) h3:=by
  obtain ⟨w,rfl⟩:∃w:Nat,way=(w:Int):=⟨way.toNat,by omega⟩
  obtain ⟨y,ey,z,rfl⟩:=OO (fun y=>∃i,y=.int i) (o:=w) e3 (by simp;omega) <| all_cons ⟨_,rfl⟩ <| all_cons ⟨_,rfl⟩ <| all_cons ⟨_,rfl⟩ <| all_cons ⟨_,rfl⟩ <| all_cons ⟨_,rfl⟩ AV
  exact ⟨z,ey⟩
 refine An (ed) ?_
 rw [Bz]
 refine Eq.mpr (Aj) ?_
 simp [-Aj]
 refine AX (by simp) fun l3 h4 s4 e4 el4 _=>?_
 have x4:BoxAt h4 b:=(x2.sm s3).sm s4
 have y4:BoxAt h4 l2:=(y2.sm s3).sm s4
 have z4:Smx b h h4:=((z1.trans z2).trans (Cp s3)).trans (Cp s4)
 have kl3:h.length≤l3:=by have:=(z1.trans z2).len x2.lt;have:=s3.len;omega
 have n3:l3≠b:=by
  obtain ⟨n,e⟩:=x2.sm s3
  have:=(qa6.mp e).1
  omega
 have n4:l3≠l2:=by
  obtain ⟨n,e⟩:=y2.sm s3
  have:=(qa6.mp e).1
  omega
 refine Eq.mpr (Aj) ?_
 simp [-Aj]
 refine Ef (src:=[]) (xs:=List.range H) (fun i=>.int ((i:Nat):Int)) (S7 b H W way dense l2 l3 h) ?_ (fun ys ρ h' _=>CN) ?_ ?_
 ·simp [Fq (show H≤1000 by omega)]
  exact ⟨_,[],rfl,x4,y4,e4,by simp,z4⟩
 ·rintro x xs ρ h' ⟨y,rows,rfl,x5,y5,e5,hl,z5⟩
  refine ⟨_,rfl,?_⟩
  simp [G5 e5]
  refine WY (src:=[]) (xs:=List.range W) (fun i=>.int ((i:Nat):Int)) (S8 b W l2 l3 rows h) (fun _ b=>b=true) (fun i d=>∃r:Bool,d=lit r) (fun i=>[some (.int ((i:Nat):Int)),some (.loc l2),some (.int dense)]) ?_ (fun _ _=>CN) (fun h c x=>by obtain ⟨a1,a2,a3,a4⟩:=x;exact ⟨a1.new,a2.new,Sm.app _ _ _ _ a3,a4.new⟩) List.nodup_range (sz hw.2) (fun x _=>rfl) ?_ ?_
  ·simp [Fq (show W≤1000 by omega)]
   exact ⟨x5,y5,e5,z5⟩
  ·intro x hx h i
   simp
   obtain ⟨a1,a2,a3,a4⟩:=i
   refine GD a2 (by decide) (by decide) fun d h1 d0 d1 x1 s1=>?_
   simp only [Bz,WK,Nq,WO,Gu,QL,QN,WQ]
   exact ⟨⟨a1.smx s1 (Ne.symm n2),x1,s1 _ _ n4 a3,a4.over s1 kl2⟩,by cases decide (d<dense)<;>simp [lit]⟩
  ·intro h6 g e x6 hr tr
   obtain ⟨x61,x62,x63,x64⟩:=x6
   have hr':∃r:Nat→Bool,∀x∈List.range W,e x=lit (r x):=by
    refine ⟨fun x=>if h:x∈List.range W then (hr x h (tr x h)).choose else false,fun x hx=>?_⟩
    simp only [dif_pos hx]
    exact (hr x hx (tr x hx)).choose_spec
   obtain ⟨r,er⟩:=hr'
   have ef:(List.range W).filter g=List.range W:=List.filter_eq_self.mpr tr
   have em:D.tup (((List.range W).filter g).map e)=AM W r:=by
    rw [ef];unfold AM;congr 1;exact GI er
   rw [em]
   simp [K6 x63 (show (rows.map (AM W)).length<sizeLine by simp;unfold sizeLine;omega),Ds]
   have hl3:l3<h6.length:=(qa6.mp x63).1
   refine ⟨_,rows++[r],rfl,?_,?_,?_,?_,x64.put kl3⟩
   ·obtain ⟨n,e⟩:=x61
    exact ⟨n,by rw [BW n3];exact e⟩
   ·obtain ⟨n,e⟩:=x62
    exact ⟨n,by rw [BW n4];exact e⟩
   ·rw [CZ hl3]
    simp
   ·simp at hl ⊢
    omega
 ·rintro ρ h' ⟨y,rows,rfl,x5,y5,e5,hl,z5⟩
  simp at hl
  simp
  by_cases h3:way=3
  ·simp [h3]
   obtain ⟨r0,rest,rfl⟩:∃r0 rest,rows=r0::rest:=by
    cases rows with
    |nil=>simp at hl;omega
    |cons a r=>exact ⟨a,r,rfl⟩
   rw [show (0:Int)=((0:Nat):Int) from rfl]
   refine An (EJ e5 (k:=0) (a:=AM W r0) rfl) ?_
   simp
   refine AX (by simp) fun l5 h5 s5 e6 _ _=>?_
   refine An (Ym) ?_
   refine An (Xo e6 (by omega)) ?_
   refine AX (by simp;unfold sizeLine;omega) fun l6 h6 s6 e7 _ _=>?_
   simp [JF e7]
   have:D.tup (List.replicate H (AM W r0))=bD H W fun _=>r0:=by
    unfold bD
    congr 1
    apply List.ext_getElem
    ·simp
    ·intro i h1 h2;simp
   rw [this]
   exact q _ _ ((x5.sm s5).sm s6) ((z5.trans (Cp s5)).trans (Cp s6))
  ·simp [h3,JF e5]
   rw [Za0 hl]
   exact q _ _ x5 z5
def J0 (c:Str):List V:=[.bl (Bm c "NoBoard"),.bl (Bm c "NoLine"),.bl (Bm c "NoSwitching"),.bl (Bm c "NoNumber"),.bl (Bm c "Unlike"),.bl (Bm c "NoNet"),.bl (Bm c "NoPlace"),.bl (Bm c "NoText"),.bl (Bm c "NoRow"),.bl (Bm c "TooMany")]
def Za1:List D:=[.str "board",.str "line",.str "switching",.str "number",.str "unlike",.str "net",.str "place",.str "text",.str "row"]
theorem Ta {c w t:Str} {j:Nat} {h:HD} (hc:c∈excNames) (hn:He (.bl true) (J0 c)=1) (h9:Bm c "TooMany"=false) (hj:Ln (.bl true) (J0 c)=some j) (hw:Za1[j]?=some (.str w)) (hz:((("! ":String):Str)).length+w.length≤1000) (ht:((("! ":String):Str))++w=t):Pu (Cf [.exc c []] h) h (.str t):=by
 have i0:∀h,AR (.exc c []) (.glo "NoBoard") h=.ok (.bl (Bm c "NoBoard")) h:=fun h=>Ce hc (by decide +kernel)
 have i1:∀h,AR (.exc c []) (.glo "NoLine") h=.ok (.bl (Bm c "NoLine")) h:=fun h=>Ce hc (by decide +kernel)
 have i2:∀h,AR (.exc c []) (.glo "NoSwitching") h=.ok (.bl (Bm c "NoSwitching")) h:=fun h=>Ce hc (by decide +kernel)
 have i3:∀h,AR (.exc c []) (.glo "NoNumber") h=.ok (.bl (Bm c "NoNumber")) h:=fun h=>Ce hc (by decide +kernel)
 have i4:∀h,AR (.exc c []) (.glo "Unlike") h=.ok (.bl (Bm c "Unlike")) h:=fun h=>Ce hc (by decide +kernel)
 have i5:∀h,AR (.exc c []) (.glo "NoNet") h=.ok (.bl (Bm c "NoNet")) h:=fun h=>Ce hc (by decide +kernel)
 have i6:∀h,AR (.exc c []) (.glo "NoPlace") h=.ok (.bl (Bm c "NoPlace")) h:=fun h=>Ce hc (by decide +kernel)
 have i7:∀h,AR (.exc c []) (.glo "NoText") h=.ok (.bl (Bm c "NoText")) h:=fun h=>Ce hc (by decide +kernel)
 have i8:∀h,AR (.exc c []) (.glo "NoRow") h=.ok (.bl (Bm c "NoRow")) h:=fun h=>Ce hc (by decide +kernel)
 have i9:∀h,AR (.exc c []) (.glo "TooMany") h=.ok (.bl (Bm c "TooMany")) h:=fun h=>Ce hc (by decide +kernel)
 have iv:∀h,AR (.exc c []) (.ty "ValueError") h=.ok (.bl true) h:=fun h=>RL hc
 change Wp (AA 3 L9 [.exc c []] h) _
 refine Eq.mpr Bs ?_
 simp [-Aj,i0,i1,i2,i3]
 refine AX (by simp) fun l1 h1 s1 e1 _ _=>?_
 refine Eq.mpr Aj ?_
 simp [-Aj,i4,i5,i6,i7]
 refine AX (by simp) fun l2 h2 s2 e2 _ _=>?_
 refine An (Fv (s2 _ _ e1) e2) ?_
 refine AX (by simp) fun l3 h3 s3 e3 _ _=>?_
 refine Eq.mpr Aj ?_
 simp [-Aj,i8,i9]
 refine AX (by simp) fun l4 h4 s4 e4 _ _=>?_
 refine An (Fv (s4 _ _ e3) e4) ?_
 refine AX (by simp) fun l5 h5 s5 e5 _ _=>?_
 refine Eq.mpr Aj ?_
 simp [-Aj,iv,G5 e5]
 refine An ((RM (vs:=J0 c) e5 rfl rfl).trans (by rw [hn])) ?_
 simp [-Aj]
 refine Eq.mpr Aj ?_
 simp [-Aj]
 rw [show (9:Int)=((9:Nat):Int) from rfl]
 refine An (EJ e5 (k:=9) rfl) ?_
 simp [-Aj,h9]
 refine Eq.mpr Aj ?_
 simp [-Aj]
 refine AX (by simp) fun l6 h6 s6 e6 _ _=>?_
 refine Eq.mpr Aj ?_
 simp [G5 (s6 _ _ e5)]
 refine An (Yq (s6 _ _ e5) rfl rfl hj) ?_
 simp only [Bz]
 refine An (EJ e6 hw) ?_
 simp only [Bz]
 refine An (IQ hz) ?_
 exact ⟨congrArg D.str ht,((((s1.trans s2).trans s3).trans s4).trans s5).trans s6⟩
theorem p_kind_board {h:HD}:Pu (Cf [.exc "NoBoard" []] h) h (.str "! board"):=Ta (w:="board") (j:=0) (by decide +kernel) (by decide +kernel) (by decide +kernel) (by decide +kernel) rfl (by decide +kernel) (by decide +kernel)
theorem Za2 {cs:List Nat} {f:ME} {ρ:Ai} {h:HD} {ds:List D} {Q:D→HD→Prop} (ht:TabAt h) (hd:A2 (cs.map fun j=>(ρ[j]?).join)=some ds) (he:Er (f (ds.map some) h) h "NoBoard")
 (q:∀h',Sm h h'→Q (.str "! board") h'):Wp (DW cs Cf f ρ h) Q:=
 Lz ht hd (he.we fun h' s=>⟨by decide +kernel,[],rfl,p_kind_board.wp fun h2 s2=>q h2 (s.trans s2)⟩)
theorem OQ {i:Int} {h:HD}:B6 [.int i] h=.ok (.bl true) h:=rfl
def E6 (n:Nat):Int→List D→Bool
 |_,[]=>true
 |last,.int i::ds=>decide (last<i∧i<(n:Int))&&E6 n i ds
 |_,_::_=>false
def Em (n:Nat) (d:D):Bool:=match d with
 |.tup ds=>E6 n (-1) ds
 |_=>false
theorem OR {n:Nat} {last:Int} {x:D} {xs:List D} (h:E4 x=false):E6 n last (x::xs)=false:=by
 cases x<;>first |rfl |(cases h)
inductive Tb (ds:List D) (n:Nat) (h:HD) (xs:List D) (ρ:Ai) (h':HD):Prop where
 |mk (last:Int) (x:Option D) (f0:ρ=[some (.tup ds),some (.int (n:Nat)),some (.int last),x]) (f1:h'=h) (f2:E6 n last xs=E6 n (-1) ds) (f3:∀y∈xs,Plain h y):Tb ds n h xs ρ h'
theorem Za3 {d:D} {n:Nat} {h:HD} (p:Plain2 h d):Pu (FA [d,.int (n:Nat)] h) h (.bl (Em n d)):=by
 change Wp (AA 4 (Oz B6) [d,.int (n:Nat)] h) _
 refine Eq.mpr Bs ?_
 cases hT:D0 d with
 |true=>
  obtain ⟨ds,rfl⟩:=GE hT
  simp
  refine Ef (src:=[]) (xs:=ds) (fun x=>x) (Tb ds n h) ?_ (fun ys ρ h' _=>CN) ?_ ?_
  ·simp
   exact ⟨-1,_,rfl,rfl,rfl,p.2⟩
  ·rintro x xs ρ h' ⟨last,y,rfl,rfl,e,pl⟩
   refine ⟨_,rfl,?_⟩
   have px:=pl x A0
   cases hx:E4 x with
   |false=>
    simp [OL px,hx,Ds,Sm.refl]
    rw [OR hx] at e
    simp [Em,←e]
   |true=>
    obtain ⟨i,rfl⟩:=HM hx
    by_cases h1:last<i
    ·by_cases h2:i<(n:Int)
     ·simp [OQ,h1,h2,AD,Ds]
      exact ⟨i,_,rfl,rfl,by rw [←e];simp [E6,h1,h2],fun y hy=>pl y (A5 _ hy)⟩
     ·simp [OQ,h1,h2,AD,Ds,Sm.refl]
      simp [Em,←e,E6,h1,h2]
    ·simp [OQ,h1,AD,Ds,Sm.refl]
     simp [Em,←e,E6,h1]
  ·rintro ρ h' ⟨last,y,rfl,rfl,e,_⟩
   simp [Sm.refl,Em,←e,E6]
 |false=>
  have e:Em n d=false:=by cases d<;>first |rfl |cases hT
  simp [JY p.1,hT,e,Sm.refl]
def B3 (n:Nat) (p:Nat→Bool):D:=.tup (((List.range n).filter p).map fun i=>.int ((i:Nat):Int))
section
variable {H W n:Nat} {h:HD} {f:Nat→Nat→Bool} {r p q p' q':Nat→Bool}
theorem Za4 {k:Nat} (hk:k<n):((List.range n).filter p).contains k=p k:=by
 rw [qbE]
 simp [hk]
theorem Tc {neg:Bool} {k:Nat} (hk:k<n):Gh neg (.int (k:Nat)) (B3 n p) h=.ok (.bl (if neg then !p k else p k)) h:=by
 unfold B3
 rw [WU,Za4 hk]
end
def RpX (b:Nat) (h:HD) (c:Bool) (n L:Nat) (d:D):Prop:=True
section
variable {b:Nat} {h h':HD} {c:Bool} {n n' L L':Nat} {d:D} {i:Int}
theorem D7 (k:Nat) {ds:List D} (hd:∀d∈ds,RpX b h c n L d) (hk:ds.length≤k):RpX b h c (n+1) (k*(L+2)+3) (.tup ds):=trivial
theorem Mh {l:Nat} (k:Nat) {ds:List D} (hl:l≠b) (el:h[l]?=some (.lst ds)) (hd:∀d∈ds,RpX b h false n L d) (hk:ds.length≤k):RpX b h false (n+1) (k*(L+2)+3) (.loc l):=trivial
theorem A9 (x:RpX b h c n L d) (hn:n≤n') (hl:L≤L'):RpX b h c n' L' d:=trivial
theorem RpX.smx (x:RpX b h c n L d) (s:Smx b h h'):RpX b h' c n L d:=trivial
theorem Cq (h1:0≤i) (h2:i<100):RpX b h c 0 3 (.int i):=trivial
theorem OT {v:Bool}:RpX b h c 0 5 (.bl v):=trivial
theorem OU:RpX b h c 0 5 .non:=trivial
theorem Za5 {x:Str} (hx:(PyData.shown (.str x)).length≤L):RpX b h c 0 L (.str x):=trivial
theorem Td (h1:PyData.showable (.int i)=true) (hx:(PyData.shown (.int i)).length≤L):RpX b h c 0 L (.int i):=trivial
theorem Te:RpX b h true 1 5 .edic:=trivial
theorem J1 {x:Bool}:RpX b h c 0 3 (lit x):=trivial
end
theorem J2 {xs:List D} {k:Nat} {h:HD}:Di (.tup xs) none (some (k:Int)) h=.ok (.tup (xs.take k)) h:=by
 simp only [Di]
 unfold LS.cutD
 rw [HT.sIx_nat,HT.sIx_none,Ko,Nat.sub_zero]
 congr 2
 rcases Nat.le_total k xs.length with z |z
 ·rw [Nat.min_eq_left z]
 ·rw [Nat.min_eq_right z,Ke z,Ke (AO _)]
theorem Mi {xs:List D} {k:Nat} {h:HD}:Di (.tup xs) (some (k:Int)) none h=.ok (.tup (xs.drop k)) h:=by
 simp only [Di]
 unfold LS.cutD
 rw [HT.sIx_nat,HT.sIx_none]
 congr 2
 rcases Nat.le_total k xs.length with z |z
 ·rw [Nat.min_eq_left z,Ke (by simp)]
 ·rw [Nat.min_eq_right z,Nat.sub_self,List.take_zero,List.drop_eq_nil_of_le z]
theorem Mj {xs:List D} {h:HD}:Di (.tup xs) none (some 2) h=.ok (.tup (xs.take 2)) h:=J2 (k:=2)
theorem Za6 {xs:List D} {h:HD}:Di (.tup xs) none (some 1) h=.ok (.tup (xs.take 1)) h:=J2 (k:=1)
theorem Za7 {xs:List D} {h:HD}:Di (.tup xs) (some 1) none h=.ok (.tup (xs.drop 1)) h:=Mi (k:=1)
def Plain4 (h:HD) (d:D):Prop:=Plain h d∧∀x∈AI d,Plain3 h x
theorem Plain4.sm {h h':HD} {d:D} (p:Plain4 h d) (s:Sm h h'):Plain4 h' d:=⟨p.1.sm s,fun x hx=>(p.2 x hx).sm s⟩
theorem Plain4.smx {b:Nat} {h h':HD} {d:D} (p:Plain4 h d) (s:Smx b h h') (x:BoxAt h' b):Plain4 h' d:=⟨p.1.smx s x,fun y hy=>(p.2 y hy).smx s x⟩
def E7 (a b:Int):D→Bool
 |.int i=>decide (a≤i)&&decide (i≤b)
 |_=>false
theorem Tf {a b:Int} {d:D} (h:E4 d=false):E7 a b d=false:=by cases d<;>first |rfl |cases h
theorem Za8 {d:D} {a b:Int} {h:HD} (p:Plain h d):Pu (Cg [d,.int a,.int b] h) h (.bl (E7 a b d)):=by
 cases hw:E4 d with
 |true=>
  obtain ⟨i,rfl⟩:=HM hw
  exact p_is_between_int
 |false=>
  have e:=OL p
  rw [hw] at e
  rw [Tf hw]
  exact SJ e
def Dl (n:Nat):D→Bool
 |.tup [a,b,c]=>Em n (.tup [a,b])&&DY c
 |_=>false
def FE:D→List Int
 |.tup (.int a::.int b::_)=>[a,b]
 |_=>[]
theorem Tg {n:Nat} {ds:List D} (h:ds.length≠3):Dl n (.tup ds)=false:=by
 match ds,h with
 |[],_=>rfl
 |[_],_=>rfl
 |[_,_],_=>rfl
 |_::_::_::_::_,_=>rfl
theorem Th {n:Nat} {d:D} (h:D0 d=false):Dl n d=false:=by cases d<;>first |rfl |cases h
theorem Ti {ds:List D} (h:ds.length=3):∃a b c,ds=[a,b,c]:=by
 match ds,h with
 |[a,b,c],_=>exact ⟨a,b,c,rfl⟩
theorem Za9 {d:D} {n:Nat} {h:HD} (p:Plain2 h d):Pu (FD [d,.int (n:Nat)] h) h (.bl (Dl n d)):=by
 change Wp (AA 2 (OI FA CH) [d,.int (n:Nat)] h) _
 refine Eq.mpr Bs ?_
 cases hT:D0 d with
 |false=>simp [JY p.1,hT,Th hT,Sm.refl]
 |true=>
  obtain ⟨ds,rfl⟩:=GE hT
  by_cases h3:ds.length=3
  ·obtain ⟨a,b,c,rfl⟩:=Ti h3
   have pa:=p.2 a (by simp [AI])
   have pb:=p.2 b (by simp [AI])
   have pc:=p.2 c (by simp [AI])
   simp
   refine An Mj ?_
   simp
   refine (Za3 (d:=.tup [a,b]) ⟨trivial,all_cons pa (all_cons pb AV)⟩).wp fun h1 s1=>?_
   cases hl:Em n (.tup [a,b]) with
   |false=>simp [Dl,hl,s1]
   |true=>
    simp
    refine An (show Au (.tup [a,b,c]) (.int 2) h1=.ok c h1 from rfl) ?_
    simp
    refine (SK (pc.sm s1)).wp fun h2 s2=>?_
    simp [Dl,hl,s1.trans s2]
  ·have e3:¬((ds.length:Int)=3):=by omega
   simp [e3,Tg h3,Sm.refl]
inductive Tj (n:Nat) (t:D):Prop where
 |mk (a b c:Int) (f0:t=.tup [.int a,.int b,.int c]) (f1:0≤a) (f2:a<b) (f3:b<n) (f4:0≤c) (f5:c≤1):Tj n t
theorem OV {n:Nat} {t:D} (h:Dl n t=true):Tj n t:=by
 cases hT:D0 t with
 |false=>rw [Th hT] at h;cases h
 |true=>
  obtain ⟨ds,rfl⟩:=GE hT
  by_cases h3:ds.length=3
  ·obtain ⟨a,b,c,rfl⟩:=Ti h3
   rw [Dl,BR] at h
   obtain ⟨h1,h2⟩:=h
   cases ha:E4 a with
   |false=>rw [show Em n (.tup [a,b])=false from OR ha] at h1;cases h1
   |true=>
    obtain ⟨i,rfl⟩:=HM ha
    unfold Em E6 at h1
    rw [BR,decide_eq_true_eq] at h1
    obtain ⟨h3,h4⟩:=h1
    cases hb:E4 b with
    |false=>rw [OR hb] at h4;cases h4
    |true=>
     obtain ⟨j,rfl⟩:=HM hb
     unfold E6 at h4
     rw [BR,decide_eq_true_eq] at h4
     have h5:=h4.1
     cases hc:E4 c with
     |false=>rw [show DY c=false by cases c<;>first |rfl |cases hc] at h2;cases h2
     |true=>
      obtain ⟨k,rfl⟩:=HM hc
      have h6:(decide (0≤k)&&decide (k≤1))=true:=h2
      rw [BR,decide_eq_true_eq,decide_eq_true_eq] at h6
      exact ⟨i,j,k,rfl,by omega,h5.1,h5.2,h6.1,h6.2⟩
  ·rw [Tg h3] at h;cases h
def FV:List D→Bool
 |x::y::r=>HT.lexLt (FE x) (FE y)&&FV (y::r)
 |_=>true
theorem Tn:∀{ts:List D},((ts.zip (ts.drop 1)).all fun p=>HT.lexLt (FE p.1) (FE p.2))=FV ts
 |[]=>rfl
 |[_]=>rfl
 |x::y::r=>by
  have ih:=Tn (ts:=y::r)
  rw [List.drop_succ_cons,Ko] at ih ⊢
  rw [List.zip_cons_cons,List.all_cons,ih]
  rfl
def Mk:D→Nat
 |.int m=>m.toNat
 |_=>0
def Zba (a b:D):Bool:=match b with
 |.tup ts=>E7 1 8 a&&(ts.all (Dl (Mk a))&&FV ts)
 |_=>false
def Zbb:List D→Bool
 |[a,b]=>Zba a b
 |_=>false
def Dv (d:D):Bool:=match d with
 |.tup ds=>Zbb ds
 |_=>false
theorem To {ds:List D} (h:ds.length≠2):Dv (.tup ds)=false:=by
 match ds,h with
 |[],_=>rfl
 |[_],_=>rfl
 |_::_::_::_,_=>rfl
theorem Tq {d:D} (h:D0 d=false):Dv d=false:=by cases d<;>first |rfl |cases h
theorem Zbc {a b:D} (h:E7 1 8 a=false):Dv (.tup [a,b])=false:=by
 cases b with
 |tup ts=>
  show (E7 1 8 a&&_)=false
  rw [h,Je]
 |_=>rfl
theorem Tr {a b:D} (h:D0 b=false):Dv (.tup [a,b])=false:=by cases b<;>first |rfl |cases h
theorem two_of {ds:List D} (h:ds.length=2):∃a b,ds=[a,b]:=by
 match ds,h with
 |[a,b],_=>exact ⟨a,b,rfl⟩
theorem Ts {a:D} (h:E7 1 8 a=true):∃n:Nat,a=.int (n:Nat)∧1≤n∧n≤8:=by
 cases hw:E4 a with
 |false=>rw [Tf hw] at h;cases h
 |true=>
  obtain ⟨m,rfl⟩:=HM hw
  have h6:(decide (1≤m)&&decide (m≤8))=true:=h
  rw [BR,decide_eq_true_eq,decide_eq_true_eq] at h6
  exact ⟨m.toNat,by congr 1;omega,by omega,by omega⟩
theorem Zbd {f:List Int→List Int→Bool} {a b c d:Int} {h:HD}:LG f (.tup [.int a,.int b]) (.tup [.int c,.int d]) h=.ok (.bl (f [a,b] [c,d])) h:=rfl
theorem Ml {d:D} {h:HD} (p:Plain4 h d) (hz:∀x∈AI d,(AI x).length≤1000):Pu (B2 [d] h) h (.bl (Dv d)):=by
 change Wp (AA 3 (OK Cg FD) [d] h) _
 refine Eq.mpr Bs ?_
 cases hT:D0 d with
 |false=>simp [JY p.1,hT,Tq hT,Sm.refl]
 |true=>
  obtain ⟨ds,rfl⟩:=GE hT
  by_cases h2:ds.length=2
  ·obtain ⟨a,b,rfl⟩:=two_of h2
   have pa:=p.2 a (by simp [AI])
   have pb:=p.2 b (by simp [AI])
   simp
   refine (Za8 pa.1).wp fun h1 s1=>?_
   cases hb:E7 1 8 a with
   |false=>simp [Zbc hb,s1]
   |true=>
    obtain ⟨n,rfl,n1,n2⟩:=Ts hb
    cases hU:D0 b with
    |false=>simp [JY (pb.1.sm s1),hU,Tr hU,s1]
    |true=>
     obtain ⟨ts,rfl⟩:=GE hU
     have lz:ts.length≤1000:=hz (.tup ts) (by simp [AI])
     have lz':ts.length≤sizeLine:=by unfold sizeLine;omega
     have en:Dv (.tup [.int (n:Nat),.tup ts])=(ts.all (Dl n)&&FV ts):=by
      show (E7 1 8 (.int (n:Nat))&&(ts.all (Dl (((n:Nat):Int)).toNat)&&FV ts))=_
      rw [hb,IZ,Bool.true_and]
     simp
     refine Pu.wp (JG (src:=[]) (xs:=ts) (φ:=fun x=>x) (Dl n) (fun x=>[some x,some (.int (n:Nat))]) (by rw [List.map_id'];exact ⟨rfl,.refl _,fun h2 s2=>CN⟩) (fun x _=>rfl) (fun x hx h' s'=>?_) lz') fun h2 s2=>?_
     ·simp [Pu]
      exact Za9 ((pb.2 x hx).sm (s1.trans s'))
     cases ha:ts.all (Dl n) with
     |false=>simp [en,ha,s1.trans s2]
     |true=>
      simp
      refine Pu.wp (JG (src:=[]) (xs:=ts.zip (ts.drop 1)) (φ:=fun p=>.tup [p.1,p.2]) (fun p=>HT.lexLt (FE p.1) (FE p.2)) (fun p=>[some p.1,some p.2]) ?_ (fun x _=>rfl) (fun x hx h' s'=>?_) (by rw [List.length_zip];exact BS (Nat.min_le_left _ _) lz')) fun h3 s3=>?_
      ·simp [CA]
       refine An Za7 ?_
       simp [-List.drop_one]
       refine An (show Li [.tup ts,.tup (ts.drop 1)] h2=.ok ((ts.zip (ts.drop 1)).map fun p=>.tup [p.1,p.2],[]) h2 from ?_) ?_
       ·show Out.ok (ID ts (ts.drop 1),[]) h2=_
        congr 2
        unfold ID
        rw [List.zip,List.map_zipWith]
       ·exact ⟨by rw [List.drop_one],.refl _,fun h2 s2=>CN⟩
      ·have m:=Jb (show (x.1,x.2)∈ts.zip (ts.drop 1) from hx)
       obtain ⟨a1,b1,c1,e1,_⟩:=OV (qaJ.mp ha _ m.1)
       obtain ⟨a2,b2,c2,e2,_⟩:=OV (qaJ.mp ha _ (Fb m.2))
       simp [Pu]
       rw [e1,e2]
       refine An Mj ?_
       simp
       refine An Mj ?_
       simp
       refine An Zbd ?_
       exact ⟨rfl,.refl _⟩
      ·rw [Tn,en,ha,Bool.true_and]
       exact ⟨rfl,(s1.trans s2).trans s3⟩
  ·have e2:¬((ds.length:Int)=2):=by omega
   simp [e2,To h2,Sm.refl]
theorem Zbe {n:Nat} {i j:Int}:Em n (.tup [.int i,.int j])=(decide (-1<i∧i<(n:Int))&&decide (i<j∧j<(n:Int))):=by
 show (decide (-1<i∧i<(n:Int))&&(decide (i<j∧j<(n:Int))&&true))=_
 rw [Bool.and_true]
abbrev AU:=Nat×Nat×Bool
def AK (t:AU):D:=.tup [.int ((t.1:Nat):Int),.int ((t.2.1:Nat):Int),lit t.2.2]
def Bx (n:Nat) (L:List AU):D:=.tup [.int (n:Nat),.tup (L.map AK)]
def J3 (s t:AU):Prop:=s.1<t.1∨(s.1=t.1∧s.2.1<t.2.1)
structure Dm (n:Nat) (L:List AU):Prop where
 n1:1≤n
 n8:n≤8
 ok:∀t∈L,t.1<t.2.1∧t.2.1<n
 so:L.Pairwise J3
 le:L.length≤100
theorem Zbf {s t:AU} (h:J3 s t):HT.lexLt (FE (AK s)) (FE (AK t))=true:=by
 show HT.lexLt [((s.1:Nat):Int),((s.2.1:Nat):Int)] [((t.1:Nat):Int),((t.2.1:Nat):Int)]=true
 rw [HT.lexLt_cons]
 rcases h with h |⟨h1,h2⟩
 ·rw [if_neg (by omega)]
  exact decide_eq_true (by omega)
 ·rw [if_pos (by omega),HT.lexLt_cons,if_neg (by omega)]
  exact decide_eq_true (by omega)
theorem Tt:∀{L:List AU},L.Pairwise J3→FV (L.map AK)=true
 |[],_=>rfl
 |[_],_=>rfl
 |s::t::r,h=>by
  rw [List.pairwise_cons] at h
  show (HT.lexLt (FE (AK s)) (FE (AK t))&&FV ((t::r).map AK))=true
  rw [Zbf (h.1 t A0),Tt h.2]
  rfl
theorem Zbg {n:Nat} {t:AU} (h:t.1<t.2.1∧t.2.1<n):Dl n (AK t)=true:=by
 show (Em n (.tup [.int ((t.1:Nat):Int),.int ((t.2.1:Nat):Int)])&&DY (lit t.2.2))=true
 rw [Zbe,SS,decide_eq_true (by omega),decide_eq_true (by omega)]
 rfl
theorem Zbh {n:Nat} {L:List AU} (k:Dm n L):Dv (Bx n L)=true:=by
 show (E7 1 8 (.int (n:Nat))&&((L.map AK).all (Dl (((n:Nat):Int)).toNat)&&FV (L.map AK)))=true
 rw [Tt k.so,IZ]
 have e1:E7 1 8 (.int (n:Nat))=true:=by
  have:=k.n1;have:=k.n8
  show (decide ((1:Int)≤(n:Int))&&decide ((n:Int)≤8))=true
  rw [decide_eq_true (by omega),decide_eq_true (by omega)]
  rfl
 have e2:(L.map AK).all (Dl n)=true:=by
  rw [qaJ]
  intro d hd
  obtain ⟨t,ht,rfl⟩:=qaL.mp hd
  exact Zbg (k.ok t ht)
 rw [e1,e2]
 rfl
theorem Tu {t:AU} {h:HD}:Plain2 h (AK t):=⟨trivial,all_cons trivial (all_cons trivial (all_cons trivial AV))⟩
theorem Tv {L:List AU} {h:HD}:Plain3 h (.tup (L.map AK)):=⟨trivial,fun x hx=>by
 obtain ⟨t,_,rfl⟩:=qaL.mp hx
 exact Tu⟩
theorem Zbi {n:Nat} {L:List AU} {h:HD}:Plain4 h (Bx n L):=⟨trivial,all_cons (FU trivial rfl) (all_cons Tv AV)⟩
theorem Zbj {n:Nat} {L:List AU} (k:Dm n L):∀x∈AI (Bx n L),(AI x).length≤1000:=all_cons (BU _) (all_cons (by show (L.map AK).length≤1000;rw [Cb];have:=k.le;omega) AV)
theorem Zbk {n:Nat} {L:List AU} {h:HD} (k:Dm n L):Pu (B2 [Bx n L] h) h (.bl true):=Zbh k ▸ Ml Zbi (Zbj k)
theorem Zbl {n:Nat} {L:List AU} {h:HD} (k:Dm n L):Pu (DI [Bx n L] h) h .non:=by
 change Wp (AA 1 (JW B2) [Bx n L] h) _
 refine Eq.mpr Bs ?_
 simp
 refine (Zbk k).wp fun h1 s1=>?_
 simp [s1]
theorem Zbm {d:D} {h:HD} (p:Plain4 h d) (hz:∀x∈AI d,(AI x).length≤1000) (hb:Dv d=false):Er (DI [d] h) h "NoNet":=by
 change We (AA 1 (JW B2) [d] h) _ _
 refine Eq.mpr JM ?_
 simp
 refine (Ml p hz).we fun h1 s1=>?_
 simp [hb,s1,DS]
def D8 (p:Nat→Bool) (t:AU):AU:=(t.1,t.2.1,Bool.xor t.2.2 (Bool.xor (p t.1) (p t.2.1)))
inductive Tw (n:Nat) (L:List AU) (p:Nat→Bool) (h:HD) (l:Nat) (xs:List AU) (ρ:Ai) (h':HD):Prop where
 |mk (done:List AU) (d3 d4 d5:Option D) (f0:ρ=[some (Bx n L),some (B3 n p),some (.loc l),d3,d4,d5]) (f1:L=done++xs) (f2:Sm h h') (f3:h'[l]?=some (.lst (done.map fun t=>AK (D8 p t)))):Tw n L p h l xs ρ h'
theorem Sm.put {h h':HD} {l:Nat} {c:DE} (s:Sm h h') (hl:h.length≤l):Sm h (h'.set l c):=fun k d ek=>by
 have:=(qa6.mp ek).1
 rw [BW (by omega)]
 exact s k d ek
theorem Zbn {n:Nat} {L:List AU} {p:Nat→Bool} {h:HD} (k:Dm n L):Pu (EX [Bx n L,B3 n p] h) h (Bx n (L.map (D8 p))):=by
 change Wp (AA 6 Oy [Bx n L,B3 n p] h) _
 refine Eq.mpr Bs ?_
 simp [-Aj]
 refine AX (by simp) fun l h1 s1 e1 el _=>?_
 refine Eq.mpr Aj ?_
 refine Eq.mpr B8 ?_
 have ix1:∀h,Au (Bx n L) (.int 1) h=.ok (.tup (L.map AK)) h:=fun h=>rfl
 have ix0:∀h,Au (Bx n L) (.int 0) h=.ok (.int (n:Nat)) h:=fun h=>rfl
 refine Ef (src:=[]) (xs:=L) AK (Tw n L p h l) ?_ (fun ys ρ h' _=>CN) ?_ ?_
 ·simp [ix1]
  exact ⟨[],_,_,_,rfl,rfl,s1,e1⟩
 ·rintro t xs ρ h' ⟨done,d3,d4,d5,rfl,eL,s,e⟩
  refine ⟨_,rfl,?_⟩
  have hk:=k.ok t (by rw [eL];simp)
  have ld:done.length≤100:=by have:=k.le;rw [eL,Dw] at this;omega
  simp [G5 e,Tc (show t.1<n by omega),Tc hk.2]
  have ev:∀(Q:D→HD→Prop),Q (lit (Bool.xor t.2.2 (Bool.xor (p t.1) (p t.2.1)))) h'→Wp (As (lit t.2.2) (D.int (if p t.1=true then 1 else 0)) h') fun a h1=>Wp (As a (D.int (if p t.2.1=true then 1 else 0)) h1) fun a h1=>Wp (DF a (D.int 2) h1) Q:=by
   intro Q hQ
   have key:∀a b c:Bool,((if a then 1 else 0:Int)+(if b=true then 1 else 0)+(if c=true then 1 else 0)) % 2=if Bool.xor a (Bool.xor b c) then 1 else 0:=by decide
   have e:=G6 (i:=(if t.2.2 then 1 else 0:Int)+(if p t.1=true then 1 else 0)+(if p t.2.1=true then 1 else 0)) (j:=2) (h:=h') (by decide)
   rw [key] at e
   exact (show Wp (DF (.int ((if t.2.2 then 1 else 0:Int)+(if p t.1=true then 1 else 0)+(if p t.2.1=true then 1 else 0))) (.int 2) h') Q from e ▸ hQ)
  refine ev _ ?_
  try simp
  refine An (K6 e (by rw [Cb];unfold sizeLine;omega)) ?_
  have lm:=(qa6.mp e).1
  simp [Ds]
  refine ⟨done++[t],_,_,_,rfl,by rw [eL];simp,Sm.put s (by omega),?_⟩
  rw [CZ lm,Jd]
  rfl
 ·rintro ρ h' ⟨done,d3,d4,d5,rfl,eL,s,e⟩
  rw [Fd] at eL
  subst eL
  simp [ix0,JF e]
  refine ⟨?_,s⟩
  unfold Bx
  rw [Fe]
  rfl
theorem Zbo {cs:List (Option Nat)} {it:MI} {sg:MG} {f:ME} {ρ:Ai} {h:HD} {src:Bi} {xs:List Nat} {Q:D→HD→Prop} (φ:Nat→D) (I:HD→Prop) (R:Nat→D→Prop) (ρ1:Nat→Ai) (hi:Wp (it ρ h) fun x h'=>x=(xs.map φ,src)∧I h') (hs:∀h,I h→BN src (xs.map φ) h)
 (hnew:∀h c,I h→I (h++[c])) (hd:xs.Nodup) (hn:xs.length≤sizeLine) (hg:∀x∈xs,sg (φ x) (Cz cs ρ)=some (ρ1 x)) (ht:∀x∈xs,∀h,I h→Wp (f (ρ1 x) h) fun y h2=>I h2∧R x y)
 (q:∀l h2 h' (e:Nat→D),I h2→I h'→(∀x∈xs,R x (e x))→h'[l]?=some (.lst (xs.map e))→l=h2.length→Q (.loc l) h'):Wp (Bf cs it sg Bq f ρ h) Q:=by
 unfold Bf
 rw [AD]
 refine Wp.mono hi fun x h1 z5_=>?_
 obtain ⟨ex,i1⟩:=z5_
 subst ex
 rw [if_pos (by simpa using hn),AD]
 refine Wp.mono (Nv φ I (fun _ b=>b=true) R ρ1 hs xs h1 hd i1 hg fun x hx h i=>⟨rfl,ht x hx h i⟩) fun ys h2 z6_=>?_
 obtain ⟨i2,g,e,ey,hr,tr⟩:=z6_
 subst ey
 rw [List.filter_eq_self.mpr tr]
 refine AX (by simpa using hn) fun l h3 s3 e3 el eh=>?_
 exact q l h2 h3 e i2 (by rw [eh];exact hnew _ _ i2) (fun x hx=>hr x hx (tr x hx)) e3 el
theorem Zbp {a n:Nat} {h:HD} (ha:a≤1000) (hn:n≤1000):Jz [.int (a:Int),.int (n:Int)] h=.ok ((List.range (n - a)).map fun k=>D.int ((a:Int)+((k:Nat):Int)),[]) h:=by
 have:((-(2^62):Int)≤(a:Int)∧(a:Int)<2^62)∧(-(2^62):Int)≤(n:Int)∧(n:Int)<2^62:=by omega
 unfold Jz
 simp only
 rw [if_pos this]
 have e:((n:Int) - (a:Int)).toNat=n - a:=by omega
 rw [e]
 simp [Gk]
theorem J4 {n k x:Nat} {xs:List Nat} (h:(List.range n).drop k=x::xs):x=k∧k<n∧xs=(List.range n).drop (k+1):=by
 have hk:k<n:=by
  have:=congrArg List.length h
  simp at this
  omega
 rw [Kd (by simpa using hk)] at h
 simp at h
 exact ⟨h.1.symm,hk,h.2.symm⟩
theorem Mm {n k:Nat} (hk:k≤n) (h:(List.range n).drop k=[]):k=n:=by
 have:=congrArg List.length h
 simp at this
 omega
structure TiesTo (n k j:Nat) (L:List AU):Prop where
 ok:∀t∈L,t.1<t.2.1∧t.2.1<n∧(t.1<k∨(t.1=k∧t.2.1<j))
 so:L.Pairwise J3
 le:L.length≤8*k+j
theorem TiesTo.skip {n k j:Nat} {L:List AU} (x:TiesTo n k j L):TiesTo n k (j+1) L:=⟨fun t ht=>by have:=x.ok t ht;omega,x.so,by have:=x.le;omega⟩
theorem TiesTo.add {n k j:Nat} {c:Bool} {L:List AU} (x:TiesTo n k j L) (h1:k<j) (h2:j<n):TiesTo n k (j+1) (L++[(k,j,c)]):=by
 refine ⟨fun t ht=>?_,?_,?_⟩
 ·rcases qaP.mp ht with ht |ht
  ·have:=x.ok t ht;omega
  ·rw [qaF.mp ht]
   exact ⟨h1,h2,.inr ⟨rfl,Km _⟩⟩
 ·rw [List.pairwise_append]
  refine ⟨x.so,List.pairwise_singleton _ _,fun s hs t ht=>?_⟩
  rw [qaF.mp ht]
  have:=x.ok s hs
  unfold J3
  show s.1<k∨(s.1=k∧s.2.1<j)
  omega
 ·rw [Dw]
  have:=x.le
  simp
  omega
theorem TiesTo.next {n k j:Nat} {L:List AU} (x:TiesTo n k j L) (hj:j≤8):TiesTo n (k+1) 0 L:=⟨fun t ht=>by have:=x.ok t ht;omega,x.so,by have:=x.le;omega⟩
theorem TiesTo.up {n k j:Nat} {L:List AU} (x:TiesTo n k 0 L):TiesTo n k j L:=⟨fun t ht=>by have:=x.ok t ht;omega,x.so,by have:=x.le;omega⟩
inductive NtS (b l2 l4 l5:Nat) (zs:List Int) (h:HD) (L:List AU) (h':HD):Prop where
 |mk (f3:BoxAt h' b) (f4:BoxAt h' l2) (f5:h'[l4]?=some (.lst (zs.map D.int))) (f6:h'[l5]?=some (.lst (L.map AK))) (f7:Smx b h h'):NtS b l2 l4 l5 zs h L h'
inductive Tx (b n l2 l4 l5:Nat) (way:Int) (zs:List Int) (h:HD) (xs:List Nat) (ρ:Ai) (h':HD):Prop where
 |mk (k:Nat) (L:List AU) (d6 d7 d8:Option D) (f0:xs=(List.range n).drop k) (f1:k≤n) (f2:ρ=[some (.loc b),some (.int (n:Nat)),some (.int way),some (.loc l2),some (.loc l4),some (.loc l5),d6,d7,d8]) (f3:NtS b l2 l4 l5 zs h L h') (f4:TiesTo n k 0 L):Tx b n l2 l4 l5 way zs h xs ρ h'
inductive Tz (b n l2 l4 l5:Nat) (way:Int) (zs:List Int) (h:HD) (k:Nat) (xs:List Nat) (ρ:Ai) (h':HD):Prop where
 |mk (m:Nat) (L:List AU) (d7 d8:Option D) (f0:xs=(List.range (n - (k+1))).drop m) (f1:m≤n - (k+1)) (f2:ρ=[some (.loc b),some (.int (n:Nat)),some (.int way),some (.loc l2),some (.loc l4),some (.loc l5),some (.int (k:Nat)),d7,d8]) (f3:NtS b l2 l4 l5 zs h L h') (f4:TiesTo n k (k+1+m) L):Tz b n l2 l4 l5 way zs h k xs ρ h'
structure Ap (b l2 l4 l5:Nat) (h:HD):Prop where
 a1:l2≠b
 a2:l4≠b
 a3:l5≠b
 a4:l4≠l2
 a5:l5≠l2
 a6:l5≠l4
 k2:h.length≤l2
 k5:h.length≤l5
theorem NtS.take {b l2 l4 l5:Nat} {zs:List Int} {h h1 h2:HD} {L:List AU} (ap:Ap b l2 l4 l5 h) (x:NtS b l2 l4 l5 zs h L h1) (y:BoxAt h2 l2) (s:Smx l2 h1 h2):NtS b l2 l4 l5 zs h L h2:=by
 obtain ⟨a1,a2,a3,a4,a5⟩:=x
 exact ⟨a1.smx s (Ne.symm ap.a1),y,s _ _ ap.a4 a3,s _ _ ap.a5 a4,a5.over s ap.k2⟩
theorem NtS.put {b l2 l4 l5:Nat} {zs:List Int} {h h1:HD} {L:List AU} {t:AU} (ap:Ap b l2 l4 l5 h) (x:NtS b l2 l4 l5 zs h L h1):NtS b l2 l4 l5 zs h (L++[t]) (h1.set l5 (.lst (L.map AK++[AK t]))):=by
 obtain ⟨⟨n1,a1⟩,⟨n2,a2⟩,a3,a4,a5⟩:=x
 have lt:=(qa6.mp a4).1
 refine ⟨⟨n1,?_⟩,⟨n2,?_⟩,?_,?_,a5.put ap.k5⟩
 ·rw [BW ap.a3];exact a1
 ·rw [BW ap.a5];exact a2
 ·rw [BW ap.a6];exact a3
 ·rw [CZ lt,Jd];rfl
theorem Zbq {z:Int}:∃c:Bool,D.int (z % 2)=lit c:=by
 rcases Int.emod_two_eq z with e |e
 ·exact ⟨false,by rw [e];rfl⟩
 ·exact ⟨true,by rw [e];rfl⟩
theorem Zbr {z:Int} (h1:0≤z) (h2:z<2):∃c:Bool,D.int z=lit c:=by
 rcases (show z=0∨z=1 by omega) with e |e
 ·exact ⟨false,by rw [e];rfl⟩
 ·exact ⟨true,by rw [e];rfl⟩
theorem Zbs {b n l2 l4 l5 k j:Nat} {way:Int} {zs:List Int} {h h':HD} {L:List AU} {d8:Option D} {Q:Fl×Ai→HD→Prop} (ap:Ap b l2 l4 l5 h) (x:NtS b l2 l4 l5 zs h L h') (t:TiesTo n k j L) (hz:zs.length=n) (hn:n≤8) (hk:k<j) (hj:j<n)
 (q:∀L' c h2,NtS b l2 l4 l5 zs h L' h2→TiesTo n k (j+1) L'→Q (.nx,[some (.loc b),some (.int (n:Nat)),some (.int way),some (.loc l2),some (.loc l4),some (.loc l5),some (.int (k:Nat)),some (.int ((j:Nat):Int)),some (lit c)]) h2):
 Wp ((Al (Ay 8 (Ah AB (Aa (Ab 3) (Aa (mC (.int 2)) (Ad))))) (Al (Bh (Bj (Ag Eh (Ab 2) (mC (.int 0)))) (Ay 8 (Ag DF (Ag As (Ag Au (Ab 4) (Ab 6)) (Ag Au (Ab 4) (Ab 7))) (mC (.int 2)))) (Bo)) (Bh (GQ (Bj (Ag GX (Ah AB (Aa (Ab 3) (Aa (mC (.int 3)) (Ad)))) (mC (.int 0)))) (DM (Bj (Ag B5 (Ab 2) (mC (.int 1)))) (Bj (Fj GV GW (Ab 6) (mC (.int 3)) (Ab 7))))) (EA (Gr (Ab 5) (Ax (Aa (Ab 6) (Aa (Ab 7) (Aa (Ab 8) (Ad))))))) (Bo)))) [some (.loc b),some (.int (n:Nat)),some (.int way),some (.loc l2),some (.loc l4),some (.loc l5),some (.int (k:Nat)),some (.int ((j:Nat):Int)),d8] h') Q:=by
 simp [-Aj]
 have y2:BoxAt h' l2:=by cases x;assumption
 refine GD y2 (by decide) (by decide) fun z h1 z0 z1 x1 s1=>?_
 have X1:=x.take ap x1 s1
 refine Eq.mpr Aj ?_
 refine Eq.mpr B8 ?_
 have two:∀(Q:Fl×Ai→HD→Prop),(∀c:Bool,Q (.nx,[some (.loc b),some (.int (n:Nat)),some (.int way),some (.loc l2),some (.loc l4),some (.loc l5),some (.int (k:Nat)),some (.int ((j:Nat):Int)),some (lit c)]) h1)→
  Wp ((Bh (Bj (Ag Eh (Ab 2) (mC (.int 0)))) (Ay 8 (Ag DF (Ag As (Ag Au (Ab 4) (Ab 6)) (Ag Au (Ab 4) (Ab 7))) (mC (.int 2)))) (Bo)) [some (.loc b),some (.int (n:Nat)),some (.int way),some (.loc l2),some (.loc l4),some (.loc l5),some (.int (k:Nat)),some (.int ((j:Nat):Int)),some (.int z)] h1) Q:=by
  intro Q hQ
  by_cases hw:way=0
  ·subst hw
   have e4:h1[l4]?=some (.lst (zs.map D.int)):=by cases X1;assumption
   have i1:Au (.loc l4) (.int (k:Nat)) h1=.ok (.int (zs[k]'(by omega))) h1:=EJ e4 (by rw [Ca,A6 (by omega)];rfl)
   have i2:Au (.loc l4) (.int ((j:Nat):Int)) h1=.ok (.int (zs[j]'(by omega))) h1:=EJ e4 (by rw [Ca,A6 (by omega)];rfl)
   simp [i1,i2]
   refine An (G6 (by decide)) ?_
   obtain ⟨c,ec⟩:=Zbq (z:=zs[k]'(by omega)+zs[j]'(by omega))
   simp [ec]
   exact hQ c
  ·obtain ⟨c,ec⟩:=Zbr z0 z1
   simp [hw,ec]
   exact hQ c
 refine two _ fun c=>?_
 refine Eq.mpr Aj ?_
 simp
 refine GD (by cases X1;assumption) (by decide) (by decide) fun w h2 w0 w1 x2 s2=>?_
 have X2:=X1.take ap x2 s2
 have e5:h2[l5]?=some (.lst (L.map AK)):=by cases X2;assumption
 have ll:(L.map AK).length<sizeLine:=by
  have:=t.le
  rw [Cb]
  unfold sizeLine
  omega
 have app:=q (L++[(k,j,c)]) c _ (X2.put ap) (t.add hk hj)
 have skp:=q L c h2 X2 t.skip
 have et:D.tup [.int (k:Nat),.int ((j:Nat):Int),lit c]=AK (k,j,c):=rfl
 by_cases hw:0<w
 ·by_cases hy:way=1
  ·by_cases h3:(k:Int)<3
   ·by_cases h4:(3:Int)≤(j:Int)
    ·simp [hw,hy,h3,h4,AD,G5 e5]
     rw [et]
     refine An (K6 e5 ll) ?_
     simp
     rw [hy] at app
     exact app
    ·simp [hw,hy,h3,h4,AD]
     rw [hy] at skp
     exact skp
   ·simp [hw,hy,h3,AD]
    rw [hy] at skp
    exact skp
  ·simp [hw,hy,AD,G5 e5]
   rw [et]
   refine An (K6 e5 ll) ?_
   simp
   exact app
 ·simp [hw]
  exact skp
inductive TB (b l2:Nat) (h h':HD):Prop where
 |mk (f1:BoxAt h' b) (f2:BoxAt h' l2) (f3:Smx b h h'):TB b l2 h h'
theorem Zbt {b:Nat} {h:HD} {Q:D→HD→Prop} (hx:BoxAt h b) (hb:0<b) (ht:TabAt h) (q:∀n L h',Dm n L→BoxAt h' b→TabAt h'→Smx b h h'→Q (Bx n L) h'):Wp (E2 [.loc b] h) Q:=by
 change Wp (AA 9 (OG AB CG) [.loc b] h) _
 refine Eq.mpr Bs ?_
 simp [-Aj]
 refine D3 hx hb ht (by decide) (by decide) fun d1 h1 l1 x1 t1 s1=>?_
 try simp [-Aj]
 refine GD x1 (by decide) (by decide) fun way h2 w0 w1 x2 s2=>?_
 try simp [-Aj]
 obtain ⟨n,en,hn⟩:∃n:Nat,(1:Int)+(d1:Int)=(n:Int)∧1≤n∧n≤8:=⟨1+d1,by omega,by omega,by omega⟩
 rw [en]
 refine Eq.mpr Aj ?_
 simp [-Aj]
 refine S6 x2 fun l2 h3 x3 y3 n2 k2 z3=>?_
 have z03:=(s1.trans s2).trans z3
 have kl2:h.length≤l2:=by have:=(s1.trans s2).len x2.lt;omega
 refine Eq.mpr Aj ?_
 refine Eq.mpr B8 ?_
 refine Eq.mpr JB ?_
 refine Zbo (src:=[]) (xs:=List.range n) (fun i=>.int ((i:Nat):Int)) (TB b l2 h) (fun _ d=>∃z:Int,d=.int z) (fun i=>[some (.int ((i:Nat):Int)),some (.loc l2)]) ?_ (fun _ _=>CN) (fun h c x=>by obtain ⟨a1,a2,a3⟩:=x;exact ⟨a1.new,a2.new,a3.new⟩) List.nodup_range (sz hn.2) (fun x _=>rfl) ?_ fun l4 h4 h5 e i4 i5 hr e4 el4=>?_
 ·simp
  refine An (Fq (by omega)) ?_
  exact ⟨rfl,x3,y3,z03⟩
 ·intro x hx h' i
  obtain ⟨a1,a2,a3⟩:=i
  simp
  refine GD a2 (by decide) (by decide) fun d h6 d0 d1 x6 s6=>?_
  exact ⟨⟨a1.smx s6 (Ne.symm n2),x6,a3.over s6 kl2⟩,d,rfl⟩
 obtain ⟨zs,lz,ez⟩:∃zs:List Int,zs.length=n∧(List.range n).map e=zs.map D.int:=by
  have hr':∃r:Nat→Int,∀x∈List.range n,e x=.int (r x):=⟨fun x=>if h:x∈List.range n then (hr x h).choose else 0,fun x hx=>by simp only [dif_pos hx];exact (hr x hx).choose_spec⟩
  obtain ⟨r,er⟩:=hr'
  exact ⟨(List.range n).map r,by simp,by rw [Fe];exact GI er⟩
 rw [ez] at e4
 obtain ⟨a41,a42,a43⟩:=i4
 obtain ⟨a51,a52,a53⟩:=i5
 have n42:l4≠l2:=by have:=a42.lt;omega
 have n4b:l4≠b:=by have:=a41.lt;omega
 refine Eq.mpr Aj ?_
 simp [-Aj]
 refine AX (by simp) fun l5 h6 s6 e6 el5 _=>?_
 have n5b:l5≠b:=by have:=a51.lt;omega
 have n52:l5≠l2:=by have:=a52.lt;omega
 have n54:l5≠l4:=by have:=(qa6.mp e4).1;omega
 have ap:Ap b l2 l4 l5 h:=⟨n2,n4b,n5b,n42,n52,n54,kl2,by have:=a53.len a51.lt;omega⟩
 refine Eq.mpr Aj ?_
 refine Eq.mpr B8 ?_
 refine Ef (src:=[]) (xs:=List.range n) (fun i=>.int ((i:Nat):Int)) (Tx b n l2 l4 l5 way zs h) ?_ (fun ys ρ h' _=>CN) ?_ ?_
 ·simp
  refine An (Fq (by omega)) ?_
  exact ⟨rfl,0,[],_,_,_,by simp,by omega,rfl,⟨a51.sm s6,a52.sm s6,s6 _ _ e4,e6,a53.trans (Cp s6)⟩,⟨(fun t ht=>nomatch ht),List.Pairwise.nil,BU _⟩⟩
 ·rintro x xs ρ h' ⟨k,L,d6,d7,d8,ex,hk,rfl,st,ti⟩
  obtain ⟨rfl,hk',rfl⟩:=J4 ex.symm
  refine ⟨_,rfl,?_⟩
  refine Ef (src:=[]) (xs:=List.range (n - (x+1))) (fun i=>.int (((x+1:Nat):Int)+((i:Nat):Int))) (Tz b n l2 l4 l5 way zs h x) ?_ (fun ys ρ h' _=>CN) ?_ ?_
  ·simp
   refine An (Zbp (a:=x+1) (by omega) (by omega)) ?_
   exact ⟨by simp,0,L,_,_,by simp,by omega,rfl,st,ti.up⟩
  ·rintro y ys ρ h2 ⟨m,L',d7,d8,ey,hm,rfl,Cr,ti2⟩
   obtain ⟨rfl,hm',rfl⟩:=J4 ey.symm
   refine ⟨_,rfl,?_⟩
   have ej:((x+1:Nat):Int)+((y:Nat):Int)=((x+1+y:Nat):Int):=by omega
   simp only [List.set_cons_succ,List.set_cons_zero]
   rw [ej]
   refine Zbs ap Cr ti2 lz hn.2 (by omega) (by omega) fun L2 c h3 IU ti3=>?_
   simp only [Ds]
   exact ⟨y+1,L2,_,_,rfl,by omega,rfl,IU,by rw [←Nat.add_assoc];exact ti3⟩
  ·rintro ρ h2 ⟨m,L',d7,d8,ey,hm,rfl,Cr,ti2⟩
   simp only [Ds]
   exact ⟨x+1,L',_,_,_,rfl,by omega,rfl,Cr,ti2.next (by omega)⟩
 ·rintro ρ h' ⟨k,L,d6,d7,d8,ex,hk,rfl,st,ti⟩
  have:=Mm hk ex.symm
  subst this
  obtain ⟨b1,b2,b3,b4,b5⟩:=st
  simp [JF b4]
  refine q k L h' ⟨hn.1,hn.2,fun t ht=>by have:=ti.ok t ht;omega,ti.so,by have:=ti.le;omega⟩ b1 (ht.smx b5 hb) b5
def XOk (b:Nat) (h:HD) (x:D):Prop:=Plain2 h x∧∃c,RpX b h c 2 300 x
def ThN (b:Nat) (h:HD) (d:D):Prop:=Plain4 h d∧(∀x∈AI d,(AI x).length≤1000)∧∃c,RpX b h c 5 1000000 d
theorem XOk.sm {b:Nat} {h h':HD} {x:D} (z:XOk b h x) (s:Sm h h'):XOk b h' x:=⟨z.1.sm s,let ⟨c,y⟩:=z.2;⟨c,y.smx (Cp s)⟩⟩
theorem ThN.smx {b:Nat} {h h':HD} {x:D} (z:ThN b h x) (s:Smx b h h') (y:BoxAt h' b):ThN b h' x:=⟨z.1.smx s y,z.2.1,let ⟨c,y⟩:=z.2.2;⟨c,y.smx s⟩⟩
theorem Zbu {b:Nat} {h:HD} {c:Bool} {t:AU} (h1:t.1<100) (h2:t.2.1<100):RpX b h c 1 18 (AK t):=
 D7 3 (all_cons (Cq (by omega) (by omega)) (all_cons (Cq (by omega) (by omega)) (all_cons J1 AV))) (by simp)
section
variable {b n:Nat} {h:HD} {L:List AU}
theorem FW (k:Dm n L) (c:Bool):∀d∈L.map AK,RpX b h c 2 300 d:=fun d hd=>by
 obtain ⟨t,ht,rfl⟩:=qaL.mp hd
 have:=k.ok t ht
 have:=k.n8
 exact A9 (Zbu (by omega) (by omega)) (by decide) (by decide)
theorem HN:∀d∈L.map AK,Plain2 h d:=fun d hd=>by
 obtain ⟨t,_,rfl⟩:=qaL.mp hd
 exact Tu
theorem Mn {a:D} {ts:List D} (pa:Plain3 h a) (la:(AI a).length≤1000) (c:Bool) (ra:RpX b h c 4 400000 a) (pt:∀x∈ts,Plain2 h x) (lt:ts.length≤1000) (rt:∀x∈ts,RpX b h c 2 300 x):ThN b h (.tup [a,.tup ts]):=
 ⟨⟨trivial,all_cons pa (all_cons ⟨trivial,pt⟩ AV)⟩,all_cons la (all_cons lt AV),c,A9 (D7 2 (all_cons ra (all_cons (A9 (D7 1000 rt lt) (by decide) (by decide)) AV)) (by simp)) (by decide) (by decide)⟩
theorem OW {c:Bool} {m:Nat} (hm:m<100):RpX b h c 4 400000 (.int (m:Nat)):=A9 (Cq (by omega) (by omega)) (by decide) (by decide)
theorem OX {ts:List D} (k:Dm n L) (c:Bool) (pt:∀x∈ts,Plain2 h x) (lt:ts.length≤1000) (rt:∀x∈ts,RpX b h c 2 300 x):ThN b h (.tup [.int (n:Nat),.tup ts]):=
 Mn (FU trivial rfl) (BU _) c (OW (by have:=k.n8;omega)) pt lt rt
theorem Mo {d:D} (p:Plain h d) (e:AI d=[]) (c:Bool) (r:RpX b h c 5 1000000 d):ThN b h d:=⟨⟨p,(fun x hx=>by rw [e] at hx;cases hx)⟩,(fun x hx=>by rw [e] at hx;cases hx),c,r⟩
theorem TC {c:Bool}:RpX b h c 1 3 (.tup []):=D7 (n:=0) (L:=0) 0 AV (by simp)
end
theorem Zbv {f:ME} {ρ:Ai} {h:HD} {Q:D→HD→Prop}:Wp (JN f ρ h) Q=Wp (f ρ h) fun x h1=>Wp (LI x h1) Q:=by unfold JN;rw [AD]
noncomputable abbrev OY:MS:=Al (Ay 9 (Ag As (Ab 9) (Be (Aa (Ax (Aa (Ab 2) (Aa (Ah (Aq Fw) (Aa (Ab 3) (Ad))) (Ad)))) (Aa (Be (Aa (Ab 2) (Aa (Ab 3) (Ad)))) (Aa (Ax (Aa (mC (.int 9)) (Aa (Ab 3) (Ad)))) (Aa (Ax (Aa (mC (.int 0)) (Aa (Ax (Ad)) (Ad)))) (Aa (Ax (Aa (mC (.bl true)) (Aa (Ax (Ad)) (Ad)))) (Aa (Ax (Aa (Ab 2) (Ad))) (Aa (Ax (Aa (Ab 2) (Aa (Ab 3) (Aa (Ax (Ad)) (Ad))))) (Ad))))))))))) (Al (Ay 9 (Ag As (Ab 9) (Be (Aa (mC .non) (Aa (mC (.int 1)) (Aa (mC .edic) (Aa (Ab 3) (Aa (Ax (Aa (Ab 2) (Aa (JN (Ab 3)) (Ad)))) (Aa (Ax (Aa (Ab 2) (Aa (Ag As (Ag As (BB (Ab 3) (BF) (BA (Ab 4))) (BB (Ab 3) (BF) (BA (mC (.int 1))))) (BB (Ab 3) (BA (Ab 4)) (BF))) (Ad)))) (Ad)))))))))) (AL (Ag Au (Ab 9) (Ah AB (Aa (Ab 0) (Aa (Ah (Aq Bk) (Aa (Ab 9) (Ad))) (Ad)))))))
noncomputable abbrev TF:MS:=Al (Ay 9 (Be (Aa (Ab 8) (Aa (Ab 8) (Aa (Ab 8) (Aa (BB (Ab 7) (BF) (BA (mC (.int 2)))) (Aa (Ag As (Ab 7) (Ax (Aa (mC (.int 0)) (Ad)))) (Aa (Ah (Aq Fw) (Aa (Ab 7) (Ad))) (Aa (mC .non) (Aa (Ax (Aa (Ag Au (Ab 7) (mC (.int 1))) (Aa (Ag Au (Ab 7) (mC (.int 0))) (Aa (Ag Au (Ab 7) (mC (.int 2))) (Ad))))) (Aa (Ax (Aa (Ag Au (Ab 7) (mC (.int 0))) (Aa (Ag Au (Ab 7) (mC (.int 0))) (Aa (mC (.int 0)) (Ad))))) (Aa (Ax (Ad)) (Ad))))))))))))) (Al (Ay 9 (Bf [none,some 2,some 3,some 4] (BV (Ab 9)) (A7 0) (Bq) (Ax (Aa (Ab 1) (Aa (Ag As (Ag As (BB (Ab 2) (BF) (BA (Ab 3))) (Ax (Aa (Ab 0) (Ad)))) (BB (Ab 2) (BA (Ag As (Ab 3) (mC (.int 1)))) (BF))) (Ad)))))) OY)
def Mp (b n A B:Nat) (T:List D) (y tie bent:D) (c9:Option D):Ai:=[some (.loc b),some (.tup [.int (n:Nat),.tup T]),some (.int (n:Nat)),some (.tup T),some (.int (A:Nat)),some (.int (B:Nat)),some y,some tie,some bent,c9]
theorem Zbw {b n A B l8:Nat} {L:List AU} {y tie bent:D} {ds:List D} {h:HD} {Q:D→HD→Prop} (hx:BoxAt h b) (hb:0<b) (ht:TabAt h) (k:Dm n L) (e8:h[l8]?=some (.lst ds)) (lds:ds.length=10) (hds:∀d∈ds,ThN b h d)
 (q:∀d h',ThN b h' d→BoxAt h' b→TabAt h'→Smx b h h'→Q d h'):Wp (OY (Mp b n A B (L.map AK) y tie bent (some (.loc l8))) h) (G3 Q):=by
 have lL:=k.le
 have hn1:=k.n1
 have hn8:=k.n8
 have lT:(L.map AK).length=L.length:=Cb ..
 unfold OY Mp
 simp [-Aj]
 refine An OP ?_
 refine AX (by rw [lT];unfold sizeLine;omega) fun l9 h9 s9 e9 el9 _=>?_
 try simp [-Aj]
 refine AX (by simp) fun l10 h10 s10 e10 el10 _=>?_
 try simp [-Aj]
 refine AX (by simp) fun l11 h11 s11 e11 el11 _=>?_
 try simp [-Aj]
 refine An (Fv (((s9.trans s10).trans s11) _ _ e8) e11) ?_
 refine AX (by simp;unfold sizeLine;omega) fun l12 h12 s12 e12 el12 _=>?_
 refine Eq.mpr Aj ?_
 try simp [-Aj,Zbv]
 refine An (show LI (.tup (L.map AK)) h12=.ok (.tup (L.map AK).reverse) h12 from rfl) ?_
 try simp [-Aj]
 refine An J2 ?_
 try simp [-Aj]
 refine An Za6 ?_
 try simp [-Aj]
 refine An (CW (by simp;omega)) ?_
 try simp [-Aj]
 refine An Mi ?_
 try simp [-Aj]
 refine An (CW (by simp;omega)) ?_
 try simp [-Aj]
 refine AX (by simp) fun l13 h13 s13 e13 el13 _=>?_
 try simp [-Aj]
 refine An (Fv (s13 _ _ e12) e13) ?_
 refine AX (by simp;unfold sizeLine;omega) fun l14 h14 s14 e14 el14 _=>?_
 refine Eq.mpr Aj ?_
 have s0e:=((((s9.trans s10).trans s11).trans s12).trans s13).trans s14
 have xE:=hx.sm s0e
 have tE:=ht.sm s0e
 have nE:l14≠b:=by have:=(((((hx.sm s9).sm s10).sm s11).sm s12).sm s13).lt;omega
 have n9:l9≠b:=by have:=hx.lt;omega
 have n10:l10≠b:=by have:=(hx.sm s9).lt;omega
 have s9e:=(((s10.trans s11).trans s12).trans s13).trans s14
 have s10e:=((s11.trans s12).trans s13).trans s14
 obtain ⟨M,eM,lM,hM⟩:∃M:List D,h14[l14]?=some (.lst M)∧M.length=23∧∀d∈M,ThN b h14 d:=by
  have c9:=s9e _ _ e9
  have c10:=s10e _ _ e10
  have pT:Plain3 h14 (.tup (L.map AK)):=Tv
  have rT:∀c,RpX b h14 c 3 40000 (.tup (L.map AK)):=fun c=>A9 (D7 100 (FW k c) (by omega)) (by decide) (by decide)
  have rn:∀c,RpX b h14 c 3 40000 (.int (n:Nat)):=fun c=>A9 (Cq (by omega) (by omega)) (by decide) (by decide)
  have pn:Plain3 h14 (.int (n:Nat)):=FU trivial rfl
  have r9:RpX b h14 false 3 40000 (.loc l9):=A9 (Mh 100 n9 c9 (FW k false) (by omega)) (by decide) (by decide)
  have r10:RpX b h14 false 5 1000000 (.loc l10):=A9 (Mh 2 n10 c10 (all_cons (rn false) (all_cons (rT false) AV)) (by simp)) (by decide) (by decide)
  have e0:RpX b h14 false 3 40000 (.tup []):=A9 TC (by decide) (by decide)
  have p0:Plain3 h14 (.tup []):=FU trivial rfl
  refine ⟨_,e14,by simp [lds],CY (CY (fun d hd=>(hds d hd).smx (Cp s0e) xE) <|
   all_cons ⟨⟨trivial,all_cons pn (all_cons (FU ⟨_,c9⟩ rfl) AV)⟩,all_cons (BU _) (all_cons (BU _) AV),false,A9 (D7 2 (all_cons (rn false) (all_cons r9 AV)) (by simp)) (by decide) (by decide)⟩ <|
   all_cons (Mo ⟨_,c10⟩ rfl false r10) <|
   all_cons (Mn (FU trivial rfl) (BU _) false (OW (m:=9) (by decide)) HN (by omega) (FW k false)) <|
   all_cons (Mn (FU trivial rfl) (BU _) false (OW (m:=0) (by decide)) AV (BU _) AV) <|
   all_cons (Mn (FU trivial rfl) (BU _) false (A9 OT (by decide) (by decide)) AV (BU _) AV) <|
   all_cons ⟨⟨trivial,all_cons pn AV⟩,all_cons (BU _) AV,false,A9 (D7 1 (all_cons (rn false) AV) (by simp)) (by decide) (by decide)⟩ <|
   all_cons ⟨⟨trivial,all_cons pn (all_cons pT (all_cons p0 AV))⟩,all_cons (BU _) (all_cons (by show (L.map AK).length≤1000;omega) (all_cons (BU _) AV)),false,A9 (D7 3 (all_cons (rn false) (all_cons (rT false) (all_cons e0 AV))) (by simp)) (by decide) (by decide)⟩ AV) <|
   all_cons (Mo trivial rfl false (A9 OU (by decide) (by decide))) <| all_cons (Mo trivial rfl false (A9 (Cq (by decide) (by decide)) (by decide) (by decide))) <| all_cons (Mo trivial rfl true (A9 Te (by decide) (by decide))) <|
   all_cons ⟨⟨trivial,fun x hx=>?_⟩,fun x hx=>?_,false,A9 (rT false) (by decide) (by decide)⟩ <|
   all_cons (OX k false (fun z hz=>HN z (List.mem_reverse.mp hz)) (by rw [List.length_reverse];omega) fun z hz=>FW k false z (List.mem_reverse.mp hz)) <|
   all_cons (OX k false (CY (fun z hz=>HN z (En hz)) (CY (fun z hz=>HN z (En hz)) fun z hz=>HN z (Fb hz))) (by simp;omega) (CY (fun z hz=>FW k false z (En hz)) (CY (fun z hz=>FW k false z (En hz)) fun z hz=>FW k false z (Fb hz)))) AV⟩
  ·obtain ⟨t,_,rfl⟩:=qaL.mp hx
   exact ⟨trivial,all_cons (E5 trivial rfl) (all_cons (E5 trivial rfl) (all_cons (E5 trivial rfl) AV))⟩
  ·obtain ⟨t,_,rfl⟩:=qaL.mp hx
   show 3≤1000
   decide
 clear e14
 simp [-Aj]
 refine An (Rj eM) ?_
 simp [-Aj]
 refine D3 xE hb tE (by omega) (by omega) fun o h15 lo x15 t15 s15=>?_
 have ho:o<M.length:=by omega
 refine An (EJ (s15 _ _ nE eM) (A6 ho)) ?_
 exact q _ _ ((hM _ (F5 ho)).smx s15 x15) x15 t15 ((Cp s0e).trans s15)
theorem FX {f:ME} {fa:MA} {ρ:Ai} {h h':HD} {x:D} {Q:List D→HD→Prop} (e:f ρ h=.ok x h') (q:Wp (fa ρ h') fun xs h2=>Q (x::xs) h2):Wp (Aa f fa ρ h) Q:=by
 rw [G4,e]
 exact q
theorem Zbx {b n A B ta tb:Nat} {tc:Bool} {L:List AU} {y bent:D} {c9:Option D} {h5:HD} {Q:D→HD→Prop} (x5:BoxAt h5 b) (hb:0<b) (t5:TabAt h5) (k:Dm n L) (hA:A≤L.length) (ha7:ta<100) (hb7:tb<100) (xbent:XOk b h5 bent)
 (q:∀d h',ThN b h' d→BoxAt h' b→TabAt h'→Smx b h5 h'→Q d h'):Wp (TF (Mp b n A B (L.map AK) y (.tup [D.int ((ta:Nat):Int),.int ((tb:Nat):Int),lit tc]) bent c9) h5) (G3 Q):=by
 have lL:=k.le
 have hn1:=k.n1
 have hn8:=k.n8
 have lT:(L.map AK).length=L.length:=Cb ..
 have tl:∀(c:Bool) {h':HD},∀x∈[D.int ((ta:Nat):Int),.int ((tb:Nat):Int),lit tc],RpX b h' c 1 60 x:=fun c h'=>all_cons (A9 (Cq (by omega) (by omega)) (by decide) (by decide)) (all_cons (A9 (Cq (by omega) (by omega)) (by decide) (by decide)) (all_cons (A9 J1 (by decide) (by decide)) AV))
 unfold TF Mp
 have ix0:∀h,Au (.tup [D.int ((ta:Nat):Int),.int ((tb:Nat):Int),lit tc]) (.int 0) h=.ok (.int ((ta:Nat):Int)) h:=fun h=>rfl
 have ix1:∀h,Au (.tup [D.int ((ta:Nat):Int),.int ((tb:Nat):Int),lit tc]) (.int 1) h=.ok (.int ((tb:Nat):Int)) h:=fun h=>rfl
 have ix2:∀h,Au (.tup [D.int ((ta:Nat):Int),.int ((tb:Nat):Int),lit tc]) (.int 2) h=.ok (lit tc) h:=fun h=>rfl
 refine Eq.mpr B8 ?_
 refine Eq.mpr JB ?_
 refine Eq.mpr WM ?_
 have e4:BB (Ab 7) BF (BA (mC (.int 2))) [some (.loc b),some (.tup [.int (n:Nat),.tup (L.map AK)]),some (.int (n:Nat)),some (.tup (L.map AK)),some (.int (A:Nat)),some (.int (B:Nat)),some y,some (.tup [D.int ((ta:Nat):Int),.int ((tb:Nat):Int),lit tc]),some bent,c9] h5=.ok (.tup [D.int ((ta:Nat):Int),.int ((tb:Nat):Int)]) h5:=Mj (xs:=[D.int ((ta:Nat):Int),.int ((tb:Nat):Int),lit tc])
 have e5:Ag As (Ab 7) (Ax (Aa (mC (.int 0)) Ad)) [some (.loc b),some (.tup [.int (n:Nat),.tup (L.map AK)]),some (.int (n:Nat)),some (.tup (L.map AK)),some (.int (A:Nat)),some (.int (B:Nat)),some y,some (.tup [D.int ((ta:Nat):Int),.int ((tb:Nat):Int),lit tc]),some bent,c9] h5=.ok (.tup [D.int ((ta:Nat):Int),.int ((tb:Nat):Int),lit tc,.int 0]) h5:=CW (xs:=[D.int ((ta:Nat):Int),.int ((tb:Nat):Int),lit tc]) (ys:=[.int 0]) (by simp)
 refine FX rfl <| FX rfl <| FX rfl <| FX e4 <| FX e5 ?_
 refine Eq.mpr G4 ?_
 refine AX (xs:=[D.int ((ta:Nat):Int),.int ((tb:Nat):Int),lit tc]) (by simp) fun l6 h6 s6 e6 el6 _=>?_
 refine FX rfl <| FX (x:=.tup [.int ((tb:Nat):Int),.int ((ta:Nat):Int),lit tc]) rfl <| FX (x:=.tup [.int ((ta:Nat):Int),.int ((ta:Nat):Int),.int 0]) rfl <| FX rfl ?_
 refine Eq.mpr Gu ?_
 refine AX (by simp) fun l7 h7 s7 e7 el7 _=>?_
 have n6:l6≠b:=by have:=x5.lt;omega
 obtain ⟨ds,eds,lds,xds⟩:∃ds:List D,h7[l7]?=some (.lst ds)∧ds.length=10∧∀x∈ds,XOk b h7 x:=by
  have xb:=(xbent.sm s6).sm s7
  have nums:∀{i j:Int} {c:Bool},0≤i→i<100→0≤j→j<100→XOk b h7 (.tup [.int i,.int j,lit c]):=fun h1 h2 h3 h4=>⟨⟨trivial,all_cons trivial (all_cons trivial (all_cons trivial AV))⟩,false,A9 (D7 3 (all_cons (Cq h1 h2) (all_cons (Cq h3 h4) (all_cons J1 AV))) (by simp)) (by decide) (by decide)⟩
  refine ⟨_,e7,by simp,all_cons xb <| all_cons xb <| all_cons xb <| all_cons ⟨⟨trivial,all_cons trivial (all_cons trivial AV)⟩,false,A9 (D7 2 (all_cons (Cq (by omega) (by omega)) (all_cons (Cq (by omega) (by omega)) AV)) (by simp)) (by decide) (by decide)⟩ <|
   all_cons ⟨⟨trivial,all_cons trivial (all_cons trivial (all_cons trivial (all_cons trivial AV)))⟩,false,A9 (D7 4 (all_cons (Cq (by omega) (by omega)) (all_cons (Cq (by omega) (by omega)) (all_cons J1 (all_cons (Cq (by omega) (by omega)) AV)))) (by simp)) (by decide) (by decide)⟩ <|
   all_cons ⟨E5 ⟨_,s7 _ _ e6⟩ rfl,false,A9 (Mh 3 n6 (s7 _ _ e6) (tl false) (by simp)) (by decide) (by decide)⟩ <| all_cons ⟨E5 trivial rfl,false,A9 OU (by decide) (by decide)⟩ <|
   all_cons (nums (by omega) (by omega) (by omega) (by omega)) <| all_cons (nums (c:=false) (by omega) (by omega) (by omega) (by omega)) <| all_cons ⟨E5 trivial rfl,false,A9 TC (by decide) (by decide)⟩ AV⟩
 clear e7 xbent
 refine Eq.mpr Aj ?_
 refine Eq.mpr B8 ?_
 refine Eq.mpr JB ?_
 refine Gv (src:=[(l7,ds)]) (xs:=ds) (φ:=fun x=>x) (fun _=>true) (fun x=>.tup [.int (n:Nat),.tup ((L.map AK).take A++[x]++(L.map AK).drop (A+1))]) (fun x=>[some x,some (.int (n:Nat)),some (.tup (L.map AK)),some (.int (A:Nat))]) ?_ (by unfold sizeLine;omega) (fun x _=>rfl) (fun x hx h' s'=>.ok) (fun x hx _ h' s'=>?_) fun l8 h8 s8 e8=>?_
 ·simp
  refine An (Hd eds) ?_
  simp [Sm.refl]
  exact fun h2 s2=>G1 (s2 _ _ eds)
 ·have eA1:((A:Int)+1)=((A+1:Nat):Int):=by omega
  simp [Pu]
  refine An J2 ?_
  simp
  refine An (CW (by simp;omega)) ?_
  simp
  rw [eA1]
  refine An Mi ?_
  simp
  refine An (CW (by simp;omega)) ?_
  simp [Sm.refl]
 rw [DG] at e8
 refine Eq.mpr Aj ?_
 have s58:=(s6.trans s7).trans s8
 refine Zbw (x5.sm s58) hb (t5.sm s58) k e8 (by rw [Cb];exact lds) (fun d hd=>?_) fun d h' th x t s=>q d h' th x t ((Cp s58).trans s)
 obtain ⟨x,hx1,rfl⟩:=qaL.mp hd
 obtain ⟨px,c,rx⟩:=(xds x hx1).sm s8
 refine OX k c (CY (CY (fun z hz=>HN z (En hz)) (all_cons px AV)) fun z hz=>HN z (Fb hz)) (by simp;omega) (CY (CY (fun z hz=>FW k c z (En hz)) (all_cons rx AV)) fun z hz=>FW k c z (Fb hz))
theorem Zby {b n:Nat} {L:List AU} {h:HD} {Q:D→HD→Prop} (hx:BoxAt h b) (hb:0<b) (ht:TabAt h) (k:Dm n L) (q:∀d h',ThN b h' d→BoxAt h' b→TabAt h'→Smx b h h'→Q d h'):Wp (E1 [.loc b,Bx n L] h) Q:=by
 have lL:=k.le
 have hn1:=k.n1
 have hn8:=k.n8
 have lT:(L.map AK).length=L.length:=Cb ..
 change Wp (AA 10 (OD AB) [.loc b,Bx n L] h) _
 refine Eq.mpr Bs ?_
 simp [-Aj,Bx]
 refine Eq.mpr Aj ?_
 simp [-Aj]
 refine D3 hx hb ht (by omega) (by omega) fun A h1 lA x1 t1 s1=>?_
 try simp [-Aj]
 refine D3 x1 hb t1 (by decide) (by decide) fun B h2 lB x2 t2 s2=>?_
 try simp [-Aj]
 refine Eq.mpr Aj ?_
 try simp [-Aj,SW]
 refine AX (by simp) fun l3 h3 s3 e3 el3 _=>?_
 try simp [-Aj]
 refine AX (by simp;unfold sizeLine;omega) fun l4 h4 s4 e4 el4 _=>?_
 have x4:BoxAt h4 b:=(x2.sm s3).sm s4
 have t4:TabAt h4:=(t2.sm s3).sm s4
 have n3:l3≠b:=by have:=x2.lt;omega
 have n4:l4≠b:=by have:=(x2.sm s3).lt;omega
 try simp [-Aj]
 refine D3 x4 hb t4 (by decide) (by decide) fun o h5 lo x5 t5 s5=>?_
 have e4':=s5 _ _ n4 e4
 have e3':=s5 _ _ n3 (s4 _ _ e3)
 have i100:∀{c:Bool} {i:Int},0≤i→i<100→RpX b h5 c 1 60 (.int i):=fun h1 h2=>A9 (Cq h1 h2) (by decide) (by decide)
 obtain ⟨y,ey,py,cy,sy⟩:=OO (fun y=>Plain h5 y∧∃c,RpX b h5 c 1 60 y) (o:=o) e4' (by simp;omega) <| all_cons ⟨trivial,false,i100 (by omega) (by omega)⟩ <| all_cons ⟨trivial,false,A9 (Td (L:=3) (by decide) (by decide)) (by decide) (by decide)⟩ <|
  all_cons ⟨trivial,false,A9 OT (by decide) (by decide)⟩ <| all_cons ⟨trivial,false,A9 OT (by decide) (by decide)⟩ <| all_cons ⟨trivial,false,A9 OU (by decide) (by decide)⟩ <| all_cons ⟨trivial,false,A9 (Za5 (L:=5) (by decide +kernel)) (by decide) (by decide)⟩ <|
  all_cons ⟨trivial,false,A9 (D7 1 (all_cons (Cq (by decide) (by decide)) AV) (by simp)) (by decide) (by decide)⟩ <| all_cons ⟨trivial,false,A9 (Td (L:=40) (by decide +kernel) (by decide +kernel)) (by decide) (by decide)⟩ <| all_cons ⟨trivial,false,i100 (by decide) (by decide)⟩ <|
  all_cons ⟨⟨_,e3'⟩,false,A9 (Mh 1 n3 e3' (all_cons (Cq (by decide) (by decide)) AV) (by simp)) (by decide) (by decide)⟩ <| all_cons ⟨trivial,true,A9 Te (by decide) (by decide)⟩ AV
 refine An ey ?_
 refine Eq.mpr (Bz _ _) ?_
 refine Eq.mpr Aj ?_
 have S:Smx b h h5:=(((s1.trans s2).trans (Cp s3)).trans (Cp s4)).trans s5
 clear ey
 simp [-Aj]
 refine An (CW (by rw [lT];simp;omega)) ?_
 have eT:L.map AK++[.tup [.int 0,.int 1,.int 1]]=(L++[(0,1,true)]).map AK:=by rw [Jd];rfl
 rw [eT]
 have hA:A<(L++[(0,1,true)]).length:=by rw [Dw];simp;omega
 refine Eq.mpr (Bz _ _) ?_
 refine An (ix_tup (k:=A) (show ((L++[(0,1,true)]).map AK)[A]?=some (AK (L++[(0,1,true)])[A]) by rw [Ca,A6 hA];rfl)) ?_
 have ht7:(L++[(0,1,true)])[A].1<100∧(L++[(0,1,true)])[A].2.1<100:=by
  rcases qaP.mp (F5 hA) with z |z
  ·have:=k.ok _ z;omega
  ·rw [qaF.mp z];decide
 generalize (L++[(0,1,true)])[A]=t7 at ht7
 obtain ⟨ta,tb,tc⟩:=t7
 have ha7:ta<100:=ht7.1
 have hb7:tb<100:=ht7.2
 refine Eq.mpr (Bz _ _) ?_
 refine Eq.mpr Aj ?_
 have eB1:((B:Int)+1)=((B+1:Nat):Int):=by omega
 simp [-Aj,AK]
 refine An J2 ?_
 try simp [-Aj]
 refine An (CW (by simp;omega)) ?_
 try simp [-Aj]
 rw [eB1]
 refine An Mi ?_
 try simp [-Aj]
 refine An (CW (by simp;omega)) ?_
 refine Eq.mpr (Bz _ _) ?_
 refine Eq.mpr Aj ?_
 have tl:∀(c:Bool) {h':HD},∀x∈[D.int ((ta:Nat):Int),.int ((tb:Nat):Int),lit tc],RpX b h' c 1 60 x:=fun c h'=>all_cons (A9 (Cq (by omega) (by omega)) (by decide) (by decide)) (all_cons (A9 (Cq (by omega) (by omega)) (by decide) (by decide)) (all_cons (A9 J1 (by decide) (by decide)) AV))
 have tp:∀{h':HD},∀x∈[D.int ((ta:Nat):Int),.int ((tb:Nat):Int),lit tc],Plain h' x:=fun {h'}=>all_cons trivial (all_cons trivial (all_cons trivial AV))
 generalize hbent:D.tup (List.take B [D.int ((ta:Nat):Int),.int ((tb:Nat):Int),lit tc]++[y]++List.drop B [D.int ((tb:Nat):Int),lit tc])=bent
 have xbent:XOk b h5 bent:=by
  rw [←hbent]
  refine ⟨⟨trivial,CY (CY (fun x hx=>tp x (En hx)) (all_cons py AV)) fun x hx=>tp x (A5 _ (Fb hx))⟩,cy,A9 (D7 4 (CY (CY (fun x hx=>tl cy x (En hx)) (all_cons sy AV)) fun x hx=>tl cy x (A5 _ (Fb hx))) (by simp;omega)) (by decide) (by decide)⟩
 exact Zbx (n:=n) (L:=L) (tc:=tc) x5 hb t5 k (by omega) ha7 hb7 xbent fun d h' th x t s=>q d h' th x t (S.trans s)
def RR:Nat→List (Nat→Bool)
 |0=>[fun _=>false]
 |k+1=>(RR k).flatMap fun r=>[r,ext (k+1) r]
theorem OZ:∀{k:Nat} {r:Nat→Bool},r∈RR k→∀i,i=0∨k<i→r i=false
 |0,r,h,i,_=>by
  rw [RR,qaF] at h
  rw [h]
 |k+1,r,h,i,hi=>by
  rw [RR,qcE] at h
  obtain ⟨r',hr,h⟩:=h
  have:=OZ hr i (by omega)
  simp only [qa5,Do,or_false] at h
  rcases h with rfl |rfl
  ·exact this
  ·unfold ext
   rw [if_neg (by omega)]
   exact this
theorem TH (r:Nat→Bool) (h0:r 0=false):∀k,∃r'∈RR k,∀i,i≤k→r' i=r i
 |0=>⟨_,List.mem_singleton_self _,fun i hi=>by
  obtain rfl:i=0:=by omega
  exact h0.symm⟩
 |k+1=>by
  obtain ⟨r',hr,he⟩:=TH r h0 k
  cases e:r (k+1) with
  |false=>
   refine ⟨r',qcE.mpr ⟨r',hr,by simp⟩,fun i hi=>?_⟩
   by_cases z:i=k+1
   ·subst z;rw [e];exact OZ hr _ (by omega)
   ·exact he i (by omega)
  |true=>
   refine ⟨ext (k+1) r',qcE.mpr ⟨r',hr,by simp⟩,fun i hi=>?_⟩
   unfold ext
   by_cases z:i=k+1
   ·subst z;rw [if_pos rfl,e]
   ·rw [if_neg z];exact he i (by omega)
theorem Mq:∀k,(RR k).length=2^k
 |0=>rfl
 |k+1=>by
  have:∀l:List (Nat→Bool),(l.flatMap fun r=>[r,ext (k+1) r]).length=2*l.length:=fun l=>by
   induction l with
   |nil=>rfl
   |cons a l ih=>rw [Kk,Dw,ih];simp;omega
  rw [RR,this,Mq k,Nat.pow_succ]
  omega
theorem FY {n:Nat} (hn:n≤1000):n≤sizeLine:=by unfold sizeLine;omega
def RiI (k:Nat) (h:HD) (xs:List Nat) (ρ:Ai) (h':HD):Prop:=∃(j l:Nat) (y:Option D),xs=(List.range k).drop j∧j≤k∧ρ=[some (.tup [.int 0]),some (.int (k:Nat)),some (.loc l),y]∧Sm h h'∧h'[l]?=some (.lst ((RR j).map (AM (j+1))))
theorem Zbz {n:Nat} {r:Nat→Bool} {b:Bool} {h:HD} (hn:n≤100) (h0:r n=false):As (AM n r) (.tup [lit b]) h=.ok (AM (n+1) (if b then ext n r else r)) h:=by
 unfold AM
 rw [CW (by simp;omega),Kn,Jd]
 congr 3
 ·refine GI fun i hi=>?_
  have:=qbH.mp hi
  cases b
  ·rfl
  ·simp [ext,show ¬i=n by omega]
 ·cases b
  ·simp [h0]
  ·simp [ext]
theorem ZbA {k:Nat} {h:HD} {Q:D→HD→Prop} (hk:k≤7) (q:∀l h',Sm h h'→h'[l]?=some (.lst ((RR k).map (AM (k+1))))→Q (.loc l) h'):Wp (EU [.tup [.int 0],.int (k:Nat)] h) Q:=by
 change Wp (AA 4 Ot [.tup [.int 0],.int (k:Nat)] h) _
 refine Eq.mpr Bs ?_
 simp [-Aj]
 refine AX (by simp) fun l h1 s1 e1 _ _=>?_
 refine Eq.mpr Aj ?_
 refine Eq.mpr B8 ?_
 refine Ef (src:=[]) (xs:=List.range k) (fun i=>.int ((i:Nat):Int)) (RiI k h) ?_ (fun ys ρ h' _=>CN) ?_ ?_
 ·simp [Fq (show k≤1000 by omega)]
  exact ⟨0,l,_,by simp,by omega,rfl,s1,e1⟩
 ·rintro x xs ρ h2 ⟨j,l2,y,ex,hj,rfl,s2,e2⟩
  obtain ⟨rfl,hk',rfl⟩:=J4 ex.symm
  refine ⟨_,rfl,?_⟩
  refine Eq.mpr JB ?_
  have hfl:((RR x).flatMap fun r=>[false,true].map fun b=>AM (x+1+1) (if b then ext (x+1) r else r))=(RR (x+1)).map (AM (x+1+1)):=by
   rw [RR,List.map_flatMap]
   rfl
  refine Se (src:=[(l2,(RR x).map (AM (x+1)))]) (xs:=RR x) (φ:=AM (x+1)) (fun _=>true) (fun r=>[false,true].map fun b=>AM (x+1+1) (if b then ext (x+1) r else r)) (fun r=>[some (AM (x+1) r),none]) ?_ (fun r _=>rfl) (fun r _ h' s'=>(.ok:Pu (.ok true h') h' true)) (fun r hr _ h' acc s' z=>?_) ?_ fun l3 h3 s3 e3=>?_
  ·simp [CA,Hd e2]
   exact ⟨.refl _,fun h' s'=>G1 (s' _ _ e2)⟩
  ·refine Sb (src:=[]) (xs:=[false,true]) (φ:=lit) _ (fun b=>[some (AM (x+1) r),some (lit b)]) ?_ (fun b _=>rfl) (fun b _ h' s'=>?_) z
   ·simp [CA,Sm.refl,BN,lit]
   ·simp [Pu,Zbz (show x+1≤100 by omega) (OZ hr (x+1) (by omega))]
    exact .refl _
  ·rw [DG,hfl,Cb,Mq]
   exact FY (BS (IY (n:=2) (by decide) (show x+1≤7 by omega)) (by decide))
  ·rw [DG,hfl] at e3
   exact ⟨x+1,l3,_,rfl,by omega,rfl,s2.trans s3,e3⟩
 ·rintro ρ h2 ⟨j,l2,y,ex,hj,rfl,s2,e2⟩
  have:j=k:=Mm hj ex.symm
  subst this
  simp
  exact q _ _ s2 e2
theorem ZbB {n:Nat} {R:Nat→Bool}:B3 (n+1) (ext n R)=.tup (((List.range n).filter R).map (fun i=>D.int ((i:Nat):Int))++[.int ((n:Nat):Int)]):=by
 unfold B3
 rw [Kn,List.filter_append]
 have e1:(List.range n).filter (ext n R)=(List.range n).filter R:=List.filter_congr fun i hi=>by
  have:i<n:=by simpa using hi
  simp [ext,show i≠n by omega]
 have e2:[n].filter (ext n R)=[n]:=by simp [ext]
 rw [e1,e2]
 simp
theorem ZbC {n:Nat} {R:Nat→Bool} (h:R n=false):B3 (n+1) R=B3 n R:=by
 unfold B3
 rw [Kn,List.filter_append]
 simp [h]
theorem ZbD {fa:MA} {ρ:Ai} {Q:Fl×Ai→HD→Prop} {R:Str→List (Str×D)→HD→Prop}:We (JQ fa ρ h) Q R=We (fa ρ h) (fun xs h1=>We (match xs with
 |[.int a,.int b]=>(match EO [none,some (.int a),some (.int b)] h1 with
  |.ok (.str _) h2=>.err (DS "TooMany") [("many",.int a),("most",.int b)] h2
  |_=>.stuck)
 |_=>.stuck) Q R) R:=by
 unfold JQ
 rw [Dh]
 try rfl
theorem O0:∀n<100,(((toString ((n:Nat):Int)):String):Str).length≤3:=by decide +kernel
theorem O1:∀n<100,((n:Nat):Int).natAbs.log2<1920:=by decide +kernel
theorem ZbE {n m:Nat} (hn:n<100) (hm:m<100):∃x,∀h,EO [none,some (.int (n:Nat)),some (.int (m:Nat))] h=.ok (.str x) h:=by
 have l1:=O0 n hn
 have l2:=O0 m hm
 have l3:((" are more than ":String):Str).length≤20:=by decide +kernel
 have g1:=O1 n hn
 have g2:=O1 m hm
 have z0:(Str.empty:Str).length=0:=rfl
 refine ⟨Str.empty++(((toString ((n:Nat):Int)):String):Str)++((" are more than ":String):Str)++(((toString ((m:Nat):Int)):String):Str),fun h=>?_⟩
 have e1:Ab 1 [none,some (.int (n:Nat)),some (.int (m:Nat))] h=.ok (.int (n:Nat)) h:=rfl
 have e2:Ab 2 [none,some (.int (n:Nat)),some (.int (m:Nat))] h=.ok (.int (m:Nat)) h:=rfl
 unfold EO JL Ls Lq Lp
 rw [e1]
 simp only [Out.bind_ok]
 rw [if_pos ⟨g1,by rw [Str.length_append];unfold sizeLine;omega⟩,if_pos (by rw [Str.length_append,Str.length_append];unfold sizeLine;omega),e2]
 simp only [Out.bind_ok]
 rw [if_pos ⟨g2,by rw [Str.length_append,Str.length_append,Str.length_append];unfold sizeLine;omega⟩,if_pos (by rw [Str.length_append,Str.length_append,Str.length_append];unfold sizeLine;omega)]
 rfl
theorem ZbF {n:Nat} (hn:n<100):∃x t:Str,(∀h,BZ (.int (n:Nat)) h=.ok (.str x) h)∧x.length≤100∧((("! many ":String):Str)++x++((" ":String):Str)++(("8":String):Str))=t∧(∀h,LS.strOfD (.int (n:Nat)) h=.ok (.str x) h)∧((("! many ":String):Str)++x++((" 8":String):Str))=t:=by
 have l1:=O0 n hn
 have g1:=O1 n hn
 have s:∀i:Int,i.natAbs<4611686018427387904→∀h,LS.strOfD (.int i) h=.ok (.str (toString i)) h:=fun i hi h=>by
  unfold LS.strOfD
  exact if_pos hi
 have q:∀n<100,((("! many ":String):Str)++(((toString ((n:Nat):Int)):String):Str)++((" 8":String):Str))=((("! many ":String):Str)++(((toString ((n:Nat):Int)):String):Str)++((" ":String):Str)++(("8":String):Str)):=by decide +kernel
 refine ⟨(((toString ((n:Nat):Int)):String):Str),_,fun h=>?_,by omega,rfl,s _ (by omega),q n hn⟩
 unfold BZ
 have e:Bv h 8 (.int (n:Nat))=some (.int (n:Nat)):=rfl
 rw [e]
 simp only
 rw [if_pos ⟨by simpa [PyData.showable] using g1,rfl,BU _,by unfold sizeLine;exact BS l1 (by decide)⟩]
 rfl
theorem TJ {fs:List (Str×Int)} {nm:Str} {i:Int} {ρ:Ai} {h:HD} {Q:D→HD→Prop} (e:fs.lookup nm=some i) (q:Q (.int i) h):Wp (JR (Ab 0) nm (some (.exc "TooMany" fs)::ρ) h) Q:=by
 unfold JR
 rw [AD,Nq]
 unfold N7
 simp only [if_pos,e]
 exact q
theorem ZbG {fs:List (Str×Int)} {a b:Int} {x y t:Str} {h:HD} (ea:fs.lookup ("many":Str)=some a) (eb:fs.lookup ("most":Str)=some b) (ra:∀h,BZ (.int a) h=.ok (.str x) h) (rb:∀h,BZ (.int b) h=.ok (.str y) h) (hx:x.length≤100) (hy:y.length≤100) (et:((("! many ":String):Str)++x++((" ":String):Str)++y)=t):
 Pu (Cf [.exc "TooMany" fs] h) h (.str t):=by
 have i0:∀h,AR (.exc "TooMany" fs) (.glo "NoBoard") h=.ok (.bl (Bm "TooMany" "NoBoard")) h:=fun h=>Ce (by decide +kernel) (by decide +kernel)
 have i1:∀h,AR (.exc "TooMany" fs) (.glo "NoLine") h=.ok (.bl (Bm "TooMany" "NoLine")) h:=fun h=>Ce (by decide +kernel) (by decide +kernel)
 have i2:∀h,AR (.exc "TooMany" fs) (.glo "NoSwitching") h=.ok (.bl (Bm "TooMany" "NoSwitching")) h:=fun h=>Ce (by decide +kernel) (by decide +kernel)
 have i3:∀h,AR (.exc "TooMany" fs) (.glo "NoNumber") h=.ok (.bl (Bm "TooMany" "NoNumber")) h:=fun h=>Ce (by decide +kernel) (by decide +kernel)
 have i4:∀h,AR (.exc "TooMany" fs) (.glo "Unlike") h=.ok (.bl (Bm "TooMany" "Unlike")) h:=fun h=>Ce (by decide +kernel) (by decide +kernel)
 have i5:∀h,AR (.exc "TooMany" fs) (.glo "NoNet") h=.ok (.bl (Bm "TooMany" "NoNet")) h:=fun h=>Ce (by decide +kernel) (by decide +kernel)
 have i6:∀h,AR (.exc "TooMany" fs) (.glo "NoPlace") h=.ok (.bl (Bm "TooMany" "NoPlace")) h:=fun h=>Ce (by decide +kernel) (by decide +kernel)
 have i7:∀h,AR (.exc "TooMany" fs) (.glo "NoText") h=.ok (.bl (Bm "TooMany" "NoText")) h:=fun h=>Ce (by decide +kernel) (by decide +kernel)
 have i8:∀h,AR (.exc "TooMany" fs) (.glo "NoRow") h=.ok (.bl (Bm "TooMany" "NoRow")) h:=fun h=>Ce (by decide +kernel) (by decide +kernel)
 have i9:∀h,AR (.exc "TooMany" fs) (.glo "TooMany") h=.ok (.bl (Bm "TooMany" "TooMany")) h:=fun h=>Ce (by decide +kernel) (by decide +kernel)
 have iv:∀h,AR (.exc "TooMany" fs) (.ty "ValueError") h=.ok (.bl true) h:=fun h=>RL (by decide +kernel)
 change Wp (AA 3 L9 [.exc "TooMany" fs] h) _
 refine Eq.mpr Bs ?_
 simp [-Aj,i0,i1,i2,i3]
 refine AX (by simp) fun l1 h1 s1 e1 _ _=>?_
 refine Eq.mpr Aj ?_
 simp [-Aj,i4,i5,i6,i7]
 refine AX (by simp) fun l2 h2 s2 e2 _ _=>?_
 refine An (Fv (s2 _ _ e1) e2) ?_
 refine AX (by simp) fun l3 h3 s3 e3 _ _=>?_
 refine Eq.mpr Aj ?_
 simp [-Aj,i8,i9]
 refine AX (by simp) fun l4 h4 s4 e4 _ _=>?_
 refine An (Fv (s4 _ _ e3) e4) ?_
 refine AX (by simp) fun l5 h5 s5 e5 _ _=>?_
 refine Eq.mpr Aj ?_
 simp [-Aj,iv,G5 e5]
 refine An ((RM (vs:=J0 "TooMany") e5 rfl rfl).trans (by rw [show He (.bl true) (J0 "TooMany")=1 by decide +kernel])) ?_
 simp [-Aj]
 refine Eq.mpr Aj ?_
 simp [-Aj]
 rw [show (9:Int)=((9:Nat):Int) from rfl]
 refine An (EJ e5 (k:=9) rfl) ?_
 simp [-Aj,show Bm "TooMany" "TooMany"=true by decide +kernel]
 refine TJ ea ?_
 refine An (ra _) ?_
 rw [Bz]
 refine An (IQ (by have:(("! many ":String):Str).length≤100:=by decide +kernel
                   omega)) ?_
 rw [Bz]
 have l1:((("! many ":String):Str)++x).length≤200:=by rw [Str.length_append];have:(("! many ":String):Str).length≤100:=by decide +kernel
                                                      omega
 refine An (IQ (by have:((" ":String):Str).length≤100:=by decide +kernel
                   omega)) ?_
 rw [Bz]
 refine TJ eb ?_
 refine An (rb _) ?_
 rw [Bz]
 have l2:((("! many ":String):Str)++x++((" ":String):Str)).length≤300:=by rw [Str.length_append];have:((" ":String):Str).length≤100:=by decide +kernel
                                                                          omega
 refine An (IQ (by omega)) ?_
 exact ⟨congrArg D.str et,(((s1.trans s2).trans s3).trans s4).trans s5⟩
theorem rp8 {h:HD}:BZ (.int 8) h=.ok (.str (("8":String):Str)) h:=rfl
theorem p_kind_net {h:HD}:Pu (Cf [.exc "NoNet" []] h) h (.str "! net"):=Ta (w:="net") (j:=5) (by decide +kernel) (by decide +kernel) (by decide +kernel) (by decide +kernel) rfl (by decide +kernel) (by decide +kernel)
theorem ZbH {cs:List Nat} {f:ME} {ρ:Ai} {h:HD} {ds:List D} {Q:D→HD→Prop} (ht:TabAt h) (hd:A2 (cs.map fun j=>(ρ[j]?).join)=some ds) (he:Er (f (ds.map some) h) h "NoNet")
 (q:∀h',Sm h h'→Q (.str "! net") h'):Wp (DW cs Cf f ρ h) Q:=
 Lz ht hd (he.we fun h' s=>⟨by decide +kernel,[],rfl,p_kind_net.wp fun h2 s2=>q h2 (s.trans s2)⟩)
def tv (p:Nat→Bool) (t:AU):Int:=if (D8 p t).2.2 then 1 else 0
def nl (p:Nat→Bool) (L:List AU):Int:=(L.map (tv p)).sum
def IT (n:Nat) (L:List AU):Prop:=∀t∈L,t.1<t.2.1∧t.2.1<n
theorem TK {n:Nat} {L:List AU} {p q:Nat→Bool} (ok:IT n L) (h:∀i,i<n→p i=q i):nl p L=nl q L:=by
 unfold nl
 refine Rn fun t ht=>?_
 have:=ok t ht
 unfold tv D8
 rw [h t.1 (by omega),h t.2.1 (by omega)]
theorem ZbI {L:List AU} {p:Nat→Bool}:nl (fun i=>!p i) L=nl p L:=by
 unfold nl
 refine Rn fun t _=>?_
 have e:D8 (fun i=>!p i) t=D8 p t:=by
  unfold D8
  have:(Bool.xor (!p t.1) (!p t.2.1))=Bool.xor (p t.1) (p t.2.1):=by cases p t.1<;>cases p t.2.1<;>rfl
  simp only [this]
 unfold tv
 rw [e]
theorem TL {k:Nat}:RR k≠[]:=fun e=>by
 have:=Mq k
 rw [e] at this
 have h2:0<2^k:=Nat.pow_pos (by decide)
 simp at this
 omega
theorem ZbJ {n:Nat} {L:List AU} (hn:1≤n) (ok:IT n L):DU ((RR (n - 1)).map fun p=>nl p L)=DU ((LL 0 n).map fun p=>nl p L):=by
 apply Int.le_antisymm
 ·obtain ⟨R,hR,e⟩:=qaL.mp (Lg (ns:=(LL 0 n).map fun p=>nl p L) (by simp [NM]))
  rw [←e]
  have key:∀R:Nat→Bool,R 0=false→DU ((RR (n - 1)).map fun p=>nl p L)≤nl R L:=fun R h0=>by
   obtain ⟨r,hr,he⟩:=TH R h0 (n - 1)
   rw [←TK ok fun i hi=>he i (by omega)]
   exact NH (qaL.mpr ⟨r,hr,rfl⟩)
  cases h0:R 0 with
  |false=>exact key R h0
  |true=>
   have:=key (fun i=>!R i) (by simp [h0])
   rwa [ZbI] at this
 ·obtain ⟨r,hr,e⟩:=qaL.mp (Lg (ns:=(RR (n - 1)).map fun p=>nl p L) (by simp [TL]))
  rw [←e]
  obtain ⟨R,hR,he⟩:=Ro (s:=0) r n
  rw [←TK ok fun i hi=>he i (by omega) (by omega)]
  exact NH (qaL.mpr ⟨R,hR,rfl⟩)
section
variable {n:Nat} {L:List AU} {h:HD}
theorem ZbK {c a b:Bool}:((if c then (1:Int) else 0)+(if a then 1 else 0)+(if b then 1 else 0)) % 2=if Bool.xor c (Bool.xor a b) then 1 else 0:=by cases c<;>cases a<;>cases b<;>rfl
theorem ZbL {r:Nat→Bool} (ok:IT n L) (le:L.length≤1000):Pu (EV [.tup (L.map AK),AM n r] h) h (.int (nl r L)):=by
 change Wp (AA 2 Ou [.tup (L.map AK),AM n r] h) _
 refine Eq.mpr Bs ?_
 simp
 refine Pu.wp (Rl (src:=[]) (xs:=L) (φ:=AK) (tv r) (fun t=>[some (.int ((t.1:Nat):Int)),some (.int ((t.2.1:Nat):Int)),some (lit t.2.2),some (AM n r)]) ?_ (fun x _=>rfl) (fun t ht h' s'=>?_) (FY le)) fun h2 s2=>?_
 ·simp [CA,Sm.refl,BN]
 ·have:=ok t ht
  have i1:∀{h:HD},Au (AM n r) (.int ((t.1:Nat):Int)) h=.ok (lit (r t.1)) h:=K7 (by omega)
  have i2:∀{h:HD},Au (AM n r) (.int ((t.2.1:Nat):Int)) h=.ok (lit (r t.2.1)) h:=K7 (by omega)
  simp [Pu,i1,i2]
  refine An (show As (lit t.2.2) (lit (r t.1)) h'=.ok (.int ((if t.2.2 then 1 else 0)+(if r t.1 then 1 else 0))) h' from rfl) ?_
  rw [Bz]
  refine An (show As (.int ((if t.2.2 then 1 else 0)+(if r t.1 then 1 else 0))) (lit (r t.2.1)) h'=.ok (.int ((if t.2.2 then 1 else 0)+(if r t.1 then 1 else 0)+(if r t.2.1 then 1 else 0))) h' from rfl) ?_
  rw [Bz]
  refine An (G6 (by decide)) ?_
  rw [Bz,ZbK]
  exact ⟨rfl,.refl _⟩
 ·exact ⟨rfl,s2⟩
theorem TN (n1:1≤n) (n8:n≤8) (ok:IT n L) (le:L.length≤1000) (hn:Pu (DI [Bx n L] h) h .non):Pu (DJ [Bx n L] h) h (.int (DU ((RR (n - 1)).map fun p=>nl p L))):=by
 change Wp (AA 3 (Mc DI EU EV) [Bx n L] h) _
 refine Eq.mpr Bs ?_
 simp [-Aj]
 refine hn.wp fun h1 s1=>?_
 refine Eq.mpr Aj ?_
 simp [-Aj]
 unfold Bx
 refine Eq.mpr WJ ?_
 refine Eq.mpr Aj ?_
 simp
 obtain ⟨d,h2,e2,l,rfl,s2,f2⟩:=(ZbA (k:=n - 1) (h:=h1) (Q:=fun d h'=>∃l,d=.loc l∧Sm h1 h'∧h'[l]?=some (.lst ((RR (n - 1)).map (AM (n - 1+1))))) (by omega) fun l h' s e=>⟨l,rfl,s,e⟩).ex
 rw [show n - 1+1=n by omega] at f2
 have hl:(RR (n - 1)).length≤128:=by
  rw [Mq]
  exact BS (IY (n:=2) (by decide) (show n - 1≤7 by omega)) (by decide)
 refine Pu.wp (Xp (src:=[(l,(RR (n - 1)).map (AM n))]) (xs:=RR (n - 1)) (φ:=AM n) (fun p=>nl p L) (fun r=>[some (AM n r),some (.tup (L.map AK))]) ?_ (fun x _=>rfl) (fun r _ h' s'=>?_) (FY (by omega)) TL) fun h3 s3=>?_
 ·simp [CA]
  rw [show (n:Int) - 1=((n - 1:Nat):Int) by omega]
  refine An e2 ?_
  rw [Bz,Hd f2]
  exact ⟨rfl,s2,fun h' s'=>G1 (s' _ _ f2)⟩
 ·simp [Pu]
  exact ZbL ok le
 ·exact ⟨rfl,s1.trans s3⟩
theorem ZbM {d:D} (p:Plain4 h d) (hz:∀x∈AI d,(AI x).length≤1000) (hb:Dv d=false):Er (DJ [d] h) h "NoNet":=by
 change We (AA 3 (Mc DI EU EV) [d] h) _ _
 refine Eq.mpr JM ?_
 simp
 exact (Zbm p hz hb).we fun h' s=>⟨rfl,rfl,s⟩
end
def HP:D→AU
 |.tup [.int a,.int b,.int c]=>(a.toNat,b.toNat,decide (c=1))
 |_=>(0,0,false)
theorem ZbN {d:D} (hb:Dv d=true) (hz:∀x∈AI d,(AI x).length≤1000):∃n L,d=Bx n L∧1≤n∧n≤8∧IT n L∧L.length≤1000:=by
 cases hT:D0 d with
 |false=>rw [Tq hT] at hb;cases hb
 |true=>
  obtain ⟨ds,rfl⟩:=GE hT
  by_cases h2:ds.length=2
  ·obtain ⟨a,b,rfl⟩:=two_of h2
   cases hbT:D0 b with
   |false=>rw [Tr hbT] at hb;cases hb
   |true=>
    obtain ⟨ts,rfl⟩:=GE hbT
    have h3:(E7 1 8 a&&(ts.all (Dl (Mk a))&&FV ts))=true:=hb
    rw [BR,BR,qaJ] at h3
    obtain ⟨hn,ht,_⟩:=h3
    obtain ⟨n,rfl,n1,n8⟩:=Ts hn
    have en:Mk (.int (n:Nat))=n:=by simp [Mk]
    rw [en] at ht
    have key:∀t∈ts,AK (HP t)=t∧(HP t).1<(HP t).2.1∧(HP t).2.1<n:=fun t hm=>by
     obtain ⟨a,b,c,rfl,f1,f2,f3,f4,f5⟩:=OV (ht t hm)
     refine ⟨?_,?_,?_⟩
     ·have hc:c=0∨c=1:=by omega
      unfold HP AK lit
      simp only
      rw [show ((a.toNat:Nat):Int)=a by omega,show ((b.toNat:Nat):Int)=b by omega]
      rcases hc with rfl |rfl<;>rfl
     ·show a.toNat<b.toNat
      omega
     ·show b.toNat<n
      omega
    refine ⟨n,ts.map HP,?_,n1,n8,fun t hm=>?_,?_⟩
    ·unfold Bx
     rw [Fe]
     have:ts.map (AK∘HP)=ts:=by
      conv=>rhs;rw [←List.map_id ts]
      exact GI fun t hm=>(key t hm).1
     rw [this]
    ·obtain ⟨x,hx,rfl⟩:=qaL.mp hm
     exact (key x hx).2
    ·rw [Cb]
     exact hz (.tup ts) (by simp [AI])
  ·rw [To h2] at hb;cases hb
def ZbO (n:Nat) (h:HD) (xs:List Nat) (ρ:Ai) (h':HD):Prop:=∃(j l:Nat) (y:Option D),xs=(List.range n).drop j∧j≤n∧ρ=[some (.int (n:Nat)),some (.loc l),y]∧Sm h h'∧h'[l]?=some (.lst ((LL 0 j).map (B3 j)))
theorem ZbP {n:Nat} {h:HD} {Q:D→HD→Prop} (hn:n≤8) (q:∀l h',Sm h h'→h'[l]?=some (.lst ((LL 0 n).map (B3 n)))→Q (.loc l) h'):Wp (EW [.int (n:Nat)] h) Q:=by
 change Wp (AA 3 Ox [.int (n:Nat)] h) _
 refine Eq.mpr Bs ?_
 simp [-Aj]
 refine AX (by simp) fun l h1 s1 e1 _ _=>?_
 refine Eq.mpr Aj ?_
 refine Eq.mpr B8 ?_
 have pw:∀k,k≤8→(LL 0 k).length≤256:=fun k hk=>by
  rw [Ll]
  exact IY (n:=2) (by decide) hk
 refine Ef (src:=[]) (xs:=List.range n) (fun i=>.int ((i:Nat):Int)) (ZbO n h) ?_ (fun ys ρ h' _=>CN) ?_ ?_
 ·simp [Fq (show n≤1000 by omega)]
  exact ⟨0,l,_,by simp,by omega,rfl,s1,e1⟩
 ·rintro x xs ρ h2 ⟨j,l2,y,ex,hj,rfl,s2,e2⟩
  obtain ⟨rfl,hk',rfl⟩:=J4 ex.symm
  refine ⟨_,rfl,?_⟩
  simp
  refine Gv (src:=[(l2,(LL 0 x).map (B3 x))]) (xs:=LL 0 x) (φ:=B3 x) (fun _=>true) (fun R=>B3 (x+1) (ext x R)) (fun R=>[some (B3 x R),some (.int ((x:Nat):Int))]) ?_ (FY (by have:=pw x (by omega);omega)) (fun R _=>rfl) (fun R _ h2 s2=>(.ok:Pu (.ok true h2) h2 true)) (fun R hR _ h3 s3=>?_) fun l3 h3 s3 e3=>?_
  ·simp [Hd e2]
   exact ⟨.refl _,fun h2 s2=>G1 (s2 _ _ e2)⟩
  ·simp [Pu]
   rw [ZbB]
   unfold B3
   rw [CW (by
    have:=MD R (List.range x)
    simp at this ⊢
    omega)]
   exact ⟨rfl,.refl _⟩
  ·rw [DG] at e3
   refine An (Fv (s3 _ _ e2) e3) ?_
   have:=pw x (by omega)
   refine AX (FY (by simp;omega)) fun l4 h4 s4 e4 _ _=>?_
   simp only [Ds]
   refine ⟨x+1,l4,_,rfl,by omega,rfl,s2.trans (s3.trans s4),?_⟩
   rw [e4,LL,Jd,Fe]
   have ea:(LL 0 x).map (B3 x)=(LL 0 x).map (B3 (x+1)):=GI fun R hR=>by rw [ZbC (n:=x) (Lk hR _ (by omega))]
   rw [ea,Nat.zero_add]
   rfl
 ·rintro ρ h2 ⟨j,l2,y,ex,hj,rfl,s2,e2⟩
  have:j=n:=Mm hj ex.symm
  subst this
  simp
  exact q _ _ s2 e2
def Mr (H W:Nat) (f:Nat→Nat→Bool) (i:Nat):List D:=(List.range W).map fun j=>.tup [.int ((i:Nat):Int),.int ((H:Int)+((j:Nat):Int)),lit (f i j)]
def DK (H W k:Nat) (f:Nat→Nat→Bool):List D:=(List.range k).flatMap (Mr H W f)
theorem TQ {H W k:Nat} {f:Nat→Nat→Bool}:DK H W (k+1) f=DK H W k f++Mr H W f k:=by
 unfold DK
 rw [Kn,List.flatMap_append,Kk,List.flatMap_nil,Fd]
theorem Ms {H W:Nat} {f:Nat→Nat→Bool}:∀k,(DK H W k f).length=k*W
 |0=>by simp [DK]
 |k+1=>by
  rw [TQ,Dw,Ms k,Nat.succ_mul]
  simp [Mr]
section
variable {H W:Nat} {h:HD} {f:Nat→Nat→Bool}
theorem ZbQ (hh:1≤H∧H≤8) (hw:1≤W∧W≤8) (hz:H+W≤8):Pu (CV [bD H W f] h) h (.tup [.int ((H:Int)+(W:Int)),.tup (DK H W H f)]):=by
 change Wp (AA 3 (JX DH) [bD H W f] h) _
 refine Eq.mpr Bs ?_
 simp [-Aj]
 refine (SV hh hw).wp fun h1 s1=>?_
 refine Eq.mpr Aj ?_
 have e8:¬(H:Int)+(W:Int)>8:=by omega
 simp [GF,JZ hh.1,Mg,e8]
 have hl:H*W≤64:=Nat.mul_le_mul hh.2 hw.2
 refine Pu.wp (YY (src:=[]) (xs:=List.range H) (φ:=fun i=>.tup [.int ((i:Nat):Int),AM W (f i)]) (Mr H W f) (fun i=>[some (.int ((i:Nat):Int)),some (AM W (f i)),none,none,some (.int (H:Nat))]) ?_ (fun x _=>rfl) (fun x hx h3 acc s3 z=>?_) ?_) fun h4 s4=>?_
 ·simp [CA,bD,NJ,Sm.refl,BN]
 ·refine Sb (src:=[]) (xs:=List.range W) (φ:=fun j=>.tup [.int ((j:Nat):Int),lit (f x j)]) _ (fun j=>[some (.int ((x:Nat):Int)),some (AM W (f x)),some (.int ((j:Nat):Int)),some (lit (f x j)),some (.int (H:Nat))]) ?_ (fun y _=>rfl) (fun y hy h5 s5=>?_) z
  ·simp [CA,AM,NJ,Sm.refl,BN]
  ·simp [Pu,Sm.refl]
 ·have:=Ms (H:=H) (W:=W) (f:=f) H
  exact FY (by unfold DK at this;omega)
 ·exact ⟨rfl,s1.trans s4⟩
theorem ZbR {x:D} (nb:NoB h x):Er (CV [x] h) h "NoBoard":=by
 change We (AA 3 (JX DH) [x] h) _ _
 refine Eq.mpr JM ?_
 simp
 exact (ZaL nb.1 nb.2).we fun h' s=>⟨rfl,rfl,s⟩
theorem ZbS (hh:1≤H∧H≤8) (hw:1≤W∧W≤8) (hz:8<H+W):Et (CV [bD H W f] h) h "TooMany" [("many",.int ((H+W:Nat):Int)),("most",.int 8)]:=by
 change We (AA 3 (JX DH) [bD H W f] h) _ _
 refine Eq.mpr JM ?_
 simp
 refine (SV hh hw).we fun h1 s1=>?_
 have e:(H:Int)+(W:Int)>8:=by omega
 obtain ⟨t,ht⟩:=ZbE (n:=H+W) (m:=8) (by omega) (by decide)
 have ht:∀h,EO [none,some (.int ((H+W:Nat):Int)),some (.int 8)] h=.ok (.str t) h:=ht
 rw [show ((H+W:Nat):Int)=(H:Int)+(W:Int) by omega] at ht
 simp [GF,JZ hh.1,Mg,e,ZbD,ht]
 exact s1
theorem ZbT {n n' L:Nat} {d:D} (h:Rp n L d) (hn:n≤n'):Rp n' L d:=by
 obtain ⟨p,a1,a2,a3,a4,a5⟩:=h
 exact ⟨p,fun h m=>by have:=a1 h (n' - n+m);rwa [show n+(n' - n+m)=n' + m by omega] at this,a2,a3,BS a4 hn,a5⟩
theorem ZbU (hh:H≤8) (hw:W≤8) (hz:H+W≤8):∃x:Str,∀h,BZ (.tup [.int ((H:Int)+(W:Int)),.tup (DK H W H f)]) h=.ok (.str x) h:=by
 have hl:=Ms (H:=H) (W:=W) (f:=f) H
 have hl2:H*W≤64:=Nat.mul_le_mul hh hw
 have ht:∀d∈DK H W H f,Rp 1 15 d:=fun d hd=>by
  unfold DK at hd
  obtain ⟨i,hi,hd⟩:=qcE.mp hd
  obtain ⟨j,hj,rfl⟩:=qaL.mp hd
  have hi:=qbH.mp hi
  have hj:=qbH.mp hj
  exact NX (n:=0) (k:=3) (L:=2) (all_cons (LA (by omega) (by omega)) (all_cons (LA (by omega) (by omega)) (all_cons (LA (by split<;>decide) (by split<;>decide)) AV))) (by simp)
 have h2:Rp 2 (64*17+3) (.tup (DK H W H f)):=NX (n:=1) (k:=64) (L:=15) ht (by omega)
 refine Yl (n:=3) (L:=2*(64*17+3+2)+3) (NX (n:=2) (k:=2) (L:=64*17+3) (all_cons ?_ (all_cons h2 AV)) (by simp)) (by decide) (by unfold sizeLine;decide)
 exact ZbT (n:=0) (Yk (L:=2) (LA (by omega) (by omega)) (by decide)) (by decide)
end
@[irreducible] noncomputable def J5:MS:=Ay 2 (Ah EY (Aa (Ab 0) (Aa (Ab 1) (Ad))))
@[irreducible] noncomputable def J6:MS:=Ay 3 (Ah E2 (Aa (Ab 2) (Ad)))
@[irreducible] noncomputable def J7:MS:=Ay 4 (Bf [none,some 3] (BV (Ah EW (Aa (Ag Au (Ab 3) (mC (.int 0))) (Ad)))) (A7 0) (Bq) (Ah (Aq Gq) (Aa (Bf [none] (BV (Ag Au (Ah EX (Aa (Ab 1) (Aa (Ab 0) (Ad)))) (mC (.int 1)))) (A7 0) (Bq) (Ag Au (Ab 0) (mC (.int 2)))) (Ad))))
@[irreducible] noncomputable def J8:MS:=Bh (Bj (Ag B5 (Ah (Aq BZ) (Aa (Ah DJ (Aa (Ab 3) (Ad))) (Ad))) (Ah (Aq BZ) (Aa (Ah (Aq (FO DU)) (Aa (Ab 4) (Ad))) (Ad))))) (AL (mC (.bl false))) (Bo)
@[irreducible] noncomputable def J9:MS:=GZ 5 6 (Aa (Ag As (mC (.int 1)) (Ah AB (Aa (Ab 2) (Aa (mC (.int 8)) (Ad))))) (Aa (Ag As (mC (.int 1)) (Ah AB (Aa (Ab 2) (Aa (mC (.int 8)) (Ad))))) (Ad)))
@[irreducible] noncomputable def Ka:MS:=Ay 7 (Ag As (mC (.int 1)) (Ah AB (Aa (Ab 2) (Aa (Ah (Br Gi) (Aa (Ab 5) (Aa (mC (.int 7)) (Ad)))) (Ad)))))
@[irreducible] noncomputable def O2:MS:=Ay 10 (Be (Ad))
@[irreducible] noncomputable def Mt:MS:=Ay 10 (Ag As (Ab 10) (Bf [none,none,some 11,some 8] (Hb (Aa (Ag Au (Ab 8) (Ab 11)) (Ad))) (De 0 1) (Bq) (Ax (Aa (Ab 2) (Aa (Ag As (Ah (Aq Bk) (Aa (Ab 3) (Ad))) (Ab 0)) (Aa (Ab 1) (Ad)))))))
@[irreducible] noncomputable def O3:MS:=B4 (CO (Aa (Ah (Aq Bk) (Aa (Ab 8) (Ad))) (Ad))) (A7 11) Mt
@[irreducible] noncomputable def O4:MS:=Bh (Bj (Ag B5 (Ah (Aq BZ) (Aa (Ah CV (Aa (Ab 8) (Ad))) (Ad))) (Ah (Aq BZ) (Aa (Ax (Aa (Ab 9) (Aa (Ah (Aq Cy) (Aa (Ab 10) (Ad))) (Ad)))) (Ad))))) (AL (mC (.bl false))) (Bo)
@[irreducible] noncomputable def Mu:MS:=Ay 9 (Ag As (Ah (Aq Bk) (Aa (Ab 8) (Ad))) (Ah (Aq Bk) (Aa (Ag Au (Ab 8) (mC (.int 0))) (Ad))))
@[irreducible] noncomputable def Mv:MS:=Bh (Bj (Ag GX (Ab 9) (mC (.int 8)))) (Bh (Bj (Ag B5 (DW [8] Cf (Ah CV (Aa (Ab 0) (Ad)))) (Ag As (Ag As (mC (.str "! many ")) (Ah (Aq strOfD) (Aa (Ab 9) (Ad)))) (mC (.str " 8"))))) (AL (mC (.bl false))) (Bo)) (Al O2 (Al O3 O4))
@[irreducible] noncomputable def Kb:MS:=B4 (BV (Be (Aa (Ah DX (Aa (Ab 2) (Aa (Ab 5) (Aa (Ab 6) (Ad))))) (Aa (Ah DX (Aa (Ab 2) (Aa (Ab 7) (Aa (Ag As (mC (.int 1)) (Ah AB (Aa (Ab 2) (Aa (Ag KO (mC (.int 8)) (Ab 7)) (Ad))))) (Ad))))) (Ad))))) (A7 8) (Al Mu Mv)
@[irreducible] noncomputable def O5:MS:=EB (Ei [13,14]) (Ax (Aa (Ah E1 (Aa (Ab 2) (Aa (Ab 3) (Ad)))) (Aa (Ah EZ (Aa (Ab 2) (Aa (Ab 8) (Ad)))) (Ad))))
@[irreducible] noncomputable def Mw:MS:=Bh (Bj (Ag B5 (DW [13] Cf (Ah DJ (Aa (Ab 0) (Ad)))) (Ag Au (Be (Aa (mC (.str "! net")) (Aa (mC (.str "told")) (Ad)))) (Ah (Aq Fm) (Aa (Ah B2 (Aa (Ab 13) (Ad))) (Ad)))))) (AL (mC (.bl false))) (Bo)
@[irreducible] noncomputable def O6:MS:=Bh (Bj (Ag B5 (DW [14] Cf (Ah CV (Aa (Ab 0) (Ad)))) (mC (.str "! board")))) (AL (mC (.bl false))) (Bo)
@[irreducible] noncomputable def Kc:MS:=B4 (CO (Aa (mC (.int 3)) (Ad))) (A7 12) (Al O5 (Al Mw O6))
theorem ZbV {it:MI} {sg:MG} {body:MS} {Q:Fl×Ai→HD→Prop} {ρ:Ai} {h:HD} (I:List D→Ai→HD→Prop) (hi:Wp (it ρ h) fun x h'=>∃l ds,x=(ds,[(l,ds)])∧h'[l]?=some (.lst ds)∧I ds ρ h')
 (step:∀d ds ρ h,I (d::ds) ρ h→∃ρ1,sg d ρ=some ρ1∧Wp (body ρ1 h) (fun y h'=>Sm h h'∧Ds (I ds) Q y h')) (done:∀ρ h,I [] ρ h→Q (.nx,ρ) h):Wp (B4 it sg body ρ h) Q:=by
 unfold B4
 rw [AD]
 refine Wp.mono hi fun x h1 z=>?_
 obtain ⟨l,ds,rfl,el,i⟩:=z
 have:=K5 (src:=[(l,ds)]) (items:=ds) (sg:=sg) (body:=body) (Q:=Q) (fun d:D=>d) (fun xs ρ h=>h[l]?=some (.lst ds)∧I xs ρ h) (fun xs ρ h z=>G1 z.1) (fun d xs ρ h z=>by
  obtain ⟨ρ1,e,w⟩:=step d xs ρ h z.2
  refine ⟨ρ1,e,Wp.mono w fun y h' zz=>?_⟩
  obtain ⟨s,kk⟩:=zz
  obtain ⟨fl,ρ2⟩:=y
  cases fl with
  |nx=>exact ⟨s _ _ z.1,kk⟩
  |ct=>exact ⟨s _ _ z.1,kk⟩
  |bk=>exact kk
  |rt d=>exact kk) (fun ρ h z=>done ρ h z.2) ds ρ h1 ⟨el,i⟩
 rwa [List.map_id''] at this
 exact fun _=>rfl
theorem ZbW:∀n<150,(((toString ((n:Nat):Int)):String):Str).length≤3:=by decide +kernel
theorem ZbX:∀n<150,((n:Nat):Int).natAbs.log2<1920:=by decide +kernel
theorem ZbY {n:Nat} (hn:n<150):∃x:Str,∀h,BZ (.int (n:Nat)) h=.ok (.str x) h:=by
 have l1:=ZbW n hn
 have g1:=ZbX n hn
 refine ⟨(((toString ((n:Nat):Int)):String):Str),fun h=>?_⟩
 unfold BZ
 have e:Bv h 8 (.int (n:Nat))=some (.int (n:Nat)):=rfl
 rw [e]
 simp only
 rw [if_pos ⟨by simpa [PyData.showable] using g1,rfl,BU _,by unfold sizeLine;exact BS l1 (by decide)⟩]
 rfl
theorem ZbZ {L:List AU} {p:Nat→Bool}:0≤nl p L∧nl p L≤(L.length:Nat):=by
 unfold nl
 induction L with
 |nil=>simp
 |cons t L ih=>
  have:0≤tv p t∧tv p t≤1:=by unfold tv;split<;>decide
  simp
  omega
theorem Zb0 {n:Nat} {L:List AU} {h:HD}:Au (Bx n L) (.int 0) h=.ok (.int (n:Nat)) h:=rfl
theorem Zb1 {n:Nat} {L:List AU} {h:HD}:Au (Bx n L) (.int 1) h=.ok (.tup (L.map AK)) h:=rfl
theorem TR {n:Nat} {L:List AU} (k:Dm n L):IT n L:=k.ok
def Ba (ns:List Int) (k b n:Nat) (L:List AU) (c4 c5 c6 c7 c8 c9 c10 c11 c12 c13 c14:Option D):Ai:=[some (.scr ns),some (.int (k:Nat)),some (.loc b),some (Bx n L),c4,c5,c6,c7,c8,c9,c10,c11,c12,c13,c14]
section
variable {ns:List Int} {k b n:Nat} {L:List AU} {h:HD} {f:Nat→Nat→Bool} {H W:Nat} {c2 c3 c4 c5 c6 c7 c8 c9 c10 c11 c12 c13 c14:Option D} {Q:Fl×Ai→HD→Prop}
theorem st0 (hb:∀i∈ns,Builtin.Int.intBits i≤2^20) (hk:k≤1000) (ht:TabAt h) (q:∀b h',0<b→BoxAt h' b→TabAt h'→Q (.nx,[some (.scr ns),some (.int (k:Nat)),some (.loc b),c3,c4,c5,c6,c7,c8,c9,c10,c11,c12,c13,c14]) h'):Wp (J5 [some (.scr ns),some (.int (k:Nat)),c2,c3,c4,c5,c6,c7,c8,c9,c10,c11,c12,c13,c14] h) Q:=by
 unfold J5
 simp
 refine ZaI hb hk fun b h1 x1 lb s1=>q b h1 (by have:=ht.pos;omega) x1 (ht.sm s1)
theorem O7 (hb:0<b) (bx:BoxAt h b) (ht:TabAt h) (q:∀n L h',Dm n L→BoxAt h' b→TabAt h'→Q (.nx,Ba ns k b n L c4 c5 c6 c7 c8 c9 c10 c11 c12 c13 c14) h'):Wp (J6 [some (.scr ns),some (.int (k:Nat)),some (.loc b),c3,c4,c5,c6,c7,c8,c9,c10,c11,c12,c13,c14] h) Q:=by
 unfold J6
 simp
 exact Zbt bx hb ht fun n L h1 ko x1 t1 s1=>q n L h1 ko x1 t1
theorem Cr (ko:Dm n L) (q:∀l h',Sm h h'→h'[l]?=some (.lst ((LL 0 n).map fun p=>.int (nl p L)))→Q (.nx,Ba ns k b n L (some (.loc l)) c5 c6 c7 c8 c9 c10 c11 c12 c13 c14) h'):Wp (J7 (Ba ns k b n L c4 c5 c6 c7 c8 c9 c10 c11 c12 c13 c14) h) Q:=by
 unfold J7
 refine Eq.mpr JB ?_
 have n8:=ko.n8
 obtain ⟨d,h2,e2,l,rfl,s2,f2⟩:=(ZbP (n:=n) (h:=h) (Q:=fun d h'=>∃l,d=.loc l∧Sm h h'∧h'[l]?=some (.lst ((LL 0 n).map (B3 n)))) n8 fun l h' s e=>⟨l,rfl,s,e⟩).ex
 have hl:(LL 0 n).length≤256:=by
  rw [Ll]
  exact IY (n:=2) (by decide) n8
 refine Gv (src:=[(l,(LL 0 n).map (B3 n))]) (xs:=LL 0 n) (φ:=B3 n) (fun _=>true) (fun p=>.int (nl p L)) (fun p=>[some (B3 n p),some (Bx n L)]) ?_ (FY (by omega)) (fun x _=>rfl) (fun x _ h' s'=>(.ok:Pu (.ok true h') h' true)) (fun p _ _ h' s'=>?_) fun l3 h3 s3 e3=>?_
 ·simp [Ba,Zb0]
  refine An e2 ?_
  rw [Bz,Hd f2]
  exact ⟨rfl,s2,fun h' s'=>G1 (s' _ _ f2)⟩
 ·simp [Pu]
  refine Pu.wp (Rl (src:=[]) (xs:=L) (φ:=fun t=>AK (D8 p t)) (tv p) (fun t=>[some (AK (D8 p t))]) ?_ (fun x _=>rfl) (fun t _ h' s'=>?_) (FY (by have:=ko.le;omega))) fun h4 s4=>?_
  ·simp [CA]
   refine (Zbn ko).wp fun h5 s5=>?_
   simp [Zb1]
   exact ⟨s5,fun _ _=>CN⟩
  ·simp only [Pu,QL,Nq,WL]
   refine An (show Au (AK (D8 p t)) (.int 2) h'=.ok (lit (D8 p t).2.2) h' from rfl) ?_
   exact ⟨rfl,.refl _⟩
  ·exact ⟨rfl,s4⟩
 ·rw [DG] at e3
  exact q l3 h3 s3 e3
theorem IU {l:Nat} (ko:Dm n L) (e:h[l]?=some (.lst ((LL 0 n).map fun p=>.int (nl p L)))) (q:∀h',Sm h h'→Q (.nx,Ba ns k b n L (some (.loc l)) c5 c6 c7 c8 c9 c10 c11 c12 c13 c14) h'):Wp (J8 (Ba ns k b n L (some (.loc l)) c5 c6 c7 c8 c9 c10 c11 c12 c13 c14) h) Q:=by
 unfold J8
 have ev:=ZbJ ko.n1 (TR ko)
 obtain ⟨y,ry⟩:∃x:Str,∀h,BZ (.int (DU ((LL 0 n).map fun p=>nl p L))) h=.ok (.str x) h:=by
  obtain ⟨p,_,e⟩:=qaL.mp (Lg (ns:=(LL 0 n).map fun p=>nl p L) (by simp [NM]))
  have b1:=ZbZ (L:=L) (p:=p)
  have:=ko.le
  rw [←e]
  obtain ⟨x,hx⟩:=ZbY (n:=(nl p L).toNat) (by omega)
  rw [show (((nl p L).toNat:Nat):Int)=nl p L by omega] at hx
  exact ⟨x,hx⟩
 simp [Ba]
 refine (TN ko.n1 ko.n8 (TR ko) (by have:=ko.le;omega) (Zbl ko)).wp fun h1 s1=>?_
 rw [ev]
 refine An (ry h1) ?_
 rw [Bz]
 refine An (Ri (ns:=(LL 0 n).map fun p=>nl p L) (by rw [s1 _ _ e,Fe];rfl) (by simp [NM])) ?_
 rw [Bz]
 refine An (ry h1) ?_
 simp
 exact q h1 s1
theorem Mx (hb:0<b) (bx:BoxAt h b) (ht:TabAt h) (q:∀H W h',(1≤H∧H≤8)→(1≤W∧W≤8)→BoxAt h' b→TabAt h'→Q (.nx,Ba ns k b n L c4 (some (.int (H:Nat))) (some (.int (W:Nat))) c7 c8 c9 c10 c11 c12 c13 c14) h'):Wp (J9 (Ba ns k b n L c4 c5 c6 c7 c8 c9 c10 c11 c12 c13 c14) h) Q:=by
 unfold J9
 simp [Ba]
 refine D3 bx hb ht (by decide) (by decide) fun d h1 l1 x1 t1 s1=>?_
 simp
 refine D3 x1 hb t1 (by decide) (by decide) fun d2 h2 l2 x2 t2 s2=>?_
 simp
 have:=q (1+d) (1+d2) h2 (by omega) (by omega) x2 t2
 rwa [show ((1+d:Nat):Int)=1+(d:Int) by omega,show ((1+d2:Nat):Int)=1+(d2:Int) by omega] at this
theorem E8 (hh:1≤H∧H≤8) (hb:0<b) (bx:BoxAt h b) (ht:TabAt h) (q:∀e h',(1≤e∧e≤7)→BoxAt h' b→TabAt h'→Q (.nx,Ba ns k b n L c4 (some (.int (H:Nat))) c6 (some (.int (e:Nat))) c8 c9 c10 c11 c12 c13 c14) h'):Wp (Ka (Ba ns k b n L c4 (some (.int (H:Nat))) c6 c7 c8 c9 c10 c11 c12 c13 c14) h) Q:=by
 unfold Ka
 obtain ⟨m,em,m1,m7⟩:∃m:Nat,(if (7:Int)<(H:Int) then (7:Int) else (H:Int))=(m:Int)∧1≤m∧m≤7:=by
  by_cases z:(7:Int)<(H:Int)
  ·exact ⟨7,by rw [if_pos z];rfl,by decide,by decide⟩
  ·exact ⟨H,by rw [if_neg z],by omega,by omega⟩
 have e1:∀h,Gi (.int (H:Nat)) (.int 7) h=.ok (.int (m:Nat)) h:=fun h=>by rw [QP,em]
 simp [Ba,-QP,e1]
 refine D3 bx hb ht (by omega) (by omega) fun d h1 l1 x1 t1 s1=>?_
 simp
 have:=q (1+d) h1 (by omega) x1 t1
 rwa [show ((1+d:Nat):Int)=1+(d:Int) by omega] at this
def Bd (d:D):Prop:=∃H W f,d=bD H W f∧(1≤H∧H≤8)∧(1≤W∧W≤8)
theorem u0 (hh:1≤H∧H≤8) (q:Q (.nx,Ba ns k b n L c4 c5 c6 c7 (some (bD H W f)) (some (.int ((H:Int)+(W:Int)))) c10 c11 c12 c13 c14) h):Wp (Mu (Ba ns k b n L c4 c5 c6 c7 (some (bD H W f)) c9 c10 c11 c12 c13 c14) h) Q:=by
 unfold Mu
 simp [Ba,GF,JZ hh.1,Mg]
 exact q
def Lr (ns:List Int) (k b n:Nat) (L:List AU) (c4 c5 c6 c7:Option D) (H W:Nat) (f:Nat→Nat→Bool) (c9 c12 c13 c14:Option D) (h:HD) (xs:List Nat) (ρ:Ai) (h':HD):Prop:=∃(j l:Nat) (c11:Option D),xs=(List.range H).drop j∧j≤H∧ρ=Ba ns k b n L c4 c5 c6 c7 (some (bD H W f)) c9 (some (.loc l)) c11 c12 c13 c14∧Sm h h'∧h'[l]?=some (.lst (DK H W j f))
theorem rr0 {l x:Nat} (hh:1≤H∧H≤8) (hw:1≤W∧W≤8) (hx:x<H) (e:h[l]?=some (.lst (DK H W x f))) (q:∀l h',Sm h h'→h'[l]?=some (.lst (DK H W (x+1) f))→Q (.nx,Ba ns k b n L c4 c5 c6 c7 (some (bD H W f)) c9 (some (.loc l)) (some (.int (x:Nat))) c12 c13 c14) h'):Wp (Mt (Ba ns k b n L c4 c5 c6 c7 (some (bD H W f)) c9 (some (.loc l)) (some (.int (x:Nat))) c12 c13 c14) h) Q:=by
 unfold Mt
 simp [Ba]
 refine Gv (src:=[]) (xs:=List.range W) (φ:=fun j=>.tup [.int ((j:Nat):Int),lit (f x j)]) (fun _=>true) (fun j=>.tup [.int ((x:Nat):Int),.int ((H:Int)+((j:Nat):Int)),lit (f x j)]) (fun j=>[some (.int ((j:Nat):Int)),some (lit (f x j)),some (.int (x:Nat)),some (bD H W f)]) ?_ (sz hw.2) (fun x _=>rfl) (fun x _ h' s'=>(.ok:Pu (.ok true h') h' true)) (fun j _ _ h' s'=>?_) fun l3 h3 s3 e3=>?_
 ·simp [SY hx]
  unfold AM
  rw [NJ]
  simp [Sm.refl,BN]
 ·simp [Pu,GF,Sm.refl]
 ·rw [DG] at e3
  refine An (Fv (s3 _ _ e) e3) ?_
  have hl:=Ms (H:=H) (W:=W) (f:=f) x
  have:x*W≤8*8:=Nat.mul_le_mul (by omega) hw.2
  refine AX (FY (by simp;omega)) fun l4 h4 s4 e4 _ _=>?_
  refine q l4 h4 (s3.trans s4) ?_
  rw [e4,TQ]
  rfl
theorem u1 (hh:1≤H∧H≤8) (hw:1≤W∧W≤8) (ht:TabAt h) (q:∀c10 c11 h',Sm h h'→Q (.nx,Ba ns k b n L c4 c5 c6 c7 (some (bD H W f)) (some (.int ((H:Int)+(W:Int)))) c10 c11 c12 c13 c14) h'):Wp (Mv (Ba ns k b n L c4 c5 c6 c7 (some (bD H W f)) (some (.int ((H:Int)+(W:Int)))) c10 c11 c12 c13 c14) h) Q:=by
 unfold Mv
 by_cases hz:8<H+W
 ·have e:(H:Int)+(W:Int)>8:=by omega
  obtain ⟨x,t,rx,lx,ex,sx,et⟩:=ZbF (n:=H+W) (by omega)
  simp [Ba,e]
  refine Lz (ds:=[bD H W f]) ht rfl (Et.we (h:=h) (n:="TooMany") (fs:=[("many",.int ((H+W:Nat):Int)),("most",.int 8)]) ?_ fun h1 s1=>⟨by decide +kernel,[("many",((H+W:Nat):Int)),("most",8)],rfl,(ZbG (x:=x) (y:=(("8":String):Str)) (t:=t) rfl rfl rx (fun _=>rp8) lx (by decide) ex).wp fun h2 s2=>?_⟩)
  ·unfold Et
   simp
   exact ZbS hh hw hz
  ·rw [show (H:Int)+(W:Int)=((H+W:Nat):Int) by omega]
   refine An (sx h2) ?_
   rw [Bz]
   refine An (IQ (by have:(("! many ":String):Str).length≤100:=by decide +kernel
                     omega)) ?_
   rw [Bz]
   have l1:((("! many ":String):Str)++x).length≤200:=by
    rw [Str.length_append]
    have:(("! many ":String):Str).length≤100:=by decide +kernel
    omega
   refine An (IQ (by have:((" 8":String):Str).length≤100:=by decide +kernel
                     omega)) ?_
   rw [Bz,et]
   simp
   exact q _ _ h2 (s1.trans s2)
 ·have e:¬(H:Int)+(W:Int)>8:=by omega
  simp [Ba,e,-Aj]
  unfold O2
  simp [-Aj]
  refine AX (by simp) fun l h1 s1 e1 _ _=>?_
  refine Eq.mpr Aj ?_
  refine Eq.mpr B8 ?_
  unfold O3
  refine Ef (src:=[]) (xs:=List.range H) (fun i=>.int ((i:Nat):Int)) (Lr ns k b n L c4 c5 c6 c7 H W f (some (.int ((H:Int)+(W:Int)))) c12 c13 c14 h) ?_ (fun ys ρ h' _=>CN) ?_ ?_
  ·simp [GF,Fq (show H≤1000 by omega)]
   exact ⟨0,l,_,by simp,by omega,rfl,s1,e1⟩
  ·rintro x xs ρ h2 ⟨j,l2,d11,ex,hj,rfl,s2,e2⟩
   obtain ⟨rfl,hk',rfl⟩:=J4 ex.symm
   refine ⟨_,rfl,?_⟩
   refine rr0 hh hw hk' e2 fun l3 h3 s3 e3=>?_
   exact ⟨x+1,l3,_,rfl,by omega,rfl,s2.trans s3,e3⟩
  ·rintro ρ h2 ⟨j,l2,d11,ex,hj,rfl,s2,e2⟩
   have:j=H:=Mm hj ex.symm
   subst this
   refine Eq.mpr Aj ?_
   unfold O4
   obtain ⟨y,ry⟩:=ZbU (H:=j) (W:=W) (f:=f) hh.2 hw.2 (by omega)
   simp [Ba]
   refine (ZbQ hh hw (by omega)).wp fun h3 s3=>?_
   refine An (ry h3) ?_
   rw [Bz]
   refine An (JF (s3 _ _ e2)) ?_
   simp only [Bz,Gu]
   try simp
   refine An (ry h3) ?_
   simp
   exact q _ _ h3 (s2.trans s3)
def L6 (ns:List Int) (k b n:Nat) (L:List AU) (c4 c5 c6 c7 c12 c13 c14:Option D) (h:HD) (xs:List D) (ρ:Ai) (h':HD):Prop:=∃c8 c9 c10 c11,ρ=Ba ns k b n L c4 c5 c6 c7 c8 c9 c10 c11 c12 c13 c14∧BoxAt h' b∧TabAt h'∧(∀d∈xs,Bd d)∧(xs.length=2∨∃d,c8=some d∧Bd d)
theorem st6 {e:Nat} (hh:1≤H∧H≤8) (hw:1≤W∧W≤8) (he:1≤e∧e≤7) (hb:0<b) (bx:BoxAt h b) (ht:TabAt h) (q:∀H' W' f' c9 c10 c11 h',(1≤H'∧H'≤8)→(1≤W'∧W'≤8)→BoxAt h' b→TabAt h'→Q (.nx,Ba ns k b n L c4 (some (.int (H:Nat))) (some (.int (W:Nat))) (some (.int (e:Nat))) (some (bD H' W' f')) c9 c10 c11 c12 c13 c14) h'):Wp (Kb (Ba ns k b n L c4 (some (.int (H:Nat))) (some (.int (W:Nat))) (some (.int (e:Nat))) c8 c9 c10 c11 c12 c13 c14) h) Q:=by
 unfold Kb
 refine ZbV (L6 ns k b n L c4 (some (.int (H:Nat))) (some (.int (W:Nat))) (some (.int (e:Nat))) c12 c13 c14 h) ?_ ?_ ?_
 ·simp [Ba]
  refine S9 bx hh hw fun f1 h1 x1 s1=>?_
  try simp
  have t1:=ht.smx s1 hb
  refine D3 x1 hb t1 (by omega) (by omega) fun d h2 l2 x2 t2 s2=>?_
  simp
  rw [show (1:Int)+(d:Int)=((1+d:Nat):Int) by omega]
  refine S9 x2 (by omega) (by omega) fun f2 h3 x3 s3=>?_
  refine AX (by simp) fun l h4 s4 e4 _ _=>?_
  rw [Hd e4]
  refine ⟨l,_,rfl,e4,_,_,_,_,rfl,x3.sm s4,(t2.smx s3 hb).sm s4,?_,.inl rfl⟩
  exact all_cons ⟨_,_,_,rfl,hh,hw⟩ <| all_cons ⟨_,_,_,rfl,by omega,by omega⟩ AV
 ·rintro d xs ρ h1 ⟨d8,d9,d10,d11,rfl,x1,t1,hd,_⟩
  obtain ⟨H1,W1,f1,rfl,b1,w1⟩:=hd d A0
  refine ⟨_,rfl,?_⟩
  rw [B8]
  refine u0 b1 ?_
  rw [Aj]
  refine u1 b1 w1 t1 fun e10 e11 h2 s2=>?_
  exact ⟨s2,_,_,_,_,rfl,x1.sm s2,t1.sm s2,fun d hd'=>hd d (A5 _ hd'),.inr ⟨_,rfl,_,_,_,rfl,b1,w1⟩⟩
 ·rintro ρ h1 ⟨d8,d9,d10,d11,rfl,x1,t1,hd,h8⟩
  rcases h8 with z |⟨d,rfl,H1,W1,f1,rfl,b1,w1⟩
  ·cases z
  ·exact q _ _ _ _ _ _ h1 b1 w1 x1 t1
def L7 (ns:List Int) (k b n:Nat) (L:List AU) (c4 c5 c6 c7 c8 c9 c10 c11:Option D) (xs:List Nat) (ρ:Ai) (h':HD):Prop:=∃c12 c13 c14,ρ=Ba ns k b n L c4 c5 c6 c7 c8 c9 c10 c11 c12 c13 c14∧BoxAt h' b∧TabAt h'
theorem w1 {d:D} (ht:TabAt h) (th:ThN b h d) (q:∀h',Sm h h'→Q (.nx,Ba ns k b n L c4 c5 c6 c7 c8 c9 c10 c11 c12 (some d) c14) h'):Wp (Mw (Ba ns k b n L c4 c5 c6 c7 c8 c9 c10 c11 c12 (some d) c14) h) Q:=by
 unfold Mw
 simp [Ba]
 have rest:∀(t:Str) (h1:HD),Sm h h1→(([D.str "! net",D.str "told"]:List D)[if Dv d then 1 else 0]?=some (.str t))→Wp (CL [D.str "! net",D.str "told"] h1) (fun x h2=>Wp (B2 [d] h2) fun y h3=>Wp (Fm y h3) fun z h4=>Wp (Au x z h4) fun w h5=>Wp (B5 (.str t) w h5) fun x h6=>Wp (Ij x h6) fun b_1 h7=>Wp (if b_1=true then AL (mC (D.bl false)) (Ba ns k b n L c4 c5 c6 c7 c8 c9 c10 c11 c12 (some d) c14) h7 else Bo (Ba ns k b n L c4 c5 c6 c7 c8 c9 c10 c11 c12 (some d) c14) h7) Q):=fun t h1 s1 ht=>by
  refine AX (by simp) fun l h2 s2 e2 _ _=>?_
  refine (Ml (th.1.sm (s1.trans s2)) th.2.1).wp fun h3 s3=>?_
  simp
  have hi:Au (.loc l) (.int (if Dv d=true then 1 else 0)) h3=.ok (.str t) h3:=by
   have:=EJ (s3 _ _ e2) (k:=if Dv d then 1 else 0) ht
   rw [←this]
   cases Dv d<;>rfl
  refine An hi ?_
  simp
  exact q h3 ((s1.trans s2).trans s3)
 cases hb:Dv d with
 |true=>
  obtain ⟨n',L',rfl,n1,n8,ok,le⟩:=ZbN hb th.2.1
  have hn:Pu (DI [Bx n' L'] h) h .non:=by
   change Wp (AA 1 (JW B2) [Bx n' L'] h) _
   refine Eq.mpr Bs ?_
   simp
   refine (Ml th.1 th.2.1).wp fun h1 s1=>?_
   simp [hb]
   exact s1
  refine Lz (ds:=[Bx n' L']) ht rfl ?_
  simp
  refine (TN n1 n8 ok le hn).we fun h1 s1=>?_
  exact rest _ h1 s1 (by rw [hb];rfl)
 |false=>
  refine ZbH (ds:=[d]) ht rfl ?_ fun h1 s1=>?_
  ·unfold Er
   simp
   exact ZbM th.1 th.2.1 hb
  ·exact rest _ h1 s1 (by rw [hb];rfl)
theorem FZ (ko:Dm n L) (hh:1≤H∧H≤8) (hw:1≤W∧W≤8) (hb:0<b) (bx:BoxAt h b) (ht:TabAt h) (q:∀c12 c13 c14 h',TabAt h'→Q (.nx,Ba ns k b n L c4 c5 c6 c7 (some (bD H W f)) c9 c10 c11 c12 c13 c14) h'):Wp (Kc (Ba ns k b n L c4 c5 c6 c7 (some (bD H W f)) c9 c10 c11 c12 c13 c14) h) Q:=by
 unfold Kc
 refine Ef (src:=[]) (xs:=List.range 3) (fun i=>.int ((i:Nat):Int)) (L7 ns k b n L c4 c5 c6 c7 (some (bD H W f)) c9 c10 c11) ?_ (fun ys ρ h' _=>CN) ?_ ?_
 ·simp [Ba,show G2 [.int 3] h=.ok ((List.range 3).map fun k=>D.int ((k:Nat):Int),[]) h from Fq (n:=3) (by decide)]
  exact ⟨_,_,_,rfl,bx,ht⟩
 ·rintro x xs ρ h1 ⟨d12,d13,d14,rfl,x1,t1⟩
  refine ⟨_,rfl,?_⟩
  refine Eq.mpr B8 ?_
  unfold O5
  simp [-Aj,Ba]
  refine Zby x1 hb t1 ko fun d h2 th x2 t2 s2=>?_
  refine ZaZ x2 hb t2 hh hw fun d' h3 nb x3 t3 s3=>?_
  try simp [-Aj]
  refine Eq.mpr Aj ?_
  refine Eq.mpr B8 ?_
  refine w1 t3 (th.smx s3 x3) fun h4 s4=>?_
  refine Eq.mpr Aj ?_
  unfold O6
  simp [-Aj,Ba]
  refine Za2 (ds:=[d']) (t3.sm s4) rfl ?_ fun h5 s5=>?_
  ·unfold Er
   simp
   exact ZbR (nb.sm s4)
  ·simp [Ds]
   exact ⟨_,_,_,rfl,(x3.sm s4).sm s5,(t3.sm s4).sm s5⟩
 ·rintro ρ h1 ⟨d12,d13,d14,rfl,x1,t1⟩
  exact q _ _ _ h1 t1
theorem Zb2 {a2 a3 a4 a5 a6 a7 a8 a9 a10 a11 a12 a13 a14:Option D} (hb:∀i∈ns,Builtin.Int.intBits i≤2^20) (hk:k≤1000) (ht:TabAt h)
 (q:∀(b2 b3 b4 b5 b6 b7 b8 b9 b10 b11 b12 b13 b14:Option D) h',TabAt h'→Q (.nx,[some (.scr ns),some (.int (k:Nat)),b2,b3,b4,b5,b6,b7,b8,b9,b10,b11,b12,b13,b14]) h'):
 Wp (Al J5 (Al J6 (Al J7 (Al J8 (Al J9 (Al Ka (Al Kb Kc)))))) [some (.scr ns),some (.int (k:Nat)),a2,a3,a4,a5,a6,a7,a8,a9,a10,a11,a12,a13,a14] h) Q:=by
 rw [B8]
 refine st0 hb hk ht fun b h1 hb0 x1 t1=>?_
 rw [Aj,B8]
 refine O7 hb0 x1 t1 fun n L h2 ko x2 t2=>?_
 rw [Aj,B8]
 refine Cr ko fun l h3 s3 e3=>?_
 rw [Aj,B8]
 refine IU ko e3 fun h4 s4=>?_
 rw [Aj,B8]
 refine Mx hb0 ((x2.sm s3).sm s4) ((t2.sm s3).sm s4) fun H W h5 hh hw x5 t5=>?_
 rw [Aj,B8]
 refine E8 hh hb0 x5 t5 fun e h6 he x6 t6=>?_
 rw [Aj,B8]
 refine st6 hh hw he hb0 x6 t6 fun H' W' f' c9 c10 c11 h7 hh' hw' x7 t7=>?_
 rw [Aj]
 exact FZ ko hh' hw' hb0 x7 t7 fun _ _ _ h8 t8=>q _ _ _ _ _ _ _ _ _ _ _ _ _ h8 t8
end
def IL (ns:List Int) (xs:List Nat) (ρ:Ai) (h':HD):Prop:=∃d1 d2 d3 d4 d5 d6 d7 d8 d9 d10 d11 d12 d13 d14,ρ=[some (.scr ns),d1,d2,d3,d4,d5,d6,d7,d8,d9,d10,d11,d12,d13,d14]∧TabAt h'∧∀k∈xs,k≤1000
theorem Zb3:Md EY E2 EW EX DJ AB DX CV EZ E1 B2 Cf=Al (B4 (CO (Aa (Ah (Br Jv) (Aa (mC (.int 1)) (Aa (Ah (Br Gi) (Aa (Ah (Aq Bk) (Aa (Ab 0) (Ad))) (Aa (mC (.int 4)) (Ad)))) (Ad)))) (Ad))) (A7 1) (Al J5 (Al J6 (Al J7 (Al J8 (Al J9 (Al Ka (Al Kb (Kc))))))))) (AL (mC (.bl true))):=by
 unfold J5 J6 J7 J8 J9 Ka Kc O6 Mw O5 Kb Mv Mu O4 O3 Mt O2
 rfl
theorem law_true (ns:List Int) (hl:ns.length≤63) (hb:∀i∈ns,Builtin.Int.intBits i≤2^20):∃h',F_law [.scr ns] [.tab]=.ok (.bl true) h':=by
 have main:Wp (F_law [.scr ns] [.tab]) fun d _=>d=.bl true:=by
  change Wp (AA 15 (Md EY E2 EW EX DJ AB DX CV EZ E1 B2 Cf) [.scr ns] [.tab]) _
  rw [Zb3,Bs,B8]
  obtain ⟨n,en,hn⟩:∃n:Nat,(if (if (4:Int)<(ns.length:Int) then (4:Int) else (ns.length:Int))>1 then (if (4:Int)<(ns.length:Int) then (4:Int) else (ns.length:Int)) else 1)=(n:Int)∧n≤99:=by
   have h0:0≤(if (if (4:Int)<(ns.length:Int) then (4:Int) else (ns.length:Int))>1 then (if (4:Int)<(ns.length:Int) then (4:Int) else (ns.length:Int)) else 1)∧(if (if (4:Int)<(ns.length:Int) then (4:Int) else (ns.length:Int))>1 then (if (4:Int)<(ns.length:Int) then (4:Int) else (ns.length:Int)) else 1)≤99:=by
    constructor<;>(split<;>split<;>omega)
   generalize (if (if (4:Int)<(ns.length:Int) then (4:Int) else (ns.length:Int))>1 then (if (4:Int)<(ns.length:Int) then (4:Int) else (ns.length:Int)) else 1)=E at h0
   exact ⟨E.toNat,by omega,by omega⟩
  refine Ef (src:=[]) (xs:=List.range n) (fun i=>.int ((i:Nat):Int)) (IL ns) ?_ (fun ys ρ h' _=>CN) ?_ ?_
  ·simp
   rw [en,Fq (by omega)]
   exact ⟨rfl,_,_,_,_,_,_,_,_,_,_,_,_,_,_,rfl,rfl,fun k hk=>by have:=qbH.mp hk;omega⟩
  ·rintro x xs ρ h' ⟨d1,d2,d3,d4,d5,d6,d7,d8,d9,d10,d11,d12,d13,d14,rfl,t,hx⟩
   refine ⟨_,rfl,?_⟩
   exact Zb2 hb (hx x A0) t fun _ _ _ _ _ _ _ _ _ _ _ _ _ h2 t2=>
    ⟨_,_,_,_,_,_,_,_,_,_,_,_,_,_,rfl,t2,fun k hk=>hx k (A5 _ hk)⟩
  ·rintro ρ h' ⟨d1,d2,d3,d4,d5,d6,d7,d8,d9,d10,d11,d12,d13,d14,rfl,t,hx⟩
   simp
 obtain ⟨a,h',e,rfl⟩:=Wp.ex main
 exact ⟨h',e⟩
end LK
set_option maxHeartbeats 0
namespace LK
open PySem PySem.Spec PyProof.Rows L2 LS
def O8:Tp.Want:=⟨[(("is_whole":Str),Hi),(("is_line_tuple":Str),Hj),(("rising_rows":Str),Hk),(("lit_by_sides":Str),Hl),(("_law_cell":Str),Hm),(("_law_mix":Str),Hn),(("_law_take":Str),Ho),(("_law_kind":Str),Hq),(("_law_lots":Str),Hr),(("_law_net_switched":Str),Hs),(("is_between":Str),Ht),(("is_lot":Str),Hu),(("_law_box":Str),Hv),(("_law_wide_box":Str),Hw),(("_law_no_board":Str),Hx),(("_law_no_net":Str),Hz),(("is_light":Str),HA),(("_law_board":Str),HB),(("_law_net":Str),HC),(("is_row":Str),HE),(("is_tie":Str),HF),(("is_board":Str),HG),(("is_net":Str),HH),(("need_board":Str),HI),(("need_net":Str),HJ),(("net_left":Str),HK),(("net_of":Str),HL),(("law":Str),s_law),(("_law_said":Str),JV)],[(("MOST_LINES":Str),(8:Int)),(("MOST_PLACES":Str),(8:Int))],["ValueError","all","bool","divmod","enumerate","int","isinstance","len","list","max","min","range","repr","str","sum","tuple","zip"]⟩
theorem all_mk {l:PySem.W.OpenLaw} {w:World} {K:PySem.W.Frag} {h:Heap} {mg:Str→Option Value} {fa c T:Addr} (HS:Tp.Has O8 K c T∧Tp.HasT K El) (X:K.In h) (G:h.Ns mainGlobals mg) (hfa:mg "law"=some (.ref fa)):
 ∃fd:FuncData,(∀(s:Shared) (v:Value),BindsTo s fd ⟨[v],[]⟩ [("_law_script",v)])∧∀base:Heap,K.In base→base.Ns mainGlobals mg→IJ mg base→FnOk l.prog w K mg base (AE l.prog w K) 10 fa fd ["_law_script"] (FN K F_law):=by
 obtain ⟨fs,cs,bs,et,tb,hd,no⟩:=HS.1
 obtain ⟨_,_,_,_,_,_,_,_,_,_,_,nC,nS,lT,cT,tmT,D8,kpT⟩:=HS.2
 obtain ⟨_,_,_,_,_,_,_,_,_,_,a0,l0,c0,k0⟩:=fs 0 "is_whole" Hi rfl
 obtain ⟨_,_,_,_,_,_,_,_,_,_,a1,l1,c1,k1⟩:=fs 1 "is_line_tuple" Hj rfl
 obtain ⟨_,_,_,_,_,_,_,_,_,_,a2,l2,c2,k2⟩:=fs 2 "rising_rows" Hk rfl
 obtain ⟨_,_,_,_,_,_,_,_,_,_,a3,l3,c3,k3⟩:=fs 3 "lit_by_sides" Hl rfl
 obtain ⟨_,_,_,_,_,_,_,_,_,_,a4,l4,c4,k4⟩:=fs 4 "_law_cell" Hm rfl
 obtain ⟨_,_,_,_,_,_,_,_,_,_,a5,l5,c5,k5⟩:=fs 5 "_law_mix" Hn rfl
 obtain ⟨_,_,_,_,_,_,_,_,_,_,a6,l6,c6,k6⟩:=fs 6 "_law_take" Ho rfl
 obtain ⟨_,_,_,_,_,_,_,_,_,_,a7,l7,c7,k7⟩:=fs 7 "_law_kind" Hq rfl
 obtain ⟨_,_,_,_,_,_,_,_,_,_,a8,l8,c8,k8⟩:=fs 8 "_law_lots" Hr rfl
 obtain ⟨_,_,_,_,_,_,_,_,_,_,a9,l9,c9,k9⟩:=fs 9 "_law_net_switched" Hs rfl
 obtain ⟨_,_,_,_,_,_,_,_,_,_,a10,l10,c10,k10⟩:=fs 10 "is_between" Ht rfl
 obtain ⟨_,_,_,_,_,_,_,_,_,_,a11,l11,c11,k11⟩:=fs 11 "is_lot" Hu rfl
 obtain ⟨_,_,_,_,_,_,_,_,_,_,a12,l12,c12,k12⟩:=fs 12 "_law_box" Hv rfl
 obtain ⟨_,_,_,_,_,_,_,_,_,_,a13,l13,c13,k13⟩:=fs 13 "_law_wide_box" Hw rfl
 obtain ⟨_,_,_,_,_,_,_,_,_,_,a14,l14,c14,k14⟩:=fs 14 "_law_no_board" Hx rfl
 obtain ⟨_,_,_,_,_,_,_,_,_,_,a15,l15,c15,k15⟩:=fs 15 "_law_no_net" Hz rfl
 obtain ⟨_,_,_,_,_,_,_,_,_,_,a16,l16,c16,k16⟩:=fs 16 "is_light" HA rfl
 obtain ⟨_,_,_,_,_,_,_,_,_,_,a17,l17,c17,k17⟩:=fs 17 "_law_board" HB rfl
 obtain ⟨_,_,_,_,_,_,_,_,_,_,a18,l18,c18,k18⟩:=fs 18 "_law_net" HC rfl
 obtain ⟨_,_,_,_,_,_,_,_,_,_,a19,l19,c19,k19⟩:=fs 19 "is_row" HE rfl
 obtain ⟨_,_,_,_,_,_,_,_,_,_,a20,l20,c20,k20⟩:=fs 20 "is_tie" HF rfl
 obtain ⟨_,_,_,_,_,_,_,_,_,_,a21,l21,c21,k21⟩:=fs 21 "is_board" HG rfl
 obtain ⟨_,_,_,_,_,_,_,_,_,_,a22,l22,c22,k22⟩:=fs 22 "is_net" HH rfl
 obtain ⟨_,_,_,_,_,_,_,_,_,_,a23,l23,c23,k23⟩:=fs 23 "need_board" HI rfl
 obtain ⟨_,_,_,_,_,_,_,_,_,_,a24,l24,c24,k24⟩:=fs 24 "need_net" HJ rfl
 obtain ⟨_,_,_,_,_,_,_,_,_,_,a25,l25,c25,k25⟩:=fs 25 "net_left" HK rfl
 obtain ⟨_,_,_,_,_,_,_,_,_,_,a26,l26,c26,k26⟩:=fs 26 "net_of" HL rfl
 obtain ⟨f_law,_,an_law,_,_,kV_law,dc_law,pm_law,_,ct_law,a_law,l_law,c_law,k_law⟩:=fs 27 "law" s_law rfl
 obtain ⟨_,_,_,_,_,_,_,_,_,_,a28,l28,c28,k28⟩:=fs 28 "_law_said" JV rfl
 cases Tp.tab_cd tb a_law l_law
 have e:=hfa.symm.trans (PySem.W.mg_of X G a_law)
 cases e
 have S_D:SaidD K mg JV _ _:=SaidD.of (Dt X G l28 c28 k28 a28 (fun _ _ _ _ _ _ _=>rfl))
 have B:Bl mg:=⟨PySem.W.mg_none_of X G (bs 0 "ValueError" rfl),PySem.W.mg_none_of X G (bs 1 "all" rfl),PySem.W.mg_none_of X G (bs 2 "bool" rfl),PySem.W.mg_none_of X G (bs 3 "divmod" rfl),PySem.W.mg_none_of X G (bs 4 "enumerate" rfl),PySem.W.mg_none_of X G (bs 5 "int" rfl),PySem.W.mg_none_of X G (bs 6 "isinstance" rfl),PySem.W.mg_none_of X G (bs 7 "len" rfl),PySem.W.mg_none_of X G (bs 8 "list" rfl),PySem.W.mg_none_of X G (bs 9 "max" rfl),PySem.W.mg_none_of X G (bs 10 "min" rfl),PySem.W.mg_none_of X G (bs 11 "range" rfl),PySem.W.mg_none_of X G (bs 12 "repr" rfl),PySem.W.mg_none_of X G (bs 13 "str" rfl),PySem.W.mg_none_of X G (bs 14 "sum" rfl),PySem.W.mg_none_of X G (bs 15 "tuple" rfl),PySem.W.mg_none_of X G (bs 16 "zip" rfl)⟩
 obtain ⟨t_MOST_LINES,v_MOST_LINES⟩:=cs 0 "MOST_LINES" 8 rfl
 have M_MOST_LINES:=PySem.W.mg_of X G v_MOST_LINES
 obtain ⟨t_MOST_PLACES,v_MOST_PLACES⟩:=cs 1 "MOST_PLACES" 8 rfl
 have M_MOST_PLACES:=PySem.W.mg_of X G v_MOST_PLACES
 refine ⟨PySem.W.fnOf "law" "law" (defArgs s_law) (defBody s_law) (defScope s_law) .none kV_law dc_law pm_law an_law (.ref c) ct_law,fun s v=>.of_eq rfl,fun base _ _ hbm=>?_⟩
 have TM:=ZA (P:=l.prog) (w:=w) (mg:=mg) (base:=base) nC nS lT cT tmT D8 kpT
 have C0:=Zaf (P:=l.prog) (w:=w) (base:=base) B et TM (Dt X G l0 c0 k0 a0 fun _ _ _ _ _ _ _=>rfl)
 have C1:=Zag (P:=l.prog) (w:=w) (base:=base) B et TM M_MOST_LINES (Dt X G l1 c1 k1 a1 fun _ _ _ _ _ _ _=>rfl)
 have C2:=Zah (P:=l.prog) (w:=w) (base:=base) B et TM (EL X G l2 c2 k2 a2 fun _ _ _ _ _ _ _ _=>rfl)
 have C3:=Zai (P:=l.prog) (w:=w) (base:=base) B et TM (EL X G l3 c3 k3 a3 fun _ _ _ _ _ _ _ _=>rfl)
 have C4:=Zaj (P:=l.prog) (w:=w) (base:=base) B et TM (EL X G l4 c4 k4 a4 fun _ _ _ _ _ _ _ _=>rfl)
 have C5:=Zak (P:=l.prog) (w:=w) (base:=base) B et TM (EL X G l5 c5 k5 a5 fun _ _ _ _ _ _ _ _=>rfl)
 have C6:=Zal (P:=l.prog) (w:=w) (base:=base) B et TM (EL X G l6 c6 k6 a6 fun _ _ _ _ _ _ _ _=>rfl)
 have C7:=Zam (P:=l.prog) (w:=w) (base:=base) B et TM (Dt X G l7 c7 k7 a7 fun _ _ _ _ _ _ _=>rfl)
 have C8:=Zan (P:=l.prog) (w:=w) (base:=base) B et TM (Dt X G l8 c8 k8 a8 fun _ _ _ _ _ _ _=>rfl)
 have C9:=Zao (P:=l.prog) (w:=w) (base:=base) B et TM (EL X G l9 c9 k9 a9 fun _ _ _ _ _ _ _ _=>rfl)
 have C10:=Zap (P:=l.prog) (w:=w) (base:=base) B et TM C0 (RT X G l10 c10 k10 a10 fun _ _ _ _ _ _ _ _ _=>rfl)
 have C11:=Zaq (P:=l.prog) (w:=w) (base:=base) B et TM C0 (EL X G l11 c11 k11 a11 fun _ _ _ _ _ _ _ _=>rfl)
 have C12:=Zar (P:=l.prog) (w:=w) (base:=base) B et TM C4 C5 (EL X G l12 c12 k12 a12 fun _ _ _ _ _ _ _ _=>rfl)
 have C13:=Zas (P:=l.prog) (w:=w) (base:=base) B et TM C6 (Dt X G l13 c13 k13 a13 fun _ _ _ _ _ _ _=>rfl)
 have C14:=Zat (P:=l.prog) (w:=w) (base:=base) B et TM C6 (EL X G l14 c14 k14 a14 fun _ _ _ _ _ _ _ _=>rfl)
 have C15:=Zau (P:=l.prog) (w:=w) (base:=base) B et TM C6 (EL X G l15 c15 k15 a15 fun _ _ _ _ _ _ _ _=>rfl)
 have C16:=Zav (P:=l.prog) (w:=w) (base:=base) B et TM C10 (Dt X G l16 c16 k16 a16 fun _ _ _ _ _ _ _=>rfl)
 have C17:=Zaw (P:=l.prog) (w:=w) (base:=base) B et TM C6 C13 (RT X G l17 c17 k17 a17 fun _ _ _ _ _ _ _ _ _=>rfl)
 have C18:=Zax (P:=l.prog) (w:=w) (base:=base) B et TM C6 C13 (Dt X G l18 c18 k18 a18 fun _ _ _ _ _ _ _=>rfl)
 have C19:=Zay (P:=l.prog) (w:=w) (base:=base) B et TM C1 C16 (Dt X G l19 c19 k19 a19 fun _ _ _ _ _ _ _=>rfl)
 have C20:=Zaz (P:=l.prog) (w:=w) (base:=base) B et TM C11 C16 (EL X G l20 c20 k20 a20 fun _ _ _ _ _ _ _ _=>rfl)
 have C21:=ZaA (P:=l.prog) (w:=w) (base:=base) B et TM C1 C19 (Dt X G l21 c21 k21 a21 fun _ _ _ _ _ _ _=>rfl)
 have C22:=ZaB (P:=l.prog) (w:=w) (base:=base) B et TM C10 C20 M_MOST_PLACES (Dt X G l22 c22 k22 a22 fun _ _ _ _ _ _ _=>rfl)
 have C23:=ZaC (P:=l.prog) (w:=w) (base:=base) B et TM C21 (Dt X G l23 c23 k23 a23 fun _ _ _ _ _ _ _=>rfl)
 have C24:=ZaD (P:=l.prog) (w:=w) (base:=base) B et TM C22 (Dt X G l24 c24 k24 a24 fun _ _ _ _ _ _ _=>rfl)
 have C25:=ZaE (P:=l.prog) (w:=w) (base:=base) B et TM C24 C2 C3 (Dt X G l25 c25 k25 a25 fun _ _ _ _ _ _ _=>rfl)
 have C26:=ZaF (P:=l.prog) (w:=w) (base:=base) B et TM C23 M_MOST_PLACES (Dt X G l26 c26 k26 a26 fun _ _ _ _ _ _ _=>rfl)
 exact Yj l_law c_law sc_law (fun ds h e=>if_neg e) (fun ds h e=>if_pos e) (fun A outer s H E hr=>Zae B et TM C12 C18 C8 C9 C25 C6 C17 C26 C14 C15 C22 C7 tb hd hbm S_D _ A outer s H E hr)
end LK
namespace LK
open PySem PySem.W
abbrev top_q:Program:=view PySem.Challenge.pw_lineswitch_k74_nets_left_and_nets_of_boa [46]
abbrev top_loose:List Str:=(PySem.Challenge.pw_lineswitch_k74_nets_left_and_nets_of_boa.main.scope.names.map (·.1)).filter fun x=>!(x=="law")
set_option maxHeartbeats 0 in
theorem top_left:LeftO PySem.Challenge.pw_lineswitch_k74_nets_left_and_nets_of_boa top_q top_loose (fun _=>true) (Tp.obsT O8) (fun _=>Tp.valT O8 El) 1000000:=
 Tp.left_of (n:=48) (by kernel_rfl) (fun s=>by kernel_rfl) (fun w=>by kernel_rfl) (fun w os=>by
  rw [PySem.W.Fast.te10156331382660048174,PySem.W.Fast.te11892475500146522536,PySem.W.Fast.te14364793385576792824,PySem.W.Fast.te10110043849684766642,PySem.W.Fast.te6613529449190102663,PySem.W.Fast.te4187177175401517315,PySem.W.Fast.te5923862056798008813]
  kernel_rfl)
end LK
open PySem PySem.W PyProof.Rows
set_option maxRecDepth 100000 in
set_option maxHeartbeats 0 in
theorem PySem.Challenge.cw_lineswitch_k74_nets_left_and_nets_of_boa_holds : PySem.Challenge.rw_lineswitch_k74_nets_left_and_nets_of_boa.Holds := by
 w_on;o_law
 refine PySem.W.holds_open (q:=LK.top_q) (loose:=LK.top_loose) (d:=⟨"law",L2.defArgs LK.s_law,L2.defBody LK.s_law,L2.defScope LK.s_law,_⟩) (kwd:=[]) (Xt:=fun _=>true) (XP:=fun _ _=>True) (N:=1000000) LK.top_left Tp.says_ofT Tp.SaysT.keeps (fun _ _=>trivial) (fun _ _ _ _ _=>trivial) (by rfl) (by kernel_rfl) (by kernel_rfl) (fun s _=>recFacts_nil (by rfl)) (by rfl) (by assumption) (by kernel_rfl) ⟨rfl,rfl,rfl,rfl,rfl,by decide +kernel⟩ ?hw ?hc
 case hw=>w_witness2
 case hc=>exact LS.walk_hdT (n:=63) (k:=10) (x:="_law_script") (F:=LK.F_law) rfl (by decide) rfl ⟨rfl,by decide,by decide,rfl⟩ (fun w K c T mg fa h HS X G hfa=>LK.all_mk HS X G hfa) LK.law_true
