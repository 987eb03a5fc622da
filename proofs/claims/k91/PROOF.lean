import PyProof.Rows.All
import Wide.All
import OpenK.AllK
import Wide.FinOn
import Lean
import PyProof.EqAt
import PyProof.EqKinds
import PyProof.TupleCall
import PyProof.ExcBaseAll.ValueError
import PyProof.ZipIter
import KE.KIsAll
import KE.KTryMore
import PyProof.ExcArgsOwn
import PyProof.ExcAttrAll.ValueError
import KE.KLam
import KE.KNestM
import PyProof.NsDelKeeps
import PyProof.Rows.CatchPack
import PyProof.ReprRoads
import PyProof.Rows.FStr
import PyProof.ListRange
import PyProof.CollectIter
import KE.KRevSl
import PyProof.ExcInit
import PyProof.ExcClass2
import PyProof.InstStore
import PyProof.InstStoreFacts
import PyProof.InstLoad
import OpenK.KMore
import PyProof.Rows.StrKeys3
import PyProof.MeetsStr
import PyProof.Rows.AttrNodeAny
import PyProof.StrLawsIn
import PyProof.StrBlock
import PyProof.StrCalls
import PyProof.StrWalks
import PyProof.SliceStr2
import PyProof.MeetsStr2
import PySem.Challenge.RW_lineswitch_k91_boards_and_switchings_wri
set_option Elab.async false
set_option linter.all false
set_option maxRecDepth 100000
abbrev AH:=@PySem.Heap.get?_push_of_some
abbrev Ay:=@List.prefix_refl
abbrev AI:=@List.mem_cons_of_mem
abbrev AE:=@List.mem_cons_self
abbrev qa4:=@List.getElem?_eq_some_iff
abbrev Ap:=@Nat.le_refl
abbrev Bb:=@List.getElem?_eq_getElem
abbrev AN:=@Nat.lt_of_lt_of_le
abbrev AA:=@PySem.Heap.lt_size
abbrev AZ:=@List.size_toArray
abbrev Bf:=@PySem.Heap.get?_push_size
abbrev qaB:=@List.mem_cons
abbrev Bo:=@Bool.false_ne_true
abbrev Bw:=@List.getElem?_set_ne
abbrev Bg:=@List.map_cons
abbrev BV:=@List.getElem?_set_self
abbrev Bc:=@Nat.le_trans
abbrev B8:=@List.mem_append_right
abbrev qaI:=@List.all_eq_true
abbrev BP:=@List.getElem?_map
abbrev qaK:=@List.mem_map
abbrev Di:=@List.getElem?_append_left
abbrev BW:=@Bool.and_eq_true
abbrev Cq:=@Bool.false_eq_true
abbrev BX:=@List.length_map
abbrev qaP:=@Option.map_eq_some_iff
abbrev BL:=@Nat.ne_of_lt
abbrev Cr:=@List.cons_append
abbrev BY:=@Nat.lt_irrefl
abbrev qaT:=@List.mem_filter
abbrev qaU:=@List.mem_range
abbrev DF:=@List.length_filter_le
abbrev qaW:=@List.mem_append
abbrev ES:=@List.getD_eq_getElem?_getD
abbrev DG:=@List.replicate_succ
abbrev DH:=@List.length_append
abbrev B9:=@Nat.zero_le
abbrev D2:=@List.mem_of_getElem?
abbrev D3:=@List.map_congr_left
abbrev FU:=@List.getElem?_append_right
abbrev qb4:=@List.mem_singleton
abbrev D7:=@List.flatten_cons
abbrev EU:=@List.filterMap_cons
abbrev D8:=@List.lookup_cons
abbrev qb8:=@Bool.eq_iff_iff
abbrev GN:=@List.drop_eq_getElem_cons
abbrev D9:=@PySem.Heap.size_push
abbrev qbB:=@Option.isSome_iff_exists
abbrev EV:=@List.length_cons
abbrev EW:=@List.getElem_mem
abbrev EX:=@List.append_nil
abbrev qbF:=@List.nodup_cons
abbrev GO:=@List.take_of_length_le
abbrev FV:=@List.all_eq_false
abbrev Ea:=@Nat.le_of_lt
abbrev FW:=@List.length_take
abbrev FX:=@List.length_drop
abbrev FY:=@Nat.le_of_not_lt
abbrev GP:=@List.getElem_of_mem
abbrev GQ:=@List.getElem?_range
abbrev FZ:=@List.nil_append
abbrev F0:=@Option.map_some
abbrev EY:=@Nat.succ_mul
abbrev GR:=@List.prefix_append
abbrev Jj:=@List.eq_of_mem_replicate
abbrev Jk:=@List.getElem?_replicate
abbrev GS:=@List.append_assoc
abbrev GT:=@Nat.le_of_succ_le
abbrev GU:=@List.length_range
abbrev Jl:=@PySem.Heap.get?_update_other
abbrev Jm:=@List.mem_append_left
abbrev GV:=@List.of_mem_zip
abbrev F4:=@List.map_map
abbrev qc1:=@Bool.and_eq_true_iff
abbrev Jn:=@List.mem_of_mem_take
abbrev Jo:=@List.mem_of_mem_drop
abbrev GW:=@Bool.false_and
abbrev GX:=@List.drop_zero
namespace L2
open PySem PySem.Spec PyProof.Rows
abbrev Qq:=Sum Int Str
inductive V where
 |non |bl (b:Bool) |int (i:Int) |str (x:Str) |byt (b:Array UInt8) |flt (b:UInt64) |ref (a:Addr) |ty (n:String)
 deriving DecidableEq
def RelV:V→Value→Prop
 |.non,u=>u=Value.none
 |.bl b,u=>u=Value.bool b
 |.int i,u=>∃t,u=Value.int i t
 |.str x,u=>∃t,u=Value.str x t
 |.byt b,u=>∃t,u=Value.bytes b t
 |.flt b,u=>∃t,u=Value.float b t
 |.ref a,u=>u=Value.ref a
 |.ty n,u=>u=Value.type n
abbrev Vals:List V→List Value→Prop:=Paired RelV
theorem Vals.length {xs:List V} {us:List Value} (r:Vals xs us):xs.length=us.length:=Paired.length r
theorem Vals.get:∀{xs:List V} {us:List Value} {i:Nat} {x:V},Vals xs us→xs[i]?=some x→∃u,us[i]?=some u∧RelV x u
 |_,_,_,_,.nil,e=>by simp at e
 |_,_,0,_,.cons r _,e=>by simp at e;subst e;exact ⟨_,rfl,r⟩
 |_,_,i+1,x,.cons _ t,e=>by
  obtain ⟨u,h1,h2⟩:=Vals.get (i:=i) (x:=x) t (by simpa using e)
  exact ⟨u,by simpa using h1,h2⟩
theorem Vals.set {x:V} {u:Value} (r:RelV x u):∀{xs:List V} {us:List Value} (i:Nat),Vals xs us→Vals (xs.set i x) (us.set i u)
 |_,_,_,.nil=>.nil
 |_,_,0,.cons _ t=>.cons r t
 |_,_,i+1,.cons q t=>.cons q (Vals.set r i t)
theorem Vals.append:∀{xs ys:List V} {us ws:List Value},Vals xs us→Vals ys ws→Vals (xs++ys) (us++ws)
 |_,_,_,_,.nil,s=>s
 |_,_,_,_,.cons r t,s=>.cons r (Vals.append t s)
theorem Vals.take:∀{xs:List V} {us:List Value} (n:Nat),Vals xs us→Vals (xs.take n) (us.take n)
 |_,_,0,_=>.nil
 |_,_,_+1,.nil=>.nil
 |_,_,n+1,.cons r t=>.cons r (Vals.take n t)
theorem Vals.drop:∀{xs:List V} {us:List Value} (n:Nat),Vals xs us→Vals (xs.drop n) (us.drop n)
 |_,_,0,r=>r
 |_,_,_+1,.nil=>.nil
 |_,_,n+1,.cons _ t=>Vals.drop n t
def Qr:Option V→Option Value→Prop
 |some v,some u=>RelV v u
 |none,none=>True
 |_,_=>False
def kV:Qq→V
 |.inl i=>.int i
 |.inr x=>.str x
inductive HO where
 |lst (xs:List V)
 |tup (xs:List V)
 |own (x:Addr)
 |xd (fs:List (Str×V))
 |frz (o:Obj) (u:HO)
 |tbl (ps:Array Value)
 |ext (φ:Heap→Prop)
 |mex (φ:Heap→Prop)
 |dct (φ:Heap→Prop)
abbrev Hp:=Addr→Option HO
def Ai (H:Hp) (a:Addr) (o:HO):Hp:=fun b=>if b=a then some o else H b
theorem BZ {H:Hp} {a:Addr} {o:HO}:Ai H a o a=some o:=by unfold Ai;rw [if_pos rfl]
theorem Av {H:Hp} {a b:Addr} {o:HO} (h:b≠a):Ai H a o b=H b:=by unfold Ai;rw [if_neg h]
theorem CC {H:Hp} {a b:Addr} {o:HO} (h:H a=some o) (h':H b=none):a≠b:=by
 intro e;subst e;rw [h] at h';cases h'
section
variable (P:Program) (w:World)
inductive Ls (h:Heap) (a:Addr) (xs:List V):Prop where
 |mk (f1:xs.length≤sizeLine) (its:List Value) (n:Nat) (f2:Vals xs its) (f3:h.get? a=some {cls:=.type "list",data:=.seq its.toArray n}):Ls h a xs
def NoDict (h:Heap) (a:Addr):Prop:=∀o,h.get? a=some o→o.dict=none
inductive Lu (h:Heap) (a:Addr) (xs:List V):Prop where
 |mk (f1:xs.length≤sizeLine) (its:List Value) (f2:Vals xs its) (f3:IsTup h a its.toArray) (f4:NoDict h a):Lu h a xs
theorem NoDict.new {h:Heap} {o:Obj} (hd:o.dict=none:=by rfl) (hf:o.isFreed=false:=by rfl):NoDict (h.push o) h.objs.size:=fun u e=>by
 rw [Bf _ hf] at e
 cases e
 exact hd
def ObjOk (P:Program) (w:World) (H:Hp) (h:Heap) (a:Addr):HO→Prop
 |.lst xs=>Ls h a xs
 |.tup xs=>Lu h a xs
 |.own _=>∃o,h.get? a=some o
 |.xd fs=>∃mA,h.Ns1 a mA∧∀f,Qr (fs.lookup f) (mA f)
 |.frz o u=>h.get? a=some o∧ObjOk P w H h a u
 |.tbl ps=>h.get? a=some {cls:=.none,data:=.fields ps}
 |.ext φ=>φ h∧(∃o,h.get? a=some o)∧∀h1 h2:Heap,φ h1→(∀o,h1.get? a=some o→h2.get? a=some o)→φ h2
 |.mex φ=>φ h∧(∃o,h.get? a=some o)∧∀h1 h2:Heap,φ h1→(∀o,h1.get? a=some o→h2.get? a=some o)→φ h2
 |.dct φ=>φ h∧(∃o,h.get? a=some o)∧∀h1 h2:Heap,φ h1→(∀o,h1.get? a=some o→h2.get? a=some o)→φ h2
def HOk (H:Hp) (h:Heap):Prop:=∀a o,H a=some o→ObjOk P w H h a o
end
section
variable {P:Program} {w:World} {H H':Hp} {h h':Heap} {a:Addr} {o:HO}
theorem ObjOk.lt (x:ObjOk P w H h a o):a<h.objs.size:=by
 cases o with
 |lst xs=>obtain ⟨_,_,_,_,e⟩:=x;exact AA e
 |tup xs=>obtain ⟨_,_,_,p,_⟩:=x;exact p.lt
 |own y=>obtain ⟨_,e⟩:=x;exact AA e
 |xd fs=>obtain ⟨_,⟨_,_,_,e,_⟩,_⟩:=x;exact AA e
 |frz ob u=>obtain ⟨e,_⟩:=x;exact AA e
 |tbl ps=>exact AA (show h.get? a=some _ from x)
 |ext φ=>obtain ⟨_,⟨_,e⟩,_⟩:=x;exact AA e
 |mex φ=>obtain ⟨_,⟨_,e⟩,_⟩:=x;exact AA e
 |dct φ=>obtain ⟨_,⟨_,e⟩,_⟩:=x;exact AA e
theorem ObjOk.stay (x:ObjOk P w H h a o) (k:∀b u,(b=a∨H b=some (.own a))→h.get? b=some u→h'.get? b=some u)
 (ho:∀b,H b=some (.own a)→H' b=some (.own a)) (ht:∀b xs,H b=some (.tup xs)→H' b=some (.tup xs)):ObjOk P w H' h' a o:=by
 induction o with
 |lst xs=>obtain ⟨z,its,n,r,e⟩:=x;exact ⟨z,its,n,r,k _ _ (.inl rfl) e⟩
 |tup xs=>obtain ⟨z,its,r,⟨ob,e,c⟩,nd⟩:=x;exact ⟨z,its,r,⟨ob,k _ _ (.inl rfl) e,c⟩,fun o e2=>by rw [k _ _ (.inl rfl) e] at e2;cases e2;exact nd _ e⟩
 |own y=>obtain ⟨ob,e⟩:=x;exact ⟨ob,k _ _ (.inl rfl) e⟩
 |xd fs=>obtain ⟨mA,⟨od,es,ep,e,c⟩,r⟩:=x;exact ⟨mA,⟨od,es,ep,k _ _ (.inl rfl) e,c⟩,r⟩
 |frz ob u ih=>obtain ⟨e,q⟩:=x;exact ⟨k _ _ (.inl rfl) e,ih q⟩
 |tbl ps=>
  have e:h.get? a=some {cls:=.none,data:=.fields ps}:=x
  show h'.get? a=some {cls:=.none,data:=.fields ps}
  exact k a _ (.inl rfl) e
 |ext φ=>obtain ⟨p,⟨o,e⟩,st⟩:=x;exact ⟨st _ _ p fun o q=>k _ _ (.inl rfl) q,⟨o,k _ _ (.inl rfl) e⟩,st⟩
 |mex φ=>obtain ⟨p,⟨o,e⟩,st⟩:=x;exact ⟨st _ _ p fun o q=>k _ _ (.inl rfl) q,⟨o,k _ _ (.inl rfl) e⟩,st⟩
 |dct φ=>obtain ⟨p,⟨o,e⟩,st⟩:=x;exact ⟨st _ _ p fun o q=>k _ _ (.inl rfl) q,⟨o,k _ _ (.inl rfl) e⟩,st⟩
theorem HOk.lt (x:HOk P w H h) (e:H a=some o):a<h.objs.size:=(x a o e).lt
theorem HOk.fresh (x:HOk P w H h) (e:h.objs.size≤a):H a=none:=by
 cases q:H a with
 |none=>rfl
 |some u=>exact absurd (AN (x.lt q) e) (BY _)
theorem HOk.kept (x:HOk P w H h) (k:∀b u,h.get? b=some u→h'.get? b=some u):HOk P w H h':=fun a o e=>
 (x a o e).stay (fun b u _ q=>k b u q) (fun _ q=>q) fun _ _ q=>q
theorem HOk.laid (x:HOk P w H h) (k:∀b u,h.get? b=some u→h'.get? b=some u) (hp:h.objs.size≤a) (new:ObjOk P w (Ai H a o) h' a o):HOk P w (Ai H a o) h':=fun b u e=>by
 have hn:=x.fresh hp
 by_cases hb:b=a
 ·subst hb;rw [BZ] at e;cases e;exact new
 ·rw [Av hb] at e
  exact (x b u e).stay (fun c v _ q=>k c v q) (fun c q=>by rw [Av (CC q hn)];exact q) fun c xs q=>by rw [Av (CC q hn)];exact q
end
def Rd (H:Hp) (a:Addr) (u:HO):Prop:=H a=some u∨∃o,H a=some (.frz o u)
theorem Rd.ok {P:Program} {w:World} {H:Hp} {h:Heap} {a:Addr} {u:HO} (r:Rd H a u) (x:HOk P w H h):ObjOk P w H h a u:=by
 rcases r with r |⟨o,r⟩
 ·exact x a u r
 ·obtain ⟨_,q⟩:=x a _ r
  exact q
def GY:Option HO→Prop
 |some (.lst _)=>True
 |some (.ext _)=>True
 |some (.mex _)=>True
 |some (.dct _)=>True
 |_=>False
section
variable {P:Program} {w:World} {H:Hp} {h h':Heap} {x e:Addr} {o':HO}
theorem HOk.write (ok:HOk P w H h) (mu:GY (H x)) (he:e=x∨H e=some (.own x)) (k:∀b u,b≠e→h.get? b=some u→h'.get? b=some u) (heo:∃u,h'.get? e=some u)
 (new:ObjOk P w (Ai H x o') h' x o'):HOk P w (Ai H x o') h':=fun b u q=>by
 have nown:∀c y,H c=some (.own y)→c≠x:=fun c y r z=>by subst z;rw [r] at mu;exact mu
 have ntup:∀c xs,H c=some (.tup xs)→c≠x:=fun c xs r z=>by subst z;rw [r] at mu;exact mu
 by_cases hb:b=x
 ·subst hb;rw [BZ] at q;cases q;exact new
 ·rw [Av hb] at q
  by_cases hbe:b=e
  ·have q':H b=some (.own x):=by
    rcases he with z |z
    ·exact absurd (hbe.trans z) hb
    ·rw [hbe];exact z
   rw [q] at q';cases q'
   obtain ⟨v,hv⟩:=heo
   exact ⟨v,by rw [hbe];exact hv⟩
  ·refine (ok b u q).stay (fun c v hc r=>k c v ?_ r) (fun c r=>by rw [Av (nown c b r)];exact r) fun c xs r=>by rw [Av (ntup c xs r)];exact r
   rcases hc with rfl |hc
   ·exact hbe
   ·rintro rfl
    rcases he with z |z
    ·exact nown c b hc z
    ·rw [hc] at z;cases z;exact hb rfl
end
structure Un (fs ex:List Addr) (H H':Hp) (h h':Heap):Prop where
 keep:∀b o,h.get? b=some o→H b=none→b∉fs→b∉ex→h'.get? b=some o
 slot:∀b o,h.get? b=some o→H b=none→b∈fs→b∉ex→∃sl,h'.get? b=some {o with slots:=sl}
 free:∀b o,h.get? b=some o→H b=none→b∉ex→H' b=none
 there:∀b o,h.get? b=some o→b∉ex→∃o',h'.get? b=some o'
 tups:∀b xs,H b=some (.tup xs)→H' b=some (.tup xs)
 frzs:∀b o u,H b=some (.frz o u)→H' b=some (.frz o u)
 tbls:∀b ps,H b=some (.tbl ps)→∃more,H' b=some (.tbl (ps++more))
section
variable {fs fs' ex ex':List Addr} {H H1 H2:Hp} {h h1 h2 h':Heap} {a x e:Addr} {o:HO}
theorem Un.any (u:Un fs ex H H1 h h1) {b:Addr} {ob:Obj} (q:h.get? b=some ob) (n:H b=none) (hx:b∉ex):∃sl,h1.get? b=some {ob with slots:=sl}:=by
 by_cases hb:b∈fs
 ·exact u.slot b ob q n hb hx
 ·exact ⟨ob.slots,u.keep b ob q n hb hx⟩
theorem Un.kept (k:∀b u,h.get? b=some u→h'.get? b=some u):Un fs ex H H h h':=
 ⟨fun b ob q _ _ _=>k b ob q,fun b ob q _ _ _=>⟨ob.slots,k b ob q⟩,fun _ _ _ n _=>n,fun b ob q _=>⟨ob,k b ob q⟩,fun _ _ q=>q,fun _ _ _ q=>q,fun _ ps q=>⟨#[],by rw [q];simp⟩⟩
theorem Un.refl:Un fs ex H H h h:=Un.kept fun _ _ q=>q
theorem Un.laid (k:∀b u,h.get? b=some u→h'.get? b=some u) (hp:h.objs.size≤a) (hn:H a=none):Un fs ex H (Ai H a o) h h' where
 keep:=fun b u q _ _ _=>k b u q
 slot:=fun b u q _ _ _=>⟨u.slots,k b u q⟩
 free:=fun b u q n _=>by rw [Av (BL (AN (AA q) hp))];exact n
 there:=fun b u q _=>⟨u,k b u q⟩
 tups:=fun b xs q=>by rw [Av (CC q hn)];exact q
 frzs:=fun b u xs q=>by rw [Av (CC q hn)];exact q
 tbls:=fun b ps q=>⟨#[],by rw [Av (CC q hn),q];simp⟩
theorem Un.write (mu:GY (H x)) (he:e=x∨H e=some (.own x)) (k:∀b u,b≠e→h.get? b=some u→h'.get? b=some u) (heo:∃u,h'.get? e=some u):Un fs ex H (Ai H x o) h h':=by
 have hx:∀b,H b=none→b≠x:=fun b n z=>by subst z;rw [n] at mu;exact mu
 have hb:∀b,H b=none→b≠e:=fun b n z=>by
  subst z
  rcases he with r |r
  ·exact hx b n r
  ·rw [n] at r;cases r
 have hm:∀b u,H b=some u→¬GY (some u)→b≠x:=fun b u q nm z=>by subst z;rw [q] at mu;exact nm mu
 refine ⟨fun b u q n _ _=>k b u (hb b n) q,fun b u q n _ _=>⟨u.slots,k b u (hb b n) q⟩,fun b u q n _=>by rw [Av (hx b n)];exact n,fun b u q _=>?_,
  fun b xs q=>by rw [Av (hm b _ q fun z=>z)];exact q,fun b u xs q=>by rw [Av (hm b _ q fun z=>z)];exact q,fun b ps q=>⟨#[],by rw [Av (hm b _ q fun z=>z),q];simp⟩⟩
 by_cases hbe:b=e
 ·subst hbe;exact heo
 ·exact ⟨u,k b u hbe q⟩
end
def GZ (h:Heap) (H:Hp):List Addr:=(List.range h.objs.size).filter fun a=>(H a).isSome
def CM (h:Heap) (H:Hp):Heap:=PySem.W.hideAll h (GZ h H)
theorem Qs (h:Heap) (H:Hp):(CM h H).objs.size=h.objs.size:=PySem.W.hideAll_size _ _
theorem Qt {h:Heap} {H:Hp} {b:Addr} {o:Obj} (e:h.get? b=some o) (n:H b=none):(CM h H).get? b=some o:=
 PySem.W.hideAll_get _ e fun hm=>by
  have q:(H b).isSome=true:=(qaT.mp hm).2
  rw [n] at q;simp at q
theorem Qu {h:Heap} {H:Hp} {b:Addr} {o:Obj} (e:(CM h H).get? b=some o):h.get? b=some o∧H b=none:=by
 have e':h.get? b=some o:=PySem.W.of_hideAll (GZ h H) e
 refine ⟨e',?_⟩
 cases q:H b with
 |none=>rfl
 |some x=>
  have hm:b∈GZ h H:=qaT.mpr ⟨qaU.mpr (AA e'),by simp [q]⟩
  have z:(CM h H).get? b=none:=PySem.W.hideAll_none (GZ h H) hm
  rw [z] at e;cases e
def Qv (g h:Heap) (L:Addr):List (Addr×Obj):=(List.range h.objs.size).filterMap fun a=>if a=L∨(g.get? a).isSome=true then none else (h.get? a).map fun o=>(a,o)
def rest (g h:Heap) (L d:Addr):List (Addr×Obj):=(Qv g h L).filter fun p=>decide (p.1≠d)
structure Mod (K:PySem.W.Frag) (mg:Str→Option Value) (base:Heap):Prop where
 kin:K.In base
 glob:base.Ns mainGlobals mg
 blt:∃mb,base.Ns builtinsNs mb∧∀x:Str,x≠"__name__"→mb x=bootBuiltins x
 nolimit:base.NoLimit
structure Cx where
 prog:Program
 w:World
 K:PySem.W.Frag
 mg:Str→Option Value
 base:Heap
 A:Around
 N:List Str
 s₀:Shared
 H₀:Hp
 env:Env
 outer:List Env
 stack:List Env
 ex:List Addr
 fn:Str→Bool
 calm:Bool
 pn:List (Addr×Obj)
 xe:Value→Shared→Prop
def frs (l:List Env):List Addr:=l.filterMap (·.frame)
abbrev Cx.fs (X:Cx):List Addr:=frs X.outer
def G0 (sc:Scope) (x:Str):Prop:=sc.names.lookup x=some .local∨sc.names.lookup x=some .cell∨sc.names.lookup x=some .free
def Eb (sc:Scope) (x:Str):Prop:=sc.names.lookup x=some .local∨sc.names.lookup x=some .cell
def Lw (env:Env) (h:Heap) (m:Str→Option Value) (x:Str) (u:Value):Prop:=
 (env.kindOf x=some .local∧m x=some u)∨((env.kindOf x=some .cell∨env.kindOf x=some .free)∧∃c,env.cells.lookup x=some c∧h.IsCell c (some u))
structure Cx.Ok (X:Cx):Prop where
 mod:Mod X.K X.mg X.base
 kind:X.env.scope.kind=.function
 glob:X.env.globals=mainGlobals
 blt:X.env.builtins=builtinsNs
 above:X.s₀.heap.objs.size≤X.env.locals
 inj:∀x y c,X.env.cells.lookup x=some c→X.env.cells.lookup y=some c→x=y
 has:∀x,(X.env.kindOf x=some .cell∨X.env.kindOf x=some .free)→∃c,X.env.cells.lookup x=some c
 cab:∀x c,X.fn x=true→X.env.cells.lookup x=some c→X.s₀.heap.objs.size≤c
 hd:X.calm=true→X.A.handled=none
 frames:X.A.frames=some X.stack
 stk:X.stack=X.outer∨(X.stack=X.env::X.outer∧X.env.frame=some X.env.locals)
 exf:∀b∈X.ex,b≠X.env.locals∧∀x c,X.env.cells.lookup x=some c→c≠b
 bs:∀b o,X.base.get? b=some o→X.s₀.heap.get? b=some o∧X.H₀ b=none
 bsz:X.base.objs.size≤X.s₀.heap.objs.size
 noex:∀b o,X.base.get? b=some o→b∉X.ex
 exfs:∀b∈X.ex,b∉X.fs
 funs:X.s₀.heap.FunFrames X.base X.outer
 frf:∀b∈X.fs,X.H₀ b=none
structure Inv (X:Cx) (pins:List (Addr×Obj)) (σ:List (Option V)) (H:Hp) (s:Shared):Prop where
 ok:X.Ok
 os:s.os=X.s₀.os
 bare:AllBare s.gens
 base:Un X.fs X.ex X.H₀ H X.s₀.heap s.heap
 loc:∃m,s.heap.Ns X.env.locals m∧∀(i:Nat) (x:Str) (v:V),X.N[i]?=some x→σ[i]?=some (some v)→G0 X.env.scope x→∃u,RelV v u∧Lw X.env s.heap m x u
 cell:∀x c,X.env.cells.lookup x=some c→∃v,s.heap.IsCell c v
 free:H X.env.locals=none
 freeC:∀x c,X.env.cells.lookup x=some c→H c=none
 pin:∀p∈X.pn++pins,s.heap.get? p.1=some p.2∧H p.1=none∧p.1≠X.env.locals∧p.1∉X.fs∧∀v,p.2.data≠.cell v
 hok:HOk X.prog X.w H s.heap
 len:σ.length=X.N.length
section
variable {X:Cx} {pins:List (Addr×Obj)} {σ:List (Option V)} {H H':Hp} {s:Shared} {h':Heap}
theorem Cx.Ok.nofr (ok:X.Ok) {b:Addr} {o:Obj} (e:X.base.get? b=some o):b∉X.fs:=fun hb=>by
 have:=(ok.funs.mem hb).1
 rw [e] at this;cases this
theorem Inv.bs (I:Inv X pins σ H s):∀b o,X.base.get? b=some o→s.heap.get? b=some o∧H b=none:=fun b o e=>
 ⟨I.base.keep b o (I.ok.bs b o e).1 (I.ok.bs b o e).2 (I.ok.nofr e) (I.ok.noex b o e),I.base.free b o (I.ok.bs b o e).1 (I.ok.bs b o e).2 (I.ok.noex b o e)⟩
theorem Inv.bk (I:Inv X pins σ H s):∀b o,X.base.get? b=some o→s.heap.get? b=some o:=fun b o e=>(I.bs b o e).1
theorem Inv.mod (I:Inv X pins σ H s):Mod X.K X.mg X.base:=I.ok.mod
theorem Inv.kIn (I:Inv X pins σ H s):X.K.In s.heap:=I.ok.mod.kin.keeps I.bk
theorem Inv.nolimit (I:Inv X pins σ H s):s.heap.NoLimit:=I.ok.mod.nolimit.keeps I.bk
theorem Inv.lt (I:Inv X pins σ H s):X.env.locals<s.heap.objs.size:=let ⟨_,hn,_⟩:=I.loc;hn.lt
theorem Inv.sz (I:Inv X pins σ H s):X.s₀.heap.objs.size≤s.heap.objs.size:=Bc I.ok.above (Ea I.lt)
theorem Inv.nofs (I:Inv X pins σ H s) {a:Addr} (h:s.heap.objs.size≤a):a∉X.fs:=fun hb=>by
 obtain ⟨_,o,ho,_⟩:=I.ok.funs.mem hb
 exact absurd (AN (AA ho) (Bc I.sz h)) (BY _)
theorem Inv.cne (I:Inv X pins σ H s):∀x c,X.env.cells.lookup x=some c→c≠X.env.locals:=fun x c e z=>by
 obtain ⟨v,o,ho,hd⟩:=I.cell x c e
 obtain ⟨m,⟨o',es,ep,ho',hd',_⟩,_⟩:=I.loc
 rw [z,ho'] at ho;cases ho;rw [hd'] at hd;cases hd
theorem Inv.funs (I:Inv X pins σ H s):s.heap.FunFrames X.base X.outer:=by
 have all:∀(l:List Env),(∀b∈frs l,b∈X.fs)→X.s₀.heap.FunFrames X.base l→s.heap.FunFrames X.base l:=by
  intro l
  induction l with
  |nil=>intro _ _;trivial
  |cons env r ih=>
   intro hs hl
   obtain ⟨hk,⟨L,o,hf,hn,ho,hd⟩,hr⟩:=hl
   have hL:L∈X.fs:=hs L (by unfold frs;rw [EU,hf];exact AE)
   obtain ⟨sl,e⟩:=I.base.slot L o ho (I.ok.frf L hL) hL fun z=>I.ok.exfs L z hL
   exact ⟨hk,⟨L,_,hf,hn,e,hd⟩,ih (fun b hb=>hs b (by unfold frs;rw [EU,hf];exact AI _ hb)) hr⟩
 exact all X.outer (fun _ hb=>hb) I.ok.funs
theorem Inv.stack (I:Inv X pins σ H s):s.heap.FunFrames X.base X.stack:=by
 rcases I.ok.stk with e |⟨e,hf⟩
 ·rw [e];exact I.funs
 ·rw [e]
  obtain ⟨m,hn,_⟩:=I.loc
  refine .cons (by rw [I.ok.kind];decide) hf hn ?_ I.funs
  exact Heap.get?_none_of_le (Bc I.ok.bsz I.ok.above)
theorem Inv.stkSub (I:Inv X pins σ H s):∀b∈frs X.stack,b∈X.env.locals::X.fs:=fun b hb=>by
 rcases I.ok.stk with e |⟨e,hf⟩
 ·rw [e] at hb;exact AI _ hb
 ·rw [e] at hb
  unfold frs at hb
  rw [EU,hf] at hb
  exact hb
theorem Inv.stkFree (I:Inv X pins σ H s):∀b∈frs X.stack,H b=none:=fun b hb=>by
 rcases qaB.mp (I.stkSub b hb) with e |hb
 ·rw [e];exact I.free
 ·obtain ⟨_,o,ho,_⟩:=I.ok.funs.mem hb
  exact I.base.free b o ho (I.ok.frf b hb) fun z=>I.ok.exfs b z hb
theorem Inv.step {g':Array GenState} {t':Nat} {d':Drawn} {ch:List Addr} (I:Inv X pins σ H s)
 (hch:∀b∈ch,(b∈X.ex∨X.s₀.heap.objs.size≤b)∧b≠X.env.locals∧(∀x c,X.env.cells.lookup x=some c→c≠b)∧∀p∈X.pn++pins,p.1≠b)
 (keep:∀b o,b≠X.env.locals→b∉X.fs→b∉ch→s.heap.get? b=some o→H b=none→h'.get? b=some o)
 (slot:∀b o,b≠X.env.locals→b∈X.fs→b∉ch→s.heap.get? b=some o→H b=none→∃sl,h'.get? b=some {o with slots:=sl}) (free:∀b o,b∉ch→s.heap.get? b=some o→H b=none→H' b=none)
 (there:∀b o,b∉ch→s.heap.get? b=some o→∃o',h'.get? b=some o')
 (tups:∀b xs,H b=some (.tup xs)→H' b=some (.tup xs)) (frzs:∀b o u,H b=some (.frz o u)→H' b=some (.frz o u)) (tbls:∀b ps,H b=some (.tbl ps)→∃more,H' b=some (.tbl (ps++more)))
 (ns:∀m,s.heap.Ns X.env.locals m→h'.Ns X.env.locals m) (hok:HOk X.prog X.w H' h') (hg:AllBare g'):
 Inv X pins σ H' {s with heap:=h',gens:=g',drawn:=d',toks:=t'}:=by
 have neL:∀b o,X.s₀.heap.get? b=some o→b≠X.env.locals:=fun b o e=>BL (AN (AA e) I.ok.above)
 have neC:∀b o,X.s₀.heap.get? b=some o→b∉X.ex→b∉ch:=fun b o e hx hb=>by
  rcases (hch b hb).1 with z |z
  ·exact hx z
  ·exact absurd (AN (AA e) z) (BY _)
 have cellK:∀x c,X.env.cells.lookup x=some c→∀v,s.heap.IsCell c v→h'.IsCell c v:=fun x c e v z1_=>by
  obtain ⟨o,ho,hd⟩:=z1_
  have nch:c∉ch:=fun z=>(hch c z).2.2.1 x c e rfl
  by_cases hc:c∈X.fs
  ·obtain ⟨sl,q⟩:=slot c o (I.cne x c e) hc nch ho (I.freeC x c e)
   exact ⟨_,q,hd⟩
  ·exact ⟨o,keep c o (I.cne x c e) hc nch ho (I.freeC x c e),hd⟩
 refine ⟨I.ok,I.os,hg,⟨fun b o e n hb hx=>?_,fun b o e n hb hx=>?_,fun b o e n hx=>?_,fun b o e hx=>?_,fun b xs e=>tups b xs (I.base.tups b xs e),fun b o xs e=>frzs b o xs (I.base.frzs b o xs e),fun b ps e=>?_⟩,?_,fun x c e=>?_,?_,fun x c e=>?_,fun p hp=>?_,hok,I.len⟩
 ·exact keep b o (neL b o e) hb (neC b o e hx) (I.base.keep b o e n hb hx) (I.base.free b o e n hx)
 ·obtain ⟨sl,e1⟩:=I.base.slot b o e n hb hx
  obtain ⟨sl',e2⟩:=slot b _ (neL b o e) hb (neC b o e hx) e1 (I.base.free b o e n hx)
  exact ⟨sl',e2⟩
 ·obtain ⟨o',e1⟩:=I.base.there b o e hx
  exact free b o' (neC b o e hx) e1 (I.base.free b o e n hx)
 ·obtain ⟨o',e1⟩:=I.base.there b o e hx
  exact there b o' (neC b o e hx) e1
 ·obtain ⟨m1,e1⟩:=I.base.tbls b ps e
  obtain ⟨m2,e2⟩:=tbls b _ e1
  exact ⟨m1++m2,by rw [e2,Array.append_assoc]⟩
 ·obtain ⟨m,hn,hl⟩:=I.loc
  refine ⟨m,ns m hn,fun i x v e1 e2 e3=>?_⟩
  obtain ⟨u,r,l⟩:=hl i x v e1 e2 e3
  refine ⟨u,r,?_⟩
  rcases l with l |⟨k,c,e,z⟩
  ·exact .inl l
  ·exact .inr ⟨k,c,e,cellK x c e _ z⟩
 ·obtain ⟨v,z⟩:=I.cell x c e
  exact ⟨v,cellK x c e v z⟩
 ·obtain ⟨m,⟨o,_,_,ho,_⟩,_⟩:=I.loc
  exact free _ o (fun z=>(hch _ z).2.1 rfl) ho I.free
 ·obtain ⟨v,o,ho,hd⟩:=I.cell x c e
  exact free c o (fun z=>(hch c z).2.2.1 x c e rfl) ho (I.freeC x c e)
 ·obtain ⟨e,n,ne,nf,d⟩:=I.pin p hp
  have nch:p.1∉ch:=fun z=>(hch p.1 z).2.2.2 p hp rfl
  exact ⟨keep p.1 p.2 ne nf nch e n,free p.1 p.2 nch e n,ne,nf,d⟩
theorem Inv.un {t':Nat} (I:Inv X pins σ H s) (u:Un X.fs [] H H' s.heap h') (hok:HOk X.prog X.w H' h'):Inv X pins σ H' {s with heap:=h',toks:=t'}:=by
 obtain ⟨m,⟨o,es,ep,ho,r⟩,_⟩:=id I.loc
 obtain ⟨sl,hL⟩:=u.any ho I.free (by simp)
 exact I.step (g':=s.gens) (d':=s.drawn) (ch:=[]) (fun _ z=>nomatch z) (fun b o _ hb _ e n=>u.keep b o e n hb (by simp)) (fun b o _ hb _ e n=>u.slot b o e n hb (by simp)) (fun b o _ e n=>u.free b o e n (by simp)) (fun b o _ e=>u.there b o e (by simp)) u.tups u.frzs u.tbls (fun m' hm=>by
  obtain ⟨o',es',ep',ho',r'⟩:=hm
  rw [ho] at ho';cases ho'
  exact ⟨_,es',ep',hL,r'⟩) hok I.bare
theorem Inv.call {g':Array GenState} {t':Nat} {d':Drawn} {ch:List Addr} (I:Inv X pins σ H s) (u:Un (frs X.stack) ch H H' s.heap h') (hok:HOk X.prog X.w H' h') (hg:AllBare g')
 (hch:∀b∈ch,(b∈X.ex∨X.s₀.heap.objs.size≤b)∧b≠X.env.locals∧(∀x c,X.env.cells.lookup x=some c→c≠b)∧∀p∈X.pn++pins,p.1≠b):
 Inv X pins σ H' {s with heap:=h',gens:=g',drawn:=d',toks:=t'}:=by
 obtain ⟨m,⟨o,es,ep,ho,r⟩,_⟩:=id I.loc
 obtain ⟨sl,hL⟩:=u.any ho I.free fun z=>(hch _ z).2.1 rfl
 exact I.step (ch:=ch) hch (fun b o hL hb hc e n=>u.keep b o e n (fun z=>(qaB.mp (I.stkSub b z)).elim hL hb) hc) (fun b o _ _ hc e n=>u.any e n hc) (fun b o hc e n=>u.free b o e n hc) (fun b o hc e=>u.there b o e hc) u.tups u.frzs u.tbls (fun m' hm=>by
  obtain ⟨o',es',ep',ho',r'⟩:=hm
  rw [ho] at ho';cases ho'
  exact ⟨_,es',ep',hL,r'⟩) hok hg
theorem Inv.turned {t':Nat} {it:Addr} (I:Inv X pins σ H s) (k:∀b o,b≠it→s.heap.get? b=some o→h'.get? b=some o) (hn:H it=none) (hL:it≠X.env.locals)
 (h1:it∈X.ex∨X.s₀.heap.objs.size≤it) (h2:∀x c,X.env.cells.lookup x=some c→c≠it) (h3:∀p∈X.pn++pins,p.1≠it):Inv X pins σ H {s with heap:=h',toks:=t'}:=by
 have nit:∀b u,H b=some u→b≠it:=fun b u e z=>by rw [z,hn] at e;cases e
 refine I.step (g':=s.gens) (d':=s.drawn) (ch:=[it]) (fun b hb=>?_) (fun b o _ _ hc e _=>k b o (fun z=>hc (by simp [z])) e) (fun b o _ _ hc e _=>⟨o.slots,k b o (fun z=>hc (by simp [z])) e⟩) (fun _ _ _ _ n=>n)
  (fun b o hc e=>⟨o,k b o (fun z=>hc (by simp [z])) e⟩) (fun _ _ e=>e) (fun _ _ _ e=>e) (fun b ps e=>⟨#[],by rw [e];simp⟩) (fun m hm=>?_) (fun b u e=>?_) I.bare
 ·have e:b=it:=by simpa using hb
  subst e
  exact ⟨h1,hL,h2,h3⟩
 ·obtain ⟨o,es,ep,ho,r⟩:=hm
  exact ⟨o,es,ep,k _ o (Ne.symm hL) ho,r⟩
 ·refine (I.hok b u e).stay (fun c v hc q=>k c v ?_ q) (fun _ q=>q) fun _ _ q=>q
  rcases hc with z |z
  ·rw [z];exact nit b u e
  ·exact nit c _ z
theorem Inv.tok (I:Inv X pins σ H s) (t:Nat):Inv X pins σ H {s with toks:=t}:=I.un (h':=s.heap) (t':=t) Un.refl I.hok
theorem Inv.kept {t':Nat} (I:Inv X pins σ H s) (k:∀b u,s.heap.get? b=some u→h'.get? b=some u):Inv X pins σ H {s with heap:=h',toks:=t'}:=I.un (Un.kept k) (I.hok.kept k)
theorem Inv.laid {a:Addr} {o:HO} {t':Nat} (I:Inv X pins σ H s) (k:∀b u,s.heap.get? b=some u→h'.get? b=some u) (hp:s.heap.objs.size≤a) (new:ObjOk X.prog X.w (Ai H a o) h' a o):
 Inv X pins σ (Ai H a o) {s with heap:=h',toks:=t'}:=I.un (Un.laid k hp (I.hok.fresh hp)) (I.hok.laid k hp new)
theorem Inv.write {x e:Addr} {o:HO} {t':Nat} (I:Inv X pins σ H s) (mu:GY (H x)) (he:e=x∨H e=some (.own x)) (k:∀b u,b≠e→s.heap.get? b=some u→h'.get? b=some u) (heo:∃u,h'.get? e=some u)
 (new:ObjOk X.prog X.w (Ai H x o) h' x o):Inv X pins σ (Ai H x o) {s with heap:=h',toks:=t'}:=I.un (Un.write mu he k heo) (I.hok.write mu he k heo new)
theorem Inv.weak {σ':List (Option V)} (I:Inv X pins σ H s) (hl:σ'.length=σ.length) (w:∀(i:Nat) v,σ'[i]?=some (some v)→σ[i]?=some (some v)):Inv X pins σ' H s:=
 ⟨I.ok,I.os,I.bare,I.base,let ⟨m,hn,hl'⟩:=I.loc;⟨m,hn,fun i x v e1 e2 e3=>hl' i x v e1 (w i v e2) e3⟩,I.cell,I.free,I.freeC,I.pin,I.hok,hl.trans I.len⟩
theorem Inv.pins_of {pins':List (Addr×Obj)} (I:Inv X pins σ H s) (h:∀p∈pins',s.heap.get? p.1=some p.2∧H p.1=none∧p.1≠X.env.locals∧p.1∉X.fs∧∀v,p.2.data≠.cell v):Inv X pins' σ H s:=
 ⟨I.ok,I.os,I.bare,I.base,I.loc,I.cell,I.free,I.freeC,fun p hp=>(qaW.mp hp).elim (fun z=>I.pin p (Jm _ z)) (h p),I.hok,I.len⟩
theorem Jp {N:List Str} (hN:N.Nodup) {i j:Nat} {x:Str} (a:N[i]?=some x) (b:N[j]?=some x):i=j:=by
 obtain ⟨h1,e1⟩:=qa4.mp a
 obtain ⟨h2,e2⟩:=qa4.mp b
 exact (List.getElem_inj hN).mp (e1.trans e2.symm)
theorem G1 {M:Model} {A:Around} {E:Value→Shared→Prop} {i:Nat} {x:Str} {v:V} {u:Value} {Q:Unit→Shared→Prop} (I:Inv X pins σ H s) (hN:X.N.Nodup) (hi:X.N[i]?=some x) (hx:Eb X.env.scope x) (r:RelV v u)
 (h:∀s',Inv X pins (σ.set i (some v)) H s'→(∃a,Heap.SameBut a s.heap s'.heap∧(a=X.env.locals∨X.env.cells.lookup x=some a))→Q () s') (hf:X.fn x=true∨X.env.scope.names.lookup x=some .local:=by first |exact .inl rfl |exact .inr rfl |assumption):wpAny M A (storeName X.env x u) Q E s:=by
 obtain ⟨m,hn,hl⟩:=id I.loc
 have hcls:(X.env.scope.kind==.class||(X.env.scope.kind==.module&&X.env.locals != X.env.globals))=false:=by rw [I.ok.kind];rfl
 have hiσ:i < σ.length:=by rw [I.len];exact (qa4.mp hi).1
 have cne:=I.cne
 have tracked:∀{a:Addr} {h':Heap},(∃o,s.heap.get? a=some o∧H a=none)→Heap.SameBut a s.heap h'→HOk X.prog X.w H h':=fun {a h'} ha hs b ob e=>by
  obtain ⟨_,_,hfree⟩:=ha
  refine (I.hok b ob e).stay (fun c w' hc q=>(hs.2 c ?_).trans q) (fun _ q=>q) fun _ _ q=>q
  rintro rfl
  rcases hc with rfl |hc
  ·rw [hfree] at e;cases e
  ·rw [hfree] at hc;cases hc
 rcases hx with hk |hk
 ·refine wpAny_storeName_local hk hn (fun h' hn' hs=>?_) hcls
  obtain ⟨oL,_,_,hoL,_⟩:=id hn
  refine h _ ⟨I.ok,I.os,I.bare,⟨fun b o e n hb hx=>?_,fun b o e n hb hx=>?_,I.base.free,fun b o e hx=>?_,I.base.tups,I.base.frzs,I.base.tbls⟩,⟨_,hn',fun j y v' e1 e2 e3=>?_⟩,fun y c e=>?_,I.free,I.freeC,fun p hp=>?_,tracked ⟨oL,hoL,I.free⟩ hs,by simpa using I.len⟩ ⟨_,hs,.inl rfl⟩
  ·exact (hs.2 b (BL (AN (AA e) I.ok.above))).trans (I.base.keep b o e n hb hx)
  ·obtain ⟨sl,e1⟩:=I.base.slot b o e n hb hx
   exact ⟨sl,(hs.2 b (BL (AN (AA e) I.ok.above))).trans e1⟩
  ·obtain ⟨o',e1⟩:=I.base.there b o e hx
   exact ⟨o',(hs.2 b (BL (AN (AA e) I.ok.above))).trans e1⟩
  ·by_cases hj:j=i
   ·subst hj
    rw [hi] at e1;cases e1
    rw [BV hiσ] at e2
    cases e2
    exact ⟨u,r,.inl ⟨hk,by simp⟩⟩
   ·rw [Bw (Ne.symm hj)] at e2
    obtain ⟨u',r',q⟩:=hl j y v' e1 e2 e3
    refine ⟨u',r',?_⟩
    rcases q with ⟨k,e⟩ |⟨k,c,e,z⟩
    ·refine .inl ⟨k,?_⟩
     have:y≠x:=fun e=>hj (Jp hN e1 (e ▸ hi))
     simp [this,e]
    ·exact .inr ⟨k,c,e,z.sameBut hs (cne y c e)⟩
  ·obtain ⟨w',z⟩:=I.cell y c e
   exact ⟨w',z.sameBut hs (cne y c e)⟩
  ·obtain ⟨e,n,ne,nf,d⟩:=I.pin p hp
   exact ⟨(hs.2 p.1 ne).trans e,n,ne,nf,d⟩
 ·have hfn:X.fn x=true:=by
   rcases hf with z |z
   ·exact z
   ·rw [z] at hk;cases hk
  obtain ⟨c,hc⟩:=I.ok.has x (.inl hk)
  obtain ⟨w',z⟩:=I.cell x c hc
  refine wpAny_storeName_cell I.ok.kind hk hc z (fun h' hc' hs=>?_)
  obtain ⟨oc,hoc,hocd⟩:=id z
  refine h {s with heap:=h'} ⟨I.ok,I.os,I.bare,⟨fun b o e n hb hx=>?_,fun b o e n hb hx=>?_,I.base.free,fun b o e hx=>?_,I.base.tups,I.base.frzs,I.base.tbls⟩,⟨m,hn.sameBut hs (Ne.symm (cne x c hc)),fun j y v' e1 e2 e3=>?_⟩,fun y c' e=>?_,I.free,I.freeC,fun p hp=>?_,tracked ⟨oc,hoc,I.freeC x c hc⟩ hs,by simpa using I.len⟩ ⟨c,hs,.inr hc⟩
  ·exact (hs.2 b (BL (AN (AA e) (I.ok.cab x c hfn hc)))).trans (I.base.keep b o e n hb hx)
  ·obtain ⟨sl,e1⟩:=I.base.slot b o e n hb hx
   exact ⟨sl,(hs.2 b (BL (AN (AA e) (I.ok.cab x c hfn hc)))).trans e1⟩
  ·obtain ⟨o',e1⟩:=I.base.there b o e hx
   exact ⟨o',(hs.2 b (BL (AN (AA e) (I.ok.cab x c hfn hc)))).trans e1⟩
  ·by_cases hj:j=i
   ·subst hj
    rw [hi] at e1;cases e1
    rw [BV hiσ] at e2
    cases e2
    exact ⟨u,r,.inr ⟨.inl hk,c,hc,hc'⟩⟩
   ·rw [Bw (Ne.symm hj)] at e2
    obtain ⟨u',r',q⟩:=hl j y v' e1 e2 e3
    refine ⟨u',r',?_⟩
    rcases q with q |⟨k,c',e,z'⟩
    ·exact .inl q
    ·refine .inr ⟨k,c',e,z'.sameBut hs ?_⟩
     rintro rfl
     exact hj (Jp hN e1 (I.ok.inj _ _ _ e hc ▸ hi))
  ·by_cases hcc:c'=c
   ·subst hcc;exact ⟨_,hc'⟩
   ·obtain ⟨w2,z2⟩:=I.cell y c' e
    exact ⟨w2,z2.sameBut hs hcc⟩
  ·obtain ⟨e,n,ne,nf,d⟩:=I.pin p hp
   refine ⟨(hs.2 p.1 ?_).trans e,n,ne,nf,d⟩
   intro q
   rw [q,hoc] at e
   have q':oc=p.2:=Option.some.inj e
   exact d w' (by rw [←q'];exact hocd)
theorem G2 {M:Model} {A:Around} {E:Value→Shared→Prop} {i:Nat} {x:Str} {v:V} {u:Value} {Q:Unit→Shared→Prop} (I:Inv X pins σ H s) (hN:X.N.Nodup) (hi:X.N[i]?=some x) (hx:Eb X.env.scope x) (r:RelV v u)
 (h:∀s',Inv X pins (σ.set i (some v)) H s'→Q () s') (hf:X.fn x=true∨X.env.scope.names.lookup x=some .local:=by first |exact .inl rfl |exact .inr rfl |assumption):wpAny M A (storeName X.env x u) Q E s:=
 G1 I hN hi hx r (fun s' I' _=>h s' I') hf
theorem Inv.call' {s':Shared} {ch:List Addr} (I:Inv X pins σ H s) (ho:s'.os=s.os) (u:Un (frs X.stack) ch H H' s.heap s'.heap) (hok:HOk X.prog X.w H' s'.heap) (hg:AllBare s'.gens)
 (hch:∀b∈ch,(b∈X.ex∨X.s₀.heap.objs.size≤b)∧b≠X.env.locals∧(∀x c,X.env.cells.lookup x=some c→c≠b)∧∀p∈X.pn++pins,p.1≠b):Inv X pins σ H' s':=by
 obtain ⟨h',g',d',t',o'⟩:=s'
 have e:o'=s.os:=ho
 subst e
 exact I.call (g':=g') (t':=t') (d':=d') u hok hg hch
end
abbrev XK:=Value→Option Addr→Hp→Prop
abbrev St:=List (Option V)
abbrev VK:=V→Hp→Prop
abbrev TE:=St→Hp→VK→Prop
abbrev TT:=St→Hp→(Bool→Hp→Prop)→Prop
abbrev TA:=St→Hp→(List V→Hp→Prop)→Prop
structure Cs where
 nx:St→Hp→Prop
 rt:VK
 bk:St→Hp→Prop:=fun _ _=>False
 ct:St→Hp→Prop:=fun _ _=>False
abbrev TS:=Cs→St→Hp→Prop
inductive EP (X:Cx) (pins:List (Addr×Obj)) (σ:St) (Q:VK) (u:Value) (s':Shared):Prop where
 |mk (v:V) (H':Hp) (i:Inv X pins σ H' s') (r:RelV v u) (q:Q v H'):EP X pins σ Q u s'
inductive TP (X:Cx) (pins:List (Addr×Obj)) (σ:St) (Q:Bool→Hp→Prop) (b:Bool) (s':Shared):Prop where
 |mk (H':Hp) (i:Inv X pins σ H' s') (q:Q b H'):TP X pins σ Q b s'
inductive AP (X:Cx) (pins:List (Addr×Obj)) (σ:St) (Q:List V→Hp→Prop) (us:List Value) (s':Shared):Prop where
 |mk (vs:List V) (H':Hp) (i:Inv X pins σ H' s') (r:Vals vs us) (q:Q vs H'):AP X pins σ Q us s'
inductive SN (X:Cx) (pins:List (Addr×Obj)) (q:St→Hp→Prop) (s':Shared):Prop where
 |mk (σ':St) (H':Hp) (i:Inv X pins σ' H' s') (p:q σ' H'):SN X pins q s'
inductive SR (X:Cx) (pins:List (Addr×Obj)) (q:V→Hp→Prop) (u:Value) (s':Shared):Prop where
 |mk (v:V) (σ':St) (H':Hp) (i:Inv X pins σ' H' s') (r:RelV v u) (p:q v H'):SR X pins q u s'
def SP (X:Cx) (pins:List (Addr×Obj)) (D:Cs) (f:Flow) (s':Shared):Prop:=
 match f with
 |.next=>SN X pins D.nx s'
 |.brk=>SN X pins D.bk s'
 |.cont=>SN X pins D.ct s'
 |.ret u=>SR X pins D.rt u s'
def PE (X:Cx) (e:Expr) (t:TE):Prop:=
 ∀(pins:List (Addr×Obj)) (s:Shared) (σ:St) (H:Hp) (Q:VK),Inv X pins σ H s→t σ H Q→wpAny (model X.prog X.w) X.A (eval e X.env) (EP X pins σ Q) X.xe s
def PT (X:Cx) (e:Expr) (t:TT):Prop:=
 ∀(pins:List (Addr×Obj)) (s:Shared) (σ:St) (H:Hp) (Q:Bool→Hp→Prop),Inv X pins σ H s→t σ H Q→wpAny (model X.prog X.w) X.A (isTrue e X.env (eval e X.env)) (TP X pins σ Q) X.xe s
def PW (X:Cx) (e:Expr) (t:TT):Prop:=
 ∀(Dc:Sem Value) (pins:List (Addr×Obj)) (s:Shared) (σ:St) (H:Hp) (Q:Bool→Hp→Prop),Inv X pins σ H s→t σ H Q→wpAny (model X.prog X.w) X.A (isTrue e X.env Dc) (TP X pins σ Q) X.xe s
theorem PW.pt {X:Cx} {e:Expr} {t:TT} (h:PW X e t):PT X e t:=h _
def PA (X:Cx) (es:List Expr) (t:TA):Prop:=
 ∀(pos:Pos) (pins:List (Addr×Obj)) (s:Shared) (σ:St) (H:Hp) (Q:List V→Hp→Prop),Inv X pins σ H s→t σ H Q→wpAny (model X.prog X.w) X.A (spliced (backTo pos (starEach es X.env))) (AP X pins σ Q) X.xe s
def PS (X:Cx) (st:Stmt) (t:TS):Prop:=
 ∀(pins:List (Addr×Obj)) (s:Shared) (σ:St) (H:Hp) (D:Cs),Inv X pins σ H s→t D σ H→wpAny (model X.prog X.w) X.A (exec st X.env) (SP X pins D) X.xe s
def Ca (X:Cx) (st:List Stmt) (t:TS):Prop:=
 ∀(pins:List (Addr×Obj)) (s:Shared) (σ:St) (H:Hp) (D:Cs),Inv X pins σ H s→t D σ H→wpAny (model X.prog X.w) X.A (execs st X.env) (SP X pins D) X.xe s
theorem Ak {α:Type} {t:Sem α} {Q Q':α→Shared→Prop} {M:Model} {A:Around} {E:Value→Shared→Prop} {s:Shared} (h:wpAny M A t Q E s) (hQ:∀a s,Q a s→Q' a s):wpAny M A t Q' E s:=wpAny_mono h hQ fun _ _ x=>x
section
variable {X:Cx}
def Lx (i:Nat):TE:=fun σ H Q=>∃v,σ[i]?=some (some v)∧Q v H
def tC (v:V):TE:=fun _ H Q=>Q v H
theorem Jq {i:Nat} {x:Str} {pos:Pos} (hN:X.N[i]?=some x) (hv:G0 X.env.scope x) (hd:(x==("__debug__":Str))=false:=by decide) (hcd:(x==("__classdict__":Str))=false:=by decide):PE X (.Name x pos) (Lx i):=by
 intro pins s σ H Q I h
 obtain ⟨v,e,h⟩:=h
 obtain ⟨m,hn,hl⟩:=I.loc
 obtain ⟨u,r,l⟩:=hl i x v hN e hv
 have Ao:EP X pins σ Q u s:=⟨v,H,I,r,h⟩
 rcases l with ⟨hk,hm⟩ |⟨hk,c,hc,hcell⟩
 ·exact wpAny_Name (wpAny_loadName_local I.ok.kind hk hn hm Ao) hd
 ·rcases hk with hk |hk
  ·exact wpAny_Name (wpAny_loadName_cell I.ok.kind hk hc hcell Ao) hd
  ·exact wpAny_Name (wpAny_loadName_free I.ok.kind hk hc hcell Ao hcd) hd
theorem Qw {i j pos}:PE X (.Constant (.int i) j pos) (tC (.int i)):=fun _ _ _ H _ I h=>wpAny_Constant_int ⟨.int i,H,I.tok _,⟨_,rfl⟩,h⟩
theorem Qx {b j pos}:PE X (.Constant (.bool b) j pos) (tC (.bl b)):=fun _ _ _ H _ I h=>Constant_bool ⟨.bl b,H,I,rfl,h⟩
theorem Qy {j pos}:PE X (.Constant .none j pos) (tC .non):=fun _ _ _ H _ I h=>Constant_none ⟨.non,H,I,rfl,h⟩
theorem Qz {x j pos}:PE X (.Constant (.str x) j pos) (tC (.str x)):=fun _ _ _ H _ I h=>Calls.Constant_str ⟨.str x,H,I.tok _,⟨_,rfl⟩,h⟩
def Gl (X:Cx) (x:Str):Prop:=X.env.kindOf x=some .globalImplicit
theorem EZ {E:Value→Shared→Prop} {pins:List (Addr×Obj)} {s:Shared} {σ:St} {H:Hp} {x:Str} {u:Value} {pos:Pos} {Q:Value→Shared→Prop} (I:Inv X pins σ H s) (hg:Gl X x) (hm:X.mg x=some u) (h:Q u s)
 (hd:(x==("__debug__":Str))=false:=by decide):wpAny (model X.prog X.w) X.A (eval (.Name x pos) X.env) Q E s:=
 Calls.Name_function_global I.ok.kind hg (Calls.loadGlobal_global (by rw [I.ok.glob];exact I.mod.glob.keeps I.bk) hm h) hd
theorem G3 {E:Value→Shared→Prop} {pins:List (Addr×Obj)} {s:Shared} {σ:St} {H:Hp} {x:Str} {u:Value} {pos:Pos} {Q:Value→Shared→Prop} (I:Inv X pins σ H s) (hg:Gl X x) (hm:X.mg x=none) (hv:bootBuiltins x=some u) (h:Q u s)
 (hn:x≠"__name__":=by decide) (hd:(x==("__debug__":Str))=false:=by decide):wpAny (model X.prog X.w) X.A (eval (.Name x pos) X.env) Q E s:=by
 obtain ⟨mb,h1,h2⟩:=I.mod.blt
 exact Calls.Name_function_global I.ok.kind hg (Calls.loadGlobal_builtin (by rw [I.ok.glob];exact I.mod.glob.keeps I.bk) hm (by rw [I.ok.blt];exact h1.keeps I.bk) ((h2 x hn).trans hv) h) hd
theorem Ly {x:Str} {v:V} {u:Value} {pos:Pos} (hg:Gl X x) (hm:X.mg x=some u) (r:RelV v u) (hd:(x==("__debug__":Str))=false:=by decide):PE X (.Name x pos) (tC v):=
 fun _ _ _ H _ I h=>EZ I hg hm ⟨v,H,I,r,h⟩ hd
theorem QC {x:Str} {v:V} {u:Value} {pos:Pos} (hg:Gl X x) (hm:X.mg x=none) (hv:bootBuiltins x=some u) (r:RelV v u) (hn:x≠"__name__":=by decide) (hd:(x==("__debug__":Str))=false:=by decide):PE X (.Name x pos) (tC v):=
 fun _ _ _ H _ I h=>G3 I hg hm hv ⟨v,H,I,r,h⟩ hn hd
variable {a b:Expr} {ta tb:TE} {pos:Pos}
variable {tA tB':TT} {rest:List Expr}
def QE (t u:TT):TT:=fun σ H Q=>t σ H fun c H1=>if c=true then Q true H1 else u σ H1 Q
def QF (t:TT):TT:=fun σ H Q=>t σ H fun c H1=>Q (!c) H1
theorem QG (ha:PT X a tA):PW X (.BoolOp .Or [a] pos) tA:=by
 intro wh pins s σ H Q I h
 refine isTrue_or (Ak (ha pins s σ H Q I h) fun c s1 e=>?_)
 cases c with
 |false=>exact isTrue_or_nil e
 |true=>exact e
theorem QH (ha:PT X a tA) (hb:PW X (.BoolOp .Or (b::rest) pos) tB'):PW X (.BoolOp .Or (a::b::rest) pos) (QE tA tB'):=by
 intro wh pins s σ H Q I h
 refine isTrue_or (Ak (ha pins s σ H _ I h) fun c s1 z9_=>?_)
 obtain ⟨H1,I1,q1⟩:=z9_
 cases c with
 |true=>exact ⟨H1,I1,q1⟩
 |false=>exact hb wh pins s1 σ H1 Q I1 q1
theorem QJ (ha:PT X a tA):PT X (.UnaryOp .Not a pos) (QF tA):=by
 intro pins s σ H Q I h
 exact isTrue_not (Ak (ha pins s σ H (fun c H1=>Q (!c) H1) I h) fun c s1 z=>by cases z with |mk H1 I1 q=>exact ⟨H1,I1,q⟩)
def QK (ta tb:TE):TE:=fun σ H Q=>ta σ H fun x H1=>∃c,x=.bl c∧if c=true then tb σ H1 Q else Q (.bl false) H1
def Zb (ta tb:TE):TE:=fun σ H Q=>ta σ H fun x H1=>∃c,x=.bl c∧if c=true then Q (.bl true) H1 else tb σ H1 Q
def QL (ta:TE):TE:=fun σ H Q=>ta σ H fun x H1=>∃c,x=.bl c∧Q (.bl (!c)) H1
theorem QM {op} {t:TE} (h:PE X a t):PE X (.BoolOp op [a] pos) t:=fun pins s σ H Q I hw=>BoolOp_one (h pins s σ H Q I hw)
theorem QN (ha:PE X a ta) (hb:PE X (.BoolOp .And (b::rest) pos) tb):PE X (.BoolOp .And (a::b::rest) pos) (QK ta tb):=by
 intro pins s σ H Q I h
 refine BoolOp_and (Ak (ha pins s σ H _ I h) fun v s1 z10_=>?_)
 obtain ⟨x,H1,I1,r1,q1⟩:=z10_
 obtain ⟨c,rfl,q1⟩:=q1
 cases r1
 refine wpAny_truthy_bool ?_
 cases c with
 |true=>exact hb pins s1 σ H1 Q I1 q1
 |false=>exact ⟨.bl false,H1,I1,rfl,q1⟩
theorem QP (ha:PE X a ta):PE X (.UnaryOp .Not a pos) (QL ta):=by
 intro pins s σ H Q I h
 refine UnaryOp_ (Ak (ha pins s σ H _ I h) fun v s1 z12_=>?_)
 obtain ⟨x,H1,I1,r1,q1⟩:=z12_
 obtain ⟨c,rfl,q1⟩:=q1
 cases r1
 exact not_of (wpAny_truthy_bool ⟨.bl (!c),H1,I1,rfl,q1⟩)
def QR (t:TT) (ta tb:TE):TE:=fun σ H Q=>t σ H fun c H1=>if c=true then ta σ H1 Q else tb σ H1 Q
theorem QT {c:Expr} (hc:PT X c tA) (ha:PE X a ta) (hb:PE X b tb):PE X (.IfExp c a b pos) (QR tA ta tb):=by
 intro pins s σ H Q I h
 refine wpAny_IfExp (Ak (hc pins s σ H _ I h) fun d s1 z13_=>?_)
 obtain ⟨H1,I1,q1⟩:=z13_
 cases d with
 |true=>exact ha pins s1 σ H1 Q I1 q1
 |false=>exact hb pins s1 σ H1 Q I1 q1
end
def SqL (K:PySem.W.Frag) (H:Hp) (a:Addr) (xs:List V):Prop:=
 Rd H a (.lst xs)∨
  ∃(o:Obj) (its:Array Value) (n:Nat),K.lookup a=some o∧o.cls=.type "list"∧o.dict=none∧o.data=.seq its n∧its.size≤sizeLine∧Vals xs its.toList
def SqT (K:PySem.W.Frag) (H:Hp) (a:Addr) (xs:List V):Prop:=
 Rd H a (.tup xs)∨
  ∃(o:Obj) (its:Array Value) (n:Nat),K.lookup a=some o∧o.cls=.type "tuple"∧o.data=.seq its n∧its.size≤sizeLine∧Vals xs its.toList
def QU:Value→Option V
 |.none=>some .non
 |.bool b=>some (.bl b)
 |.int i _=>some (.int i)
 |.str x _=>some (.str x)
 |.bytes b _=>some (.byt b)
 |.float b _=>some (.flt b)
 |.ref a=>some (.ref a)
 |.type n=>some (.ty n)
 |_=>none
theorem RelV.abs {x:V} {u:Value} (r:RelV x u):QU u=some x:=by
 cases x with
 |non=>cases r;rfl
 |bl _=>cases r;rfl
 |int _=>obtain ⟨t,rfl⟩:=r;rfl
 |str _=>obtain ⟨t,rfl⟩:=r;rfl
 |byt _=>obtain ⟨t,rfl⟩:=r;rfl
 |flt _=>obtain ⟨t,rfl⟩:=r;rfl
 |ref _=>cases r;rfl
 |ty _=>cases r;rfl
theorem RelV.inj {x y:V} {u:Value} (r:RelV x u) (q:RelV y u):x=y:=Option.some.inj (r.abs.symm.trans q.abs)
theorem Vals.inj {xs ys:List V} {us:List Value} (h:Vals xs us) (g:Vals ys us):xs=ys:=by
 induction h generalizing ys with
 |nil=>cases g;rfl
 |cons r t ih=>cases g with |cons r' t'=>rw [r.inj r',ih t']
section
variable {X:Cx} {pins:List (Addr×Obj)} {σ:St} {H:Hp} {s:Shared} {a:Addr} {xs ys:List V}
theorem SqL.of {K:PySem.W.Frag} (h:H a=some (.lst xs)):SqL K H a xs:=.inl (.inl h)
theorem SqT.of {K:PySem.W.Frag} (h:H a=some (.tup xs)):SqT K H a xs:=.inl (.inl h)
theorem Inv.list (I:Inv X pins σ H s) (h:SqL X.K H a xs):∃its:List Value,Vals xs its∧PlainL s.heap a its.toArray∧xs.length≤sizeLine:=by
 rcases h with h |⟨o,its,n,hk,hc,hd,hs,hz,r⟩
 ·obtain ⟨z,its,n,r,e⟩:=h.ok I.hok
  exact ⟨its,r,⟨_,n,e,rfl,rfl,rfl⟩,z⟩
 ·refine ⟨its.toList,r,⟨o,n,I.kIn a o hk,hc,hd,by simpa using hs⟩,?_⟩
  have e:=r.length
  simp only [Array.length_toList] at e
  omega
theorem Inv.tuple (I:Inv X pins σ H s) (h:SqT X.K H a xs):∃its:List Value,Vals xs its∧IsTup s.heap a its.toArray∧xs.length≤sizeLine:=by
 rcases h with h |⟨o,its,n,hk,hc,hs,hz,r⟩
 ·obtain ⟨z,its,r,p,_⟩:=h.ok I.hok
  exact ⟨its,r,p,z⟩
 ·refine ⟨its.toList,r,⟨o,I.kIn a o hk,hc,n,by simpa using hs⟩,?_⟩
  have e:=r.length
  simp only [Array.length_toList] at e
  omega
theorem Inv.list_inj (I:Inv X pins σ H s) (h:SqL X.K H a xs) (h':SqL X.K H a ys):xs=ys:=by
 obtain ⟨its,r,⟨o,n,e,_,_,d⟩,_⟩:=I.list h
 obtain ⟨its',r',⟨o',n',e',_,_,d'⟩,_⟩:=I.list h'
 rw [e] at e';cases e'
 rw [d] at d'
 injection d' with d1 _
 have:its=its':=by simpa using congrArg Array.toList d1
 subst this
 exact r.inj r'
theorem Inv.tuple_inj (I:Inv X pins σ H s) (h:SqT X.K H a xs) (h':SqT X.K H a ys):xs=ys:=by
 obtain ⟨its,r,⟨o,e,_,n,d⟩,_⟩:=I.tuple h
 obtain ⟨its',r',⟨o',e',_,n',d'⟩,_⟩:=I.tuple h'
 rw [e] at e';cases e'
 rw [d] at d'
 injection d' with d1 _
 have:its=its':=by simpa using congrArg Array.toList d1
 subst this
 exact r.inj r'
end
section
variable {X:Cx} {pins:List (Addr×Obj)} {σ:St} {H:Hp} {s:Shared} {E:Value→Shared→Prop}
end
section
variable {X:Cx} {st:Stmt} {rest:List Stmt} {t u:TS} {e:Expr} {te:TE} {pos:Pos}
def QV:TS:=fun D σ H=>D.nx σ H
def QW (t u:TS):TS:=fun D σ H=>t {D with nx:=u D} σ H
theorem QX:Ca X [] QV:=fun _ _ σ H _ I h=>wpAny_execs_nil ⟨σ,H,I,h⟩
theorem QY (h1:PS X st t) (h2:Ca X rest u):Ca X (st::rest) (QW t u):=by
 intro pins s σ H D I h
 refine wpAny_execs_cons (Ak (h1 pins s σ H {D with nx:=u D} I h) fun f s1 q=>?_)
 cases f with
 |next=>
  obtain ⟨σ',H',I',q⟩:=q
  exact h2 pins s1 σ' H' D I' q
 |ret v=>exact q
 |brk=>exact q
 |cont=>exact q
theorem QZ (h1:PS X st t):Ca X [st] t:=by
 intro pins s σ H D I h
 refine wpAny_execs_cons (Ak (h1 pins s σ H D I h) fun f s1 q=>?_)
 cases f with
 |next=>exact wpAny_execs_nil q
 |ret v=>exact q
 |brk=>exact q
 |cont=>exact q
theorem Inv.quiet {pins:List (Addr×Obj)} {σ:St} {H:Hp} {s:Shared} (I:Inv X pins σ H s):interactive X.env=false:=by simp [interactive,I.ok.kind]
def Q0 (te:TE):TS:=fun D σ H=>te σ H fun _ H1=>D.nx σ H1
theorem Q1 (he:PE X e te) (hs:swapsWith e none pos.line X.env=pure false:=by rfl):PS X (.Expr e pos) (Q0 te):=by
 intro pins s σ H D I h
 exact wpAny_Expr_any (Ak (he pins s σ H _ I h) fun v s1 z16_=>by obtain ⟨x,H1,I1,r1,q1⟩:=z16_;exact (⟨σ,H1,I1,q1⟩)) I.quiet hs
def Q2 (te:TE):TS:=fun D σ H=>te σ H D.rt
theorem Q3 (he:PE X e te):PS X (.Return (some e) pos) (Q2 te):=by
 intro pins s σ H D I h
 exact wpAny_Return_some (Ak (he pins s σ H _ I h) fun v s1 z17_=>by obtain ⟨x,H1,I1,r1,q1⟩:=z17_;exact (⟨x,σ,H1,I1,r1,q1⟩))
def Q4 (c:TT) (t u:TS):TS:=fun D σ H=>c σ H fun b H1=>if b=true then t D σ H1 else u D σ H1
theorem Q5 {c:Expr} {a b:List Stmt} {tc:TT} (hc:PT X c tc) (ha:Ca X a t) (hb:Ca X b u):PS X (.If c a b pos) (Q4 tc t u):=by
 intro pins s σ H D I h
 refine wpAny_If (Ak (hc pins s σ H _ I h) fun d s1 z18_=>?_)
 obtain ⟨H1,I1,q1⟩:=z18_
 cases d with
 |true=>exact ha pins s1 σ H1 D I1 q1
 |false=>exact hb pins s1 σ H1 D I1 q1
def Q6:TS:=fun _ _ _=>False
theorem Q7 {sts:List Stmt}:Ca X sts Q6:=fun _ _ _ _ _ _ h=>h.elim
end
abbrev TG:=V→St→Hp→(St→Hp→Prop)→Prop
abbrev DI:=List V→St→Hp→(St→Hp→Prop)→Prop
def PG (X:Cx) (target:Expr) (t:TG):Prop:=
 ∀(pins:List (Addr×Obj)) (s:Shared) (σ:St) (H:Hp) (v:V) (u:Value) (Q:St→Hp→Prop),Inv X pins σ H s→RelV v u→t v σ H Q→
  wpAny (model X.prog X.w) X.A (assign target X.env u) (fun _ s'=>SN X pins Q s') X.xe s
def G4 (X:Cx) (ts:List Expr) (t:DI):Prop:=
 ∀(pins:List (Addr×Obj)) (s:Shared) (σ:St) (H:Hp) (vs:List V) (us:List Value) (Q:St→Hp→Prop),Inv X pins σ H s→Vals vs us→t vs σ H Q→
  wpAny (model X.prog X.w) X.A (assignInOrder ((assignEach ts X.env).map (·.2)) us) (fun _ s'=>SN X pins Q s') X.xe s
abbrev Jr:=V→V→V→Hp→(Hp→Prop)→Prop
def Lz (X:Cx) (t:Jr):Prop:=
 ∀(pins:List (Addr×Obj)) (s:Shared) (σ:St) (H:Hp) (o i v:V) (ov iv u:Value) (Q:Hp→Prop),Inv X pins σ H s→RelV o ov→RelV i iv→RelV v u→t o i v H Q→
  wpAny (model X.prog X.w) X.A (setItem ov iv u) (fun _ s'=>∃H',Inv X pins σ H' s'∧Q H') X.xe s
section
variable {X:Cx} {pos:Pos}
def B0 (i:Nat):TG:=fun v σ H Q=>Q (σ.set i (some v)) H
theorem Dj {i:Nat} {x:Str} (hN:X.N.Nodup) (hi:X.N[i]?=some x) (hx:Eb X.env.scope x) (hf:X.fn x=true∨X.env.scope.names.lookup x=some .local:=by first |exact .inl rfl |exact .inr rfl |assumption):PG X (.Name x pos) (B0 i):=by
 intro pins s σ H v u Q I r h
 exact wpAny_assign_Name (G2 I hN hi hx r (fun s' I'=>⟨_,H,I',h⟩) hf)
def E1:DI:=fun vs σ H Q=>vs=[]∧Q σ H
def CN (t:TG) (u:DI):DI:=fun vs σ H Q=>∃v r,vs=v::r∧t v σ H fun σ' H'=>u r σ' H' Q
theorem Js:G4 X [] E1:=by
 intro pins s σ H vs us Q I r h
 obtain ⟨e,h⟩:=h
 subst e
 cases r
 exact assignInOrder_nil ⟨σ,H,I,h⟩
theorem Ec {e:Expr} {es:List Expr} {t:TG} {u:DI} (h1:PG X e t) (h2:G4 X es u)
 (hs:(assignEach (e::es) X.env).map (·.2)=assign e X.env::(assignEach es X.env).map (·.2):=by rfl):G4 X (e::es) (CN t u):=by
 intro pins s σ H vs us Q I r h
 obtain ⟨v,vr,e1,h⟩:=h
 subst e1
 cases r with
 |cons r rr=>
  rw [hs]
  refine assignInOrder_cons (Ak (h1 pins s σ H _ _ _ I r h) fun _ s1 z19_=>?_)
  obtain ⟨σ1,H1,I1,q1⟩:=z19_
  exact h2 pins s1 σ1 H1 _ _ Q I1 rr q1
def E2 (K:PySem.W.Frag) (n:Nat) (t:DI):TG:=fun v σ H Q=>∃a xs,v=.ref a∧SqT K H a xs∧xs.length=n∧t xs σ H Q
theorem Jt {es:List Expr} {k:Nat} {t:DI} {n:Nat} (hc:X.calm=true) (h:G4 X es t)
 (hn:(assignEach es X.env).length=n:=by rfl) (hst:(assignEach es X.env).findIdx? (·.1)=none:=by rfl):PG X (.Tuple es k pos) (E2 X.K n t):=by
 intro pins s σ H v u Q I r hw
 obtain ⟨a,xs,e1,hq,hl,hw⟩:=hw
 subst e1
 cases r
 obtain ⟨its,rv,ht,hz⟩:=I.tuple hq
 refine assign_Tuple_tuple (I.ok.hd hc) ht (by simp [hn,←hl,rv.length]) hst fun h' hx=>?_
 have I1:Inv X pins σ H {s with heap:=h'}:=I.kept (t':=s.toks) fun b o e=>hx b o (BL (AA e)) e
 exact h pins _ σ H xs _ Q I1 (by simpa using rv) hw
def Q8 (to ti:TE) (t:Jr):TG:=fun v σ H Q=>to σ H fun o H1=>ti σ H1 fun i H2=>t o i v H2 fun H3=>Q σ H3
theorem Q9 {o i:Expr} {to ti:TE} {t:Jr} (ho:PE X o to) (hi:PE X i ti) (hs:Lz X t)
 (ha:∀v,assign (.Subscript o i pos) X.env v=(do
  let ov ←holding [v] (eval o X.env)
  let iv ←holding [v,ov] (eval i X.env)
  standAt pos
  holding [v,ov,iv] (setItem ov iv v)
  release [v,ov,iv] []):=by intro _;rfl):PG X (.Subscript o i pos) (Q8 to ti t):=by
 intro pins s σ H v u Q I r h
 rw [ha]
 refine wpAny_bind (wpAny_holding (Ak (ho pins s σ H _ I h) fun ov s1 z20_=>?_))
 obtain ⟨x,H1,I1,r1,q1⟩:=z20_
 refine wpAny_bind (wpAny_holding (Ak (hi pins s1 σ H1 _ I1 q1) fun iv s2 z21_=>?_))
 obtain ⟨y,H2,I2,r2,q2⟩:=z21_
 refine wpAny_bind (wpAny_standAt (wpAny_bind (wpAny_holding (Ak (hs pins s2 σ H2 x y v ov iv u _ I2 r1 r2 r q2) fun _ s3 z22_=>?_))))
 obtain ⟨H3,I3,q3⟩:=z22_
 exact wpAny_release ⟨σ,H3,I3,q3⟩
def LA (te:TE) (g:TG):TS:=fun D σ H=>te σ H fun x H1=>g x σ H1 D.nx
theorem LC {tg e:Expr} {te:TE} {g:TG} (he:PE X e te) (hg:PG X tg g) (hs:swapsWithSole [tg] e pos.line X.env=pure false:=by rfl) (hw:swappedStores [tg] e X.env=pure none:=by rfl)
 (h1:(assignEach [tg] X.env).map (·.2)=[assign tg X.env]:=by rfl):PS X (.Assign [tg] e pos) (LA te g):=by
 intro pins s σ H D I h
 refine wpAny_Assign_stores (Ak (he pins s σ H _ I h) fun v s1 z23_=>?_) hs hw
 obtain ⟨x,H1,I1,r1,q1⟩:=z23_
 rw [h1]
 exact Ak (hg pins s1 σ H1 x v _ I1 r1 q1) fun _ s2 q=>q
theorem Ra {i:Nat} {x:Str} {e:Expr} {te:TE} {pos':Pos} (hN:X.N.Nodup) (hi:X.N[i]?=some x) (hx:Eb X.env.scope x) (he:PE X e te) (hs:swapsWith e (some (.Name x pos')) pos.line X.env=pure false:=by rfl) (hf:X.fn x=true∨X.env.scope.names.lookup x=some .local:=by first |exact .inl rfl |exact .inr rfl |assumption):
 PS X (.Assign [.Name x pos'] e pos) (LA te (B0 i)):=by
 intro pins s σ H D I h
 refine wpAny_Assign_Name (Ak (he pins s σ H _ I h) fun v s1 z24_=>?_) hs
 obtain ⟨y,H1,I1,r1,q1⟩:=z24_
 exact G2 I1 hN hi hx r1 (fun s2 I2=>⟨_,H1,I2,q1⟩) hf
def Rb (i j:Nat) (ta:TA):TS:=fun D σ H=>ta σ H fun vs H1=>∃v w,vs=[v,w]∧D.nx ((σ.set i (some v)).set j (some w)) H1
theorem Rc {i j:Nat} {x y:Str} {a b:Expr} {ta:TA} {px py pt:Pos} {kt k2 pt2} (hc:X.calm=true) (hN:X.N.Nodup) (hi:X.N[i]?=some x) (hj:X.N[j]?=some y) (hij:i≠j)
 (hx:X.env.scope.names.lookup x=some .local) (hy:X.env.scope.names.lookup y=some .local) (ha:PA X [a,b] ta)
 (hw:swappedStores [.Tuple [.Name x px,.Name y py] kt pt] (.Tuple [a,b] k2 pt2) X.env=pure (some [x,y]))
 (hs:swapsWithSole [.Tuple [.Name x px,.Name y py] kt pt] (.Tuple [a,b] k2 pt2) pos.line X.env=pure false:=by rfl):
 PS X (.Assign [.Tuple [.Name x px,.Name y py] kt pt] (.Tuple [a,b] k2 pt2) pos) (Rb i j ta):=by
 intro pins s σ H D I h
 rw [exec_Assign_arm]
 refine wpAny_bind (wpAny_standAt ?_)
 rw [hs]
 refine wpAny_bind (wpAny_pure ?_)
 rw [if_neg (by decide)]
 refine wpAny_bind (Tuple_ (Ak (ha _ pins s σ H _ I h) fun us s1 z25_=>?_))
 obtain ⟨vs,H1,I1,r1,q1⟩:=z25_
 obtain ⟨v,w,e1,q1⟩:=q1
 subst e1
 obtain ⟨u1,u2,rfl,rv,rw'⟩:∃u1 u2,us=[u1,u2]∧RelV v u1∧RelV w u2:=by
  cases r1 with
  |cons p q=>
   cases q with
   |cons p' q'=>
    cases q'
    exact ⟨_,_,rfl,p,p'⟩
 refine wpAny_newObj_type ?_ (by show 2≤sizeLine;decide)
 have I2:Inv X pins σ H1 {s1 with heap:=s1.heap.push {cls:=.type "tuple",data:=.seq [u1,u2].toArray}}:=I1.kept (t':=s1.toks) fun b o e=>AH _ e
 rw [hw]
 refine wpAny_bind (wpAny_pure ?_)
 show wpAny (model X.prog X.w) X.A (do rule "assign.swapped-stores";let items ←unpackItems (.ref s1.heap.objs.size) 2 none;assignInOrder [fun v=>bindName X.env y v,fun v=>bindName X.env x v] items.reverse;pure Flow.next) _ _ _
 refine wpAny_bind (wpAny_rule (wpAny_bind (unpackItems_tuple (items:=#[u1,u2]) (I.ok.hd hc) (IsTup.new s1.heap _) fun h' hx'=>?_)))
 have I3:=I2.kept (h':=h') (t':=s1.toks) fun b o e=>hx' b o (BL (AA e)) e
 show wpAny _ _ (assignInOrder [fun v=>bindName X.env y v,fun v=>bindName X.env x v] [u2,u1] >>=fun _=>pure Flow.next) _ _ _
 refine wpAny_bind (assignInOrder_cons (wpAny_bindName (G2 I3 hN hj (.inl hy) rw' (fun s2 I4=>?_) (.inr hy))))
 refine assignInOrder_cons (wpAny_bindName (G2 I4 hN hi (.inl hx) rv (fun s3 I5=>assignInOrder_nil (wpAny_pure ?_)) (.inr hx)))
 rw [List.set_comm _ _ (Ne.symm hij)] at I5
 exact ⟨_,H1,I5,q1⟩
end
section
variable {X:Cx} {pos:Pos}
end
structure It where
 go:Nat→Hp→Prop
 yld:Nat→Hp→V→Hp→Prop
 stop:Nat→Hp→Prop
def Dk (X:Cx) (pins:List (Addr×Obj)) (H:Hp) (b:Addr):Prop:=
 H b=none∧b≠X.env.locals∧b∉X.fs∧(b∈X.ex∨X.s₀.heap.objs.size≤b)∧(∀x c,X.env.cells.lookup x=some c→c≠b)∧∀p∈X.pn++pins,p.1≠b
theorem Inv.fpOk {X:Cx} {pins:List (Addr×Obj)} {σ:St} {H H':Hp} {s:Shared} {b:Addr} (I:Inv X pins σ H s) (hb:s.heap.objs.size≤b) (hn:H' b=none):Dk X pins H' b:=by
 refine ⟨hn,Nat.ne_of_gt (AN I.lt hb),I.nofs hb,.inr (Bc I.sz hb),fun x c e z=>?_,fun p hp z=>?_⟩
 ·obtain ⟨v,q⟩:=I.cell x c e
  exact absurd (AN q.lt (by rw [z];exact hb)) (BY _)
 ·exact absurd (AN (AA (I.pin p hp).1) (by rw [z];exact hb)) (BY _)
structure F5 (P:Program) (w:World) (K:PySem.W.Frag) (tg:Expr) (J:It) (fp:List Addr) (it:Addr) (tn:Nat→Heap→Prop):Prop where
 mem:it∈fp
 obj:∀i h,tn i h→∀b∈fp,∃o,h.get? b=some o∧∀v,o.data≠.cell v
 keep:∀i h h',tn i h→(∀b∈fp,∀o,h.get? b=some o→h'.get? b=some o)→tn i h'
 item:∀(X:Cx),X.prog=P→X.w=w→X.K=K→X.calm=true→∀(i:Nat) (pins:List (Addr×Obj)) (s:Shared) (σ:St) (H:Hp) (E:Value→Shared→Prop),Inv X pins σ H s→(∀b∈fp,Dk X pins H b)→tn i s.heap→J.go i H→
  wpAny (model P w) X.A (pyNext (.ref it)) (fun r s1=>∃u,r=some u∧
   wpAny (model P w) X.A (letOwnedTupleGo tg (.ref it) u) (fun _ s2=>∃x H',Inv X pins σ H' s2∧RelV x u∧J.yld i H x H'∧tn (i+1) s2.heap∧∀b∈fp,H' b=none) E s1) E s
 done:∀(X:Cx),X.prog=P→X.w=w→X.K=K→X.calm=true→∀(i:Nat) (pins:List (Addr×Obj)) (s:Shared) (σ:St) (H:Hp) (E:Value→Shared→Prop),Inv X pins σ H s→(∀b∈fp,Dk X pins H b)→tn i s.heap→J.stop i H→
  wpAny (model P w) X.A (pyNext (.ref it)) (fun r s1=>r=none∧Inv X pins σ H s1) E s
 self:∀(A:Around) (i:Nat) (s:Shared) (Q:Value→Shared→Prop) (E:Value→Shared→Prop),tn i s.heap→Q (.ref it) s→wpAny (model P w) A (pyIter (.ref it)) Q E s
abbrev TI:=St→Hp→(It→Hp→Prop)→Prop
inductive G5 (X:Cx) (pins:List (Addr×Obj)) (σ:St) (tg:Expr) (R:It→Hp→Prop) (itv:Value) (s2:Shared):Prop where
 |mk (it:Addr) (fp:List Addr) (tn:Nat→Heap→Prop) (J:It) (H':Hp) (e:itv=.ref it) (i:Inv X pins σ H' s2) (t:F5 X.prog X.w X.K tg J fp it tn) (st:tn 0 s2.heap) (f:∀b∈fp,Dk X pins H' b) (r:R J H'):G5 X pins σ tg R itv s2
def PI (X:Cx) (tg iter:Expr) (wi:TI):Prop:=
 ∀(pins:List (Addr×Obj)) (s:Shared) (σ:St) (H:Hp) (R:It→Hp→Prop),Inv X pins σ H s→wi σ H R→
  wpAny (model X.prog X.w) X.A (eval iter X.env) (fun v s1=>wpAny (model X.prog X.w) X.A (pyIter v) (G5 X pins σ tg R) X.xe s1) X.xe s
theorem G6 {M:Model} {A:Around} {E:Value→Shared→Prop} {s:Shared} {tg:Expr} {it:Addr} {u:Value} {o:Obj} {n:String} {vs:Array Value} {Q:Unit→Shared→Prop} (ho:s.heap.get? it=some o) (hc:o.cls=.type n) (hd:o.data=.fields vs)
 (hn:["enumerate","zip","dict_itemiterator","dict_reverseitemiterator","odict_iterator","itertools.zip_longest","itertools.pairwise"].contains n=false) (hQ:Q () s):wpAny M A (letOwnedTupleGo tg (.ref it) u) Q E s:=by
 unfold letOwnedTupleGo
 cases tg<;>first
  |exact wpAny_pure hQ
  |(cases u<;>first
   |exact wpAny_pure hQ
   |(refine wpAny_bind (wpAny_load ho ?_)
     rw [hc,hd]
     show wpAny M A (if (["enumerate","zip","dict_itemiterator","dict_reverseitemiterator","odict_iterator","itertools.zip_longest","itertools.pairwise"].contains n&&vs[0]?==some (rawInt _))=true then _ else _) Q E s
     rw [if_neg (by intro h;rw [hn,GW] at h;cases h)]
     exact wpAny_pure hQ))
def F6 (K:PySem.W.Frag) (a:Addr):It:=
 ⟨fun i H=>∃xs x,SqL K H a xs∧xs[i]?=some x,fun i H x H'=>H'=H∧∀xs,SqL K H a xs→xs[i]?=some x,fun i H=>∃xs,SqL K H a xs∧xs.length≤i⟩
def F7 (K:PySem.W.Frag) (a:Addr):It:=
 ⟨fun i H=>∃xs x,SqT K H a xs∧xs[i]?=some x,fun i H x H'=>H'=H∧∀xs,SqT K H a xs→xs[i]?=some x,fun i H=>∃xs,SqT K H a xs∧xs.length≤i⟩
def G7 (lo:Int) (n:Nat):It:=⟨fun i _=>i<n,fun i H x H'=>H'=H∧x=.int (lo+i),fun i _=>n≤i⟩
theorem Re {P:Program} {w:World} {K:PySem.W.Frag} {tg:Expr} (a it:Addr):F5 P w K tg (F6 K a) [it] it (fun i h=>h.IsListIter it a i) where
 mem:=by simp
 obj:=fun i h st b hb=>by
  have e:b=it:=by simpa using hb
  subst e
  obtain ⟨o,e,c,d⟩:=st
  exact ⟨o,e,fun v z=>by rw [d] at z;cases z⟩
 keep:=fun i h h' st k=>st.at fun o e=>k it (by simp) o e
 item:=by
  intro X hP hw hK hc i pins s σ H E I hf st hg
  subst hP hw hK
  obtain ⟨xs,x,hq,hx⟩:=hg
  obtain ⟨its,rv,p,hz⟩:=I.list hq
  obtain ⟨u,hu,ru⟩:=rv.get hx
  obtain ⟨f0,f1,f2,f3,f4,f5⟩:=hf it (by simp)
  refine wpAny_pyNext_list_item st p.isList (x:=u) (by simpa using hu) fun h' st' sb=>?_
  have I1:Inv X pins σ H {s with heap:=h'}:=I.turned (t':=s.toks) (fun b o hb e=>(sb.2 b hb).trans e) f0 f1 f3 f4 f5
  obtain ⟨o,e,c,d⟩:=id st'
  exact ⟨u,rfl,G6 (s:={s with heap:=h'}) e c d (by decide) ⟨x,H,I1,ru,⟨rfl,fun ys hy=>by rw [I.list_inj hy hq];exact hx⟩,st',fun b hb=>(hf b hb).1⟩⟩
 done:=by
  intro X hP hw hK hc i pins s σ H E I hf st hg
  subst hP hw hK
  obtain ⟨xs,hq,hx⟩:=hg
  obtain ⟨its,rv,p,hz⟩:=I.list hq
  obtain ⟨f0,f1,f2,f3,f4,f5⟩:=hf it (by simp)
  have hl:=rv.length
  exact wpAny_pyNext_list_end (I.ok.hd hc) st p.isList (by simp;omega) fun h' eb=>⟨rfl,I.turned (t':=s.toks) (fun b o hb e=>eb b o hb e) f0 f1 f3 f4 f5⟩
 self:=fun _ _ _ _ _ st h=>wpAny_pyIter_listiter st h
theorem Rf {P:Program} {w:World} {K:PySem.W.Frag} {tg:Expr} (a it:Addr):F5 P w K tg (F7 K a) [it] it (fun i h=>h.IsTupleIter it a i) where
 mem:=by simp
 obj:=fun i h st b hb=>by
  have e:b=it:=by simpa using hb
  subst e
  obtain ⟨o,e,c,d⟩:=st
  exact ⟨o,e,fun v z=>by rw [d] at z;cases z⟩
 keep:=fun i h h' st k=>st.at fun o e=>k it (by simp) o e
 item:=by
  intro X hP hw hK hc i pins s σ H E I hf st hg
  subst hP hw hK
  obtain ⟨xs,x,hq,hx⟩:=hg
  obtain ⟨its,rv,p,hz⟩:=I.tuple hq
  obtain ⟨u,hu,ru⟩:=rv.get hx
  obtain ⟨f0,f1,f2,f3,f4,f5⟩:=hf it (by simp)
  refine wpAny_pyNext_tuple_item st (show s.heap.IsTuple a its.toArray from p) (x:=u) (by simpa using hu) fun h' st' sb=>?_
  have I1:Inv X pins σ H {s with heap:=h'}:=I.turned (t':=s.toks) (fun b o hb e=>(sb.2 b hb).trans e) f0 f1 f3 f4 f5
  obtain ⟨o,e,c,d⟩:=id st'
  exact ⟨u,rfl,G6 (s:={s with heap:=h'}) e c d (by decide) ⟨x,H,I1,ru,⟨rfl,fun ys hy=>by rw [I.tuple_inj hy hq];exact hx⟩,st',fun b hb=>(hf b hb).1⟩⟩
 done:=by
  intro X hP hw hK hc i pins s σ H E I hf st hg
  subst hP hw hK
  obtain ⟨xs,hq,hx⟩:=hg
  obtain ⟨its,rv,p,hz⟩:=I.tuple hq
  obtain ⟨f0,f1,f2,f3,f4,f5⟩:=hf it (by simp)
  have hl:=rv.length
  exact wpAny_pyNext_tuple_end (I.ok.hd hc) st (show s.heap.IsTuple a its.toArray from p) (by simp;omega) fun h' eb=>⟨rfl,I.turned (t':=s.toks) (fun b o hb e=>eb b o hb e) f0 f1 f3 f4 f5⟩
 self:=fun _ _ _ _ _ st h=>wpAny_pyIter_tupleiter st h
theorem Rg {P:Program} {w:World} {K:PySem.W.Frag} {tg:Expr} (it:Addr) (lo:Int) (n:Nat):F5 P w K tg (G7 lo n) [it] it (fun i h=>IsRangeIter h it (lo+(i:Nat)*1) ((n:Int) - (i:Nat)) 1) where
 mem:=by simp
 obj:=fun i h st b hb=>by
  have e:b=it:=by simpa using hb
  subst e
  exact ⟨_,st,fun v z=>by
   have z':Data.fields _=Data.cell v:=z
   cases z'⟩
 keep:=fun i h h' st k=>k it (by simp) _ st
 item:=by
  intro X hP hw hK hc i pins s σ H E I hf st hg
  subst hP hw hK
  obtain ⟨f0,f1,f2,f3,f4,f5⟩:=hf it (by simp)
  have W:=Walks.range (prog:=X.prog) (w:=X.w) (I.ok.hd hc) it lo 1 n
  refine W.item i s _ _ hg st fun v h' tk hv st' kk=>?_
  obtain ⟨t,rfl⟩:=hv
  have I1:Inv X pins σ H {s with heap:=h',toks:=tk}:=I.turned (fun b o hb e=>kk b o (by simpa using hb) e) f0 f1 f3 f4 f5
  refine ⟨_,rfl,G6 (s:={s with heap:=h',toks:=tk}) (n:="range_iterator") st' rfl rfl (by decide) ⟨.int (lo+i),H,I1,⟨t,?_⟩,⟨rfl,rfl⟩,st',fun b hb=>(hf b hb).1⟩⟩
  rw [Int.mul_one]
 done:=by
  intro X hP hw hK hc i pins s σ H E I hf st hg
  subst hP hw hK
  obtain ⟨f0,f1,f2,f3,f4,f5⟩:=hf it (by simp)
  exact wpAny_pyNext_range_end (I.ok.hd hc) st (by have:n≤i:=hg;omega) fun h' eb=>⟨rfl,I.turned (t':=s.toks) (fun b o hb e=>eb b o hb e) f0 f1 f3 f4 f5⟩
 self:=fun _ _ _ _ _ st h=>wpAny_pyIter_rangeiter st h
section
variable {X:Cx} {tg:Expr}
theorem Rh {pins:List (Addr×Obj)} {σ:St} {H:Hp} {s:Shared} {R:It→Hp→Prop} {E:Value→Shared→Prop} {lo hi:Int} {t u v:Tok} {tk:Nat} (I:Inv X pins σ H s) (h1:-(2^62)≤lo) (h2:lo<2^62) (h3:-(2^62)≤hi) (h4:hi<2^62)
 (q:R (G7 lo (hi - lo).toNat) H):wpAny (model X.prog X.w) X.A (pyIter (.ref s.heap.objs.size)) (G5 X pins σ tg R) E {s with heap:=s.heap.push {cls:=.type "range",data:=.fields #[.int lo t,.int hi u,.int 1 v]},toks:=tk}:=by
 refine wpAny_pyIter_range (IsRange.new ..) (small_one h1 h2 h3 h4) ?_
 have I1:Inv X pins σ H {s with heap:=s.heap.push {cls:=.type "range",data:=.fields #[.int lo t,.int hi u,.int 1 v]},toks:=tk}:=I.kept fun b o e=>AH _ e
 refine ⟨(s.heap.push {cls:=.type "range",data:=.fields #[.int lo t,.int hi u,.int 1 v]}).objs.size,[(s.heap.push {cls:=.type "range",data:=.fields #[.int lo t,.int hi u,.int 1 v]}).objs.size],_,_,H,rfl,
  I1.kept (t':=tk) fun b o e=>AH _ e,Rg _ lo (hi - lo).toNat,?_,fun b hb=>?_,q⟩
 ·have e1:lo+((0:Nat):Int)*1=lo:=by simp
  have e2:(((hi - lo).toNat:Nat):Int) - ((0:Nat):Int)=Builtin.Range.rangeSize lo hi 1:=by rw [rangeSize_one];split<;>omega
  show IsRangeIter _ _ (lo+((0:Nat):Int)*1) ((((hi - lo).toNat:Nat):Int) - ((0:Nat):Int)) 1
  rw [e1,e2]
  exact Bf _ rfl
 ·have e:b=(s.heap.push {cls:=.type "range",data:=.fields #[.int lo t,.int hi u,.int 1 v]}).objs.size:=by simpa using hb
  subst e
  exact I1.fpOk (Ap _) (I1.hok.fresh (Ap _))
def Ri (ta:TA):TI:=fun σ H R=>ta σ H fun vs H1=>∃j:Int,vs=[.int j]∧-(2^62)≤j∧j<2^62∧R (G7 0 j.toNat) H1
theorem Rj {a:Expr} {ta:TA} {p pos:Pos} (hg:Gl X "range") (hm:X.mg "range"=none) (ha:PA X [a] ta) (hs:starEach [a] X.env=[(false,eval a X.env)]:=by rfl):PI X tg (.Call (.Name "range" p) [a] [] pos) (Ri ta):=by
 intro pins s σ H R I h
 refine Call_ (G3 I hg hm boot_range (PyProof.Rows.callWith_type1 (Ak (ha pos pins s σ H _ I h) fun us s1 z37_=>?_) hs rfl))
 obtain ⟨vs,H1,I1,r1,q1⟩:=z37_
 obtain ⟨j,e,q1,q2,q⟩:=q1
 subst e
 cases r1 with
 |cons r rr=>
  cases rr
  obtain ⟨t,rfl⟩:=r
  exact call_range_1 (Rh I1 (by omega) (by omega) q1 q2 (by simpa using q))
def Rk (wi:TI) (g:TG) (tb:TS):TS:=fun D σ H=>wi σ H fun J H1=>∃W:Nat→Nat→St→Hp→Prop,(∃m,W 0 m σ H1)∧∀i m σ H,W i m σ H→
 (J.stop i H∧D.nx σ H)∨(J.go i H∧∃N:St→Hp→Prop,(∀σ' H',N σ' H'→∃m',m' < m∧W (i+1) m' σ' H')∧∀x H',J.yld i H x H'→g x σ H' fun σ2 H2=>tb {D with nx:=N,ct:=N,bk:=D.nx} σ2 H2)
def F8 (fp:List Addr) (h:Heap):List (Addr×Obj):=fp.filterMap fun b=>(h.get? b).map fun o=>(b,o)
theorem G8 {fp:List Addr} {h:Heap} {b:Addr} {o:Obj} (hb:b∈fp) (e:h.get? b=some o):(b,o)∈F8 fp h:=List.mem_filterMap.mpr ⟨b,hb,by rw [e];rfl⟩
theorem Rl {fp:List Addr} {h:Heap} {p:Addr×Obj} (hp:p∈F8 fp h):p.1∈fp∧h.get? p.1=some p.2:=by
 obtain ⟨b,hb,e⟩:=List.mem_filterMap.mp hp
 cases q:h.get? b with
 |none=>rw [q] at e;cases e
 |some o=>
  rw [q] at e
  have e':(b,o)=p:=Option.some.inj e
  subst e'
  exact ⟨hb,q⟩
theorem Inv.pinned {pins:List (Addr×Obj)} {σ:St} {H:Hp} {s:Shared} {fp:List Addr} (I:Inv X pins σ H s) (hf:∀b∈fp,Dk X pins H b) (ho:∀b∈fp,∃o,s.heap.get? b=some o∧∀v,o.data≠.cell v):Inv X (pins++F8 fp s.heap) σ H s:=
 I.pins_of fun p hp=>(qaW.mp hp).elim (fun z=>I.pin p (B8 _ z)) fun z=>by
  obtain ⟨hb,e⟩:=Rl z
  obtain ⟨f0,f1,f2,_⟩:=hf p.1 hb
  obtain ⟨o,e',d⟩:=ho p.1 hb
  rw [e] at e';cases e'
  exact ⟨e,f0,f1,f2,d⟩
theorem Inv.unpinned {pins pl:List (Addr×Obj)} {σ:St} {H:Hp} {s:Shared} (I:Inv X (pins++pl) σ H s):Inv X pins σ H s:=I.pins_of fun p hp=>I.pin p (B8 _ (Jm _ hp))
inductive Ju (X:Cx) (pins:List (Addr×Obj)) (tn:Nat→Heap→Prop) (fp:List Addr) (W:Nat→Nat→St→Hp→Prop) (n:Nat) (s':Shared):Prop where
 |mk (i:Nat) (σ':St) (H':Hp) (ii:Inv X pins σ' H' s') (st:tn i s'.heap) (fr:∀b∈fp,H' b=none) (w:W i n σ' H'):Ju X pins tn fp W n s'
theorem Rm {iter:Expr} {body:List Stmt} {wi:TI} {g:TG} {tb:TS} {pos:Pos} (hp:PassesOwn (model X.prog X.w) X.A X.env X.xe) (hc:X.calm=true) (hi:PI X tg iter wi) (hg:PG X tg g) (hb:Ca X body tb)
 (hs:∀x,foldedSetIterable iter X.env x=pure x:=by intro _;rfl):PS X (.For tg iter body [] pos) (Rk wi g tb):=by
 intro pins s σ H D I h
 refine wpAny_For (Ak (hi pins s σ H _ I h) fun v s1 h1=>Ak h1 fun itv s2 h2=>?_) hs
 obtain ⟨it,fp,tn,J,H2,e,I2,T,st2,f2,W,⟨m0,w0⟩,turn⟩:=h2
 subst e
 have stat:∀{H':Hp},(∀b∈fp,H' b=none)→∀b∈fp,Dk X pins H' b:=fun hn b hb=>⟨hn b hb,(f2 b hb).2⟩
 refine codeAny_forLoop_any (Ju X pins tn fp W) ?_ m0 ⟨0,σ,H2,I2,st2,fun b hb=>(f2 b hb).1,w0⟩
 rintro n s3 ⟨i,σ3,H3,I3,st3,fr3,w3⟩
 rcases turn i n σ3 H3 w3 with ⟨stop,qn⟩ |⟨go,N,hN,step⟩
 ·refine wpAny_passesOwn hp (Ak (T.done X rfl rfl rfl hc i pins s3 σ3 H3 X.xe I3 (stat fr3) st3 stop) fun r s4 z39_=>?_)
  obtain ⟨hr,I4⟩:=z39_
  subst hr
  exact wpAny_execs_nil ⟨σ3,H3,I4,qn⟩
 ·refine wpAny_passesOwn hp (Ak (T.item X rfl rfl rfl hc i pins s3 σ3 H3 X.xe I3 (stat fr3) st3 go) fun r s4 z40_=>?_)
  obtain ⟨u,hr,h4⟩:=z40_
  subst hr
  refine wpAny_passesOwn hp (Ak h4 fun _ s5 z41_=>?_)
  obtain ⟨x,H5,I5,r5,y5,st5,fr5⟩:=z41_
  have I5':=I5.pinned (stat fr5) (T.obj _ _ st5)
  refine wpAny_passesOwn hp (Ak (hg _ s5 σ3 H5 x u _ I5' r5 (step x H5 y5)) fun _ s6 z42_=>?_)
  obtain ⟨σ6,H6,I6,q6⟩:=z42_
  refine wpAny_passesOwn hp (Ak (hb _ s6 σ6 H6 _ I6 q6) fun f s7 q7=>?_)
  have again:∀{σ7:St} {H7:Hp},Inv X (pins++F8 fp s5.heap) σ7 H7 s7→N σ7 H7→∃m,m<n∧Ju X pins tn fp W m s7:=fun {σ7 H7} I7 n7=>by
   obtain ⟨m',hm,w7⟩:=hN σ7 H7 n7
   refine ⟨m',hm,i+1,σ7,H7,I7.unpinned,T.keep _ _ _ st5 fun b hb o e=>(I7.pin (b,o) (B8 _ (B8 _ (G8 hb e)))).1,fun b hb=>?_,w7⟩
   obtain ⟨o,e,d⟩:=T.obj _ _ st5 b hb
   exact (I7.pin (b,o) (B8 _ (B8 _ (G8 hb e)))).2.1
  cases f with
  |next=>obtain ⟨σ7,H7,I7,n7⟩:=q7;exact again I7 n7
  |cont=>obtain ⟨σ7,H7,I7,n7⟩:=q7;exact again I7 n7
  |brk=>obtain ⟨σ7,H7,I7,q7⟩:=q7;exact ⟨σ7,H7,I7.unpinned,q7⟩
  |ret v=>obtain ⟨x7,σ7,H7,I7,r7,q7⟩:=q7;exact ⟨x7,σ7,H7,I7.unpinned,r7,q7⟩
end
abbrev R2:=V→V→Hp→VK→Prop
def OpR (X:Cx) (f:Value→Value→Sem Value) (r:R2):Prop:=
 ∀(pins:List (Addr×Obj)) (s:Shared) (σ:St) (H:Hp) (x y:V) (v u:Value) (Q:VK),Inv X pins σ H s→RelV x v→RelV y u→r x y H Q→
  wpAny (model X.prog X.w) X.A (f v u) (EP X pins σ Q) X.xe s
def Jv (X:Cx) (f:Value→Sem Value) (r:V→Hp→VK→Prop):Prop:=
 ∀(pins:List (Addr×Obj)) (s:Shared) (σ:St) (H:Hp) (x:V) (v:Value) (Q:VK),Inv X pins σ H s→RelV x v→r x H Q→
  wpAny (model X.prog X.w) X.A (f v) (EP X pins σ Q) X.xe s
def B1 (X:Cx) (f:Value) (r:List V→Hp→VK→Prop):Prop:=
 ∀(pins:List (Addr×Obj)) (s:Shared) (σ:St) (H:Hp) (xs:List V) (us:List Value) (Q:VK),Inv X pins σ H s→Vals xs us→r xs H Q→
  wpAny (model X.prog X.w) X.A (call f us) (EP X pins σ Q) X.xe s
def Rn (X:Cx) (r:V→Hp→(Bool→Hp→Prop)→Prop):Prop:=
 ∀(pins:List (Addr×Obj)) (s:Shared) (σ:St) (H:Hp) (x:V) (v:Value) (Q:Bool→Hp→Prop),Inv X pins σ H s→RelV x v→r x H Q→
  wpAny (model X.prog X.w) X.A (truthy v) (TP X pins σ Q) X.xe s
def G9 (r:R2) (ta tb:TE):TE:=fun σ H Q=>ta σ H fun x H1=>tb σ H1 fun y H2=>r x y H2 Q
def Ro (r:V→Hp→VK→Prop) (ta:TE):TE:=fun σ H Q=>ta σ H fun x H1=>r x H1 Q
def rI (C:Int→Int→Prop) (g:Int→Int→V):R2:=fun x y H Q=>∃i j,x=.int i∧y=.int j∧C i j∧Q (g i j) H
def DJ (g:Int→Int→V):R2:=fun x y H Q=>∃i j,x=.int i∧y=.int j∧Q (g i j) H
def rU (g:Int→V):V→Hp→VK→Prop:=fun x H Q=>∃i,x=.int i∧Q (g i) H
section
variable {X:Cx} {a b c:Expr} {ta tb tc:TE} {pos:Pos}
theorem Jw (ha:PE X a ta) (hb:PE X b tb) {pins:List (Addr×Obj)} {s:Shared} {σ:St} {H:Hp} {R:V→V→Hp→Prop} (I:Inv X pins σ H s)
 (h:ta σ H fun x H1=>tb σ H1 fun y H2=>R x y H2) {Q:Value→Shared→Prop} {f:Value→Value→Sem Value}
 (hf:∀v u s2 x y H2,Inv X pins σ H2 s2→RelV x v→RelV y u→R x y H2→wpAny (model X.prog X.w) X.A (f v u) Q X.xe s2):
 wpAny (model X.prog X.w) X.A (eval a X.env) (fun v s₁=>wpAny (model X.prog X.w) X.A (eval b X.env) (fun u s₂=>wpAny (model X.prog X.w) X.A (f v u) Q X.xe s₂) X.xe s₁) X.xe s:=by
 refine Ak (ha pins s σ H _ I h) fun v s1 z44_=>?_
 obtain ⟨x,H1,I1,r1,q1⟩:=z44_
 refine Ak (hb pins s1 σ H1 _ I1 q1) fun u s2 z45_=>?_
 obtain ⟨y,H2,I2,r2,q2⟩:=z45_
 exact hf v u s2 x y H2 I2 r1 r2 q2
theorem Rq {op:Operator} {r:R2} (ho:OpR X (binaryOp op) r) (ha:PE X a ta) (hb:PE X b tb):PE X (.BinOp a op b pos) (G9 r ta tb):=by
 intro pins s σ H Q I h
 exact wpAny_BinOp (Jw ha hb I h fun v u s2 x y H2 I2 rx ry q=>ho pins s2 σ H2 x y v u Q I2 rx ry q)
theorem Rr {op:UnaryOp} {r:V→Hp→VK→Prop} (ho:Jv X (unaryOp op) r) (ha:PE X a ta):PE X (.UnaryOp op a pos) (Ro r ta):=by
 intro pins s σ H Q I h
 exact UnaryOp_ (Ak (ha pins s σ H _ I h) fun v s1 z46_=>by obtain ⟨x,H1,I1,r1,q1⟩:=z46_;exact (ho pins s1 σ H1 x v Q I1 r1 q1))
theorem Ha {f:Value→Value→Sem Value} {C:Int→Int→Prop} {g:Int→Int→Int}
 (rule:∀(i j:Int) (t u:Tok) (s:Shared) (Q:Value→Shared→Prop) (E:Value→Shared→Prop),C i j→Q (.int (g i j) s.toks) {s with toks:=s.toks+1}→wpAny (model X.prog X.w) X.A (f (.int i t) (.int j u)) Q E s):
 OpR X f (rI C fun i j=>.int (g i j)):=by
 intro pins s σ H x y v u Q I rx ry h
 obtain ⟨i,j,rfl,rfl,hc,q⟩:=h
 obtain ⟨t,rfl⟩:=rx
 obtain ⟨t',rfl⟩:=ry
 exact rule i j t t' s _ _ hc ⟨.int (g i j),H,I.tok _,⟨_,rfl⟩,q⟩
theorem LD {f:Value→Value→Sem Value} {g:Int→Int→Int}
 (rule:∀(i j:Int) (t u:Tok) (s:Shared) (Q:Value→Shared→Prop) (E:Value→Shared→Prop),Q (.int (g i j) s.toks) {s with toks:=s.toks+1}→wpAny (model X.prog X.w) X.A (f (.int i t) (.int j u)) Q E s):
 OpR X f (DJ fun i j=>.int (g i j)):=by
 intro pins s σ H x y v u Q I rx ry h
 obtain ⟨i,j,rfl,rfl,q⟩:=h
 obtain ⟨t,rfl⟩:=rx
 obtain ⟨t',rfl⟩:=ry
 exact rule i j t t' s _ _ ⟨.int (g i j),H,I.tok _,⟨_,rfl⟩,q⟩
theorem Jx {f:Value→Value→Sem Value} {g:Int→Int→Bool}
 (rule:∀(i j:Int) (t u:Tok) (s:Shared) (Q:Value→Shared→Prop) (E:Value→Shared→Prop),Q (.bool (g i j)) s→wpAny (model X.prog X.w) X.A (f (.int i t) (.int j u)) Q E s):
 OpR X f (DJ fun i j=>.bl (g i j)):=by
 intro pins s σ H x y v u Q I rx ry h
 obtain ⟨i,j,rfl,rfl,q⟩:=h
 obtain ⟨t,rfl⟩:=rx
 obtain ⟨t',rfl⟩:=ry
 exact rule i j t t' s _ _ ⟨.bl (g i j),H,I,rfl,q⟩
def LG (i j:Int):Prop:=0<j∧j<1073741824
def Hb (i j:Int):Prop:=0≤j∧j≤1000000∧i.natAbs<2^64
def CMul (i j:Int):Prop:=(-(2^64)<i∧i<2^64)∨(-(2^64)<j∧j<2^64)
theorem CMul.ok {i j:Int} (h:CMul i j):IntMulOk i j:=by
 rcases h with ⟨h1,h2⟩ |⟨h1,h2⟩
 ·exact .of_left (intBits_le_64 h1 h2)
 ·exact .of_right (intBits_le_64 h1 h2)
theorem op_add:OpR X (binaryOp .Add) (DJ fun i j=>.int (i+j)):=LD fun _ _ _ _ _ _ _ q=>add_int q
theorem Rt:OpR X (binaryOp .Sub) (DJ fun i j=>.int (i - j)):=LD fun _ _ _ _ _ _ _ q=>sub_int q
theorem Ru:OpR X (binaryOp .Mod) (rI (fun _ j=>0<j) fun i j=>.int (i % j)):=Ha fun i j _ _ _ _ _ hc q=>by
 have h1:(0:Int)<j:=hc
 exact mod_int' (by omega) (by rw [Int.fmod_eq_emod_of_nonneg i (by omega)];exact q)
theorem Rv:OpR X (binaryOp .Pow) (rI Hb fun i j=>.int (i^j.toNat)):=Ha fun _ _ _ _ _ _ _ hc q=>pow_int_small hc.1 hc.2.1 hc.2.2 q
theorem Rw {f:Value→Sem Value} {g:Int→Int}
 (rule:∀(i:Int) (t:Tok) (s:Shared) (Q:Value→Shared→Prop) (E:Value→Shared→Prop),Q (.int (g i) s.toks) {s with toks:=s.toks+1}→wpAny (model X.prog X.w) X.A (f (.int i t)) Q E s):
 Jv X f (rU fun i=>.int (g i)):=by
 intro pins s σ H x v Q I rx h
 obtain ⟨i,rfl,q⟩:=h
 obtain ⟨t,rfl⟩:=rx
 exact rule i t s _ _ ⟨.int (g i),H,I.tok _,⟨_,rfl⟩,q⟩
theorem Rx:Jv X (unaryOp .USub) (rU fun i=>.int (-i)):=Rw fun _ _ _ _ _ q=>neg_int q
end
def LH:V→V→Bool
 |.non,.non=>true |.non,.int _=>true |.int _,.non=>true |.non,.bl _=>true |.bl _,.non=>true |.non,.str _=>true |.str _,.non=>true
 |.int _,.int _=>true |.bl _,.bl _=>true |.str _,.str _=>true |.byt _,.byt _=>true
 |.int _,.str _=>true |.str _,.int _=>true |.bl _,.str _=>true |.str _,.bl _=>true
 |_,_=>false
def Ry:R2:=fun x y H Q=>LH x y=true∧Q (.bl (decide (x=y))) H
def Rz:R2:=fun x y H Q=>LH x y=true∧Q (.bl (!decide (x=y))) H
theorem LI {i j:Int}:decide (V.int i=V.int j)=(i==j):=by
 rw [qb8]
 simp
theorem LJ {i j:Bool}:decide (V.bl i=V.bl j)=(i==j):=by
 rw [qb8]
 simp
theorem Hc {i j:Str}:decide (V.str i=V.str j)=(i==j):=by
 rw [qb8]
 simp
theorem LL {i j:Array UInt8}:decide (V.byt i=V.byt j)=(i.toList==j.toList):=by
 rw [qb8]
 cases i
 cases j
 simp
section
variable {X:Cx} {a b c:Expr} {ta tb tc:TE} {pos:Pos}
theorem AU {pins:List (Addr×Obj)} {σ:St} {H:Hp} {s:Shared} {Q:VK} {k k':Bool} (I:Inv X pins σ H s) (q:Q (.bl k) H) (e:k=k'):EP X pins σ Q (.bool k') s:=by
 subst e
 exact ⟨.bl k,H,I,rfl,q⟩
theorem op_eq:OpR X (compareOp .Eq) Ry:=by
 intro pins s σ H x y v u Q I rx ry h
 obtain ⟨hs,q⟩:=h
 cases x with
 |non=>
  cases rx
  cases y with
  |non=>cases ry;exact PySem.EqNone.eq_none_none (AU I q (by simp))
  |bl j=>cases ry;exact PySem.EqNone.eq_none_bool (AU I q (by simp))
  |int j=>obtain ⟨t',rfl⟩:=ry;exact PySem.EqNone.eq_none_int (AU I q (by simp))
  |str j=>obtain ⟨t',rfl⟩:=ry;exact PySem.EqNone.eq_none_str (AU I q (by simp))
  |_=>exact absurd (show false=true from hs) Bo
 |bl i=>
  cases rx
  cases y with
  |non=>cases ry;exact PySem.EqNone.eq_bool_none (AU I q (by simp))
  |bl j=>cases ry;exact eq_bool (AU I q LJ)
  |str j=>obtain ⟨t',rfl⟩:=ry;exact PySem.EqMixed.eq_bool_str (AU I q (by simp))
  |_=>exact absurd (show false=true from hs) Bo
 |int i=>
  obtain ⟨t,rfl⟩:=rx
  cases y with
  |non=>cases ry;exact PySem.EqNone.eq_int_none (AU I q (by simp))
  |int j=>obtain ⟨t',rfl⟩:=ry;exact eq_int (AU I q LI)
  |str j=>obtain ⟨t',rfl⟩:=ry;exact PySem.EqMixed.eq_int_str (AU I q (by simp))
  |_=>exact absurd (show false=true from hs) Bo
 |str i=>
  obtain ⟨t,rfl⟩:=rx
  cases y with
  |non=>cases ry;exact PySem.EqNone.eq_str_none (AU I q (by simp))
  |bl j=>cases ry;exact PySem.EqMixed.eq_str_bool (AU I q (by simp))
  |int j=>obtain ⟨t',rfl⟩:=ry;exact PySem.EqMixed.eq_str_int (AU I q (by simp))
  |str j=>obtain ⟨t',rfl⟩:=ry;exact eq_str (AU I q Hc)
  |_=>exact absurd (show false=true from hs) Bo
 |byt i=>
  obtain ⟨t,rfl⟩:=rx
  cases y with
  |byt j=>obtain ⟨t',rfl⟩:=ry;exact PySem.W.eq_bytes (AU I q LL)
  |_=>exact absurd (show false=true from hs) Bo
 |_=>cases y<;>exact absurd (show false=true from hs) Bo
theorem op_ne:OpR X (compareOp .NotEq) Rz:=by
 intro pins s σ H x y v u Q I rx ry h
 obtain ⟨hs,q⟩:=h
 cases x with
 |non=>
  cases rx
  cases y with
  |non=>cases ry;exact PySem.EqNone.ne_none_none (AU I q (by simp))
  |bl j=>cases ry;exact PySem.EqNone.ne_none_bool (AU I q (by simp))
  |int j=>obtain ⟨t',rfl⟩:=ry;exact PySem.EqNone.ne_none_int (AU I q (by simp))
  |str j=>obtain ⟨t',rfl⟩:=ry;exact PySem.EqNone.ne_none_str (AU I q (by simp))
  |_=>exact absurd (show false=true from hs) Bo
 |bl i=>
  cases rx
  cases y with
  |non=>cases ry;exact PySem.EqNone.ne_bool_none (AU I q (by simp))
  |bl j=>cases ry;exact ne_bool (AU I q (congrArg not LJ))
  |str j=>obtain ⟨t',rfl⟩:=ry;exact PySem.EqMixed.ne_bool_str (AU I q (by simp))
  |_=>exact absurd (show false=true from hs) Bo
 |int i=>
  obtain ⟨t,rfl⟩:=rx
  cases y with
  |non=>cases ry;exact PySem.EqNone.ne_int_none (AU I q (by simp))
  |int j=>obtain ⟨t',rfl⟩:=ry;exact ne_int (AU I q (congrArg not LI))
  |str j=>obtain ⟨t',rfl⟩:=ry;exact PySem.EqMixed.ne_int_str (AU I q (by simp))
  |_=>exact absurd (show false=true from hs) Bo
 |str i=>
  obtain ⟨t,rfl⟩:=rx
  cases y with
  |non=>cases ry;exact PySem.EqNone.ne_str_none (AU I q (by simp))
  |bl j=>cases ry;exact PySem.EqMixed.ne_str_bool (AU I q (by simp))
  |int j=>obtain ⟨t',rfl⟩:=ry;exact PySem.EqMixed.ne_str_int (AU I q (by simp))
  |str j=>obtain ⟨t',rfl⟩:=ry;exact ne_str (AU I q (congrArg not Hc))
  |_=>exact absurd (show false=true from hs) Bo
 |byt i=>
  obtain ⟨t,rfl⟩:=rx
  cases y with
  |byt j=>obtain ⟨t',rfl⟩:=ry;exact PySem.W.ne_bytes (AU I q (congrArg not LL))
  |_=>exact absurd (show false=true from hs) Bo
 |_=>cases y<;>exact absurd (show false=true from hs) Bo
theorem RA:OpR X (compareOp .Lt) (DJ fun i j=>.bl (decide (i<j))):=Jx fun _ _ _ _ _ _ _ q=>lt_int q
theorem RB:OpR X (compareOp .LtE) (DJ fun i j=>.bl (decide (i≤j))):=Jx fun _ _ _ _ _ _ _ q=>le_int q
theorem RC:OpR X (compareOp .Gt) (DJ fun i j=>.bl (decide (j<i))):=Jx fun _ _ _ _ _ _ _ q=>gt_int q
theorem OpR.or {f:Value→Value→Sem Value} {r r':R2} (h:OpR X f r) (h':OpR X f r'):OpR X f (fun x y H Q=>r x y H Q∨r' x y H Q):=by
 intro pins s σ H x y v u Q I rx ry q
 rcases q with q |q
 ·exact h pins s σ H x y v u Q I rx ry q
 ·exact h' pins s σ H x y v u Q I rx ry q
theorem E3 (b:Expr) {op:CmpOp} (h:op≠.In:=by decide) (h2:op≠.NotIn:=by decide):behindInMarks op b=false:=by
 have e1:(op==CmpOp.In)=false:=by cases op<;>first |rfl |exact absurd rfl h
 have e2:(op==CmpOp.NotIn)=false:=by cases op<;>first |rfl |exact absurd rfl h2
 cases b with
 |Set elts k p=>
  show (k==0&&(op==.In||op==.NotIn)&&elts.all (constantsAlone 8))=false
  rw [e1,e2,Bool.or_self,Bool.and_false,GW]
 |_=>rfl
theorem RD {op:CmpOp} {r:R2} (ho:OpR X (compareOp op) r) (ha:PE X a ta) (hb:PE X b tb) (hm:behindInMarks op b=false):PE X (.Compare a [op] [b] pos) (G9 r ta tb):=by
 intro pins s σ H Q I h
 exact wpAny_Compare1 (Jw ha hb I h fun v u s2 x y H2 I2 rx ry q=>ho pins s2 σ H2 x y v u Q I2 rx ry q) hm
def LM (t:TE):TT:=fun σ H Q=>t σ H fun x H'=>∃k,x=.bl k∧Q k H'
theorem RE {op:CmpOp} {r:R2} (ho:OpR X (compareOp op) r) (ha:PE X a ta) (hb:PE X b tb) (hm:behindInMarks op b=false):PT X (.Compare a [op] [b] pos) (LM (G9 r ta tb)):=by
 intro pins s σ H Q I h
 refine wpAny_isTrue_Compare1 (Ak (ha pins s σ H _ I h) fun v s1 ⟨x,H1,I1,r1,q1⟩=>Ak (hb pins s1 σ H1 _ I1 q1) ?_) hm
 rintro u s2 ⟨y,H2,I2,r2,q2⟩
 refine Ak (ho pins s2 σ H2 x y v u _ I2 r1 r2 q2) fun c s3 z49_=>?_
 obtain ⟨z,H3,I3,r3,k,e,q3⟩:=z49_
 subst e
 cases r3
 exact wpAny_truthy_bool ⟨H3,I3,q3⟩
def Jy (r r':R2) (ta tb tc:TE):TE:=fun σ H Q=>ta σ H fun x H1=>tb σ H1 fun y H2=>r x y H2 fun z H3=>∃k,z=.bl k∧
 (if k=true then tc σ H3 fun w' H4=>r' y w' H4 Q else Q (.bl false) H3)
theorem RF {op op':CmpOp} {r r':R2} (ho:OpR X (compareOp op) r) (ho':OpR X (compareOp op') r') (ha:PE X a ta) (hb:PE X b tb) (hc:PE X c tc)
 (hm:lastMarks [op,op'] [b,c]=false:=by with_unfolding_all rfl):PE X (.Compare a [op,op'] [b,c] pos) (Jy r r' ta tb tc):=by
 intro pins s σ H Q I h
 refine Compare_chain (Ak (ha pins s σ H _ I h) fun v s1 ⟨x,H1,I1,r1,q1⟩=>chain_link (Ak (hb pins s1 σ H1 _ I1 q1) ?_)) hm
 rintro u s2 ⟨y,H2,I2,r2,q2⟩
 refine Ak (ho pins s2 σ H2 x y v u _ I2 r1 r2 q2) fun d s3 z52_=>?_
 obtain ⟨z,H3,I3,r3,k,e,q3⟩:=z52_
 subst e
 cases r3
 refine wpAny_truthy_bool ?_
 cases k with
 |false=>exact ite_ff ⟨.bl false,H3,I3,rfl,q3⟩
 |true=>exact ite_tt (chain_last (Ak (hc pins s3 σ H3 _ I3 q3) fun w' s4 z53_=>by obtain ⟨z',H4,I4,r4,q4⟩:=z53_;exact (ho' pins s4 σ H4 y z' u w' Q I4 r2 r4 q4)))
theorem RG {op op':CmpOp} {r r':R2} (ho:OpR X (compareOp op) r) (ho':OpR X (compareOp op') r') (ha:PE X a ta) (hb:PE X b tb) (hc:PE X c tc)
 (hm:lastMarks [op,op'] [b,c]=false:=by with_unfolding_all rfl):PT X (.Compare a [op,op'] [b,c] pos) (LM (Jy r r' ta tb tc)):=by
 intro pins s σ H Q I h
 refine isTrue_chain (Ak (ha pins s σ H _ I h) fun v s1 ⟨x,H1,I1,r1,q1⟩=>test_link (Ak (hb pins s1 σ H1 _ I1 q1) ?_)) hm
 rintro u s2 ⟨y,H2,I2,r2,q2⟩
 refine Ak (ho pins s2 σ H2 x y v u _ I2 r1 r2 q2) fun d s3 z56_=>?_
 obtain ⟨z,H3,I3,r3,k,e,q3⟩:=z56_
 subst e
 cases r3
 refine wpAny_truthy_bool ?_
 cases k with
 |false=>
  obtain ⟨k',e',q'⟩:=q3
  cases e'
  exact ite_ff ⟨H3,I3,q'⟩
 |true=>
  refine ite_tt (test_last (Ak (hc pins s3 σ H3 _ I3 q3) ?_))
  rintro w' s4 ⟨z',H4,I4,r4,q4⟩
  refine Ak (ho' pins s4 σ H4 y z' u w' _ I4 r2 r4 q4) fun d' s5 z58_=>?_
  obtain ⟨z2,H5,I5,r5,k2,e2,q5⟩:=z58_
  subst e2
  cases r5
  exact wpAny_truthy_bool ⟨H5,I5,q5⟩
def Jz (K:PySem.W.Frag) (x:V) (H:Hp) (k:Bool):Prop:=
 match x with
 |.non=>k=false
 |.bl b=>k=b
 |.int i=>k=(i != 0)
 |.str y=>y.length≤sizeLine∧k=((y.length:Int) != 0)
 |.byt y=>y.size≤sizeLine∧k=((y.size:Int) != 0)
 |.ref p=>(∃xs,SqL K H p xs∧k=!xs.isEmpty)∨(∃xs,SqT K H p xs∧k=!xs.isEmpty)
 |_=>False
theorem LN {xs:List V} {its:List Value} (r:Vals xs its):(!its.toArray.isEmpty)=!xs.isEmpty:=by
 cases r<;>simp
theorem Ed:(sizeLine:Nat)<2^63:=by rw [sizeLine_eq];decide
theorem RH:Rn X (fun x H Q=>∃k,Jz X.K x H k∧Q k H):=by
 intro pins s σ H x v Q I rx h
 obtain ⟨k,e,q⟩:=h
 have hl:=Ed
 have hs:sizeLine=16777216:=sizeLine_eq
 cases x with
 |non=>
  cases rx
  have e':k=false:=e
  subst e'
  exact truthy_none ⟨H,I,q⟩
 |bl b=>
  cases rx
  have e':k=b:=e
  subst e'
  exact wpAny_truthy_bool ⟨H,I,q⟩
 |int i=>
  obtain ⟨t,rfl⟩:=rx
  have e':k=(i != 0):=e
  subst e'
  exact PySem.P.truthy_int ⟨H,I,q⟩
 |str y=>
  obtain ⟨t,rfl⟩:=rx
  obtain ⟨hy,e'⟩:y.length≤sizeLine∧k=((y.length:Int) != 0):=e
  subst e'
  exact PySem.P.truthy_str (by omega) ⟨H,I.tok _,q⟩
 |byt y=>
  obtain ⟨t,rfl⟩:=rx
  obtain ⟨hy,e'⟩:y.size≤sizeLine∧k=((y.size:Int) != 0):=e
  subst e'
  exact PySem.W.truthy_bytes (by omega) ⟨H,I.tok _,q⟩
 |ref p=>
  cases rx
  have e':(∃xs,SqL X.K H p xs∧k=!xs.isEmpty)∨(∃xs,SqT X.K H p xs∧k=!xs.isEmpty):=e
  rcases e' with ⟨xs,hx,e'⟩ |⟨xs,hx,e'⟩
  ·subst e'
   obtain ⟨its,r,pl,hz⟩:=I.list hx
   have hlen:=r.length
   exact wpAny_truthy_list pl.isList (by simp only [AZ];omega) ⟨H,I.tok _,by rw [LN r];exact q⟩
  ·subst e'
   obtain ⟨its,r,pl,hz⟩:=I.tuple hx
   have hlen:=r.length
   exact truthy_tuple pl (by simp only [AZ];omega) ⟨H,I.tok _,by rw [LN r];exact q⟩
 |_=>exact (show False from e).elim
theorem RI (ha:PE X a ta) (he:∀Dc,isTrue a X.env Dc=(do let v ←Dc;standAt a.pos;holding [v] (truthy v))):
 PT X a (fun σ H Q=>ta σ H fun x H'=>∃k,Jz X.K x H' k∧Q k H'):=by
 intro pins s σ H Q I h
 exact isTrue_plain (Ak (ha pins s σ H _ I h) fun v s1 z59_=>by obtain ⟨x,H1,I1,r1,q1⟩:=z59_;exact (RH pins s1 σ H1 x v Q I1 r1 q1)) (he _)
theorem RJ:OpR X (binaryOp .Add) (fun x y H Q=>∃i j,x=.str i∧y=.str j∧i.length+j.length≤sizeLine∧Q (.str (i++j)) H):=by
 intro pins s σ H x y v u Q I rx ry h
 obtain ⟨i,j,rfl,rfl,hz,q⟩:=h
 obtain ⟨t,rfl⟩:=rx
 obtain ⟨t',rfl⟩:=ry
 exact add_str (fun t' tk=>⟨.str (i++j),H,I.tok _,⟨_,rfl⟩,q⟩) hz
theorem Dl {x:V} {us:List Value} (r:Vals [x] us):∃u,us=[u]∧RelV x u:=by
 cases r with
 |cons r1 r2=>cases r2;exact ⟨_,rfl,r1⟩
theorem Hd {x y:V} {us:List Value} (r:Vals [x,y] us):∃u w',us=[u,w']∧RelV x u∧RelV y w':=by
 cases r with
 |cons r1 r2=>
  cases r2 with
  |cons r3 r4=>cases r4;exact ⟨_,_,rfl,r1,r3⟩
theorem RK (hc:X.calm=true):B1 X (.builtin "max") (fun xs H Q=>∃i j,xs=[.int i,.int j]∧Q (.int (if j>i then j else i)) H):=by
 intro pins s σ H xs us Q I r h
 obtain ⟨i,j,rfl,q⟩:=h
 obtain ⟨u,w',rfl,⟨t,rfl⟩,⟨t',rfl⟩⟩:=Hd r
 refine max_two_ints (I.ok.hd hc) fun h' tk k=>⟨_,H,I.kept k,?_,q⟩
 by_cases hj:j>i
 ·rw [if_pos hj,if_pos hj];exact ⟨_,rfl⟩
 ·rw [if_neg hj,if_neg hj];exact ⟨_,rfl⟩
theorem RL (hc:X.calm=true):B1 X (.builtin "min") (fun xs H Q=>∃i j,xs=[.int i,.int j]∧Q (.int (if j<i then j else i)) H):=by
 intro pins s σ H xs us Q I r h
 obtain ⟨i,j,rfl,q⟩:=h
 obtain ⟨u,w',rfl,⟨t,rfl⟩,⟨t',rfl⟩⟩:=Hd r
 refine min_two_ints (I.ok.hd hc) fun h' tk k=>⟨_,H,I.kept k,?_,q⟩
 by_cases hj:j<i
 ·rw [if_pos hj,if_pos hj];exact ⟨_,rfl⟩
 ·rw [if_neg hj,if_neg hj];exact ⟨_,rfl⟩
theorem RM:B1 X (.type "int") (fun xs H Q=>(∃i,xs=[.int i]∧Q (.int i) H)∨∃k,xs=[.bl k]∧Q (.int (if k then 1 else 0)) H):=by
 intro pins s σ H xs us Q I r h
 rcases h with ⟨i,rfl,q⟩ |⟨k,rfl,q⟩
 ·obtain ⟨u,rfl,t,rfl⟩:=Dl r
  exact call_int_int ⟨.int i,H,I,⟨_,rfl⟩,q⟩
 ·obtain ⟨u,rfl,r1⟩:=Dl r
  cases r1
  exact call_int_bool ⟨.int (if k then 1 else 0),H,I.tok _,⟨_,rfl⟩,q⟩
end
section
variable {prog:Program} {w:World} {A:Around} {E:Value→Shared→Prop} {s:Shared} {K:PySem.W.Frag} {x dx C f:Addr} {mA:Str→Option Value} {name:Str} {v:Value}
end
section
variable {P:Program} {w:World} {H H':Hp} {h h':Heap} {a C dx:Addr} {fs fs':List (Str×V)}
end
section
variable {X:Cx} {pins:List (Addr×Obj)} {σ:St} {H:Hp} {s:Shared} {a C dx:Addr} {fs:List (Str×V)} {f:Str} {v:V} {A:Around} {E:Value→Shared→Prop}
end
section
variable {X:Cx} {o e value:Expr} {f:Str} {pos pos' tpos:Pos} {ta tv:TE}
end
section
variable {X:Cx} {pins:List (Addr×Obj)} {σ:St} {H:Hp} {s:Shared} {A:Around} {E:Value→Shared→Prop} {Q:Value→Shared→Prop} {c:Value} {b:Bool}
inductive CO (K:PySem.W.Frag) (H:Hp):V→Value→Prop where
 |non:CO K H .non (.type "NoneType")
 |bl (x:Bool):CO K H (.bl x) (.type "bool")
 |int (i:Int):CO K H (.int i) (.type "int")
 |str (x:Str):CO K H (.str x) (.type "str")
 |flt (x:UInt64):CO K H (.flt x) (.type "float")
 |lst {a:Addr} {xs:List V} (e:H a=some (.lst xs)):CO K H (.ref a) (.type "list")
 |frz {a:Addr} {o:Obj} {xs:List V} (e:H a=some (.frz o (.lst xs))):CO K H (.ref a) (.type "list")
 |tup {a:Addr} {xs:List V} (e:H a=some (.tup xs)):CO K H (.ref a) (.type "tuple")
theorem RN {x:V} {u t:Value} (I:Inv X pins σ H s) (rx:RelV x u) (ty:CO X.K H x t) (e:PySem.W.kitOne X.K t c=some b) (h:∀tk,Q (.bool b) {s with toks:=tk}):
 wpAny (model X.prog X.w) A (call (.builtin "isinstance") [u,c]) Q E s:=by
 cases ty with
 |non=>cases (show u=Value.none from rx);exact PySem.W.kia_one PySem.W.kitx_none I.kIn True.intro e (fun z=>nomatch z) h
 |bl y=>cases (show u=Value.bool y from rx);exact PySem.W.kia_one PySem.W.kitx_bool I.kIn True.intro e (fun z=>nomatch z) h
 |int i=>obtain ⟨t,q⟩:=(show ∃t,u=Value.int i t from rx);cases q;exact PySem.W.kia_one PySem.W.kitx_int I.kIn True.intro e (fun z=>nomatch z) h
 |str y=>obtain ⟨t,q⟩:=(show ∃t,u=Value.str y t from rx);cases q;exact PySem.W.kia_one PySem.W.kitx_str I.kIn True.intro e (fun z=>nomatch z) h
 |flt y=>obtain ⟨t,q⟩:=(show ∃t,u=Value.float y t from rx);cases q;exact PySem.W.kia_one PySem.W.kitx_float I.kIn True.intro e (fun z=>nomatch z) h
 |@lst a xs ea=>
  cases (show u=Value.ref a from rx)
  obtain ⟨_,_,n,_,h1⟩:=(show ObjOk X.prog X.w H s.heap a (.lst xs) from I.hok a _ ea)
  exact PySem.W.kia_one PySem.W.kitx_list I.kIn ⟨_,h1,rfl⟩ e (fun z=>nomatch z) h
 |@frz a ob xs ea=>
  cases (show u=Value.ref a from rx)
  obtain ⟨_,_,_,n,_,h1⟩:=(show ObjOk X.prog X.w H s.heap a (.frz ob (.lst xs)) from I.hok a _ ea)
  exact PySem.W.kia_one PySem.W.kitx_list I.kIn ⟨_,h1,rfl⟩ e (fun z=>nomatch z) h
 |@tup a xs ea=>
  cases (show u=Value.ref a from rx)
  obtain ⟨_,_,_,p,_⟩:=(show ObjOk X.prog X.w H s.heap a (.tup xs) from I.hok a _ ea)
  obtain ⟨o,h1,h2,_⟩:=p
  exact PySem.W.kia_one PySem.W.kitx_tuple I.kIn ⟨o,h1,h2⟩ e (fun z=>nomatch z) h
end
structure Room (k:Nat) (A:Around):Prop where
 hd:A.handled=none
 dp:A.depth+3*k+5<recursionLimit
 un:A.units+16*k+200<cLine
 gd:A.guards=some []
theorem Room.mono {j k:Nat} {A:Around} (r:Room k A) (h:j≤k):Room j A:=⟨r.hd,by have:=r.dp;omega,by have:=r.un;omega,r.gd⟩
theorem Room.deeper {k:Nat} {A:Around} (r:Room (k+1) A) (env:Env):Room k (A.deeper env):=
 ⟨r.hd,by have:=r.dp;show A.depth+1+3*k+5<_;omega,by have:=r.un;show A.units+3+16*k+200<_;omega,r.gd⟩
theorem Room.depth {k:Nat} {A:Around} (r:Room k A):A.depth<recursionLimit:=by have:=r.dp;omega
theorem Room.units {k:Nat} {A:Around} (r:Room k A):A.units+64<cLine:=by have:=r.un;omega
def RO:TA:=fun _ H Q=>Q [] H
def RP (ta:TE) (tr:TA):TA:=fun σ H Q=>ta σ H fun x H1=>tr σ H1 fun xs H2=>Q (x::xs) H2
section
variable {X:Cx} {e:Expr} {es:List Expr} {te:TE} {t:TA} {pos:Pos}
theorem JA:PA X [] RO:=fun _ _ _ _ H Q I h=>Calls.spliced_nil ⟨[],H,I,.nil,h⟩
theorem JB (ha:PE X e te) (hr:PA X es t) (hs:starEach (e::es) X.env=(false,eval e X.env)::starEach es X.env:=by rfl):PA X (e::es) (RP te t):=by
 intro pos pins s σ H Q I h
 rw [hs]
 show wpAny _ _ (spliced ((false,eval e X.env)::backTo pos (starEach es X.env))) _ _ s
 refine Calls.spliced_cons (Ak (ha pins s σ H _ I h) fun u s1 z68_=>?_)
 obtain ⟨x,H1,I1,r1,q1⟩:=z68_
 exact Ak (hr pos pins s1 σ H1 _ I1 q1) fun us s2 z69_=>by obtain ⟨xs,H2,I2,r2,q2⟩:=z69_;exact (⟨x::xs,H2,I2,.cons r1 r2,q2⟩)
def RQ (t:TA):TE:=fun σ H Q=>t σ H fun xs H1=>xs.length≤sizeLine∧∀p,H1 p=none→Q (.ref p) (Ai H1 p (.tup xs))
def RR (t:TA):TE:=fun σ H Q=>t σ H fun xs H1=>xs.length≤sizeLine∧∀p,H1 p=none→Q (.ref p) (Ai H1 p (.lst xs))
theorem RS {x1} (h:PA X es t):PE X (.Tuple es x1 pos) (RQ t):=by
 intro pins s σ H Q I hq
 refine wpAny_Tuple_spliced (Ak (h pos pins s σ H _ I hq) fun us s1 ⟨xs,H1,I1,r,z,q⟩=>⟨by rw [←r.length];exact z,?_⟩)
 have hf:H1 s1.heap.objs.size=none:=I1.hok.fresh (Ap _)
 refine ⟨.ref s1.heap.objs.size,Ai H1 s1.heap.objs.size (.tup xs),I1.laid (t':=s1.toks) (fun b u e=>AH _ e) (Ap _) ?_,rfl,q _ hf⟩
 exact ⟨z,us,r,⟨_,Bf _ rfl,rfl,_,rfl⟩,NoDict.new⟩
theorem RT (h:PA X es t):PE X (.List es pos) (RR t):=by
 intro pins s σ H Q I hq
 refine wpAny_List_spliced (Ak (h pos pins s σ H _ I hq) fun us s1 ⟨xs,H1,I1,r,z,q⟩=>⟨by rw [←r.length];exact z,?_⟩)
 have hf:H1 s1.heap.objs.size=none:=I1.hok.fresh (Ap _)
 refine ⟨.ref s1.heap.objs.size,Ai H1 s1.heap.objs.size (.lst xs),I1.laid (t':=s1.toks) (fun b u e=>AH _ e) (Ap _) ?_,rfl,q _ hf⟩
 exact ⟨z,us,0,r,Bf _ rfl⟩
end
abbrev Sp:=List V→Hp→VK→XK→Prop
abbrev CP:=List Env→Hp→Shared→XK→Value→Shared→Prop
structure DK (P:Program) (w:World) (K:PySem.W.Frag) (mg:Str→Option Value) (base:Heap) (A:Around) (outer:List Env) (s:Shared) (H:Hp):Prop where
 frames:A.frames=some outer
 mod:Mod K mg base
 bs:∀b o,base.get? b=some o→s.heap.get? b=some o∧H b=none
 bsz:base.objs.size≤s.heap.objs.size
 funs:s.heap.FunFrames base outer
 frf:∀b∈frs outer,H b=none
 hok:HOk P w H s.heap
 bare:AllBare s.gens
inductive CE (outer:List Env) (P:Program) (w:World) (H:Hp) (s:Shared) (Q:VK) (u:Value) (s':Shared):Prop where
 |mk (v:V) (H':Hp) (os:s'.os=s.os) (bare:AllBare s'.gens) (un:Un (frs outer) [] H H' s.heap s'.heap) (hok:HOk P w H' s'.heap) (r:RelV v u) (q:Q v H'):CE outer P w H s Q u s'
def CR (CX:CP) (outer:List Env) (P:Program) (w:World) (H:Hp) (s:Shared) (Q:VK) (E:XK) (r:Result) (s':Shared):Prop:=
 match r with
 |.ok (.ret u)=>CE outer P w H s Q u s'
 |.ok _=>False
 |.error e=>CX outer H s E e s'
structure FnOk (P:Program) (w:World) (K:PySem.W.Frag) (mg:Str→Option Value) (base:Heap) (CX:CP) (k:Nat) (f:Addr) (fd:FuncData) (ps:List Str) (sp:Sp):Prop where
 len:∀vs H Q E,sp vs H Q E→vs.length=ps.length
 run:∀(A:Around) (outer:List Env) (s:Shared) (H:Hp) (args:Args) (us:List Value) (vs:List V) (Q:VK) (E:XK),Room k A→DK P w K mg base A outer s H→BindsTo s fd args (ps.zip us)→Vals vs us→sp vs H Q E→
  codeAny (model P w) A (.call (.ref f) args) (CR CX outer P w H s Q E) s
theorem FnOk.mono {P:Program} {w:World} {K:PySem.W.Frag} {mg:Str→Option Value} {base:Heap} {CX:CP} {j k:Nat} {f:Addr} {fd:FuncData} {ps:List Str} {sp:Sp} (F:FnOk P w K mg base CX j f fd ps sp) (h:j≤k):
 FnOk P w K mg base CX k f fd ps sp:=⟨F.len,fun A outer s H args us vs Q E hr=>F.run A outer s H args us vs Q E (hr.mono h)⟩
section
variable {X:Cx} {pins:List (Addr×Obj)} {σ:St} {H:Hp} {s s':Shared}
theorem Inv.env0 (I:Inv X pins σ H s):DK X.prog X.w X.K X.mg X.base X.A X.stack s H:=
 ⟨I.ok.frames,I.ok.mod,I.bs,Bc I.ok.bsz I.sz,I.stack,I.stkFree,I.hok,I.bare⟩
theorem Inv.after {Q:VK} {u:Value} (I:Inv X pins σ H s) (h:CE X.stack X.prog X.w H s Q u s'):EP X pins σ Q u s':=by
 obtain ⟨v,H',os,bare,un,hok,r,q⟩:=h
 obtain ⟨hh,g,d,t,os'⟩:=s'
 obtain rfl:os'=s.os:=os
 exact ⟨v,H',I.call (h':=hh) (g':=g) (d':=d) (t':=t) (ch:=[]) un hok bare (fun b z=>absurd z (by simp)),r,q⟩
end
def RU (sp:Sp) (dvs:List V) (E:XK) (t:TA):TE:=fun σ H Q=>t σ H fun vs H1=>sp (vs++dvs) H1 Q E
def Binds (K:PySem.W.Frag) (fd:FuncData) (ps:List Str) (ds:List Value):Prop:=
 ∀(s:Shared) (us:List Value),K.In s.heap→(us++ds).length=ps.length→BindsTo s fd ⟨us,[]⟩ (ps.zip (us++ds))
theorem Binds.all {K:PySem.W.Frag} {fd:FuncData} {ps:List Str} (h:∀us:List Value,us.length=ps.length→bindArgs fd ⟨us,[]⟩=pure (ps.zip us)):Binds K fd ps []:=fun s us _ hl=>by
 rw [EX] at hl ⊢
 exact .of_eq (h us hl)
def Ee (CX:CP) (X:Cx) (E:XK):Prop:=∀(pins:List (Addr×Obj)) (σ:St) (H:Hp) (s:Shared) (e:Value) (s':Shared),Inv X pins σ H s→CX X.stack H s E e s'→X.xe e s'
section
variable {X:Cx} {CX:CP} {k:Nat} {f C:Addr} {fd:FuncData} {ps:List Str} {sp:Sp} {dvs:List V} {ds:List Value} {E:XK} {x m:Str} {p pos apos:Pos} {e o:Expr} {es:List Expr} {ta:TE} {t:TA}
theorem RV {pins:List (Addr×Obj)} {σ:St} {H:Hp} {s:Shared} {Q:VK} {us:List Value} {vs:List V} (F:FnOk X.prog X.w X.K X.mg X.base CX k f fd ps sp) (hr:Room k X.A) (hb:Binds X.K fd ps ds) (hd:Vals dvs ds) (hx:Ee CX X E)
 (I:Inv X pins σ H s) (r:Vals vs us) (h:sp (vs++dvs) H Q E):wpAny (model X.prog X.w) X.A (call (.ref f) us) (EP X pins σ Q) X.xe s:=by
 have r2:Vals (vs++dvs) (us++ds):=r.append hd
 have hl:(us++ds).length=ps.length:=by rw [←r2.length];exact F.len _ _ _ _ h
 refine wpAny_call (codeAny_mono (F.run X.A X.stack s H ⟨us,[]⟩ (us++ds) (vs++dvs) Q E hr I.env0 (hb s us I.kIn hl) r2 h) fun r s' hq=>?_)
 cases r with
 |error e=>exact hx pins σ H s e s' I hq
 |ok fl=>
  cases fl with
  |ret u=>exact I.after hq
  |next=>exact False.elim hq
  |brk=>exact False.elim hq
  |cont=>exact False.elim hq
theorem RW (F:FnOk X.prog X.w X.K X.mg X.base CX k f fd ps sp) (hr:Room k X.A) (hg:Gl X x) (hm:X.mg x=some (.ref f)) (hk:PySem.W.keepIn X.K (.ref f)=true) (hb:Binds X.K fd ps ds) (hd:Vals dvs ds) (hx:Ee CX X E)
 (ha:PA X (e::es) t) (hdb:(x==("__debug__":Str))=false:=by decide) (he:starEach (e::es) X.env=(false,eval e X.env)::starEach es X.env:=by rfl) (hpl:(backTo pos (starEach es X.env)).any (·.1)=false:=by rfl):
 PE X (.Call (.Name x p) (e::es) [] pos) (RU sp dvs E t):=by
 intro pins s σ H Q I h
 refine wpAny_Call_Name_kw (EZ I hg hm ?_ hdb)
 refine PySem.W.callWith_K (h₀:=X.base) I.ok.mod.kin hk (Ak (ha pos pins s σ H _ I h) ?_) he hpl
 rintro us s1 ⟨vs,H1,I1,r,q⟩
 refine ⟨I1.kIn,?_⟩
 exact RV F hr hb hd hx I1 r q
end
section
variable {X:Cx} {CX:CP} {k:Nat} {f C:Addr} {fd:FuncData} {ps ks:List Str} {sp:Sp} {E:XK} {x m:Str} {p pos apos kpos:Pos} {e o:Expr} {es:List Expr} {kws:List Keyword} {te ta:TE} {t tk:TA} {nm:Option Str}
variable {g:List Value→List Value→List Value} {gV:List V→List V→List V}
end
structure CD (N P:List Str) (sc:Scope):Prop where
 kind:sc.kind=.function
 co:sc.isCoroutine=false
 gen:sc.isGenerator=false
 nd:N.Nodup
 pre:N.take P.length=P
 par:∀x∈P,sc.names.lookup x=some .local∨sc.names.lookup x=some .cell
 nofree:∀y∈sc.names,y.2≠.free
theorem LO {kindOf:Str→Option NameKind} {x:Str}:∀{binds:List (Str×Value)} {m:Str→Option Value},(∀v,(x,v)∉binds)→bindL kindOf binds m x=m x
 |[],_,_=>rfl
 |(n,v)::r,m,h=>by
  unfold bindL
  rw [LO fun w hw=>h w (AI _ hw)]
  split
  ·have:x≠n:=by rintro rfl;exact h v AE
   simp [this]
  ·rfl
theorem LP {kindOf:Str→Option NameKind} {x:Str}:∀{binds:List (Str×Value)} {m:Str→Option Value},(∀v,(x,v)∉binds)→bindC kindOf binds m x=m x
 |[],_,_=>rfl
 |(n,v)::r,m,h=>by
  unfold bindC
  rw [LP fun w hw=>h w (AI _ hw)]
  split
  ·rfl
  ·have:x≠n:=by rintro rfl;exact h v AE
   simp [this]
theorem JC {kindOf:Str→Option NameKind} {x:Str} {v:Value}:∀{P:List Str} {vs:List Value} {i:Nat} {m:Str→Option Value},P.Nodup→P[i]?=some x→vs[i]?=some v→kindOf x=some .local→
 bindL kindOf (P.zip vs) m x=some v
 |[],_,_,_,_,h,_,_=>by simp at h
 |_::_,[],_,_,_,_,h,_=>by simp at h
 |p::P,w::vs,0,m,nd,h1,h2,hk=>by
  simp at h1 h2;subst h1;subst h2
  show bindL kindOf ((p,w)::P.zip vs) m p=_
  unfold bindL
  rw [LO fun v hv=>(qbF.mp nd).1 (GV hv).1,if_pos hk]
  simp
 |p::P,w::vs,i+1,m,nd,h1,h2,hk=>by
  show bindL kindOf ((p,w)::P.zip vs) m x=_
  unfold bindL
  exact JC (i:=i) (qbF.mp nd).2 (by simpa using h1) (by simpa using h2) hk
theorem JD {kindOf:Str→Option NameKind} {x:Str} {v:Value}:∀{P:List Str} {vs:List Value} {i:Nat} {m:Str→Option Value},P.Nodup→P[i]?=some x→vs[i]?=some v→kindOf x≠some .local→
 bindC kindOf (P.zip vs) m x=some v
 |[],_,_,_,_,h,_,_=>by simp at h
 |_::_,[],_,_,_,_,h,_=>by simp at h
 |p::P,w::vs,0,m,nd,h1,h2,hk=>by
  simp at h1 h2;subst h1;subst h2
  show bindC kindOf ((p,w)::P.zip vs) m p=_
  unfold bindC
  rw [LP fun v hv=>(qbF.mp nd).1 (GV hv).1,if_neg hk]
  simp
 |p::P,w::vs,i+1,m,nd,h1,h2,hk=>by
  show bindC kindOf ((p,w)::P.zip vs) m x=_
  unfold bindC
  exact JD (i:=i) (qbF.mp nd).2 (by simpa using h1) (by simpa using h2) hk
def start (N:List Str) (vs:List V):St:=vs.map some++List.replicate (N.length - vs.length) none
def Bp (CX:CP) (P:Program) (w:World) (K:PySem.W.Frag) (mg:Str→Option Value) (base:Heap) (N:List Str) (qual:Str) (scope:Scope) (f:Addr) (cd:Value) (A:Around) (outer:List Env) (s:Shared) (H:Hp) (E:XK):Cx where
 prog:=P
 w:=w
 K:=K
 mg:=mg
 base:=base
 A:=A.deeper (envOfC qual scope s.heap.objs.size f cd)
 N:=N
 s₀:=s
 H₀:=H
 env:=envOfC qual scope s.heap.objs.size f cd
 outer:=outer
 stack:=envOfC qual scope s.heap.objs.size f cd::outer
 ex:=[]
 calm:=true
 fn:=fun _=>true
 pn:=[]
 xe:=fun e s'=>wpAny (model P w) (A.deeper (envOfC qual scope s.heap.objs.size f cd)) (leaving (envOfC qual scope s.heap.objs.size f cd) e) (fun _ s''=>CX outer H s E e s'') (fun e' s''=>CX outer H s E e' s'') s'
theorem He {sc:Scope} {n:Nat} {x:Str} (h:sc.names.lookup x=some .cell):∃c,(cellsFrom n sc.names []).lookup x=some c:=by
 have q:=PySem.W.cellsFrom_some sc.names n [] (.inl h)
 exact qbB.mp q
theorem LQ {CX:CP} {P:Program} {w:World} {K:PySem.W.Frag} {mg:Str→Option Value} {base:Heap} {N ps:List Str} {qual:Str} {scope:Scope} {f:Addr} {cd:Value} {A:Around} {outer:List Env} {s s1:Shared} {H:Hp} {E:XK} {us:List Value} {vs:List V}
 (S:CD N ps scope) (hd:A.handled=none) (e0:DK P w K mg base A outer s H) (hl:vs.length=ps.length) (r:Vals vs us)
 (x:InCallC s s.heap.objs.size (bindL (envOfC qual scope s.heap.objs.size f cd).kindOf (ps.zip us) fun _=>none) (cellsFrom (s.heap.objs.size+1) scope.names []) (bindC (envOfC qual scope s.heap.objs.size f cd).kindOf (ps.zip us) fun _=>none) s1):
 Inv (Bp CX P w K mg base N qual scope f cd A outer s H E) [] (start N vs) H s1:=by
 have hpl:ps.length≤N.length:=by have:=congrArg List.length S.pre;rw [FW] at this;omega
 obtain ⟨h1,tk,rfl,hk⟩:=x.done
 have noA:∀b:Addr,b∉(Bp CX P w K mg base N qual scope f cd A outer s H E).ex:=fun b z=>absurd (show b∈([]:List Addr) from z) (by simp)
 refine ⟨⟨e0.mod,S.kind,rfl,rfl,Ap _,fun y z c h1 h2=>?_,fun y hy=>?_,fun y c _ h=>?_,fun _=>hd,Around.frames_deeper e0.frames,.inr ⟨rfl,rfl⟩,fun b z=>absurd z (noA b),e0.bs,e0.bsz,fun b _ _=>noA b,fun b z=>absurd z (noA b),e0.funs,e0.frf⟩,
  rfl,e0.bare,Un.kept hk,⟨_,x.toInCall.ns,fun i y v h1 h2 h3=>?_⟩,fun y c h=>⟨_,x.cell y c h⟩,e0.hok.fresh (Ap _),fun y c h=>?_,fun p hp=>absurd (show p∈([]:List (Addr×Obj)) from hp) (by simp),e0.hok.kept hk,?_⟩
 ·exact name_of_addr x.apart (PySem.mem_of_lookup h1) (PySem.mem_of_lookup h2)
 ·have hy:scope.names.lookup y=some .cell∨scope.names.lookup y=some .free:=hy
  rcases hy with hy |hy
  ·exact He hy
  ·exact absurd rfl (S.nofree _ (PySem.mem_of_lookup hy))
 ·exact Ea (x.above y c (PySem.mem_of_lookup h))
 ·have hi:i<vs.length:=by
   unfold start at h2
   by_cases hi:i<vs.length
   ·exact hi
   ·rw [FU (by simpa using hi)] at h2
    rw [Jk] at h2
    split at h2<;>cases h2
  have ha:vs[i]?=some v:=by
   unfold start at h2
   rw [Di (by simpa using hi),BP] at h2
   cases e:vs[i]? with
   |none=>rw [e] at h2;cases h2
   |some a=>rw [e] at h2;cases h2;rfl
  obtain ⟨u,hu,rv⟩:=r.get ha
  have hp:ps[i]?=some y:=by
   rw [←S.pre,List.getElem?_take_of_lt (by omega)];exact h1
  have ndP:ps.Nodup:=by rw [←S.pre];exact S.nd.sublist (List.take_sublist _ _)
  refine ⟨u,rv,?_⟩
  rcases S.par y (D2 hp) with k |k
  ·exact .inl ⟨k,JC ndP hp hu k⟩
  ·obtain ⟨c,e⟩:=He (n:=s.heap.objs.size+1) k
   refine .inr ⟨.inl k,c,e,?_⟩
   have q:=x.cell y c e
   rw [JD ndP hp hu (by show scope.names.lookup y≠_;rw [k];decide)] at q
   exact q
 ·exact e0.hok.fresh (Ea (x.above y c (PySem.mem_of_lookup h)))
 ·unfold start
  show _=N.length
  rw [DH,BX,List.length_replicate]
  omega
theorem LR {CX:CP} {P:Program} {w:World} {K:PySem.W.Frag} {mg:Str→Option Value} {base:Heap} {k:Nat} {f:Addr} {name qual:Str} {params:Arguments} {body:List Stmt} {scope:Scope} {dV kV doc pm cdv ct oc:Value} {an od:Option Addr}
 {osl:Array (Option Value)} {N ps:List Str} {sp:Sp} (lk:K.lookup f=some ⟨oc,od,.func (PySem.W.fnOf name qual params body scope dV kV doc pm an cdv ct),osl⟩) (hcd:PySem.W.codeIn K cdv qual=true) (S:CD N ps scope)
 (len:∀vs H Q E,sp vs H Q E→vs.length=ps.length)
 (hbody:∀(A:Around) (outer:List Env) (s:Shared) (H:Hp) (vs:List V) (Q:VK) (E:XK),Room k (A.deeper (envOfC qual scope s.heap.objs.size f cdv))→sp vs H Q E→
  ∃t,Ca (Bp CX P w K mg base N qual scope f cdv A outer s H E) body t∧t {nx:=fun _ H'=>Q .non H',rt:=Q} (start N vs) H):
 FnOk P w K mg base CX (k+1) f (PySem.W.fnOf name qual params body scope dV kV doc pm an cdv ct) ps sp:=by
 refine ⟨len,fun A outer s H args us vs Q E hr e0 hb r hsp=>?_⟩
 have hl:=len _ _ _ _ hsp
 have KX:K.In s.heap:=e0.mod.kin.keeps fun b o e=>(e0.bs b o e).1
 have lim:s.heap.NoLimit:=e0.mod.nolimit.keeps fun b o e=>(e0.bs b o e).1
 have hkind:∀y∈ps.zip us,scope.names.lookup y.1=some .local∨(scope.names.lookup y.1=some .cell∧((cellsFrom (s.heap.objs.size+1) scope.names []).lookup y.1).isSome=true):=fun z81_ hy=>by
  obtain ⟨n,v⟩:=z81_
  rcases S.par n (GV hy).1 with q |q
  ·exact .inl q
  ·exact .inr ⟨q,PySem.W.cellsFrom_some _ _ _ (.inl q)⟩
 refine codeAny_call_function hr.depth (KX _ _ lk) rfl S.co S.gen rfl (PySem.W.codeRec_of KX hcd) (hb _ _ _ _ ?_)
 refine wpAny_newFunctionEnv_cells S.kind hkind fun env he s1 x=>?_
 subst he
 refine ⟨lim.keeps x.toInCall.keep,codeAny_func ?_⟩
 obtain ⟨t,ht,hq⟩:=hbody A outer s H vs Q E (hr.deeper _) hsp
 have I:Inv (Bp CX P w K mg base N qual scope f cdv A outer s H E) [] (start N vs) H s1:=LQ S hr.hd e0 hl r x
 refine wpAny_mono (ht [] s1 (start N vs) H _ I hq) (fun fl s' hs=>?_) fun e s' hs=>hs
 have Ao:∀{σ':St} {H':Hp} {v:V} {u:Value},Inv (Bp CX P w K mg base N qual scope f cdv A outer s H E) [] σ' H' s'→RelV v u→Q v H'→CE outer P w H s Q u s':=
  fun {σ' H' v u} J rv q=>⟨v,H',J.os,J.bare,J.base,J.hok,rv,q⟩
 cases fl with
 |ret u=>
  obtain ⟨v,σ',H',J,rv,q⟩:=hs
  exact Ao J rv q
 |next=>
  obtain ⟨σ',H',J,q⟩:=hs
  exact Ao (v:=V.non) (u:=Value.none) J rfl q
 |brk=>
  obtain ⟨_,_,_,q⟩:=hs
  exact False.elim q
 |cont=>
  obtain ⟨_,_,_,q⟩:=hs
  exact False.elim q
section
variable {X:Cx} {x:Str} {p pos:Pos} {e:Expr} {es:List Expr} {t:TA} {id T:String} {r:List V→Hp→VK→Prop}
def LU (r:List V→Hp→VK→Prop) (t:TA):TE:=fun σ H Q=>t σ H fun vs H1=>r vs H1 Q
theorem RX (hc:B1 X (.builtin id) r) (hg:Gl X x) (hm:X.mg x=none) (hv:bootBuiltins x=some (.builtin id)) (ha:PA X (e::es) t) (hn:x≠"__name__":=by decide) (hdb:(x==("__debug__":Str))=false:=by decide)
 (he:starEach (e::es) X.env=(false,eval e X.env)::starEach es X.env:=by rfl) (hpl:(backTo pos (starEach es X.env)).any (·.1)=false:=by rfl):PE X (.Call (.Name x p) (e::es) [] pos) (LU r t):=by
 intro pins s σ H Q I h
 refine wpAny_Call_Name_kw (G3 I hg hm hv ?_ hn hdb)
 exact PyProof.Rows.callWith_builtin1 (Ak (ha pos pins s σ H _ I h) fun us s1 z82_=>by obtain ⟨vs,H1,I1,r1,q1⟩:=z82_;exact (hc pins s1 σ H1 vs us Q I1 r1 q1)) he hpl
theorem JE (hc:B1 X (.type T) r) (hg:Gl X x) (hm:X.mg x=none) (hv:bootBuiltins x=some (.type T)) (ha:PA X (e::es) t) (hn:x≠"__name__":=by decide) (hdb:(x==("__debug__":Str))=false:=by decide)
 (he:starEach (e::es) X.env=(false,eval e X.env)::starEach es X.env:=by rfl) (hpl:(backTo pos (starEach es X.env)).any (·.1)=false:=by rfl):PE X (.Call (.Name x p) (e::es) [] pos) (LU r t):=by
 intro pins s σ H Q I h
 refine wpAny_Call_Name_kw (G3 I hg hm hv ?_ hn hdb)
 exact PyProof.Rows.callWith_type1 (Ak (ha pos pins s σ H _ I h) fun us s1 z83_=>by obtain ⟨vs,H1,I1,r1,q1⟩:=z83_;exact (hc pins s1 σ H1 vs us Q I1 r1 q1)) he hpl
end
end L2
namespace HT
open PySem PyProof.Rows
section
open PySem.SeqAt
open PySem.AutoSeq1 (wpAny_loadPart')
open PySem.MeetsSeq PySem.MeetsSeq2 PySem.MeetsSeq3
end
section
variable {prog:Program} {w:World} {A:Around} {E:Value→Shared→Prop} {s:Shared}
theorem cat_tup {t b:Addr} {vs ws:List Value} {Q:Value→Shared→Prop} (ht:IsTup s.heap t vs.toArray) (hb:IsTup s.heap b ws.toArray) (hv:vs≠[])
 (h1:ws=[]→Q (.ref t) s) (h2:ws≠[]→Q (.ref s.heap.objs.size) {s with heap:=s.heap.push {cls:=.type "tuple",data:=.seq (vs++ws).toArray}})
 (hsz:vs.length+ws.length≤sizeLine):wpAny (model prog w) A (binaryOp .Add (.ref t) (.ref b)) Q E s:=by
 obtain ⟨⟨cls,dd,data,sl⟩,ho,hc,n,hd⟩:=id ht
 obtain ⟨⟨cls2,dd2,data2,sl2⟩,ho2,hc2,n2,hd2⟩:=id hb
 simp only at hc hd hc2 hd2
 subst hc hd hc2 hd2
 have e:vs.toArray++ws.toArray=(vs++ws).toArray:=by simp
 by_cases hw:ws=[]
 ·exact concat_meets ⟨_,ho,rfl⟩ ⟨_,ho2,rfl⟩ noFill_tuple_add seq_tuple_add PySem.F.slot_tuple_add PySem.F.entry_tuple_add (PySem.F.args_tuple_add_2 _ _)
   (tuple_addW1 t b vs.toArray ws.toArray n n2 dd dd2 sl sl2 (by simpa using hv) (by simp [hw])) ⟨ho,ho2,h1 hw⟩
 ·refine concat_meets ⟨_,ho,rfl⟩ ⟨_,ho2,rfl⟩ noFill_tuple_add seq_tuple_add PySem.F.slot_tuple_add PySem.F.entry_tuple_add (PySem.F.args_tuple_add_2 _ _)
   (tuple_addW2 t b vs.toArray ws.toArray n n2 dd dd2 sl sl2 (by simpa using hv) (by simpa using hw) (by rw [AZ,AZ];exact hsz)) ⟨ho,ho2,?_⟩
  rw [e]
  exact h2 hw
def sIx (n d:Nat):Option Int→Nat
 |none=>d
 |some v=>if v<0 then (v+(n:Int)).toNat else min v.toNat n
theorem sIx_none (n d:Nat):sIx n d none=d:=rfl
theorem sIx_nat (n d k:Nat):sIx n d (some (k:Int))=min k n:=by
 show (if (k:Int)<0 then ((k:Int)+(n:Int)).toNat else min (k:Int).toNat n)=min k n
 rw [if_neg (by omega),Int.toNat_natCast]
theorem sIx_le (n d:Nat) (hd:d≤n) (o:Option Int):sIx n d o≤n:=by
 cases o with
 |none=>exact hd
 |some v=>
  show (if v<0 then (v+(n:Int)).toNat else min v.toNat n)≤n
  by_cases hv:v<0
  ·rw [if_pos hv];omega
  ·rw [if_neg hv];exact Nat.min_le_right _ _
theorem clip_eq (v:Int) (n d:Nat):(if v<0 then max (v+(n:Int)) 0 else min v (n:Int))=((sIx n d (some v):Nat):Int):=by
 show (if v<0 then max (v+(n:Int)) 0 else min v (n:Int))=(((if v<0 then (v+(n:Int)).toNat else min v.toNat n):Nat):Int)
 by_cases hv:v<0
 ·simp only [if_pos hv];omega
 ·simp only [if_neg hv];omega
theorem RY (lo hi:Option Int) (n:Nat):Builtin.Slice.sliceAdjust lo hi 1 (n:Int)=(((sIx n 0 lo:Nat):Int),((sIx n n hi:Nat):Int)):=by
 have h1:¬((1:Int)<0):=by omega
 unfold Builtin.Slice.sliceAdjust
 simp only [h1,if_false]
 refine Prod.ext ?_ ?_
 ·cases lo with
  |none=>rfl
  |some v=>exact clip_eq v n 0
 ·cases hi with
  |none=>rfl
  |some v=>exact clip_eq v n n
theorem RZ (i j:Nat):Builtin.Slice.slicePlaces (i:Int) (j:Int) 1=j - i:=by
 unfold Builtin.Slice.slicePlaces
 have h1:(1:Int)>0:=by omega
 simp only [h1,if_true,Int.ediv_one]
 split<;>omega
theorem LV {v:Value} {o:Option Int} {Q:Option Int→Shared→Prop} (p:IsPart v o) (h:Q o s):wpAny (model prog w) A (Builtin.Slice.slicePartIndex v) Q E s:=by
 cases p with
 |none=>exact slicePart_none h
 |int i t=>exact slicePart_int h
theorem sliceApplied_gen {sl:Addr} {vl vu:Value} {lo hi:Option Int} {n:Nat} {Q:Int×Int×Nat→Shared→Prop} (hs:s.heap.IsSliceOf sl vl vu .none) (pl:IsPart vl lo) (pu:IsPart vu hi)
 (h:Q (((sIx n 0 lo:Nat):Int),1,sIx n n hi - sIx n 0 lo) s):wpAny (model prog w) A (Builtin.Slice.sliceApplied (.ref sl) (pure (n:Int))) Q E s:=by
 obtain ⟨os,hos,hcs,hds⟩:=id hs
 unfold Builtin.Slice.sliceApplied Builtin.Slice.sliceFields
 refine wpAny_bind (wpAny_bind (wpAny_field hos hds (x:=vl) rfl (wpAny_bind (wpAny_field hos hds (x:=vu) rfl (wpAny_bind (wpAny_field hos hds (x:=.none) rfl (wpAny_pure ?_)))))))
 refine wpAny_bind (slicePart_none ?_)
 show wpAny _ _ (if ((1:Int)==0)=true then _ else _) _ _ s
 rw [if_neg (by decide)]
 refine wpAny_bind (LV pl (wpAny_bind (LV pu (wpAny_bind (wpAny_pure ?_)))))
 show wpAny _ _ (match Builtin.Slice.sliceAdjust lo hi 1 (n:Int) with |(lo,hi)=>pure (lo,(1:Int),Builtin.Slice.slicePlaces lo hi 1)) _ _ s
 rw [RY lo hi n]
 show wpAny _ _ (pure (((sIx n 0 lo:Nat):Int),(1:Int),Builtin.Slice.slicePlaces ((sIx n 0 lo:Nat):Int) ((sIx n n hi:Nat):Int) 1)) _ _ s
 rw [RZ]
 exact wpAny_pure h
theorem R0 (xs:Array Value) (i k:Nat):((List.range k).filterMap fun (m:Nat)=>xs[((i:Int)+(m:Int)*1).toNat]?).toArray=((xs.toList.drop i).take k).toArray:=by
 have e:(fun (m:Nat)=>xs[((i:Int)+(m:Int)*1).toNat]?)=fun m=>xs[i+m]?:=by
  funext m
  have:((i:Int)+(m:Int)*1).toNat=i+m:=by omega
  rw [this]
 rw [e]
 have:=pick_run xs i k
 rw [List.filterMap_map] at this
 have e2:((fun x=>xs[x]?)∘fun x=>i+x)=fun m=>xs[i+m]?:=rfl
 rw [e2] at this
 rw [this]
theorem getItem_tuple_cut {t sl:Addr} {items:Array Value} {vl vu:Value} {lo hi:Option Int} {Q:Value→Shared→Prop} (ht:IsTup s.heap t items) (hs:s.heap.IsSliceOf sl vl vu .none) (pl:IsPart vl lo) (pu:IsPart vu hi)
 (hw:¬(sIx items.size 0 lo=0∧sIx items.size items.size hi=items.size))
 (h:Q (.ref s.heap.objs.size) {s with heap:=s.heap.push {cls:=.type "tuple",data:=.seq ((items.toList.drop (sIx items.size 0 lo)).take (sIx items.size items.size hi - sIx items.size 0 lo)).toArray}})
 (hsz:items.size≤sizeLine):wpAny (model prog w) A (getItem (.ref t) (.ref sl)) Q E s:=by
 have htake:sizeOk (.seq ((items.toList.drop (sIx items.size 0 lo)).take (sIx items.size items.size hi - sIx items.size 0 lo)).toArray):=by
  show ((items.toList.drop (sIx items.size 0 lo)).take (sIx items.size items.size hi - sIx items.size 0 lo)).toArray.size≤sizeLine
  rw [AZ,FW,FX,Array.length_toList]
  omega
 have hj:sIx items.size items.size hi≤items.size:=sIx_le _ _ (Ap _) hi
 obtain ⟨os,hos,hcs,hds⟩:=id hs
 have hTs:s.TypeIs (.ref sl) "slice":=⟨os,hos,hcs⟩
 unfold getItem
 try with_reducible refine wpAny_holding ?_
 first |refine wpAny_bind (wpAny_pure ?_) |skip
 refine wpAny_bind (wpAny_sequenceKey ht.typeIs (by decide) ?_)
 refine wpAny_bind (wpAny_callSpecial?_slot (name:=Str.ofString "__getitem__") ht.typeIs PyProof.Rows.slot_tuple_getitem
  (wpAny_call_entry PyProof.Rows.slot_tuple_getitem ht.typeIs entry_tuple_getitem ?_ (args_tuple_getitem _ _)))
 show wpAny _ _ (Builtin.Tuple.tupleItemsOf (.ref t) >>=_) _ _ s
 refine wpAny_bind (tupleItemsOf_ ht ?_)
 refine wpAny_bind (wpAny_typeOf hTs ?_)
 rw [if_pos (by decide)]
 refine wpAny_bind (sliceApplied_gen hs pl pu ?_)
 have hno:¬((((sIx items.size 0 lo:Nat):Int)==0&&(1:Int)==1&&(sIx items.size items.size hi - sIx items.size 0 lo)==items.size)=true):=by
  intro q
  rw [BW,BW] at q
  have q1:((sIx items.size 0 lo:Nat):Int)=0:=eq_of_beq q.1.1
  have q2:sIx items.size items.size hi - sIx items.size 0 lo=items.size:=eq_of_beq q.2
  exact hw ⟨by omega,by omega⟩
 show wpAny _ _ (if (((sIx items.size 0 lo:Nat):Int)==0&&(1:Int)==1&&(sIx items.size items.size hi - sIx items.size 0 lo)==items.size)=true then _ else _) _ _ s
 rw [if_neg hno,R0]
 first
  |exact wpAny_bind (m:=Builtin.Tuple.tupleExact _) (wpAny_newObj_type (wpAny_pure ⟨_,rfl,wpAny_pure h⟩) htake)
  |exact wpAny_bind (m:=Builtin.Tuple.tupleExact _) (wpAny_newObj_type (wpAny_bind (wpAny_pure (wpAny_pure ⟨_,rfl,wpAny_pure h⟩))) htake)
  |exact wpAny_bind (wpAny_bind (m:=Builtin.Tuple.tupleExact _) (wpAny_newObj_type (wpAny_pure (wpAny_pure ⟨_,rfl,wpAny_pure h⟩)) htake))
  |exact wpAny_bind (wpAny_bind (m:=Builtin.Tuple.tupleExact _) (wpAny_newObj_type (wpAny_pure ⟨_,rfl,wpAny_pure h⟩) htake))
end
end HT
namespace L2
open PySem PySem.Spec PyProof.Rows
abbrev TO:=St→Hp→(Option Int→Hp→Prop)→Prop
def PO (X:Cx) (e:Option Expr) (t:TO):Prop:=
 ∀(pins:List (Addr×Obj)) (s:Shared) (σ:St) (H:Hp) (Q:Option Int→Hp→Prop),Inv X pins σ H s→t σ H Q→
  wpAny (model X.prog X.w) X.A (evalPart e X.env) (fun u s'=>∃o H',Inv X pins σ H' s'∧IsPart u o∧Q o H') X.xe s
def R1:TO:=fun _ H Q=>Q none H
def R3 (t:TE):TO:=fun σ H Q=>t σ H fun x H1=>∃i,x=.int i∧Q (some i) H1
section
variable {X:Cx} {e:Expr} {te:TE} {lo hi:Option Expr} {tl th:TO} {pos p2:Pos}
theorem R4:PO X none R1:=by
 intro pins s σ H Q I h
 rw [evalPart_none]
 exact wpAny_pure ⟨none,H,I,.none,h⟩
theorem R5 (h:PE X e te):PO X (some e) (R3 te):=by
 intro pins s σ H Q I hw
 rw [evalPart_some]
 refine Ak (h pins s σ H _ I hw) fun u s1 z84_=>?_
 obtain ⟨x,H1,I1,r1,q1⟩:=z84_
 obtain ⟨i,rfl,q⟩:=q1
 obtain ⟨t,rfl⟩:=r1
 exact ⟨some i,H1,I1,.int i t,q⟩
def SlR (X:Cx) (r:V→Option Int→Option Int→Hp→VK→Prop):Prop:=
 ∀(pins:List (Addr×Obj)) (s:Shared) (σ:St) (H:Hp) (x:V) (v vl vu:Value) (lo hi:Option Int) (sl:Addr) (Q:VK),Inv X pins σ H s→RelV x v→s.heap.IsSliceOf sl vl vu .none→IsPart vl lo→IsPart vu hi→r x lo hi H Q→
  ∃T id,typeLookup (.type T) "__getitem__"=pure (some (.builtin id))∧s.TypeIs v T∧wpAny (model X.prog X.w) X.A (getItem v (.ref sl)) (EP X pins σ Q) X.xe s
theorem SlR.or {r r':V→Option Int→Option Int→Hp→VK→Prop} (h:SlR X r) (h':SlR X r'):SlR X (fun x lo hi H Q=>r x lo hi H Q∨r' x lo hi H Q):=by
 intro pins s σ H x v vl vu lo hi sl Q I rx hs pl pu q
 rcases q with q |q
 ·exact h pins s σ H x v vl vu lo hi sl Q I rx hs pl pu q
 ·exact h' pins s σ H x v vl vu lo hi sl Q I rx hs pl pu q
def R6 (r:V→Option Int→Option Int→Hp→VK→Prop) (te:TE) (tl th:TO):TE:=fun σ H Q=>te σ H fun x H1=>tl σ H1 fun l H2=>th σ H2 fun u H3=>r x l u H3 Q
theorem LW {r:V→Option Int→Option Int→Hp→VK→Prop} (hr:SlR X r) (he:PE X e te) (hl:PO X lo tl) (hu:PO X hi th):PE X (.Subscript e (.Slice lo hi none p2) pos) (R6 r te tl th):=by
 intro pins s σ H Q I h
 refine Subscript_ (Ak (he pins s σ H _ I h) fun v s1 z85_=>?_)
 obtain ⟨x,H1,I1,r1,q1⟩:=z85_
 refine wpAny_Slice (Ak (hl pins s1 σ H1 _ I1 q1) ?_)
 rintro vl s2 ⟨l,H2,I2,pl,q2⟩
 refine Ak (hu pins s2 σ H2 _ I2 q2) fun vu s3 z87_=>?_
 obtain ⟨u,H3,I3,pu,q3⟩:=z87_
 rw [evalPart_none]
 refine wpAny_pure ?_
 have I4:Inv X pins σ H3 {s3 with heap:=s3.heap.push {cls:=.type "slice",data:=.fields #[vl,vu,.none]}}:=I3.kept (t':=s3.toks) fun b ob q=>AH _ q
 obtain ⟨T,id,hT,ht,hg⟩:=hr pins {s3 with heap:=s3.heap.push {cls:=.type "slice",data:=.fields #[vl,vu,.none]}} σ H3 x v vl vu l u s3.heap.objs.size Q I4 r1 (Heap.IsSliceOf.new ..) pl pu q3
 show wpAny (model X.prog X.w) X.A (subscriptTail e (.Slice lo hi none p2) v (.ref s3.heap.objs.size)) (EP X pins σ Q) X.xe {s3 with heap:=s3.heap.push {cls:=.type "slice",data:=.fields #[vl,vu,.none]}}
 exact tail_any (ops:=[.ref s3.heap.objs.size,v]) ht hT hg (by with_unfolding_all rfl)
def E4 (xs:List V) (lo hi:Option Int):List V:=(xs.drop (HT.sIx xs.length 0 lo)).take (HT.sIx xs.length xs.length hi - HT.sIx xs.length 0 lo)
theorem R7 (xs:List V) (lo hi:Option Int):(E4 xs lo hi).length≤xs.length:=by
 unfold E4
 rw [FW,FX]
 omega
def R8 (K:PySem.W.Frag):V→Option Int→Option Int→Hp→VK→Prop:=fun x lo hi H Q=>∃a xs,x=.ref a∧SqT K H a xs∧
 ¬(HT.sIx xs.length 0 lo=0∧HT.sIx xs.length xs.length hi=xs.length)∧∀p,H p=none→Q (.ref p) (Ai H p (.tup (E4 xs lo hi)))
theorem R9:SlR X (R8 X.K):=by
 intro pins s σ H x v vl vu lo hi sl Q I rx hs pl pu h
 obtain ⟨a,xs,rfl,hx,hw,q⟩:=h
 cases rx
 obtain ⟨its,r,ht,hz⟩:=I.tuple hx
 have hlen:its.toArray.size=xs.length:=by rw [AZ];exact r.length.symm
 refine ⟨"tuple",_,PyProof.Rows.slot_tuple_getitem.lookup,ht.typeIs,?_⟩
 refine HT.getItem_tuple_cut ht hs pl pu (by rw [hlen];exact hw) ?_ (by rw [hlen];exact hz)
 rw [hlen]
 refine ⟨.ref s.heap.objs.size,_,I.laid (t':=s.toks) (o:=.tup (E4 xs lo hi)) (fun b ob q=>AH _ q) (Ap _) ?_,rfl,q _ (I.hok.fresh (Ap _))⟩
 exact ⟨Bc (R7 xs lo hi) hz,_,(r.drop (HT.sIx xs.length 0 lo)).take (HT.sIx xs.length xs.length hi - HT.sIx xs.length 0 lo),IsTup.new _ _,NoDict.new⟩
def Sa (K:PySem.W.Frag):R2:=fun x y H Q=>∃a b xs ys,x=.ref a∧y=.ref b∧SqT K H a xs∧SqT K H b ys∧xs≠[]∧xs.length+ys.length≤sizeLine∧
 (ys=[]→Q (.ref a) H)∧(ys≠[]→∀p,H p=none→Q (.ref p) (Ai H p (.tup (xs++ys))))
theorem Vals.nil_iff {xs:List V} {us:List Value} (r:Vals xs us):us=[]↔xs=[]:=by
 cases r with
 |nil=>simp
 |cons _ _=>simp
theorem op_catT:OpR X (binaryOp .Add) (Sa X.K):=by
 intro pins s σ H x y v u Q I rx ry h
 obtain ⟨a,b,xs,ys,rfl,rfl,ha,hb,hx,hz,q1,q2⟩:=h
 cases rx
 cases ry
 obtain ⟨its,r1,p1,_⟩:=I.tuple ha
 obtain ⟨its2,r2,p2,_⟩:=I.tuple hb
 refine HT.cat_tup p1 p2 (fun z=>hx (r1.nil_iff.mp z)) (fun z=>⟨.ref a,H,I,rfl,q1 (r2.nil_iff.mp z)⟩) (fun z=>?_) (by rw [←r1.length,←r2.length];exact hz)
 refine ⟨.ref s.heap.objs.size,_,I.laid (t':=s.toks) (o:=.tup (xs++ys)) (fun b ob q=>AH _ q) (Ap _) ?_,rfl,q2 (fun w=>z (r2.nil_iff.mpr w)) _ (I.hok.fresh (Ap _))⟩
 exact ⟨by rw [DH];exact hz,_,r1.append r2,IsTup.new _ _,NoDict.new⟩
end
def Cb (n:Nat) (i:Int):Option Nat:=if 0≤i then (if i<n then some i.toNat else none) else if -(n:Int)≤i then some (i+n).toNat else none
def Bx {α:Type} (xs:List α) (i:Int):Option α:=(Cb xs.length i).bind fun j=>xs[j]?
theorem LY {n:Nat} {i:Int} {j:Nat} (h:Cb n i=some j):seqIndex? i n=some j∧j<n∧-(n:Int)≤i∧i<n:=by
 unfold Cb at h
 by_cases h0:0≤i
 ·rw [if_pos h0] at h
  by_cases h1:i<n
  ·rw [if_pos h1] at h
   have e:i.toNat=j:=Option.some.inj h
   exact ⟨by rw [seqIndex_of h0 h1,e],by omega,by omega,h1⟩
  ·rw [if_neg h1] at h;cases h
 ·rw [if_neg h0] at h
  by_cases h1:-(n:Int)≤i
  ·rw [if_pos h1] at h
   have e:(i+n).toNat=j:=Option.some.inj h
   exact ⟨by rw [seqIndex_neg (by omega) h1,e],by omega,h1,by omega⟩
  ·rw [if_neg h1] at h;cases h
theorem JF {α:Type} {xs:List α} {i:Int} {v:α} (h:Bx xs i=some v):∃j,seqIndex? i xs.length=some j∧xs[j]?=some v∧j<xs.length∧-(xs.length:Int)≤i∧i<xs.length:=by
 unfold Bx at h
 cases e:Cb xs.length i with
 |none=>rw [e] at h;cases h
 |some j=>
  rw [e] at h
  obtain ⟨h1,h2,h3,h4⟩:=LY e
  exact ⟨j,h1,h,h2,h3,h4⟩
def JG (b:Expr):Prop:=∀o i,subscripted b false o i=operate [o,i] (getItem o i)
def IxR (X:Cx) (r:R2):Prop:=
 ∀(value slice:Expr) (pins:List (Addr×Obj)) (s:Shared) (σ:St) (H:Hp) (x y:V) (v u:Value) (Q:VK),Inv X pins σ H s→RelV x v→RelV y u→r x y H Q→
  subscripted slice false v u=operate [v,u] (getItem v u)→wpAny (model X.prog X.w) X.A (subscriptTail value slice v u) (EP X pins σ Q) X.xe s
def JH (X:Cx) (id:String) (r:V→List V→Hp→VK→Prop):Prop:=
 ∀(pins:List (Addr×Obj)) (s:Shared) (σ:St) (H:Hp) (x:V) (xs:List V) (v:Value) (us:List Value) (Q:VK),Inv X pins σ H s→RelV x v→Vals xs us→r x xs H Q→
  wpAny (model X.prog X.w) X.A (call (.builtin id) (v::us)) (EP X pins σ Q) X.xe s
section
variable {X:Cx} {a b:Expr} {ta tb:TE} {pos:Pos}
theorem IxR.or {r r':R2} (h:IxR X r) (h':IxR X r'):IxR X (fun x y H Q=>r x y H Q∨r' x y H Q):=by
 intro value slice pins s σ H x y v u Q I rx ry q hs
 rcases q with q |q
 ·exact h value slice pins s σ H x y v u Q I rx ry q hs
 ·exact h' value slice pins s σ H x y v u Q I rx ry q hs
theorem LZ {r:R2} (hr:IxR X r) (ha:PE X a ta) (hb:PE X b tb) (hs:JG b):PE X (.Subscript a b pos) (G9 r ta tb):=by
 intro pins s σ H Q I h
 exact Subscript_ (Jw ha hb I h fun v u s2 x y H2 I2 rx ry q=>hr a b pins s2 σ H2 x y v u Q I2 rx ry q (hs _ _))
def Sb (K:PySem.W.Frag):R2:=fun x y H Q=>∃p xs i v,x=.ref p∧y=.int i∧SqL K H p xs∧Bx xs i=some v∧Q v H
def Se (K:PySem.W.Frag):R2:=fun x y H Q=>∃p xs i v,x=.ref p∧y=.int i∧SqT K H p xs∧Bx xs i=some v∧Q v H
def Sg:R2:=fun x y H Q=>∃z i c,x=.str z∧y=.int i∧z.length≤sizeLine∧Bx z.cps.toList i=some c∧Q (.str ⟨#[c]⟩) H
theorem ix_list:IxR X (Sb X.K):=by
 intro value slice pins s σ H x y v u Q I rx ry h hs
 obtain ⟨p,xs,i,z,rfl,rfl,hq,he,q⟩:=h
 cases rx
 obtain ⟨t,rfl⟩:=ry
 obtain ⟨its,r,pl,hz⟩:=I.list hq
 obtain ⟨j,h1,h2,h3,h4,h5⟩:=JF he
 obtain ⟨w,ew,rw'⟩:=r.get h2
 have hl:=r.length
 have hn:=Ed
 have Ao:EP X pins σ Q w s:=⟨z,H,I,rw',q⟩
 by_cases h0:0≤i
 ·have hj:i.toNat=j:=by
   rw [seqIndex_of h0 h5] at h1
   exact Option.some.inj h1
  exact item_listR pl.isList h0 (by omega) (by rw [hj];simpa using ew) Ao hs
 ·have hj:(i+(its.toArray.size:Int)).toNat=j:=by
   rw [seqIndex_neg (by omega) h4] at h1
   rw [AZ,←hl]
   exact Option.some.inj h1
  exact subscriptTail_builtinR (x:=w) pl.isList.typeIs slot_list_getitem.lookup
   (wpAny_getItem_list_neg (Q:=fun r s'=>r=w∧EP X pins σ Q r s') pl.isList (by omega) (by rw [AZ]<;>omega) (by omega) (by rw [hj];simpa using ew) ⟨rfl,Ao⟩) hs
theorem ix_tup:IxR X (Se X.K):=by
 intro value slice pins s σ H x y v u Q I rx ry h hs
 obtain ⟨p,xs,i,z,rfl,rfl,hq,he,q⟩:=h
 cases rx
 obtain ⟨t,rfl⟩:=ry
 obtain ⟨its,r,pl,hz⟩:=I.tuple hq
 obtain ⟨j,h1,h2,h3,h4,h5⟩:=JF he
 obtain ⟨w,ew,rw'⟩:=r.get h2
 have hl:=r.length
 have hn:=Ed
 have Ao:EP X pins σ Q w s:=⟨z,H,I,rw',q⟩
 exact subscriptTail_builtinR (x:=w) pl.typeIs slot_tuple_getitem.lookup
  (getItem_tuple (j:=j) (Q:=fun r s'=>r=w∧EP X pins σ Q r s') pl (by omega) (by omega) (by rw [AZ,←hl];exact h1) (by simpa using ew) ⟨rfl,Ao⟩) hs
theorem Sh:IxR X Sg:=by
 intro value slice pins s σ H x y v u Q I rx ry h hs
 obtain ⟨z,i,c,rfl,rfl,hz,he,q⟩:=h
 obtain ⟨t,rfl⟩:=rx
 obtain ⟨t',rfl⟩:=ry
 obtain ⟨j,h1,h2,h3,h4,h5⟩:=JF he
 have hl:z.cps.toList.length=z.length:=by simp [Str.length]
 rw [hl] at h1 h4 h5
 have hn:=Ed
 exact tail_any (typeIs_str s z t) slot_str_getitem.lookup (getItem_str (c:=c) (by
  have e1:decide (i < -(2^63:Int))=false:=decide_eq_false (by omega)
  have e2:decide (i≥2^63)=false:=decide_eq_false (by omega)
  rw [e1,e2,Bool.or_false]) (by rw [h1];simpa using h2) ⟨.str ⟨#[c]⟩,H,I.tok _,⟨_,rfl⟩,q⟩) hs
theorem Si (its:List Value) (n j:Nat) (u:Value):Obj.mapSeq (·.setIfInBounds j u) {cls:=.type "list",data:=.seq its.toArray n}={cls:=.type "list",data:=.seq (its.set j u).toArray n}:=by
 simp [Obj.mapSeq]
theorem Inv.lst {pins:List (Addr×Obj)} {σ:St} {H:Hp} {s:Shared} {p:Addr} {xs:List V} (I:Inv X pins σ H s) (h:H p=some (.lst xs)):
 ∃(its:List Value) (n:Nat),Vals xs its∧s.heap.get? p=some {cls:=.type "list",data:=.seq its.toArray n}∧xs.length≤sizeLine:=by
 obtain ⟨z,its,n,r,e⟩:=I.hok p _ h
 exact ⟨its,n,r,e,z⟩
theorem Inv.lstUpd {pins:List (Addr×Obj)} {σ:St} {H:Hp} {s:Shared} {p:Addr} {xs ys:List V} {its its':List Value} {n n':Nat} {f:Obj→Obj} (I:Inv X pins σ H s) (h:H p=some (.lst xs))
 (ho:s.heap.get? p=some {cls:=.type "list",data:=.seq its.toArray n}) (hf:f {cls:=.type "list",data:=.seq its.toArray n}={cls:=.type "list",data:=.seq its'.toArray n'}) (r:Vals ys its') (hz:ys.length≤sizeLine) (t:Nat):
 Inv X pins σ (Ai H p (.lst ys)) {s with heap:=s.heap.update p f,toks:=t}:=by
 have e:(s.heap.update p f).get? p=some {cls:=.type "list",data:=.seq its'.toArray n'}:=by
  rw [Heap.get?_update_self f ho (by rw [hf]<;>rfl),hf]
 refine I.write (x:=p) (e:=p) (by rw [h];trivial) (.inl rfl) (fun b u hb q=>(Jl _ _ (Ne.symm hb)).trans q) ⟨_,e⟩ ?_
 exact ⟨hz,its',n',r,e⟩
def Sj:V→V→V→Hp→(Hp→Prop)→Prop:=fun o i v H Q=>∃p xs k j,o=.ref p∧i=.int k∧H p=some (.lst xs)∧Cb xs.length k=some j∧Q (Ai H p (.lst (xs.set j v)))
theorem Sk:Lz X Sj:=by
 intro pins s σ H o i v ov iv u Q I ro ri rv h
 obtain ⟨p,xs,k,j,rfl,rfl,hp,hj,q⟩:=h
 cases ro
 obtain ⟨t,rfl⟩:=ri
 obtain ⟨its,n,r,ho,hz⟩:=I.lst hp
 obtain ⟨h1,h2,h3,h4⟩:=LY hj
 have hl:=r.length
 have hn:=Ed
 have I':Inv X pins σ (Ai H p (.lst (xs.set j v))) {s with heap:=s.heap.update p (Obj.mapSeq (·.setIfInBounds j u))}:=
  I.lstUpd hp ho (Si its n j u) (r.set rv j) (by rw [List.length_set];exact hz) s.toks
 by_cases h0:0≤k
 ·have hk:k.toNat=j:=by
   rw [seqIndex_of h0 h4] at h1
   exact Option.some.inj h1
  exact PySem.W.ki_setAt ho h0 (by omega) (by rw [AZ,←hl];exact h4) (by rw [hk];exact ⟨_,I',q⟩)
 ·have hk:(k+(its.toArray.size:Int)).toNat=j:=by
   rw [seqIndex_neg (by omega) h3] at h1
   rw [AZ,←hl]
   exact Option.some.inj h1
  exact PySem.W.ki_setBack ho (by omega) (by rw [AZ,←hl];exact h3) (by omega) (by rw [hk];exact ⟨_,I',q⟩)
def CF:V→Bool
 |.non=>true
 |.bl _=>true
 |.int _=>true
 |.str _=>true
 |_=>false
def CQ:V→V→Bool
 |.non,.non=>true
 |.bl a,.bl b=>a==b
 |.bl a,.int b=>(if a then 1 else 0)==b
 |.int a,.bl b=>a==(if b then 1 else 0)
 |.int a,.int b=>a==b
 |.str a,.str b=>a==b
 |_,_=>false
theorem Sl {A:Around} {s:Shared} {y x:V} {u v:Value} (ry:RelV y u) (rx:RelV x v) (fy:CF y=true) (fx:CF x=true):SeqAt.EqAt A s u v (CQ y x):=by
 cases y with
 |non=>
  cases ry
  cases x with
  |non=>cases rx;exact SeqAt.EqAt.same _
  |bl b=>cases rx;exact SeqAt.EqAt.none_bool b
  |int b=>obtain ⟨t,rfl⟩:=rx;exact SeqAt.EqAt.none_int b t
  |str b=>obtain ⟨t,rfl⟩:=rx;exact SeqAt.EqAt.none_str b t
  |_=>exact absurd (show false=true from fx) Bo
 |bl a=>
  cases ry
  cases x with
  |non=>cases rx;exact SeqAt.EqAt.bool_none a
  |bl b=>cases rx;exact SeqAt.EqAt.bool_bool a b
  |int b=>obtain ⟨t,rfl⟩:=rx;exact SeqAt.EqAt.bool_int a b t
  |str b=>obtain ⟨t,rfl⟩:=rx;exact SeqAt.EqAt.bool_str a b t
  |_=>exact absurd (show false=true from fx) Bo
 |int a=>
  obtain ⟨t',rfl⟩:=ry
  cases x with
  |non=>cases rx;exact SeqAt.EqAt.int_none a t'
  |bl b=>cases rx;exact SeqAt.EqAt.int_bool a t' b
  |int b=>obtain ⟨t,rfl⟩:=rx;exact SeqAt.EqAt.int_int a t' b t
  |str b=>obtain ⟨t,rfl⟩:=rx;exact SeqAt.EqAt.int_str a t' b t
  |_=>exact absurd (show false=true from fx) Bo
 |str a=>
  obtain ⟨t',rfl⟩:=ry
  cases x with
  |non=>cases rx;exact SeqAt.EqAt.str_none a t'
  |bl b=>cases rx;exact SeqAt.EqAt.str_bool a t' b
  |int b=>obtain ⟨t,rfl⟩:=rx;exact SeqAt.EqAt.str_int a t' b t
  |str b=>obtain ⟨t,rfl⟩:=rx;exact SeqAt.EqAt.str_str a t' b t
  |_=>exact absurd (show false=true from fx) Bo
 |_=>exact absurd (show false=true from fy) Bo
def Ef (x:V) (u:Value):Bool:=match u with
 |.none=>CQ .non x
 |.bool b=>CQ (.bl b) x
 |.int i _=>CQ (.int i) x
 |.str z _=>CQ (.str z) x
 |_=>false
theorem JI {x y:V} {u:Value} (r:RelV y u) (f:CF y=true):Ef x u=CQ y x:=by
 cases y with
 |non=>cases r;rfl
 |bl b=>cases r;rfl
 |int i=>obtain ⟨t,rfl⟩:=r;rfl
 |str z=>obtain ⟨t,rfl⟩:=r;rfl
 |_=>exact absurd (show false=true from f) Bo
theorem JJ {A:Around} {s:Shared} {x:V} {v:Value} (rx:RelV x v) (fx:CF x=true):∀{xs:List V} {us:List Value},Vals xs us→xs.all CF=true→∀u∈us,SeqAt.EqAt A s u v (Ef x u)
 |_,_,.nil,_=>fun u hu=>by cases hu
 |y::xs,u::us,.cons r t,f=>fun u' hu=>by
  rw [List.all_cons,BW] at f
  rcases qaB.mp hu with rfl |hu
  ·rw [JI r f.1];exact Sl r rx f.1 fx
  ·exact JJ rx fx t f.2 u' hu
def Hf (x:V) (xs:List V):Bool:=xs.any fun y=>CQ y x
def Zc (K:PySem.W.Frag) (neg:Bool):R2:=fun x y H Q=>∃p xs,y=.ref p∧(SqL K H p xs∨SqT K H p xs)∧CF x=true∧xs.all CF=true∧Q (.bl (if neg then !Hf x xs else Hf x xs)) H
theorem Sn:B1 X (.builtin "len") (fun xs H Q=>∃p ys,xs=[.ref p]∧(SqL X.K H p ys∨SqT X.K H p ys)∧Q (.int ys.length) H):=by
 intro pins s σ H xs us Q I r h
 obtain ⟨p,ys,rfl,hq,q⟩:=h
 obtain ⟨u,rfl,rx⟩:=Dl r
 cases rx
 have hn:=Ed
 rcases hq with hq |hq
 ·obtain ⟨its,r',pl,hz⟩:=I.list hq
  have hlen:=r'.length
  exact Calls.call_len_list pl.isList (by simp only [AZ]<;>omega) ⟨.int ys.length,H,I.tok _,⟨s.toks+1,by rw [AZ,hlen]⟩,q⟩
 ·obtain ⟨its,r',pl,hz⟩:=I.tuple hq
  have hlen:=r'.length
  exact len_tuple pl (by simp only [AZ]<;>omega) ⟨.int ys.length,H,I.tok _,⟨s.toks+1,by rw [AZ,hlen]⟩,q⟩
theorem So:B1 X (.type "list") (fun xs H Q=>∃p ys,xs=[.ref p]∧(SqL X.K H p ys∨SqT X.K H p ys)∧∀l,H l=none→Q (.ref l) (Ai H l (.lst ys))):=by
 intro pins s σ H xs us Q I r h
 obtain ⟨p,ys,rfl,hq,q⟩:=h
 obtain ⟨u,rfl,rx⟩:=Dl r
 cases rx
 have Ao:∀(its:List Value),Vals ys its→ys.length≤sizeLine→∀(h':Heap) (c':Nat),(∀b o',s.heap.get? b=some o'→h'.get? b=some o')→
  h'.get? s.heap.objs.size=some {cls:=.type "list",dict:=none,data:=.seq its.toArray c',slots:=#[]}→EP X pins σ Q (.ref s.heap.objs.size) {s with heap:=h'}:=fun its r' hz h' c' kp e=>
  ⟨.ref s.heap.objs.size,_,I.laid (t':=s.toks) kp (Ap _) (show ObjOk X.prog X.w _ h' _ (.lst ys) from ⟨hz,its,c',r',e⟩),rfl,q _ (I.hok.fresh (Ap _))⟩
 rcases hq with hq |hq
 ·obtain ⟨its,r',pl,hz⟩:=I.list hq
  have hlen:=r'.length
  obtain ⟨o,ho,hc,n,hd⟩:=pl.isList
  exact call_list_seq p (.inl rfl) ho hc hd (fun h' c' kp e=>Ao its r' hz h' c' kp e) (by simp only [AZ]<;>omega)
 ·obtain ⟨its,r',pl,hz⟩:=I.tuple hq
  have hlen:=r'.length
  obtain ⟨o,ho,hc,n,hd⟩:=pl
  exact call_list_seq p (.inr rfl) ho hc hd (fun h' c' kp e=>Ao its r' hz h' c' kp e) (by simp only [AZ]<;>omega)
theorem Sq:B1 X (.type "tuple") (fun xs H Q=>∃p ys,xs=[.ref p]∧((SqL X.K H p ys∧∀l,H l=none→Q (.ref l) (Ai H l (.tup ys)))∨(SqT X.K H p ys∧Q (.ref p) H))):=by
 intro pins s σ H xs us Q I r h
 obtain ⟨p,ys,rfl,h⟩:=h
 obtain ⟨u,rfl,rx⟩:=Dl r
 cases rx
 rcases h with ⟨hq,q⟩ |⟨hq,q⟩
 ·obtain ⟨its,r',pl,hz⟩:=I.list hq
  have hlen:=r'.length
  refine call_tuple_list pl.isList (fun h' kp=>?_) (by simp only [AZ]<;>omega)
  have I1:Inv X pins σ H {s with heap:=h'}:=I.kept (t':=s.toks) kp
  have I2:Inv X pins σ (Ai H h'.objs.size (.tup ys)) {s with heap:=h'.push {cls:=.type "tuple",data:=.seq its.toArray}}:=
   I1.laid (t':=s.toks) (fun b o e=>AH _ e) (Ap _) (show ObjOk X.prog X.w _ _ _ (.tup ys) from ⟨hz,its,r',IsTup.new _ _,NoDict.new⟩)
  exact ⟨.ref h'.objs.size,_,I2,rfl,q _ (I1.hok.fresh (Ap _))⟩
 ·obtain ⟨its,r',pl,hz⟩:=I.tuple hq
  exact call_tuple_same pl ⟨.ref p,H,I,rfl,q⟩
def L4 (K:PySem.W.Frag) (T:String) (x:V) (H:Hp):Prop:=match x with
 |.str _=>T="str"
 |.int _=>T="int"
 |.ref p=>(T="list"∧∃xs,SqL K H p xs)∨(T="tuple"∧∃o,K.lookup p=some o∧o.cls=.type "tuple"∧o.dict=none)
 |_=>False
theorem JK {pins:List (Addr×Obj)} {σ:St} {H:Hp} {s:Shared} {T:String} {x:V} {v:Value} (I:Inv X pins σ H s) (r:RelV x v) (ty:L4 X.K T x H):
 s.TypeIs v T∧∀a,v=.ref a→∃ob,s.heap.get? a=some ob∧ob.dict=none:=by
 cases x with
 |str z=>
  obtain ⟨t,rfl⟩:=r
  cases (show T="str" from ty)
  exact ⟨typeIs_str s z t,fun _ e=>nomatch e⟩
 |int i=>
  obtain ⟨t,rfl⟩:=r
  cases (show T="int" from ty)
  exact ⟨typeIs_int s i t,fun _ e=>nomatch e⟩
 |ref p=>
  cases r
  rcases ty with ⟨rfl,xs,hq⟩ |⟨rfl,o,hk,hc,hd⟩
  ·obtain ⟨its,_,pl,_⟩:=I.list hq
   refine ⟨pl.isList.typeIs,fun a e=>?_⟩
   cases e
   obtain ⟨o,n,e,c,hd,_⟩:=pl
   exact ⟨o,e,hd⟩
  ·refine ⟨⟨o,I.kIn p o hk,hc⟩,fun a e=>?_⟩
   cases e
   exact ⟨o,I.kIn _ o hk,hd⟩
 |_=>exact False.elim ty
def Sr (K:PySem.W.Frag) (T:String) (r:V→List V→Hp→VK→Prop) (to:TE) (t:TA):TE:=fun σ H Q=>to σ H fun x H1=>L4 K T x H1∧t σ H1 fun xs H2=>r x xs H2 Q
variable {o e:Expr} {es:List Expr} {to:TE} {t:TA} {name:Str} {apos cpos:Pos} {T id:String} {r:V→List V→Hp→VK→Prop}
theorem Ss (pa:PlainAttrs T) (slot:Slot T name id) (hty:typeOf (.builtin id)=pure (.type "method_descriptor")) (hm:JH X id r) (ho:PE X o to) (ha:PA X (e::es) t)
 (hbase:attributeBase o name X.env (eval o X.env)=eval o X.env:=by rfl)
 (hfew:((backTo cpos (starEach (e::es) X.env)).all (fun x=>!x.1)&&(backToKw cpos (keywordEach [] X.env)).all (fun x=>x.1.isSome)
  &&decide ((e::es).length+([]:List Keyword).length+(if ([]:List Keyword).isEmpty then 0 else 1)<30))=true:=by rfl)
 (hline:(apos.endLine==cpos.line)=true:=by rfl) (hs:starEach (e::es) X.env=(false,eval e X.env)::starEach es X.env:=by rfl) (hplain:(backTo cpos (starEach es X.env)).any (·.1)=false:=by rfl):
 PE X (.Call (.Attribute o name apos) (e::es) [] cpos) (Sr X.K T r to t):=by
 intro pins s σ H Q I h
 refine wpAny_Call_method_late hbase hfew hline rfl (Ak (ho pins s σ H _ I h) fun v s1 z89_=>?_)
 obtain ⟨x,H1,I1,r1,ty,q1⟩:=z89_
 obtain ⟨h1,h2⟩:=JK I1 r1 ty
 refine ⟨T,id,pa,slot,hty,h1,h2,?_⟩
 have hA:=ha cpos pins s1 σ H1 _ I1 q1
 rw [hs] at hA ⊢
 refine Calls.callWith_builtin (by show (false||(backTo cpos (starEach es X.env)).any (·.1))=false;rw [hplain]<;>rfl) (Calls.evalArgs_plain ?_)
 exact Ak hA fun us s2 z90_=>by obtain ⟨vs,H2,I2,r2,q2⟩:=z90_;exact (hm pins s2 σ H2 x vs v us Q I2 r1 r2 q2)
end
def Su (X:Cx) (id:String) (r:V→List V→Hp→VK→Prop):Prop:=
 ∀(pins:List (Addr×Obj)) (s:Shared) (σ:St) (H:Hp) (x:V) (xs:List V) (v:Value) (us:List Value) (Q:VK),Inv X pins σ H s→RelV x v→Vals xs us→r x xs H Q→
  wpAny (model X.prog X.w) X.A (call (.builtin id) (v::us)) (EP X pins σ Q) X.xe s
theorem Vals.one {x:V} {us:List Value} (h:Vals [x] us):∃u,us=[u]∧RelV x u:=by
 cases h with
 |cons r t=>cases t;exact ⟨_,rfl,r⟩
theorem Vals.reverse {xs:List V} {us:List Value} (h:Vals xs us):Vals xs.reverse us.reverse:=by
 induction h with
 |nil=>exact .nil
 |cons r t ih=>rw [List.reverse_cons,List.reverse_cons];exact Vals.append ih (.cons r .nil)
theorem Vals.rep {xs:List V} {us:List Value} (h:Vals xs us):∀k:Nat,Vals (List.replicate k xs).flatten (List.replicate k us).flatten
 |0=>.nil
 |k+1=>by
  rw [DG,DG,D7,D7]
  exact Vals.append h (Vals.rep h k)
theorem Hg (its:List Value):∀(k:Nat) (acc:List Value),
 List.foldl (fun x1 x2=>x1++x2) acc.toArray (List.replicate k its.toArray)=(acc++(List.replicate k its).flatten).toArray
 |0,acc=>by simp
 |k+1,acc=>by
  have e:acc.toArray++its.toArray=(acc++its).toArray:=by simp
  have e2:(acc++its)++(List.replicate k its).flatten=acc++(List.replicate (k+1) its).flatten:=by
   rw [DG,D7,GS]
  rw [←e2,←Hg its k (acc++its),←e,DG,List.foldl_cons]
section
variable {X:Cx} {pins:List (Addr×Obj)} {σ:St} {H:Hp} {s:Shared} {l b:Addr} {xs ys zs:List V}
theorem Inv.lset {its its':List Value} {n:Nat} {f:Array Value→Array Value} {t':Nat} (I:Inv X pins σ H s) (hH:H l=some (.lst xs))
 (e:s.heap.get? l=some {cls:=.type "list",data:=.seq its.toArray n}) (hf:f its.toArray=its'.toArray) (hv:Vals ys its') (hz:ys.length≤sizeLine):
 Inv X pins σ (Ai H l (.lst ys)) {s with heap:=s.heap.update l (Obj.mapSeq f),toks:=t'}:=by
 have q:=PySem.IsL.update e f
 rw [hf] at q
 refine I.write (x:=l) (e:=l) (by rw [hH];exact trivial) (.inl rfl) (fun b' u hb hu=>(Jl s.heap (Obj.mapSeq f) (Ne.symm hb)).trans hu) ⟨_,q⟩ ?_
 exact ⟨hz,its',_,hv,q⟩
theorem Inv.lnew {its:List Value} {t':Nat} (I:Inv X pins σ H s) (hv:Vals ys its) (hz:ys.length≤sizeLine):
 Inv X pins σ (Ai H s.heap.objs.size (.lst ys)) {s with heap:=s.heap.push {cls:=.type "list",data:=.seq its.toArray},toks:=t'}:=
 I.laid (fun _ _ q=>AH _ q) (Ap _) ⟨hz,its,0,hv,Bf _ rfl⟩
theorem Inv.fresh (I:Inv X pins σ H s):H s.heap.objs.size=none:=I.hok.fresh (Ap _)
theorem Inv.lstM (I:Inv X pins σ H s) (hH:H l=some (.lst xs)):xs.length≤sizeLine∧∃(its:List Value) (n:Nat),Vals xs its∧xs.length=its.length∧s.heap.get? l=some {cls:=.type "list",data:=.seq its.toArray n}:=by
 obtain ⟨z,its,n,r,e⟩:=I.hok l _ hH
 exact ⟨z,its,n,r,r.length,e⟩
theorem Sv {n:Nat} (h:n≤sizeLine):Builtin.List.listTooLong n=false:=by
 unfold Builtin.List.listTooLong
 exact decide_eq_false (by omega)
end
section
variable {X:Cx}
def Sx:V→List V→Hp→VK→Prop:=fun x vs H Q=>∃l xs y,x=.ref l∧vs=[y]∧H l=some (.lst xs)∧xs.length<sizeLine∧Q .non (Ai H l (.lst (xs++[y])))
theorem Sy:Su X "list.append" Sx:=by
 intro pins s σ H x vs v us Q I rx rv h
 obtain ⟨l,xs,y,rfl,rfl,hH,hz,q⟩:=h
 cases rx
 obtain ⟨u,rfl,ru⟩:=rv.one
 obtain ⟨z,its,n,r,hl,e⟩:=I.lstM hH
 refine call_meets F.slot_list_append ⟨_,e,rfl⟩ F.entry_list_append (F.args_list_append_2 _ _) (PySem.list_append l its.toArray n u (by rw [AZ];omega)) ⟨e,?_⟩
 refine ⟨.non,_,I.lset (its':=its++[u]) hH e (by simp) (r.append (.cons ru .nil)) ?_,rfl,q⟩
 rw [DH,List.length_singleton]
 omega
def Sz:R2:=fun x y H Q=>∃l b xs zs,x=.ref l∧y=.ref b∧H l=some (.lst xs)∧H b=some (.lst zs)∧xs.length+zs.length≤sizeLine∧∀p,H p=none→Q (.ref p) (Ai H p (.lst (xs++zs)))
theorem op_cat:OpR X (binaryOp .Add) Sz:=by
 intro pins s σ H x y v u Q I rx ry h
 obtain ⟨l,b,xs,zs,rfl,rfl,hH,hB,hz,q⟩:=h
 cases rx
 cases ry
 obtain ⟨z,its,n,r,hl,e⟩:=I.lstM hH
 obtain ⟨z2,its2,n2,r2,hl2,e2⟩:=I.lstM hB
 refine PySem.P.add_list e e2 ?_ (by rw [AZ,AZ];omega)
 have ea:its.toArray++its2.toArray=(its++its2).toArray:=by simp
 rw [ea]
 exact ⟨.ref _,_,I.lnew (t':=s.toks) (r.append r2) (by rw [DH];omega),rfl,q _ I.fresh⟩
def SA:R2:=fun x y H Q=>∃l k xs,x=.ref l∧y=.int k∧H l=some (.lst xs)∧-(2^63)≤k∧k<2^63∧xs.length*k.toNat≤sizeLine∧
 ∀p,H p=none→Q (.ref p) (Ai H p (.lst (List.replicate k.toNat xs).flatten))
theorem Hh {α:Type} (xs:List α) (k:Nat):(List.replicate k xs).flatten.length=k*xs.length:=by
 induction k with
 |zero=>simp
 |succ k ih=>rw [DG,D7,DH,ih,EY,Nat.add_comm]
theorem SB:OpR X (binaryOp .Mult) SA:=by
 intro pins s σ H x y v u Q I rx ry h
 obtain ⟨l,k,xs,rfl,rfl,hH,h1,h2,hz,q⟩:=h
 cases rx
 obtain ⟨t,rfl⟩:=ry
 obtain ⟨z,its,n,r,hl,e⟩:=I.lstM hH
 have hlen:its.toArray.size*k.toNat≤sizeLine:=by rw [AZ,←hl];exact hz
 have hcap:¬its.toArray.size*k.toNat>(2^63 - 1) / 8:=by
  have:(sizeLine:Nat)≤(2^63 - 1) / 8:=by decide
  omega
 have hfit:¬(!Builtin.List.listFitsIndex k)=true:=by
  rw [fitsIndex_both h1 h2]
  exact Bo
 have hlong:¬Builtin.List.listTooLong (its.toArray.size*k.toNat)=true:=by
  rw [Sv hlen]
  exact Bo
 have hnew:List.foldl (fun x1 x2=>x1++x2) #[] (List.replicate (if its.toArray.isEmpty=true then 0 else k.toNat) its.toArray)=(List.replicate k.toNat its).flatten.toArray:=by
  have f0:∀m:Nat,List.foldl (fun x1 x2=>x1++x2) #[] (List.replicate m its.toArray)=(List.replicate m its).flatten.toArray:=fun m=>by
   have:=Hg its m []
   rw [FZ] at this
   exact this
  rw [f0]
  cases its with
  |nil=>simp
  |cons a r'=>rw [if_neg (by simp)]
 refine wpAny_binaryOp_repeat_ref (T:="list") (U:="int") (by decide) ⟨_,e,rfl⟩ (fun s'=>typeIs_int s' k t) noFill_list_mul F.fills_int_mul F.slot_int_rmul repeat_list F.slot_int_index.lookup
  (call_meets F.slot_int_rmul (typeIs_int s k t) F.entry_int_rmul (F.args_int_rmul_2 _ _) (int___rmul___int_list k t l its.toArray n)
   ⟨e,rfl,⟨_,e,rfl⟩,call_meets F.slot_list_mul ⟨_,e,rfl⟩ F.entry_list_mul (F.args_list_mul_2 _ _) (AutoListH.list___mul___list_int_3 l its.toArray n k t hfit hcap hlong) ⟨e,?_⟩⟩)
 rw [hnew]
 exact ⟨.ref _,_,I.lnew (t':=s.toks) (r.rep k.toNat) (by rw [Hh,Nat.mul_comm];exact hz),rfl,q _ I.fresh⟩
end
section
variable {prog:Program} {w:World} {A:Around} {E:Value→Shared→Prop} {s:Shared}
end
section
variable {X:Cx}
end
end L2
namespace Att
open PySem PySem.W PySem.Calls PyProof.Rows
theorem SD {P:Params} {h:Heap}:∀(ns:List Int) (vs:List Value),WellAll P h vs (ns.map WData.int)→IntsAre vs ns:=by
 intro ns
 induction ns with
 |nil=>
  intro vs w
  rw [List.map_nil] at w
  cases w
  exact .nil
 |cons n ns ih=>
  intro vs w
  rw [Bg] at w
  cases w with
  |cons a b=>
   cases a
   exact .cons _ _ (ih _ b)
theorem SE {l:OpenLaw} {n:Nat} (hn:l.most=some n) {P:Params} {h:Heap} {args:List WData} {vals:List Value}
 (hpre:l.row.toRowW.claim.pre args=true) (hwl:WellAll P h vals args):
 ∃a vs ns,vals=[Value.ref a]∧args=[WData.list (ns.map WData.int)]∧h.get? a=some {cls:=.type "list",data:=.seq vs.toArray}∧IntsAre vs ns∧ns.length≤n:=by
 have hsh:WShape.hasAll [] args [.list .int]=true:=(pre_splitW hpre).1
 have hc:l.pre.holds [] {args:=args}=true:=(pre_splitW hpre).2
 obtain ⟨d,r,rfl,h1,h2⟩:=hasAllW_cons hsh
 obtain rfl:=hasAllW_nil h2
 obtain ⟨xs,rfl,h3⟩:=hasW_list h1
 obtain ⟨ns,rfl⟩:=items_int h3
 have hlen:ns.length≤n:=by
  unfold OpenLaw.pre at hc
  have h4:(WTm.not (.lt (.lit (.int (n:Int))) (.len (.arg 0)))).holds [] {args:=[.list (ns.map .int)]}=true:=by
   have h4:=(holds_andW hc).1
   rw [hn] at h4
   exact h4
  have h5:=condW_of h4 (w_not (w_lt w_lit (w_len_list (w_arg rfl))))
  rw [BX] at h5
  refine FY fun q=>?_
  have q':(n:Int)<((ns.length:Nat):Int):=by omega
  first
   |(rw [decide_eq_true q'] at h5;exact absurd h5 (by decide))
   |(simp at h5;omega)
 cases hwl with
 |cons w1 w2=>
  cases w2
  cases w1 with
  |list ho hall=>exact ⟨_,_,ns,rfl,rfl,ho,SD ns _ hall,hlen⟩
theorem SF (l:OpenLaw) (args:List WData):l.row.toRowW.claim.post args (.bool true) args=true:=
 postW_of (r:=l.row.toRowW) (X:=(true==true))
  (show WShape.has [] (.bool true) .bool=true by first |rfl |decide |simp [WShape.has,WShape.arms,WShape.armsAll])
  (show (WTm.eq .res (.lit (.bool true))).value [] {args:=args,res:=some (.bool true),after:=args}=some (.bool (true==true)) from w_eq_bool (w_res rfl) w_lit) rfl
section
variable {prog:Program} {w:World} {A:Around} {E:Value→Shared→Prop} {s:Shared} {K:Frag}
end
end Att
namespace L2
open PySem PySem.Spec PyProof.Rows
theorem vals_ints:∀{vs:List Value} {ns:List Int},IntsAre vs ns→Vals (ns.map V.int) vs
 |_,_,.nil=>.nil
 |_,_,.cons n t h=>.cons ⟨t,rfl⟩ (vals_ints h)
def defArgs (s:Stmt):Arguments:=match s with
 |.FunctionDef _ a _ _ _ _ _ _ _ _=>a
 |_=>{posonlyargs:=[],args:=[],vararg:=none,kwonlyargs:=[],kw_defaults:=[],kwarg:=none,defaults:=[]}
def defBody (s:Stmt):List Stmt:=match s with
 |.FunctionDef _ _ b _ _ _ _ _ _ _=>b
 |_=>[]
def defScope (s:Stmt):Scope:=match s with
 |.FunctionDef _ _ _ _ _ _ sc _ _ _=>sc
 |_=>{kind:=.function,names:=[],isGenerator:=false,isCoroutine:=false}
abbrev L5:CP:=fun _ _ _ _ _ _=>False
abbrev E0:XK:=fun _ _ _=>False
inductive L6 (K:PySem.W.Frag) (x qual:Str) (st:Stmt) (f:Addr) (fd:FuncData):Prop where
 |mk (oc:Value) (od:Option Addr) (kV doc pm:Value) (an:Option Addr) (cdv ct:Value) (osl:Array (Option Value)) (f1:fd=PySem.W.fnOf x qual (defArgs st) (defBody st) (defScope st) .none kV doc pm an cdv ct) (f2:K.lookup f=some ⟨oc,od,.func fd,osl⟩) (f3:PySem.W.codeIn K cdv qual=true):L6 K x qual st f fd
structure Fun (K:PySem.W.Frag) (x qual:Str) (st:Stmt) (f:Addr) (fd:FuncData):Prop where
 ex:L6 K x qual st f fd
 kp:PySem.W.keepIn K (.ref f)=true
section
variable {P:Program} {w:World} {K:PySem.W.Frag} {mg:Str→Option Value} {base:Heap}
theorem Fun.binds {x qual:Str} {st:Stmt} {f:Addr} {fd:FuncData} {ps:List Str} (F:Fun K x qual st f fd)
 (h:∀(kV doc pm:Value) (an:Option Addr) (cdv ct:Value) (us:List Value),us.length=ps.length→bindArgs (PySem.W.fnOf x qual (defArgs st) (defBody st) (defScope st) .none kV doc pm an cdv ct) ⟨us,[]⟩=pure (ps.zip us)):Binds K fd ps []:=by
 obtain ⟨oc,od,kV,doc,pm,an,cdv,ct,osl,rfl,lk,hcd⟩:=F.ex
 exact .all (h kV doc pm an cdv ct)
theorem L7 {x qual:Str} {st:Stmt} {f:Addr} {oc:Value} {od an:Option Addr} {osl:Array (Option Value)} {kV doc pm cdv ct:Value} (l:K.lookup f=some ⟨oc,od,.func (PySem.W.fnOf x qual (defArgs st) (defBody st) (defScope st) .none kV doc pm an cdv ct),osl⟩)
 (c:PySem.W.codeIn K cdv qual=true) (k:PySem.W.keepIn K (.ref f)=true):Fun K x qual st f (PySem.W.fnOf x qual (defArgs st) (defBody st) (defScope st) .none kV doc pm an cdv ct):=⟨⟨oc,od,kV,doc,pm,an,cdv,ct,osl,rfl,l,c⟩,k⟩
end
section
variable {X:Cx}
end
end L2
namespace LS
open PySem PySem.Spec PyProof.Rows L2
inductive D where
 |non |bl (b:Bool) |int (i:Int) |str (x:Str) |tup (ds:List D) |loc (l:Nat) |scr (ns:List Int) |adr (a:Addr) |ty (n:String) |exc (n:Str) (fs:List (Str×Int)) |edic |glo (n:Str) |clo (a:Addr) (vs:List V) (ds:List D)
inductive Cd where
 |i (n:Int) |t (ns:List Int) |b (rs:List (List Int))
 deriving DecidableEq
def kD:Cd→D
 |.i n=>.int n
 |.t ns=>.tup (ns.map D.int)
 |.b rs=>.tup (rs.map fun r=>.tup (r.map D.int))
inductive Ce where
 |lst (ds:List D) |tab |dic (fz:Bool) (kvs:List (Cd×D))
abbrev HD:=List Ce
abbrev Af:=List (Option D)
inductive Out (α:Type) where
 |ok (a:α) (h:HD) |err (C:Value) (fs:List (Str×D)) (h:HD) |stuck
def Out.bind {α β:Type} (o:Out α) (k:α→HD→Out β):Out β:=match o with
 |.ok a h=>k a h
 |.err C fs h=>.err C fs h
 |.stuck=>.stuck
@[simp] theorem Out.bind_ok {α β:Type} (a:α) (h:HD) (k:α→HD→Out β):(Out.ok a h).bind k=k a h:=rfl
@[simp] theorem Out.bind_err {α β:Type} (C:Value) (fs:List (Str×D)) (h:HD) (k:α→HD→Out β):(Out.err C fs h:Out α).bind k=.err C fs h:=rfl
@[simp] theorem Out.bind_stuck {α β:Type} (k:α→HD→Out β):(Out.stuck:Out α).bind k=.stuck:=rfl
def JL:HO→Bool
 |.tup _=>true
 |.frz _ _=>true
 |.ext _=>true
 |.xd _=>true
 |_=>false
def Kp (H H':Hp):Prop:=∀b o,H b=some o→JL o=true→H' b=some o
theorem Kp.refl (H:Hp):Kp H H:=fun _ _ e _=>e
theorem Kp.trans {H H1 H2:Hp} (a:Kp H H1) (b:Kp H1 H2):Kp H H2:=fun c o e i=>b c o (a c o e i) i
theorem Kp.new {H:Hp} {p:Addr} {o:HO} (h:H p=none):Kp H (Ai H p o):=fun b u e _=>by rw [Av (CC e h)];exact e
theorem Kp.set {H:Hp} {p:Addr} {o u:HO} (h:H p=some o) (i:JL o=false):Kp H (Ai H p u):=fun b w e iw=>by
 rw [Av]
 ·exact e
 ·intro z
  rw [z,h] at e;cases e;rw [i] at iw;cases iw
def FzL (K:PySem.W.Frag) (H:Hp) (a:Addr) (xs:List V):Prop:=(∃o,H a=some (.frz o (.lst xs)))∨SqL K (fun _=>none) a xs
theorem Kp.fzL {K:PySem.W.Frag} {H H':Hp} {a:Addr} {xs:List V} (k:Kp H H') (h:FzL K H a xs):FzL K H' a xs:=by
 rcases h with ⟨o,h⟩ |h
 ·exact .inl ⟨o,k _ _ h rfl⟩
 ·exact .inr h
theorem FzL.sq {K:PySem.W.Frag} {H:Hp} {a:Addr} {xs:List V} (h:FzL K H a xs):SqL K H a xs:=by
 rcases h with ⟨o,h⟩ |(h |⟨o,h⟩) |h
 ·exact .inl (.inr ⟨o,h⟩)
 ·cases h
 ·cases h
 ·exact .inr h
def DL (C:Addr) (da:Option Addr) (a:Addr) (h:Heap):Prop:=∃o vs,h.get? a=some o∧o.cls=.ref C∧(∀d,da=some d→o.dict=some d)∧o.data=.fields vs
def JM (a:Addr) (h:Heap):Prop:=a≠sysModules∧∃o ep,h.get? a=some o∧o.ExactDict∧o.data=.dict #[] ep
mutual
def DV (K:PySem.W.Frag) (m:List Addr) (H:Hp):D→V→Prop
 |.non,v=>v=.non
 |.bl b,v=>v=.bl b
 |.int i,v=>v=.int i
 |.str x,v=>v=.str x
 |.tup ds,v=>∃a vs,v=.ref a∧H a=some (.tup vs)∧DVs K m H ds vs
 |.loc l,v=>∃a,v=.ref a∧m[l]?=some a
 |.scr ns,v=>∃a,v=.ref a∧FzL K H a (ns.map V.int)
 |.adr a,v=>v=.ref a
 |.ty n,v=>v=.ty n
 |.exc n fs,v=>∃a C da,v=.ref a∧PySem.W.nsIn K mainGlobals n=some (some (.ref C))∧H a=some (.ext (DL C da a))∧∀f i,fs.lookup f=some i→∃d fv,da=some d∧H d=some (.xd fv)∧fv.lookup f=some (.int i)
 |.edic,v=>∃a,v=.ref a∧H a=some (.ext (JM a))
 |.glo n,v=>∃a,v=.ref a∧PySem.W.nsIn K mainGlobals n=some (some (.ref a))
 |.clo a vs ds,v=>v=.ref a∧DVs K m H ds vs
def DVs (K:PySem.W.Frag) (m:List Addr) (H:Hp):List D→List V→Prop
 |[],vs=>vs=[]
 |d::ds,vs=>∃v r,vs=v::r∧DV K m H d v∧DVs K m H ds r
end
section
variable {K:PySem.W.Frag} {m m':List Addr} {H H':Hp}
theorem JN {l:Nat} {a:Addr} (p:m <+:m') (h:m[l]?=some a):m'[l]?=some a:=by
 obtain ⟨t,rfl⟩:=p
 have hl:l<m.length:=(qa4.mp h).1
 rw [Di hl];exact h
mutual
theorem DV.keep (p:m <+:m') (k:Kp H H'):∀{d:D} {v:V},DV K m H d v→DV K m' H' d v
 |.non,_,h=>by simpa [DV] using h
 |.bl _,_,h=>by simpa [DV] using h
 |.int _,_,h=>by simpa [DV] using h
 |.str _,_,h=>by simpa [DV] using h
 |.tup ds,_,h=>by
  simp only [DV] at h ⊢
  obtain ⟨a,vs,e,q,r⟩:=h
  exact ⟨a,vs,e,k _ _ q rfl,DVs.keep p k r⟩
 |.loc l,_,h=>by
  simp only [DV] at h ⊢
  obtain ⟨a,e,q⟩:=h
  exact ⟨a,e,JN p q⟩
 |.scr ns,_,h=>by
  simp only [DV] at h ⊢
  obtain ⟨a,e,q⟩:=h
  exact ⟨a,e,k.fzL q⟩
 |.adr _,_,h=>by simpa [DV] using h
 |.ty _,_,h=>by simpa [DV] using h
 |.exc _ _,_,h=>by
  simp only [DV] at h ⊢
  obtain ⟨a,C,da,e,q,r,t⟩:=h
  exact ⟨a,C,da,e,q,k _ _ r rfl,fun f i z=>let ⟨d,fv,z1,z2,z3⟩:=t f i z;⟨d,fv,z1,k _ _ z2 rfl,z3⟩⟩
 |.edic,_,h=>by
  simp only [DV] at h ⊢
  obtain ⟨a,e,r⟩:=h
  exact ⟨a,e,k _ _ r rfl⟩
 |.glo _,_,h=>by simpa [DV] using h
 |.clo _ _ ds,_,h=>by
  simp only [DV] at h ⊢
  exact ⟨h.1,DVs.keep p k h.2⟩
theorem DVs.keep (p:m <+:m') (k:Kp H H'):∀{ds:List D} {vs:List V},DVs K m H ds vs→DVs K m' H' ds vs
 |[],_,h=>by simpa [DVs] using h
 |d::ds,_,h=>by
  simp only [DVs] at h ⊢
  obtain ⟨v,r,e,q,t⟩:=h
  exact ⟨v,r,e,DV.keep p k q,DVs.keep p k t⟩
end
theorem DVs.nil:DVs K m H [] []:=by simp [DVs]
theorem DVs.cons {d:D} {v:V} {ds:List D} {vs:List V} (h:DV K m H d v) (t:DVs K m H ds vs):DVs K m H (d::ds) (v::vs):=by
 simp only [DVs];exact ⟨v,vs,rfl,h,t⟩
theorem DVs.len:∀{ds:List D} {vs:List V},DVs K m H ds vs→ds.length=vs.length
 |[],_,h=>by simp only [DVs] at h;subst h;rfl
 |d::ds,_,h=>by
  simp only [DVs] at h
  obtain ⟨v,r,e,_,t⟩:=h
  subst e
  simp [DVs.len t]
theorem DVs.get:∀{ds:List D} {vs:List V} {i:Nat} {d:D},DVs K m H ds vs→ds[i]?=some d→∃v,vs[i]?=some v∧DV K m H d v
 |[],_,_,_,_,e=>by simp at e
 |d::ds,_,i,x,h,e=>by
  simp only [DVs] at h
  obtain ⟨v,r,rfl,q,t⟩:=h
  cases i with
  |zero=>simp at e;subst e;exact ⟨v,rfl,q⟩
  |succ i=>
   obtain ⟨w,h1,h2⟩:=DVs.get (i:=i) t (by simpa using e)
   exact ⟨w,by simpa using h1,h2⟩
theorem DVs.app:∀{ds es:List D} {vs ws:List V},DVs K m H ds vs→DVs K m H es ws→DVs K m H (ds++es) (vs++ws)
 |[],_,_,_,h,t=>by simp only [DVs] at h;subst h;exact t
 |d::ds,_,_,_,h,t=>by
  simp only [DVs] at h
  obtain ⟨v,r,rfl,q,u⟩:=h
  exact .cons q (DVs.app u t)
theorem DVs.set:∀{ds:List D} {vs:List V} {d:D} {v:V} (i:Nat),DVs K m H ds vs→DV K m H d v→DVs K m H (ds.set i d) (vs.set i v)
 |[],_,_,_,_,h,_=>by simp only [DVs] at h;subst h;exact .nil
 |d::ds,_,_,_,i,h,q'=>by
  simp only [DVs] at h
  obtain ⟨v,r,rfl,q,u⟩:=h
  cases i with
  |zero=>exact .cons q' u
  |succ i=>exact .cons q (DVs.set i u q')
theorem DVs.take:∀{ds:List D} {vs:List V} (n:Nat),DVs K m H ds vs→DVs K m H (ds.take n) (vs.take n)
 |_,_,0,_=>by simpa using (DVs.nil:DVs K m H [] [])
 |[],_,n+1,h=>by simp only [DVs] at h;subst h;exact .nil
 |d::ds,_,n+1,h=>by
  simp only [DVs] at h
  obtain ⟨v,r,rfl,q,u⟩:=h
  exact .cons q (DVs.take n u)
theorem DVs.drop:∀{ds:List D} {vs:List V} (n:Nat),DVs K m H ds vs→DVs K m H (ds.drop n) (vs.drop n)
 |_,_,0,h=>by simpa using h
 |[],_,n+1,h=>by simp only [DVs] at h;subst h;exact .nil
 |d::ds,_,n+1,h=>by
  simp only [DVs] at h
  obtain ⟨v,r,rfl,q,u⟩:=h
  simpa using DVs.drop n u
theorem DVs.rep {ds:List D} {vs:List V} (h:DVs K m H ds vs):∀n,DVs K m H (List.replicate n ds).flatten (List.replicate n vs).flatten
 |0=>by simpa using (DVs.nil:DVs K m H [] [])
 |n+1=>by
  rw [DG,D7,DG,D7]
  exact h.app (DVs.rep h n)
def E5 (q:Str) (c:Addr) (h:Heap):Prop:=h.CodeRec (.ref c) q
def tabP (K:PySem.W.Frag):Option (Addr×Addr):=match PySem.W.nsIn K mainGlobals "law" with
 |some (some (.ref f))=>(match K.lookup f with
  |some ⟨_,_,.func fd,_⟩=>(match fd.code with
   |.ref c=>(match K.lookup c with
    |some ⟨_,_,.fields vs,_⟩=>(match (vs[11]?:Option Value) with
     |some (.ref P)=>some (c,P)
     |_=>none)
    |_=>none)
   |_=>none)
  |_=>none)
 |_=>none
def TabIs (K:PySem.W.Frag) (H:Hp) (a:Addr):Prop:=(∃c,tabP K=some (c,a))∧∃ps,H a=some (.tbl ps)∧TriplesOk ps.toList∧∀pos cv,codeAmong pos ps.toList=some cv→∃c,cv=.ref c∧H c=some (.ext (E5 "law.<locals>.<lambda>" c))
theorem TabIs.keep {K:PySem.W.Frag} {H H':Hp} {a:Addr} (t:TabIs K H a) (k:Kp H H') (e:H' a=H a):TabIs K H' a:=by
 obtain ⟨z,ps,h1,h2,h3⟩:=t
 exact ⟨z,ps,e.trans h1,h2,fun pos cv q=>let ⟨c,q1,q2⟩:=h3 pos cv q;⟨c,q1,k _ _ q2 rfl⟩⟩
def JO (hs:List Int):Int:=reduceHash (Builtin.Tuple.tupleHashOf hs)
def SG:Cd→Int
 |.i n=>hashInt n
 |.t ns=>JO (ns.map hashInt)
 |.b rs=>JO (rs.map fun r=>JO (r.map hashInt))
def SH (p:Cd×V×V) (e:DictEntry):Prop:=e.hash=SG p.1∧RelV p.2.1 e.key∧RelV p.2.2 e.val
def JP (a:Addr) (es:List (Cd×V×V)) (h:Heap):Prop:=(a==sysModules)=false∧es.length≤sizeLine∧(es.map (·.1)).Nodup∧∃o us ep,h.get? a=some o∧o.ExactDict∧o.data=.dict us ep∧Paired SH es us.toList
def EntD (K:PySem.W.Frag) (m:List Addr) (H:Hp):List (Cd×D)→List (Cd×V×V)→Prop
 |[],es=>es=[]
 |p::r,es=>∃kv vv r',es=(p.1,kv,vv)::r'∧DV K m H (kD p.1) kv∧DV K m H p.2 vv∧EntD K m H r r'
theorem EntD.keep {K:PySem.W.Frag} {m m':List Addr} {H H':Hp} (p:m <+:m') (k:Kp H H'):∀{kvs:List (Cd×D)} {es:List (Cd×V×V)},EntD K m H kvs es→EntD K m' H' kvs es
 |[],_,h=>h
 |_::_,_,h=>by
  obtain ⟨kv,vv,r',e,d1,d2,t⟩:=h
  exact ⟨kv,vv,r',e,d1.keep p k,d2.keep p k,t.keep p k⟩
def DicH (fz:Bool) (H:Hp) (a:Addr) (es:List (Cd×V×V)):Prop:=match fz with
 |true=>∃o,H a=some (.frz o (.dct (JP a es)))
 |false=>H a=some (.dct (JP a es))
theorem DicH.some {fz:Bool} {H:Hp} {a:Addr} {es:List (Cd×V×V)} (d:DicH fz H a es):∃o,H a=some o:=by
 cases fz with
 |true=>obtain ⟨o,e⟩:=d;exact ⟨_,e⟩
 |false=>exact ⟨_,d⟩
theorem DicH.same {fz:Bool} {H H':Hp} {a:Addr} {es:List (Cd×V×V)} (d:DicH fz H a es) (e:H' a=H a):DicH fz H' a es:=by
 cases fz with
 |true=>obtain ⟨o,z⟩:=d;exact ⟨o,e.trans z⟩
 |false=>exact e.trans d
theorem DicH.rd {fz:Bool} {H:Hp} {a:Addr} {es:List (Cd×V×V)} (d:DicH fz H a es):Rd H a (.dct (JP a es)):=by
 cases fz with
 |true=>obtain ⟨o,z⟩:=d;exact .inr ⟨o,z⟩
 |false=>exact .inl d
def Hi (K:PySem.W.Frag) (m:List Addr) (H:Hp):Ce→Addr→Prop
 |.lst ds,a=>∃vs,H a=some (.lst vs)∧DVs K m H ds vs
 |.tab,a=>TabIs K H a
 |.dic fz kvs,a=>∃es,DicH fz H a es∧EntD K m H kvs es
structure HR (K:PySem.W.Frag) (m:List Addr) (h:HD) (H:Hp):Prop where
 len:m.length=h.length
 nd:m.Nodup
 cells:∀(l:Nat) (c:Ce) (a:Addr),h[l]?=some c→m[l]?=some a→Hi K m H c a
theorem HR.at {h:HD} {l:Nat} {c:Ce} (r:HR K m h H) (e:h[l]?=some c):∃a,m[l]?=some a∧Hi K m H c a:=by
 have hl:l<h.length:=(qa4.mp e).1
 have:l<m.length:=by rw [r.len];exact hl
 exact ⟨m[l],Bb this,r.cells l c _ e (Bb this)⟩
theorem HR.mem {h:HD} {a:Addr} (r:HR K m h H) (ha:a∈m):H a≠none:=by
 obtain ⟨l,hl,rfl⟩:=GP ha
 have hl':l<h.length:=by rw [←r.len];exact hl
 have:=r.cells l h[l] m[l] (Bb hl') (Bb hl)
 cases hc:h[l] with
 |lst ds=>
  rw [hc] at this
  obtain ⟨vs,e,_⟩:=this
  rw [e];simp
 |tab=>
  rw [hc] at this
  obtain ⟨_,ps,e,_⟩:=this
  rw [e];simp
 |dic fz kvs=>
  rw [hc] at this
  obtain ⟨es,e,_⟩:=this
  obtain ⟨o,e⟩:=e.some
  rw [e];simp
theorem HR.same {h:HD} (r:HR K m h H) (k:Kp H H') (s:∀a∈m,H' a=H a):HR K m h H':=by
 refine ⟨r.len,r.nd,fun l c a e q=>?_⟩
 have hm:a∈m:=D2 q
 have:=r.cells l c a e q
 cases c with
 |lst ds=>
  obtain ⟨vs,e1,e2⟩:=this
  exact ⟨vs,by rw [s a hm];exact e1,e2.keep (Ay _) k⟩
 |tab=>exact TabIs.keep this k (s a hm)
 |dic fz kvs=>
  obtain ⟨es,e1,e2⟩:=this
  exact ⟨es,e1.same (s a hm),e2.keep (Ay _) k⟩
theorem HR.new {h:HD} {p:Addr} {o:HO} (r:HR K m h H) (hp:H p=none):HR K m h (Ai H p o):=
 r.same (.new hp) fun a ha=>Av fun z=>r.mem ha (z ▸ hp)
theorem HR.newCell {h:HD} {p:Addr} {o:HO} {c:Ce} (r:HR K m h H) (hp:H p=none) (hc:Hi K (m++[p]) (Ai H p o) c p):HR K (m++[p]) (h++[c]) (Ai H p o):=by
 have hpm:p∉m:=fun z=>r.mem z hp
 refine ⟨by simp [r.len],?_,fun l c' a e q=>?_⟩
 ·rw [List.nodup_append]
  refine ⟨r.nd,by simp,fun a ha b hb=>?_⟩
  rw [qb4] at hb
  subst hb
  intro z;subst z;exact hpm ha
 ·by_cases hl:l<m.length
  ·rw [Di hl] at q
   rw [Di (by rw [←r.len];exact hl)] at e
   have:=r.cells l c' a e q
   have hne:a≠p:=fun z=>hpm (z ▸ D2 q)
   cases c' with
   |lst ds=>
    obtain ⟨vs,e1,e2⟩:=this
    exact ⟨vs,by rw [Av hne];exact e1,e2.keep (GR _ _) (.new hp)⟩
   |tab=>exact TabIs.keep this (.new hp) (Av hne)
   |dic fz kvs=>
    obtain ⟨es,e1,e2⟩:=this
    exact ⟨es,e1.same (Av hne),e2.keep (GR _ _) (.new hp)⟩
  ·have h1:m.length≤l:=FY hl
   rw [FU h1] at q
   rw [FU (by rw [←r.len];exact h1)] at e
   have e0:l - m.length=0:=by
    cases hz:l - m.length with
    |zero=>rfl
    |succ n=>rw [hz] at q;simp at q
   rw [←r.len] at e
   rw [e0] at q e
   simp at q e
   subst q e
   exact hc
theorem HR.setCell {h:HD} {p:Addr} {l:Nat} {o u:HO} {c:Ce} (r:HR K m h H) (hl:m[l]?=some p) (ho:H p=some o) (i:JL o=false) (hc:Hi K m (Ai H p u) c p):HR K m (h.set l c) (Ai H p u):=by
 refine ⟨by simp [r.len],r.nd,fun j c' a e q=>?_⟩
 by_cases hj:j=l
 ·subst hj
  rw [hl] at q;cases q
  have hlt:j<h.length:=by rw [←r.len];exact (qa4.mp hl).1
  rw [BV hlt] at e
  cases e
  exact hc
 ·rw [Bw (Ne.symm hj)] at e
  have:=r.cells j c' a e q
  have hne:a≠p:=by
   intro z
   subst z
   obtain ⟨h1,e1⟩:=qa4.mp q
   obtain ⟨h2,e2⟩:=qa4.mp hl
   exact hj ((List.getElem_inj r.nd).mp (e1.trans e2.symm))
  cases c' with
  |lst ds=>
   obtain ⟨vs,e1,e2⟩:=this
   exact ⟨vs,by rw [Av hne];exact e1,e2.keep (Ay _) (.set ho i)⟩
  |tab=>exact TabIs.keep this (.set ho i) (Av hne)
  |dic fz kvs=>
   obtain ⟨es,e1,e2⟩:=this
   exact ⟨es,e1.same (Av hne),e2.keep (Ay _) (.set ho i)⟩
def ER (K:PySem.W.Frag) (m:List Addr) (H:Hp) (ρ:Af) (σ:L2.St):Prop:=ρ.length=σ.length∧∀(i:Nat) (d:D),ρ[i]?=some (some d)→∃v,σ[i]?=some (some v)∧DV K m H d v
theorem ER.keep {ρ:Af} {σ:L2.St} (p:m <+:m') (k:Kp H H') (e:ER K m H ρ σ):ER K m' H' ρ σ:=⟨e.1,fun i d h=>let ⟨v,a,b⟩:=e.2 i d h;⟨v,a,b.keep p k⟩⟩
theorem ER.set {ρ:Af} {σ:L2.St} {i:Nat} {d:D} {v:V} (e:ER K m H ρ σ) (r:DV K m H d v):ER K m H (ρ.set i (some d)) (σ.set i (some v)):=by
 refine ⟨by simp [e.1],fun j d' h=>?_⟩
 by_cases hj:i=j
 ·subst hj
  by_cases hl:i < ρ.length
  ·rw [BV hl] at h
   cases h
   exact ⟨v,by rw [BV (by rw [←e.1];exact hl)],r⟩
  ·rw [List.getElem?_eq_none (by simp;omega)] at h;cases h
 ·rw [Bw hj] at h
  obtain ⟨w,a,b⟩:=e.2 j d' h
  exact ⟨w,by rw [Bw hj];exact a,b⟩
theorem ER.start {N:List Str} {ds:List D} {vs:List V} (h:DVs K m H ds vs):ER K m H (ds.map some++List.replicate (N.length - ds.length) none) (L2.start N vs):=by
 refine ⟨by simp [L2.start,h.len],fun i d e=>?_⟩
 by_cases hl:i<ds.length
 ·rw [Di (by simpa using hl),BP] at e
  obtain ⟨d',e1⟩:∃d',ds[i]?=some d':=⟨ds[i],Bb hl⟩
  rw [e1] at e
  simp at e
  subst e
  obtain ⟨v,q,r⟩:=h.get e1
  refine ⟨v,?_,r⟩
  unfold L2.start
  rw [Di (by simpa [←h.len] using hl),BP,q]
  rfl
 ·rw [FU (by simpa using FY hl)] at e
  rw [Jk] at e
  split at e<;>cases e
def XD (K:PySem.W.Frag) (m:List Addr) (H:Hp) (fs:List (Str×D)) (da:Option Addr):Prop:=
 ∀f d,fs.lookup f=some d→∃a fv v,da=some a∧H a=some (.xd fv)∧fv.lookup f=some v∧DV K m H d v
def Post {α β:Type} (K:PySem.W.Frag) (R:List Addr→Hp→α→β→Prop) (m:List Addr) (H:Hp) (E:XK) (Q:β→Hp→Prop):Out α→Prop
 |.ok a h'=>∀v m' H',m <+:m'→Kp H H'→HR K m' h' H'→R m' H' a v→Q v H'
 |.err C fs h'=>∀da m' H',m <+:m'→Kp H H'→HR K m' h' H'→XD K m' H' fs da→E C da H'
 |.stuck=>False
theorem Post.ahead {α β:Type} {R:List Addr→Hp→α→β→Prop} {E:XK} {Q:β→Hp→Prop} {o:Out α} (p:m <+:m') (k:Kp H H') (h:Post K R m H E Q o):Post K R m' H' E Q o:=by
 cases o with
 |ok a h'=>exact fun v m2 H2 p2 k2=>h v m2 H2 (p.trans p2) (k.trans k2)
 |err C fs h'=>exact fun da m2 H2 p2 k2=>h da m2 H2 (p.trans p2) (k.trans k2)
 |stuck=>exact h
theorem Post.bind {α β γ δ:Type} {R:List Addr→Hp→α→β→Prop} {R':List Addr→Hp→γ→δ→Prop} {E:XK} {Q:δ→Hp→Prop} {Q':β→Hp→Prop} {o:Out α} {k:α→HD→Out γ}
 (h:Post K R' m H E Q (o.bind k)) (f:∀a h1 v m1 H1,o=.ok a h1→m <+:m1→Kp H H1→HR K m1 h1 H1→R m1 H1 a v→Post K R' m1 H1 E Q (k a h1)→Q' v H1):Post K R m H E Q' o:=by
 cases o with
 |ok a h1=>exact fun v m1 H1 p kk hr r=>f a h1 v m1 H1 rfl p kk hr r (h.ahead p kk)
 |err C fs h1=>exact h
 |stuck=>exact h
theorem Post.mono {α β:Type} {R:List Addr→Hp→α→β→Prop} {E:XK} {Q Q':β→Hp→Prop} {o:Out α} (h:Post K R m H E Q o) (f:∀v H',Q v H'→Q' v H'):Post K R m H E Q' o:=by
 cases o with
 |ok a h1=>exact fun v m1 H1 p k hr r=>f _ _ (h v m1 H1 p k hr r)
 |err C fs h1=>exact h
 |stuck=>exact h
end
abbrev ME:=Af→HD→Out D
abbrev MT:=Af→HD→Out Bool
abbrev MA:=Af→HD→Out (List D)
inductive Fl where
 |nx |bk |ct |rt (d:D)
abbrev MS:=Af→HD→Out (Fl×Af)
def rD (K:PySem.W.Frag):List Addr→Hp→D→V→Prop:=fun m H d v=>DV K m H d v
def rB:List Addr→Hp→Bool→Bool→Prop:=fun _ _ a b=>a=b
def E6 (K:PySem.W.Frag):List Addr→Hp→List D→List V→Prop:=fun m H d v=>DVs K m H d v
inductive tM {α β:Type} (K:PySem.W.Frag) (R:List Addr→Hp→α→β→Prop) (E:XK) (f:Af→HD→Out α) (σ:L2.St) (H:Hp) (Q:β→Hp→Prop):Prop where
 |mk (m:List Addr) (ρ:Af) (h:HD) (hr:HR K m h H) (er:ER K m H ρ σ) (p:Post K R m H E Q (f ρ h)):tM K R E f σ H Q
abbrev tD (K:PySem.W.Frag) (E:XK) (f:ME):TE:=tM K (rD K) E f
abbrev E7 (K:PySem.W.Frag) (E:XK) (f:MT):TT:=tM K rB E f
abbrev L8 (K:PySem.W.Frag) (E:XK) (f:MA):TA:=tM K (E6 K) E f
def L9 (K:PySem.W.Frag) (m:List Addr) (H:Hp) (D:Cs):Fl×Af→Prop
 |(.nx,ρ)=>∀σ,ER K m H ρ σ→D.nx σ H
 |(.bk,ρ)=>∀σ,ER K m H ρ σ→D.bk σ H
 |(.ct,ρ)=>∀σ,ER K m H ρ σ→D.ct σ H
 |(.rt d,_)=>∀v,DV K m H d v→D.rt v H
def PostS (K:PySem.W.Frag) (m:List Addr) (H:Hp) (E:XK) (D:Cs):Out (Fl×Af)→Prop
 |.ok a h'=>∀m' H',m <+:m'→Kp H H'→HR K m' h' H'→L9 K m' H' D a
 |.err C fs h'=>∀da m' H',m <+:m'→Kp H H'→HR K m' h' H'→XD K m' H' fs da→E C da H'
 |.stuck=>False
inductive E8 (K:PySem.W.Frag) (E:XK) (g:MS) (D:Cs) (σ:L2.St) (H:Hp):Prop where
 |mk (m:List Addr) (ρ:Af) (h:HD) (hr:HR K m h H) (er:ER K m H ρ σ) (p:PostS K m H E D (g ρ h)):E8 K E g D σ H
theorem PostS.ahead {K:PySem.W.Frag} {m m':List Addr} {H H':Hp} {E:XK} {D:Cs} {o:Out (Fl×Af)} (p:m <+:m') (k:Kp H H') (h:PostS K m H E D o):PostS K m' H' E D o:=by
 cases o with
 |ok a h'=>exact fun m2 H2 p2 k2=>h m2 H2 (p.trans p2) (k.trans k2)
 |err C fs h'=>exact fun da m2 H2 p2 k2=>h da m2 H2 (p.trans p2) (k.trans k2)
 |stuck=>exact h
abbrev Ev (X:Cx) (E:XK) (e:Expr) (f:ME):Prop:=PE X e (tD X.K E f)
abbrev CG (X:Cx) (E:XK) (e:Expr) (f:MT):Prop:=PT X e (E7 X.K E f)
abbrev Cf (X:Cx) (E:XK) (es:List Expr) (f:MA):Prop:=PA X es (L8 X.K E f)
abbrev Ex (X:Cx) (E:XK) (st:Stmt) (g:MS):Prop:=PS X st (E8 X.K E g)
abbrev BQ (X:Cx) (E:XK) (sts:List Stmt) (g:MS):Prop:=Ca X sts (E8 X.K E g)
section
variable {X:Cx}
theorem Bq {e:Expr} {t t':TE} (h:PE X e t) (i:∀σ H Q,t' σ H Q→t σ H Q):PE X e t':=fun pins s σ H Q I q=>h pins s σ H Q I (i σ H Q q)
theorem Hj {e:Expr} {t t':TT} (h:PT X e t) (i:∀σ H Q,t' σ H Q→t σ H Q):PT X e t':=fun pins s σ H Q I q=>h pins s σ H Q I (i σ H Q q)
theorem Ma {e:List Expr} {t t':TA} (h:PA X e t) (i:∀σ H Q,t' σ H Q→t σ H Q):PA X e t':=fun pos pins s σ H Q I q=>h pos pins s σ H Q I (i σ H Q q)
theorem DM {e:Stmt} {t t':TS} (h:PS X e t) (i:∀D σ H,t' D σ H→t D σ H):PS X e t':=fun pins s σ H D I q=>h pins s σ H D I (i D σ H q)
theorem JQ {e:List Stmt} {t t':TS} (h:Ca X e t) (i:∀D σ H,t' D σ H→t D σ H):Ca X e t':=fun pins s σ H D I q=>h pins s σ H D I (i D σ H q)
end
end LS
namespace LS
open PySem PySem.Spec PyProof.Rows L2
section
variable {X:Cx} {E:XK} {a b c:Expr} {pos:Pos} {f g k:ME}
def Ab (i:Nat):ME:=fun ρ h=>match ρ[i]? with
 |some (some d)=>.ok d h
 |_=>.stuck
theorem JR {i:Nat} (h:PE X a (Lx i)):Ev X E a (Ab i):=Bq h fun σ H Q z1_=>by
 obtain ⟨m,ρ,hd,hr,er,p⟩:=z1_
 unfold Ab at p
 split at p
 ·rename_i d e
  obtain ⟨v,e1,r⟩:=er.2 i d e
  exact ⟨v,e1,p v m H (Ay _) (.refl _) hr r⟩
 ·exact p.elim
def mC (d:D):ME:=fun _ h=>.ok d h
theorem Eg {d:D} {v:V} (h:PE X a (tC v)) (r:∀m H,DV X.K m H d v):Ev X E a (mC d):=Bq h fun σ H Q z2_=>by obtain ⟨m,ρ,hd,hr,er,p⟩:=z2_;exact (p v m H (Ay _) (.refl _) hr (r m H))
theorem SI {i:Int} {j:Nat}:Ev X E (.Constant (.int i) j pos) (mC (.int i)):=Eg Qw fun _ _=>by simp [DV]
theorem SJ {i:Bool} {j:Nat}:Ev X E (.Constant (.bool i) j pos) (mC (.bl i)):=Eg Qx fun _ _=>by simp [DV]
theorem SK {j:Nat}:Ev X E (.Constant .none j pos) (mC .non):=Eg Qy fun _ _=>by simp [DV]
theorem Mb {x:Str} {j:Nat}:Ev X E (.Constant (.str x) j pos) (mC (.str x)):=Eg Qz fun _ _=>by simp [DV]
theorem SL {x:Str} {i:Int} {t:Tok} {pos:Pos} (hg:Gl X x) (hm:X.mg x=some (.int i t)) (hd:(x==("__debug__":Str))=false:=by decide):Ev X E (.Name x pos) (mC (.int i)):=
 Eg (Ly (v:=.int i) hg hm ⟨t,rfl⟩ hd) fun _ _=>by simp [DV]
def Ae (op:D→D→HD→Out D) (f g:ME):ME:=fun ρ h=>(f ρ h).bind fun x h1=>(g ρ h1).bind fun y h2=>op x y h2
theorem F9 {op:D→D→HD→Out D} {Q:VK} {R:V→V→Hp→Prop} {σ:L2.St} {H:Hp} (h:tD X.K E (Ae op f g) σ H Q)
 (i:∀m H2 h2 x y v u,HR X.K m h2 H2→DV X.K m H2 x v→DV X.K m H2 y u→Post X.K (rD X.K) m H2 E Q (op x y h2)→R v u H2):tD X.K E f σ H fun v H1=>tD X.K E g σ H1 fun u H2=>R v u H2:=by
 obtain ⟨m,ρ,hd,hr,er,p⟩:=h
 refine ⟨m,ρ,hd,hr,er,Post.bind p fun x h1 v m1 H1 _ p1 k1 hr1 r1 q1=>?_⟩
 refine ⟨m1,ρ,h1,hr1,er.keep p1 k1,Post.bind q1 fun y h2 u m2 H2 _ p2 k2 hr2 r2 q2=>?_⟩
 exact i m2 H2 h2 x y v u hr2 (DV.keep p2 k2 r1) r2 q2
def Bh (X:Cx) (f:Value→Value→Sem Value) (op:D→D→HD→Out D):Prop:=
 ∃r:R2,OpR X f r∧∀m H h E x y v u Q,HR X.K m h H→DV X.K m H x v→DV X.K m H y u→Post X.K (rD X.K) m H E Q (op x y h)→r v u H Q
theorem E9 {o:Operator} {op:D→D→HD→Out D} (ho:Bh X (binaryOp o) op) (ha:Ev X E a f) (hb:Ev X E b g):Ev X E (.BinOp a o b pos) (Ae op f g):=by
 obtain ⟨r,ho,i⟩:=ho
 exact Bq (Rq ho ha hb) fun σ H Q h=>F9 h fun m H2 h2 x y v u hr rx ry q=>i m H2 h2 E x y v u Q hr rx ry q
theorem Mc {o:CmpOp} {op:D→D→HD→Out D} (ho:Bh X (compareOp o) op) (ha:Ev X E a f) (hb:Ev X E b g) (hm:behindInMarks o b=false):Ev X E (.Compare a [o] [b] pos) (Ae op f g):=by
 obtain ⟨r,ho,i⟩:=ho
 exact Bq (RD ho ha hb hm) fun σ H Q h=>F9 h fun m H2 h2 x y v u hr rx ry q=>i m H2 h2 E x y v u Q hr rx ry q
def Ga:D→HD→Out Bool
 |.bl b,h=>.ok b h
 |_,_=>.stuck
def A0 (f:ME):MT:=fun ρ h=>(f ρ h).bind Ga
theorem Md {m:List Addr} {H:Hp} {x:D} {v:V} {h:HD} {Q:Bool→Hp→Prop} (hr:HR X.K m h H) (r:DV X.K m H x v) (q:Post X.K rB m H E Q (Ga x h)):∃k,v=.bl k∧Q k H:=by
 cases x with
 |bl b=>
  simp only [DV] at r
  exact ⟨b,r,q b m H (Ay _) (.refl _) hr rfl⟩
 |_=>exact q.elim
theorem Hk {o:CmpOp} {op:D→D→HD→Out D} (ho:Bh X (compareOp o) op) (ha:Ev X E a f) (hb:Ev X E b g) (hm:behindInMarks o b=false):CG X E (.Compare a [o] [b] pos) (A0 (Ae op f g)):=by
 obtain ⟨r,ho,i⟩:=ho
 refine Hj (RE ho ha hb hm) fun σ H Q h=>?_
 obtain ⟨m,ρ,hd,hr,er,p⟩:=h
 have h':tD X.K E (Ae op f g) σ H fun x H'=>∃k,x=.bl k∧Q k H':=
  ⟨m,ρ,hd,hr,er,Post.bind p fun x h1 v m1 H1 _ p1 k1 hr1 r1 q1=>Md hr1 r1 q1⟩
 exact F9 h' fun m H2 h2 x y v u hr rx ry q=>i m H2 h2 E x y v u _ hr rx ry q
def CS:D→HD→Out Bool
 |.non,h=>.ok false h
 |.bl b,h=>.ok b h
 |.int i,h=>.ok (i != 0) h
 |.tup ds,h=>.ok (!ds.isEmpty) h
 |.loc l,h=>match h[l]? with
  |some (.lst ds)=>.ok (!ds.isEmpty) h
  |_=>.stuck
 |_,_=>.stuck
def BA (f:ME):MT:=fun ρ h=>(f ρ h).bind CS
theorem Me {α β:Type} {xs:List α} {ys:List β} (h:xs.length=ys.length):xs.isEmpty=ys.isEmpty:=by
 cases xs<;>cases ys<;>simp_all
theorem SM {m:List Addr} {H:Hp} {x:D} {v:V} {h:HD} {Q:Bool→Hp→Prop} (hr:HR X.K m h H) (r:DV X.K m H x v) (q:Post X.K rB m H E Q (CS x h)):∃k,Jz X.K v H k∧Q k H:=by
 have go:∀k,CS x h=.ok k h→Q k H:=fun k e=>by rw [e] at q;exact q k m H (Ay _) (.refl _) hr rfl
 cases x with
 |non=>simp only [DV] at r;subst r;exact ⟨false,rfl,go _ rfl⟩
 |bl b=>simp only [DV] at r;subst r;exact ⟨b,rfl,go _ rfl⟩
 |int i=>simp only [DV] at r;subst r;exact ⟨_,rfl,go _ rfl⟩
 |str x=>exact q.elim
 |tup ds=>
  simp only [DV] at r
  obtain ⟨p,vs,rfl,hp,dv⟩:=r
  exact ⟨_,.inr ⟨vs,SqT.of hp,rfl⟩,by rw [←Me dv.len];exact go _ rfl⟩
 |loc l=>
  simp only [DV] at r
  obtain ⟨p,rfl,hp⟩:=r
  simp only [CS] at q
  split at q
  ·rename_i ds e
   obtain ⟨vs,e1,dv⟩:=hr.cells l _ p e hp
   exact ⟨_,.inl ⟨vs,SqL.of e1,rfl⟩,by rw [←Me dv.len];exact q _ m H (Ay _) (.refl _) hr rfl⟩
  ·exact q.elim
 |scr ns=>exact q.elim
 |adr a=>exact q.elim
 |ty a=>exact q.elim
 |exc n fs=>exact q.elim
 |edic=>exact q.elim
 |glo n=>exact q.elim
 |clo a vs ds=>exact q.elim
theorem SO (ha:Ev X E a f) (he:∀Dc,isTrue a X.env Dc=(do let v ←Dc;standAt a.pos;holding [v] (truthy v)):=by intro _;rfl):CG X E a (BA f):=
 Hj (RI ha he) fun σ H Q z3_=>by obtain ⟨m,ρ,hd,hr,er,p⟩:=z3_;exact (⟨m,ρ,hd,hr,er,Post.bind p fun x h1 v m1 H1 _ p1 k1 hr1 r1 q1=>SM hr1 r1 q1⟩)
variable {tf tg:MT} {rest:List Expr}
def Hl (f g:MT):MT:=fun ρ h=>(f ρ h).bind fun b h1=>if b=true then g ρ h1 else .ok false h1
def B2 (f g:MT):MT:=fun ρ h=>(f ρ h).bind fun b h1=>if b=true then .ok true h1 else g ρ h1
def BB (f:MT):MT:=fun ρ h=>(f ρ h).bind fun b h1=>.ok (!b) h1
abbrev Hm (X:Cx) (E:XK) (e:Expr) (f:MT):Prop:=PW X e (E7 X.K E f)
theorem SQ {e:Expr} {t t':TT} (h:PW X e t) (i:∀σ H Q,t' σ H Q→t σ H Q):PW X e t':=fun wh pins s σ H Q I q=>h wh pins s σ H Q I (i σ H Q q)
theorem SS (ha:CG X E a tf):Hm X E (.BoolOp .Or [a] pos) tf:=QG ha
theorem Mf (ha:CG X E a tf) (hb:Hm X E (.BoolOp .Or (b::rest) pos) tg):Hm X E (.BoolOp .Or (a::b::rest) pos) (B2 tf tg):=
 SQ (QH ha hb) fun σ H Q z5_=>by obtain ⟨m,ρ,hd,hr,er,p⟩:=z5_;exact (⟨m,ρ,hd,hr,er,Post.bind p fun x h1 v m1 H1 _ p1 k1 hr1 r1 q1=>by
  cases r1
  cases x with
  |false=>exact ⟨m1,ρ,h1,hr1,er.keep p1 k1,q1⟩
  |true=>exact q1 true m1 H1 (Ay _) (.refl _) hr1 rfl⟩)
theorem SU (h:Hm X E a tf):CG X E a tf:=PW.pt h
theorem SV (ha:CG X E a tf):CG X E (.UnaryOp .Not a pos) (BB tf):=
 Hj (QJ ha) fun σ H Q z6_=>by obtain ⟨m,ρ,hd,hr,er,p⟩:=z6_;exact (⟨m,ρ,hd,hr,er,Post.bind p fun x h1 v m1 H1 _ p1 k1 hr1 r1 q1=>by
  cases r1
  exact q1 _ m1 H1 (Ay _) (.refl _) hr1 rfl⟩)
def Dm (f g:ME):ME:=fun ρ h=>(f ρ h).bind fun x h1=>match x with
 |.bl true=>g ρ h1
 |.bl false=>.ok (.bl false) h1
 |_=>.stuck
def Mg (f g:ME):ME:=fun ρ h=>(f ρ h).bind fun x h1=>match x with
 |.bl true=>.ok (.bl true) h1
 |.bl false=>g ρ h1
 |_=>.stuck
def Hn (f:ME):ME:=fun ρ h=>(f ρ h).bind fun x h1=>match x with
 |.bl b=>.ok (.bl (!b)) h1
 |_=>.stuck
theorem SW {o:BoolOp} (h:Ev X E a f):Ev X E (.BoolOp o [a] pos) f:=QM h
theorem SY (ha:Ev X E a f) (hb:Ev X E (.BoolOp .And (b::rest) pos) g):Ev X E (.BoolOp .And (a::b::rest) pos) (Dm f g):=
 Bq (QN ha hb) fun σ H Q ⟨m,ρ,hd,hr,er,p⟩=>⟨m,ρ,hd,hr,er,Post.bind p fun x h1 v m1 H1 _ p1 k1 hr1 r1 q1=>by
  cases x with
  |bl b=>
   refine ⟨b,by simpa [rD,DV] using r1,?_⟩
   cases b with
   |true=>exact ⟨m1,ρ,h1,hr1,er.keep p1 k1,q1⟩
   |false=>exact q1 _ m1 H1 (Ay _) (.refl _) hr1 (by simp [rD,DV])
  |_=>exact q1.elim⟩
theorem SZ (ha:Ev X E a f):Ev X E (.UnaryOp .Not a pos) (Hn f):=
 Bq (QP ha) fun σ H Q z9_=>by obtain ⟨m,ρ,hd,hr,er,p⟩:=z9_;exact (⟨m,ρ,hd,hr,er,Post.bind p fun x h1 v m1 H1 _ p1 k1 hr1 r1 q1=>by
  cases x with
  |bl b=>exact ⟨b,by simpa [rD,DV] using r1,q1 _ m1 H1 (Ay _) (.refl _) hr1 (by simp [rD,DV])⟩
  |_=>exact q1.elim⟩)
def Ho (t:MT) (f g:ME):ME:=fun ρ h=>(t ρ h).bind fun b h1=>if b=true then f ρ h1 else g ρ h1
theorem S3 (hc:CG X E c tf) (ha:Ev X E a f) (hb:Ev X E b g):Ev X E (.IfExp c a b pos) (Ho tf f g):=
 Bq (QT hc ha hb) fun σ H Q z10_=>by obtain ⟨m,ρ,hd,hr,er,p⟩:=z10_;exact (⟨m,ρ,hd,hr,er,Post.bind p fun x h1 v m1 H1 _ p1 k1 hr1 r1 q1=>by
  cases r1
  cases x with
  |true=>exact ⟨m1,ρ,h1,hr1,er.keep p1 k1,q1⟩
  |false=>exact ⟨m1,ρ,h1,hr1,er.keep p1 k1,q1⟩⟩)
def DN (op op':D→D→HD→Out D) (f g k:ME):ME:=fun ρ h=>(f ρ h).bind fun x h1=>(g ρ h1).bind fun y h2=>(op x y h2).bind fun z h3=>match z with
 |.bl true=>(k ρ h3).bind fun w h4=>op' y w h4
 |.bl false=>.ok (.bl false) h3
 |_=>.stuck
theorem Mh {r r':R2} {op op':D→D→HD→Out D} {o o':Value→Value→Sem Value} (i:∀m H h E x y v u Q,HR X.K m h H→DV X.K m H x v→DV X.K m H y u→Post X.K (rD X.K) m H E Q (op x y h)→r v u H Q)
 (i':∀m H h E x y v u Q,HR X.K m h H→DV X.K m H x v→DV X.K m H y u→Post X.K (rD X.K) m H E Q (op' x y h)→r' v u H Q) {σ:L2.St} {H:Hp} {Q:VK} (h:tD X.K E (DN op op' f g k) σ H Q):
 Jy r r' (tD X.K E f) (tD X.K E g) (tD X.K E k) σ H Q:=by
 obtain ⟨m,ρ,hd,hr,er,p⟩:=h
 refine ⟨m,ρ,hd,hr,er,Post.bind p fun x h1 v m1 H1 _ p1 k1 hr1 r1 q1=>?_⟩
 refine ⟨m1,ρ,h1,hr1,er.keep p1 k1,Post.bind q1 fun y h2 u m2 H2 _ p2 k2 hr2 r2 q2=>?_⟩
 refine i m2 H2 h2 E x y v u _ hr2 (DV.keep p2 k2 r1) r2 (Post.bind q2 fun z h3 w m3 H3 _ p3 k3 hr3 r3 q3=>?_)
 cases z with
 |bl b=>
  refine ⟨b,by simpa [rD,DV] using r3,?_⟩
  cases b with
  |false=>exact q3 _ m3 H3 (Ay _) (.refl _) hr3 (by simp [rD,DV])
  |true=>
   refine ⟨m3,ρ,h3,hr3,((er.keep p1 k1).keep p2 k2).keep p3 k3,Post.bind q3 fun z h4 w' m4 H4 _ p4 k4 hr4 r4 q4=>?_⟩
   exact i' m4 H4 h4 E y z u w' Q hr4 (DV.keep p4 k4 (DV.keep p3 k3 r2)) r4 q4
 |_=>exact q3.elim
theorem S4 {o o':CmpOp} {op op':D→D→HD→Out D} (ho:Bh X (compareOp o) op) (ho':Bh X (compareOp o') op') (ha:Ev X E a f) (hb:Ev X E b g) (hc:Ev X E c k)
 (hm:lastMarks [o,o'] [b,c]=false:=by with_unfolding_all rfl):Ev X E (.Compare a [o,o'] [b,c] pos) (DN op op' f g k):=by
 obtain ⟨r,ho,i⟩:=ho
 obtain ⟨r',ho',i'⟩:=ho'
 exact Bq (RF ho ho' ha hb hc hm) fun σ H Q h=>Mh (o:=compareOp o) (o':=compareOp o') i i' h
theorem S5 {o o':CmpOp} {op op':D→D→HD→Out D} (ho:Bh X (compareOp o) op) (ho':Bh X (compareOp o') op') (ha:Ev X E a f) (hb:Ev X E b g) (hc:Ev X E c k)
 (hm:lastMarks [o,o'] [b,c]=false:=by with_unfolding_all rfl):CG X E (.Compare a [o,o'] [b,c] pos) (A0 (DN op op' f g k)):=by
 obtain ⟨r,ho,i⟩:=ho
 obtain ⟨r',ho',i'⟩:=ho'
 refine Hj (RG ho ho' ha hb hc hm) fun σ H Q h=>?_
 obtain ⟨m,ρ,hd,hr,er,p⟩:=h
 exact Mh (o:=compareOp o) (o':=compareOp o') i i' ⟨m,ρ,hd,hr,er,Post.bind p fun x h1 v m1 H1 _ p1 k1 hr1 r1 q1=>Md hr1 r1 q1⟩
variable {es:List Expr} {fa:MA}
def Ac:MA:=fun _ h=>.ok [] h
def Aa (f:ME) (r:MA):MA:=fun ρ h=>(f ρ h).bind fun x h1=>(r ρ h1).bind fun xs h2=>.ok (x::xs) h2
theorem Hq:Cf X E [] Ac:=Ma JA fun σ H Q z11_=>by obtain ⟨m,ρ,hd,hr,er,p⟩:=z11_;exact (p [] m H (Ay _) (.refl _) hr .nil)
theorem Hr (ha:Ev X E a f) (hr:Cf X E es fa) (hs:starEach (a::es) X.env=(false,eval a X.env)::starEach es X.env:=by rfl):Cf X E (a::es) (Aa f fa):=
 Ma (JB ha hr hs) fun σ H Q z12_=>by obtain ⟨m,ρ,hd,hr,er,p⟩:=z12_;exact (⟨m,ρ,hd,hr,er,Post.bind p fun x h1 v m1 H1 _ p1 k1 hr1 r1 q1=>
  ⟨m1,ρ,h1,hr1,er.keep p1 k1,Post.bind q1 fun xs h2 vs m2 H2 _ p2 k2 hr2 r2 q2=>q2 _ m2 H2 (Ay _) (.refl _) hr2 (DVs.cons (DV.keep p2 k2 r1) r2)⟩⟩)
def An (fa:MA):ME:=fun ρ h=>(fa ρ h).bind fun xs h1=>if xs.length≤sizeLine then .ok (.tup xs) h1 else .stuck
def Bi (xs:List D) (h:HD):Out D:=if xs.length≤sizeLine then .ok (.loc h.length) (h++[.lst xs]) else .stuck
def AR (fa:MA):ME:=fun ρ h=>(fa ρ h).bind Bi
theorem DO {m:List Addr} {H:Hp} {h:HD} {xs:List D} {vs:List V} {Q:VK} (hr:HR X.K m h H) (r:DVs X.K m H xs vs) (q:Post X.K (rD X.K) m H E Q (.ok (.tup xs) h)):∀p,H p=none→Q (.ref p) (Ai H p (.tup vs)):=fun p hp=>
 q (.ref p) m _ (Ay _) (.new hp) (hr.new hp) (by simp only [rD,DV];exact ⟨p,vs,rfl,BZ,r.keep (Ay _) (.new hp)⟩)
theorem Fb {m:List Addr} {H:Hp} {h:HD} {xs:List D} {vs:List V} {Q:VK} (hr:HR X.K m h H) (r:DVs X.K m H xs vs) (q:Post X.K (rD X.K) m H E Q (Bi xs h)):vs.length≤sizeLine∧∀p,H p=none→Q (.ref p) (Ai H p (.lst vs)):=by
 unfold Bi at q
 by_cases hz:xs.length≤sizeLine
 ·rw [if_pos hz] at q
  refine ⟨by rw [←r.len];exact hz,fun p hp=>?_⟩
  refine q (.ref p) (m++[p]) _ (GR _ _) (.new hp) (hr.newCell hp ⟨vs,BZ,r.keep (GR _ _) (.new hp)⟩) ?_
  simp only [rD,DV]
  exact ⟨p,rfl,by rw [←hr.len];simp⟩
 ·rw [if_neg hz] at q;exact q.elim
theorem S6 {x1:Nat} (h:Cf X E es fa):Ev X E (.Tuple es x1 pos) (An fa):=
 Bq (RS h) fun σ H Q z13_=>by obtain ⟨m,ρ,hd,hr,er,p⟩:=z13_;exact (⟨m,ρ,hd,hr,er,Post.bind p fun xs h1 vs m1 H1 _ p1 k1 hr1 r1 q1=>by
  by_cases hz:xs.length≤sizeLine
  ·rw [if_pos hz] at q1
   exact ⟨by rw [←DVs.len r1];exact hz,DO hr1 r1 q1⟩
  ·rw [if_neg hz] at q1;exact q1.elim⟩)
theorem S7 (h:Cf X E es fa):Ev X E (.List es pos) (AR fa):=
 Bq (RT h) fun σ H Q z14_=>by obtain ⟨m,ρ,hd,hr,er,p⟩:=z14_;exact (⟨m,ρ,hd,hr,er,Post.bind p fun xs h1 vs m1 H1 _ p1 k1 hr1 r1 q1=>Fb hr1 r1 q1⟩)
inductive Hs (K:PySem.W.Frag) (F:List D→HD→Out D) (vs:List V) (H:Hp) (Q:VK) (E:XK):Prop where
 |mk (m:List Addr) (ds:List D) (h:HD) (hr:HR K m h H) (r:DVs K m H ds vs) (p:Post K (rD K) m H E0 Q (F ds h)):Hs K F vs H Q E
def Ar (n:Nat) (F:List D→HD→Out D):Prop:=∀ds h,ds.length≠n→F ds h=.stuck
theorem Ar.len {K:PySem.W.Frag} {n:Nat} {F:List D→HD→Out D} (ar:Ar n F) {vs:List V} {H:Hp} {Q:VK} {E':XK} (h:Hs K F vs H Q E'):vs.length=n:=by
 obtain ⟨m,ds,hd,hr,r,p⟩:=h
 rw [←r.len]
 by_cases e:ds.length=n
 ·exact e
 ·rw [ar ds hd e] at p;exact p.elim
def Zd (F:HD→Out D):List D→HD→Out D:=fun ds h=>match ds with
 |[]=>F h
 |_=>.stuck
def Aj (F:D→HD→Out D):List D→HD→Out D:=fun ds h=>match ds with
 |[a]=>F a h
 |_=>.stuck
def AV (F:D→D→HD→Out D):List D→HD→Out D:=fun ds h=>match ds with
 |[a,b]=>F a b h
 |_=>.stuck
def S8 (F:D→D→D→HD→Out D):List D→HD→Out D:=fun ds h=>match ds with
 |[a,b,c]=>F a b c h
 |_=>.stuck
def Ad (F:List D→HD→Out D) (fa:MA):ME:=fun ρ h=>(fa ρ h).bind F
def B3 (X:Cx) (f:Value) (F:List D→HD→Out D):Prop:=
 ∃r:List V→Hp→VK→Prop,B1 X f r∧∀m H h E ds vs Q,HR X.K m h H→DVs X.K m H ds vs→Post X.K (rD X.K) m H E Q (F ds h)→r vs H Q
theorem S9 {id:String} {F:List D→HD→Out D} {x:Str} {p pos:Pos} {e:Expr} (hc:B3 X (.builtin id) F) (hg:Gl X x) (hm:X.mg x=none) (hv:bootBuiltins x=some (.builtin id)) (ha:Cf X E (e::es) fa) (hn:x≠"__name__":=by decide) (hdb:(x==("__debug__":Str))=false:=by decide)
 (hs:starEach (e::es) X.env=(false,eval e X.env)::starEach es X.env:=by rfl) (hpl:(backTo pos (starEach es X.env)).any (·.1)=false:=by rfl):Ev X E (.Call (.Name x p) (e::es) [] pos) (Ad F fa):=by
 obtain ⟨r,hc,i⟩:=hc
 exact Bq (RX hc hg hm hv ha hn hdb hs hpl) fun σ H Q z17_=>by obtain ⟨m,ρ,hd,hr,er,p⟩:=z17_;exact (⟨m,ρ,hd,hr,er,Post.bind p fun xs h1 vs m1 H1 e1 p1 k1 hr1 r1 q1=>i m1 H1 h1 E xs vs Q hr1 r1 q1⟩)
theorem Ta {id:String} {F:List D→HD→Out D} {x:Str} {p pos:Pos} {e:Expr} (hc:B3 X (.type id) F) (hg:Gl X x) (hm:X.mg x=none) (hv:bootBuiltins x=some (.type id)) (ha:Cf X E (e::es) fa) (hn:x≠"__name__":=by decide) (hdb:(x==("__debug__":Str))=false:=by decide)
 (hs:starEach (e::es) X.env=(false,eval e X.env)::starEach es X.env:=by rfl) (hpl:(backTo pos (starEach es X.env)).any (·.1)=false:=by rfl):Ev X E (.Call (.Name x p) (e::es) [] pos) (Ad F fa):=by
 obtain ⟨r,hc,i⟩:=hc
 exact Bq (JE hc hg hm hv ha hn hdb hs hpl) fun σ H Q z18_=>by obtain ⟨m,ρ,hd,hr,er,p⟩:=z18_;exact (⟨m,ρ,hd,hr,er,Post.bind p fun xs h1 vs m1 H1 e1 p1 k1 hr1 r1 q1=>i m1 H1 h1 E xs vs Q hr1 r1 q1⟩)
end
section
variable {X:Cx} {E:XK}
theorem AL {K:PySem.W.Frag} {m:List Addr} {H:Hp} {h:HD} {d:D} {v:V} {Q:VK} (hr:HR K m h H) (q:Post K (rD K) m H E Q (.ok d h)) (r:DV K m H d v):Q v H:=q v m H (Ay _) (.refl _) hr r
theorem op_catT0:OpR X (binaryOp .Add) (fun x y H Q=>∃a b ys,x=.ref a∧y=.ref b∧SqT X.K H a []∧SqT X.K H b ys∧Q (.ref b) H):=by
 intro pins s σ H x y v u Q I rx ry h
 obtain ⟨a,b,ys,rfl,rfl,ha,hb,q⟩:=h
 cases rx
 cases ry
 obtain ⟨its,r1,p1,_⟩:=I.tuple ha
 obtain ⟨its2,r2,p2,_⟩:=I.tuple hb
 cases r1
 obtain ⟨⟨cls,dd,data,sl⟩,ho,hc,n,hd⟩:=id p1
 obtain ⟨⟨cls2,dd2,data2,sl2⟩,ho2,hc2,n2,hd2⟩:=id p2
 simp only at hc hd hc2 hd2
 subst hc hd hc2 hd2
 exact concat_meets ⟨_,ho,rfl⟩ ⟨_,ho2,rfl⟩ noFill_tuple_add seq_tuple_add PySem.F.slot_tuple_add PySem.F.entry_tuple_add (PySem.F.args_tuple_add_2 _ _)
  (tuple_addW0 a b _ its2.toArray n n2 dd dd2 sl sl2 (by simp)) ⟨ho,ho2,⟨.ref b,H,I,rfl,q⟩⟩
def Aq:D→D→HD→Out D
 |.int i,.int j,h=>.ok (.int (i+j)) h
 |.str x,.str y,h=>if x.length+y.length≤sizeLine then .ok (.str (x++y)) h else .stuck
 |.tup xs,.tup ys,h=>if xs.length+ys.length≤sizeLine then .ok (.tup (xs++ys)) h else .stuck
 |.loc l,.loc k,h=>match h[l]?,h[k]? with
  |some (.lst xs),some (.lst ys)=>Bi (xs++ys) h
  |_,_=>.stuck
 |_,_,_=>.stuck
theorem Tb:Bh X (binaryOp .Add) Aq:=by
 refine ⟨_,op_add.or (op_catT0.or (op_catT.or (op_cat.or RJ))),fun m H h E x y v u Q hr rx ry q=>?_⟩
 unfold Aq at q
 split at q
 ·simp only [DV] at rx ry
  subst rx ry
  exact .inl ⟨_,_,rfl,rfl,AL hr q (by simp [DV])⟩
 ·simp only [DV] at rx ry
  subst rx ry
  split at q
  ·rename_i hz
   exact .inr (.inr (.inr (.inr ⟨_,_,rfl,rfl,hz,AL hr q (by simp [DV])⟩)))
  ·exact q.elim
 ·rename_i xs ys
  simp only [DV] at rx ry
  obtain ⟨a,vs,rfl,ha,dx⟩:=rx
  obtain ⟨b,ws,rfl,hb,dy⟩:=ry
  split at q
  ·rename_i hz
   cases xs with
   |nil=>
    simp only [DVs] at dx
    subst dx
    exact .inr (.inl ⟨a,b,ws,rfl,rfl,SqT.of ha,SqT.of hb,AL hr q (by simp only [DV];exact ⟨b,ws,rfl,hb,dy⟩)⟩)
   |cons x xs=>
    refine .inr (.inr (.inl ⟨a,b,vs,ws,rfl,rfl,SqT.of ha,SqT.of hb,?_,by rw [←dx.len,←dy.len];exact hz,fun e=>?_,fun e=>?_⟩))
    ·intro e;have:=dx.len;rw [e] at this;simp at this
    ·subst e
     have:ys=[]:=by have:=dy.len;simpa using this
     subst this
     exact AL hr q (by simp only [DV];exact ⟨a,vs,rfl,ha,by simpa using dx⟩)
    ·exact DO hr (dx.app dy) q
  ·exact q.elim
 ·simp only [DV] at rx ry
  obtain ⟨a,rfl,ha⟩:=rx
  obtain ⟨b,rfl,hb⟩:=ry
  split at q
  ·rename_i xs ys e1 e2
   obtain ⟨vs,h1,d1⟩:=hr.cells _ _ a e1 ha
   obtain ⟨ws,h2,d2⟩:=hr.cells _ _ b e2 hb
   obtain ⟨z,q'⟩:=Fb hr (d1.app d2) q
   exact .inr (.inr (.inr (.inl ⟨a,b,vs,ws,rfl,rfl,h1,h2,by simpa using z,q'⟩)))
  ·exact q.elim
 ·exact q.elim
def intD (f:Int→Int→D) (c:Int→Int→Prop) [∀i j,Decidable (c i j)]:D→D→HD→Out D
 |.int i,.int j,h=>if c i j then .ok (f i j) h else .stuck
 |_,_,_=>.stuck
theorem JS {o:Value→Value→Sem Value} {f:Int→Int→V} {g:Int→Int→D} {c c':Int→Int→Prop} [∀i j,Decidable (c' i j)] (h:OpR X o (rI c f)) (hc:∀i j,c' i j→c i j) (hg:∀m H i j,DV X.K m H (g i j) (f i j)):Bh X o (intD g c'):=by
 refine ⟨_,h,fun m H h E x y v u Q hr rx ry q=>?_⟩
 unfold intD at q
 split at q
 ·simp only [DV] at rx ry
  subst rx ry
  split at q
  ·rename_i hc'
   exact ⟨_,_,rfl,rfl,hc _ _ hc',AL hr q (hg _ _ _ _)⟩
  ·exact q.elim
 ·exact q.elim
def DP (f:Int→Int→D):D→D→HD→Out D
 |.int i,.int j,h=>.ok (f i j) h
 |_,_,_=>.stuck
theorem Ht {o:Value→Value→Sem Value} {f:Int→Int→V} {g:Int→Int→D} (h:OpR X o (DJ f)) (hg:∀m H i j,DV X.K m H (g i j) (f i j)):Bh X o (DP g):=by
 refine ⟨_,h,fun m H h E x y v u Q hr rx ry q=>?_⟩
 unfold DP at q
 split at q
 ·simp only [DV] at rx ry
  subst rx ry
  exact ⟨_,_,rfl,rfl,AL hr q (hg _ _ _ _)⟩
 ·exact q.elim
abbrev Fc:=DP fun i j=>.int (i - j)
theorem Tc:Bh X (binaryOp .Sub) Fc:=Ht Rt fun _ _ _ _=>by simp [DV]
abbrev Gb:=DP fun i j=>.bl (decide (i<j))
abbrev Gc:=DP fun i j=>.bl (decide (i≤j))
abbrev JT:=DP fun i j=>.bl (decide (j<i))
theorem Hu:Bh X (compareOp .Lt) Gb:=Ht RA fun _ _ _ _=>by simp [DV]
theorem Mi:Bh X (compareOp .LtE) Gc:=Ht RB fun _ _ _ _=>by simp [DV]
theorem Td:Bh X (compareOp .Gt) JT:=Ht RC fun _ _ _ _=>by simp [DV]
instance (i j:Int):Decidable (CMul i j):=by unfold CMul;infer_instance
instance (i j:Int):Decidable (LG i j):=by unfold LG;infer_instance
instance (i j:Int):Decidable (Hb i j):=by unfold Hb;infer_instance
abbrev Eh:=intD (fun i j=>.int (i % j)) fun _ j=>0<j
theorem Te:Bh X (binaryOp .Mod) Eh:=JS Ru (fun _ _ h=>h) fun _ _ _ _=>by simp [DV]
abbrev Gd:=intD (fun i j=>.int (i^j.toNat)) Hb
theorem Tf:Bh X (binaryOp .Pow) Gd:=JS Rv (fun _ _ h=>h) fun _ _ _ _=>by simp [DV]
def Ze:D→D→HD→Out D
 |.int i,.int j,h=>if CMul i j then .ok (.int (i*j)) h else .stuck
 |.loc l,.int k,h=>match h[l]? with
  |some (.lst xs)=>if -(2^63)≤k∧k<2^63 then Bi (List.replicate k.toNat xs).flatten h else .stuck
  |_=>.stuck
 |_,_,_=>.stuck
def Mj:D→Bool
 |.non=>true
 |_=>false
def Tg:D→D→HD→Out D
 |.bl b,.bl c,h=>.ok (.bl (b==c)) h
 |x,.non,h=>.ok (.bl (Mj x)) h
 |_,_,_=>.stuck
def Th:D→D→HD→Out D
 |.bl b,.bl c,h=>.ok (.bl (!(b==c))) h
 |x,.non,h=>.ok (.bl (!Mj x)) h
 |_,_,_=>.stuck
end
def AF {α:Type}:List (Option α)→Option (List α)
 |[]=>some []
 |none::_=>none
 |some a::r=>(AF r).map (a::·)
def A1 (h:HD):Nat→D→Option PyData
 |_,.non=>some .none
 |_,.bl b=>some (.bool b)
 |_,.int i=>some (.int i)
 |_,.str x=>some (.str x)
 |n+1,.tup ds=>(AF (ds.map (A1 h n))).map .tuple
 |n+1,.loc l=>match h[l]? with
  |some (.lst ds)=>(AF (ds.map (A1 h n))).map .list
  |_=>none
 |_,_=>none
section
variable {X:Cx} {E:XK} {pins:List (Addr×Obj)} {σ:L2.St} {H:Hp} {s:Shared} {m:List Addr} {h:HD}
theorem JU {n:Nat} (ih:∀(d:D) (v:V) (u:Value) (p:PyData),DV X.K m H d v→RelV v u→A1 h n d=some p→∃as,Reads s.heap u p as):
 ∀(ds:List D) (vs:List V) (us:List Value) (ps:List PyData),DVs X.K m H ds vs→Vals vs us→AF (ds.map (A1 h n))=some ps→∃as,ReadsAll s.heap us ps as
 |[],vs,us,ps,r,q,e=>by
  simp only [DVs] at r
  subst r
  cases q
  simp [AF] at e
  subst e
  exact ⟨[],.nil⟩
 |d::ds,vs,us,ps,r,q,e=>by
  simp only [DVs] at r
  obtain ⟨v,w,rfl,rv,rw'⟩:=r
  cases q with
  |cons q1 q2=>
   rw [Bg] at e
   cases ed:A1 h n d with
   |none=>rw [ed] at e;simp [AF] at e
   |some p=>
    rw [ed] at e
    simp only [AF,qaP] at e
    obtain ⟨ps',e1,rfl⟩:=e
    obtain ⟨as,h1⟩:=ih d v _ p rv q1 ed
    obtain ⟨bs,h2⟩:=JU ih ds w _ ps' rw' q2 e1
    exact ⟨as++bs,.cons h1 h2⟩
theorem JV (hok:HOk X.prog X.w H s.heap) (hr:HR X.K m h H):∀(n:Nat) (d:D) (v:V) (u:Value) (p:PyData),DV X.K m H d v→RelV v u→A1 h n d=some p→∃as,Reads s.heap u p as:=by
 intro n
 induction n with
 |zero=>
  intro d v u p r q e
  cases d<;>simp only [A1,DV,Option.some.injEq] at e r<;>try (cases e;done)
  ·subst e r;cases q;exact ⟨[],.none⟩
  ·subst e r;cases q;exact ⟨[],.bool _⟩
  ·subst e r;obtain ⟨t,rfl⟩:=q;exact ⟨[],.int _ _⟩
  ·subst e r;obtain ⟨t,rfl⟩:=q;exact ⟨[],.str _ _⟩
 |succ n ih=>
  intro d v u p r q e
  cases d with
  |non=>simp only [A1,DV,Option.some.injEq] at e r;subst e r;cases q;exact ⟨[],.none⟩
  |bl b=>simp only [A1,DV,Option.some.injEq] at e r;subst e r;cases q;exact ⟨[],.bool _⟩
  |int i=>simp only [A1,DV,Option.some.injEq] at e r;subst e r;obtain ⟨t,rfl⟩:=q;exact ⟨[],.int _ _⟩
  |str x=>simp only [A1,DV,Option.some.injEq] at e r;subst e r;obtain ⟨t,rfl⟩:=q;exact ⟨[],.str _ _⟩
  |tup ds=>
   simp only [A1,DV,qaP] at e r
   obtain ⟨a,vs,rfl,ha,dv⟩:=r
   obtain ⟨ps,e1,rfl⟩:=e
   cases q
   obtain ⟨_,its,rv,⟨o,ho,hc,k,hd⟩,_⟩:=hok a _ ha
   obtain ⟨as,h1⟩:=JU ih ds vs its ps dv rv e1
   exact ⟨as,.tuple ho hc hd (by simpa using h1)⟩
  |loc l=>
   simp only [DV] at r
   obtain ⟨a,rfl,ha⟩:=r
   cases q
   simp only [A1] at e
   split at e
   ·rename_i ds el
    simp only [qaP] at e
    obtain ⟨ps,e1,rfl⟩:=e
    obtain ⟨vs,hv,dv⟩:=hr.cells l _ a el ha
    obtain ⟨_,its,k,rv,ho⟩:=hok a _ hv
    obtain ⟨as,h1⟩:=JU ih ds vs its ps dv rv e1
    exact ⟨_,.list ho rfl rfl (by simpa using h1)⟩
   ·cases e
  |scr ns=>simp [A1] at e
  |adr a=>simp [A1] at e
  |ty a=>simp [A1] at e
  |exc n fs=>simp [A1] at e
  |edic=>simp [A1] at e
  |glo n=>simp [A1] at e
  |clo a vs ds=>simp [A1] at e
def Fd (f:PyData→PyData→Bool):D→D→HD→Out D:=fun x y h=>match A1 h 8 x,A1 h 8 y with
 |some p,some q=>if SeqAt.shaped p=true∧SeqAt.shaped q=true then .ok (.bl (f p q)) h else .stuck
 |_,_=>.stuck
abbrev Ge:=Fd PyData.eqv
abbrev DQ:=Fd fun p q=>!PyData.eqv p q
theorem Mk {o:CmpOp} {f:PyData→PyData→Bool}
 (rule:∀{s:Shared} {a b:Value} {p q:PyData} {as bs:List Addr} {Q:Value→Shared→Prop},Reads s.heap a p as→Reads s.heap b q bs→SeqAt.shaped p=true→SeqAt.shaped q=true→Q (.bool (f p q)) s→wpAny (model X.prog X.w) X.A (compareOp o a b) Q X.xe s):
 Bh X (compareOp o) (Fd f):=by
 refine ⟨fun v u H Q=>∃m h x y,HR X.K m h H∧DV X.K m H x v∧DV X.K m H y u∧Post X.K (rD X.K) m H E0 Q (Fd f x y h),?_,fun m H h E x y v u Q hr rx ry q=>⟨m,h,x,y,hr,rx,ry,?_⟩⟩
 ·intro pins s σ H x y v u Q I rx ry hq
  obtain ⟨m,h,dx,dy,hr,r1,r2,q⟩:=hq
  unfold Fd at q
  split at q
  ·rename_i p p' e1 e2
   split at q
   ·rename_i hs
    obtain ⟨as,h1⟩:=JV I.hok hr 8 dx x v p r1 rx e1
    obtain ⟨bs,h2⟩:=JV I.hok hr 8 dy y u p' r2 ry e2
    exact rule h1 h2 hs.1 hs.2 ⟨.bl _,H,I,rfl,AL hr q (by simp [DV])⟩
   ·exact q.elim
  ·exact q.elim
 ·unfold Fd at q ⊢
  split
  ·split
   ·rename_i e1 e2 hs
    rw [e1,e2] at q
    simp only [hs] at q
    exact q
   ·rename_i e1 e2 hs
    rw [e1,e2] at q
    simp only [hs] at q
    exact q.elim
  ·rename_i hn
   split at q
   ·rename_i e1 e2
    exact (hn _ _ e1 e2).elim
   ·exact q.elim
theorem Ti (hu:X.A.units+64<cLine):Bh X (compareOp .Eq) Ge:=Mk fun ra rb ha hb h=>eq_dataH ra rb ha hb hu h
theorem Tj (hu:X.A.units+64<cLine):Bh X (compareOp .NotEq) DQ:=Mk fun ra rb ha hb h=>ne_dataH ra rb ha hb hu h
def B4:D→Option V
 |.non=>some .non
 |.bl b=>some (.bl b)
 |.int i=>some (.int i)
 |.str x=>some (.str x)
 |_=>none
theorem JW {d:D} {v w:V} (r:DV X.K m H d v) (e:B4 d=some w):v=w∧CF v=true:=by
 cases d<;>simp only [B4,Option.some.injEq,DV] at e r<;>first |(subst e r;exact ⟨rfl,rfl⟩) |cases e
theorem JX:∀{ds:List D} {vs ws:List V},DVs X.K m H ds vs→AF (ds.map B4)=some ws→vs=ws∧vs.all CF=true
 |[],vs,ws,r,e=>by
  simp only [DVs] at r
  simp [AF] at e
  subst r e
  exact ⟨rfl,rfl⟩
 |d::ds,vs,ws,r,e=>by
  simp only [DVs] at r
  obtain ⟨v,w,rfl,rv,rw'⟩:=r
  rw [Bg] at e
  cases ed:B4 d with
  |none=>rw [ed] at e;simp [AF] at e
  |some p=>
   rw [ed] at e
   simp only [AF,qaP] at e
   obtain ⟨ps',e1,rfl⟩:=e
   obtain ⟨h1,h2⟩:=JW rv ed
   obtain ⟨h3,h4⟩:=JX rw' e1
   subst h1 h3
   exact ⟨rfl,by simp [h2,h4]⟩
def A7:D→HD→Option (List D)
 |.tup ds,_=>some ds
 |.loc l,h=>match h[l]? with
  |some (.lst ds)=>some ds
  |_=>none
 |.scr ns,_=>some (ns.map .int)
 |_,_=>none
theorem Ml {ns:List Int}:DVs X.K m H (ns.map .int) (ns.map V.int):=by
 induction ns with
 |nil=>exact .nil
 |cons n ns ih=>exact .cons (by simp [DV]) ih
theorem JY {d:D} {v:V} {ds:List D} (hr:HR X.K m h H) (r:DV X.K m H d v) (e:A7 d h=some ds):∃p vs,v=.ref p∧(SqL X.K H p vs∨SqT X.K H p vs)∧DVs X.K m H ds vs:=by
 cases d with
 |tup xs=>
  simp only [DV,A7,Option.some.injEq] at r e
  subst e
  obtain ⟨a,vs,rfl,ha,dv⟩:=r
  exact ⟨a,vs,rfl,.inr (SqT.of ha),dv⟩
 |loc l=>
  simp only [DV] at r
  obtain ⟨a,rfl,ha⟩:=r
  simp only [A7] at e
  split at e
  ·rename_i xs el
   cases e
   obtain ⟨vs,hv,dv⟩:=hr.cells l _ a el ha
   exact ⟨a,vs,rfl,.inl (SqL.of hv),dv⟩
  ·cases e
 |scr ns=>
  simp only [DV,A7,Option.some.injEq] at r e
  subst e
  obtain ⟨a,rfl,ha⟩:=r
  exact ⟨a,_,rfl,.inl ha.sq,Ml⟩
 |_=>simp [A7] at e
def Zf (neg:Bool):D→D→HD→Out D:=fun x y h=>match A7 y h with
 |none=>.stuck
 |some ds=>match B4 x,AF (ds.map B4) with
  |some v,some vs=>.ok (.bl (if neg then !Hf v vs else Hf v vs)) h
  |_,_=>.stuck
def Az:D→D→HD→Out D:=fun x y h=>match A7 x h,y with
 |some ds,.int i=>match Bx ds i with
  |some d=>.ok d h
  |none=>.stuck
 |_,_=>.stuck
theorem Tn {ds:List D} {vs:List V} {i:Int} {d:D} (r:DVs X.K m H ds vs) (e:Bx ds i=some d):∃v,Bx vs i=some v∧DV X.K m H d v:=by
 unfold Bx at e ⊢
 rw [r.len] at e
 cases k:Cb vs.length i with
 |none=>rw [k] at e;cases e
 |some j=>
  rw [k] at e
  exact r.get e
theorem To {a b:Expr} {pos:Pos} {f g:ME} (ha:Ev X E a f) (hb:Ev X E b g) (hs:JG b):Ev X E (.Subscript a b pos) (Ae Az f g):=
 Bq (LZ (ix_list.or ix_tup) ha hb hs) fun σ H Q hq=>F9 hq fun m H2 h2 x y v u hr rx ry q=>by
  unfold Az at q
  split at q
  ·rename_i ds i e
   split at q
   ·rename_i d ed
    simp only [DV] at ry
    subst ry
    obtain ⟨p,vs,rfl,hsq,dv⟩:=JY hr rx e
    obtain ⟨w,e1,r1⟩:=Tn dv ed
    rcases hsq with hsq |hsq
    ·exact .inl ⟨p,vs,i,w,rfl,rfl,hsq,e1,AL hr q r1⟩
    ·exact .inr ⟨p,vs,i,w,rfl,rfl,hsq,e1,AL hr q r1⟩
   ·exact q.elim
  ·exact q.elim
def Bj:D→HD→Out D:=fun x h=>match A7 x h with
 |some ds=>.ok (.int ds.length) h
 |none=>.stuck
theorem Ei {F:D→HD→Out D} {ds:List D} {vs:List V} {Q:VK} {C:Prop} (r:DVs X.K m H ds vs) (q:Post X.K (rD X.K) m H E Q (Aj F ds h)) (k:∀d v,vs=[v]→DV X.K m H d v→Post X.K (rD X.K) m H E Q (F d h)→C):C:=by
 unfold Aj at q
 split at q
 ·simp only [DVs] at r
  obtain ⟨v,w,rfl,rv,rfl⟩:=r
  exact k _ v rfl rv q
 ·exact q.elim
theorem Hv {F:D→D→HD→Out D} {ds:List D} {vs:List V} {Q:VK} {C:Prop} (r:DVs X.K m H ds vs) (q:Post X.K (rD X.K) m H E Q (AV F ds h)) (k:∀d d' v v',vs=[v,v']→DV X.K m H d v→DV X.K m H d' v'→Post X.K (rD X.K) m H E Q (F d d' h)→C):C:=by
 unfold AV at q
 split at q
 ·simp only [DVs] at r
  obtain ⟨v,w,rfl,rv,v',w',rfl,rv',rfl⟩:=r
  exact k _ _ v v' rfl rv rv' q
 ·exact q.elim
theorem Tq:B3 X (.builtin "len") (Aj Bj):=by
 refine ⟨_,Sn,fun m H h E ds vs Q hr r q=>Ei r q fun d v ev rv q=>?_⟩
 unfold Bj at q
 split at q
 ·rename_i xs e
  obtain ⟨p,ws,rfl,hs,dv⟩:=JY hr rv e
  exact ⟨p,ws,ev,hs,by rw [←dv.len];exact AL hr q (by simp [DV])⟩
 ·exact q.elim
def CDv (i j:Int):Prop:=0<j∧j<18446744073709551616
instance (i j:Int):Decidable (CDv i j):=by unfold CDv;infer_instance
theorem CDv.no {i j:Int} (h:CDv i j):Builtin.divisionGoesByPylong i j=false:=by
 refine PyProof.noPylong_of_log2 ?_
 have h0:j.natAbs≠0:=by have:=h.1;omega
 have h1:j.natAbs<2^64:=by have:=h.2;have:=h.1;omega
 exact Nat.lt_trans ((Nat.log2_lt h0).mpr h1) (by decide)
theorem Tr:B1 X (.builtin "divmod") (fun xs H Q=>∃i j,xs=[.int i,.int j]∧CDv i j∧∀p,H p=none→Q (.ref p) (Ai H p (.tup [.int (i / j),.int (i % j)]))):=by
 intro pins s σ H xs us Q I r h
 obtain ⟨i,j,rfl,hc,q⟩:=h
 obtain ⟨u,w',rfl,⟨t,rfl⟩,⟨t',rfl⟩⟩:=Hd r
 have h1:=hc.1
 refine divmod_int (by omega) ?_ (.inl hc.no)
 rw [Int.fdiv_eq_ediv_of_nonneg i (by omega),Int.fmod_eq_emod_of_nonneg i (by omega)]
 have hn:H s.heap.objs.size=none:=I.hok.fresh (Ap _)
 refine ⟨.ref s.heap.objs.size,_,?_,rfl,q _ hn⟩
 refine I.laid (fun b o e=>AH _ e) (Ap _) ⟨by simp only [EV,List.length_nil];rw [sizeLine_eq];decide,[.int (i / j) s.toks,.int (i % j) (s.toks+1)],.cons ⟨_,rfl⟩ (.cons ⟨_,rfl⟩ .nil),?_,NoDict.new⟩
 exact ⟨_,Bf s.heap rfl,rfl,0,rfl⟩
def Gf:D→D→HD→Out D
 |.int i,.int j,h=>if CDv i j then .ok (.tup [.int (i / j),.int (i % j)]) h else .stuck
 |_,_,_=>.stuck
theorem Ts:B3 X (.builtin "divmod") (AV Gf):=by
 refine ⟨_,Tr,fun m H h E ds vs Q hr r q=>Hv r q fun d d' v v' ev rv rv' q=>?_⟩
 unfold Gf at q
 split at q
 ·split at q
  ·rename_i i j hc
   simp only [DV] at rv rv'
   subst rv rv'
   exact ⟨i,j,ev,hc,DO hr (.cons (by simp [DV]) (.cons (by simp [DV]) .nil)) q⟩
  ·exact q.elim
 ·exact q.elim
theorem Tt:OpR X (binaryOp .FloorDiv) (rI CDv fun i j=>.int (i / j)):=Ha fun i j _ _ _ _ _ hc q=>by
 have h1:=hc.1
 exact floordiv_int (by omega) (by rw [Int.fdiv_eq_ediv_of_nonneg i (by omega)];exact q) (.inl hc.no)
abbrev Hw:=intD (fun i j=>.int (i / j)) CDv
theorem Tu:Bh X (binaryOp .FloorDiv) Hw:=JS Tt (fun _ _ h=>h) fun _ _ _ _=>by simp [DV]
def Gg:D→D→HD→Out D
 |.int i,.int j,h=>.ok (.int (if j>i then j else i)) h
 |_,_,_=>.stuck
def Gh:D→D→HD→Out D
 |.int i,.int j,h=>.ok (.int (if j<i then j else i)) h
 |_,_,_=>.stuck
theorem Tv (hc:X.calm=true):B3 X (.builtin "max") (AV Gg):=by
 refine ⟨_,RK hc,fun m H h E ds vs Q hr r q=>Hv r q fun d d' v v' ev rv rv' q=>?_⟩
 unfold Gg at q
 split at q
 ·simp only [DV] at rv rv'
  subst rv rv'
  exact ⟨_,_,ev,AL hr q (by simp [DV])⟩
 ·exact q.elim
theorem Tw (hc:X.calm=true):B3 X (.builtin "min") (AV Gh):=by
 refine ⟨_,RL hc,fun m H h E ds vs Q hr r q=>Hv r q fun d d' v v' ev rv rv' q=>?_⟩
 unfold Gh at q
 split at q
 ·simp only [DV] at rv rv'
  subst rv rv'
  exact ⟨_,_,ev,AL hr q (by simp [DV])⟩
 ·exact q.elim
def Gi:D→HD→Out D
 |.int i,h=>.ok (.int i) h
 |.bl b,h=>.ok (.int (if b then 1 else 0)) h
 |_,_=>.stuck
theorem Tx:B3 X (.type "int") (Aj Gi):=by
 refine ⟨_,RM,fun m H h E ds vs Q hr r q=>Ei r q fun d v ev rv q=>?_⟩
 unfold Gi at q
 split at q
 ·simp only [DV] at rv;subst rv
  exact .inl ⟨_,ev,AL hr q (by simp [DV])⟩
 ·simp only [DV] at rv;subst rv
  exact .inr ⟨_,ev,AL hr q (by simp [DV])⟩
 ·exact q.elim
def BC:D→HD→Out D:=fun x h=>match x with
 |.tup ds=>.ok (.tup ds) h
 |.loc l=>match h[l]? with
  |some (.lst ds)=>.ok (.tup ds) h
  |_=>.stuck
 |_=>.stuck
theorem Tz:B3 X (.type "tuple") (Aj BC):=by
 refine ⟨_,Sq,fun m H h E ds vs Q hr r q=>Ei r q fun d v ev rv q=>?_⟩
 unfold BC at q
 split at q
 ·simp only [DV] at rv
  obtain ⟨a,ws,rfl,ha,dv⟩:=rv
  exact ⟨a,ws,ev,.inr ⟨SqT.of ha,AL hr q (by simp only [DV];exact ⟨a,ws,rfl,ha,dv⟩)⟩⟩
 ·split at q
  ·rename_i ds' el
   simp only [DV] at rv
   obtain ⟨a,rfl,ha⟩:=rv
   obtain ⟨ws,hv,dv⟩:=hr.cells _ _ a el ha
   exact ⟨a,ws,ev,.inl ⟨SqL.of hv,DO hr dv q⟩⟩
  ·exact q.elim
 ·exact q.elim
end
theorem PostS.bind {α β:Type} {K:PySem.W.Frag} {m:List Addr} {H:Hp} {R:List Addr→Hp→α→β→Prop} {E:XK} {Q':β→Hp→Prop} {Dn:Cs} {o:Out α} {k:α→HD→Out (Fl×Af)}
 (h:PostS K m H E Dn (o.bind k)) (f:∀a h1 v m1 H1,o=.ok a h1→m <+:m1→Kp H H1→HR K m1 h1 H1→R m1 H1 a v→PostS K m1 H1 E Dn (k a h1)→Q' v H1):Post K R m H E Q' o:=by
 cases o with
 |ok a h1=>exact fun v m1 H1 p kk hr r=>f a h1 v m1 H1 rfl p kk hr r (h.ahead p kk)
 |err C fs h1=>exact h
 |stuck=>exact h
theorem PostS.here {K:PySem.W.Frag} {m:List Addr} {H:Hp} {E:XK} {Dn:Cs} {a:Fl×Af} {h:HD} (hr:HR K m h H) (p:PostS K m H E Dn (.ok a h)):L9 K m H Dn a:=p m H (Ay _) (.refl _) hr
section
variable {X:Cx} {E:XK} {st:Stmt} {sts b1 b2:List Stmt} {g g1 g2:MS} {e:Expr} {f:ME} {pos:Pos} {t:MT}
def A2:MS:=fun ρ h=>.ok (.nx,ρ) h
def Ah (g1 g2:MS):MS:=fun ρ h=>(g1 ρ h).bind fun x h1=>match x with
 |(.nx,ρ1)=>g2 ρ1 h1
 |y=>.ok y h1
theorem TB:BQ X E [] A2:=JQ QX fun Dn σ H z1_=>by obtain ⟨m,ρ,h,hr,er,p⟩:=z1_;exact ((p.here hr) σ er)
theorem Hx (h:Ex X E st g):BQ X E [st] g:=QZ h
theorem Hz (h1:Ex X E st g1) (h2:BQ X E sts g2):BQ X E (st::sts) (Ah g1 g2):=
 JQ (QY h1 h2) fun Dn σ H z2_=>by
  obtain ⟨m,ρ,h,hr,er,p⟩:=z2_
  refine ⟨m,ρ,h,hr,er,?_⟩
  unfold Ah at p
  cases o:g1 ρ h with
  |stuck=>rw [o] at p;exact p
  |err C fs h1=>rw [o] at p;exact p
  |ok x h1=>
   rw [o] at p
   obtain ⟨fl,ρ1⟩:=x
   intro m1 H1 p1 k1 hr1
   cases fl with
   |nx=>exact fun σ1 er1=>⟨m1,ρ1,h1,hr1,er1,PostS.ahead p1 k1 p⟩
   |bk=>exact p m1 H1 p1 k1 hr1
   |ct=>exact p m1 H1 p1 k1 hr1
   |rt d=>exact p m1 H1 p1 k1 hr1
def CH (f:ME):MS:=fun ρ h=>(f ρ h).bind fun _ h1=>.ok (.nx,ρ) h1
theorem TC (he:Ev X E e f) (hs:swapsWith e none pos.line X.env=pure false:=by rfl):Ex X E (.Expr e pos) (CH f):=
 DM (Q1 he hs) fun Dn σ H z3_=>by obtain ⟨m,ρ,h,hr,er,p⟩:=z3_;exact (⟨m,ρ,h,hr,er,PostS.bind p fun x h1 v m1 H1 _ p1 k1 hr1 r1 q1=>(q1.here hr1) σ (er.keep p1 k1)⟩)
def As (f:ME):MS:=fun ρ h=>(f ρ h).bind fun d h1=>.ok (.rt d,ρ) h1
theorem Mm (he:Ev X E e f):Ex X E (.Return (some e) pos) (As f):=
 DM (Q3 he) fun Dn σ H z4_=>by obtain ⟨m,ρ,h,hr,er,p⟩:=z4_;exact (⟨m,ρ,h,hr,er,PostS.bind p fun x h1 v m1 H1 _ p1 k1 hr1 r1 q1=>(q1.here hr1) v r1⟩)
def AW (t:MT) (g1 g2:MS):MS:=fun ρ h=>(t ρ h).bind fun b h1=>if b=true then g1 ρ h1 else g2 ρ h1
theorem TF {c:Expr} (hc:CG X E c t) (ha:BQ X E b1 g1) (hb:BQ X E b2 g2):Ex X E (.If c b1 b2 pos) (AW t g1 g2):=
 DM (Q5 hc ha hb) fun Dn σ H z5_=>by obtain ⟨m,ρ,h,hr,er,p⟩:=z5_;exact (⟨m,ρ,h,hr,er,PostS.bind p fun x h1 v m1 H1 _ p1 k1 hr1 r1 q1=>by
  cases r1
  cases x with
  |true=>exact ⟨m1,ρ,h1,hr1,er.keep p1 k1,q1⟩
  |false=>exact ⟨m1,ρ,h1,hr1,er.keep p1 k1,q1⟩⟩)
def Mn:MS:=fun _ _=>.stuck
theorem TH:BQ X E sts Mn:=JQ Q7 fun Dn σ H z7_=>by obtain ⟨m,ρ,h,hr,er,p⟩:=z7_;exact (p)
def Am (i:Nat) (f:ME):MS:=fun ρ h=>(f ρ h).bind fun d h1=>.ok (.nx,ρ.set i (some d)) h1
theorem JZ {i:Nat} {x:Str} {pos':Pos} (hN:X.N.Nodup) (hi:X.N[i]?=some x) (hx:Eb X.env.scope x) (he:Ev X E e f) (hs:swapsWith e (some (.Name x pos')) pos.line X.env=pure false:=by rfl) (hf:X.fn x=true∨X.env.scope.names.lookup x=some .local:=by first |exact .inl rfl |exact .inr rfl |assumption):
 Ex X E (.Assign [.Name x pos'] e pos) (Am i f):=
 DM (Ra hN hi hx he hs hf) fun Dn σ H z9_=>by obtain ⟨m,ρ,h,hr,er,p⟩:=z9_;exact (⟨m,ρ,h,hr,er,PostS.bind p fun x h1 v m1 H1 _ p1 k1 hr1 r1 q1=>(q1.here hr1) _ ((er.keep p1 k1).set r1)⟩)
def Fe (i j:Nat) (fa:MA):MS:=fun ρ h=>(fa ρ h).bind fun ds h1=>match ds with
 |[x,y]=>.ok (.nx,(ρ.set i (some x)).set j (some y)) h1
 |_=>.stuck
theorem TJ {i j:Nat} {x y:Str} {a b:Expr} {fa:MA} {px py pt:Pos} {kt k2:Nat} {pt2:Pos} (hc:X.calm=true) (hN:X.N.Nodup) (hi:X.N[i]?=some x) (hj:X.N[j]?=some y) (hij:i≠j)
 (hx:X.env.scope.names.lookup x=some .local) (hy:X.env.scope.names.lookup y=some .local) (ha:Cf X E [a,b] fa)
 (hw:swappedStores [.Tuple [.Name x px,.Name y py] kt pt] (.Tuple [a,b] k2 pt2) X.env=pure (some [x,y]))
 (hs:swapsWithSole [.Tuple [.Name x px,.Name y py] kt pt] (.Tuple [a,b] k2 pt2) pos.line X.env=pure false:=by rfl):
 Ex X E (.Assign [.Tuple [.Name x px,.Name y py] kt pt] (.Tuple [a,b] k2 pt2) pos) (Fe i j fa):=
 DM (Rc hc hN hi hj hij hx hy ha hw hs) fun Dn σ H z10_=>by obtain ⟨m,ρ,h,hr,er,p⟩:=z10_;exact (⟨m,ρ,h,hr,er,PostS.bind p fun x h1 v m1 H1 _ p1 k1 hr1 r1 q1=>by
  split at q1
  ·simp only [E6,DVs] at r1
   obtain ⟨v,w,rfl,rv,v',w',rfl,rv',rfl⟩:=r1
   exact ⟨v,v',rfl,(q1.here hr1) _ (((er.keep p1 k1).set rv).set rv')⟩
  ·exact q1.elim⟩)
abbrev MG:=D→Af→Option Af
def DR (X:Cx) (tg:Expr) (sg:MG):Prop:=
 ∃gg:TG,PG X tg gg∧∀m H d v ρ σ ρ' Q,DV X.K m H d v→ER X.K m H ρ σ→sg d ρ=some ρ'→(∀σ',ER X.K m H ρ' σ'→Q σ' H)→gg v σ H Q
def AG (i:Nat):MG:=fun d ρ=>some (ρ.set i (some d))
def Gj (i j:Nat):MG:=fun d ρ=>match d with
 |.tup [x,y]=>some ((ρ.set i (some x)).set j (some y))
 |_=>none
theorem TK {i:Nat} {x:Str} (h:PG X (.Name x pos) (B0 i)):DR X (.Name x pos) (AG i):=⟨_,h,fun m H d v ρ σ ρ' Q r er e q=>by
 simp only [AG,Option.some.injEq] at e
 subst e
 exact q _ (er.set r)⟩
theorem TL {i j:Nat} {x y:Str} {px py:Pos} {kt:Nat} (h:PG X (.Tuple [.Name x px,.Name y py] kt pos) (E2 X.K 2 (CN (B0 i) (CN (B0 j) E1)))):DR X (.Tuple [.Name x px,.Name y py] kt pos) (Gj i j):=⟨_,h,fun m H d v ρ σ ρ' Q r er e q=>by
 unfold Gj at e
 split at e
 ·rename_i a b
  cases e
  simp only [DV,DVs] at r
  obtain ⟨p,vs,rfl,hp,v1,w1,rfl,r1,v2,w2,rfl,r2,rfl⟩:=r
  exact ⟨p,_,rfl,SqT.of hp,rfl,v1,_,rfl,v2,_,rfl,rfl,q _ ((er.set r1).set r2)⟩
 ·cases e⟩
def Ej (sg:MG) (f:ME):MS:=fun ρ h=>(f ρ h).bind fun d h1=>match sg d ρ with
 |some ρ1=>.ok (.nx,ρ1) h1
 |none=>.stuck
theorem TM {tg:Expr} {sg:MG} (he:Ev X E e f) (hg:DR X tg sg) (hs:swapsWithSole [tg] e pos.line X.env=pure false:=by rfl) (hw:swappedStores [tg] e X.env=pure none:=by rfl)
 (h1:(assignEach [tg] X.env).map (·.2)=[assign tg X.env]:=by rfl):Ex X E (.Assign [tg] e pos) (Ej sg f):=by
 obtain ⟨gg,hg,i⟩:=hg
 exact DM (LC he hg hs hw h1) fun Dn σ H z11_=>by obtain ⟨m,ρ,h,hr,er,p⟩:=z11_;exact (⟨m,ρ,h,hr,er,PostS.bind p fun x h1 v m1 H1 _ p1 k1 hr1 r1 q1=>by
  split at q1
  ·rename_i ρ1 es
   exact i m1 H1 x v ρ σ ρ1 _ r1 (er.keep p1 k1) es fun σ' er'=>(q1.here hr1) σ' er'
  ·exact q1.elim⟩)
abbrev AJ:=List (Nat×List D)
def Br (src:AJ) (items:List D) (h:HD):Prop:=∀p∈src,h[p.1]?=some (.lst p.2)
theorem DS {items:List D} {h:HD}:Br [] items h:=fun p z=>nomatch z
theorem J0 {items ds:List D} {h:HD} {l:Nat} (e:h[l]?=some (.lst ds)):Br [(l,ds)] items h:=fun p z=>by
 rw [qb4] at z
 subst z
 exact e
def HA (K:PySem.W.Frag):List Addr→Hp→(List D×AJ)→It→Prop:=fun m1 H1 x J=>
 ∀i m2 h2 H2,m1 <+:m2→Kp H1 H2→HR K m2 h2 H2→Br x.2 x.1 h2→
  (i<x.1.length→J.go i H2∧∀y H3,J.yld i H2 y H3→Kp H2 H3∧HR K m2 h2 H3∧∃d,x.1[i]?=some d∧DV K m2 H3 d y)∧(i=x.1.length→J.stop i H2)
abbrev MI:=Af→HD→Out (List D×AJ)
abbrev DT (X:Cx) (E:XK) (tg iter:Expr) (it:MI):Prop:=PI X tg iter (tM X.K (HA X.K) E it)
theorem J1 {tg iter:Expr} {w w':TI} (h:PI X tg iter w) (i:∀σ H R,w' σ H R→w σ H R):PI X tg iter w':=fun pins s σ H R I q=>h pins s σ H R I (i σ H R q)
theorem TN {tg l:Expr} {tl:TE} (hl:PE X l tl):PI X tg l (fun σ H R=>tl σ H fun x H1=>∃a,x=.ref a∧(((∃xs,SqL X.K H1 a xs)∧R (F6 X.K a) H1)∨((∃xs,SqT X.K H1 a xs)∧R (F7 X.K a) H1))):=by
 intro pins s σ H R I h
 refine Ak (hl pins s σ H _ I h) fun v s1 z12_=>?_
 obtain ⟨x,H1,I1,r1,q1⟩:=z12_
 obtain ⟨a,e,q⟩:=q1
 subst e
 cases r1
 rcases q with ⟨⟨xs,hq⟩,q⟩ |⟨⟨xs,hq⟩,q⟩
 ·obtain ⟨its,rv,p,hz⟩:=I1.list hq
  refine wpAny_pyIter_list p.isList ?_
  refine ⟨s1.heap.objs.size,[s1.heap.objs.size],_,_,H1,rfl,I1.kept (t':=s1.toks) fun b o e=>AH _ e,Re a _,⟨_,Bf _ rfl,rfl,rfl⟩,fun b hb=>?_,q⟩
  have e:b=s1.heap.objs.size:=by simpa using hb
  subst e
  exact I1.fpOk (Ap _) (I1.hok.fresh (Ap _))
 ·obtain ⟨its,rv,p,hz⟩:=I1.tuple hq
  refine wpAny_pyIter_tuple (show s1.heap.IsTuple a its.toArray from p) ?_
  refine ⟨s1.heap.objs.size,[s1.heap.objs.size],_,_,H1,rfl,I1.kept (t':=s1.toks) fun b o e=>AH _ e,Rf a _,⟨_,Bf _ rfl,rfl,rfl⟩,fun b hb=>?_,q⟩
  have e:b=s1.heap.objs.size:=by simpa using hb
  subst e
  exact I1.fpOk (Ap _) (I1.hok.fresh (Ap _))
def HB:D→List D→AJ
 |.loc l,ds=>[(l,ds)]
 |_,_=>[]
def Do (d:D) (h:HD):Out (List D×AJ):=match A7 d h with
 |some ds=>.ok (ds,HB d ds) h
 |none=>.stuck
def AX (f:ME):MI:=fun ρ h=>(f ρ h).bind Do
theorem Kp.lget {H H':Hp} {a:Addr} {K:PySem.W.Frag} {xs:List V} (k:Kp H H') (h:FzL K H a xs):SqL K H' a xs:=(k.fzL h).sq
theorem Mo {K:PySem.W.Frag} {a:Addr} {m:List Addr} {H:Hp} {h:HD} {i:Nat} {items:List D} {vs:List V} (hr:HR K m h H) (hs:SqL K H a vs) (dv:DVs K m H items vs) (uniq:∀ys,SqL K H a ys→ys=vs∨True):
 (i<items.length→(F6 K a).go i H∧∀y H3,(F6 K a).yld i H y H3→Kp H H3∧HR K m h H3∧∃d,items[i]?=some d∧DV K m H3 d y)∧(i=items.length→(F6 K a).stop i H):=by
 refine ⟨fun hi=>?_,fun hi=>⟨vs,hs,by rw [←dv.len];exact Nat.le_of_eq hi.symm⟩⟩
 have hd:items[i]?=some items[i]:=Bb hi
 obtain ⟨v,e1,r1⟩:=dv.get hd
 refine ⟨⟨vs,v,hs,e1⟩,fun y H3 z13_=>?_⟩
 obtain ⟨e3,hy⟩:=z13_
 subst e3
 have:=hy vs hs
 rw [e1] at this
 cases this
 exact ⟨.refl _,hr,_,hd,r1⟩
theorem TQ {K:PySem.W.Frag} {a:Addr} {m:List Addr} {H:Hp} {h:HD} {i:Nat} {items:List D} {vs:List V} (hr:HR K m h H) (hs:SqT K H a vs) (dv:DVs K m H items vs):
 (i<items.length→(F7 K a).go i H∧∀y H3,(F7 K a).yld i H y H3→Kp H H3∧HR K m h H3∧∃d,items[i]?=some d∧DV K m H3 d y)∧(i=items.length→(F7 K a).stop i H):=by
 refine ⟨fun hi=>?_,fun hi=>⟨vs,hs,by rw [←dv.len];exact Nat.le_of_eq hi.symm⟩⟩
 have hd:items[i]?=some items[i]:=Bb hi
 obtain ⟨v,e1,r1⟩:=dv.get hd
 refine ⟨⟨vs,v,hs,e1⟩,fun y H3 z14_=>?_⟩
 obtain ⟨e3,hy⟩:=z14_
 subst e3
 have:=hy vs hs
 rw [e1] at this
 cases this
 exact ⟨.refl _,hr,_,hd,r1⟩
theorem TR {tg a:Expr} (ha:Ev X E a f):DT X E tg a (AX f):=
 J1 (TN ha) fun σ H R ⟨m,ρ,h,hr,er,p⟩=>⟨m,ρ,h,hr,er,Post.bind p fun x h1 v m1 H1 _ p1 k1 hr1 r1 q1=>by
  unfold Do at q1
  split at q1
  ·rename_i ds eds
   cases x with
   |tup xs=>
    simp only [A7,Option.some.injEq] at eds
    subst eds
    simp only [rD,DV] at r1
    obtain ⟨a,vs,rfl,ha,dv⟩:=r1
    refine ⟨a,rfl,.inr ⟨⟨vs,SqT.of ha⟩,q1 _ m1 H1 (Ay _) (.refl _) hr1 fun i m2 h2 H2 p2 k2 hr2 _=>?_⟩⟩
    exact TQ hr2 (SqT.of (k2 _ _ ha rfl)) (dv.keep p2 k2)
   |loc l=>
    simp only [rD,DV] at r1
    obtain ⟨a,rfl,ha⟩:=r1
    simp only [A7] at eds
    split at eds
    ·rename_i xs el
     cases eds
     obtain ⟨vs,hv,dv⟩:=hr1.cells l _ a el ha
     refine ⟨a,rfl,.inl ⟨⟨vs,SqL.of hv⟩,q1 _ m1 H1 (Ay _) (.refl _) hr1 fun i m2 h2 H2 p2 k2 hr2 hs=>?_⟩⟩
     obtain ⟨ws,hw,dw⟩:=hr2.cells l _ a (hs _ AE) (JN p2 ha)
     exact Mo hr2 (SqL.of hw) dw fun _ _=>.inr trivial
    ·cases eds
   |scr ns=>
    simp only [A7,Option.some.injEq] at eds
    subst eds
    simp only [rD,DV] at r1
    obtain ⟨a,rfl,ha⟩:=r1
    refine ⟨a,rfl,.inl ⟨⟨_,ha.sq⟩,q1 _ m1 H1 (Ay _) (.refl _) hr1 fun i m2 h2 H2 p2 k2 hr2 _=>?_⟩⟩
    exact Mo hr2 (k2.lget ha) Ml fun _ _=>.inr trivial
   |_=>simp [A7] at eds
  ·exact q1.elim⟩
def Ek (lo:Int) (n:Nat):List D:=(List.range n).map fun k=>.int (lo+(k:Nat))
theorem TU {K:PySem.W.Frag} {m1:List Addr} {H1:Hp} (lo:Int) (n:Nat):HA K m1 H1 (Ek lo n,[]) (G7 lo n):=fun i m2 h2 H2 p2 k2 hr2 _=>by
 refine ⟨fun hi=>?_,fun hi=>?_⟩
 ·have hi':i<n:=by simpa [Ek] using hi
  refine ⟨hi',fun y H3 z16_=>?_⟩
  obtain ⟨e3,ey⟩:=z16_
  subst e3 ey
  refine ⟨.refl _,hr2,.int (lo+i),?_,by simp [DV]⟩
  simp [Ek,GQ,hi']
 ·show n≤i
  have hi':i=n:=by simpa [Ek] using hi
  omega
@[irreducible] noncomputable def Ff:List D→HD→Out (List D×AJ):=fun ds h=>match ds with
  |[.int j]=>@ite _ (-(2^62)≤j∧j<2^62) (Classical.propDecidable _) (.ok (Ek 0 j.toNat,[]) h) .stuck
  |_=>.stuck
@[irreducible] noncomputable def Mp:List D→HD→Out (List D×AJ):=fun ds h=>match ds with
  |[.int i,.int j]=>@ite _ ((-(2^62)≤i∧i<2^62)∧-(2^62)≤j∧j<2^62) (Classical.propDecidable _) (.ok (Ek i (j - i).toNat,[]) h) .stuck
  |_=>.stuck
noncomputable def CT (fa:MA):MI:=fun ρ h=>(fa ρ h).bind Ff
noncomputable def Mq (fa:MA):MI:=fun ρ h=>(fa ρ h).bind Mp
theorem TV {tg a:Expr} {fa:MA} {p pos:Pos} (hg:Gl X "range") (hm:X.mg "range"=none) (ha:Cf X E [a] fa) (hs:starEach [a] X.env=[(false,eval a X.env)]:=by rfl):DT X E tg (.Call (.Name "range" p) [a] [] pos) (CT fa):=
 J1 (Rj hg hm ha hs) fun σ H R z17_=>by obtain ⟨m,ρ,h,hr,er,p⟩:=z17_;exact (⟨m,ρ,h,hr,er,Post.bind p fun x h1 v m1 H1 _ p1 k1 hr1 r1 q1=>by
  unfold Ff at q1
  split at q1
  ·split at q1
   ·rename_i hj
    simp only [E6,DVs,DV] at r1
    obtain ⟨v,w,rfl,rfl,rfl⟩:=r1
    exact ⟨_,rfl,hj.1,hj.2,q1 _ m1 H1 (Ay _) (.refl _) hr1 (TU 0 _)⟩
   ·exact q1.elim
  ·exact q1.elim⟩)
open Classical in
noncomputable def CU (src:AJ) (items:List D) (sg:MG) (body:MS):List D→MS
 |[]=>fun ρ h=>if Br src items h then .ok (.nx,ρ) h else .stuck
 |d::ds=>fun ρ h=>if Br src items h then match sg d ρ with
   |none=>.stuck
   |some ρ1=>(body ρ1 h).bind fun x h2=>match x with
    |(.nx,ρ2)=>CU src items sg body ds ρ2 h2
    |(.ct,ρ2)=>CU src items sg body ds ρ2 h2
    |(.bk,ρ2)=>.ok (.nx,ρ2) h2
    |(.rt d,ρ2)=>.ok (.rt d,ρ2) h2
  else .stuck
noncomputable def BM (it:MI) (sg:MG) (body:MS):MS:=fun ρ h=>(it ρ h).bind fun x h1=>CU x.2 x.1 sg body x.1 ρ h1
inductive Mr (K:PySem.W.Frag) (E:XK) (Dn:Cs) (src:AJ) (items:List D) (sg:MG) (g:MS) (m1:List Addr) (H1:Hp) (i n:Nat) (σ2:L2.St) (H2:Hp):Prop where
 |mk (e:n=items.length - i) (l:i≤items.length) (m2:List Addr) (ρ2:Af) (h2:HD) (p:m1 <+:m2) (k:Kp H1 H2) (hr:HR K m2 h2 H2) (er:ER K m2 H2 ρ2 σ2) (q:PostS K m2 H2 E Dn (CU src items sg g (items.drop i) ρ2 h2)):Mr K E Dn src items sg g m1 H1 i n σ2 H2
inductive Ms (K:PySem.W.Frag) (E:XK) (Dn:Cs) (src:AJ) (items:List D) (sg:MG) (g:MS) (m1:List Addr) (H1:Hp) (i:Nat) (σ2:L2.St) (H2:Hp):Prop where
 |mk (m2:List Addr) (ρ2:Af) (h2:HD) (p:m1 <+:m2) (k:Kp H1 H2) (hr:HR K m2 h2 H2) (er:ER K m2 H2 ρ2 σ2) (q:PostS K m2 H2 E Dn (CU src items sg g (items.drop i) ρ2 h2)):Ms K E Dn src items sg g m1 H1 i σ2 H2
theorem TX {tg iter:Expr} {body:List Stmt} {it:MI} {sg:MG} {g:MS} (hp:PassesOwn (model X.prog X.w) X.A X.env X.xe) (hc:X.calm=true) (hi:DT X E tg iter it) (hg:DR X tg sg) (hb:BQ X E body g)
 (hs:∀x,foldedSetIterable iter X.env x=pure x:=by intro _;rfl):Ex X E (.For tg iter body [] pos) (BM it sg g):=by
 obtain ⟨gg,hg,ig⟩:=hg
 refine DM (Rm hp hc hi hg hb hs) ?_
 rintro Dn σ H ⟨m,ρ,h,hr,er,p⟩
 refine ⟨m,ρ,h,hr,er,PostS.bind p fun x h1 J m1 H1 _ p1 k1 hr1 r1 q1=>?_⟩
 obtain ⟨items,src⟩:=x
 refine ⟨Mr X.K E Dn src items sg g m1 H1,⟨items.length,rfl,B9 _,m1,ρ,h1,Ay _,.refl _,hr1,er.keep p1 k1,by simpa using q1⟩,?_⟩
 rintro i n σ2 H2 ⟨rfl,hi,m2,ρ2,h2,p2,k2,hr2,er2,q2⟩
 by_cases hlt:i<items.length
 ·rw [GN hlt] at q2
  unfold CU at q2
  split at q2
  ·rename_i hs
   obtain ⟨hgo,hy⟩:=(r1 i m2 h2 H2 p2 k2 hr2 hs).1 hlt
   refine .inr ⟨hgo,Ms X.K E Dn src items sg g m1 H1 (i+1),fun σ5 H5 z20_=>by obtain ⟨m5,ρ5,h5,a1,a2,a3,a4,a5⟩:=z20_;exact (⟨items.length - (i+1),by omega,rfl,hlt,m5,ρ5,h5,a1,a2,a3,a4,a5⟩),fun y H3 hyl=>?_⟩
   obtain ⟨k3,hr3,d,ed,rd⟩:=hy y H3 hyl
   have ed':d=items[i]:=by rw [Bb hlt] at ed;exact (Option.some.inj ed).symm
   subst ed'
   split at q2
   ·exact q2.elim
   ·rename_i ρ3 es
    refine ig m2 H3 _ y ρ2 σ2 ρ3 _ rd (er2.keep (Ay _) k3) es fun σ4 er4=>?_
    refine ⟨m2,ρ3,h2,hr3,er4,?_⟩
    have q3:=PostS.ahead (Ay _) k3 q2
    cases o:g ρ3 h2 with
    |stuck=>rw [o] at q3;exact q3
    |err C fs h5=>rw [o] at q3;exact q3
    |ok z h5=>
     rw [o] at q3
     obtain ⟨fl,ρ5⟩:=z
     intro m5 H5 p5 k5 hr5
     have pk:m1 <+:m5:=p2.trans p5
     have kk:Kp H1 H5:=(k2.trans k3).trans k5
     cases fl with
     |nx=>exact fun σ5 er5=>⟨m5,ρ5,h5,pk,kk,hr5,er5,PostS.ahead p5 k5 q3⟩
     |ct=>exact fun σ5 er5=>⟨m5,ρ5,h5,pk,kk,hr5,er5,PostS.ahead p5 k5 q3⟩
     |bk=>exact fun σ5 er5=>q3 m5 H5 p5 k5 hr5 σ5 er5
     |rt d=>exact fun v rv=>q3 m5 H5 p5 k5 hr5 v rv
  ·exact q2.elim
 ·have he:i=items.length:=Nat.le_antisymm hi (FY hlt)
  subst he
  rw [List.drop_length] at q2
  unfold CU at q2
  split at q2
  ·rename_i hs
   exact .inl ⟨(r1 _ m2 h2 H2 p2 k2 hr2 hs).2 rfl,(q2.here hr2) σ2 er2⟩
  ·exact q2.elim
end
section
variable {M:Model} {A:Around} {E:Value→Shared→Prop} {s:Shared}
theorem J2 {env:Env}:∀(names:List (Str×NameKind)) (acc:List (Str×Addr)),(∀y∈names,y.2=.free→∃c,env.cells.lookup y.1=some c)→
 ∃cl:List (Str×Addr),(forIn names acc (fun (x:Str×NameKind) (cs:List (Str×Addr))=>match x with
  |(name,kind)=>if (kind==NameKind.free)=true then do let y ←cellOf env name;pure (ForInStep.yield ((name,y)::cs)) else pure (ForInStep.yield cs)):Sem (List (Str×Addr)))=pure cl∧
  (∀x c,(x,c)∈cl→(x,c)∈acc∨(env.cells.lookup x=some c∧(x,NameKind.free)∈names))∧(∀y∈names,y.2=.free→∃c,(y.1,c)∈cl)∧(∀p∈acc,p∈cl)
 |[],acc,_=>⟨acc,rfl,fun x c h=>.inl h,fun y hy=>absurd hy (by simp),fun p h=>h⟩
 |(name,kind)::r,acc,h=>by
  rw [List.forIn_cons]
  by_cases hk:kind=.free
  ·subst hk
   obtain ⟨c,hc⟩:=h (name,.free) AE rfl
   obtain ⟨cl,e,h1,h2,h3⟩:=J2 (env:=env) r ((name,c)::acc) (fun y hy=>h y (AI _ hy))
   refine ⟨cl,?_,fun x c' hm=>?_,fun y hy hf=>?_,fun p hp=>h3 p (AI _ hp)⟩
   ·rw [←e]
    have:cellOf env name=pure c:=by unfold cellOf;rw [hc]
    simp only [this,beq_self_eq_true,if_true,pure_bind]
   ·rcases h1 x c' hm with q |⟨q1,q2⟩
    ·rcases qaB.mp q with q |q
     ·cases q;exact .inr ⟨hc,AE⟩
     ·exact .inl q
    ·exact .inr ⟨q1,AI _ q2⟩
   ·rcases qaB.mp hy with q |q
    ·subst q;exact ⟨c,h3 _ AE⟩
    ·exact h2 y q hf
  ·obtain ⟨cl,e,h1,h2,h3⟩:=J2 (env:=env) r acc (fun y hy=>h y (AI _ hy))
   refine ⟨cl,?_,fun x c' hm=>?_,fun y hy hf=>?_,h3⟩
   ·rw [←e]
    have hk':(kind==NameKind.free)=false:=by simpa using hk
    simp only [hk',Cq,if_false,pure_bind]
   ·rcases h1 x c' hm with q |⟨q1,q2⟩
    ·exact .inl q
    ·exact .inr ⟨q1,AI _ q2⟩
   ·rcases qaB.mp hy with q |q
    ·subst q;exact absurd hf hk
    ·exact h2 y q hf
theorem Mt {scope:Scope} {env:Env} (h:∀y∈scope.names,y.2=.free→∃c,env.cells.lookup y.1=some c):
 ∃cl:List (Str×Addr),closureFor scope env=pure cl∧(∀x c,(x,c)∈cl→env.cells.lookup x=some c∧(x,NameKind.free)∈scope.names)∧(∀y∈scope.names,y.2=.free→∃c,(y.1,c)∈cl):=by
 obtain ⟨cl,e,h1,h2,h3⟩:=J2 (env:=env) scope.names [] h
 refine ⟨cl,?_,fun x c hm=>?_,h2⟩
 ·unfold closureFor
  simp only [bind_pure]
  exact e
 ·rcases h1 x c hm with q |q
  ·exact nomatch q
  ·exact q
theorem TY {scope:Scope} {globals:Addr} {cl:List (Str×Addr)} {qual:Str} {around:Env} {Q:Env→Shared→Prop}
 (h:Q (newEnv scope s.heap.objs.size globals (cellsFrom (s.heap.objs.size+1) scope.names cl) qual none .none (some around) builtinsNs) {s with heap:=pushCells (s.heap.push {cls:=.type "dict",data:=.dict #[]}) scope.names}):
 wpAny M A (newFunctionEnv scope globals cl [] qual none .none (some around)) Q E s:=by
 simp only [newFunctionEnv,Option.isSome_some,if_true]
 refine wpAny_bind (wpAny_alloc ?_)
 refine wpAny_bind (wpAny_layCells _ (fun name kind cells=>by cases hkc:kind==NameKind.cell<;>simp [hkc]) _ _ _ _ ?_)
 simp only [List.forIn_nil,pure_bind]
 refine wpAny_pure ?_
 rw [show ({s with heap:=s.heap.push {cls:=.type "dict",data:=.dict #[]}}:Shared).heap.objs.size=s.heap.objs.size+1 from D9 ..]
 exact h
end
section
variable {prog:Program} {w:World} {A:Around} {R:Result→Shared→Prop} {s:Shared}
theorem TZ {elt target iter:Expr} {ifs:List Expr} {scope:Scope} {pos:Pos} {it acc:Value} {env:Env} (I:Nat→Shared→Prop)
 (turn:∀n s,I n s→wpAny (model prog w) A (pyNext it) (fun r s₁=>match r with
  |none=>R (.ok .next) s₁
  |some v=>wpAny (model prog w) A (letOwnedTupleGo target it v) (fun _ s₁'=>wpAny (model prog w) A (assign target env v) (fun _ s₂=>
   wpAny (model prog w) A (forIn ifs true fun c r=>if r=true then do let ok ←isTrue c env (eval c env);pure (ForInStep.yield ok) else pure (ForInStep.yield r)) (fun ok s₃=>
    if ok=true then wpAny (model prog w) A (eval elt env) (fun x s₄=>
     wpAny (model prog w) A (call (.builtin "list.append") [acc,x]) (fun _ s₅=>∃m,m<n∧I m s₅) (notedBy (model prog w) A env fun e s'=>R (.error e) s') s₄) (notedBy (model prog w) A env fun e s'=>R (.error e) s') s₃
    else ∃m,m<n∧I m s₃) (notedBy (model prog w) A env fun e s'=>R (.error e) s') s₂) (notedBy (model prog w) A env fun e s'=>R (.error e) s') s₁') (notedBy (model prog w) A env fun e s'=>R (.error e) s') s₁) (notedBy (model prog w) A env fun e s'=>R (.error e) s') s)
 (n:Nat) (h:I n s):
 codeAny (model prog w) A (.compLoop (.ListComp elt [⟨target,iter,ifs,0⟩] scope pos) 0 it acc env) R s:=by
 refine codeAny_loop rfl I (fun n s hI=>?_) n h
 show wpAny _ A ((compTurn (.ListComp elt [⟨target,iter,ifs,0⟩] scope pos) 0 it acc env).onRaise (fun x=>do noteFrame x env;theTreesLotGoes x)) _ _ s
 refine wpAny_noted ?_
 rw [compTurn_list]
 refine wpAny_bind (wpAny_standAt (wpAny_bind (wpAny_mono (turn n s hI) (fun r s₁ h₁=>?_) fun _ _ h'=>h')))
 cases r with
 |none=>exact wpAny_pure h₁
 |some v=>
  refine wpAny_bind (wpAny_mono h₁ (fun _ s₁' h₁'=>?_) fun _ _ h'=>h')
  refine wpAny_bind (wpAny_mono h₁' (fun _ s₂ h₂=>wpAny_bind (wpAny_mono h₂ (fun ok s₃ h₃=>?_) fun _ _ h'=>h')) fun _ _ h'=>h')
  cases ok with
  |false=>exact wpAny_pure ⟨rfl,h₃⟩
  |true=>
   exact wpAny_bind (wpAny_bind (wpAny_mono h₃ (fun x s₄ h₄=>wpAny_bind (wpAny_mono h₄ (fun _ s₅ h₅=>wpAny_pure (wpAny_pure ⟨rfl,h₅⟩)) fun _ _ h'=>h')) fun _ _ h'=>h'))
end
def Gk (X:Cx) (ifs:List Expr) (t:TT):Prop:=∀(pins:List (Addr×Obj)) (s:Shared) (σ:L2.St) (H:Hp) (Q:Bool→Hp→Prop),Inv X pins σ H s→t σ H Q→
 wpAny (model X.prog X.w) X.A (forIn ifs true fun c r=>if r=true then do let ok ←isTrue c X.env (eval c X.env);pure (ForInStep.yield ok) else pure (ForInStep.yield r)) (TP X pins σ Q) X.xe s
theorem T1 {X:Cx}:Gk X [] (fun _ H Q=>Q true H):=fun _ _ _ H _ I h=>wpAny_tests_nil ⟨H,I,h⟩
theorem T3 {X:Cx} {c:Expr} {t:TT} (h:PT X c t):Gk X [c] t:=fun pins s σ H Q I q=>wpAny_tests_one (h pins s σ H Q I q)
def Mu (env:Env) (scope:Scope) (C:Addr) (cells:List (Str×Addr)):Env:=
 {scope:=relabel scope env,locals:=C,globals:=env.globals,cells:=cells,qual:=env.qual,func:=none,code:=env.code,frame:=env.frame,builtins:=env.builtins}
def Bk (X:Cx) (Nc:List Str) (scope:Scope) (C D:Addr) (cells:List (Str×Addr)) (fp:List Addr) (s₀:Shared) (H₀:Hp) (pins:List (Addr×Obj)):Cx:=
 {X with N:=Nc,s₀:=s₀,H₀:=H₀,env:=Mu X.env scope C cells,outer:=X.stack,stack:=X.stack,ex:=D::fp,fn:=fun x=>scope.names.lookup x==some .cell,pn:=X.pn++pins,xe:=fun _ _=>False}
def A8 (cs:List (Option Nat)) (σ:L2.St):L2.St:=cs.map fun o=>o.bind fun j=>(σ[j]?).join
def Sub (σ σ':L2.St):Prop:=σ.length=σ'.length∧∀(i:Nat) v,σ[i]?=some (some v)→σ'[i]?=some (some v)
def HC (cs:List (Option Nat)) (wi:TI) (g:TG) (tc:TT) (te:TE):TE:=fun σ H Q=>wi σ H fun J H1=>∃W:Nat→Nat→List V→Hp→Prop,(∃n,W 0 n [] H1)∧∀i n acc H,W i n acc H→
 (J.stop i H∧acc.length≤sizeLine∧∀p,H p=none→Q (.ref p) (Ai H p (.lst acc)))∨
 (J.go i H∧acc.length<sizeLine∧∀x H',J.yld i H x H'→g x (A8 cs σ) H' fun σ2 H2=>Sub (A8 cs σ) σ2∧tc σ2 H2 fun b H3=>if b=true then te σ2 H3 fun y H4=>∃n',n' < n∧W (i+1) n' (acc++[y]) H4 else ∃n',n' < n∧W (i+1) n' acc H3)
theorem J3:∀(names:List (Str×NameKind)) (h:Heap) (acc:List (Str×Addr)) (x:Str) (c:Addr),(x,c)∈cellsFrom h.objs.size names acc→(x,c)∈acc∨(h.objs.size≤c∧(x,NameKind.cell)∈names∧(pushCells h names).IsCell c none)
 |[],_,_,_,_,m=>.inl m
 |(name,kind)::r,h,acc,x,c,m=>by
  unfold cellsFrom at m
  unfold pushCells
  split at m
  ·rename_i hk
   rw [if_pos hk]
   have hk':kind=.cell:=by simpa using hk
   have e:h.objs.size+1=(h.push {cls:=.type "cell",data:=.cell none}).objs.size:=(D9 ..).symm
   rw [e] at m
   rcases J3 r _ _ x c m with q |⟨q1,q2,q3⟩
   ·rcases qaB.mp q with q |q
    ·cases q
     refine .inr ⟨Ap _,by rw [hk'];exact AE,?_⟩
     exact (show (h.push {cls:=.type "cell",data:=.cell none}).IsCell h.objs.size none from ⟨_,Bf _ rfl,rfl⟩).keeps fun b o e=>pushCells_keeps _ _ b o e
    ·exact .inl q
   ·exact .inr ⟨by rw [←e] at q1;exact GT q1,AI _ q2,q3⟩
  ·rename_i hk
   rw [if_neg hk]
   rcases J3 r h acc x c m with q |⟨q1,q2,q3⟩
   ·exact .inl q
   ·exact .inr ⟨q1,AI _ q2,q3⟩
theorem J4:∀(names:List (Str×NameKind)) (h:Heap) (acc:List (Str×Addr)),(∀x c,(x,c)∈acc→c<h.objs.size)→(∀x y c,(x,c)∈acc→(y,c)∈acc→x=y)→
 ∀x y c,(x,c)∈cellsFrom h.objs.size names acc→(y,c)∈cellsFrom h.objs.size names acc→x=y
 |[],_,_,_,i=>i
 |(name,kind)::r,h,acc,lt,i=>by
  unfold cellsFrom
  split
  ·have e:h.objs.size+1=(h.push {cls:=.type "cell",data:=.cell none}).objs.size:=(D9 ..).symm
   rw [e]
   refine J4 r _ _ (fun x c m=>?_) (fun x y c m m'=>?_)
   ·rw [←e]
    rcases qaB.mp m with q |q
    ·cases q;exact Nat.lt_succ_self _
    ·exact Nat.lt_succ_of_lt (lt x c q)
   ·rcases qaB.mp m with q |q<;>rcases qaB.mp m' with q' |q'
    ·cases q;cases q';rfl
    ·cases q;exact absurd (lt y _ q') (BY _)
    ·cases q';exact absurd (lt x _ q) (BY _)
    ·exact i x y c q q'
  ·exact J4 r h acc lt i
theorem lookup_mem {α:Type} {l:List (Str×α)} {x:Str} {k:α} (nd:(l.map (·.1)).Nodup) (h:(x,k)∈l):l.lookup x=some k:=by
 induction l with
 |nil=>cases h
 |cons p r ih=>
  obtain ⟨y,j⟩:=p
  rw [Bg,qbF] at nd
  rw [D8]
  rcases qaB.mp h with e |e
  ·cases e;simp
  ·have:x≠y:=by
    rintro rfl
    exact nd.1 (qaK.mpr ⟨(x,k),e,rfl⟩)
   have hb:(x==y)=false:=by simpa using this
   rw [hb]
   exact ih nd.2 e
theorem T4 {env:Env} {x n:Str} {j:NameKind} {r:List (Str×NameKind)} {k:NameKind} (h:List.lookup x ((if (j==NameKind.free&&env.scope.kind==.function&&env.kindOf n==some .cell)=true then (n,NameKind.cell) else (n,j))::r)=some k):
 (x=n∧(k=j∨(j=.free∧k=.cell)))∨(x≠n∧List.lookup x r=some k):=by
 by_cases hx:x=n
 ·subst hx
  refine .inl ⟨rfl,?_⟩
  split at h
  ·rename_i hc
   rw [D8] at h
   simp only [beq_self_eq_true] at h
   cases h
   simp only [BW] at hc
   exact .inr ⟨by simpa using hc.1.1,rfl⟩
  ·rw [D8] at h
   simp only [beq_self_eq_true] at h
   cases h
   exact .inl rfl
 ·have hb:(x==n)=false:=by simpa using hx
  refine .inr ⟨hx,?_⟩
  split at h<;>(rw [D8] at h;simp only [hb] at h;exact h)
theorem Mv {scope:Scope} {env:Env} {x:Str} {k:NameKind}:(relabel scope env).names.lookup x=some k→∃k0,scope.names.lookup x=some k0∧(k=k0∨(k0=.free∧k=.cell)):=by
 show (scope.names.map _).lookup x=some k→_
 induction scope.names with
 |nil=>intro h;cases h
 |cons p r ih=>
  obtain ⟨n,j⟩:=p
  intro h
  rw [Bg] at h
  rw [D8]
  rcases T4 h with ⟨hx,hk⟩ |⟨hx,hr⟩
  ·subst hx
   simp only [beq_self_eq_true]
   exact ⟨j,rfl,hk⟩
  ·have hb:(x==n)=false:=by simpa using hx
   rw [hb]
   exact ih hr
structure Fg (X:Cx) (scope:Scope) (Nc:List Str) (cs:List (Option Nat)):Prop where
 kind:scope.kind=.function
 loc:∀y∈scope.names,y.2=.local→scope.names.lookup y.1=some .local
 free:∀y∈scope.names,y.2=.free→X.env.kindOf y.1=some .cell∨X.env.kindOf y.1=some .free
 nd:(scope.names.map (·.1)).Nodup
 len:cs.length=Nc.length
 out:∀(i:Nat) (x:Str) (j:Nat),Nc[i]?=some x→cs[i]?=some (some j)→X.N[j]?=some x∧scope.names.lookup x=some .free
theorem T6 {a b:Addr} (h:a<b):@LT.lt Nat instLTNat a b:=h
theorem Cg {a b:Addr} (h:@LT.lt Nat instLTNat a b):a≠b:=BL h
theorem Fh {a b:Addr} (h:@LT.lt Nat instLTNat a b):b≠a:=Ne.symm (BL h)
section
variable {X:Cx} {pins:List (Addr×Obj)} {σ:L2.St} {H:Hp} {s:Shared}
theorem T7 {scope:Scope} {Nc:List Str} {cs:List (Option Nat)} {fp:List Addr} {cl:List (Str×Addr)} (S:Fg X scope Nc cs) (I:Inv X pins σ H s) (f:∀b∈fp,Dk X pins H b) (ob:∀b∈fp,∃o,s.heap.get? b=some o)
 (hcl:∀x c,(x,c)∈cl→X.env.cells.lookup x=some c∧(x,NameKind.free)∈scope.names) (hcl2:∀y∈scope.names,y.2=.free→∃c,(y.1,c)∈cl) {s3:Shared} (e3:s3={s with heap:=s.heap.push {cls:=.type "list",data:=.seq ([]:List Value).toArray}}):
 Inv (Bk X Nc scope s3.heap.objs.size s.heap.objs.size (cellsFrom (s3.heap.objs.size+1) scope.names cl) fp s3 H pins) [] (A8 cs σ) H
  {s3 with heap:=pushCells (s3.heap.push {cls:=.type "dict",data:=.dict #[]}) scope.names}:=by
 have k3:∀b o,s.heap.get? b=some o→s3.heap.get? b=some o:=fun b o e=>by subst e3;exact AH _ e
 have HL:s3.heap.objs.size=s.heap.objs.size+1:=by subst e3;exact D9 ..
 have szd:(s3.heap.push {cls:=.type "dict",data:=.dict #[]}).objs.size=s3.heap.objs.size+1:=D9 ..
 have k34:∀b o,s3.heap.get? b=some o→(pushCells (s3.heap.push {cls:=.type "dict",data:=.dict #[]}) scope.names).get? b=some o:=fun b o e=>pushCells_keeps _ _ b o (AH _ e)
 have k4:∀b o,s.heap.get? b=some o→(pushCells (s3.heap.push {cls:=.type "dict",data:=.dict #[]}) scope.names).get? b=some o:=fun b o e=>k34 b o (k3 b o e)
 have cllt:∀x c,(x,c)∈cl→c<s.heap.objs.size:=fun x c m=>by
  obtain ⟨v,q⟩:=I.cell x c (hcl x c m).1
  exact q.lt
 have cm:∀x c,(cellsFrom (s3.heap.objs.size+1) scope.names cl).lookup x=some c→(x,c)∈cl∨(s3.heap.objs.size+1≤c∧(x,NameKind.cell)∈scope.names∧(pushCells (s3.heap.push {cls:=.type "dict",data:=.dict #[]}) scope.names).IsCell c none):=fun x c e=>by
  have m:=mem_of_lookup e
  rw [←szd] at m
  have:=J3 scope.names _ cl x c m
  rw [szd] at this
  exact this
 have frs_lt:∀b∈frs X.stack,b<s.heap.objs.size:=fun b hb=>by
  obtain ⟨_,o,ho,_⟩:=I.stack.mem hb
  exact AA ho
 have nfs:∀b,b≠X.env.locals→b∉X.fs→b∉frs X.stack:=fun b h1 h2 hb=>by
  rcases qaB.mp (I.stkSub b hb) with q |q
  ·exact h1 q
  ·exact h2 q
 have ok:(Bk X Nc scope s3.heap.objs.size s.heap.objs.size (cellsFrom (s3.heap.objs.size+1) scope.names cl) fp s3 H pins).Ok:=by
  refine ⟨I.ok.mod,S.kind,I.ok.glob,I.ok.blt,Ap _,fun x y c e1 e2=>?_,fun x hx=>?_,fun x c hf e=>?_,I.ok.hd,I.ok.frames,.inl rfl,fun b hb=>?_,fun b o e=>?_,?_,fun b o e hb=>?_,fun b hb=>?_,?_,I.stkFree⟩
  ·have m1:=mem_of_lookup e1
   have m2:=mem_of_lookup e2
   have m1':(x,c)∈cellsFrom (s3.heap.push {cls:=.type "dict",data:=.dict #[]}).objs.size scope.names cl:=by rw [szd];exact m1
   have m2':(y,c)∈cellsFrom (s3.heap.push {cls:=.type "dict",data:=.dict #[]}).objs.size scope.names cl:=by rw [szd];exact m2
   exact J4 scope.names (s3.heap.push {cls:=.type "dict",data:=.dict #[]}) cl (fun x c m=>by rw [szd,HL];exact AN (cllt x c m) (by omega))
    (fun x y c a b=>I.ok.inj x y c (hcl x c a).1 (hcl y c b).1) x y c m1' m2'
  ·have:∃k,(relabel scope X.env).names.lookup x=some k∧(k=.cell∨k=.free):=by
    rcases hx with q |q
    ·exact ⟨_,q,.inl rfl⟩
    ·exact ⟨_,q,.inr rfl⟩
   obtain ⟨k,e1,hk⟩:=this
   obtain ⟨k0,e0,hk0⟩:=Mv e1
   refine qbB.mp (PySem.W.cellsFrom_some _ _ _ ?_)
   have:k0=.cell∨k0=.free:=by
    rcases hk0 with q |⟨q,_⟩
    ·rw [←q];exact hk
    ·exact .inr q
   rcases this with q |q
   ·subst q;exact .inl e0
   ·subst q
    obtain ⟨c,hc⟩:=hcl2 _ (mem_of_lookup e0) rfl
    refine .inr ?_
    cases hl:cl.lookup x with
    |some c'=>rfl
    |none=>
     exfalso
     have:∀p∈cl,p.1≠x:=fun p hp e=>by
      have h2:=List.lookup_eq_none_iff.mp hl p hp
      rw [e] at h2
      simp at h2
     exact this _ hc rfl
  ·have hk:scope.names.lookup x=some .cell:=by
    have:(scope.names.lookup x==some NameKind.cell)=true:=hf
    simpa using this
   rcases cm x c e with q |⟨q1,_,_⟩
   ·have:=lookup_mem S.nd (hcl x c q).2
    rw [hk] at this
    cases this
   ·exact GT q1
  ·rcases qaB.mp hb with q |q
   ·subst q
    refine ⟨Cg (show _<s3.heap.objs.size by omega),fun x c e=>?_⟩
    rcases cm x c e with q |⟨q1,_,_⟩
    ·exact BL (cllt x c q)
    ·exact Fh (AN (by omega) q1)
   ·obtain ⟨o,ho⟩:=ob b q
    have hlt:=T6 (AA ho)
    refine ⟨Cg (show _<s3.heap.objs.size by omega),fun x c e=>?_⟩
    rcases cm x c e with q2 |⟨q1,_,_⟩
    ·exact (f b q).2.2.2.2.1 x c (hcl x c q2).1
    ·exact Fh (AN (by omega) q1)
  ·obtain ⟨h1,h2⟩:=I.bs b o e
   exact ⟨k3 b o h1,h2⟩
  ·show X.base.objs.size≤s3.heap.objs.size
   have:=Bc I.ok.bsz I.sz
   omega
  ·obtain ⟨h1,h2⟩:=I.bs b o e
   rcases qaB.mp hb with q |q
   ·exact absurd q (Cg (AA h1))
   ·rcases (f b q).2.2.2.1 with z |z
    ·exact I.ok.noex b o e z
    ·exact absurd (AN (AA (I.ok.bs b o e).1) z) (BY _)
  ·rcases qaB.mp hb with q |q
   ·subst q
    intro z
    exact absurd (frs_lt _ z) (BY _)
   ·exact nfs b (f b q).2.1 (f b q).2.2.1
  ·exact I.stack.of_keeps fun b o e _=>⟨o,k3 b o e,rfl⟩
 refine ⟨ok,rfl,?_,?_,?_,fun x c e=>?_,?_,fun x c e=>?_,fun p hp=>?_,I.hok.kept k4,?_⟩
 ·show AllBare s3.gens
  subst e3;exact I.bare
 ·exact Un.kept k34
 ·refine ⟨fun _=>none,(Heap.Ns.new s3.heap (.type "dict")).keeps (pushCells_keeps _ _),fun i x v e1 e2 e3'=>?_⟩
  unfold A8 at e2
  rw [BP] at e2
  cases ec:cs[i]? with
  |none=>rw [ec] at e2;cases e2
  |some o=>
   rw [ec] at e2
   cases o with
   |none=>cases e2
   |some j=>
    simp only [F0,Option.bind_some,Option.some.injEq] at e2
    have e2':σ[j]?=some (some v):=by
     cases ej:σ[j]? with
     |none=>rw [ej] at e2;cases e2
     |some w=>rw [ej] at e2;simp at e2;rw [e2]
    obtain ⟨hN,hfr⟩:=S.out i x j e1 ec
    have hfm:=mem_of_lookup hfr
    have hkind:=S.free _ hfm rfl
    obtain ⟨m,hn,hl⟩:=I.loc
    obtain ⟨u,r,look⟩:=hl j x v hN e2' (by
     rcases hkind with q |q
     ·exact .inr (.inl q)
     ·exact .inr (.inr q))
    refine ⟨u,r,.inr ?_⟩
    rcases look with ⟨q,_⟩ |⟨_,c,ec',hc⟩
    ·rcases hkind with z |z<;>(rw [q] at z;cases z)
    ·obtain ⟨c',hc'⟩:=hcl2 _ hfm rfl
     have hv:(Bk X Nc scope s3.heap.objs.size s.heap.objs.size (cellsFrom (s3.heap.objs.size+1) scope.names cl) fp s3 H pins).env.kindOf x=some .cell∨(Bk X Nc scope s3.heap.objs.size s.heap.objs.size (cellsFrom (s3.heap.objs.size+1) scope.names cl) fp s3 H pins).env.kindOf x=some .free:=by
      rcases e3' with z |z |z
      ·obtain ⟨k0,a1,a2⟩:=Mv z
       rw [hfr] at a1
       cases a1
       rcases a2 with a2 |⟨_,a2⟩<;>cases a2
      ·exact .inl z
      ·exact .inr z
     refine ⟨hv,c,?_,hc.keeps k4⟩
     obtain ⟨c2,h2⟩:=ok.has x hv
     rw [h2]
     rcases cm x c2 h2 with q |⟨_,q,_⟩
     ·rw [←ec',(hcl x c2 q).1]
     ·have:=lookup_mem S.nd q
      rw [hfr] at this
      cases this
 ·rcases cm x c e with q |⟨_,_,q⟩
  ·obtain ⟨v,z⟩:=I.cell x c (hcl x c q).1
   exact ⟨v,z.keeps k4⟩
  ·exact ⟨none,q⟩
 ·exact I.hok.fresh (show s.heap.objs.size≤s3.heap.objs.size by omega)
 ·rcases cm x c e with q |⟨q,_,_⟩
  ·exact I.freeC x c (hcl x c q).1
  ·exact I.hok.fresh (by omega)
 ·have hp':p∈X.pn++pins:=by
   rcases qaW.mp hp with q |q
   ·exact q
   ·exact absurd q (by simp)
  obtain ⟨a1,a2,a3,a4,a5⟩:=I.pin p hp'
  refine ⟨k4 _ _ a1,a2,?_,nfs p.1 a3 a4,a5⟩
  show p.1≠s3.heap.objs.size
  exact Cg (AN (AA a1) (by omega))
 ·show (A8 cs σ).length=Nc.length
  simp [A8,S.len]
end
section
variable {X:Cx} {elt tg iter:Expr} {ifs:List Expr} {scope:Scope} {pos:Pos} {Nc:List Str} {cs:List (Option Nat)} {wi:TI} {g:TG} {tc:TT} {te:TE}
theorem T8 {pins:List (Addr×Obj)} {σ:L2.St} {H H':Hp} {s s3 s':Shared} {fp:List Addr} {C:Addr} {cells:List (Str×Addr)} {po:List (Addr×Obj)} {σc:L2.St} {acc:List V} {its:List Value} {n:Nat}
 (I:Inv X pins σ H s) (f:∀b∈fp,Dk X pins H b) (e3:s3={s with heap:=s.heap.push {cls:=.type "list",data:=.seq ([]:List Value).toArray}}) (hC:C=s3.heap.objs.size)
 (I':Inv (Bk X Nc scope C s.heap.objs.size cells fp s3 H pins) po σc H' s') (hD:H' s.heap.objs.size=none) (hl:acc.length≤sizeLine) (rv:Vals acc its) (ho:s'.heap.get? s.heap.objs.size=some {cls:=.type "list",data:=.seq its.toArray n})
 {h':Heap} (sb:Heap.SameBut C s'.heap h'):Inv X pins σ (Ai H' s.heap.objs.size (.lst acc)) {s' with heap:=h'}:=by
 have k3:∀b o,s.heap.get? b=some o→s3.heap.get? b=some o:=fun b o e=>by subst e3;exact AH _ e
 have HL:s3.heap.objs.size=s.heap.objs.size+1:=by subst e3;exact D9 ..
 have DQ:∀b o,s.heap.get? b=some o→b≠s.heap.objs.size:=fun b o e=>Cg (AA e)
 have neC:∀b o,s.heap.get? b=some o→b≠C:=fun b o e=>by rw [hC];exact Cg (AN (AA e) (by omega))
 have DC:s.heap.objs.size≠C:=by rw [hC];exact Cg (by omega)
 have U:Un (frs X.stack) (s.heap.objs.size::fp) H H' s3.heap s'.heap:=I'.base
 have exn:∀b o,s.heap.get? b=some o→b∉fp→b∉s.heap.objs.size::fp:=fun b o e hx hb=>by
  rcases qaB.mp hb with z |z
  ·exact DQ b o e z
  ·exact hx z
 have neT:∀b u,H' b=some u→b≠s.heap.objs.size:=fun b u e=>CC e hD
 have hCn:H' C=none:=I'.free
 refine I.call' (s':={s' with heap:=h'}) (ch:=fp) ?_ ?_ ?_ I'.bare ?_
 ·show s'.os=s.os
  have:=I'.os
  rw [this]
  show s3.os=s.os
  subst e3;rfl
 ·refine ⟨fun b o e nn hb hx=>?_,fun b o e nn hb hx=>?_,fun b o e nn hx=>?_,fun b o e hx=>?_,fun b xs e=>?_,fun b o u e=>?_,fun b ps e=>?_⟩
  ·exact (sb.2 b (neC b o e)).trans (U.keep b o (k3 b o e) nn hb (exn b o e hx))
  ·obtain ⟨sl,z⟩:=U.slot b o (k3 b o e) nn hb (exn b o e hx)
   exact ⟨sl,(sb.2 b (neC b o e)).trans z⟩
  ·rw [Av (DQ b o e)]
   exact U.free b o (k3 b o e) nn (exn b o e hx)
  ·obtain ⟨o',z⟩:=U.there b o (k3 b o e) (exn b o e hx)
   exact ⟨o',(sb.2 b (neC b o e)).trans z⟩
  ·have z:=U.tups b xs e
   rw [Av (neT b _ z)]
   exact z
  ·have z:=U.frzs b o u e
   rw [Av (neT b _ z)]
   exact z
  ·obtain ⟨more,z⟩:=U.tbls b ps e
   exact ⟨more,by rw [Av (neT b _ z)];exact z⟩
 ·intro b u e
  by_cases hb:b=s.heap.objs.size
  ·subst hb
   rw [BZ] at e
   cases e
   exact ⟨hl,its,n,rv,(sb.2 _ DC).trans ho⟩
  ·rw [Av hb] at e
   refine (I'.hok b u e).stay (fun c v hc z=>(sb.2 c ?_).trans z) (fun c z=>by rw [Av (neT c _ z)];exact z) fun c xs z=>by rw [Av (neT c _ z)];exact z
   rcases hc with rfl |hc
   ·exact CC e hCn
   ·exact CC hc hCn
 ·intro b hb
  obtain ⟨_,f1,_,f3,f4,f5⟩:=f b hb
  exact ⟨f3,f1,f4,f5⟩
inductive Mw (W:Nat→Nat→List V→Hp→Prop) (Xc:Cx) (σc:L2.St) (tn:Nat→Heap→Prop) (fp:List Addr) (Da:Addr) (n:Nat) (s':Shared):Prop where
 |mk (i:Nat) (acc:List V) (H':Hp) (its:List Value) (k:Nat) (w:W i n acc H') (ii:Inv Xc [] σc H' s') (st:tn i s'.heap) (fr:∀b∈fp,H' b=none) (hD:H' Da=none) (rv:Vals acc its) (ho:s'.heap.get? Da=some {cls:=.type "list",data:=.seq its.toArray k}):Mw W Xc σc tn fp Da n s'
theorem Mx {use:Option (Value→Sem Unit)} {QQ:Value→Shared→Prop} {ppos:Pos} {pins:List (Addr×Obj)} {s:Shared} {σ:L2.St} {H:Hp} {Q:VK} (hcalm:X.calm=true) (S:Fg X scope Nc cs) (hi:PI X tg iter wi)
 (hb:∀(C D:Addr) (cells:List (Str×Addr)) (fp:List Addr) (s₀:Shared) (H₀:Hp) (pins:List (Addr×Obj)),PG (Bk X Nc scope C D cells fp s₀ H₀ pins) tg g∧Gk (Bk X Nc scope C D cells fp s₀ H₀ pins) ifs tc∧PE (Bk X Nc scope C D cells fp s₀ H₀ pins) elt te)
 (hsf:∀x,foldedSetIterable iter X.env x=pure x) (I:Inv X pins σ H s) (h:HC cs wi g tc te σ H Q)
 (Ao:∀(s6:Shared) (C D:Addr) (H7:Hp) (m6:Str→Option Value),s6.heap.Ns C m6→H7 C=none→X.s₀.heap.objs.size≤C→C≠X.env.locals→(∀x c,X.env.cells.lookup x=some c→c≠C)→(∀p∈X.pn++pins,p.1≠C)→
  (∀h',Heap.SameBut C s6.heap h'→Inv X pins σ H7 {s6 with heap:=h'})→Q (.ref D) H7→compPost (model X.prog X.w) X.A X.xe use QQ (.ref D) C (.ok .next) s6):
 wpAny (model X.prog X.w) X.A (comprehension (.ListComp elt [⟨tg,iter,ifs,0⟩] scope pos) scope X.env ppos (newList []) false (eval iter X.env) use) QQ X.xe s:=by
 obtain ⟨cl,hclos,hcl,hcl2⟩:=Mt (scope:=scope) (env:=X.env) fun y hy hf=>I.ok.has y.1 (S.free y hy hf)
 refine wpAny_comprehension_free (use:=use) rfl hsf hclos S.kind S.loc (Ak (hi pins s σ H _ I h) fun xv s1 h1=>Ak h1 fun itv s2 h2=>?_)
 obtain ⟨it,fp,tn,J,H2,e,I2,T,st2,f2,W,⟨n0,w0⟩,turn⟩:=h2
 subst e
 refine wpAny_newObj_type ?_
 generalize e3:({s2 with heap:=s2.heap.push {cls:=.type "list",data:=.seq ([]:List Value).toArray}}:Shared)=s3
 refine TY ?_
 have ob2:∀b∈fp,∃o,s2.heap.get? b=some o:=fun b hb=>let ⟨o,e,_⟩:=T.obj _ _ st2 b hb;⟨o,e⟩
 have I4:=T7 (fp:=fp) (cl:=cl) S I2 f2 ob2 hcl hcl2 e3.symm
 generalize e4:({s3 with heap:=pushCells (s3.heap.push {cls:=.type "dict",data:=.dict #[]}) scope.names}:Shared)=s4 at I4
 generalize ecl:cellsFrom (s3.heap.objs.size+1) scope.names cl=cells at I4
 obtain ⟨pg,pt,pe⟩:=hb s3.heap.objs.size s2.heap.objs.size cells fp s3 H2 pins
 generalize eX:Bk X Nc scope s3.heap.objs.size s2.heap.objs.size cells fp s3 H2 pins=Xc at I4 pg pt pe
 have xP:Xc.prog=X.prog:=by subst eX;rfl
 have xw:Xc.w=X.w:=by subst eX;rfl
 have xK:Xc.K=X.K:=by subst eX;rfl
 have xA:Xc.A=X.A:=by subst eX;rfl
 have xE:Xc.env=Mu X.env scope s3.heap.objs.size cells:=by subst eX;rfl
 have xL:Xc.env.locals=s3.heap.objs.size:=by subst eX;rfl
 have xe:Xc.xe=fun _ _=>False:=by subst eX;rfl
 have xc:Xc.calm=true:=by subst eX;exact hcalm
 have xex:Xc.ex=s2.heap.objs.size::fp:=by subst eX;rfl
 have okc:=I4.ok
 have k3:∀b o,s2.heap.get? b=some o→s3.heap.get? b=some o:=fun b o e=>by subst e3;exact AH _ e
 have HL:s3.heap.objs.size=s2.heap.objs.size+1:=by subst e3;exact D9 ..
 have k34:∀b o,s3.heap.get? b=some o→s4.heap.get? b=some o:=fun b o e=>by subst e4;exact pushCells_keeps _ _ b o (AH _ e)
 have hDC:s2.heap.objs.size≠Xc.env.locals:=by rw [xL];exact Cg (by omega)
 have hDcell:∀x c,Xc.env.cells.lookup x=some c→c≠s2.heap.objs.size:=fun x c e=>(okc.exf _ (by rw [xex];exact AE)).2 x c e
 have hDpin:∀p∈Xc.pn,p.1≠s2.heap.objs.size:=fun p hp=>by
  have hp':p∈X.pn++pins:=by subst eX;exact hp
  exact Cg (AA (I2.pin p hp').1)
 have hDfp:s2.heap.objs.size∉fp:=fun hm=>by
  obtain ⟨o,e⟩:=ob2 _ hm
  exact absurd (AA e) (BY _)
 have hDex:s2.heap.objs.size∈Xc.ex:=by rw [xex];exact AE
 have hDfs:s2.heap.objs.size∉Xc.fs:=okc.exfs _ hDex
 have fpC:∀{po:List (Addr×Obj)} {H':Hp},(∀b∈fp,H' b=none)→(∀p∈po,p.1=s2.heap.objs.size)→∀b∈fp,Dk Xc po H' b:=fun {po H'} hn hp b hb=>by
  have hbx:b∈Xc.ex:=by rw [xex];exact AI _ hb
  refine ⟨hn b hb,(okc.exf b hbx).1,okc.exfs b hbx,.inl hbx,(okc.exf b hbx).2,fun p hpp=>?_⟩
  rcases qaW.mp hpp with z |z
  ·have hp':p∈X.pn++pins:=by subst eX;exact z
   exact (f2 b hb).2.2.2.2.2 p hp'
  ·rw [hp p z]
   intro e
   exact hDfp (e ▸ hb)
 have loop:∀sx,sx=s4→codeAny (model X.prog X.w) X.A (.compLoop (.ListComp elt [⟨tg,iter,ifs,0⟩] scope pos) 0 (.ref it) (.ref s2.heap.objs.size) Xc.env)
  (compPost (model X.prog X.w) X.A X.xe use QQ (.ref s2.heap.objs.size) s3.heap.objs.size) sx:=by
  rintro sx rfl
  refine TZ (Mw W Xc (A8 cs σ) tn fp s2.heap.objs.size) ?_ n0
   ⟨0,[],H2,[],0,w0,I4,?_,fun b hb=>(f2 b hb).1,I2.hok.fresh (Ap _),.nil,?_⟩
  ·rintro n s5 ⟨i,acc,H5,its,k,w5,I5,st5,fr5,hD5,rv5,ho5⟩
   have pin1:Inv Xc [(s2.heap.objs.size,{cls:=.type "list",data:=.seq its.toArray k})] (A8 cs σ) H5 s5:=I5.pins_of fun p hp=>by
    rw [qb4] at hp
    subst hp
    exact ⟨ho5,hD5,hDC,hDfs,fun v z=>by cases z⟩
   have pone:∀p∈[((s2.heap.objs.size:Addr),({cls:=.type "list",data:=.seq its.toArray k}:Obj))],p.1=s2.heap.objs.size:=fun p hp=>by
    rw [qb4] at hp;subst hp;rfl
   rcases turn i n acc H5 w5 with ⟨stop,hlen,qn⟩ |⟨go,hlen,step⟩
   ·have z1:=T.done Xc xP xw xK xc i _ s5 (A8 cs σ) H5 (fun _ _=>False) pin1 (fpC fr5 pone) st5 stop
    rw [xA] at z1
    refine wpAny_mono z1 (fun r s6 z1_=>?_) fun _ _ z=>False.elim z
    obtain ⟨hr,I6⟩:=z1_
    subst hr
    obtain ⟨m6,hn6,_⟩:=I6.loc
    obtain ⟨ho6,hD6,_⟩:=I6.pin _ (B8 _ AE)
    rw [xL] at hn6
    have lt2:∀b,b<s2.heap.objs.size→b≠s3.heap.objs.size:=fun b hb=>Cg (AN hb (by omega))
    refine Ao s6 s3.heap.objs.size s2.heap.objs.size (Ai H5 s2.heap.objs.size (.lst acc)) m6 hn6 ?_ (Bc I2.sz (by omega)) ?_ ?_ ?_ ?_ (qn _ hD6)
    ·rw [Av (Fh (by omega))]
     have:=I6.free
     rw [xL] at this
     exact this
    ·obtain ⟨m2,hn2,_⟩:=I2.loc
     exact Ne.symm (lt2 _ hn2.lt)
    ·intro x c hx
     obtain ⟨v,hv⟩:=I2.cell x c hx
     obtain ⟨o,ho,_⟩:=hv
     exact lt2 _ (AA ho)
    ·intro p hp
     exact lt2 _ (AA (I2.pin p hp).1)
    ·intro h' sb
     subst eX
     exact T8 I2 f2 e3.symm rfl I6 hD6 hlen rv5 ho6 sb
   ·have z1:=T.item Xc xP xw xK xc i _ s5 (A8 cs σ) H5 (fun _ _=>False) pin1 (fpC fr5 pone) st5 go
    rw [xA] at z1
    refine wpAny_mono z1 (fun r s6 z2_=>?_) fun _ _ z=>False.elim z
    obtain ⟨u,hr,h6⟩:=z2_
    subst hr
    refine wpAny_mono h6 (fun _ s7 z3_=>?_) fun _ _ z=>False.elim z
    obtain ⟨x,H7,I7,r7,y7,st7,fr7⟩:=z3_
    have I7':=I7.pinned (fp:=fp) (fpC fr7 pone) (T.obj _ _ st7)
    have z2:=pg _ s7 (A8 cs σ) H7 x u _ I7' r7 (step x H7 y7)
    rw [xP,xw,xA,xe] at z2
    refine wpAny_mono z2 (fun _ s8 z4_=>?_) fun _ _ z=>False.elim z
    obtain ⟨σ8,H8,I8,sub8,q8⟩:=z4_
    have z3:=pt _ s8 σ8 H8 _ I8 q8
    rw [xP,xw,xA,xe] at z3
    refine wpAny_mono z3 (fun ok s9 z5_=>?_) fun _ _ z=>False.elim z
    obtain ⟨H9,I9,q9⟩:=z5_
    have back:∀{sy:Shared} {Hy:Hp},Inv Xc ([(s2.heap.objs.size,{cls:=.type "list",data:=.seq its.toArray k})]++F8 fp s7.heap) σ8 Hy sy→
     Inv Xc [] (A8 cs σ) Hy sy∧tn (i+1) sy.heap∧(∀b∈fp,Hy b=none)∧Hy s2.heap.objs.size=none∧sy.heap.get? s2.heap.objs.size=some {cls:=.type "list",data:=.seq its.toArray k}:=fun {sy Hy} Iy=>by
     obtain ⟨ho,hD,_⟩:=Iy.pin _ (B8 _ (Jm _ AE))
     refine ⟨(Iy.pins_of fun p hp=>absurd hp (by simp)).weak (sub8.1) (fun j v z=>sub8.2 j v z),T.keep _ _ _ st7 fun b hb o e=>(Iy.pin (b,o) (B8 _ (B8 _ (G8 hb e)))).1,fun b hb=>?_,hD,ho⟩
     obtain ⟨o,e,_⟩:=T.obj _ _ st7 b hb
     exact (Iy.pin (b,o) (B8 _ (B8 _ (G8 hb e)))).2.1
    cases ok with
    |false=>
     simp only [Cq,if_false] at q9 ⊢
     obtain ⟨n',hn',w'⟩:=q9
     obtain ⟨a1,a2,a3,a4,a5⟩:=back I9
     exact ⟨n',hn',i+1,acc,H9,its,k,w',a1,a2,a3,a4,rv5,a5⟩
    |true=>
     simp only [if_true] at q9 ⊢
     have z4:=pe _ s9 σ8 H9 _ I9 q9
     rw [xP,xw,xA,xe] at z4
     refine wpAny_mono z4 (fun y s10 z6_=>?_) fun _ _ z=>False.elim z
     obtain ⟨yv,H10,I10,r10,n',hn',w'⟩:=z6_
     obtain ⟨a1,a2,a3,a4,a5⟩:=back I10
     have hlen':=rv5.length
     refine wpAny_list_append_plain ⟨k,a5⟩ (fun h' ⟨k',hl'⟩ sb=>?_) (by rw [AZ];omega)
     have tu:Inv Xc [] (A8 cs σ) H10 {s10 with heap:=h'}:=a1.turned (t':=s10.toks) (it:=s2.heap.objs.size) (fun b o hb e=>(sb.2 b hb).trans e) a4 hDC (.inl hDex) hDcell (fun p hp=>by
      rcases qaW.mp hp with z |z
      ·exact hDpin p z
      ·exact absurd z (by simp))
     refine ⟨n',hn',i+1,acc++[yv],H10,its++[y],k',w',tu,T.keep _ _ _ a2 (fun b hb o e=>(sb.2 b (fun z=>hDfp (z ▸ hb))).trans e),a3,a4,rv5.append (.cons r10 .nil),?_⟩
     rw [hl']
     simp
  ·exact T.keep _ _ _ st2 fun b hb o e=>k34 b o (k3 b o e)
  ·refine k34 _ _ ?_
   subst e3
   exact Bf _ rfl
 have Ao:=loop s4 rfl
 have hst4:tn 0 s4.heap:=T.keep _ _ _ st2 fun b hb o e=>k34 b o (k3 b o e)
 rw [xE] at Ao
 have:=codeAny_compStart_list Ao (T.self X.A 0 s4 _ _ hst4 Ao)
 exact this
theorem T9 (hcalm:X.calm=true) (S:Fg X scope Nc cs) (hi:PI X tg iter wi)
 (hb:∀(C D:Addr) (cells:List (Str×Addr)) (fp:List Addr) (s₀:Shared) (H₀:Hp) (pins:List (Addr×Obj)),PG (Bk X Nc scope C D cells fp s₀ H₀ pins) tg g∧Gk (Bk X Nc scope C D cells fp s₀ H₀ pins) ifs tc∧PE (Bk X Nc scope C D cells fp s₀ H₀ pins) elt te)
 (hsf:∀x,foldedSetIterable iter X.env x=pure x:=by intro _;rfl):PE X (.ListComp elt [⟨tg,iter,ifs,0⟩] scope pos) (HC cs wi g tc te):=by
 intro pins s σ H Q I h
 rw [eval_ListComp]
 exact Mx (use:=none) hcalm S hi hb hsf I h fun s6 C D H7 m6 hn _ _ _ _ _ inv q=>⟨m6,hn,fun h' sb=>⟨.ref D,H7,inv h' sb,rfl,q⟩⟩
end
def noErr {α:Type}:Out α→Out α
 |.ok a h=>.ok a h
 |_=>.stuck
@[simp] theorem Zg {α:Type} (a:α) (h:HD):noErr (.ok a h)=.ok a h:=rfl
theorem My {α β γ δ:Type} {K:PySem.W.Frag} {R:List Addr→Hp→α→β→Prop} {R':List Addr→Hp→γ→δ→Prop} {m:List Addr} {H:Hp} {E:XK} {Q:δ→Hp→Prop} {Q':β→Hp→Prop} {o:Out α} {k:α→HD→Out γ}
 (h:Post K R' m H E Q ((noErr o).bind k)) (f:∀a h1 v m1 H1,o=.ok a h1→m <+:m1→Kp H H1→HR K m1 h1 H1→R m1 H1 a v→Post K R' m1 H1 E Q (k a h1)→Q' v H1):Post K R m H E0 Q' o:=by
 cases o with
 |ok a h1=>exact fun v m1 H1 p kk hr r=>f a h1 v m1 H1 rfl p kk hr r (Post.ahead p kk h)
 |err C fs h1=>exact False.elim h
 |stuck=>exact False.elim h
def BI (cs:List (Option Nat)) (ρ:Af):Af:=cs.map fun o=>o.bind fun j=>(ρ[j]?).join
theorem join_some {α:Type} {l:List (Option α)} {j:Nat} {a:α}:(l[j]?).join=some a↔l[j]?=some (some a):=by
 cases h:l[j]? with
 |none=>simp
 |some o=>simp
theorem ER.comp {K:PySem.W.Frag} {m:List Addr} {H:Hp} {ρ:Af} {σ:L2.St} (cs:List (Option Nat)) (er:ER K m H ρ σ):ER K m H (BI cs ρ) (A8 cs σ):=by
 refine ⟨by simp [BI,A8],fun i d e=>?_⟩
 unfold BI at e
 rw [BP] at e
 cases ec:cs[i]? with
 |none=>rw [ec] at e;cases e
 |some o=>
  rw [ec] at e
  cases o with
  |none=>cases e
  |some j=>
   simp only [F0,Option.bind_some,Option.some.injEq] at e
   obtain ⟨v,e1,r⟩:=er.2 j d (join_some.mp e)
   refine ⟨v,?_,r⟩
   unfold A8
   rw [BP,ec]
   simp only [F0,Option.bind_some,Option.some.injEq]
   exact join_some.mpr e1
theorem Sub.set {cs:List (Option Nat)} {σ:L2.St} {σ':L2.St} {i:Nat} {v:V} (h:cs[i]?=some none) (s:Sub (A8 cs σ) σ'):Sub (A8 cs σ) (σ'.set i (some v)):=by
 refine ⟨by rw [s.1];simp,fun j w e=>?_⟩
 have hj:i≠j:=by
  rintro rfl
  unfold A8 at e
  rw [BP,h] at e
  cases e
 rw [Bw hj]
 exact s.2 j w e
theorem Sub.refl (σ:L2.St):Sub σ σ:=⟨rfl,fun _ _ h=>h⟩
def Fi (K:PySem.W.Frag) (cs:List (Option Nat)) (gg:TG) (sg:MG):Prop:=
 ∀m H d v ρ σ0 ρ' Q,DV K m H d v→ER K m H ρ (A8 cs σ0)→sg d ρ=some ρ'→(∀σ',Sub (A8 cs σ0) σ'→ER K m H ρ' σ'→Q σ' H)→gg v (A8 cs σ0) H Q
theorem Mz {K:PySem.W.Frag} {cs:List (Option Nat)} {i:Nat} (h:cs[i]?=some none):Fi K cs (B0 i) (AG i):=fun m H d v ρ σ0 ρ' Q r er e q=>by
 simp only [AG,Option.some.injEq] at e
 subst e
 exact q _ ((Sub.refl _).set h) (er.set r)
abbrev Fj (X:Cx) (E:XK) (ifs:List Expr) (t:MT):Prop:=Gk X ifs (E7 X.K E t)
def A9:MT:=fun _ h=>.ok true h
theorem Ua {X:Cx} {E:XK}:Fj X E [] A9:=fun pins s σ H Q I z1_=>by obtain ⟨m,ρ,h,hr,er,p⟩:=z1_;exact (T1 pins s σ H Q I (p true m H (Ay _) (.refl _) hr rfl))
theorem Ub {X:Cx} {E:XK} {c:Expr} {t:MT} (h:CG X E c t):Fj X E [c] t:=T3 h
open Classical in
noncomputable def Ci (src:AJ) (items:List D) (sg:MG) (t:MT) (f:ME) (ρc:Af):List D→HD→Out (List D)
 |[],h=>if Br src items h then .ok [] h else .stuck
 |d::ds,h=>if Br src items h then match sg d ρc with
   |none=>.stuck
   |some ρ1=>(noErr (t ρ1 h)).bind fun b h1=>if b=true then (noErr (f ρ1 h1)).bind fun y h2=>(Ci src items sg t f ρc ds h2).bind fun ys h3=>.ok (y::ys) h3 else Ci src items sg t f ρc ds h1
  else .stuck
noncomputable def AD (cs:List (Option Nat)) (it:MI) (sg:MG) (t:MT) (f:ME):ME:=fun ρ h=>(it ρ h).bind fun x h1=>if x.1.length≤sizeLine then (Ci x.2 x.1 sg t f (BI cs ρ) x.1 h1).bind Bi else .stuck
theorem Out.bind_assoc {α β γ:Type} (o:Out α) (k:α→HD→Out β) (l:β→HD→Out γ):(o.bind k).bind l=o.bind fun a h=>(k a h).bind l:=by cases o<;>rfl
section
variable {X:Cx} {E:XK} {elt tg iter:Expr} {ifs:List Expr} {scope:Scope} {pos:Pos} {Nc:List Str} {cs:List (Option Nat)} {it:MI} {gg:TG} {sg:MG} {t:MT} {f:ME}
inductive MB (K:PySem.W.Frag) (E:XK) (Q:VK) (src:AJ) (items:List D) (sg:MG) (t:MT) (f:ME) (ρc:Af) (m1:List Addr) (H1:Hp) (i n:Nat) (acc:List V) (H2:Hp):Prop where
 |mk (e:n=items.length - i) (l:i≤items.length) (a:acc.length≤i) (m2:List Addr) (h2:HD) (dacc:List D) (p:m1 <+:m2) (k:Kp H1 H2) (hr:HR K m2 h2 H2) (da:DVs K m2 H2 dacc acc) (q:Post K (rD K) m2 H2 E Q ((Ci src items sg t f ρc (items.drop i) h2).bind fun ys h3=>Bi (dacc++ys) h3)):MB K E Q src items sg t f ρc m1 H1 i n acc H2
theorem MC (hg:Fi X.K cs gg sg):∀σ H Q,tD X.K E (AD cs it sg t f) σ H Q→HC cs (tM X.K (HA X.K) E it) gg (E7 X.K E0 t) (tD X.K E0 f) σ H Q:=by
 refine ?_
 rintro σ H Q ⟨m,ρ,h,hr,er,p⟩
 refine ⟨m,ρ,h,hr,er,Post.bind p fun x h1 J m1 H1 _ p1 k1 hr1 r1 q1=>?_⟩
 obtain ⟨items,src⟩:=x
 dsimp only at q1
 split at q1
 ·rename_i hz
  have er1:ER X.K m1 H1 (BI cs ρ) (A8 cs σ):=(er.keep p1 k1).comp cs
  refine ⟨MB X.K E Q src items sg t f (BI cs ρ) m1 H1,
   ⟨items.length,rfl,B9 _,Ap _,m1,h1,[],Ay _,.refl _,hr1,.nil,by simpa using q1⟩,?_⟩
  rintro i n acc H2 ⟨rfl,hi',ha,m2,h2,dacc,p2,k2,hr2,da,q2⟩
  by_cases hlt:i<items.length
  ·rw [GN hlt] at q2
   unfold Ci at q2
   split at q2
   ·rename_i hs
    obtain ⟨hgo,hy⟩:=(r1 i m2 h2 H2 p2 k2 hr2 hs).1 hlt
    refine .inr ⟨hgo,by omega,fun y H3 hyl=>?_⟩
    obtain ⟨k3,hr3,d,ed,rd⟩:=hy y H3 hyl
    have ed':d=items[i]:=by rw [Bb hlt] at ed;exact (Option.some.inj ed).symm
    subst ed'
    split at q2
    ·exact q2.elim
    ·rename_i ρ3 es
     have er3:ER X.K m2 H3 (BI cs ρ) (A8 cs σ):=er1.keep p2 (k2.trans k3)
     refine hg m2 H3 _ y (BI cs ρ) σ ρ3 _ rd er3 es fun σ4 sub4 er4=>⟨sub4,m2,ρ3,h2,hr3,er4,?_⟩
     rw [Out.bind_assoc] at q2
     refine My (Post.ahead (Ay _) k3 q2) fun b h5 v m5 H5 _ p5 k5 hr5 r5 q5=>?_
     cases r5
     cases b with
     |false=>
      simp only [Cq,if_false] at q5 ⊢
      exact ⟨items.length - (i+1),by omega,rfl,hlt,by omega,m5,h5,dacc,p2.trans p5,(k2.trans k3).trans k5,hr5,DVs.keep p5 (k3.trans k5) da,q5⟩
     |true=>
      simp only [if_true] at q5 ⊢
      rw [Out.bind_assoc] at q5
      refine ⟨m5,ρ3,h5,hr5,er4.keep p5 k5,My q5 fun z h6 w m6 H6 _ p6 k6 hr6 r6 q6=>?_⟩
      refine ⟨items.length - (i+1),by omega,rfl,hlt,by simp;omega,m6,h6,dacc++[z],(p2.trans p5).trans p6,((k2.trans k3).trans k5).trans k6,hr6,(DVs.keep (p5.trans p6) ((k3.trans k5).trans k6) da).app (.cons r6 .nil),?_⟩
      rw [Out.bind_assoc] at q6
      simp only [Out.bind_ok] at q6
      simpa using q6
   ·exact q2.elim
  ·have he:i=items.length:=Nat.le_antisymm hi' (FY hlt)
   subst he
   rw [List.drop_length] at q2
   unfold Ci at q2
   split at q2
   ·rename_i hs
    simp only [Out.bind_ok,EX] at q2
    obtain ⟨z1,z2⟩:=Fb hr2 da q2
    exact .inl ⟨(r1 _ m2 h2 H2 p2 k2 hr2 hs).2 rfl,z1,z2⟩
   ·exact q2.elim
 ·exact q1.elim
theorem Uc (hcalm:X.calm=true) (S:Fg X scope Nc cs) (hi:DT X E tg iter it) (hg:Fi X.K cs gg sg)
 (hb:∀(C D:Addr) (cells:List (Str×Addr)) (fp:List Addr) (s₀:Shared) (H₀:Hp) (pins:List (Addr×Obj)),PG (Bk X Nc scope C D cells fp s₀ H₀ pins) tg gg∧Fj (Bk X Nc scope C D cells fp s₀ H₀ pins) E0 ifs t∧Ev (Bk X Nc scope C D cells fp s₀ H₀ pins) E0 elt f)
 (hsf:∀x,foldedSetIterable iter X.env x=pure x:=by intro _;rfl):Ev X E (.ListComp elt [⟨tg,iter,ifs,0⟩] scope pos) (AD cs it sg t f):=by
 exact Bq (T9 (g:=gg) (tc:=E7 X.K E0 t) (te:=tD X.K E0 f) hcalm S hi hb hsf) (MC hg)
theorem Ud {i:Nat} {x:Str} {pos' pos2:Pos} (hcalm:X.calm=true) (hN:X.N.Nodup) (hix:X.N[i]?=some x) (hx:Eb X.env.scope x) (S:Fg X scope Nc cs) (hi:DT X E tg iter it) (hg:Fi X.K cs gg sg)
 (hb:∀(C D:Addr) (cells:List (Str×Addr)) (fp:List Addr) (s₀:Shared) (H₀:Hp) (pins:List (Addr×Obj)),PG (Bk X Nc scope C D cells fp s₀ H₀ pins) tg gg∧Fj (Bk X Nc scope C D cells fp s₀ H₀ pins) E0 ifs t∧Ev (Bk X Nc scope C D cells fp s₀ H₀ pins) E0 elt f)
 (hsf:∀x,foldedSetIterable iter X.env x=pure x:=by intro _;rfl) (hsw:swapsWith (.ListComp elt [⟨tg,iter,ifs,0⟩] scope pos) (some (.Name x pos')) pos2.line X.env=pure true:=by rfl)
 (hf:X.fn x=true∨X.env.scope.names.lookup x=some .local:=by first |exact .inl rfl |exact .inr rfl |assumption):Ex X E (.Assign [.Name x pos'] (.ListComp elt [⟨tg,iter,ifs,0⟩] scope pos) pos2) (Am i (AD cs it sg t f)):=by
 rintro pins s σ H D I ⟨m,ρ,h,hr,er,p⟩
 have hq:HC cs (tM X.K (HA X.K) E it) gg (E7 X.K E0 t) (tD X.K E0 f) σ H (fun v H1=>D.nx (σ.set i (some v)) H1):=MC hg σ H _ ⟨m,ρ,h,hr,er,PostS.bind p fun y h1 v m1 H1 _ p1 k1 hr1 r1 q1=>(q1.here hr1) _ ((er.keep p1 k1).set r1)⟩
 rw [exec_Assign_Name_used _ _ _ _ hsw]
 refine wpAny_bind (wpAny_standAt (wpAny_bind ?_))
 show wpAny _ X.A (do let _ ←comprehension (.ListComp elt [⟨tg,iter,ifs,0⟩] scope pos) scope X.env _ (newList []) false (eval iter X.env) (some (assign (.Name x pos') X.env))) _ _ s
 refine wpAny_bind (wpAny_mono (Mx (QQ:=fun _ s'=>SP X pins D .next s') hcalm S hi hb hsf I hq fun s6 C Dd H7 m6 hn hC h0 hL hc hp inv q=>?_) (fun _ s' z=>wpAny_pure (wpAny_pure z)) fun _ _ z=>z)
 have I6:Inv X pins σ H7 s6:=inv s6.heap ⟨rfl,fun _ _=>rfl⟩
 refine wpAny_assign_Name (G1 I6 hN hix hx (v:=.ref Dd) rfl (fun s7 I7 z3_=>?_) hf)
 obtain ⟨a,sb7,ha⟩:=z3_
 have nCa:C≠a:=by
  rcases ha with z |z
  ·rw [z];exact hL
  ·exact Ne.symm (hc x a z)
 obtain ⟨o,es,ep,e1,e2⟩:=hn
 refine ⟨m6,⟨o,es,ep,(sb7.2 C nCa).trans e1,e2⟩,fun h' sb=>?_⟩
 exact ⟨_,H7,I7.turned (t':=s7.toks) (it:=C) (fun b o hb e=>(sb.2 b hb).trans e) hC hL (.inr h0) hc hp,q⟩
end
section
variable {X:Cx} {E:XK}
def CI:D→HD→Option String
 |.non,_=>some "NoneType"
 |.bl _,_=>some "bool"
 |.int _,_=>some "int"
 |.str _,_=>some "str"
 |.tup _,_=>some "tuple"
 |.loc l,h=>match h[l]? with
  |some (.lst _)=>some "list"
  |_=>none
 |_,_=>none
theorem Ue {m:List Addr} {H:Hp} {h:HD} {d:D} {v:V} {t:String} (hr:HR X.K m h H) (r:DV X.K m H d v) (e:CI d h=some t):CO X.K H v (.type t):=by
 cases d with
 |non=>simp only [CI,Option.some.injEq,DV] at e r;subst e r;exact .non
 |bl b=>simp only [CI,Option.some.injEq,DV] at e r;subst e r;exact .bl _
 |int i=>simp only [CI,Option.some.injEq,DV] at e r;subst e r;exact .int _
 |str x=>simp only [CI,Option.some.injEq,DV] at e r;subst e r;exact .str _
 |tup ds=>simp only [CI,Option.some.injEq,DV] at e r;subst e;obtain ⟨a,vs,rfl,ha,_⟩:=r;exact .tup ha
 |loc l=>
  simp only [DV] at r
  obtain ⟨a,rfl,ha⟩:=r
  simp only [CI] at e
  split at e
  ·rename_i ds el
   cases e
   obtain ⟨vs,hv,_⟩:=hr.cells l _ a el ha
   exact .lst hv
  ·cases e
 |_=>simp [CI] at e
def subL:List (String×String×Bool):=[("NoneType","int",false),("bool","int",true),("int","int",true),("str","int",false),("tuple","int",false),("list","int",false),("NoneType","bool",false),("bool","bool",true),("int","bool",false),("str","bool",false),("tuple","bool",false),("list","bool",false),("NoneType","tuple",false),("bool","tuple",false),("int","tuple",false),("str","tuple",false),("tuple","tuple",true),("list","tuple",false),("NoneType","str",false),("bool","str",false),("int","str",false),("str","str",true),("tuple","str",false),("list","str",false),("NoneType","list",false),("bool","list",false),("int","list",false),("str","list",false),("tuple","list",false),("list","list",true),("dict","int",false),("dict","bool",false),("dict","tuple",false),("dict","str",false),("dict","list",false)]
def HE (t c:String):Option Bool:=(subL.find? fun p=>p.1==t&&p.2.1==c).map fun p=>p.2.2
theorem Ug {K:PySem.W.Frag}:∀p∈subL,PySem.W.kitOne K (.type p.1) (.type p.2.1)=some p.2.2:=by
 unfold subL
 simp only [List.forall_mem_cons]
 exact ⟨rfl,rfl,rfl,rfl,rfl,rfl,rfl,rfl,rfl,rfl,rfl,rfl,rfl,rfl,rfl,rfl,rfl,rfl,rfl,rfl,rfl,rfl,rfl,rfl,rfl,rfl,rfl,rfl,rfl,rfl,rfl,rfl,rfl,rfl,rfl,fun _ h=>nomatch h⟩
theorem MD {K:PySem.W.Frag} {t c:String} {b:Bool} (h:HE t c=some b):PySem.W.kitOne K (.type t) (.type c)=some b:=by
 unfold HE at h
 rw [qaP] at h
 obtain ⟨p,hp,rfl⟩:=h
 have e:=List.find?_some hp
 rw [BW,beq_iff_eq,beq_iff_eq] at e
 rw [←e.1,←e.2]
 exact Ug p (List.mem_of_find?_eq_some hp)
def Ba:D→D→HD→Out D:=fun x y h=>match y,CI x h with
 |.ty T,some t=>match HE t T with
  |some b=>.ok (.bl b) h
  |none=>.stuck
 |_,_=>.stuck
theorem Uh {x:Str} {T:String} {pos:Pos} (hg:Gl X x) (hm:X.mg x=none) (hv:bootBuiltins x=some (.type T)) (hn:x≠"__name__":=by decide) (hd:(x==("__debug__":Str))=false:=by decide):Ev X E (.Name x pos) (mC (.ty T)):=
 Eg (QC (v:=.ty T) hg hm hv rfl hn hd) fun _ _=>by simp [DV]
theorem Ui {h h2 h':Heap} {it:Addr} (k:∀b o,h.get? b=some o→h2.get? b=some o) (hit:h.objs.size≤it) (hk:∀b o,b∉[it]→h2.get? b=some o→h'.get? b=some o):∀b o,h.get? b=some o→h'.get? b=some o:=fun b o e=>
 hk b o (by rw [qb4];exact Cg (AN (AA e) hit)) (k b o e)
def J5:D→Option Int
 |.int i=>some i
 |_=>none
def MF:D→HD→Out D:=fun x h=>match A7 x h with
 |some ds=>match AF (ds.map J5) with
  |some ns=>.ok (.int ns.sum) h
  |none=>.stuck
 |none=>.stuck
theorem Uj (hc:X.calm=true):B1 X (.builtin "all") (fun xs H Q=>∃(p:Addr) (bs:List Bool),xs=[.ref p]∧SqL X.K H p (bs.map V.bl)∧Q (.bl (bs.all id)) H):=by
 intro pins s σ H xs us Q I r h
 obtain ⟨p,bs,rfl,hs,q⟩:=h
 obtain ⟨u,rfl,rx⟩:=Dl r
 cases rx
 have hh:X.A.in1.handled=none:=I.ok.hd hc
 obtain ⟨its,rv,pl,hz⟩:=I.list hs
 have hl:=rv.length
 rw [BX] at hl
 have hlt:p<s.heap.objs.size:=by obtain ⟨_,e,_⟩:=pl.isList;exact AA e
 have item:∀(i:Nat) (v:Value),its.toArray[i]?=some v→v=.bool (bs.getD i true):=fun i v e=>by
  have e':its[i]?=some v:=by simpa using e
  have hi:i<its.length:=(qa4.mp e').1
  have hn:(bs.map V.bl)[i]?=some (V.bl (bs.getD i true)):=by
   rw [BP,Bb (by omega)]
   simp [ES,Bb (show i<bs.length by omega)]
  obtain ⟨u,h1,h2⟩:=rv.get hn
  rw [e'] at h1
  cases h1
  exact h2
 refine call_all_walk (wpAny_pyIter_list pl.isList ?_)
 refine ⟨s.heap.objs.size,[s.heap.objs.size,p],[s.heap.objs.size],its.toArray.size,_,_,fun i=>bs.getD i true,rfl,Walks.list (A:=X.A.in1) hh _ p (Cg hlt) its.toArray,⟨⟨_,Bf _ rfl,rfl,rfl⟩,pl.isList.push _⟩,fun i v s' Q' E' e hQ=>?_,fun h' tk hk=>?_⟩
 ·rw [item i v e]
  exact wpAny_truthy_bool hQ
 ·have e:(List.range its.toArray.size).all (fun i=>bs.getD i true)=bs.all id:=by
   rw [AZ,←hl]
   apply qb8.mpr
   simp only [qaI,qaU,id]
   constructor
   ·intro h b hb
    obtain ⟨i,hi,rfl⟩:=GP hb
    have:=h i hi
    simpa [ES,Bb hi] using this
   ·intro h i hi
    have:=h bs[i] (EW hi)
    simpa [ES,Bb hi] using this
  rw [e]
  exact ⟨.bl _,H,I.kept (Ui (fun b o e=>AH _ e) (Ap _) hk),rfl,q⟩
def Fm:D→Option Bool
 |.bl b=>some b
 |_=>none
def Ct:D→HD→Out D:=fun x h=>match x with
 |.loc l=>match h[l]? with
  |some (.lst ds)=>match AF (ds.map Fm) with
   |some bs=>.ok (.bl (bs.all id)) h
   |none=>.stuck
  |_=>.stuck
 |_=>.stuck
theorem MH {m:List Addr} {H:Hp}:∀{ds:List D} {vs:List V} {bs:List Bool},DVs X.K m H ds vs→AF (ds.map Fm)=some bs→vs=bs.map V.bl
 |[],vs,ns,r,e=>by
  simp only [DVs] at r
  simp [AF] at e
  subst r e
  rfl
 |d::ds,vs,ns,r,e=>by
  simp only [DVs] at r
  obtain ⟨v,w,rfl,rv,rw'⟩:=r
  rw [Bg] at e
  cases d with
  |bl i=>
   simp only [Fm,AF,qaP] at e
   obtain ⟨ns',e1,rfl⟩:=e
   simp only [DV] at rv
   subst rv
   rw [MH rw' e1]
   rfl
  |_=>simp [Fm,AF] at e
theorem Uk (hc:X.calm=true):B3 X (.builtin "all") (Aj Ct):=by
 refine ⟨_,Uj hc,fun m H h E ds vs Q hr r q=>Ei r q fun d v ev rv q=>?_⟩
 unfold Ct at q
 split at q
 ·rename_i l
  split at q
  ·rename_i xs el
   split at q
   ·rename_i bs eb
    simp only [DV] at rv
    obtain ⟨a,rfl,ha⟩:=rv
    obtain ⟨ws,hv,dv⟩:=hr.cells _ _ a el ha
    have:=MH dv eb
    subst this
    exact ⟨a,bs,ev,SqL.of hv,AL hr q (by simp [DV])⟩
   ·exact q.elim
  ·exact q.elim
 ·exact q.elim
def Fo:D→D→HD→Out D:=fun x y h=>match x with
 |.loc l=>match h[l]? with
  |some (.lst ds)=>if ds.length<sizeLine then .ok .non (h.set l (.lst (ds++[y]))) else .stuck
  |_=>.stuck
 |_=>.stuck
def BN:D→HD→Out D:=fun x h=>match x with
 |.loc l=>match h[l]? with
  |some (.lst _)=>.ok x h
  |_=>.stuck
 |_=>.stuck
def Gm (f g:ME):ME:=fun ρ h=>((f ρ h).bind BN).bind fun x h1=>(g ρ h1).bind fun y h2=>Fo x y h2
theorem Ul {o e:Expr} {f g:ME} {apos cpos:Pos} (ho:Ev X E o f) (he:Ev X E e g)
 (hbase:attributeBase o "append" X.env (eval o X.env)=eval o X.env:=by rfl)
 (hfew:((backTo cpos (starEach [e] X.env)).all (fun x=>!x.1)&&(backToKw cpos (keywordEach [] X.env)).all (fun x=>x.1.isSome)
  &&decide ([e].length+([]:List Keyword).length+(if ([]:List Keyword).isEmpty then 0 else 1)<30))=true:=by rfl)
 (hline:(apos.endLine==cpos.line)=true:=by rfl) (hs:starEach [e] X.env=(false,eval e X.env)::starEach [] X.env:=by rfl) (hplain:(backTo cpos (starEach [] X.env)).any (·.1)=false:=by rfl):
 Ev X E (.Call (.Attribute o "append" apos) [e] [] cpos) (Gm f g):=
 Bq (Ss PySem.F.plainAttrs_list PySem.F.slot_list_append PySem.F.type_list_append Sy ho (Hr he Hq hs) hbase hfew hline hs hplain) fun σ H Q z1_=>by
  obtain ⟨m,ρ,h,hr,er,p⟩:=z1_
  refine ⟨m,ρ,h,hr,er,?_⟩
  unfold Gm at p
  rw [Out.bind_assoc] at p
  refine Post.bind p fun x h1 v m1 H1 eo p1 k1 hr1 r1 q1=>?_
  clear eo
  unfold BN at q1
  split at q1
  ·rename_i l
   split at q1
   ·rename_i ds el
    simp only [Out.bind_ok] at q1
    have r1':=r1
    simp only [rD,DV] at r1'
    obtain ⟨a,rfl,ha⟩:=r1'
    obtain ⟨ws,hv,dv⟩:=hr1.cells l _ a el ha
    refine ⟨.inl ⟨rfl,ws,SqL.of hv⟩,m1,ρ,h1,hr1,er.keep p1 k1,?_⟩
    have q2:Post X.K (rD X.K) m1 H1 E Q ((Aa g Ac ρ h1).bind fun ys h2=>match ys with
     |[y]=>Fo (.loc l) y h2
     |_=>.stuck):=by
     unfold Aa Ac
     rw [Out.bind_assoc]
     exact q1
    refine Post.bind q2 fun ys h2 vs m2 H2 eo p2 k2 hr2 r2 q3=>?_
    clear eo
    split at q3
    ·rename_i y
     simp only [E6,DVs] at r2
     obtain ⟨yv,w,rfl,ry,rfl⟩:=r2
     unfold Fo at q3
     simp only at q3
     split at q3
     ·rename_i ds2 el2
      split at q3
      ·rename_i hz
       have ha2:=JN p2 ha
       obtain ⟨ws2,hv2,dv2⟩:=hr2.cells l _ a el2 ha2
       refine ⟨a,ws2,yv,rfl,rfl,hv2,by rw [←dv2.len];exact hz,?_⟩
       refine q3 .non m2 _ (Ay _) (.set hv2 rfl) (hr2.setCell ha2 hv2 rfl ⟨_,BZ,?_⟩) (by simp [rD,DV])
       exact (dv2.app (.cons ry .nil)).keep (Ay _) (.set hv2 rfl)
      ·exact q3.elim
     ·exact q3.elim
    ·exact q3.elim
   ·exact q1.elim
  ·exact q1.elim
def Fp:D→D→D→HD→Out (Fl×Af)→Out (Fl×Af):=fun o i v h k=>match o,i with
 |.loc l,.int n=>match h[l]? with
  |some (.lst ds)=>match Cb ds.length n with
   |some j=>match k with
    |.ok a _=>.ok a (h.set l (.lst (ds.set j v)))
    |_=>.stuck
   |none=>.stuck
  |_=>.stuck
 |_,_=>.stuck
def HF (fo fi fv:ME):MS:=fun ρ h=>(fv ρ h).bind fun v h1=>(fo ρ h1).bind fun o h2=>(fi ρ h2).bind fun i h3=>Fp o i v h3 (.ok (.nx,ρ) h3)
theorem Um {o i e:Expr} {fo fi fv:ME} {pos pos':Pos} (ho:Ev X E o fo) (hi:Ev X E i fi) (he:Ev X E e fv)
 (ha:∀v,assign (.Subscript o i pos') X.env v=(do
  let ov ←holding [v] (eval o X.env)
  let iv ←holding [v,ov] (eval i X.env)
  standAt pos'
  holding [v,ov,iv] (setItem ov iv v)
  release [v,ov,iv] []):=by intro _;rfl)
 (hs:swapsWithSole [.Subscript o i pos'] e pos.line X.env=pure false:=by rfl) (hw:swappedStores [.Subscript o i pos'] e X.env=pure none:=by rfl)
 (h1:(assignEach [.Subscript o i pos'] X.env).map (·.2)=[assign (.Subscript o i pos') X.env]:=by rfl):Ex X E (.Assign [.Subscript o i pos'] e pos) (HF fo fi fv):=
 DM (LC he (Q9 ho hi Sk ha) hs hw h1) fun Dn σ H ⟨m,ρ,h,hr,er,p⟩=>⟨m,ρ,h,hr,er,PostS.bind p fun v h1 vv m1 H1 eo1 p1 k1 hr1 r1 q1=>by
  refine ⟨m1,ρ,h1,hr1,er.keep p1 k1,PostS.bind q1 fun ov h2 vo m2 H2 eo2 p2 k2 hr2 r2 q2=>?_⟩
  refine ⟨m2,ρ,h2,hr2,(er.keep p1 k1).keep p2 k2,PostS.bind q2 fun iv h3 vi m3 H3 eo3 p3 k3 hr3 r3 q3=>?_⟩
  clear eo1 eo2 eo3
  unfold Fp at q3
  split at q3
  ·rename_i l n
   split at q3
   ·rename_i ds el
    split at q3
    ·rename_i j ej
     have ro:=DV.keep p3 k3 r2
     simp only [DV] at ro
     obtain ⟨a,rfl,ha⟩:=ro
     have ri:=r3
     simp only [rD,DV] at ri
     subst ri
     obtain ⟨ws,hv,dv⟩:=hr3.cells l _ a el ha
     refine ⟨a,ws,n,j,rfl,rfl,hv,by rw [←dv.len];exact ej,?_⟩
     have rvv:=DV.keep p3 k3 (DV.keep p2 k2 r1)
     have hr4:HR X.K m3 (h3.set l (.lst (ds.set j v))) (Ai H3 a (.lst (ws.set j vv))):=hr3.setCell ha hv rfl ⟨_,BZ,(dv.set j rvv).keep (Ay _) (.set hv rfl)⟩
     exact q3 m3 _ (Ay _) (.set hv rfl) hr4 σ ((((er.keep p1 k1).keep p2 k2).keep p3 k3).keep (Ay _) (.set hv rfl))
    ·exact q3.elim
   ·exact q3.elim
  ·exact q3.elim⟩
end
def Ax (n:Nat) (g:MS):List D→HD→Out D:=fun ds h=>(g (ds.map some++List.replicate (n - ds.length) none) h).bind fun x h1=>match x with
 |(.nx,_)=>.ok .non h1
 |(.rt d,_)=>.ok d h1
 |_=>.stuck
open AutoSeq1 (wpAny_loadPart')
section
variable {prog:Program} {w:World} {A:Around} {E:Value→Shared→Prop} {s:Shared}
end
section
variable {prog:Program} {w:World} {A:Around} {E:Value→Shared→Prop} {s:Shared}
end
def Zh (K:PySem.W.Frag) (t:Addr) (xs:List V):It:=⟨fun i H=>i<xs.length∧SqT K H t xs,fun i H x H'=>∃p v,H p=none∧x=.ref p∧xs[i]?=some v∧H'=Ai H p (.tup [.int i,v]),fun i H=>i=xs.length∧SqT K H t xs⟩
section
variable {X:Cx} {E:XK}
def J6 (ds:List D):List D:=ds.mapIdx fun i d=>.tup [.int (i:Nat),d]
def MK:List D→HD→Out (List D×AJ):=fun ds h=>match ds with
 |[.tup xs]=>.ok (J6 xs,[]) h
 |_=>.stuck
def ML (fa:MA):MI:=fun ρ h=>(fa ρ h).bind MK
end
end LS
namespace LS
open PySem PySem.Spec PyProof.Rows L2
section
variable {prog:Program} {w:World} {A:Around} {E:Value→Shared→Prop} {s:Shared}
end
section
variable {X:Cx} {E:XK} {e:Expr} {f:ME}
def J7:D→HD→Out D:=fun x h=>match x with
 |.tup [a,b]=>.ok (.tup [b,a]) h
 |_=>.stuck
def MM (f:ME):ME:=fun ρ h=>(f ρ h).bind J7
end
structure CSc (X:Cx) (scope:Scope) (Nc:List Str) (cs:List (Option Nat)):Prop where
 kind:scope.kind=.function
 loc:(scope.names.all fun y=>y.2 != .local||scope.names.lookup y.1==some .local)=true
 free:(scope.names.all fun y=>y.2 != .free||(X.env.kindOf y.1==some .cell||X.env.kindOf y.1==some .free))=true
 nd:(scope.names.map (·.1)).Nodup
 len:cs.length=Nc.length
 out:((Nc.zip cs).all fun p=>match p.2 with
  |none=>true
  |some j=>X.N[j]?==some p.1&&scope.names.lookup p.1==some .free)=true
theorem CSc.ok {X:Cx} {scope:Scope} {Nc:List Str} {cs:List (Option Nat)} (S:CSc X scope Nc cs):Fg X scope Nc cs:=by
 refine ⟨S.kind,fun y hy e=>?_,fun y hy e=>?_,S.nd,S.len,fun i x j h1 h2=>?_⟩
 ·have:=qaI.mp S.loc y hy
  rw [e] at this
  simpa using this
 ·have:=qaI.mp S.free y hy
  rw [e] at this
  simpa using this
 ·have hz:(Nc.zip cs)[i]?=some (x,some j):=by
   rw [List.getElem?_zip_eq_some]
   exact ⟨h1,h2⟩
  have:=qaI.mp S.out (x,some j) (D2 hz)
  simpa using this
structure Dn (K:PySem.W.Frag) (mg:Str→Option Value) (x:Str) (ps:List Str) (st:Stmt) (f:Addr) (fd:FuncData):Prop where
 fn:Fun K x x st f fd
 bd:Binds K fd ps []
 mg:mg x=some (.ref f)
section
variable {X:Cx} {E:XK}
theorem Uo {a:Expr} {f:ME} {pos:Pos} (ha:Ev X E a f):Ev X E (.UnaryOp .USub a pos) (fun ρ h=>(f ρ h).bind fun x h1=>match x with
 |.int i=>.ok (.int (-i)) h1
 |_=>.stuck):=
 Bq (Rr Rx ha) fun σ H Q z1_=>by obtain ⟨m,ρ,h,hr,er,p⟩:=z1_;exact (⟨m,ρ,h,hr,er,Post.bind p fun x h1 v m1 H1 eo p1 k1 hr1 r1 q1=>by
  clear eo
  split at q1
  ·simp only [rD,DV] at r1
   subst r1
   exact ⟨_,rfl,AL hr1 q1 (by simp [DV])⟩
  ·exact q1.elim⟩)
def Fq (f:ME):ME:=fun ρ h=>(f ρ h).bind fun x h1=>match x with
    |.int i=>.ok (.int (-i)) h1
    |_=>.stuck
theorem Up {i j:Nat} {x y:Str} {px py tp:Pos} {kt:Nat} (hc:X.calm=true) (h1:PG X (.Name x px) (B0 i)) (h2:PG X (.Name y py) (B0 j)):PG X (.Tuple [.Name x px,.Name y py] kt tp) (E2 X.K 2 (CN (B0 i) (CN (B0 j) E1))):=
 Jt hc (Ec h1 (Ec h2 Js))
end
def CMl (i j:Int):Prop:=CMul i j∨(Builtin.Int.intBits i≤16777216∧Builtin.Int.intBits j≤16777216)
instance (i j:Int):Decidable (CMl i j):=by unfold CMl;infer_instance
theorem CMl.ok {i j:Int} (h:CMl i j):IntMulOk i j:=by
 rcases h with h |⟨h1,h2⟩
 ·exact h.ok
 ·unfold IntMulOk
  intro z
  simp only [BW,decide_eq_true_eq] at z
  have:=z.2
  unfold Builtin.Int.intTooBig at this
  simp only [decide_eq_true_eq] at this
  have hb:(bitsLine:Int)=134217728:=by first |rfl |decide
  omega
variable {X:Cx}
theorem op_mul':OpR X (binaryOp .Mult) (rI CMl fun i j=>.int (i*j)):=Ha fun _ _ _ _ _ _ _ hc q=>mul_int q hc.ok
def Cj:D→D→HD→Out D
 |.int i,.int j,h=>if CMl i j then .ok (.int (i*j)) h else .stuck
 |.loc l,.int k,h=>match h[l]? with
  |some (.lst xs)=>if -(2^63)≤k∧k<2^63 then Bi (List.replicate k.toNat xs).flatten h else .stuck
  |_=>.stuck
 |_,_,_=>.stuck
theorem Uq:Bh X (binaryOp .Mult) Cj:=by
 refine ⟨_,op_mul'.or SB,fun m H h E x y v u Q hr rx ry q=>?_⟩
 unfold Cj at q
 split at q
 ·simp only [DV] at rx ry
  subst rx ry
  split at q
  ·rename_i hc
   exact .inl ⟨_,_,rfl,rfl,hc,AL hr q (by simp [DV])⟩
  ·exact q.elim
 ·simp only [DV] at rx ry
  obtain ⟨a,rfl,ha⟩:=rx
  subst ry
  split at q
  ·rename_i k _ xs e
   split at q
   ·rename_i hk
    obtain ⟨vs,h1,d1⟩:=hr.cells _ _ a e ha
    obtain ⟨z,q'⟩:=Fb hr (d1.rep k.toNat) q
    refine .inr ⟨a,k,vs,rfl,rfl,h1,hk.1,hk.2,?_,q'⟩
    rw [Hh] at z
    rw [Nat.mul_comm];exact z
   ·exact q.elim
  ·exact q.elim
 ·exact q.elim
end LS
namespace Att
open PySem PySem.W PySem.Calls PyProof.Rows
theorem Ur {ns:List Int} (h:WData.layable (.list (ns.map WData.int))=true):∀n∈ns,Builtin.Int.intBits n≤2^20:=by
 have hw:WData.weight (.list (ns.map WData.int))≤2^20:=(layableW_iff.mp h).2.2
 have key:∀(ns:List Int) (b:Nat),WData.weightAll (ns.map WData.int)≤b→∀n∈ns,Builtin.Int.intBits n≤b:=by
  intro ns
  induction ns with
  |nil=>intro b _ n hn;cases hn
  |cons m r ih=>
   intro b hb n hn
   have e:WData.weightAll ((m::r).map WData.int)=Builtin.Int.intBits m+1+WData.weightAll (r.map WData.int):=by
    simp only [Bg,WData.weightAll,WData.weight]
    rfl
   rw [e] at hb
   rcases qaB.mp hn with z |z
   ·subst z;omega
   ·exact ih b (by omega) n z
 exact key ns _ (by simpa only [WData.weight] using hw)
theorem attach_bits {l:OpenLaw} {n:Nat} {q:Program} {loose:List Str} {XP:(Str→Option Value)→Heap→Prop} {YP:World→Heap→Prop} {d:DefRec}
 (hn:l.most=some n) (hdf:d.params.defaults=[])
 (call:∀(w:World) (s₀ s₁:Shared) (mg mb:Str→Option Value) (fa:Addr) (o:Obj) (pm cd doc:Value) (a:Addr) (vs:List Value) (ns:List Int),(∀n∈ns,Builtin.Int.intBits n≤2^20)→
  Ground q loose [] XP w s₀ mg mb s₁.heap→YP w s₁.heap→
  s₁.heap.get? fa=some o→o.data=.func (docDef d.name d.params d.body d.scope pm cd doc)→s₁.heap.CodeRec cd d.name→mg d.name=some (.ref fa)→
  s₁.heap.get? a=some {cls:=.type "list",data:=.seq vs.toArray}→IntsAre vs ns→ns.length≤n→s₁.gens=#[]→
  codeAny (model l.prog w) callerA (.call (.ref fa) ⟨[.ref a],[]⟩) (fun r s'=>r=.ok (.ret (.bool true))∧OldK s₁.heap s'.heap∧s'.os=s₁.os∧AllBare s'.gens) s₁):
 WalkO q loose XP YP l.row.toRowW d [] (fun f vs=>PySem.call f vs):=by
 intro w s₀ s₁ mg mb G Y fa o pm cd doc dV kV ho hd hcd hD hmg hg args vals as hpre hlay hrd hwl hlo
 obtain rfl:dV=.none:=Dflts.none hD hdf
 obtain rfl:kV=.none:=Dflts.noKw hD
 obtain ⟨a,vs,ns,rfl,rfl,hobj,hints,hlen⟩:=SE hn hpre hwl
 have hb:=Ur (layableW_arg hlay _ AE)
 refine enter_call (codeAny_mono (call w s₀ s₁ mg mb fa o pm cd doc a vs ns hb G Y ho (fd_plain hd) hcd hmg hobj hints hlen hg) fun r s' hq=>?_)
 obtain ⟨rfl,h2,h3,h4⟩:=hq
 exact ⟨.inl ⟨.bool true,.bool true,[],rfl,fun _=>rfl,.bool true,SF l _,fun _=>⟨List.Pairwise.nil,fun _ hm=>(nomatch hm)⟩⟩,h2,h3,h4⟩
end Att
namespace LS
open PySem PySem.Spec PyProof.Rows L2
def Wp {α:Type} (o:Out α) (Q:α→HD→Prop):Prop:=match o with
 |.ok a h=>Q a h
 |_=>False
section
variable {α β:Type} {o:Out α} {Q Q':α→HD→Prop}
@[simp] theorem Ck (a:α) (h:HD):Wp (.ok a h) Q=Q a h:=rfl
@[simp] theorem Zi:Wp .stuck Q=False:=rfl
theorem Au {o':Out α} (e:o=o') (h:Wp o' Q):Wp o Q:=e ▸ h
theorem Al {k:α→HD→Out β} {Q:β→HD→Prop}:Wp (o.bind k) Q=Wp o fun a h=>Wp (k a h) Q:=by cases o<;>rfl
theorem Wp.mono (h:Wp o Q) (f:∀a h,Q a h→Q' a h):Wp o Q':=by
 cases o with
 |ok a h'=>exact f _ _ h
 |_=>exact h.elim
theorem Wp.ex (h:Wp o Q):∃a h',o=.ok a h'∧Q a h':=by
 cases o with
 |ok a h'=>exact ⟨a,h',rfl,h⟩
 |_=>exact h.elim
end
def Sm (h h':HD):Prop:=∀(l:Nat) (c:Ce),h[l]?=some c→h'[l]?=some c
theorem Sm.refl (h:HD):Sm h h:=fun _ _ e=>e
theorem Sm.trans {h h1 h2:HD} (a:Sm h h1) (b:Sm h1 h2):Sm h h2:=fun l c e=>b l c (a l c e)
theorem Sm.app (h t:HD):Sm h (h++t):=fun l c e=>by
 rw [Di (qa4.mp e).1];exact e
def Pu {α:Type} (o:Out α) (h:HD) (a:α):Prop:=Wp o fun x h'=>x=a∧Sm h h'
section
variable {α β:Type} {o:Out α} {h:HD} {a:α}
theorem Pu.wp {Q:α→HD→Prop} (p:Pu o h a) (k:∀h',Sm h h'→Q a h'):Wp o Q:=Wp.mono p fun x h' z1_=>by obtain ⟨e,s⟩:=z1_;subst e;exact k h' s
theorem Pu.ok:Pu (.ok a h) h a:=⟨rfl,.refl _⟩
theorem Pu.bind {k:α→HD→Out β} {b:β} (p:Pu o h a) (q:∀h',Sm h h'→Pu (k a h') h' b):Pu (o.bind k) h b:=by
 unfold Pu
 rw [Al]
 exact p.wp fun h' s=>Wp.mono (q h' s) fun x h2 z2_=>by obtain ⟨e,s2⟩:=z2_;exact (⟨e,s.trans s2⟩)
theorem Pu.noErr (p:Pu o h a):Pu (noErr o) h a:=by
 obtain ⟨x,h',e,q⟩:=Wp.ex p
 rw [e];exact q
theorem Pu.eq {b:α} (p:Pu o h a) (e:a=b):Pu o h b:=e ▸ p
end
def MN (i j:Nat) (ρ:Af) (ds:List D) (h:HD):Out (Fl×Af):=match ds with
 |[x,y]=>.ok (.nx,(ρ.set i (some x)).set j (some y)) h
 |_=>.stuck
def MP (o:Option Af) (h:HD):Out (Fl×Af):=match o with
 |some ρ1=>.ok (.nx,ρ1) h
 |none=>.stuck
def HG (g:HD→Out D) (x:D) (h:HD):Out D:=match x with
 |.bl true=>g h
 |.bl false=>.ok (.bl false) h
 |_=>.stuck
def J8 (g:HD→Out D) (x:D) (h:HD):Out D:=match x with
 |.bl true=>.ok (.bl true) h
 |.bl false=>g h
 |_=>.stuck
def MQ (x:D) (h:HD):Out D:=match x with
 |.bl b=>.ok (.bl (!b)) h
 |_=>.stuck
def MR (x:D) (h:HD):Out D:=match x with
 |.int i=>.ok (.int (-i)) h
 |_=>.stuck
@[simp] theorem Zj {i j:Nat} {ρ:Af} {x y:D} {h:HD} {Q:Fl×Af→HD→Prop}:Wp (MN i j ρ [x,y] h) Q=Q (.nx,(ρ.set i (some x)).set j (some y)) h:=rfl
@[simp] theorem Zk {ρ:Af} {h:HD} {Q:Fl×Af→HD→Prop}:Wp (MP (some ρ) h) Q=Q (.nx,ρ) h:=rfl
@[simp] theorem Zl {g:HD→Out D} {h:HD}:HG g (.bl true) h=g h:=rfl
@[simp] theorem Zm {g:HD→Out D} {h:HD}:HG g (.bl false) h=.ok (.bl false) h:=rfl
@[simp] theorem Zn {g:HD→Out D} {h:HD}:J8 g (.bl true) h=.ok (.bl true) h:=rfl
@[simp] theorem Zo {g:HD→Out D} {h:HD}:J8 g (.bl false) h=g h:=rfl
@[simp] theorem Zp {b:Bool} {h:HD}:MQ (.bl b) h=.ok (.bl (!b)) h:=rfl
@[simp] theorem Zq {i:Int} {h:HD}:MR (.int i) h=.ok (.int (-i)) h:=rfl
def J9 (g:MS) (Q:Fl×Af→HD→Prop):Fl×Af→HD→Prop
 |(.nx,ρ),h=>Wp (g ρ h) Q
 |y,h=>Q y h
def Gn (Q:D→HD→Prop):Fl×Af→HD→Prop
 |(.nx,_),h=>Q .non h
 |(.rt d,_),h=>Q d h
 |_,_=>False
section
variable {ρ:Af} {h:HD} {Q:Fl×Af→HD→Prop} {QB:D→HD→Prop} {g g1 g2:MS} {f:ME} {t:MT}
@[simp] theorem Ag:J9 g Q (.nx,ρ) h=Wp (g ρ h) Q:=rfl
@[simp] theorem Zr {d:D}:J9 g Q (.rt d,ρ) h=Q (.rt d,ρ) h:=rfl
@[simp] theorem Zs:Gn QB (.nx,ρ) h=QB .non h:=rfl
@[simp] theorem Zt {d:D}:Gn QB (.rt d,ρ) h=QB d h:=rfl
@[simp] theorem BJ:Wp (Ah g1 g2 ρ h) Q=Wp (g1 ρ h) (J9 g2 Q):=by
  unfold Ah
  rw [Al]
  congr 1
  funext x h'
  obtain ⟨fl,ρ1⟩:=x
  cases fl<;>rfl
theorem AO {n:Nat} {ds:List D}:Wp (Ax n g ds h) QB=Wp (g (ds.map some++List.replicate (n - ds.length) none) h) (Gn QB):=by
 unfold Ax
 rw [Al]
 congr 1
 funext x h'
 obtain ⟨fl,ρ1⟩:=x
 cases fl<;>rfl
@[simp] theorem Zu:Wp (A2 ρ h) Q=Q (.nx,ρ) h:=rfl
@[simp] theorem Ka:Wp (CH f ρ h) Q=Wp (f ρ h) fun _ h1=>Q (.nx,ρ) h1:=by unfold CH;rw [Al];rfl
@[simp] theorem HH:Wp (As f ρ h) Q=Wp (f ρ h) fun d h1=>Q (.rt d,ρ) h1:=by unfold As;rw [Al];rfl
@[simp] theorem Kb {i:Nat}:Wp (Am i f ρ h) Q=Wp (f ρ h) fun d h1=>Q (.nx,ρ.set i (some d)) h1:=by unfold Am;rw [Al];rfl
@[simp] theorem Zv:Wp (AW t g1 g2 ρ h) Q=Wp (t ρ h) fun b h1=>Wp (if b=true then g1 ρ h1 else g2 ρ h1) Q:=by unfold AW;rw [Al]
@[simp] theorem Zw {i j:Nat} {fa:MA}:Wp (Fe i j fa ρ h) Q=Wp (fa ρ h) fun ds h1=>Wp (MN i j ρ ds h1) Q:=by unfold Fe;rw [Al];rfl
@[simp] theorem Zx {sg:MG}:Wp (Ej sg f ρ h) Q=Wp (f ρ h) fun d h1=>Wp (MP (sg d ρ) h1) Q:=by unfold Ej;rw [Al];rfl
@[simp] theorem Zy {fo fi fv:ME}:Wp (HF fo fi fv ρ h) Q=Wp (fv ρ h) fun v h1=>Wp (fo ρ h1) fun o h2=>Wp (fi ρ h2) fun i h3=>Wp (Fp o i v h3 (.ok (.nx,ρ) h3)) Q:=by
  unfold HF;simp only [Al]
end
section
variable {ρ:Af} {h:HD} {Q:D→HD→Prop} {QB:Bool→HD→Prop} {QA:List D→HD→Prop} {f g k:ME} {t u:MT} {fa:MA} {op op':D→D→HD→Out D} {F:List D→HD→Out D}
@[simp] theorem Fs {d:D} {r:Af}:Wp (Ab 0 (some d::r) h) Q=Q d h:=rfl
@[simp] theorem MU {i:Nat} {x:Option D} {r:Af}:Wp (Ab (i+1) (x::r) h) Q=Wp (Ab i r h) Q:=rfl
@[simp] theorem Zz {d:D}:Wp (mC d ρ h) Q=Q d h:=rfl
@[simp] theorem Us:Wp (Ae op f g ρ h) Q=Wp (f ρ h) fun x h1=>Wp (g ρ h1) fun y h2=>Wp (op x y h2) Q:=by unfold Ae;simp only [Al]
@[simp] theorem El:Wp (Ad F fa ρ h) Q=Wp (fa ρ h) fun ds h1=>Wp (F ds h1) Q:=by unfold Ad;rw [Al]
@[simp] theorem DU:Wp (Ac ρ h) QA=QA [] h:=rfl
@[simp] theorem Em:Wp (Aa f fa ρ h) QA=Wp (f ρ h) fun x h1=>Wp (fa ρ h1) fun xs h2=>QA (x::xs) h2:=by unfold Aa;simp only [Al];rfl
@[simp] theorem ZA:Wp (An fa ρ h) Q=Wp (fa ρ h) fun xs h1=>Wp (if xs.length≤sizeLine then .ok (.tup xs) h1 else .stuck) Q:=by unfold An;simp only [Al]
@[simp] theorem ZC:Wp (AR fa ρ h) Q=Wp (fa ρ h) fun xs h1=>Wp (Bi xs h1) Q:=by unfold AR;simp only [Al]
@[simp] theorem ZD:Wp (A0 f ρ h) QB=Wp (f ρ h) fun x h1=>Wp (Ga x h1) QB:=by unfold A0;rw [Al]
@[simp] theorem ZE:Wp (BA f ρ h) QB=Wp (f ρ h) fun x h1=>Wp (CS x h1) QB:=by unfold BA;rw [Al]
@[simp] theorem ZF:Wp (BB t ρ h) QB=Wp (t ρ h) fun b h1=>QB (!b) h1:=by unfold BB;rw [Al];rfl
@[simp] theorem ZG:Wp (Hl t u ρ h) QB=Wp (t ρ h) fun b h1=>Wp (if b=true then u ρ h1 else .ok false h1) QB:=by unfold Hl;rw [Al]
@[simp] theorem ZH:Wp (B2 t u ρ h) QB=Wp (t ρ h) fun b h1=>Wp (if b=true then .ok true h1 else u ρ h1) QB:=by unfold B2;rw [Al]
@[simp] theorem ZI:Wp (Dm f g ρ h) Q=Wp (f ρ h) fun x h1=>Wp (HG (g ρ) x h1) Q:=by unfold Dm;rw [Al];rfl
@[simp] theorem ZJ:Wp (Mg f g ρ h) Q=Wp (f ρ h) fun x h1=>Wp (J8 (g ρ) x h1) Q:=by unfold Mg;rw [Al];rfl
@[simp] theorem ZK:Wp (Hn f ρ h) Q=Wp (f ρ h) fun x h1=>Wp (MQ x h1) Q:=by unfold Hn;rw [Al];rfl
@[simp] theorem ZL:Wp (Fq f ρ h) Q=Wp (f ρ h) fun x h1=>Wp (MR x h1) Q:=by unfold Fq;rw [Al];rfl
@[simp] theorem ZM:Wp (Ho t f g ρ h) Q=Wp (t ρ h) fun b h1=>Wp (if b=true then f ρ h1 else g ρ h1) Q:=by unfold Ho;rw [Al]
@[simp] theorem ZN:Wp (DN op op' f g k ρ h) Q=Wp (f ρ h) fun x h1=>Wp (g ρ h1) fun y h2=>Wp (op x y h2) fun z h3=>Wp (HG (fun h=>(k ρ h).bind fun w h4=>op' y w h4) z h3) Q:=by unfold DN;simp only [Al];rfl
@[simp] theorem ZO:Wp (MM f ρ h) Q=Wp (f ρ h) fun x h1=>Wp (J7 x h1) Q:=by unfold MM;rw [Al]
@[simp] theorem ZP:Wp (Gm f g ρ h) Q=Wp (f ρ h) fun x h1=>Wp (BN x h1) fun x h1=>Wp (g ρ h1) fun y h2=>Wp (Fo x y h2) Q:=by unfold Gm;simp only [Al]
@[simp] theorem ZQ:Wp (A9 ρ h) QB=QB true h:=rfl
theorem AM {xs:List D} (hn:xs.length≤sizeLine) (q:∀l h',Sm h h'→h'[l]?=some (.lst xs)→l=h.length→h'=h++[.lst xs]→Q (.loc l) h'):Wp (Bi xs h) Q:=by
 unfold Bi
 rw [if_pos hn]
 exact q h.length _ (.app _ _) (by simp) rfl rfl
end
section
variable {ρ:Af} {h:HD} {QI:(List D×AJ)→HD→Prop} {f:ME} {fa:MA}
@[simp] theorem Ut:Wp (AX f ρ h) QI=Wp (f ρ h) fun d h1=>Wp (Do d h1) QI:=by unfold AX;rw [Al]
@[simp] theorem ZR:Wp (CT fa ρ h) QI=Wp (fa ρ h) fun d h1=>Wp (Ff d h1) QI:=by unfold CT;rw [Al]
@[simp] theorem ZS:Wp (Mq fa ρ h) QI=Wp (fa ρ h) fun d h1=>Wp (Mp d h1) QI:=by unfold Mq;rw [Al]
@[simp] theorem ZT:Wp (ML fa ρ h) QI=Wp (fa ρ h) fun d h1=>Wp (MK d h1) QI:=by unfold ML;rw [Al]
theorem Gp {n:Nat} (hn:n≤1000):Ff [.int (n:Int)] h=.ok ((List.range n).map fun k=>D.int ((k:Nat):Int),[]) h:=by
 have:(-(2^62):Int)≤(n:Int)∧(n:Int)<2^62:=by omega
 unfold Ff
 simp only
 rw [if_pos this]
 simp [Ek]
end
theorem MV {α:Type} {src:AJ} {items:List D} {sg:MG} {t:MT} {f:ME} {ρc:Af} (φ:α→D) (g:α→Bool) (e:α→D) (ρ1:α→Af):
 ∀(xs:List α) (h:HD),(∀h',Sm h h'→Br src items h')→(∀x∈xs,sg (φ x) ρc=some (ρ1 x))→(∀x∈xs,∀h',Sm h h'→Pu (t (ρ1 x) h') h' (g x))→(∀x∈xs,g x=true→∀h',Sm h h'→Pu (f (ρ1 x) h') h' (e x))→
  Pu (Ci src items sg t f ρc (xs.map φ) h) h ((xs.filter g).map e)
 |[],h,hs,_,_,_=>by
  simp only [List.map_nil,List.filter_nil,Ci]
  rw [if_pos (hs h (.refl _))]
  exact .ok
 |x::xs,h,hs,hg,ht,hf=>by
  simp only [Bg,Ci]
  rw [if_pos (hs h (.refl _)),hg x AE]
  simp only
  refine Pu.bind (ht x AE h (.refl _)).noErr fun h1 s1=>?_
  have ih:∀h2,Sm h h2→Pu (Ci src items sg t f ρc (xs.map φ) h2) h2 ((xs.filter g).map e):=fun h2 s2=>MV φ g e ρ1 xs h2 (fun h' s'=>hs h' (s2.trans s'))
   (fun y hy=>hg y (AI _ hy)) (fun y hy h' s'=>ht y (AI _ hy) h' (s2.trans s')) (fun y hy gy h' s'=>hf y (AI _ hy) gy h' (s2.trans s'))
  cases hgx:g x with
  |false=>
   rw [if_neg Bo,List.filter_cons_of_neg (by simp [hgx])]
   exact ih h1 s1
  |true=>
   rw [if_pos rfl,List.filter_cons_of_pos hgx]
   refine Pu.bind (hf x AE hgx h1 s1).noErr fun h2 s2=>?_
   exact Pu.bind (ih h2 (s1.trans s2)) fun h3 _=>.ok
theorem HI {α:Type} {xs:List α}:xs.filter (fun _=>true)=xs:=List.filter_eq_self.mpr fun _ _=>rfl
section
variable {α:Type} {cs:List (Option Nat)} {it:MI} {sg:MG} {t:MT} {f:ME} {ρ:Af} {h:HD} {src:AJ} {xs:List α} {φ:α→D}
theorem HJ {Q:D→HD→Prop} (g:α→Bool) (e:α→D) (ρ1:α→Af) (hi:Wp (it ρ h) fun x h'=>x=(xs.map φ,src)∧Sm h h'∧∀h2,Sm h' h2→Br src (xs.map φ) h2) (hn:xs.length≤sizeLine)
 (hg:∀x∈xs,sg (φ x) (BI cs ρ)=some (ρ1 x)) (ht:∀x∈xs,∀h',Sm h h'→Pu (t (ρ1 x) h') h' (g x)) (hf:∀x∈xs,g x=true→∀h',Sm h h'→Pu (f (ρ1 x) h') h' (e x))
 (q:∀l h',Sm h h'→h'[l]?=some (.lst ((xs.filter g).map e))→Q (.loc l) h'):Wp (AD cs it sg t f ρ h) Q:=by
 unfold AD
 rw [Al]
 refine Wp.mono hi fun x h1 z4_=>?_
 obtain ⟨ex,s1,hs⟩:=z4_
 subst ex
 rw [if_pos (by simpa using hn),Al]
 refine (MV φ g e ρ1 xs h1 hs hg (fun x hx h' s'=>ht x hx h' (s1.trans s')) (fun x hx gx h' s'=>hf x hx gx h' (s1.trans s'))).wp fun h2 s2=>?_
 refine AM ?_ fun l h3 s3 e3 _ _=>q l h3 ((s1.trans s2).trans s3) e3
 rw [BX]
 exact Bc (DF _ _) hn
theorem Uu (g:α→Bool) (e:α→D) (ρ1:α→Af) (hi:Wp (it ρ h) fun x h'=>x=(xs.map φ,src)∧Sm h h'∧∀h2,Sm h' h2→Br src (xs.map φ) h2) (hn:xs.length≤sizeLine)
 (hg:∀x∈xs,sg (φ x) (BI cs ρ)=some (ρ1 x)) (ht:∀x∈xs,∀h',Sm h h'→Pu (t (ρ1 x) h') h' (g x)) (hf:∀x∈xs,g x=true→∀h',Sm h h'→Pu (f (ρ1 x) h') h' (e x)):
 Pu (Ad (Aj BC) (Aa (AD cs it sg t f) Ac) ρ h) h (.tup ((xs.filter g).map e)):=by
 unfold Pu
 rw [El,Em]
 refine HJ g e ρ1 hi hn hg ht hf fun l h' s' e'=>?_
 rw [DU]
 simp only [Aj,BC,e']
 exact ⟨rfl,s'⟩
theorem Uv (e:α→D) (ρ1:α→Af) (hi:Wp (it ρ h) fun x h'=>x=(xs.map φ,src)∧Sm h h'∧∀h2,Sm h' h2→Br src (xs.map φ) h2) (hn:xs.length≤sizeLine)
 (hg:∀x∈xs,sg (φ x) (BI cs ρ)=some (ρ1 x)) (hf:∀x∈xs,∀h',Sm h h'→Pu (f (ρ1 x) h') h' (e x)):
 Pu (Ad (Aj BC) (Aa (AD cs it sg A9 f) Ac) ρ h) h (.tup (xs.map e)):=by
 have:=Uu (t:=A9) (f:=f) (fun _=>true) e ρ1 hi hn hg (fun x hx h' s'=>(.ok:Pu (.ok true h') h' true)) (fun x hx _ h' s'=>hf x hx h' s')
 rw [HI] at this
 exact this
theorem MW {β γ:Type} {f:β→Option γ} {g:β→γ}:∀{xs:List β},(∀x∈xs,f x=some (g x))→AF (xs.map f)=some (xs.map g)
 |[],_=>rfl
 |x::xs,hf=>by
  simp only [Bg,hf x AE,AF,MW (fun y hy=>hf y (AI _ hy)),F0]
theorem Uw (b:α→Bool) (ρ1:α→Af) (hi:Wp (it ρ h) fun x h'=>x=(xs.map φ,src)∧Sm h h'∧∀h2,Sm h' h2→Br src (xs.map φ) h2) (hn:xs.length≤sizeLine)
 (hg:∀x∈xs,sg (φ x) (BI cs ρ)=some (ρ1 x)) (hf:∀x∈xs,∀h',Sm h h'→Pu (f (ρ1 x) h') h' (.bl (b x))):
 Pu (Ad (Aj Ct) (Aa (AD cs it sg A9 f) Ac) ρ h) h (.bl (xs.all b)):=by
 unfold Pu
 rw [El,Em]
 refine HJ (fun _=>true) (fun x=>.bl (b x)) ρ1 hi hn hg (fun x hx h' s'=>(.ok:Pu (.ok true h') h' true)) (fun x hx _ h' s'=>hf x hx h' s') fun l h' s' e'=>?_
 rw [DU]
 rw [HI] at e'
 simp only [Aj,Ct,e',F4]
 rw [MW (f:=Fm∘fun x=>D.bl (b x)) (g:=b) (fun x _=>rfl)]
 refine ⟨?_,s'⟩
 simp [List.all_map]
end
def B5 (I:Af→HD→Prop) (Q:Fl×Af→HD→Prop):Fl×Af→HD→Prop
 |(.nx,ρ),h=>I ρ h
 |(.ct,ρ),h=>I ρ h
 |(.bk,ρ),h=>Q (.nx,ρ) h
 |(.rt d,ρ),h=>Q (.rt d,ρ) h
theorem HK {α:Type} {src:AJ} {items:List D} {sg:MG} {body:MS} {Q:Fl×Af→HD→Prop} (φ:α→D) (I:List α→Af→HD→Prop) (ho:∀xs ρ h,I xs ρ h→Br src items h)
 (step:∀x xs ρ h,I (x::xs) ρ h→∃ρ1,sg (φ x) ρ=some ρ1∧Wp (body ρ1 h) (B5 (I xs) Q)) (done:∀ρ h,I [] ρ h→Q (.nx,ρ) h):∀(xs:List α) (ρ:Af) (h:HD),I xs ρ h→Wp (CU src items sg body (xs.map φ) ρ h) Q
 |[],ρ,h,i=>by
  simp only [List.map_nil,CU]
  rw [if_pos (ho _ _ _ i)]
  exact done ρ h i
 |x::xs,ρ,h,i=>by
  simp only [Bg,CU]
  rw [if_pos (ho _ _ _ i)]
  obtain ⟨ρ1,e,w⟩:=step x xs ρ h i
  rw [e]
  simp only
  rw [Al]
  refine Wp.mono w fun y h' k=>?_
  obtain ⟨fl,ρ2⟩:=y
  cases fl with
  |nx=>exact HK φ I ho step done xs ρ2 h' k
  |ct=>exact HK φ I ho step done xs ρ2 h' k
  |bk=>exact k
  |rt d=>exact k
theorem Ft {α:Type} {src:AJ} {it:MI} {sg:MG} {body:MS} {Q:Fl×Af→HD→Prop} {ρ:Af} {h:HD} {xs:List α} (φ:α→D) (I:List α→Af→HD→Prop) (hi:Wp (it ρ h) fun x h'=>x=(xs.map φ,src)∧I xs ρ h') (ho:∀ys ρ h,I ys ρ h→Br src (xs.map φ) h)
 (step:∀x xs ρ h,I (x::xs) ρ h→∃ρ1,sg (φ x) ρ=some ρ1∧Wp (body ρ1 h) (B5 (I xs) Q)) (done:∀ρ h,I [] ρ h→Q (.nx,ρ) h):Wp (BM it sg body ρ h) Q:=by
 unfold BM
 rw [Al]
 refine Wp.mono hi fun x h1 z5_=>?_
 obtain ⟨e,i⟩:=z5_
 subst e
 exact HK φ I ho step done xs ρ h1 i
def Py (d:D) (p:PyData):Prop:=A1 [] 8 d=some p∧SeqAt.shaped p=true
@[simp] theorem ZU:(0≤sizeLine)=True:=eq_true (B9 _)
@[simp] theorem ZV:(1≤sizeLine)=True:=eq_true (by unfold sizeLine;omega)
@[simp] theorem ZW:(2≤sizeLine)=True:=eq_true (by unfold sizeLine;omega)
@[simp] theorem HL:(3≤sizeLine)=True:=eq_true (by unfold sizeLine;omega)
@[simp] theorem ZX:(4≤sizeLine)=True:=eq_true (by unfold sizeLine;omega)
@[simp] theorem ZY:(5≤sizeLine)=True:=eq_true (by unfold sizeLine;omega)
section
variable {h:HD} {a b c:D} {ds es:List D} {i j:Int} {F1:D→HD→Out D} {F2:D→D→HD→Out D} {F3:D→D→D→HD→Out D}
@[simp] theorem Ux:Aj F1 [a] h=F1 a h:=rfl
@[simp] theorem ZZ:AV F2 [a,b] h=F2 a b h:=rfl
@[simp] theorem Z0:S8 F3 [a,b,c] h=F3 a b c h:=rfl
@[simp] theorem Z1 {b:Bool}:Ga (.bl b) h=.ok b h:=rfl
@[simp] theorem Z2 {b:Bool}:CS (.bl b) h=.ok b h:=rfl
@[simp] theorem Z3:CS .non h=.ok false h:=rfl
@[simp] theorem Z4:CS (.int i) h=.ok (i != 0) h:=rfl
@[simp] theorem Z5:CS (.tup ds) h=.ok (!ds.isEmpty) h:=rfl
@[simp] theorem Z6:Ba (.int i) (.ty "int") h=.ok (.bl true) h:=rfl
@[simp] theorem Z7:Ba (.int i) (.ty "bool") h=.ok (.bl false) h:=rfl
@[simp] theorem Z8:Ba (.int i) (.ty "tuple") h=.ok (.bl false) h:=rfl
@[simp] theorem Z9:Ba (.tup ds) (.ty "tuple") h=.ok (.bl true) h:=rfl
@[simp] theorem Zaa:Ba (.tup ds) (.ty "int") h=.ok (.bl false) h:=rfl
@[simp] theorem Zab:Aq (.int i) (.int j) h=.ok (.int (i+j)) h:=rfl
@[simp] theorem Uy {f:Int→Int→D}:DP f (.int i) (.int j) h=.ok (f i j) h:=rfl
@[simp] theorem Zac {b c:Bool}:Tg (.bl b) (.bl c) h=.ok (.bl (b==c)) h:=rfl
@[simp] theorem Zad {b c:Bool}:Th (.bl b) (.bl c) h=.ok (.bl (!(b==c))) h:=rfl
@[simp] theorem Zae:Bj (.tup ds) h=.ok (.int ds.length) h:=rfl
@[simp] theorem Zaf {ns:List Int}:Bj (.scr ns) h=.ok (.int ns.length) h:=by simp [Bj,A7]
@[simp] theorem Zag:Do (.tup ds) h=.ok (ds,[]) h:=rfl
@[simp] theorem Zah:BC (.tup ds) h=.ok (.tup ds) h:=rfl
@[simp] theorem Zai:J7 (.tup [a,b]) h=.ok (.tup [b,a]) h:=rfl
@[simp] theorem Zaj:Gg (.int i) (.int j) h=.ok (.int (if j>i then j else i)) h:=rfl
@[simp] theorem Zak:Gh (.int i) (.int j) h=.ok (.int (if j<i then j else i)) h:=rfl
@[simp] theorem Uz {b:Bool}:Gi (.bl b) h=.ok (.int (if b then 1 else 0)) h:=rfl
@[simp] theorem Zal:Gi (.int i) h=.ok (.int i) h:=rfl
@[simp] theorem Zam {ρ:Af} {k:Nat}:AG k a ρ=some (ρ.set k (some a)):=rfl
@[simp] theorem Zan {ρ:Af} {k l:Nat}:Gj k l (.tup [a,b]) ρ=some ((ρ.set k (some a)).set l (some b)):=rfl
@[simp] theorem Zao {b c:Bool}:Ge (.bl b) (.bl c) h=.ok (.bl (b==c)) h:=rfl
@[simp] theorem Zap {b c:Bool}:DQ (.bl b) (.bl c) h=.ok (.bl (!(b==c))) h:=rfl
@[simp] theorem Zaq:Ge (.int i) (.int j) h=.ok (.bl (i==j)) h:=rfl
@[simp] theorem Zar:DQ (.int i) (.int j) h=.ok (.bl (!(i==j))) h:=rfl
theorem MX {l:Nat} (e:h[l]?=some (.lst ds)):BC (.loc l) h=.ok (.tup ds) h:=by simp only [BC,e]
theorem Kc {l:Nat} (e:h[l]?=some (.lst ds)):BN (.loc l) h=.ok (.loc l) h:=by simp only [BN,e]
theorem UA {l:Nat} (e:h[l]?=some (.lst ds)) (hn:ds.length<sizeLine):Fo (.loc l) a h=.ok .non (h.set l (.lst (ds++[a]))):=by simp only [Fo,e];rw [if_pos hn]
theorem ix_tup {k:Nat} (e:ds[k]?=some a):Az (.tup ds) (.int (k:Nat)) h=.ok a h:=by
 have hk:k<ds.length:=(qa4.mp e).1
 have e1:Bx ds ((k:Nat):Int)=some a:=by
  unfold Bx Cb
  rw [if_pos (by omega),if_pos (by omega)]
  simpa using e
 simp only [Az,A7,e1]
theorem MY {n k:Nat} {e:Nat→D} (hk:k<n):Az (.tup ((List.range n).map e)) (.int (k:Nat)) h=.ok (e k) h:=ix_tup (by simp [GQ,hk])
theorem MZ {n:Nat} {e:Nat→D} (hk:0<n):Az (.tup ((List.range n).map e)) (.int 0) h=.ok (e 0) h:=MY (k:=0) hk
@[simp] theorem Zas:Az (.tup [a,b]) (.int 0) h=.ok a h:=rfl
@[simp] theorem Zat:Az (.tup [a,b]) (.int 1) h=.ok b h:=rfl
theorem UB {ns:List Int} {k:Nat} (e:ns[k]?=some i):Az (.scr ns) (.int (k:Nat)) h=.ok (.int i) h:=by
 have hk:k<ns.length:=(qa4.mp e).1
 have e1:Bx (ns.map D.int) ((k:Nat):Int)=some (.int i):=by
  unfold Bx Cb
  rw [if_pos (by omega),if_pos (by simpa using hk)]
  simp [e]
 simp only [Az,A7,e1]
theorem Dp {l k:Nat} (el:h[l]?=some (.lst ds)) (e:ds[k]?=some a):Az (.loc l) (.int (k:Nat)) h=.ok a h:=by
 have hk:k<ds.length:=(qa4.mp e).1
 have e1:Bx ds ((k:Nat):Int)=some a:=by
  unfold Bx Cb
  rw [if_pos (by omega),if_pos (by omega)]
  simpa using e
 simp only [Az,A7,el,e1]
theorem UC {l k:Nat} {ρ:Af} (el:h[l]?=some (.lst ds)) (hk:k<ds.length):Fp (.loc l) (.int (k:Nat)) a h (.ok (.nx,ρ) h)=.ok (.nx,ρ) (h.set l (.lst (ds.set k a))):=by
 have:Cb ds.length ((k:Nat):Int)=some k:=by
  unfold Cb
  rw [if_pos (by omega),if_pos (by omega)]
  simp
 simp only [Fp,el,this]
end
noncomputable def Gq (cs:List (Option Nat)) (it:MI) (sg:MG) (t:MT) (f:ME):ME:=Ad (Aj BC) (Aa (AD cs it sg t f) Ac)
noncomputable def M0 (cs:List (Option Nat)) (it:MI) (sg:MG) (t:MT) (f:ME):ME:=Ad (Aj Ct) (Aa (AD cs it sg t f) Ac)
section
variable {α:Type} {cs:List (Option Nat)} {it:MI} {sg:MG} {t:MT} {f:ME} {ρ:Af} {h:HD} {src:AJ} {xs:List α} {φ:α→D}
@[simp] theorem UD:Ad (Aj BC) (Aa (AD cs it sg t f) Ac) ρ h=Gq cs it sg t f ρ h:=rfl
@[simp] theorem Zau:Ad (Aj Ct) (Aa (AD cs it sg t f) Ac) ρ h=M0 cs it sg t f ρ h:=rfl
def CV (o:Out (List D×AJ)) (h:HD) (ds:List D) (src:AJ):Prop:=Wp o fun x h'=>x=(ds,src)∧Sm h h'∧∀h2,Sm h' h2→Br src ds h2
theorem M1 (e:α→D) (ρ1:α→Af) (hi:CV (it ρ h) h (xs.map φ) src) (hg:∀x∈xs,sg (φ x) (BI cs ρ)=some (ρ1 x)) (hf:∀x∈xs,∀h',Sm h h'→Pu (f (ρ1 x) h') h' (e x)) (hn:xs.length≤sizeLine):
 Pu (Gq cs it sg A9 f ρ h) h (.tup (xs.map e)):=Uv e ρ1 hi hn hg hf
theorem HM (b:α→Bool) (ρ1:α→Af) (hi:CV (it ρ h) h (xs.map φ) src) (hg:∀x∈xs,sg (φ x) (BI cs ρ)=some (ρ1 x)) (hf:∀x∈xs,∀h',Sm h h'→Pu (f (ρ1 x) h') h' (.bl (b x))) (hn:xs.length≤sizeLine):
 Pu (M0 cs it sg A9 f ρ h) h (.bl (xs.all b)):=Uw b ρ1 hi hn hg hf
theorem En {ds:List D}:CV (AX (Ab 0) (some (.tup ds)::ρ) h) h ds []:=by
 simp [CV,Sm.refl,Br]
theorem M3 {ds:List D} {o:Out (List D×AJ)} (e:o=.ok (ds,[]) h):CV o h ds []:=by
 rw [e];simp [CV,Sm.refl,Br]
end
section
variable {h:HD} {i j:Int}
theorem HN (h1:-18446744073709551616<j) (h2:j<18446744073709551616):Cj (.int i) (.int j) h=.ok (.int (i*j)) h:=by
 have:CMl i j:=.inl (.inr ⟨by omega,by omega⟩)
 simp only [Cj];rw [if_pos this]
theorem Kd (h1:-18446744073709551616<i) (h2:i<18446744073709551616):Cj (.int i) (.int j) h=.ok (.int (i*j)) h:=by
 have:CMl i j:=.inl (.inl ⟨by omega,by omega⟩)
 simp only [Cj];rw [if_pos this]
theorem UE (h1:Builtin.Int.intBits i≤16777216) (h2:Builtin.Int.intBits j≤16777216):Cj (.int i) (.int j) h=.ok (.int (i*j)) h:=by
 have:CMl i j:=.inr ⟨h1,h2⟩
 simp only [Cj];rw [if_pos this]
theorem HP (h1:0<j):Eh (.int i) (.int j) h=.ok (.int (i % j)) h:=by
 simp only [Eh,intD];rw [if_pos h1]
theorem UF (h1:0<j) (h2:j<18446744073709551616):Hw (.int i) (.int j) h=.ok (.int (i / j)) h:=by
 have:CDv i j:=⟨h1,h2⟩
 simp only [Hw,intD];rw [if_pos this]
theorem UG (h1:0<j) (h2:j<18446744073709551616):Gf (.int i) (.int j) h=.ok (.tup [.int (i / j),.int (i % j)]) h:=by
 have:CDv i j:=⟨h1,h2⟩
 simp only [Gf];rw [if_pos this]
end
theorem M4 {α:Type} {o:Out α} {Q:α→HD→Prop}:Wp (noErr o) Q=Wp o Q:=by cases o<;>rfl
theorem M5 {src:AJ} {items:List D} {sg:MG} {t:MT} {f:ME} {ρc:Af} (φ:Nat→D) (I:HD→Prop) (T:Nat→Bool→Prop) (R:Nat→D→Prop) (ρ1:Nat→Af) (hs:∀h,I h→Br src items h):
 ∀(xs:List Nat) (h:HD),xs.Nodup→I h→(∀x∈xs,sg (φ x) ρc=some (ρ1 x))→(∀x∈xs,∀h,I h→Wp (t (ρ1 x) h) fun b h1=>T x b∧if b=true then Wp (f (ρ1 x) h1) (fun y h2=>I h2∧R x y) else I h1)→
  Wp (Ci src items sg t f ρc (xs.map φ) h) fun ys h'=>I h'∧∃(g:Nat→Bool) (e:Nat→D),ys=(xs.filter g).map e∧(∀x∈xs,g x=true→R x (e x))∧∀x∈xs,T x (g x)
 |[],h,_,i,_,_=>by
  simp only [List.map_nil,Ci]
  rw [if_pos (hs h i)]
  exact ⟨i,fun _=>true,fun _=>.non,rfl,by simp,by simp⟩
 |x::xs,h,hd,i,hg,ht=>by
  simp only [Bg,Ci]
  rw [if_pos (hs h i),hg x AE]
  simp only
  rw [Al,M4]
  rw [qbF] at hd
  refine Wp.mono (ht x AE h i) fun b h1 z1_=>?_
  obtain ⟨tb,w⟩:=z1_
  have ih:∀h2,I h2→_:=fun h2 i2=>M5 φ I T R ρ1 hs xs h2 hd.2 i2 (fun y hy=>hg y (AI _ hy)) (fun y hy=>ht y (AI _ hy))
  cases b with
  |false=>
   rw [if_neg Bo] at w ⊢
   refine Wp.mono (ih h1 w) ?_
   rintro ys h' ⟨i',g,e,ey,hr,tr⟩
   refine ⟨i',fun y=>if y=x then false else g y,e,?_,?_,?_⟩
   ·rw [List.filter_cons_of_neg (by simp),ey]
    congr 1
    refine List.filter_congr fun y hy=>?_
    rw [if_neg]
    intro z;subst z;exact hd.1 hy
   ·intro y hy gy
    rcases qaB.mp hy with z |z
    ·subst z;simp at gy
    ·refine hr y z ?_
     by_cases hz:y=x
     ·subst hz;exact absurd z hd.1
     ·simpa [hz] using gy
   ·intro y hy
    by_cases hz:y=x
    ·subst hz;simpa using tb
    ·simp only [if_neg hz]
     exact tr y (by rcases qaB.mp hy with z |z;exact absurd z hz;exact z)
  |true=>
   rw [if_pos rfl] at w ⊢
   rw [Al,M4]
   refine Wp.mono w fun y h2 z3_=>?_
   obtain ⟨i2,ry⟩:=z3_
   rw [Al]
   refine Wp.mono (ih h2 i2) ?_
   rintro ys h' ⟨i',g,e,ey,hr,tr⟩
   refine ⟨i',fun z=>if z=x then true else g z,fun z=>if z=x then y else e z,?_,?_,?_⟩
   ·rw [List.filter_cons_of_pos (by simp),Bg,if_pos rfl,ey]
    congr 1
    rw [show xs.filter (fun z=>if z=x then true else g z)=xs.filter g from List.filter_congr fun z hz=>by
     rw [if_neg]
     intro q;subst q;exact hd.1 hz]
    refine D3 fun z hz=>?_
    rw [if_neg]
    intro q;subst q;exact hd.1 (qaT.mp hz).1
   ·intro z hz gz
    by_cases q:z=x
    ·subst q;simpa using ry
    ·rcases qaB.mp hz with w |w
     ·exact absurd w q
     ·simp only [if_neg q] at gz ⊢
      exact hr z w gz
   ·intro z hz
    by_cases q:z=x
    ·subst q;simpa using tb
    ·simp only [if_neg q]
     exact tr z (by rcases qaB.mp hz with w |w;exact absurd w q;exact w)
theorem M6 {cs:List (Option Nat)} {it:MI} {sg:MG} {t:MT} {f:ME} {ρ:Af} {h:HD} {src:AJ} {xs:List Nat} {Q:D→HD→Prop} (φ:Nat→D) (I:HD→Prop) (T:Nat→Bool→Prop) (R:Nat→D→Prop) (ρ1:Nat→Af) (hi:Wp (it ρ h) fun x h'=>x=(xs.map φ,src)∧I h') (hs:∀h,I h→Br src (xs.map φ) h)
 (hnew:∀h c,I h→I (h++[c])) (hd:xs.Nodup) (hn:xs.length≤sizeLine) (hg:∀x∈xs,sg (φ x) (BI cs ρ)=some (ρ1 x)) (ht:∀x∈xs,∀h,I h→Wp (t (ρ1 x) h) fun b h1=>T x b∧if b=true then Wp (f (ρ1 x) h1) (fun y h2=>I h2∧R x y) else I h1)
 (q:∀h' (g:Nat→Bool) (e:Nat→D),I h'→(∀x∈xs,g x=true→R x (e x))→(∀x∈xs,T x (g x))→Q (.tup ((xs.filter g).map e)) h'):Wp (Gq cs it sg t f ρ h) Q:=by
 unfold Gq
 rw [El,Em]
 unfold AD
 rw [Al]
 refine Wp.mono hi fun x h1 z5_=>?_
 obtain ⟨ex,i1⟩:=z5_
 subst ex
 rw [if_pos (by simpa using hn),Al]
 refine Wp.mono (M5 φ I T R ρ1 hs xs h1 hd i1 hg ht) fun ys h2 z6_=>?_
 obtain ⟨i2,g,e,ey,hr,tr⟩:=z6_
 subst ey
 refine AM ?_ fun l h3 s3 e3 _ eh=>?_
 ·rw [BX]
  exact Bc (DF _ _) hn
 ·rw [DU]
  simp only [Aj,BC,e3]
  refine q h3 g e ?_ hr tr
  rw [eh]
  exact hnew _ _ i2
structure PyN (n:Nat) (d:D) (p:PyData):Prop where
 rd:∀k,n≤k→A1 [] k d=some p
 ly:p.canLay0=true
 dp:p.depth≤n
theorem PyN.py {n:Nat} {d:D} {p:PyData} (h:PyN n d p) (hn:n≤8):Py d p:=⟨h.rd 8 hn,by
 unfold SeqAt.shaped
 rw [h.ly]
 have:=h.dp
 simp
 omega⟩
def KD {α:Type}:Sem α→Prop
 |.pure _=>True
 |.raise _=>True
 |.unsupported _=>True
 |.finish _=>True
 |.rule _ k=>KD (k ())
 |.at _ k=>KD (k ())
 |.load _ _ k=>∀o,KD (k o)
 |.update _ _ f k=>(∀o,(f o).dict=o.dict∧(o.isFreed=false→(f o).isFreed=false))∧KD (k ())
 |.loadIfAlive _ k=>∀o,KD (k o)
 |.point _ k=>KD (k ())
 |.register _ _=>True
 |.alloc _ k=>∀a,KD (k a)
 |.fresh k=>∀a,KD (k a)
 |.ask k=>∀a,KD (k a)
 |.choose _ _ k=>∀a,KD (k a)
 |.os _ _ k=>∀a,KD (k a)
 |.call ..=>False
 |.handled _ k=>∀a,KD (k a)
 |.genState _ k=>∀a,KD (k a)
 |.newGen _ k=>∀a,KD (k a)
 |.resume ..=>False
 |.yield ..=>True
 |.stack k=>∀a,KD (k a)
 |.fork ..=>True
 |.thread k=>∀a,KD (k a)
 |.await ..=>True
def Dicts (h h':Heap):Prop:=∀b o,h.get? b=some o→∃o',h'.get? b=some o'∧o'.dict=o.dict
theorem Dicts.refl (h:Heap):Dicts h h:=fun _ o e=>⟨o,e,rfl⟩
theorem Dicts.trans {h h1 h2:Heap} (a:Dicts h h1) (b:Dicts h1 h2):Dicts h h2:=fun c o e=>by
 obtain ⟨o1,e1,d1⟩:=a c o e
 obtain ⟨o2,e2,d2⟩:=b c o1 e1
 exact ⟨o2,e2,d2.trans d1⟩
theorem UH {α:Type} {M:Model} {Γ:PySem.Ctx} {Q:α→Pos→Shared→Prop} {E:Value→Pos→Shared→Prop}:∀(t:Sem α) (p:Pos) (s:Shared),KD t→Sem.wp M Γ t Q E p s→Sem.wp M Γ t (fun a p s'=>Q a p s'∧Dicts s.heap s'.heap) (fun a p s'=>E a p s'∧Dicts s.heap s'.heap) p s:=by
 have lift:∀(t:Sem α) (p:Pos) (h0:Heap) (s:Shared),Dicts h0 s.heap→Sem.wp M Γ t (fun a p s'=>Q a p s'∧Dicts s.heap s'.heap) (fun a p s'=>E a p s'∧Dicts s.heap s'.heap) p s→Sem.wp M Γ t (fun a p s'=>Q a p s'∧Dicts h0 s'.heap) (fun a p s'=>E a p s'∧Dicts h0 s'.heap) p s:=
  fun t p h0 s d w=>Sem.wp_mono M Γ t (fun a p s' z=>⟨z.1,d.trans z.2⟩) (fun a p s' z=>⟨z.1,d.trans z.2⟩) p s w
 intro t
 induction t with
 |pure a=>exact fun p s _ w=>⟨w,.refl _⟩
 |raise e=>exact fun p s _ w=>⟨w,.refl _⟩
 |unsupported w=>exact fun p s _ w=>w.elim
 |finish w=>exact fun p s _ w=>w.elim
 |rule t k ih=>exact fun p s kd w=>ih () p s kd w
 |«at» t k ih=>exact fun p s kd w=>ih () t s kd w
 |load a x k ih=>exact fun p s kd ⟨o,e,w⟩=>⟨o,e,ih o p s (kd o) w⟩
 |update a x f k ih=>
  refine fun p s kd ⟨e,w⟩=>⟨e,lift _ p s.heap {s with heap:=s.heap.update a f} (fun b o eb=>?_) (ih () p _ kd.2 w)⟩
  by_cases hb:b=a
  ·subst hb
   obtain ⟨d1,d2⟩:=kd.1 o
   exact ⟨f o,Heap.get?_update_self f eb (d2 (Heap.get?_some_iff.mp eb).2),d1⟩
  ·exact ⟨o,(Jl s.heap f (Ne.symm hb)).trans eb,rfl⟩
 |alloc o k ih=>exact fun p s kd w=>lift _ p s.heap {s with heap:=s.heap.push o} (fun b ob eb=>⟨ob,AH _ eb,rfl⟩) (ih _ p {s with heap:=s.heap.push o} (kd _) w)
 |loadIfAlive a k ih=>exact fun p s kd w=>ih _ p s (kd _) w
 |point l k ih=>exact fun p s kd w=>ih () p s kd w
 |register a k ih=>exact fun p s kd w=>w.elim
 |fresh k ih=>exact fun p s kd w=>ih _ p {s with toks:=s.toks+1} (kd _) w
 |ask k ih=>exact fun p s kd w=>ih _ p s (kd _) w
 |choose src n k ih=>exact fun p s kd ⟨z,w⟩=>⟨z,ih _ p {s with drawn:=s.drawn.bump src} (kd _) w⟩
 |os q l k ih=>exact fun p s kd w=>ih _ p {s with os:=(Os.step s.os q).1} (kd _) w
 |call c h g l k ih=>exact fun p s kd w=>kd.elim
 |handled o k ih=>exact fun p s kd w=>ih _ p s (kd _) w
 |newGen c k ih=>exact fun p s kd w=>ih _ p {s with gens:=s.gens.push (.fresh c)} (kd _) w
 |genState g k ih=>exact fun p s kd ⟨st,e,w⟩=>⟨st,e,ih _ p s (kd _) w⟩
 |resume g r l k ih=>exact fun p s kd w=>kd.elim
 |yield v g l k ih=>exact fun p s kd w=>w.elim
 |stack k ih=>exact fun p s kd w=>ih _ p s (kd _) w
 |fork c k ih=>exact fun p s kd w=>w.elim
 |thread k ih=>exact fun p s kd w=>ih _ p s (kd _) w
 |await a t b l k ih=>exact fun p s kd w=>w.elim
theorem Gr {α:Type} {M:Model} {A:Around} {t:Sem α} {Q:α→Shared→Prop} {E:Value→Shared→Prop} {s:Shared} (kd:KD t) (h:wpAny M A t Q E s):wpAny M A t (fun a s'=>Q a s'∧Dicts s.heap s'.heap) (fun a s'=>E a s'∧Dicts s.heap s'.heap) s:=
 fun Γ p hΓ=>UH t p s kd (h Γ p hΓ)
theorem KD.bind {α β:Type} {f:α→Sem β}:∀{t:Sem α},KD t→(∀a,KD (f a))→KD (t >>=f):=by
 intro t
 induction t with
 |pure a=>exact fun _ h=>h a
 |raise e=>exact fun _ _=>True.intro
 |unsupported w=>exact fun _ _=>True.intro
 |finish w=>exact fun _ _=>True.intro
 |rule t k ih=>exact fun kd h=>ih () kd h
 |«at» t k ih=>exact fun kd h=>ih () kd h
 |load a x k ih=>exact fun kd h o=>ih o (kd o) h
 |update a x g k ih=>exact fun kd h=>⟨kd.1,ih () kd.2 h⟩
 |alloc o k ih=>exact fun kd h a=>ih a (kd a) h
 |loadIfAlive a k ih=>exact fun kd h a=>ih a (kd a) h
 |point l k ih=>exact fun kd h=>ih () kd h
 |register a k ih=>exact fun kd h=>True.intro
 |fresh k ih=>exact fun kd h a=>ih a (kd a) h
 |ask k ih=>exact fun kd h a=>ih a (kd a) h
 |choose src n k ih=>exact fun kd h a=>ih a (kd a) h
 |os q l k ih=>exact fun kd h a=>ih a (kd a) h
 |call c h g l k ih=>exact fun kd h=>kd.elim
 |handled o k ih=>exact fun kd h a=>ih a (kd a) h
 |newGen c k ih=>exact fun kd h a=>ih a (kd a) h
 |genState g k ih=>exact fun kd h a=>ih a (kd a) h
 |resume g r l k ih=>exact fun kd h=>kd.elim
 |yield v g l k ih=>exact fun kd h=>True.intro
 |stack k ih=>exact fun kd h a=>ih a (kd a) h
 |fork c k ih=>exact fun kd h=>True.intro
 |thread k ih=>exact fun kd h a=>ih a (kd a) h
 |await a t b l k ih=>exact fun kd h=>True.intro
theorem DW {α:Type} {c:Prop} [Decidable c] {a b:Sem α} (ha:KD a) (hb:KD b):KD (if c then a else b):=by split<;>assumption
theorem Ke {a:Addr}:KD (load a):=fun _=>True.intro
theorem UI {f:Array Value→Array Value} (o:Obj):(Obj.mapFields f o).dict=o.dict∧(o.isFreed=false→(Obj.mapFields f o).isFreed=false):=by
 obtain ⟨c,d,dt,sl⟩:=o
 cases dt<;>exact ⟨rfl,fun h=>h⟩
theorem UJ {v:Value}:KD (fieldsOf v):=by
 unfold fieldsOf
 split
 ·exact KD.bind Ke fun o=>by split<;>exact True.intro
 ·exact True.intro
theorem HQ {v:Value} {i:Nat}:KD (field v i):=by
 unfold field
 exact KD.bind UJ fun o=>by split<;>exact True.intro
theorem Kf {v x:Value} {i:Nat}:KD (setField v i x):=by
 unfold setField
 split
 ·unfold updateField
  refine KD.bind Ke fun o=>?_
  split
  ·exact DW ⟨UI,True.intro⟩ True.intro
  ·exact True.intro
 ·exact True.intro
theorem Kg {v:Value} {o:Option Addr}:KD (setFlight v o):=by
 unfold setFlight
 exact KD.bind HQ fun o=>DW Kf True.intro
theorem UK {n:String} {vs:List Value}:KD (newFields n vs):=by
 unfold newFields newObj
 unfold newObjAsIs
 dsimp only
 split
 ·exact True.intro
 ·exact fun a=>True.intro
theorem M7:∀{l:List Env},KD (readyFrames l)
 |[]=>True.intro
 |env::outer=>by
  unfold readyFrames
  split
  ·refine KD.bind Ke fun o=>DW True.intro (KD.bind ?_ fun b=>KD.bind ?_ fun v=>KD.bind ⟨fun o=>⟨rfl,fun h=>?_⟩,True.intro⟩ fun _=>M7)
   ·unfold behindIsImport
    exact DW True.intro (DW True.intro (KD.bind HQ fun _=>True.intro))
   ·unfold keptBack
    split
    ·exact DW True.intro fun _=>True.intro
    ·exact True.intro
   ·obtain ⟨c,d,dt,sl⟩:=o
    cases dt<;>exact h
  ·exact True.intro
theorem UL {env:Env}:KD (PySem.frameOf env):=by
 unfold PySem.frameOf
 refine KD.bind (fun _=>True.intro) fun l=>KD.bind ?_ fun o=>?_
 ·unfold frameObject
  split
  ·exact True.intro
  ·exact KD.bind M7 fun _=>True.intro
 ·split<;>exact True.intro
theorem UM {f:Addr} {b:Bool}:KD (entryPlaceOf f b):=by
 unfold entryPlaceOf
 intro l
 show KD (match l.find? _ with |some (_,pos)=>_ |none=>_)
 split<;>exact True.intro
theorem M8 {e:Value} {env:Env}:KD (noteFrame e env):=by
 unfold noteFrame
 split
 ·refine KD.bind HQ fun hd=>?_
  have Ao:∀f:Addr,KD (do setField e 1 (←EntryCells.newEntry hd (←PySem.frameOf env) .none (rawInt f) .none (←entryPlaceOf f (hd != .none)))):=fun f=>
   KD.bind UL fun _=>KD.bind UM fun _=>KD.bind UK fun _=>Kf
  refine DW (KD.bind HQ fun x=>DW True.intro (KD.bind Kf fun _=>?_)) ?_
  ·exact Ao _
  ·exact Ao _
 ·exact True.intro
theorem M9 {e:Value} {env:Env}:KD (leaving env e):=by
 unfold leaving
 exact KD.bind M8 fun _=>Kg
open Classical in
noncomputable def blank (p:Addr→Prop) (h:Heap):Heap:=⟨h.objs.mapIdx fun i o=>if p i then {o with data:=.freed} else o,h.life⟩
theorem Eo {p:Addr→Prop} {h:Heap} {b:Addr} (hp:p b):(blank p h).get? b=none:=by
 unfold blank Heap.get?
 simp only [Array.getElem?_mapIdx]
 cases e:h.objs[b]? with
 |none=>rfl
 |some o=>simp [hp]
theorem Ep {p:Addr→Prop} {h:Heap} {b:Addr} (hp:¬p b):(blank p h).get? b=h.get? b:=by
 unfold blank Heap.get?
 simp only [Array.getElem?_mapIdx]
 cases e:h.objs[b]? with
 |none=>rfl
 |some o=>simp [hp]
theorem Kh {p:Addr→Prop} {h:Heap}:(blank p h).StaysIn h:=fun b o e=>by
 by_cases hp:p b
 ·rw [Eo hp] at e;cases e
 ·rw [Ep hp] at e;exact e
inductive HU (h0 h:Heap) (H:Hp) (a:Addr) (C:Value) (da:Option Addr):Prop where
 |mk (new:h0.get? a=none) (no:H a=none) (oe:Obj) (vs:Array Value) (a0:Value) (T:Addr) (oT:Obj) (ts:Array Value) (e1:h.get? a=some oe) (e2:oe.cls=C∧vs[0]?=some a0) (e3:oe.data=.fields vs) (e4:vs[1]?=some (.ref T)) (e5:h0.get? T=none) (e6:H T=none) (e7:T≠a) (e8:h.get? T=some oT) (e9:oT.data=.fields ts) (e10:ts[3]?=some .none) (e11:oe.dict=da):HU h0 h H a C da
abbrev CJ (n:Str):Value:=.str n 0
inductive AK (P:Program) (w:World) (K:PySem.W.Frag) (outer:List Env) (H:Hp) (s:Shared) (E:XK) (e:Value) (s':Shared):Prop where
 |mk (a C:Addr) (n:Str) (da:Option Addr) (H':Hp) (ee:e=.ref a) (os:s'.os=s.os) (bare:AllBare s'.gens) (un:Un (frs outer) [] H H' s.heap s'.heap) (hok:HOk P w H' s'.heap) (fly:HU s.heap s'.heap H' a (.ref C) da) (nm:PySem.W.nsIn K mainGlobals n=some (some (.ref C))) (q:E (CJ n) da H'):AK P w K outer H s E e s'
theorem HV {h base:Heap} {p:Addr→Prop}:∀{l:List Env},h.FunFrames base l→(∀b∈frs l,p b)→h.FunFrames (blank p h) l
 |[],_,_=>trivial
 |env::rest,⟨k,⟨L,o,hf,_,ho,hd⟩,r⟩,hp=>⟨k,⟨L,o,hf,Eo (hp L (by unfold frs;rw [EU,hf];exact AE)),ho,hd⟩,
  HV r fun b hb=>hp b (by
   unfold frs at hb ⊢
   rw [EU,hf]
   exact AI _ hb)⟩
theorem Ki {P:Program} {w:World} {H:Hp} {h:Heap} {a:Addr} {o:HO} (x:ObjOk P w H h a o):∃ob,h.get? a=some ob:=by
 cases o with
 |lst xs=>obtain ⟨_,_,_,_,e⟩:=x;exact ⟨_,e⟩
 |tup xs=>obtain ⟨_,_,_,⟨_,e,_⟩,_⟩:=x;exact ⟨_,e⟩
 |own y=>exact x
 |xd fs=>obtain ⟨_,⟨_,_,_,e,_⟩,_⟩:=x;exact ⟨_,e⟩
 |frz ob u=>obtain ⟨e,_⟩:=x;exact ⟨_,e⟩
 |tbl ps=>exact ⟨_,x⟩
 |ext φ=>exact x.2.1
 |mex φ=>exact x.2.1
 |dct φ=>exact x.2.1
structure Lv (X:Cx) (E:XK):Prop where
 xe:∀e s',wpAny (model X.prog X.w) X.A (leaving X.env e) (fun _ s''=>AK X.prog X.w X.K X.outer X.H₀ X.s₀ E e s'') (fun e' s''=>AK X.prog X.w X.K X.outer X.H₀ X.s₀ E e' s'') s'→X.xe e s'
 stk:X.stack=X.env::X.outer
 fr:X.env.frame=some X.env.locals
 ex:X.ex=[]
theorem HW {P:Program} {w:World} {K:PySem.W.Frag} {mg:Str→Option Value} {base:Heap} {N:List Str} {qual:Str} {scope:Scope} {f:Addr} {cd:Value} {A:Around} {outer:List Env} {s:Shared} {H:Hp} {E:XK}:Lv (Bp (AK P w K) P w K mg base N qual scope f cd A outer s H E) E:=
 ⟨fun _ _ h=>h,rfl,rfl,rfl⟩
section
variable {X:Cx} {E:XK}
theorem Lv.frs (lv:Lv X E):L2.frs X.stack=X.env.locals::X.fs:=by
 rw [lv.stk];unfold L2.frs;rw [EU,lv.fr];rfl
theorem Na {pins:List (Addr×Obj)} {σ:L2.St} {H':Hp} {s':Shared} {h':Heap} {a T:Addr} {C:Value} (lv:Lv X E)
 (I:Inv X pins σ H' s')
 (na:X.s₀.heap.get? a=none) (nT:X.s₀.heap.get? T=none) (ha:H' a=none) (hT:H' T=none) {a0:Value}
 (L:Heap.LeftW (blank (fun b=>b=a∨b=T∨b∈frs X.stack) s'.heap) X.stack a C a0 s'.heap h') {da:Option Addr} {oa:Obj} (ea:s'.heap.get? a=some oa) (ed:oa.dict=da) (dd:Dicts s'.heap h'):
 Un X.fs [] X.H₀ H' X.s₀.heap h'∧HOk X.prog X.w H' h'∧HU X.s₀.heap h' H' a C da:=by
 obtain ⟨stay,ff,⟨oe,vs,T2,oT,ts,e1,e2,e3,e4,e5,e6,e7,e8,e9⟩,ups⟩:=L
 have e11:oe.dict=da:=by
  obtain ⟨o',q1,q2⟩:=dd a oa ea
  rw [e1] at q1
  cases q1
  exact q2.trans ed
 have B:Un X.fs [] X.H₀ H' X.s₀.heap s'.heap:=by have:=I.base;rw [lv.ex] at this;exact this
 have stk:=I.stack
 have frNone:∀b∈frs X.stack,H' b=none:=fun b hb=>I.stkFree b hb
 have keepOf:∀b o,¬(b=a∨b=T∨b∈frs X.stack)→s'.heap.get? b=some o→h'.get? b=some o:=fun b o hb e=>stay b o (by rw [Ep hb];exact e)
 have notL:∀b o,X.s₀.heap.get? b=some o→b∉X.fs→b∉frs X.stack:=fun b o e hb z=>by
  rw [lv.frs] at z
  rcases qaB.mp z with z |z
  ·have:=AA e
   rw [z] at this
   exact absurd (AN this I.ok.above) (BY _)
  ·exact hb z
 have old:∀b o,X.s₀.heap.get? b=some o→b≠a∧b≠T:=fun b o e=>⟨fun z=>(by rw [z,na] at e;cases e),fun z=>(by rw [z,nT] at e;cases e)⟩
 have noFields:∀b,b∈frs X.stack→∃o,s'.heap.get? b=some o∧∀vs,o.data≠.fields vs:=fun b hb=>(stk.mem hb).2
 have any:∀b o,X.s₀.heap.get? b=some o→s'.heap.get? b≠none→∃o',h'.get? b=some o':=fun b o e hn=>by
  cases e':s'.heap.get? b with
  |none=>exact absurd e' hn
  |some o'=>
   by_cases hb:b∈frs X.stack
   ·obtain ⟨o2,h2,d2⟩:=noFields b hb
    obtain ⟨sl,h3⟩:=ups b o2 h2 d2
    exact ⟨_,h3⟩
   ·exact ⟨o',keepOf b o' (fun z=>by rcases z with z |z |z;exact (old b o e).1 z;exact (old b o e).2 z;exact hb z) e'⟩
 refine ⟨⟨fun b o e n hb hx=>?_,fun b o e n hb hx=>?_,B.free,fun b o e hx=>?_,B.tups,B.frzs,B.tbls⟩,fun b o e=>?_,na,ha,oe,vs,a0,T2,oT,ts,e1,e2,e3,e4,?_,?_,e6,e7,e8,e9,e11⟩
 ·exact keepOf b o (fun z=>by rcases z with z |z |z;exact (old b o e).1 z;exact (old b o e).2 z;exact notL b o e hb z) (B.keep b o e n hb hx)
 ·obtain ⟨sl,h1⟩:=B.slot b o e n hb hx
  have hb':b∈frs X.stack:=by rw [lv.frs];exact AI _ hb
  obtain ⟨o2,h2,d2⟩:=noFields b hb'
  rw [h1] at h2
  cases h2
  obtain ⟨sl2,h3⟩:=ups b _ h1 d2
  exact ⟨sl2,h3⟩
 ·obtain ⟨o',h1⟩:=B.there b o e hx
  exact any b o e (by rw [h1];simp)
 ·refine (I.hok b o e).stay (fun c u hc q=>keepOf c u (fun z=>?_) q) (fun _ q=>q) fun _ _ q=>q
  have hc':H' c≠none:=by
   rcases hc with rfl |hc
   ·rw [e];simp
   ·rw [hc];simp
  rcases z with z |z |z
  ·exact hc' (z ▸ ha)
  ·exact hc' (z ▸ hT)
  ·exact hc' (frNone c z)
 ·cases q:X.s₀.heap.get? T2 with
  |none=>rfl
  |some o=>
   exfalso
   obtain ⟨o',h1⟩:=B.there T2 o q (by simp)
   by_cases hb:T2∈frs X.stack
   ·obtain ⟨o2,h2,d2⟩:=noFields T2 hb
    obtain ⟨sl,h3⟩:=ups T2 o2 h2 d2
    rw [h3] at e7
    cases e7
    exact d2 _ e8
   ·rw [Ep (fun z=>by rcases z with z |z |z;exact (old T2 o q).1 z;exact (old T2 o q).2 z;exact hb z),h1] at e5
    cases e5
 ·cases q:H' T2 with
  |none=>rfl
  |some o=>
   exfalso
   by_cases hb:T2=a∨T2=T∨T2∈frs X.stack
   ·rcases hb with z |z |z
    ·rw [z,ha] at q;cases q
    ·rw [z,hT] at q;cases q
    ·rw [frNone T2 z] at q;cases q
   ·rw [Ep hb] at e5
    obtain ⟨ob,eb⟩:=Ki (I.hok T2 o q)
    rw [eb] at e5
    cases e5
theorem Lv.older (lv:Lv X E) {pins:List (Addr×Obj)} {σ:L2.St} {H1:Hp} {s1:Shared} (I:Inv X pins σ H1 s1):∀b,s1.heap.get? b=none→X.s₀.heap.get? b=none:=fun b hb=>by
 cases q:X.s₀.heap.get? b with
 |none=>rfl
 |some o=>
  obtain ⟨o',h1⟩:=I.base.there b o q (by rw [lv.ex];simp)
  rw [hb] at h1;cases h1
theorem Kj (lv:Lv X E):Ee (AK X.prog X.w X.K) X E:=by
 rintro pins σ H1 s1 e s' I ⟨a,C,n,da,H',ee,os,bare,un,hok,fly,nm,q⟩
 subst ee
 have I':Inv X pins σ H' s':=I.call' os un hok bare (fun b hb=>absurd hb (by simp))
 obtain ⟨fnew,fno,oe,vs,a0,T,oT,ts,e1,e2,e3,e4,e5,e6,e7,e8,e9,e10,e11⟩:=fly
 have fro:X.A.frames=some (X.env::X.outer):=by rw [←lv.stk];exact I'.ok.frames
 have stk:s'.heap.FunFrames X.base (X.env::X.outer):=by have:=I'.stack;rw [lv.stk] at this;exact this
 have run:=Gr M9 (wpAny_leaving_nextW (M:=model X.prog X.w) (E:=fun _ _=>False) (Q:=fun _ s''=>∃h',s''={s' with heap:=h'}∧Heap.LeftW (blank (fun b=>b=a∨b=T∨b∈frs X.stack) s'.heap) (X.env::X.outer) a (.ref C) a0 s'.heap h') (base:=blank (fun b=>b=a∨b=T∨b∈frs X.stack) s'.heap) (cls:=.ref C) (a0:=a0) fro (HV stk fun b hb=>.inr (.inr (by rw [lv.stk];exact hb))) lv.fr
  ⟨oe,vs,T,oT,ts,e1,e2,e3,e4,Eo (.inr (.inl rfl)),e7,e8,e9,e10⟩ Kh (Eo (.inl rfl)) fun h' L=>⟨h',rfl,L⟩)
 refine lv.xe _ _ (wpAny_mono run (fun _ s'' z=>?_) fun _ _ z=>z.1.elim)
 obtain ⟨⟨h',rfl,L⟩,D⟩:=z
 obtain ⟨u1,u2,u3⟩:=Na lv I' (lv.older I a fnew) (lv.older I T e5) fno e6 (by rw [lv.stk] at *;exact L) e1 e11 D
 exact ⟨a,C,n,da,H',rfl,I'.os,bare,u1,u2,u3,nm,q⟩
theorem UN (lv:Lv X E) {pins:List (Addr×Obj)} {σ:L2.St} {H1:Hp} {s1:Shared} {a C:Addr} {n:Str} {da:Option Addr} {oe:Obj} {vs:Array Value} {a0:Value} (I':Inv X pins σ H1 s1)
 (e1:s1.heap.get? a=some oe) (ec:oe.cls=.ref C) (e3:oe.data=.fields vs) (v0:vs[0]?=some a0) (v1:vs[1]?=some .none) (ed:oe.dict=da) (new:X.s₀.heap.get? a=none) (fresh:H1 a=none) (nm:PySem.W.nsIn X.K mainGlobals n=some (some (.ref C))) (q:E (CJ n) da H1):X.xe (.ref a) s1:=by
 have fro:X.A.frames=some (X.env::X.outer):=by rw [←lv.stk];exact I'.ok.frames
 have stk:s1.heap.FunFrames X.base (X.env::X.outer):=by have:=I'.stack;rw [lv.stk] at this;exact this
 have run:=Gr M9 (wpAny_leaving_firstW (M:=model X.prog X.w) (E:=fun _ _=>False) (Q:=fun _ s''=>∃h',s''={s1 with heap:=h'}∧Heap.LeftW (blank (fun b=>b=a∨b=a∨b∈frs X.stack) s1.heap) (X.env::X.outer) a oe.cls a0 s1.heap h') (base:=blank (fun b=>b=a∨b=a∨b∈frs X.stack) s1.heap) (a0:=a0) fro (HV stk fun b hb=>.inr (.inr (by rw [lv.stk];exact hb))) lv.fr
  e1 Kh (Eo (.inl rfl)) e3 v1 v0 fun h2 L=>⟨h2,rfl,L⟩)
 refine lv.xe _ _ (wpAny_mono run (fun _ s'' z=>?_) fun _ _ z=>z.1.elim)
 obtain ⟨⟨h',rfl,L⟩,D⟩:=z
 obtain ⟨u1,u2,u3⟩:=Na lv I' new new fresh fresh (by rw [lv.stk] at *;exact L) e1 ed D
 rw [ec] at u3
 exact ⟨a,C,n,da,H1,rfl,I'.os,I'.bare,u1,u2,u3,nm,q⟩
theorem UO (lv:Lv X E) {pins:List (Addr×Obj)} {σ:L2.St} {H1:Hp} {s1:Shared} {h':Heap} {a C:Addr} {n:Str} {vs:List Value} (I:Inv X pins σ H1 s1)
 (m:Heap.MadeExcOf s1.heap h' a (.ref C) vs) (nm:PySem.W.nsIn X.K mainGlobals n=some (some (.ref C))) (q:E (CJ n) none H1):X.xe (.ref a) {s1 with heap:=h'}:=by
 have I':Inv X pins σ H1 {s1 with heap:=h'}:=I.kept m.keeps
 obtain ⟨t,e1,e2,e3⟩:=m.there
 have fresh:H1 a=none:=by
  cases q:H1 a with
  |none=>rfl
  |some o=>
   obtain ⟨ob,eb⟩:=Ki (I.hok a o q)
   rw [m.new] at eb;cases eb
 exact UN lv I' e1 rfl rfl rfl rfl rfl (lv.older I a m.new) fresh nm q
end
section
variable {P:Program} {w:World} {K:PySem.W.Frag} {mg:Str→Option Value} {base:Heap} {N:List Str} {qual:Str} {scope:Scope} {f:Addr} {cd:Value} {A:Around} {outer:List Env} {s:Shared} {H:Hp} {E:XK}
theorem UP:Ee (AK P w K) (Bp (AK P w K) P w K mg base N qual scope f cd A outer s H E) E:=Kj HW
theorem UQ {pins:List (Addr×Obj)} {σ:L2.St} {H1:Hp} {s1:Shared} {h':Heap} {a C:Addr} {n:Str} {vs:List Value} (I:Inv (Bp (AK P w K) P w K mg base N qual scope f cd A outer s H E) pins σ H1 s1)
 (m:Heap.MadeExcOf s1.heap h' a (.ref C) vs) (nm:PySem.W.nsIn K mainGlobals n=some (some (.ref C))) (q:E (CJ n) none H1):(Bp (AK P w K) P w K mg base N qual scope f cd A outer s H E).xe (.ref a) {s1 with heap:=h'}:=UO HW I m nm q
end
inductive Nb (h:Heap) (C:Addr) (bmB:List Value) (newId:String):Prop where
 |mk (bm:List Value) (N:Addr) (nm q:Str) (bs:List Value) (hdct:Bool) (sn:List Str) (sub:List Value) (ab:Bool) (col:Option Bool) (dd:Option Addr) (k0 k1 k2 k3 k5:Option Value) (mN:Str→Option Value)
  (hC:h.get? C=some (excClassObj nm q C N bs bm hdct sn sub ab col dd k0 k1 k2 k3 k5 newId)) (hN:h.Ns N mN) (hni:mN "__init__"=none) (T:OwnTail h bmB bm):Nb h C bmB newId
def Kk (K:PySem.W.Frag) (C:Addr) (bmB:List Value) (newId:String):Prop:=∀h:Heap,K.In h→Nb h C bmB newId
def clsOf:Data→Option ClassData
 |.cls c=>some c
 |_=>none
theorem UR {d:Data} {c:ClassData} (h:clsOf d=some c):d=.cls c:=by
 cases d<;>first |(cases h;rfl) |cases h
inductive Nd {α:Type} (l:List α):Prop where
 |mk (a b c d e f:α) (q:l=[a,b,c,d,e,f]):Nd l
theorem US {α:Type} {l:List α} (h:l.length=6):Nd l:=by
 cases l with
 |nil=>cases h
 |cons a l=>cases l with
  |nil=>cases h
  |cons b l=>cases l with
   |nil=>cases h
   |cons c l=>cases l with
    |nil=>cases h
    |cons d l=>cases l with
     |nil=>cases h
     |cons e l=>cases l with
      |nil=>cases h
      |cons f l=>cases l with
       |nil=>exact ⟨a,b,c,d,e,f,rfl⟩
       |cons g l=>cases h
def HX (K:PySem.W.Frag) (C:Addr) (bmB:List Value) (newId:String) (o:Obj) (cd:ClassData):Bool:=
 decide (o.cls=.type "type")&&(decide (cd.mro=.ref C::cd.mro.tail)&&(!cd.hasDel&&(PySem.W.tailIn K bmB cd.mro.tail&&(PySem.W.nsOkIn K cd.ns&&(PySem.W.nsIn K cd.ns "__init__"==some none&&(decide (o.slots.toList.length=6)&&decide (o.slots.toList[4]?=some (some (.builtin newId)))))))))
def Kl (K:PySem.W.Frag) (C:Addr) (bmB:List Value) (newId:String):Bool:=match K.lookup C with
 |some o=>(match clsOf o.data with
  |some cd=>HX K C bmB newId o cd
  |none=>false)
 |none=>false
theorem UT {K:PySem.W.Frag} {C:Addr} {bmB:List Value} {newId:String} (q:Kl K C bmB newId=true):Kk K C bmB newId:=by
 intro h X
 unfold Kl at q
 cases lk:K.lookup C with
 |none=>rw [lk] at q;cases q
 |some o=>
  rw [lk] at q
  replace q:(match clsOf o.data with |some cd=>HX K C bmB newId o cd |none=>false)=true:=q
  cases ec:clsOf o.data with
  |none=>rw [ec] at q;cases q
  |some cd=>
   rw [ec] at q
   replace q:HX K C bmB newId o cd=true:=q
   unfold HX at q
   simp only [BW,decide_eq_true_eq,Bool.not_eq_true',beq_iff_eq] at q
   obtain ⟨e1,e2,e3,e4,e5,e6,e7,e8⟩:=q
   obtain ⟨cls,od,dt,⟨sl⟩⟩:=o
   obtain ⟨nm,bs,mro,ns,qn,hd,sn,sub,ab,col,del⟩:=cd
   replace ec:=UR ec
   simp only at ec e1 e2 e3 e4 e5 e6 e7 e8
   obtain ⟨k0,k1,k2,k3,k4,k5,rfl⟩:=US e7
   cases mro with
   |nil=>cases e2
   |cons c bm=>
    cases e2
    cases Option.some.inj e8
    subst ec e1 e3
    exact ⟨_,_,_,_,_,_,_,_,_,_,_,_,_,_,_,_,h.nsMap ns,X _ _ lk,.of_isNs (PySem.W.isNs_of_in X e5),PySem.W.nsMap_none_of_in X e5 e6,PySem.W.tail_of_in X e4⟩
abbrev Gs:List Value:=[.type "ValueError",.type "Exception",.type "BaseException",.type "object"]
def Km (X:Cx) (E:XK):Prop:=∀(pins:List (Addr×Obj)) (σ:L2.St) (H1:Hp) (s1:Shared) (h':Heap) (a C:Addr) (n:Str) (vs:List Value),Inv X pins σ H1 s1→Heap.MadeExcOf s1.heap h' a (.ref C) vs→PySem.W.nsIn X.K mainGlobals n=some (some (.ref C))→E (CJ n) none H1→X.xe (.ref a) {s1 with heap:=h'}
theorem UU {P:Program} {w:World} {K:PySem.W.Frag} {mg:Str→Option Value} {base:Heap} {N:List Str} {qual:Str} {scope:Scope} {f:Addr} {cd:Value} {A:Around} {outer:List Env} {s:Shared} {H:Hp} {E:XK}:
 Km (Bp (AK P w K) P w K mg base N qual scope f cd A outer s H E) E:=fun pins σ H1 s1 h' a C n vs I m nm q=>UQ I m nm q
section
variable {X:Cx} {E:XK}
def Dq (n:Str) (fa:MA):MS:=fun ρ h=>(fa ρ h).bind fun xs h1=>if xs.length≤sizeLine then .err (CJ n) [] h1 else .stuck
theorem UV {x:Str} {C:Addr} {e:Expr} {es:List Expr} {fa:MA} {np cpos pos:Pos} (O:Kk X.K C Gs "ValueError.__new__") (nmC:PySem.W.nsIn X.K mainGlobals x=some (some (.ref C))) (hg:Gl X x) (hc:X.calm=true) (th:Km X E) (ha:Cf X E (e::es) fa)
 (hdb:(x==("__debug__":Str))=false:=by decide) (he:starEach (e::es) X.env=(false,eval e X.env)::starEach es X.env:=by rfl) (hpl:(backTo cpos (starEach (e::es) X.env)).any (·.1)=false:=by rfl):
 Ex X E (.Raise (some (.Call (.Name x np) (e::es) [] cpos)) none pos) (Dq x fa):=by
 rintro pins s σ H D I ⟨m,ρ,h,hr,er,p⟩
 have hm:X.mg x=some (.ref C):=PySem.W.mg_of I.mod.kin I.mod.glob nmC
 obtain ⟨bm,NN,nm,q,bs,hdct,sn,sub,ab,col,dd,k0,k1,k2,k3,k5,mN,hC,hN,hni,T⟩:=O X.base I.mod.kin
 refine wpAny_Raise_call_subT (C:=C) (nm:=nm) (q:=q) (N:=NN) (bs:=bs) (bm:=bm) (hdct:=hdct) (sn:=sn) (sub:=sub) (ab:=ab) (col:=col) (dd:=dd) (k0:=k0) (k1:=k1) (k2:=k2) (k3:=k3) (k5:=k5)
  PySem.F.excBase_ValueError (mN:=mN) (T.hasType PySem.F.excBase_ValueError.hasBase) (I.ok.hd hc) hpl hni (EZ I hg hm ⟨rfl,?_⟩ hdb)
 have hh:=ha cpos pins s σ H (fun vs H1=>vs.length≤sizeLine∧E (CJ x) none H1) I ⟨m,ρ,h,hr,er,PostS.bind p fun xs h1 vs m1 H1 _ p1 k1 hr1 r1 q1=>by
  split at q1
  ·rename_i hz
   exact ⟨by rw [←DVs.len r1];exact hz,q1 none m1 H1 (Ay _) (.refl _) hr1 (fun f d z=>by cases z)⟩
  ·exact q1.elim⟩
 rw [he] at hh ⊢
 exact Calls.evalArgs_plain (Ak hh fun us s1 z1_=>by obtain ⟨vs,H1,I1,r,hl,q1⟩:=z1_;exact (⟨rfl,by rw [←r.length];exact hl,I1.bk _ _ hC,hN.keeps I1.bk,T.keeps I1.bk,fun h' a z=>th pins σ H1 s1 h' a C x us I1 z nmC q1⟩))
inductive Dr (K:PySem.W.Frag) (F:List D→HD→Out D) (vs:List V) (H:Hp) (Q:VK) (E:XK):Prop where
 |mk (m:List Addr) (ds:List D) (h:HD) (hr:HR K m h H) (r:DVs K m H ds vs) (p:Post K (rD K) m H E Q (F ds h)):Dr K F vs H Q E
theorem UW {P:Program} {w:World} {K:PySem.W.Frag} {X:Cx}:Ee (AK P w K) X E0:=fun _ _ _ _ _ _ _ z2_=>by obtain ⟨_,_,_,_,_,_,_,_,_,_,_,_,q⟩:=z2_;exact (q.elim)
theorem HY {K:PySem.W.Frag} {n:Nat} {F:List D→HD→Out D} (ar:Ar n F) {vs:List V} {H:Hp} {Q:VK} {E':XK} (h:Dr K F vs H Q E'):vs.length=n:=by
 obtain ⟨m,ds,hd,hr,r,p⟩:=h
 rw [←r.len]
 by_cases e:ds.length=n
 ·exact e
 ·rw [ar ds hd e] at p;exact p.elim
structure CaE (P:Program) (w:World) (K:PySem.W.Frag) (mg:Str→Option Value) (base:Heap) (x:Str) (k:Nat) (F:List D→HD→Out D):Prop where
 ex:∃(f:Addr) (fd:FuncData) (ps:List Str),FnOk P w K mg base (AK P w K) k f fd ps (Dr K F)∧Binds K fd ps []∧mg x=some (.ref f)∧PySem.W.keepIn K (.ref f)=true
theorem UX {k k':Nat} {F:List D→HD→Out D} {fa:MA} {x:Str} {p pos:Pos} {e:Expr} {es:List Expr} (C:CaE X.prog X.w X.K X.mg X.base x k F) (hr:Room k' X.A) (hx:Ee (AK X.prog X.w X.K) X E) (ha:Cf X E (e::es) fa) (hk:k≤k':=by decide) (hg:Gl X x:=by rfl)
 (hdb:(x==("__debug__":Str))=false:=by decide) (he:starEach (e::es) X.env=(false,eval e X.env)::starEach es X.env:=by rfl) (hpl:(backTo pos (starEach es X.env)).any (·.1)=false:=by rfl):
 Ev X E (.Call (.Name x p) (e::es) [] pos) (Ad F fa):=by
 obtain ⟨f,fd,ps,G,hb,hm,hkp⟩:=C.ex
 exact Bq (RW (E:=E) G (hr.mono hk) hg hm hkp hb .nil hx ha hdb he hpl) fun σ H Q z3_=>by obtain ⟨m,ρ,hd,hr,er,p⟩:=z3_;exact (⟨m,ρ,hd,hr,er,Post.bind p fun xs h1 vs m1 H1 e1 p1 k1 hr1 r1 q1=>by
  rw [EX]
  exact ⟨m1,xs,h1,hr1,r1,q1⟩⟩)
theorem UY {P:Program} {w:World} {K:PySem.W.Frag} {mg:Str→Option Value} {base:Heap} {x qual:Str} {st:Stmt} {f:Addr} {fd:FuncData} {N ps:List Str} {k:Nat} {F:List D→HD→Out D} {g:MS} (Fn:Fun K x qual st f fd) (S:CD N ps (defScope st)) (ar:Ar ps.length F)
 (hg:∀ds h,ds.length=ps.length→F ds h=Ax N.length g ds h)
 (hbody:∀(cdv:Value) (A:Around) (outer:List Env) (s:Shared) (H:Hp) (E:XK),Room k (A.deeper (envOfC qual (defScope st) s.heap.objs.size f cdv))→BQ (Bp (AK P w K) P w K mg base N qual (defScope st) f cdv A outer s H E) E (defBody st) g):FnOk P w K mg base (AK P w K) (k+1) f fd ps (Dr K F):=by
 obtain ⟨oc,od,kV,doc,pm,an,cdv,ct,osl,rfl,lk,hcd⟩:=Fn.ex
 refine LR lk hcd S (fun vs H Q E h=>HY ar h) fun A outer s H vs Q E hr h=>?_
 refine ⟨_,hbody cdv A outer s H E hr,?_⟩
 have hl:=HY ar h
 obtain ⟨m,ds,hd,hr1,r,p⟩:=h
 have hld:ds.length=ps.length:=by rw [r.len];exact hl
 refine ⟨m,ds.map some++List.replicate (N.length - ds.length) none,hd,hr1,ER.start r,?_⟩
 rw [hg ds hd hld] at p
 unfold Ax at p
 cases o:g (ds.map some++List.replicate (N.length - ds.length) none) hd with
 |stuck=>rw [o] at p;exact p
 |err C fs h1=>rw [o] at p;exact p
 |ok a h1=>
  rw [o] at p
  obtain ⟨fl,ρ1⟩:=a
  intro m1 H1 p1 k1 hr1
  cases fl with
  |nx=>exact fun σ er=>p .non m1 H1 p1 k1 hr1 (by simp [rD,DV])
  |bk=>exact False.elim p
  |ct=>exact False.elim p
  |rt d=>exact fun v rv=>p v m1 H1 p1 k1 hr1 rv
end
theorem UZ {P:Program} {w:World} {K:PySem.W.Frag} {mg:Str→Option Value} {base:Heap} {N:List Str} {qual:Str} {scope:Scope} {f:Addr} {cd:Value} {A:Around} {outer:List Env} {s:Shared} {H:Hp} {E:XK}:
 PassesOwn (model P w) (Bp (AK P w K) P w K mg base N qual scope f cd A outer s H E).A (Bp (AK P w K) P w K mg base N qual scope f cd A outer s H E).env (Bp (AK P w K) P w K mg base N qual scope f cd A outer s H E).xe:=by
 passes_own
section
variable {X:Cx} {E:XK}
abbrev MO:=Af→HD→Out (Option Int)
abbrev Fu (X:Cx) (E:XK) (e:Option Expr) (f:MO):Prop:=PO X e (tM X.K (fun _ _ a b=>a=b) E f)
def Cu:MO:=fun _ h=>.ok none h
def Cm (f:ME):MO:=fun ρ h=>(f ρ h).bind fun x h1=>match x with
 |.int i=>.ok (some i) h1
 |_=>.stuck
theorem Nf {e:Option Expr} {t t':TO} (h:PO X e t) (i:∀σ H Q,t' σ H Q→t σ H Q):PO X e t':=fun pins s σ H Q I q=>h pins s σ H Q I (i σ H Q q)
theorem U0:Fu X E none Cu:=Nf R4 fun σ H Q z1_=>by obtain ⟨m,ρ,h,hr,er,p⟩:=z1_;exact (p none m H (Ay _) (.refl _) hr rfl)
theorem U1 {e:Expr} {f:ME} (he:Ev X E e f):Fu X E (some e) (Cm f):=Nf (R5 he) fun σ H Q z2_=>by obtain ⟨m,ρ,h,hr,er,p⟩:=z2_;exact (⟨m,ρ,h,hr,er,Post.bind p fun x h1 v m1 H1 eo p1 k1 hr1 r1 q1=>by
 clear eo
 split at q1
 ·rename_i i
  simp only [rD,DV] at r1
  exact ⟨i,r1,q1 (some i) m1 H1 (Ay _) (.refl _) hr1 rfl⟩
 ·exact q1.elim⟩)
def DX (xs:List D) (lo hi:Option Int):List D:=(xs.drop (HT.sIx xs.length 0 lo)).take (HT.sIx xs.length xs.length hi - HT.sIx xs.length 0 lo)
def Ng (x:D) (lo hi:Option Int) (h:HD):Out D:=match x with
 |.tup xs=>if HT.sIx xs.length 0 lo=0∧HT.sIx xs.length xs.length hi=xs.length then .stuck else .ok (.tup (DX xs lo hi)) h
 |_=>.stuck
def Nh (f:ME) (lo hi:MO):ME:=fun ρ h=>(f ρ h).bind fun x h1=>(lo ρ h1).bind fun l h2=>(hi ρ h2).bind fun u h3=>Ng x l u h3
theorem DVs.cut {K:PySem.W.Frag} {m:List Addr} {H:Hp} {ds:List D} {vs:List V} (r:DVs K m H ds vs) (lo hi:Option Int):DVs K m H (DX ds lo hi) (E4 vs lo hi):=by
 unfold DX E4
 rw [r.len]
 exact (r.drop _).take _
def Ni (o i x y:D) (ρ:Af) (h:HD):Out (Fl×Af):=match x,y with
 |.int a,.int b=>Fp o i (.int (a+b)) h (.ok (.nx,ρ) h)
 |_,_=>.stuck
def Nj (o i:D) (h:HD):Out D:=match o,i with
 |.loc l,.int n=>if 0≤n then (match h[l]? with
  |some (.lst ds)=>(match ds[n.toNat]? with
   |some d=>.ok d h
   |none=>.stuck)
  |_=>.stuck) else .stuck
 |_,_=>.stuck
def Nk (fo fi fv:ME):MS:=fun ρ h=>(fo ρ h).bind fun o h1=>(fi ρ h1).bind fun i h2=>(Nj o i h2).bind fun x h3=>(fv ρ h3).bind fun y h4=>Ni o i x y ρ h4
end
theorem vals_ints:∀{ns:List Int} {its:List Value},Vals (ns.map V.int) its→∃ys:List (Int×Tok),its=ys.map (fun p=>Value.int p.1 p.2)∧ys.map (·.1)=ns
 |[],its,r=>by cases r;exact ⟨[],rfl,rfl⟩
 |n::ns,its,r=>by
  cases r with
  |cons r1 r2=>
   obtain ⟨t,rfl⟩:=r1
   obtain ⟨ys,rfl,e⟩:=vals_ints r2
   exact ⟨(n,t)::ys,rfl,by simp [e]⟩
section
variable {X:Cx}
def Zav:List Int→Int
 |[]=>0
 |n::ns=>ns.foldl min n
def Nl (f:List Int→Int):D→HD→Out D:=fun x h=>match x with
 |.loc l=>match h[l]? with
  |some (.lst ds)=>match AF (ds.map J5) with
   |some ns=>if ns=[] then .stuck else .ok (.int (f ns)) h
   |none=>.stuck
  |_=>.stuck
 |_=>.stuck
end
def Zaw (K:PySem.W.Frag) (t:Addr):It:=⟨fun i H=>∃xs,SqL K H t xs∧i<xs.length,fun i H x H'=>∃p v,H p=none∧x=.ref p∧(∀xs:List V,SqL K H t xs→xs[i]?=some v)∧H'=Ai H p (.tup [.int i,v]),fun i H=>∃xs,SqL K H t xs∧i=xs.length⟩
section
variable {X:Cx} {E:XK}
def Nm:List D→HD→Out (List D×AJ):=fun ds h=>match ds with
 |[.tup xs]=>.ok (J6 xs,[]) h
 |[.loc l]=>match h[l]? with
  |some (.lst xs)=>.ok (J6 xs,[(l,xs)]) h
  |_=>.stuck
 |_=>.stuck
def Nn (fa:MA):MI:=fun ρ h=>(fa ρ h).bind Nm
end
section
variable {prog:Program} {w:World} {A:Around} {E:Value→Shared→Prop} {s:Shared} {z TI TO p q:Addr} {f g:List Addr} {n1 n2 k:Nat} {P1 P2:Nat→Value→Prop} {S1 S2:Nat→Heap→Prop} {a b:Value}
end
open AutoSeq1 (wpAny_loadPart')
def ItAt:Bool→Heap→Addr→Addr→Nat→Prop
 |true,h,it,l,i=>h.IsTupleIter it l i
 |false,h,it,l,i=>h.IsListIter it l i
def SqA:Bool→Heap→Addr→Array Value→Prop
 |true,h,l,xs=>h.IsTuple l xs
 |false,h,l,xs=>h.IsList l xs
def U2 (k:Bool) (l:Addr):Obj:={cls:=.type (if k then "tuple_iterator" else "list_iterator"),data:=.fields #[.ref l,.int 0 0]}
theorem ItAt.obj {k:Bool} {h:Heap} {it l:Addr} {i:Nat} (x:ItAt k h it l i):∃o,h.get? it=some o∧∀v,o.data≠.cell v:=by
 cases k
 ·obtain ⟨o,e,c,d⟩:=x
  exact ⟨o,e,fun v z=>by rw [d] at z;cases z⟩
 ·obtain ⟨o,e,c,d⟩:=x
  exact ⟨o,e,fun v z=>by rw [d] at z;cases z⟩
theorem ItAt.at {k:Bool} {h h':Heap} {it l:Addr} {i:Nat} (x:ItAt k h it l i) (f:∀o,h.get? it=some o→h'.get? it=some o):ItAt k h' it l i:=by
 cases k
 ·exact Heap.IsListIter.at x f
 ·exact Heap.IsTupleIter.at x f
section
variable {X:Cx} {pins:List (Addr×Obj)} {σ:L2.St} {H:Hp} {s:Shared}
end
theorem SqA.push {k:Bool} {h:Heap} {l:Addr} {xs:Array Value} (x:SqA k h l xs) (o:Obj):SqA k (h.push o) l xs:=by
 cases k
 ·exact Heap.IsList.push x o
 ·exact Heap.IsTuple.push x o
theorem ItAt.new {k:Bool} {h:Heap} {it l:Addr} (e:h.get? it=some (U2 k l)):ItAt k h it l 0:=by
 cases k
 ·exact ⟨_,e,rfl,rfl⟩
 ·exact ⟨_,e,rfl,rfl⟩
section
variable {X:Cx} {E:XK}
def U3 (xs ys:List D):List D:=List.zipWith (fun a b=>.tup [a,b]) xs ys
def Np:D→HD→Option (List D×AJ)
 |.tup xs,_=>some (xs,[])
 |.loc l,h=>match h[l]? with
  |some (.lst xs)=>some (xs,[(l,xs)])
  |_=>none
 |_,_=>none
def Nq:List D→HD→Out (List D×AJ):=fun ds h=>match ds with
 |[x,y]=>match Np x h,Np y h with
  |some (xs,s1),some (ys,s2)=>.ok (U3 xs ys,s1++s2) h
  |_,_=>.stuck
 |_=>.stuck
def Nr (fa:MA):MI:=fun ρ h=>(fa ρ h).bind Nq
end
end LS
namespace LS
open PySem PySem.Spec PyProof.Rows L2
section
variable {ρ:Af} {h:HD} {QI:(List D×AJ)→HD→Prop} {Q:D→HD→Prop} {QO:Option Int→HD→Prop} {QS:Fl×Af→HD→Prop} {f fo fi fv:ME} {lo hi:MO} {fa:MA}
@[simp] theorem Zax:Wp (Nn fa ρ h) QI=Wp (fa ρ h) fun d h1=>Wp (Nm d h1) QI:=by unfold Nn;rw [Al]
@[simp] theorem Zay:Wp (Nr fa ρ h) QI=Wp (fa ρ h) fun d h1=>Wp (Nq d h1) QI:=by unfold Nr;rw [Al]
@[simp] theorem Zaz:Wp (Nh f lo hi ρ h) Q=Wp (f ρ h) fun x h1=>Wp (lo ρ h1) fun l h2=>Wp (hi ρ h2) fun u h3=>Wp (Ng x l u h3) Q:=by unfold Nh;simp only [Al]
@[simp] theorem ZaA:Wp (Cu ρ h) QO=QO none h:=id rfl
@[simp] theorem ZaB:Wp (Cm f ρ h) QO=Wp (f ρ h) fun x h1=>Wp (match x with
  |.int i=>(.ok (some i) h1:Out (Option Int))
  |_=>.stuck) QO:=by unfold Cm;rw [Al]<;>rfl
@[simp] theorem ZaC:Wp (Nk fo fi fv ρ h) QS=Wp (fo ρ h) fun o h1=>Wp (fi ρ h1) fun i h2=>Wp (Nj o i h2) fun x h3=>Wp (fv ρ h3) fun y h4=>Wp (Ni o i x y ρ h4) QS:=by unfold Nk;simp only [Al]
theorem Kn {l:Nat} {ds:List D} (e:h[l]?=some (.lst ds)):Do (.loc l) h=.ok (ds,[(l,ds)]) h:=by
 simp only [Do,A7,e,HB]
theorem U4 {l:Nat} {ds:List D} (e:h[l]?=some (.lst ds)):Bj (.loc l) h=.ok (.int ds.length) h:=by
 simp only [Bj,A7,e]
theorem Nt {a:D}:∀n:Nat,(List.replicate n [a]).flatten=List.replicate n a
 |0=>rfl
 |n+1=>by rw [DG,D7,Nt n];rfl
theorem U5 {l n:Nat} {a:D} (e:h[l]?=some (.lst [a])) (hn:n≤1000):Cj (.loc l) (.int (n:Nat)) h=Bi (List.replicate n a) h:=by
 have:(-(2^63):Int)≤(n:Int)∧(n:Int)<2^63:=by omega
 simp only [Cj,e]
 rw [if_pos this]
 simp [Nt]
end
noncomputable def U6 (cs:List (Option Nat)) (it:MI) (sg:MG) (t:MT) (f:ME):ME:=Ad (Aj MF) (Aa (AD cs it sg t f) Ac)
noncomputable def U7 (F:List Int→Int) (cs:List (Option Nat)) (it:MI) (sg:MG) (t:MT) (f:ME):ME:=Ad (Aj (Nl F)) (Aa (AD cs it sg t f) Ac)
section
variable {α:Type} {cs:List (Option Nat)} {it:MI} {sg:MG} {t:MT} {f:ME} {ρ:Af} {h:HD} {src:AJ} {xs:List α} {φ:α→D} {F:List Int→Int}
@[simp] theorem ZaD:Ad (Aj MF) (Aa (AD cs it sg t f) Ac) ρ h=U6 cs it sg t f ρ h:=rfl
@[simp] theorem ZaE:Ad (Aj (Nl F)) (Aa (AD cs it sg t f) Ac) ρ h=U7 F cs it sg t f ρ h:=rfl
end
section
variable {X:Cx} {E:XK}
end
section
variable {X:Cx}
def Nu:D→HD→Out D:=fun x h=>match x with
 |.loc l=>match h[l]? with
  |some (.lst ds)=>match AF (ds.map Fm) with
   |some bs=>.ok (.bl (bs.any id)) h
   |none=>.stuck
  |_=>.stuck
 |_=>.stuck
end
noncomputable def U8 (cs:List (Option Nat)) (it:MI) (sg:MG) (t:MT) (f:ME):ME:=Ad (Aj Nu) (Aa (AD cs it sg t f) Ac)
section
variable {α:Type} {cs:List (Option Nat)} {it:MI} {sg:MG} {t:MT} {f:ME} {ρ:Af} {h:HD} {src:AJ} {xs:List α} {φ:α→D}
@[simp] theorem ZaF:Ad (Aj Nu) (Aa (AD cs it sg t f) Ac) ρ h=U8 cs it sg t f ρ h:=rfl
end
end LS
namespace LS
open PySem PySem.Spec PyProof.Rows L2 PySem.W
structure EC (K:Frag) (C:Addr):Prop where
 ga:findIn K (.ref C) "__getattribute__"=some (some (.builtin "BaseException.__getattribute__"))
 gt:findIn K (.ref C) "__getattr__"=some none
 cl:(clsIn K C).isSome=true
 ac:findIn K (.ref C) "__class__"=some (some (.builtin "object.__class__"))
 sg:specialIn K (.builtin "object.__class__") "__get__"=some (some (.builtin "getset_descriptor.__get__"))
 tk:takesIn K (.builtin "object.__class__")=some true
 mo:mroIn K C (.type "object")=some true
 mb:mroIn K C (.type "BaseException")=some true
section
variable {prog:Program} {w:World} {A:Around} {E:Value→Shared→Prop} {s:Shared} {K:Frag} {x C:Addr} {ox:Obj} {od:Option Obj}
def TyAt (x C:Addr) (h:Heap):Prop:=∃o,h.get? x=some o∧o.cls=.ref C
theorem TyAt.type {M:Model} {h:Heap} (t:TyAt x C h):Looks M h (typeOf (.ref x)) (.ref C):=by
 obtain ⟨o,h1,h2⟩:=t
 exact h2 ▸ (Looks.ld h1).andThen .now
theorem U9 {M:Model} {h:Heap} (c:EC K C) (X:K.In h):Looks M h (Builtin.ObjectAttr.find (.ref x) (.ref C) "__class__") (.bind (.builtin "getset_descriptor.__get__") (.builtin "object.__class__")):=by
 have L1:=looks_findIn (M:=M) X c.ac
 have L2:Looks M h (Builtin.ObjectAttr.getOf (some (.builtin "object.__class__"))) (some (.builtin "getset_descriptor.__get__")):=looks_specialIn X c.sg
 have L3:=looks_takesIn (M:=M) X c.tk
 refine L1.andThen (L2.andThen ?_)
 exact (show Looks M h (Builtin.ObjectAttr.dataDescriptor? (some (.builtin "object.__class__")) (some (.builtin "getset_descriptor.__get__"))) (some (.builtin "getset_descriptor.__get__",.builtin "object.__class__")) from L3.andThen .now).andThen (Looks.tag .now)
theorem Va {R:Result→Shared→Prop} {tp:Value} (X:K.In s.heap) (I:TyAt x C s.heap) (hm:mroIn K C (.type "object")=some true)
 (h:R (.ok (.ret (.ref C))) s):codeAny (model prog w) A (.call (.builtin "getset_descriptor.__get__") ⟨[.builtin "object.__class__",.ref x,tp],[]⟩) R s:=by
 obtain ⟨hh,g,dr,t,os⟩:=s
 have L0:=I.type (M:=model prog w)
 have L1:=looks_mroIn (M:=model prog w) X hm
 refine codeAny_call_builtin KF.slot_gs.plain KF.entry_gs (KF.slot_gs.check _ _ _ _ _ _ _ _ KF.type_class (KF.args_gs _ _ _) ?_)
 unfold Builtin.«getset_descriptor.__get__» Builtin.Getset_descriptor.descrGet
 rw [dga_obj]
 refine wpAny_bind (wpAny_pure ?_)
 unfold Builtin.Getset_descriptor.descrGetter Builtin.Getset_descriptor.descrCheckInstance Builtin.Getset_descriptor.descrNameAndClass isInstance
 simp only [KF.owner_class]
 repeat lk
 refine ⟨Code.quiet_builtin _ (by decide +kernel),codeAny_builtin KF.entry_class ?_⟩
 unfold Builtin.«object.__class__» shownTypeOf
 repeat lk
 exact h
theorem Vb {Q:Option Value→Shared→Prop} (c:EC K C) (X:K.In s.heap) (I:TyAt x C s.heap) (h:Q (some (.ref C)) {s with toks:=s.toks+1}):wpAny (model prog w) A (getAttr? (.ref x) "__class__") Q E s:=by
 obtain ⟨hh,g,d,t,os⟩:=s
 have L0:=I.type (M:=model prog w)
 have L1:=looks_findIn (M:=model prog w) X c.ga
 have L2:=looks_findIn (M:=model prog w) X c.gt
 have LF:=U9 (M:=model prog w) (x:=x) c X
 have LB:=looks_mroIn (M:=model prog w) X c.mb
 have ha:=F.args_bexc_ga (.ref x) (.str "__class__" t)
 have hk:builtinKind "BaseException.__getattribute__"=some .slot:=by decide +kernel
 have hsplit:splitId "BaseException.__getattribute__"=some ("BaseException","__getattribute__"):=by decide +kernel
 have hx2:(Value.builtin "BaseException.__getattribute__"==Value.builtin "object.__getattribute__")=false:=by decide +kernel
 have hx1:(onTheHeap (Value.ref C)&&Value.builtin "BaseException.__getattribute__"==Value.builtin "object.__getattribute__")=false:=by rw [hx2];rfl
 unfold getAttr? getAttrBy? getAttrBy
 refine wpAny_bind (wpAny_mkText (wpAny_bind (wpAny_attempt (wpAny_holding (wpAny_bind (L0.at (wpAny_bind (L1.at ?_))))))))
 dsimp only
 rw [hx1]
 simp only [Cq,if_false]
 unfold getAttrByItsOwn hookBefore
 refine wpAny_bind ?_
 show wpAny _ _ (typeLookup (.ref C) "__getattr__") _ _ _
 refine L2.at ?_
 refine wpAny_bind (wpAny_attempt (wpAny_holding ?_))
 unfold callGetattribute boundAndCalled
 simp only [GW,Cq,if_false]
 rw [PySem.F.attr_ValueError.ga.bind (.ref x)]
 refine wpAny_bind (wpAny_pure (wpAny_call (codeAny_call_builtin PySem.F.attr_ValueError.ga.plain F.entry_bexc_ga ?_)))
 simp only [checkBuiltinCall,hk,hsplit]
 refine wpAny_bind ?_
 unfold isInstance
 refine wpAny_bind (L0.at (LB.at ?_))
 wp_step
 unfold Builtin.«object.__getattribute__»
 repeat lk
 refine wpAny_run (Va (s:=⟨hh,g,d,t+1,os⟩) X I c.mo ?_) (by intro z;cases z)
 refine wpAny_pure (wpAny_pure ?_)
 exact handed_on rfl (wpAny_pure h)
theorem Vc (c:EC K C):KitX K (.ref x) (.ref C) (TyAt x C) where
 ty:=fun _ _ _ I=>I.type
 it:=fun _ _ X _=>by
  obtain ⟨cdD,hcD⟩:=qbB.mp c.cl
  unfold clsIn at hcD
  split at hcD
  ·rename_i c' d' cd' sl' ho
   intro A' Q' E' s' k q
   unfold isType loadHead
   exact wpAny_bind (wpAny_loadPart (k _ _ (X _ _ ho)) (wpAny_pure q))
  ·cases hcD
 ne:=fun h tp dd its n sl X htp=>by
  obtain ⟨cdD,hcD⟩:=qbB.mp c.cl
  refine Bool.eq_false_iff.mpr fun q=>?_
  have e:C=tp:=Value.ref.inj (beq_iff_eq.mp q)
  subst e
  unfold clsIn at hcD
  split at hcD
  ·rename_i c' d' cd' sl' ho
   have z:=(X _ _ ho).symm.trans htp
   cases z
  ·cases hcD
 ca:=fun X I k=>Vb c X I k
end
def excNames:List Str:=["NoBoard","NoLine","NoSwitching","NoNumber","Unlike","NoNet","NoPlace","NoText","NoRow","TooMany","SwitchError"]
def Bd (n n':Str):Bool:=n==n'||n'=="SwitchError"
def Ko (K:Frag) (C:Addr):Bool:=
 findIn K (.ref C) "__getattribute__"==some (some (.builtin "BaseException.__getattribute__"))&&findIn K (.ref C) "__getattr__"==some none&&(clsIn K C).isSome&&
 findIn K (.ref C) "__class__"==some (some (.builtin "object.__class__"))&&specialIn K (.builtin "object.__class__") "__get__"==some (some (.builtin "getset_descriptor.__get__"))&&
 takesIn K (.builtin "object.__class__")==some true&&mroIn K C (.type "object")==some true&&mroIn K C (.type "BaseException")==some true
theorem Vd {K:Frag} {C:Addr} (h:Ko K C=true):EC K C:=by
 unfold Ko at h
 simp only [BW,beq_iff_eq] at h
 obtain ⟨⟨⟨⟨⟨⟨⟨h1,h2⟩,h3⟩,h4⟩,h5⟩,h6⟩,h7⟩,h8⟩:=h
 exact ⟨h1,h2,h3,h4,h5,h6,h7,h8⟩
def CW (K:Frag) (n:Str):Option Addr:=match nsIn K mainGlobals n with
 |some (some (.ref C))=>some C
 |_=>none
theorem Nv {K:Frag} {n:Str} {C:Addr} (h:CW K n=some C):nsIn K mainGlobals n=some (some (.ref C)):=by
 unfold CW at h
 split at h
 ·rename_i e;cases h;exact e
 ·cases h
def Kq (K:Frag) (n:Str) (C S:Addr):Bool:=
 Ko K C&&kitOne K (.ref C) (.type "ValueError")==some true&&(n=="TooMany"||Kl K C Gs "ValueError.__new__")&&exmOne K (.ref C) (.ref S)==some true&&
  excNames.all fun n'=>match CW K n' with
   |some C'=>kitOne K (.ref C) (.ref C')==some (Bd n n')
   |none=>false
def etOk (K:Frag):Bool:=match CW K "SwitchError" with
 |some S=>excNames.all fun n=>match CW K n with
  |some C=>Kq K n C S
  |none=>false
 |none=>false
structure ET (K:Frag) (n:Str) (C:Addr):Prop where
 ec:EC K C
 ve:kitOne K (.ref C) (.type "ValueError")=some true
 at_:n≠"TooMany"→Kk K C Gs "ValueError.__new__"
 sw:∀S,nsIn K mainGlobals "SwitchError"=some (some (.ref S))→exmOne K (.ref C) (.ref S)=some true
 sub:∀n' C',n'∈excNames→nsIn K mainGlobals n'=some (some (.ref C'))→kitOne K (.ref C) (.ref C')=some (Bd n n')
theorem HZ {K:Frag} (h:etOk K=true) {n:Str} {C:Addr} (hn:n∈excNames) (hC:nsIn K mainGlobals n=some (some (.ref C))):ET K n C:=by
 unfold etOk at h
 split at h
 ·rename_i S hS
  have h1:=qaI.mp h n hn
  have e:CW K n=some C:=by unfold CW;rw [hC]
  rw [e] at h1
  have h1:Kq K n C S=true:=h1
  unfold Kq at h1
  simp only [BW,beq_iff_eq,Bool.or_eq_true] at h1
  obtain ⟨⟨⟨⟨a1,a2⟩,a3⟩,a4⟩,a5⟩:=h1
  refine ⟨Vd a1,a2,fun z=>UT (a3.resolve_left z),fun S' hS'=>?_,fun n' C' hn' hC'=>?_⟩
  ·have:=Nv hS
   rw [this] at hS'
   cases hS'
   exact a4
  ·have z:=qaI.mp a5 n' hn'
   have e':CW K n'=some C':=by unfold CW;rw [hC']
   rw [e'] at z
   exact beq_iff_eq.mp z
 ·cases h
section
variable {X:Cx} {E:XK}
theorem Ve {x:Str} {a:Addr} {pos:Pos} (hg:Gl X x) (hn:nsIn X.K mainGlobals x=some (some (.ref a))) (hd:(x==("__debug__":Str))=false:=by decide):Ev X E (.Name x pos) (mC (.glo x)):=
 fun pins s σ H Q I z1_=>by obtain ⟨m,ρ,h,hr,er,p⟩:=z1_;exact (EZ I hg (mg_of I.mod.kin I.mod.glob hn) ⟨.ref a,H,I,rfl,p (.ref a) m H (Ay _) (.refl _) hr (by simp only [rD,DV];exact ⟨a,rfl,hn⟩)⟩ hd)
def Cn {α:Type}:Out α→Prop
 |.err _ _ _=>False
 |_=>True
theorem Post.noE {α β:Type} {K:Frag} {R:List Addr→Hp→α→β→Prop} {m:List Addr} {H:Hp} {E E':XK} {Q:β→Hp→Prop} {o:Out α} (n:Cn o) (h:Post K R m H E Q o):Post K R m H E' Q o:=by
 cases o with
 |ok a h1=>exact h
 |err C fs h1=>exact False.elim n
 |stuck=>exact h
theorem Nw {f:Value} {F:List D→HD→Out D} (hF:∀ds h,Cn (F ds h))
 (hc:∀(pins:List (Addr×Obj)) (s:Shared) (σ:L2.St) (H:Hp) (m:List Addr) (h:HD) (ds:List D) (vs:List V) (us:List Value) (Q:VK),Inv X pins σ H s→HR X.K m h H→DVs X.K m H ds vs→Vals vs us→Post X.K (rD X.K) m H E0 Q (F ds h)→
  wpAny (model X.prog X.w) X.A (call f us) (EP X pins σ Q) X.xe s):B3 X f F:=
 ⟨fun vs H Q=>∃m h ds,HR X.K m h H∧DVs X.K m H ds vs∧Post X.K (rD X.K) m H E0 Q (F ds h),fun pins s σ H vs us Q I r z2_=>by obtain ⟨m,h,ds,hr,rd,q⟩:=z2_;exact (hc pins s σ H m h ds vs us Q I hr rd r q),fun m H h E ds vs Q hr rd q=>⟨m,h,ds,hr,rd,Post.noE (hF ds h) q⟩⟩
def Aw:D→D→HD→Out D:=fun x y h=>match x with
 |.exc n _=>(match y with
  |.glo n'=>if n∈excNames∧n'∈excNames then .ok (.bl (Bd n n')) h else .stuck
  |.ty T=>if n∈excNames∧T="ValueError" then .ok (.bl true) h else .stuck
  |_=>.stuck)
 |.edic=>(match y with
  |.ty T=>(match HE "dict" T with
   |some b=>.ok (.bl b) h
   |none=>.stuck)
  |_=>.stuck)
 |_=>Ba x y h
theorem Vf (pins:List (Addr×Obj)) (s:Shared) (σ:L2.St) (H:Hp) (m:List Addr) (h:HD) (x y:D) (v v':V) (u u':Value) (Q:VK) (I:Inv X pins σ H s) (hr:HR X.K m h H) (rx:DV X.K m H x v) (ry:DV X.K m H y v') (r:RelV v u) (r':RelV v' u')
 (q:Post X.K (rD X.K) m H E0 Q (Ba x y h)):wpAny (model X.prog X.w) X.A (call (.builtin "isinstance") [u,u']) (EP X pins σ Q) X.xe s:=by
 unfold Ba at q
 split at q
 ·rename_i T t et
  split at q
  ·rename_i b eb
   simp only [DV] at ry
   subst ry
   cases (show u'=Value.type T from r')
   exact RN I r (Ue hr rx et) (MD eb) fun tk=>⟨.bl b,H,I.tok _,rfl,AL hr q (by simp [DV])⟩
  ·exact q.elim
 ·exact q.elim
theorem Vg (et:etOk X.K=true):B3 X (.builtin "isinstance") (AV Aw):=by
 refine Nw (fun ds h=>?_) fun pins s σ H m h ds vs us Q I hr rd r q=>Hv rd q fun x y v v' ev rx ry q=>?_
 ·unfold AV Aw Ba
  repeat' split
  all_goals trivial
 ·subst ev
  obtain ⟨u,u',rfl,r1,r2⟩:=Hd r
  unfold Aw at q
  split at q
  ·rename_i n fs
   simp only [DV] at rx
   obtain ⟨a,C,da,rfl,hC,ha,_⟩:=rx
   cases (show u=Value.ref a from r1)
   obtain ⟨⟨o,ws,ho,hcl,hdi,hdat⟩,_⟩:=(show ObjOk X.prog X.w H s.heap a (.ext (DL C da a)) from I.hok a _ ha)
   have key:∀(c:Value) (b:Bool),EC X.K C→kitOne X.K (.ref C) c=some b→Q (.bl b) H→wpAny (model X.prog X.w) X.A (call (.builtin "isinstance") [.ref a,c]) (EP X pins σ Q) X.xe s:=by
    intro c b ec e q
    exact kia_one (Vc ec) I.kIn ⟨o,ho,hcl⟩ e (fun z=>nomatch z) fun tk=>⟨.bl b,H,I.tok _,rfl,q⟩
   split at q
   ·rename_i n'
    split at q
    ·rename_i hn
     simp only [DV] at ry
     obtain ⟨C',rfl,hC'⟩:=ry
     cases (show u'=Value.ref C' from r2)
     have t:=HZ et hn.1 hC
     exact key _ _ t.ec (t.sub n' C' hn.2 hC') (AL hr q (by simp [DV]))
    ·exact q.elim
   ·rename_i T
    split at q
    ·rename_i hn
     simp only [DV] at ry
     subst ry
     cases (show u'=Value.type T from r2)
     obtain ⟨hn,rfl⟩:=hn
     have t:=HZ et hn hC
     exact key _ _ t.ec t.ve (AL hr q (by simp [DV]))
    ·exact q.elim
   ·exact q.elim
  ·split at q
   ·rename_i T
    split at q
    ·rename_i b eb
     simp only [DV] at rx ry
     obtain ⟨a,rfl,ha⟩:=rx
     subst ry
     cases (show u=Value.ref a from r1)
     cases (show u'=Value.type T from r2)
     obtain ⟨⟨_,o,ep,ho,hx,hd⟩,_⟩:=(show ObjOk X.prog X.w H s.heap a (.ext (JM a)) from I.hok a _ ha)
     exact kia_one kitx_dict I.kIn ⟨o,ho,hx.1⟩ (MD eb) (fun z=>nomatch z) fun tk=>⟨.bl b,H,I.tok _,rfl,AL hr q (by simp [DV])⟩
    ·exact q.elim
   ·exact q.elim
  ·exact Vf pins s σ H m h x y v v' u u' Q I hr rx ry r1 r2 q
end
section
variable {X:Cx} {E:XK}
def By (chk:D→HD→Out D) (op:D→D→HD→Out D) (f g:ME):ME:=fun ρ h=>((f ρ h).bind chk).bind fun x h1=>(g ρ h1).bind fun y h2=>op x y h2
def Nx (X:Cx) (T:String) (x:V) (H:Hp):Prop:=∀(pins:List (Addr×Obj)) (σ:L2.St) (s:Shared) (u:Value),Inv X pins σ H s→RelV x u→s.TypeIs u T∧∀a,u=.ref a→∃ob,s.heap.get? a=some ob∧ob.dict=none
def Vh (X:Cx) (T:String) (r:V→List V→Hp→VK→Prop) (to:TE) (t:TA):TE:=fun σ H Q=>to σ H fun x H1=>Nx X T x H1∧t σ H1 fun xs H2=>r x xs H2 Q
theorem Vi {o e:Expr} {es:List Expr} {to:TE} {t:TA} {name:Str} {apos cpos:Pos} {T id:String} {r:V→List V→Hp→VK→Prop} (pa:PlainAttrs T) (slot:Slot T name id) (hty:typeOf (.builtin id)=pure (.type "method_descriptor")) (hm:JH X id r) (ho:PE X o to) (ha:PA X (e::es) t)
 (hbase:attributeBase o name X.env (eval o X.env)=eval o X.env:=by rfl)
 (hfew:((backTo cpos (starEach (e::es) X.env)).all (fun x=>!x.1)&&(backToKw cpos (keywordEach [] X.env)).all (fun x=>x.1.isSome)
  &&decide ((e::es).length+([]:List Keyword).length+(if ([]:List Keyword).isEmpty then 0 else 1)<30))=true:=by rfl)
 (hline:(apos.endLine==cpos.line)=true:=by rfl) (hs:starEach (e::es) X.env=(false,eval e X.env)::starEach es X.env:=by rfl) (hplain:(backTo cpos (starEach es X.env)).any (·.1)=false:=by rfl):
 PE X (.Call (.Attribute o name apos) (e::es) [] cpos) (Vh X T r to t):=by
 intro pins s σ H Q I h
 refine wpAny_Call_method_late hbase hfew hline rfl (Ak (ho pins s σ H _ I h) fun v s1 z1_=>?_)
 obtain ⟨x,H1,I1,r1,ty,q1⟩:=z1_
 obtain ⟨h1,h2⟩:=ty pins σ s1 v I1 r1
 refine ⟨T,id,pa,slot,hty,h1,h2,?_⟩
 have hA:=ha cpos pins s1 σ H1 _ I1 q1
 rw [hs] at hA ⊢
 refine Calls.callWith_builtin (by show (false||(backTo cpos (starEach es X.env)).any (·.1))=false;rw [hplain]<;>rfl) (Calls.evalArgs_plain ?_)
 exact Ak hA fun us s2 z2_=>by obtain ⟨vs,H2,I2,r2,q2⟩:=z2_;exact (hm pins s2 σ H2 x vs v us Q I2 r1 r2 q2)
structure Kr (X:Cx) (T:String) (chk:D→HD→Out D):Prop where
 two:∀x h,chk x h=.ok x h∨chk x h=.stuck
 ty:∀m H h x v,HR X.K m h H→DV X.K m H x v→chk x h=.ok x h→Nx X T v H
def Ds (X:Cx) (id:String) (op:D→D→HD→Out D):Prop:=
 ∀(pins:List (Addr×Obj)) (s:Shared) (σ:L2.St) (H:Hp) (m:List Addr) (h:HD) (x y:D) (v yv:V) (u uy:Value) (Q:VK),Inv X pins σ H s→HR X.K m h H→DV X.K m H x v→DV X.K m H y yv→RelV v u→RelV yv uy→Post X.K (rD X.K) m H E0 Q (op x y h)→
  wpAny (model X.prog X.w) X.A (call (.builtin id) [u,uy]) (EP X pins σ Q) X.xe s
theorem Es {o e:Expr} {f g:ME} {name:Str} {T id:String} {chk:D→HD→Out D} {op:D→D→HD→Out D} {apos cpos:Pos} (pa:PlainAttrs T) (slot:Slot T name id) (hty:typeOf (.builtin id)=pure (.type "method_descriptor"))
 (hc:Kr X T chk) (hn:∀x y h,Cn (op x y h)) (hm:Ds X id op) (ho:Ev X E o f) (he:Ev X E e g)
 (hbase:attributeBase o name X.env (eval o X.env)=eval o X.env:=by rfl)
 (hfew:((backTo cpos (starEach [e] X.env)).all (fun x=>!x.1)&&(backToKw cpos (keywordEach [] X.env)).all (fun x=>x.1.isSome)
  &&decide ([e].length+([]:List Keyword).length+(if ([]:List Keyword).isEmpty then 0 else 1)<30))=true:=by rfl)
 (hline:(apos.endLine==cpos.line)=true:=by rfl) (hs:starEach [e] X.env=(false,eval e X.env)::starEach [] X.env:=by rfl) (hplain:(backTo cpos (starEach [] X.env)).any (·.1)=false:=by rfl):
 Ev X E (.Call (.Attribute o name apos) [e] [] cpos) (By chk op f g):=by
 have hr:JH X id (fun v vs H Q=>∃m h x y yv,vs=[yv]∧HR X.K m h H∧DV X.K m H x v∧DV X.K m H y yv∧Post X.K (rD X.K) m H E0 Q (op x y h)):=by
  rintro pins s σ H v vs u us Q I r rs ⟨m,h,x,y,yv,ev,hr,rx,ry,q⟩
  subst ev
  obtain ⟨uy,rfl,r2⟩:=Dl rs
  exact hm pins s σ H m h x y v yv u uy Q I hr rx ry r r2 q
 refine Bq (Vi pa slot hty hr ho (Hr he Hq hs) hbase hfew hline hs hplain) fun σ H Q z3_=>?_
 obtain ⟨m,ρ,h,hr,er,p⟩:=z3_
 refine ⟨m,ρ,h,hr,er,?_⟩
 unfold By at p
 rw [Out.bind_assoc] at p
 refine Post.bind p fun x h1 v m1 H1 eo p1 k1 hr1 r1 q1=>?_
 clear eo
 rcases hc.two x h1 with ec |ec
 ·rw [ec] at q1
  simp only [Out.bind_ok] at q1
  refine ⟨hc.ty m1 H1 h1 x v hr1 r1 ec,m1,ρ,h1,hr1,er.keep p1 k1,?_⟩
  have q2:Post X.K (rD X.K) m1 H1 E Q ((Aa g Ac ρ h1).bind fun ys h2=>match ys with
   |[y]=>op x y h2
   |_=>.stuck):=by
   unfold Aa Ac
   rw [Out.bind_assoc]
   exact q1
  refine Post.bind q2 fun ys h2 vs m2 H2 eo p2 k2 hr2 r2 q3=>?_
  clear eo
  split at q3
  ·rename_i y
   simp only [E6,DVs] at r2
   obtain ⟨yv,w,rfl,ry,rfl⟩:=r2
   exact ⟨m2,h2,x,y,yv,rfl,hr2,DV.keep p2 k2 r1,ry,Post.noE (hn x y h2) q3⟩
  ·exact q3.elim
 ·rw [ec] at q1
  exact q1.elim
theorem Ks:Kr X "list" BN where
 two:=fun x h=>by
  unfold BN
  split
  ·split
   ·exact .inl rfl
   ·exact .inr rfl
  ·exact .inr rfl
 ty:=fun m H h x v hr r e=>by
  unfold BN at e
  split at e
  ·rename_i l
   split at e
   ·rename_i ds el
    simp only [DV] at r
    obtain ⟨a,rfl,ha⟩:=r
    obtain ⟨ws,hv,dv⟩:=hr.cells l _ a el ha
    exact fun pins σ s u I ru=>JK I ru (.inl ⟨rfl,ws,SqL.of hv⟩)
   ·cases e
  ·cases e
def Fv (x:V) (xs:List V):Nat:=xs.countP fun y=>CQ y x
theorem Ny {x:V}:∀{xs:List V} {us:List Value},Vals xs us→xs.all CF=true→us.countP (Ef x)=Fv x xs
 |_,_,.nil,_=>rfl
 |y::xs,u::us,.cons r t,f=>by
  rw [List.all_cons,BW] at f
  unfold Fv
  rw [List.countP_cons,List.countP_cons,JI r f.1,Ny t f.2]
  rfl
def Fw:D→D→HD→Out D:=fun x y h=>match A7 x h with
 |none=>.stuck
 |some ds=>match B4 y,AF (ds.map B4) with
  |some v,some vs=>.ok (.int (Fv v vs)) h
  |_,_=>.stuck
theorem Vj (x y:D) (h:HD):Cn (Fw x y h):=by
 unfold Fw
 repeat' split
 all_goals trivial
def Eu:D→D→HD→Out D:=fun x y h=>(BN x h).bind fun _ _=>Fw x y h
theorem Vk:Ds X "list.count" Eu:=by
 intro pins s σ H m h x y v yv u uy Q I hr rx ry r r2 q
 unfold Eu at q
 rcases (Ks (X:=X)).two x h with ec |ec
 ·rw [ec] at q
  simp only [Out.bind_ok] at q
  unfold BN at ec
  split at ec
  ·rename_i l
   split at ec
   ·rename_i ds el
    unfold Fw A7 at q
    simp only [el] at q
    split at q
    ·rename_i w ws e1 e2
     simp only [DV] at rx
     obtain ⟨a,rfl,ha⟩:=rx
     cases (show u=Value.ref a from r)
     obtain ⟨vs,hv,dv⟩:=hr.cells l _ a el ha
     obtain ⟨h1,h2⟩:=JW ry e1
     obtain ⟨h3,h4⟩:=JX dv e2
     subst h1 h3
     obtain ⟨z,its,n,rr,hl,e⟩:=I.lstM hv
     refine call_meets F.slot_list_count ⟨_,e,rfl⟩ F.entry_list_count (F.args_list_count_2 _ _) (PySem.SeqAt.list_countAt a its.toArray n none #[] uy (Ef yv)) ⟨e,fun w hw=>JJ r2 h2 rr h4 w (by simpa using hw),?_⟩
     refine ⟨.int _,H,I.tok _,⟨_,rfl⟩,?_⟩
     rw [show (its.toArray.toList.countP (Ef yv))=Fv yv vs by rw [←Ny rr h4]]
     exact AL hr q (by simp [DV])
    ·exact q.elim
   ·cases ec
  ·cases ec
 ·rw [ec] at q;exact q.elim
def H0 (x:V) (xs:List V):Option Nat:=xs.findIdx? fun y=>CQ y x
def Ew:D→D→HD→Out D:=fun x y h=>match x with
 |.loc l=>(match h[l]? with
  |some (.lst ds)=>(match B4 y,AF (ds.map B4) with
   |some v,some vs=>(match H0 v vs with
    |some j=>.ok (.int j) h
    |none=>.stuck)
   |_,_=>.stuck)
  |_=>.stuck)
 |_=>.stuck
theorem Vl (x y:D) (h:HD):Cn (Ew x y h):=by
 unfold Ew
 repeat' split
 all_goals trivial
theorem Vm (x y:D) (h:HD):Cn (Eu x y h):=by
 unfold Eu
 rcases (show BN x h=.ok x h∨BN x h=.stuck by
  unfold BN
  split
  ·split
   ·exact .inl rfl
   ·exact .inr rfl
  ·exact .inr rfl) with e |e
 ·rw [e];exact Vj x y h
 ·rw [e];trivial
theorem Nz {xs:List V} {us:List Value} (r:Vals xs us) {x:V} (f:xs.all CF=true) {j:Nat} (hj:j<us.length):Ef x us[j]=CQ (xs[j]'(by rw [r.length];exact hj)) x:=by
 have hx:j<xs.length:=by rw [r.length];exact hj
 obtain ⟨u,e,ru⟩:=r.get (Bb hx)
 rw [Bb hj] at e
 cases e
 exact JI ru (qaI.mp f _ (EW hx))
theorem Vn:Ds X "list.index" Ew:=by
 intro pins s σ H m h x y v yv u uy Q I hr rx ry r r2 q
 unfold Ew at q
 split at q
 ·rename_i l
  split at q
  ·rename_i ds el
   split at q
   ·rename_i w ws e1 e2
    split at q
    ·rename_i j ej
     simp only [DV] at rx
     obtain ⟨a,rfl,ha⟩:=rx
     cases (show u=Value.ref a from r)
     obtain ⟨vs,hv,dv⟩:=hr.cells l _ a el ha
     obtain ⟨h1,h2⟩:=JW ry e1
     obtain ⟨h3,h4⟩:=JX dv e2
     subst h1 h3
     obtain ⟨z,its,n,rr,hl,e⟩:=I.lstM hv
     unfold H0 at ej
     rw [List.findIdx?_eq_some_iff_getElem] at ej
     obtain ⟨hj,hit,hno⟩:=ej
     have hji:j<its.length:=by rw [←hl];exact hj
     have hsl:(j:Int)<2^63 - 1:=by have:=Ed;omega
     refine call_meets F.slot_list_index ⟨_,e,rfl⟩ F.entry_list_index (F.args_list_index_2 _ _) (PySem.SeqAt.list_indexAt a its.toArray n none #[] uy (Ef yv) j (by simpa using hji) hsl ?_ ?_) ⟨e,fun w hw=>JJ r2 h2 rr h4 w (by simpa using hw),?_⟩
     ·have:=Nz rr h4 (x:=yv) hji
      simp only [List.getElem_toArray]
      rw [this];exact hit
     ·intro k hk hkj
      have hk':k<its.length:=by simpa using hk
      have:=Nz rr h4 (x:=yv) hk'
      simp only [List.getElem_toArray]
      rw [this]
      simpa using hno k hkj
     ·exact ⟨.int _,H,I.tok _,⟨_,rfl⟩,AL hr q (by simp [DV])⟩
    ·exact q.elim
   ·exact q.elim
  ·exact q.elim
 ·exact q.elim
end
theorem Vo {pos:Pos} {l r:List Value} {cv:Value} (_:TriplesOk l) (e:codeAmong pos l=some cv):codeAmong pos (l++r)=some cv:=by
 rename_i ht
 clear ht
 fun_induction codeAmong pos l with
 |case1 line t col u c rest h=>rw [Cr,Cr,Cr,codeAmong,if_pos h];exact e
 |case2 line t col u c rest h ih=>rw [Cr,Cr,Cr,codeAmong,if_neg h];exact ih e
 |case3=>cases e
theorem NA {pos p2:Pos} {c cv:Value}:∀{l:List Value},TriplesOk l→codeAmong p2 (l++[rawInt pos.line,rawInt pos.col,c])=some cv→codeAmong p2 l=some cv∨cv=c
 |[],_,e=>by
  simp only [FZ,rawInt,codeAmong] at e
  split at e
  ·exact .inr (Option.some.inj e).symm
  ·cases e
 |.int i t::.int j u::c'::l,h,e=>by
  simp only [codeAmong,Cr] at e ⊢
  split at e
  ·rename_i z
   rw [if_pos z];exact .inl e
  ·rename_i z
   rw [if_neg z];exact NA (by simpa [TriplesOk] using h) e
theorem HR.tab {K:Frag} {m:List Addr} {h:HD} {H H':Hp} {P:Addr} (r:HR K m h H) (k:Kp H H') (s:∀b,b≠P→H b≠none→H' b=H b) (t:TabIs K H' P) (tt:TabIs K H P):HR K m h H':=by
 refine ⟨r.len,r.nd,fun l c a e q=>?_⟩
 have hm:a∈m:=D2 q
 have hn:H a≠none:=r.mem hm
 have:=r.cells l c a e q
 cases c with
 |lst ds=>
  obtain ⟨vs,e1,e2⟩:=this
  have ha:a≠P:=by
   rintro rfl
   obtain ⟨_,ps,z,_⟩:=tt
   rw [z] at e1;cases e1
  exact ⟨vs,by rw [s a ha hn];exact e1,e2.keep (Ay _) k⟩
 |tab=>
  by_cases ha:a=P
  ·subst ha;exact t
  ·exact TabIs.keep this k (s a ha hn)
 |dic fz kvs=>
  obtain ⟨es,e1,e2⟩:=this
  have ha:a≠P:=by
   rintro rfl
   obtain ⟨_,ps,z,_⟩:=tt
   cases fz with
   |true=>obtain ⟨o,q⟩:=e1;rw [z] at q;cases q
   |false=>exact absurd (z.symm.trans e1) (by intro w;cases w)
  exact ⟨es,e1.same (s a ha hn),e2.keep (Ay _) k⟩
structure LamX (X:Cx) (c P:Addr):Prop where
 code:X.env.code=.ref c
 tp:tabP X.K=some (c,P)
 hd:codeHdIn X.K c P=true
 qual:X.env.qual="law.<locals>."
 bm:∃bm o,X.mg "__builtins__"=some (.ref bm)∧bm≠builtinsNs∧X.base.get? bm=some o∧o.cls=.type "module"∧o.dict=some builtinsNs∧o.data=.plain
section
variable {X:Cx} {E:Value→Shared→Prop} {c P:Addr} {pins:List (Addr×Obj)} {σ:L2.St} {H:Hp} {s:Shared}
theorem LamX.builtins (L:LamX X c P) (I:Inv X pins σ H s) (t:TabIs X.K H P):s.heap.BuiltinsAt X.mg P:=by
 obtain ⟨bm,o,h1,h2,h3,h4,h5,h6⟩:=L.bm
 obtain ⟨e,n⟩:=I.bs bm o h3
 refine ⟨bm,o,h1,h2,fun z=>?_,fun z=>?_,e,h4,h5,h6⟩
 ·obtain ⟨og,es,ep,e1,e2,_⟩:=I.mod.glob
  rw [z,e1] at h3
  cases h3
  rw [e2] at h6;cases h6
 ·obtain ⟨_,ps,q,_⟩:=t
  rw [z,q] at n;cases n
abbrev AY:Str:="law.<locals>.<lambda>"
theorem Vp {params:Arguments} {body:Expr} {scope:Scope} {pos:Pos} {clos:List (Str×Addr)} {Q:Value→Shared→Prop} {A:Around} (L:LamX X c P) (I:Inv X pins σ H s) (t:TabIs X.K H P) (hdef:defaultsOf params X.env=([],[])) (hcl:closureFor scope X.env=pure clos)
 (k:∀(f' c':Addr) (ctv pm:Value) (h':Heap) (tk:Nat) (H':Hp),Inv X pins σ H' {s with heap:=h',toks:=tk}→Kp H H'→TabIs X.K H' P→(∀b,b≠P→H b≠none→H' b=H b)→(∀b o,b≠P→s.heap.get? b=some o→h'.get? b=some o)→s.heap.objs.size≤f'→
  H' f'=none→h'.get? f'=some (kla_obj "<lambda>" AY params body scope clos pm c' ctv)→(∃ps,H' P=some (.tbl ps)∧codeAmong pos ps.toList=some (.ref c'))→Q (.ref f') {s with heap:=h',toks:=tk}):
 wpAny (model X.prog X.w) A (eval (.Lambda params body scope pos) X.env) Q E s:=by
 have hB:=L.builtins I t
 have hg:s.heap.Ns mainGlobals X.mg:=I.mod.glob.keeps I.bk
 have hCd:CodeHd s.heap c P:=codeHd_of_K I.kIn L.hd
 obtain ⟨ht1,ps,hps,htr,hcs⟩:=id t
 have hP:s.heap.get? P=some (tabObj ps):=I.hok P _ hps
 have hgP:mainGlobals≠P:=fun z=>by
  obtain ⟨og,es,ep,e1,e2,_⟩:=I.mod.glob
  have:=(I.bs _ _ e1).2
  rw [z,hps] at this;cases this
 have hq:X.env.qual++"<lambda>"=AY:=by rw [L.qual];decide +kernel
 refine kla_eval hdef ?_
 rw [hq]
 cases hc:codeAmong pos ps.toList with
 |some cv=>
  obtain ⟨c',rfl,hx⟩:=hcs pos cv hc
  refine kla_makeFunctionHit (mg:=X.mg) hcl I.ok.glob hg L.code hCd hP htr hc hB fun ctv h' tk hk hsz=>?_
  have hk2:∀b o,s.heap.get? b=some o→(h'.push (kla_obj "<lambda>" AY params body scope clos ((X.mg "__name__").getD .none) c' ctv)).get? b=some o:=fun b o e=>AH _ (hk b o e)
  exact k _ c' ctv _ _ tk H (I.kept hk2) (.refl _) t (fun _ _ _=>rfl) (fun b o _ e=>hk2 b o e) hsz (I.hok.fresh hsz) (Bf _ rfl) ⟨ps,hps,hc⟩
 |none=>
  refine kla_makeFunction (mg:=X.mg) hcl I.ok.glob hg L.code hCd hP htr hc hgP hB fun c' ctv h' tk hx hge hlt hrec htb=>?_
  generalize ho:kla_obj "<lambda>" AY params body scope clos ((X.mg "__name__").getD .none) c' ctv=fo
  have hk2:∀b o,b≠P→s.heap.get? b=some o→(h'.push fo).get? b=some o:=fun b o hb e=>AH _ (hx b o hb e)
  have hPs:P<s.heap.objs.size:=AA hP
  have hc'P:c'≠P:=Fh (AN hPs hge)
  have hc'n:H c'=none:=I.hok.fresh hge
  generalize hps':ps++#[rawInt pos.line,rawInt pos.col,.ref c']=ps' at htb
  have tl:ps'.toList=ps.toList++[rawInt pos.line,rawInt pos.col,.ref c']:=by rw [←hps'];simp
  have hH:∀b,b≠P→H b≠none→Ai (Ai H P (.tbl ps')) c' (.ext (E5 AY c')) b=H b:=fun b hb hn=>by
   have:b≠c':=fun z=>hn (z ▸ hc'n)
   rw [Av this,Av hb]
  have hHP:Ai (Ai H P (.tbl ps')) c' (.ext (E5 AY c')) P=some (.tbl ps'):=by rw [Av (Ne.symm hc'P),BZ]
  have kp:Kp H (Ai (Ai H P (.tbl ps')) c' (.ext (E5 AY c'))):=fun b o e i=>by
   have:b≠P:=fun z=>by rw [z,hps] at e;cases e;cases i
   rw [hH b this (by rw [e];simp)];exact e
  have lt':∀b o,s.heap.get? b=some o→b≠c':=fun b o e=>Cg (AN (AA e) hge)
  have un:Un X.fs [] H (Ai (Ai H P (.tbl ps')) c' (.ext (E5 AY c'))) s.heap (h'.push fo):=by
   have neP:∀{b},H b=none→b≠P:=fun {b} n z=>by rw [z,hps] at n;cases n
   refine ⟨fun b o e n _ _=>hk2 b o (neP n) e,fun b o e n _ _=>⟨o.slots,hk2 b o (neP n) e⟩,fun b o e n _=>?_,fun b o e _=>?_,fun b xs e=>?_,fun b o u e=>?_,fun b qs e=>?_⟩
   ·rw [Av (lt' b o e),Av (neP n)];exact n
   ·by_cases hb:b=P
    ·subst hb;exact ⟨_,AH _ htb⟩
    ·exact ⟨o,hk2 b o hb e⟩
   ·rw [hH b (fun z=>by rw [z,hps] at e;cases e) (by rw [e];simp)];exact e
   ·rw [hH b (fun z=>by rw [z,hps] at e;cases e) (by rw [e];simp)];exact e
   ·by_cases hb:b=P
    ·subst hb
     rw [hps] at e;cases e
     exact ⟨_,by rw [hHP,←hps']⟩
    ·exact ⟨#[],by rw [hH b hb (by rw [e];simp),e];simp⟩
  have hok:HOk X.prog X.w (Ai (Ai H P (.tbl ps')) c' (.ext (E5 AY c'))) (h'.push fo):=by
   intro b o e
   by_cases hb:b=c'
   ·subst hb
    rw [BZ] at e
    cases e
    have r1:(h'.push fo).CodeRec (.ref b) AY:=hrec.keeps fun b o e=>AH _ e
    refine ⟨r1,?_,fun h1 h2 z1 z2=>?_⟩
    ·obtain ⟨c2,oc,vs,t2,e1,e2,_⟩:=r1
     cases e1
     exact ⟨oc,e2⟩
    ·obtain ⟨c2,oc,vs,t2,e1,e2,e3⟩:=z1
     cases e1
     exact ⟨_,oc,vs,t2,rfl,z2 _ e2,e3⟩
   ·by_cases hbP:b=P
    ·subst hbP
     rw [hHP] at e
     cases e
     exact AH _ htb
    ·rw [Av hb,Av hbP] at e
     refine (I.hok b o e).stay (fun d u hd q=>hk2 d u ?_ q) (fun d q=>?_) fun d xs q=>?_
     ·rcases hd with rfl |hd
      ·exact hbP
      ·exact fun z=>by rw [z,hps] at hd;cases hd
     ·rw [hH d (fun z=>by rw [z,hps] at q;cases q) (by rw [q];simp)];exact q
     ·rw [hH d (fun z=>by rw [z,hps] at q;cases q) (by rw [q];simp)];exact q
  have hsz:s.heap.objs.size≤h'.objs.size:=Ea (Nat.lt_of_le_of_lt hge hlt)
  refine k _ c' ctv ((X.mg "__name__").getD .none) _ tk _ (I.un un hok) kp ⟨ht1,ps',hHP,?_,fun p2 cv e=>?_⟩ hH hk2 hsz ?_ (by rw [←ho];exact Bf _ rfl) ⟨ps',hHP,?_⟩
  ·rw [tl];exact TriplesOk_snoc _ _ _ _ htr
  ·rw [tl] at e
   rcases NA htr e with z |z
   ·obtain ⟨c2,z1,z2⟩:=hcs p2 cv z
    exact ⟨c2,z1,kp _ _ z2 rfl⟩
   ·exact ⟨c',z,BZ⟩
  ·have n1:h'.objs.size≠c':=Fh hlt
   have n2:h'.objs.size≠P:=Fh (AN hPs hsz)
   rw [Av n1,Av n2];exact I.hok.fresh hsz
  ·rw [tl];exact codeAmong_snoc _ htr hc
end
def CY (P:Program) (w:World) (K:Frag) (mg:Str→Option Value) (base:Heap) (N:List Str) (scope:Scope) (a:Addr) (cd:Value) (cl:List (Str×Addr)) (A:Around) (outer:List Env) (s:Shared) (H:Hp) (E:XK):Cx where
 prog:=P
 w:=w
 K:=K
 mg:=mg
 base:=base
 A:=A.deeper (envX AY scope s.heap.objs.size a cd cl)
 N:=N
 s₀:=s
 H₀:=H
 env:=envX AY scope s.heap.objs.size a cd cl
 outer:=outer
 stack:=envX AY scope s.heap.objs.size a cd cl::outer
 ex:=[]
 calm:=true
 fn:=fun _=>false
 pn:=[]
 xe:=fun e s'=>wpAny (model P w) (A.deeper (envX AY scope s.heap.objs.size a cd cl)) (leaving (envX AY scope s.heap.objs.size a cd cl) e) (fun _ s''=>AK P w K outer H s E e s'') (fun e' s''=>AK P w K outer H s E e' s'') s'
theorem Vq {P:Program} {w:World} {K:Frag} {mg:Str→Option Value} {base:Heap} {N:List Str} {scope:Scope} {a:Addr} {cd:Value} {cl:List (Str×Addr)} {A:Around} {outer:List Env} {s:Shared} {H:Hp} {E:XK}:
 Lv (CY P w K mg base N scope a cd cl A outer s H E) E:=⟨fun _ _ h=>h,rfl,rfl,rfl⟩
theorem Vr {P:Program} {w:World} {K:Frag} {mg:Str→Option Value} {base:Heap} {N:List Str} {scope:Scope} {a:Addr} {cd:Value} {cl:List (Str×Addr)} {A:Around} {outer:List Env} {s:Shared} {H:Hp} {E:XK}:
 Ee (AK P w K) (CY P w K mg base N scope a cd cl A outer s H E) E:=Kj Vq
structure Gu (h:Heap) (H:Hp) (outer:List Env) (N:List Str) (scope:Scope) (cl:List (Str×Addr)) (vs:List V):Prop where
 len:vs.length=N.length
 inj:∀x y c,cl.lookup x=some c→cl.lookup y=some c→x=y
 has:∀x,scope.names.lookup x=some .free→∃c,cl.lookup x=some c
 cell:∀x c,cl.lookup x=some c→(∃v,h.IsCell c v)∧H c=none∧c∉frs outer
 val:∀(i:Nat) (x:Str) (v:V),N[i]?=some x→vs[i]?=some v→scope.names.lookup x=some .free∧∃c u,cl.lookup x=some c∧h.IsCell c (some u)∧RelV v u
structure LamSc (scope:Scope):Prop where
 kind:scope.kind=.function
 co:scope.isCoroutine=false
 gen:scope.isGenerator=false
 only:(scope.names.all fun y=>y.2 != .cell)=true
theorem LamSc.nocell {scope:Scope} (S:LamSc scope):∀x∈scope.names,x.2≠.cell:=fun x hx e=>by
 have:=qaI.mp S.only x hx
 rw [e] at this
 simp at this
section
variable {P:Program} {w:World} {K:Frag} {mg:Str→Option Value} {base:Heap} {N:List Str} {scope:Scope} {a c':Addr} {pm ctv:Value} {params:Arguments} {body:Expr} {cl:List (Str×Addr)} {A:Around} {outer:List Env} {s:Shared} {H:Hp} {E:XK} {vs:List V}
theorem Vs {cd:Value} {h1:Heap} {t1:Nat} (S:LamSc scope) (hd:A.handled=none) (e0:DK P w K mg base A outer s H) (C:Gu s.heap H outer N scope cl vs) (ns:h1.Ns s.heap.objs.size (fun _=>none)) (hk:∀b o,s.heap.get? b=some o→h1.get? b=some o):
 Inv (CY P w K mg base N scope a cd cl A outer s H E) [] (vs.map some) H {s with heap:=h1,toks:=t1}:=by
 have noA:∀b:Addr,b∉(CY P w K mg base N scope a cd cl A outer s H E).ex:=fun b z=>absurd (show b∈([]:List Addr) from z) (by simp)
 refine ⟨⟨e0.mod,S.kind,rfl,rfl,Ap _,C.inj,fun x hx=>?_,fun x c hf=>(by cases hf),fun _=>hd,Around.frames_deeper e0.frames,.inr ⟨rfl,rfl⟩,fun b z=>absurd z (noA b),e0.bs,e0.bsz,fun b _ _=>noA b,fun b z=>absurd z (noA b),e0.funs,e0.frf⟩,
  rfl,e0.bare,Un.kept hk,⟨_,ns,fun i x v e1 e2 _=>?_⟩,fun x c e=>?_,e0.hok.fresh (Ap _),fun x c e=>(C.cell x c e).2.1,fun p hp=>absurd (show p∈([]:List (Addr×Obj)) from hp) (by simp),e0.hok.kept hk,?_⟩
 ·have hx':scope.names.lookup x=some .cell∨scope.names.lookup x=some .free:=hx
  rcases hx' with z |z
  ·exact absurd rfl (S.nocell _ (mem_of_lookup z))
  ·exact C.has x z
 ·rw [BP] at e2
  cases ev:vs[i]? with
  |none=>rw [ev] at e2;cases e2
  |some v'=>
   rw [ev] at e2
   cases e2
   obtain ⟨hf,c,u,e3,e4,r⟩:=C.val i x v e1 ev
   exact ⟨u,r,.inr ⟨.inr hf,c,e3,e4.keeps hk⟩⟩
 ·obtain ⟨⟨v,q⟩,_⟩:=C.cell x c e
  exact ⟨v,q.keeps hk⟩
 ·show (vs.map some).length=N.length
  rw [BX];exact C.len
theorem Vt {k:Nat} {f:ME} {Q:VK} (S:LamSc scope) (hr:Room (k+1) A) (e0:DK P w K mg base A outer s H) (C:Gu s.heap H outer N scope cl vs) (ho:s.heap.get? a=some (kla_obj "<lambda>" AY params body scope cl pm c' ctv)) (hcd:s.heap.CodeRec (.ref c') AY)
 (hbind:bindArgs (kla_fn "<lambda>" AY params body scope cl pm (.ref c') ctv) ⟨[],[]⟩=pure [])
 (hb:Room k (A.deeper (envX AY scope s.heap.objs.size a (.ref c') cl))→Ev (CY P w K mg base N scope a (.ref c') cl A outer s H E) E body f)
 (q:∃m ds h,HR K m h H∧DVs K m H ds vs∧Post K (rD K) m H E Q (f (ds.map some) h)):codeAny (model P w) A (.call (.ref a) ⟨[],[]⟩) (CR (AK P w K) outer P w H s Q E) s:=by
 refine kla_callFunE hr.depth ho rfl S.co S.gen rfl hcd ?_
 rw [hbind]
 have lim:s.heap.NoLimit:=e0.mod.nolimit.keeps fun b o e=>(e0.bs b o e).1
 refine wpAny_pure (wpAny_newFunctionEnv S.nocell (fun y hy=>by cases hy) (fun h₁ hns hsb=>⟨lim.fresh _ hsb,?_⟩) S.kind)
 have hk₁:∀b o,s.heap.get? b=some o→h₁.get? b=some o:=fun b o e=>hsb.extBut b o (BL (AA e)) (AH _ e)
 have I:Inv (CY P w K mg base N scope a (.ref c') cl A outer s H E) [] (vs.map some) H {s with heap:=h₁,toks:=s.toks+0}:=Vs S hr.hd e0 C hns hk₁
 obtain ⟨m,ds,h,hr1,r,p⟩:=q
 have er:ER K m H (ds.map some) (vs.map some):=by
  refine ⟨by simp [r.len],fun i d e=>?_⟩
  rw [BP] at e
  cases ed:ds[i]? with
  |none=>rw [ed] at e;cases e
  |some d'=>
   rw [ed] at e
   cases e
   obtain ⟨v,e1,r1⟩:=r.get ed
   exact ⟨v,by rw [BP,e1];rfl,r1⟩
 refine kla_codeExpr (wpAny_mono (hb (hr.deeper _) [] _ _ H Q I ⟨m,ds.map some,h,hr1,er,p⟩) (fun u s' hs=>?_) fun e s' hs=>hs)
 obtain ⟨v,H',J,rv,qv⟩:=hs
 exact ⟨v,H',J.os,J.bare,J.base,J.hok,rv,qv⟩
end
structure RoomM (k:Nat) (A:Around):Prop where
 dp:A.depth+3*k+5<recursionLimit
 un:A.units+16*k+200<cLine
 gd:A.guards=some []
theorem RoomM.deeper {k:Nat} {A:Around} (r:RoomM (k+1) A) (env:Env):RoomM k (A.deeper env):=
 ⟨by have:=r.dp;show A.depth+1+3*k+5<_;omega,by have:=r.un;show A.units+3+16*k+200<_;omega,r.gd⟩
theorem RoomM.units {k:Nat} {A:Around} (r:RoomM k A):A.units+64<cLine:=by have:=r.un;omega
theorem RoomM.mono {j k:Nat} {A:Around} (r:RoomM k A) (h:j≤k):RoomM j A:=⟨by have:=r.dp;omega,by have:=r.un;omega,r.gd⟩
theorem RoomM.of {k:Nat} {A:Around} (r:Room k A) (e:Option Value):RoomM k (A.mark e):=⟨r.dp,r.un,r.gd⟩
def Fx (P:Program) (w:World) (K:Frag) (mg:Str→Option Value) (base:Heap) (N:List Str) (qual:Str) (scope:Scope) (f:Addr) (cd:Value) (A:Around) (outer:List Env) (s:Shared) (H:Hp):Cx:=
 {Bp L5 P w K mg base N qual scope f cd A outer s H E0 with calm:=false,xe:=fun _ _=>False}
theorem Vu {P:Program} {w:World} {K:Frag} {mg:Str→Option Value} {base:Heap} {N ps:List Str} {qual:Str} {scope:Scope} {f:Addr} {cd:Value} {A:Around} {outer:List Env} {s s1:Shared} {H:Hp} {us:List Value} {vs:List V}
 (S:CD N ps scope) (e0:DK P w K mg base A outer s H) (hl:vs.length=ps.length) (r:Vals vs us)
 (x:InCallC s s.heap.objs.size (bindL (envOfC qual scope s.heap.objs.size f cd).kindOf (ps.zip us) fun _=>none) (cellsFrom (s.heap.objs.size+1) scope.names []) (bindC (envOfC qual scope s.heap.objs.size f cd).kindOf (ps.zip us) fun _=>none) s1):
 Inv (Fx P w K mg base N qual scope f cd A outer s H) [] (start N vs) H s1:=by
 have hpl:ps.length≤N.length:=by have:=congrArg List.length S.pre;rw [FW] at this;omega
 obtain ⟨h1,tk,rfl,hk⟩:=x.done
 have noA:∀b:Addr,b∉(Fx P w K mg base N qual scope f cd A outer s H).ex:=fun b z=>absurd (show b∈([]:List Addr) from z) (by simp)
 refine ⟨⟨e0.mod,S.kind,rfl,rfl,Ap _,fun y z c h1 h2=>?_,fun y hy=>?_,fun y c _ h=>?_,fun z=>(nomatch z),Around.frames_deeper e0.frames,.inr ⟨rfl,rfl⟩,fun b z=>absurd z (noA b),e0.bs,e0.bsz,fun b _ _=>noA b,fun b z=>absurd z (noA b),e0.funs,e0.frf⟩,
  rfl,e0.bare,Un.kept hk,⟨_,x.toInCall.ns,fun i y v h1 h2 h3=>?_⟩,fun y c h=>⟨_,x.cell y c h⟩,e0.hok.fresh (Ap _),fun y c h=>?_,fun p hp=>absurd (show p∈([]:List (Addr×Obj)) from hp) (by simp),e0.hok.kept hk,?_⟩
 ·exact name_of_addr x.apart (PySem.mem_of_lookup h1) (PySem.mem_of_lookup h2)
 ·have hy:scope.names.lookup y=some .cell∨scope.names.lookup y=some .free:=hy
  rcases hy with hy |hy
  ·exact He hy
  ·exact absurd rfl (S.nofree _ (PySem.mem_of_lookup hy))
 ·exact Ea (x.above y c (PySem.mem_of_lookup h))
 ·have hi:i<vs.length:=by
   unfold L2.start at h2
   by_cases hi:i<vs.length
   ·exact hi
   ·rw [FU (by simpa using hi)] at h2
    rw [Jk] at h2
    split at h2<;>cases h2
  have ha:vs[i]?=some v:=by
   unfold L2.start at h2
   rw [Di (by simpa using hi),BP] at h2
   cases e:vs[i]? with
   |none=>rw [e] at h2;cases h2
   |some a=>rw [e] at h2;cases h2;rfl
  obtain ⟨u,hu,rv⟩:=r.get ha
  have hp:ps[i]?=some y:=by
   rw [←S.pre,List.getElem?_take_of_lt (by omega)];exact h1
  have ndP:ps.Nodup:=by rw [←S.pre];exact S.nd.sublist (List.take_sublist _ _)
  refine ⟨u,rv,?_⟩
  rcases S.par y (D2 hp) with k |k
  ·exact .inl ⟨k,JC ndP hp hu k⟩
  ·obtain ⟨c,e⟩:=He (n:=s.heap.objs.size+1) k
   refine .inr ⟨.inl k,c,e,?_⟩
   have q:=x.cell y c e
   rw [JD ndP hp hu (by show scope.names.lookup y≠_;rw [k];decide)] at q
   exact q
 ·exact e0.hok.fresh (Ea (x.above y c (PySem.mem_of_lookup h)))
 ·unfold L2.start
  show _=N.length
  rw [DH,BX,List.length_replicate]
  omega
structure NB (P:Program) (w:World) (K:Frag) (mg:Str→Option Value) (base:Heap) (k:Nat) (f:Addr) (fd:FuncData) (ps:List Str) (F:List D→HD→Out D):Prop where
 run:∀(A:Around) (outer:List Env) (s:Shared) (H:Hp) (args:Args) (us:List Value) (vs:List V) (Q:VK),RoomM k A→DK P w K mg base A outer s H→BindsTo s fd args (ps.zip us)→Vals vs us→Hs K F vs H Q E0→
  codeAny (model P w) A (.call (.ref f) args) (CR L5 outer P w H s Q E0) s
theorem Vv {P:Program} {w:World} {K:Frag} {mg:Str→Option Value} {base:Heap} {x qual:Str} {st:Stmt} {f:Addr} {fd:FuncData} {N ps:List Str} {k:Nat} {F:List D→HD→Out D} {g:MS} (Fn:Fun K x qual st f fd) (S:CD N ps (defScope st)) (ar:Ar ps.length F)
 (hg:∀ds h,ds.length=ps.length→F ds h=Ax N.length g ds h)
 (hbody:∀(cdv:Value) (A:Around) (outer:List Env) (s:Shared) (H:Hp),RoomM k (A.deeper (envOfC qual (defScope st) s.heap.objs.size f cdv))→BQ (Fx P w K mg base N qual (defScope st) f cdv A outer s H) E0 (defBody st) g):NB P w K mg base (k+1) f fd ps F:=by
 obtain ⟨oc,od,kV,doc,pm,an,cdv,ct,osl,rfl,lk,hcd⟩:=Fn.ex
 refine ⟨fun A outer s H args us vs Q hr e0 hb r hsp=>?_⟩
 have hl:vs.length=ps.length:=ar.len hsp
 have KX:K.In s.heap:=e0.mod.kin.keeps fun b o e=>(e0.bs b o e).1
 have lim:s.heap.NoLimit:=e0.mod.nolimit.keeps fun b o e=>(e0.bs b o e).1
 have hkind:∀y∈ps.zip us,(defScope st).names.lookup y.1=some .local∨((defScope st).names.lookup y.1=some .cell∧((cellsFrom (s.heap.objs.size+1) (defScope st).names []).lookup y.1).isSome=true):=fun z1_ hy=>by
  obtain ⟨n,v⟩:=z1_
  rcases S.par n (GV hy).1 with q |q
  ·exact .inl q
  ·exact .inr ⟨q,PySem.W.cellsFrom_some _ _ _ (.inl q)⟩
 refine codeAny_call_function (by have:=hr.dp;omega) (KX _ _ lk) rfl S.co S.gen rfl (PySem.W.codeRec_of KX hcd) (hb _ _ _ _ ?_)
 refine wpAny_newFunctionEnv_cells S.kind hkind fun env he s1 x=>?_
 subst he
 refine ⟨lim.keeps x.toInCall.keep,codeAny_func ?_⟩
 have I:Inv (Fx P w K mg base N qual (defScope st) f cdv A outer s H) [] (start N vs) H s1:=Vu S e0 hl r x
 have Ao:∀{σ':L2.St} {H':Hp} {v:V} {u:Value} {s':Shared},Inv (Fx P w K mg base N qual (defScope st) f cdv A outer s H) [] σ' H' s'→RelV v u→Q v H'→CE outer P w H s Q u s':=
  fun {σ' H' v u s'} J rv q=>⟨v,H',J.os,J.bare,J.base,J.hok,rv,q⟩
 have post:E8 K E0 g {nx:=fun _ H'=>Q .non H',rt:=Q} (start N vs) H:=by
  obtain ⟨m,ds,hd,hr1,r,p⟩:=hsp
  have hld:ds.length=ps.length:=by rw [r.len];exact hl
  refine ⟨m,ds.map some++List.replicate (N.length - ds.length) none,hd,hr1,ER.start r,?_⟩
  rw [hg ds hd hld] at p
  unfold Ax at p
  cases o:g (ds.map some++List.replicate (N.length - ds.length) none) hd with
  |stuck=>rw [o] at p;exact p
  |err C fs h1=>rw [o] at p;exact p
  |ok a h1=>
   rw [o] at p
   obtain ⟨fl,ρ1⟩:=a
   intro m1 H1 p1 k1 hr1
   cases fl with
   |nx=>exact fun σ er=>p .non m1 H1 p1 k1 hr1 (by simp [rD,DV])
   |bk=>exact False.elim p
   |ct=>exact False.elim p
   |rt d=>exact fun v rv=>p v m1 H1 p1 k1 hr1 rv
 refine wpAny_mono (hbody cdv A outer s H (hr.deeper _) [] s1 (start N vs) H _ I post) (fun fl s' hs=>?_) fun e s' hs=>hs.elim
 cases fl with
 |ret u=>
  obtain ⟨v,σ',H',J,rv,q⟩:=hs
  exact Ao J rv q
 |next=>
  obtain ⟨σ',H',J,q⟩:=hs
  exact Ao (v:=V.non) (u:=Value.none) J rfl q
 |brk=>
  obtain ⟨_,_,_,q⟩:=hs
  exact False.elim q
 |cont=>
  obtain ⟨_,_,_,q⟩:=hs
  exact False.elim q
structure CaM (P:Program) (w:World) (K:Frag) (mg:Str→Option Value) (base:Heap) (x:Str) (k:Nat) (F:List D→HD→Out D):Prop where
 ex:∃(f:Addr) (fd:FuncData) (ps:List Str),NB P w K mg base k f fd ps F∧Binds K fd ps []∧mg x=some (.ref f)∧PySem.W.keepIn K (.ref f)=true∧Ar ps.length F
section
variable {X:Cx} {E:XK}
theorem Vw {k k':Nat} {F:List D→HD→Out D} {fa:MA} {x:Str} {p pos:Pos} {e:Expr} {es:List Expr} (C:CaM X.prog X.w X.K X.mg X.base x k F) (hr:RoomM k' X.A) (ha:Cf X E0 (e::es) fa) (hk:k≤k':=by decide) (hg:Gl X x:=by rfl)
 (hdb:(x==("__debug__":Str))=false:=by decide) (he:starEach (e::es) X.env=(false,eval e X.env)::starEach es X.env:=by rfl) (hpl:(backTo pos (starEach es X.env)).any (·.1)=false:=by rfl):
 Ev X E0 (.Call (.Name x p) (e::es) [] pos) (Ad F fa):=by
 obtain ⟨f,fd,ps,G,hb,hm,hkp,ar⟩:=C.ex
 rintro pins s σ H Q I ⟨m,ρ,hd,hr1,er,pp⟩
 refine wpAny_Call_Name_kw (EZ I hg hm ?_ hdb)
 have post:L8 X.K E0 fa σ H (fun vs H1=>Hs X.K F vs H1 Q E0):=⟨m,ρ,hd,hr1,er,Post.bind pp fun xs h1 vs m1 H1 e1 p1 k1 hr1 r1 q1=>⟨m1,xs,h1,hr1,r1,q1⟩⟩
 refine PySem.W.callWith_K (h₀:=X.base) I.ok.mod.kin hkp (Ak (ha pos pins s σ H _ I post) ?_) he hpl
 rintro us s1 ⟨vs,H1,I1,r,q⟩
 refine ⟨I1.kIn,?_⟩
 have hl:us.length=ps.length:=by rw [←r.length];exact ar.len q
 have hb':=hb s1 us I1.kIn (by rw [EX];exact hl)
 rw [EX] at hb'
 refine wpAny_call (codeAny_mono (G.run X.A X.stack s1 H1 ⟨us,[]⟩ us vs Q (hr.mono hk) I1.env0 hb' r q) fun r s' hq=>?_)
 cases r with
 |error e=>exact False.elim hq
 |ok fl=>
  cases fl with
  |ret u=>exact I1.after hq
  |next=>exact False.elim hq
  |brk=>exact False.elim hq
  |cont=>exact False.elim hq
end
theorem NC {P:Program} {w:World} {fs:List Addr} {H H':Hp} {h0 h h':Heap} {a T:Addr} {C a0:Value} (B:Un fs [] H H' h0 h) (hok:HOk P w H' h) (na:h0.get? a=none) (nT:h0.get? T=none) (ha:H' a=none) (hT:H' T=none)
 (frNone:∀b∈fs,H' b=none) (noFields:∀b∈fs,∃o,h.get? b=some o∧∀vs,o.data≠.fields vs) (stay:(blank (fun b=>b=a∨b=T∨b∈fs) h).StaysIn h') (ups:∀b o,h.get? b=some o→(∀vs,o.data≠.fields vs)→∃sl,h'.get? b=some {o with slots:=sl})
 (tr:h'.TracedW (blank (fun b=>b=a∨b=T∨b∈fs) h) a C a0) {da:Option Addr} {oa:Obj} (ea:h.get? a=some oa) (ed:oa.dict=da) (dd:Dicts h h'):Un fs [] H H' h0 h'∧HOk P w H' h'∧HU h0 h' H' a C da:=by
 obtain ⟨oe,vs,T2,oT,ts,e1,e2,e3,e4,e5,e6,e7,e8,e9⟩:=tr
 have e11:oe.dict=da:=by
  obtain ⟨o',q1,q2⟩:=dd a oa ea
  rw [e1] at q1
  cases q1
  exact q2.trans ed
 have keepOf:∀b o,¬(b=a∨b=T∨b∈fs)→h.get? b=some o→h'.get? b=some o:=fun b o hb e=>stay b o (by rw [Ep hb];exact e)
 have old:∀b o,h0.get? b=some o→b≠a∧b≠T:=fun b o e=>⟨fun z=>(by rw [z,na] at e;cases e),fun z=>(by rw [z,nT] at e;cases e)⟩
 have any:∀b o,h0.get? b=some o→h.get? b≠none→∃o',h'.get? b=some o':=fun b o e hn=>by
  cases e':h.get? b with
  |none=>exact absurd e' hn
  |some o'=>
   by_cases hb:b∈fs
   ·obtain ⟨o2,h2,d2⟩:=noFields b hb
    obtain ⟨sl,h3⟩:=ups b o2 h2 d2
    exact ⟨_,h3⟩
   ·exact ⟨o',keepOf b o' (fun z=>by rcases z with z |z |z;exact (old b o e).1 z;exact (old b o e).2 z;exact hb z) e'⟩
 refine ⟨⟨fun b o e n hb hx=>?_,fun b o e n hb hx=>?_,B.free,fun b o e hx=>?_,B.tups,B.frzs,B.tbls⟩,fun b o e=>?_,na,ha,oe,vs,a0,T2,oT,ts,e1,e2,e3,e4,?_,?_,e6,e7,e8,e9,e11⟩
 ·exact keepOf b o (fun z=>by rcases z with z |z |z;exact (old b o e).1 z;exact (old b o e).2 z;exact hb z) (B.keep b o e n hb hx)
 ·obtain ⟨sl,h1⟩:=B.slot b o e n hb hx
  obtain ⟨o2,h2,d2⟩:=noFields b hb
  rw [h1] at h2
  cases h2
  obtain ⟨sl2,h3⟩:=ups b _ h1 d2
  exact ⟨sl2,h3⟩
 ·obtain ⟨o',h1⟩:=B.there b o e hx
  exact any b o e (by rw [h1];simp)
 ·refine (hok b o e).stay (fun c u hc q=>keepOf c u (fun z=>?_) q) (fun _ q=>q) fun _ _ q=>q
  have hc':H' c≠none:=by
   rcases hc with rfl |hc
   ·rw [e];simp
   ·rw [hc];simp
  rcases z with z |z |z
  ·exact hc' (z ▸ ha)
  ·exact hc' (z ▸ hT)
  ·exact hc' (frNone c z)
 ·cases q:h0.get? T2 with
  |none=>rfl
  |some o=>
   exfalso
   obtain ⟨o',h1⟩:=B.there T2 o q (by simp)
   by_cases hb:T2∈fs
   ·obtain ⟨o2,h2,d2⟩:=noFields T2 hb
    obtain ⟨sl,h3⟩:=ups T2 o2 h2 d2
    rw [h3] at e7
    cases e7
    exact d2 _ e8
   ·rw [Ep (fun z=>by rcases z with z |z |z;exact (old T2 o q).1 z;exact (old T2 o q).2 z;exact hb z),h1] at e5
    cases e5
 ·cases q:H' T2 with
  |none=>rfl
  |some o=>
   exfalso
   by_cases hb:T2=a∨T2=T∨T2∈fs
   ·rcases hb with z |z |z
    ·rw [z,ha] at q;cases q
    ·rw [z,hT] at q;cases q
    ·rw [frNone T2 z] at q;cases q
   ·rw [Ep hb] at e5
    obtain ⟨ob,eb⟩:=Ki (hok T2 o q)
    rw [eb] at e5
    cases e5
theorem Vx {M:Model} {A:Around} {E:Value→Shared→Prop} {s:Shared} {base:Heap} {env:Env} {outer:List Env} {L e:Addr} {C a0:Value} {Q:Unit→Shared→Prop} (fr:A.frames=some (env::outer)) (lo:env.frame=some L) (fl:Heap.FlyingW base (env::outer) e C a0 s.heap)
 (q:∀h',Heap.HeldW base (env::outer) e C a0 L h'→s.heap.UpToSlots h'→Dicts s.heap h'→Q () {s with heap:=h'}):wpAny M A (noteFrame (.ref e) env) Q E s:=by
 refine wpAny_mono (Gr M8 (wpAny_looks_onW (M:=M) (A:=A) (E:=fun _ _=>False) (Q:=fun _ s'=>∃h',s'={s with heap:=h'}∧Heap.HeldW base (env::outer) e C a0 L h'∧s.heap.UpToSlots h') fr lo fl fun h' z1 z2=>⟨h',rfl,z1,z2⟩)) (fun _ s' z=>?_) fun _ _ z=>z.1.elim
 obtain ⟨⟨h',rfl,z1,z2⟩,D⟩:=z
 exact q h' z1 z2 D
theorem Vy {M:Model} {A:Around} {E:Value→Shared→Prop} {s:Shared} {base:Heap} {l:List Env} {e L:Addr} {C a0:Value} {Q:Unit→Shared→Prop} (held:Heap.HeldW base l e C a0 L s.heap)
 (q:∀h',Heap.FlyingW base l e C a0 h'→s.heap.UpToSlots h'→Dicts s.heap h'→Q () {s with heap:=h'}):wpAny M A (setFlight (.ref e) none) Q E s:=by
 refine wpAny_mono (Gr Kg (wpAny_landsW (M:=M) (A:=A) (E:=fun _ _=>False) (Q:=fun _ s'=>∃h',s'={s with heap:=h'}∧Heap.FlyingW base l e C a0 h'∧s.heap.UpToSlots h') held fun h' z1 z2=>⟨h',rfl,z1,z2⟩)) (fun _ s' z=>?_) fun _ _ z=>z.1.elim
 obtain ⟨⟨h',rfl,z1,z2⟩,D⟩:=z
 exact q h' z1 z2 D
theorem Vz {M:Model} {A:Around} {E:Value→Shared→Prop} {s:Shared} {base:Heap} {l:List Env} {e:Addr} {C a0:Value} {Q:Unit→Shared→Prop} (held:Heap.FlyingW base l e C a0 s.heap)
 (q:∀h',Heap.FlyingW base l e C a0 h'→s.heap.UpToSlots h'→Dicts s.heap h'→Q () {s with heap:=h'}):wpAny M A (setFlight (.ref e) none) Q E s:=by
 refine wpAny_mono (Gr Kg (lands_againW (M:=M) (A:=A) (E:=fun _ _=>False) (Q:=fun _ s'=>∃h',s'={s with heap:=h'}∧Heap.FlyingW base l e C a0 h'∧s.heap.UpToSlots h') held fun h' z1 z2=>⟨h',rfl,z1,z2⟩)) (fun _ s' z=>?_) fun _ _ z=>z.1.elim
 obtain ⟨⟨h',rfl,z1,z2⟩,D⟩:=z
 exact q h' z1 z2 D
section
variable {X:Cx} {pins:List (Addr×Obj)} {σ:L2.St} {H:Hp} {s:Shared}
theorem Inv.track {a:Addr} {o:HO} (I:Inv X pins σ H s) (new:X.s₀.heap.get? a=none) (no:H a=none) (hL:a≠X.env.locals) (hc:∀x c,X.env.cells.lookup x=some c→c≠a) (hp:∀p∈X.pn++pins,p.1≠a) (ok:ObjOk X.prog X.w (Ai H a o) s.heap a o):
 Inv X pins σ (Ai H a o) s:=by
 have ne:∀b u,H b=some u→b≠a:=fun b u e=>CC e no
 refine ⟨I.ok,I.os,I.bare,⟨I.base.keep,I.base.slot,fun b ob e n hx=>?_,I.base.there,fun b xs e=>?_,fun b ob u e=>?_,fun b ps e=>?_⟩,I.loc,I.cell,?_,fun x c e=>?_,fun p hp'=>?_,fun b u e=>?_,I.len⟩
 ·rw [Av (fun z=>by rw [z,new] at e;cases e)];exact I.base.free b ob e n hx
 ·have:=I.base.tups b xs e
  rw [Av (ne _ _ this)];exact this
 ·have:=I.base.frzs b ob u e
  rw [Av (ne _ _ this)];exact this
 ·obtain ⟨more,this⟩:=I.base.tbls b ps e
  exact ⟨more,by rw [Av (ne _ _ this)];exact this⟩
 ·rw [Av (Ne.symm hL)];exact I.free
 ·rw [Av (hc x c e)];exact I.freeC x c e
 ·obtain ⟨a1,a2,a3⟩:=I.pin p hp'
  exact ⟨a1,by rw [Av (hp p hp')];exact a2,a3⟩
 ·by_cases hb:b=a
  ·subst hb
   rw [BZ] at e
   cases e
   exact ok
  ·rw [Av hb] at e
   exact (I.hok b u e).stay (fun _ _ _ q=>q) (fun c q=>by rw [Av (ne _ _ q)];exact q) fun c xs q=>by rw [Av (ne _ _ q)];exact q
theorem Inv.locals {σ':L2.St} {h':Heap} {m':Str→Option Value} {t':Nat} (I:Inv X pins σ H s) (hn':h'.Ns X.env.locals m') (hs:Heap.SameBut X.env.locals s.heap h')
 (hl:∀(i:Nat) (x:Str) (v:V),X.N[i]?=some x→σ'[i]?=some (some v)→G0 X.env.scope x→∃u,RelV v u∧Lw X.env h' m' x u) (len:σ'.length=σ.length):Inv X pins σ' H {s with heap:=h',toks:=t'}:=by
 obtain ⟨m,hn,_⟩:=id I.loc
 obtain ⟨oL,_,_,hoL,_⟩:=id hn
 have neL:∀b o,X.s₀.heap.get? b=some o→b≠X.env.locals:=fun b o e=>BL (AN (AA e) I.ok.above)
 refine ⟨I.ok,I.os,I.bare,⟨fun b o e n hb hx=>?_,fun b o e n hb hx=>?_,I.base.free,fun b o e hx=>?_,I.base.tups,I.base.frzs,I.base.tbls⟩,⟨_,hn',hl⟩,fun y c e=>?_,I.free,I.freeC,fun p hp=>?_,fun b ob e=>?_,len.trans I.len⟩
 ·exact (hs.2 b (neL b o e)).trans (I.base.keep b o e n hb hx)
 ·obtain ⟨sl,e1⟩:=I.base.slot b o e n hb hx
  exact ⟨sl,(hs.2 b (neL b o e)).trans e1⟩
 ·obtain ⟨o',e1⟩:=I.base.there b o e hx
  exact ⟨o',(hs.2 b (neL b o e)).trans e1⟩
 ·obtain ⟨v,z⟩:=I.cell y c e
  exact ⟨v,z.sameBut hs (I.cne y c e)⟩
 ·obtain ⟨a1,a2,a3,a4⟩:=I.pin p hp
  exact ⟨(hs.2 _ a3).trans a1,a2,a3,a4⟩
 ·refine (I.hok b ob e).stay (fun c w' hc q=>(hs.2 c ?_).trans q) (fun _ q=>q) fun _ _ q=>q
  rintro rfl
  have hfree:=I.free
  rcases hc with rfl |hc
  ·rw [hfree] at e;cases e
  ·rw [hfree] at hc;cases hc
theorem VA {M:Model} {A:Around} {E:Value→Shared→Prop} {n:Str} {pos:Pos} {i:Nat} {Q:Unit→Shared→Prop} (I:Inv X pins σ H s) (hN:X.N.Nodup) (hi:X.N[i]?=some n) (hl:X.env.kindOf n=some .local)
 (h:∀s',Inv X pins (σ.set i none) H s'→Q () s'):wpAny M A (do bindName X.env n .none;unbindBehindTheSuite X.env n pos) Q E s:=by
 have hp:(X.env.scope.kind==.class||(X.env.scope.kind==.module&&X.env.locals != X.env.globals))=false:=by rw [I.ok.kind];rfl
 refine wpAny_bind (wpAny_bindName (G1 (v:=.non) I hN hi (.inl hl) rfl (fun s1 I1 _=>?_) (.inr hl)))
 unfold unbindBehindTheSuite
 refine wpAny_onRaise ?_
 unfold unbindName
 refine wpAny_bind (wpAny_point (wpAny_bind ?_))
 unfold deleteName
 simp only [hl,hp]
 rw [if_neg (by decide)]
 obtain ⟨m1,hn1,hl1⟩:=I1.loc
 have hin:(m1 n).isSome=true:=by
  have hiσ:i < σ.length:=by rw [I.len];exact (qa4.mp hi).1
  obtain ⟨u,_,lk⟩:=hl1 i n .non hi (by rw [BV hiσ]) (.inl hl)
  rcases lk with ⟨_,z⟩ |⟨z,_⟩
  ·rw [z];rfl
  ·rcases z with z |z<;>(rw [hl] at z;cases z)
 refine wpAny_bind (wpAny_nsDel_keeps hn1 fun h2 v hn2 hs2=>?_)
 simp only [hin,if_true,Bool.not_true,Cq,if_false]
 refine wpAny_pure (wpAny_point (h _ (Inv.locals (t':=s1.toks) (I1.weak (σ':=σ.set i none) (by simp) fun j v' e=>?_) hn2 hs2 (fun j x v' e1 e2 e3=>?_) rfl)))
 ·by_cases hj:i=j
  ·subst hj
   have hiσ:i < σ.length:=by rw [I.len];exact (qa4.mp hi).1
   rw [BV hiσ] at e;cases e
  ·rw [Bw hj] at e ⊢;exact e
 ·have hj:i≠j:=by
   rintro rfl
   have hiσ:i < σ.length:=by rw [I.len];exact (qa4.mp hi).1
   rw [BV hiσ] at e2;cases e2
  rw [Bw hj] at e2
  obtain ⟨u,r,lk⟩:=hl1 j x v' e1 (by rw [Bw hj];exact e2) e3
  have hx:x≠n:=fun z=>hj (Jp hN hi (z ▸ e1))
  refine ⟨u,r,?_⟩
  rcases lk with ⟨k1,k2⟩ |⟨k1,c,k2,k3⟩
  ·exact .inl ⟨k1,(if_neg hx).trans k2⟩
  ·exact .inr ⟨k1,c,k2,k3.sameBut hs2 (I1.cne x c k2)⟩
end
def Dt:List (Str×D)→Option (List (Str×Int))
 |[]=>some []
 |(f,.int i)::r=>(Dt r).map fun l=>(f,i)::l
 |_=>none
theorem ND:∀{fs:List (Str×D)} {is:List (Str×Int)} {f:Str} {i:Int},Dt fs=some is→is.lookup f=some i→fs.lookup f=some (.int i)
 |[],is,f,i,e,l=>by cases e;cases l
 |(g,d)::r,is,f,i,e,l=>by
  cases d with
  |int j=>
   simp only [Dt] at e
   cases er:Dt r with
   |none=>rw [er] at e;cases e
   |some l2=>
    rw [er] at e
    cases e
    rw [D8] at l ⊢
    cases hb:f==g with
    |true=>rw [hb] at l;cases l;rfl
    |false=>rw [hb] at l;exact ND er l
  |_=>cases e
open Classical in
noncomputable def Ia (a:Addr) (vs:List V) (Fk:List D→HD→Out D) (f:ME):MS:=fun ρ h=>match (ρ[0]?:Option (Option D)),(h[0]?:Option Ce) with
 |some (some (.clo a' vs' ds)),some .tab=>if a'=a∧vs'=vs then (match f (ds.map some) h with
  |.ok _ h1=>.ok (.nx,ρ) h1
  |.err (.str n _) fs h1=>if n∈excNames then (match Dt fs with
   |some is=>(match Fk [.exc n is] h1 with
    |.ok d h2=>.ok (.nx,(ρ.set 1 (some d)).set 2 none) h2
    |_=>.stuck)
   |none=>.stuck) else .stuck
  |_=>.stuck) else .stuck
 |_,_=>.stuck
structure SaidX (X:Cx) (P a c':Addr) (lpos:Pos) (Nc:List Str) (params:Arguments) (body:Expr) (scope:Scope) (cl:List (Str×Addr)) (pm ctv:Value) (vs:List V):Prop where
 N:X.N=(["_law_call","_law_word","_law_e"]:List Str)
 k0:X.env.kindOf "_law_call"=some .local
 k1:X.env.kindOf "_law_word"=some .local
 k2:X.env.kindOf "_law_e"=some .local
 tp:∃c,tabP X.K=some (c,P)
 tb:∃ps,X.H₀ P=some (.tbl ps)∧TriplesOk ps.toList∧codeAmong lpos ps.toList=some (.ref c')
 ob:X.s₀.heap.get? a=some (kla_obj "<lambda>" AY params body scope cl pm c' ctv)
 no:X.H₀ a=none
 nf:a∉X.fs
 clo:Gu X.s₀.heap X.H₀ X.outer Nc scope cl vs
section
variable {X:Cx} {E:XK} {P a c':Addr} {lpos:Pos} {Nc:List Str} {params:Arguments} {body:Expr} {scope:Scope} {cl:List (Str×Addr)} {pm ctv:Value} {vs:List V}
theorem VB {M:Model} {A:Around} {E:Value→Shared→Prop} {s:Shared} {a:Addr} {o:Obj} {fd:FuncData} {Q:Value→Shared→Prop} {env:Env} {pos:Pos} (h0:s.heap.get? a=some o) (hd:o.data=.func fd) (h:wpAny M A (call (.ref a) []) Q E s):
 wpAny M A (callWith pos (.ref a) [] (backTo pos (starEach [] env)) []) Q E s:=
 callWith_of (P:=fun h=>h.get? a=some o) rfl (fun h e=>⟨.frame,.inl rfl,(Looks.ld (part:=none) e).andThen (by rw [hd];exact .now)⟩) (evalArgs_nil3 ⟨h0,h⟩)
theorem SaidX.cloNow (S:SaidX X P a c' lpos Nc params body scope cl pm ctv vs) (lv:Lv X E) {pins:List (Addr×Obj)} {σ:L2.St} {H:Hp} {s:Shared} (I:Inv X pins σ H s):Gu s.heap H X.stack Nc scope cl vs∧s.heap.get? a=some (kla_obj "<lambda>" AY params body scope cl pm c' ctv):=by
 have B:Un X.fs [] X.H₀ H X.s₀.heap s.heap:=by have:=I.base;rw [lv.ex] at this;exact this
 have keep:∀c v,X.s₀.heap.IsCell c v→X.H₀ c=none→c∉X.fs→s.heap.IsCell c v:=fun c v z1_ n f=>by obtain ⟨o,e,d⟩:=z1_;exact (⟨o,B.keep c o e n f (by simp),d⟩)
 refine ⟨⟨S.clo.len,S.clo.inj,S.clo.has,fun x c e=>?_,fun i x v e1 e2=>?_⟩,B.keep a _ S.ob S.no S.nf (by simp)⟩
 ·obtain ⟨⟨v,q⟩,n,f⟩:=S.clo.cell x c e
  obtain ⟨o,e1,d⟩:=id q
  refine ⟨⟨v,keep c v q n f⟩,B.free c o e1 n (by simp),fun z=>?_⟩
  rw [lv.frs] at z
  rcases qaB.mp z with z |z
  ·exact absurd (AN (AA e1) I.ok.above) (by rw [z];exact BY _)
  ·exact f z
 ·obtain ⟨hf,c,u,e3,e4,r⟩:=S.clo.val i x v e1 e2
  obtain ⟨_,n,f⟩:=S.clo.cell x c e3
  exact ⟨hf,c,u,e3,keep c _ e4 n f,r⟩
def DY (X:Cx) (e:Addr):Cx:={X with A:=X.A.mark (some (.ref e)),calm:=false,xe:=fun _ _=>False}
theorem Inv.marked {pins:List (Addr×Obj)} {σ:L2.St} {H:Hp} {s:Shared} {e:Addr} (I:Inv X pins σ H s):Inv (DY X e) pins σ H s:=
 ⟨⟨I.ok.mod,I.ok.kind,I.ok.glob,I.ok.blt,I.ok.above,I.ok.inj,I.ok.has,I.ok.cab,fun z=>(nomatch z),I.ok.frames,I.ok.stk,I.ok.exf,I.ok.bs,I.ok.bsz,I.ok.noex,I.ok.exfs,I.ok.funs,I.ok.frf⟩,I.os,I.bare,I.base,I.loc,I.cell,I.free,I.freeC,I.pin,I.hok,I.len⟩
theorem Inv.unmarked {pins:List (Addr×Obj)} {σ:L2.St} {H:Hp} {s:Shared} {e:Addr} (ok:X.Ok) (I:Inv (DY X e) pins σ H s):Inv X pins σ H s:=
 ⟨ok,I.os,I.bare,I.base,I.loc,I.cell,I.free,I.freeC,I.pin,I.hok,I.len⟩
theorem VC {k:Nat} {Fk:List D→HD→Out D} {f:ME} {p4 p5 p6 p7 p8 p9 p10 p11 p12 p13 p14:Pos} (lv:Lv X E) (S:SaidX X P a c' lpos Nc params body scope cl pm ctv vs) (hr:Room (k+1) X.A) (et:etOk X.K=true) (hsw:∃Sw,nsIn X.K mainGlobals "SwitchError"=some (some (.ref Sw)))
 (hgS:X.env.kindOf "SwitchError"=some .globalImplicit) (hgK:X.env.kindOf "_law_kind"=some .globalImplicit)
 (hkind:CaM X.prog X.w X.K X.mg X.base "_law_kind" k Fk) (hL:LamSc scope) (hbind:bindArgs (kla_fn "<lambda>" AY params body scope cl pm (.ref c') ctv) ⟨[],[]⟩=pure [])
 (hb:∀(s:Shared) (H:Hp) (E':XK),Room k (X.A.deeper (envX AY scope s.heap.objs.size a (.ref c') cl))→Ev (CY X.prog X.w X.K X.mg X.base Nc scope a (.ref c') cl X.A X.stack s H E') E' body f):
 Ex X E (.Try [.Expr (.Call (.Name "_law_call" p4) [] [] p5) p6] [.ExceptHandler (some (.Name "SwitchError" p7)) (some "_law_e") [.Assign [.Name "_law_word" p8] (.Call (.Name "_law_kind" p9) [.Name "_law_e" p10] [] p11) p12] p13] [] [] p14) (Ia a vs Fk f):=by
 rintro pins s σ H Dn I ⟨m,ρ,h,hr1,er,p⟩
 refine Classical.byContradiction fun nG=>?_
 have hN0:X.N[0]?=some ("_law_call":Str):=by rw [S.N];rfl
 have hN1:X.N[1]?=some ("_law_word":Str):=by rw [S.N];rfl
 have hN2:X.N[2]?=some ("_law_e":Str):=by rw [S.N];rfl
 have nd:X.N.Nodup:=by rw [S.N];decide +kernel
 obtain ⟨Sw,hSw⟩:=hsw
 unfold Ia at p
 split at p
 ·rename_i a' vs' ds e0 et0
  split at p
  ·rename_i hav
   obtain ⟨rfl,rfl⟩:=hav
   obtain ⟨C,ob⟩:=S.cloNow lv I
   obtain ⟨v0,hv0,rv0⟩:=er.2 0 _ e0
   simp only [DV] at rv0
   obtain ⟨rfl,rds⟩:=rv0
   obtain ⟨aP,haP,tab⟩:=hr1.at et0
   obtain ⟨⟨cc,htp⟩,ps2,hps2,htr2,hcs2⟩:=tab
   obtain ⟨cc',htp'⟩:=S.tp
   rw [htp'] at htp
   cases htp
   obtain ⟨ps,hps,htr,hca⟩:=S.tb
   obtain ⟨more,hmore⟩:=I.base.tbls P ps hps
   have hca2:codeAmong lpos ps2.toList=some (.ref c'):=by
    have e:=hmore.symm.trans hps2
    cases e
    rw [Array.toList_append]
    exact Vo htr hca
   obtain ⟨c2,e2,hx2⟩:=hcs2 lpos _ hca2
   cases e2
   have hcd:s.heap.CodeRec (.ref c') AY:=(I.hok c' _ hx2).1
   have run:∀(Q:VK) (E':XK),Post X.K (rD X.K) m H E' Q (f (ds.map some) h)→codeAny (model X.prog X.w) X.A (.call (.ref a') ⟨[],[]⟩) (CR (AK X.prog X.w X.K) X.stack X.prog X.w H s Q E') s:=fun Q E' q=>
    Vt hL hr I.env0 C ob hcd hbind (hb s H E') ⟨m,ds,h,hr1,rds,q⟩
   have start:∀{Q:Flow→Shared→Prop} {EE:Value→Shared→Prop},codeAny (model X.prog X.w) X.A (.call (.ref a') ⟨[],[]⟩) (fun r s'=>match r with |.ok (.ret u)=>Q .next s' |.error e=>EE e s' |_=>False) s→
    wpAny (model X.prog X.w) X.A (execs [.Expr (.Call (.Name "_law_call" p4) [] [] p5) p6] X.env) Q EE s:=fun {Q EE} hc=>by
    refine wpAny_execs_cons (wpAny_Expr_any (wpAny_Call_Name_kw ?_) I.quiet rfl)
    obtain ⟨m0,hn0,hl0⟩:=I.loc
    obtain ⟨u,ru,lk⟩:=hl0 0 "_law_call" (.ref a') hN0 hv0 (.inl S.k0)
    cases (show u=Value.ref a' from ru)
    rcases lk with ⟨hk,hm⟩ |⟨z,_⟩
    ·refine wpAny_Name (wpAny_loadName_local I.ok.kind hk hn0 hm (VB ob rfl (wpAny_call (codeAny_mono hc fun r s' hq=>?_)))) (by decide)
     cases r with
     |error e=>exact hq
     |ok fl=>
      cases fl with
      |ret u=>exact wpAny_execs_nil hq
      |next=>exact hq.elim
      |brk=>exact hq.elim
      |cont=>exact hq.elim
    ·rcases z with z |z<;>(rw [S.k0] at z;cases z)
   refine nG (wpAny_Try_except (start ?_))
   clear nG
   refine Classical.byContradiction fun nG=>?_
   cases ho:f (ds.map some) h with
   |stuck=>rw [ho] at p;exact p.elim
   |ok d h1=>
    rw [ho] at p
    refine nG (codeAny_mono (run (fun v H'=>∃m',m <+:m'∧Kp H H'∧HR X.K m' h1 H') E0 (by rw [ho];exact fun v m' H' p1 k1 hr' _=>⟨m',p1,k1,hr'⟩)) fun r s' hq=>?_)
    cases r with
    |error e=>
     obtain ⟨_,_,_,_,_,_,_,_,_,_,_,_,q⟩:=hq
     exact q.elim
    |ok fl=>
     cases fl with
     |ret u=>
      obtain ⟨v,H',os,bare,un,hok,_,m',p1,k1,hr'⟩:=hq
      exact wpAny_execs_nil ⟨σ,H',I.call' os un hok bare (fun b hb=>absurd hb (by simp)),p m' H' p1 k1 hr' σ (er.keep p1 k1)⟩
     |next=>exact hq.elim
     |brk=>exact hq.elim
     |cont=>exact hq.elim
   |err Cv fs h1=>
    rw [ho] at p
    cases Cv with
    |str n t=>
     simp only at p
     split at p
     ·rename_i hn
      refine nG (codeAny_mono (run (fun _ _=>False) (fun C' da H'=>C'=.str n t∧∃m',m <+:m'∧Kp H H'∧HR X.K m' h1 H'∧XD X.K m' H' fs da) (by rw [ho];exact fun da m' H' p1 k1 hr' xd=>⟨rfl,m',p1,k1,hr',xd⟩)) fun r s1 hq=>?_)
      clear nG
      cases r with
      |ok fl=>
       cases fl with
       |ret u=>obtain ⟨_,_,_,_,_,_,_,z⟩:=hq;exact z.elim
       |next=>exact hq.elim
       |brk=>exact hq.elim
       |cont=>exact hq.elim
      |error e=>
       obtain ⟨ae,Cc,n',da,H',rfl,os,bare,un,hok,fly,nm,hE,m',p1,k1,hr',xd⟩:=hq
       refine Classical.byContradiction fun nG=>?_
       have hnn:n'=n:=by cases hE;rfl
       subst hnn
       have I1:Inv X pins σ H' s1:=I.call' os un hok bare (fun b hb=>absurd hb (by simp))
       obtain ⟨fnew,fno,oe,ws,a0,T,oT,ts,e1,e2,e3,e4,e5,e6,e7,e8,e9,e10,e11⟩:=fly
       have fro:X.A.frames=some (X.env::X.outer):=by rw [←lv.stk];exact I1.ok.frames
       have stk:s1.heap.FunFrames X.base (X.env::X.outer):=by have:=I1.stack;rw [lv.stk] at this;exact this
       have frN:∀b∈frs X.stack,H' b=none:=fun b hb=>I1.stkFree b hb
       have frO:∀b∈frs X.stack,∃o,s1.heap.get? b=some o∧∀vs,o.data≠.fields vs:=fun b hb=>(I1.stack.mem hb).2
       have fly0:Heap.FlyingW (blank (fun b=>b=ae∨b=T∨b∈frs X.stack) s1.heap) (X.env::X.outer) ae (.ref Cc) a0 s1.heap:=
        ⟨Kh,Eo (.inl rfl),HV stk fun b hb=>.inr (.inr (by rw [lv.stk];exact hb)),oe,ws,T,oT,ts,e1,e2,e3,e4,Eo (.inr (.inl rfl)),e7,e8,e9,e10⟩
       refine nG (Vx fro lv.fr fly0 fun h4 held4 sm4 D4=>?_)
       clear nG
       refine Vy held4 fun h5 held5 sm5 D5=>?_
       refine Classical.byContradiction fun nG=>?_
       obtain ⟨un5,hok5,fly5⟩:=NC un hok fnew e5 fno e6 frN frO held5.1 (sm4.trans sm5) held5.2.2.2 e1 e11 (D4.trans D5)
       have I5:Inv X pins σ H' {s1 with heap:=h5}:=I.call' (s':={s1 with heap:=h5}) os un5 hok5 bare (fun b hb=>absurd hb (by simp))
       have hmS:X.mg "SwitchError"=some (.ref Sw):=mg_of I.mod.kin I.mod.glob hSw
       have T5:=HZ et hn nm
       obtain ⟨_,_,oe5,ws5,_,_,_,_,f1,f2,f3,_⟩:=id fly5
       refine nG (wpAny_handleBy_cons (codeAny_handlers_test ?_) (by intro q;cases q))
       clear nG
       refine Calls.Name_function_global I5.ok.kind hgS (Calls.loadGlobal_global (by rw [I5.ok.glob];exact I5.mod.glob.keeps I5.bk) hmS ?_) (by decide)
       refine (exm_one (M:=model X.prog X.w) I5.kIn (TyAt.type ⟨oe5,f1,f2.1⟩) (T5.sw Sw hSw)).here ?_
       simp only [if_true]
       refine codeAny_handlers_suite_as (Vz held5 fun h6 held6 sm6 D6=>?_)
       obtain ⟨un6,hok6,fly6⟩:=NC un hok fnew e5 fno e6 frN frO held6.1 ((sm4.trans sm5).trans sm6) held6.2.2.2 e1 e11 ((D4.trans D5).trans D6)
       have I6:Inv X pins σ H' {s1 with heap:=h6}:=I.call' (s':={s1 with heap:=h6}) os un6 hok6 bare (fun b hb=>absurd hb (by simp))
       obtain ⟨_,_,oe6,ws6,_,_,_,_,g1,g2,g3,_,_,_,_,_,_,_,g11⟩:=id fly6
       have older:∀b,s.heap.get? b=none→X.s₀.heap.get? b=none:=lv.older I
       have xok:ObjOk X.prog X.w (Ai H' ae (.ext (DL Cc da ae))) h6 ae (.ext (DL Cc da ae)):=
        ⟨⟨oe6,ws6,g1,g2.1,fun d z=>g11.trans z,g3⟩,⟨oe6,g1⟩,fun ha hb' z2_ k'=>by obtain ⟨o,w',z1,z2,z3,z4⟩:=z2_;exact (⟨o,w',k' o z1,z2,z3,z4⟩)⟩
       have neL:ae≠X.env.locals:=fun z=>by
        obtain ⟨mL,⟨oL,_,_,hoL,_⟩,_⟩:=I.loc
        rw [←z,fnew] at hoL;cases hoL
       have neC:∀x c,X.env.cells.lookup x=some c→c≠ae:=fun x c ex z=>by
        obtain ⟨v,o,hoc,_⟩:=I.cell x c ex
        rw [z,fnew] at hoc;cases hoc
       have neP:∀q∈X.pn++pins,q.1≠ae:=fun q hq z=>by
        have:=(I.pin q hq).1
        rw [z,fnew] at this;cases this
       have I6':=LS.Inv.track I6 (older ae fnew) fno neL neC neP xok
       have kx:Kp H' (Ai H' ae (.ext (DL Cc da ae))):=.new fno
       refine G1 (v:=.ref ae) I6' nd hN2 (.inl S.k2) rfl (fun s7 I7 _=>?_) (.inr S.k2)
       split at p
       rename_i is his
       split at p
       ·rename_i d h2 hk2
        have hr7:HR X.K m' h1 (Ai H' ae (.ext (DL Cc da ae))):=hr'.new fno
        have er7:ER X.K m' (Ai H' ae (.ext (DL Cc da ae))) (ρ.set 2 (some (.exc n' is))) (σ.set 2 (some (.ref ae))):=
         ((er.keep p1 k1).keep (Ay _) kx).set (by simp only [DV];exact ⟨ae,Cc,da,rfl,nm,BZ,fun f i z=>by
           obtain ⟨b,fv,v,q1,q2,q3,q4⟩:=xd f _ (ND his z)
           simp only [DV] at q4
           exact ⟨b,fv,q1,by rw [Av (CC q2 fno)];exact q2,by rw [q3,q4]⟩⟩)
        have hρ:2 < ρ.length:=by rw [er.1,I.len,S.N];decide
        have sx:BQ (DY X ae) E0 [.Assign [.Name "_law_word" p8] (.Call (.Name "_law_kind" p9) [.Name "_law_e" p10] [] p11) p12] (Am 1 (Ad Fk (Aa (Ab 2) Ac))):=
         Hx (JZ (X:=DY X ae) (i:=1) nd hN1 (Or.inl S.k1) (Vw (X:=DY X ae) hkind (RoomM.of hr _) (Hr (JR (X:=DY X ae) (Jq (X:=DY X ae) hN2 (.inl S.k2))) Hq) (Nat.le_succ _) hgK) (hf:=.inr S.k1))
        have post:E8 (DY X ae).K E0 (Am 1 (Ad Fk (Aa (Ab 2) Ac))) {nx:=fun σ' H''=>Dn.nx (σ'.set 2 none) H'',rt:=fun _ _=>False} (σ.set 2 (some (.ref ae))) (Ai H' ae (.ext (DL Cc da ae))):=by
         refine ⟨m',ρ.set 2 (some (.exc n' is)),h1,hr7,er7,?_⟩
         have ev:Am 1 (Ad Fk (Aa (Ab 2) Ac)) (ρ.set 2 (some (.exc n' is))) h1=.ok (.nx,(ρ.set 2 (some (.exc n' is))).set 1 (some d)) h2:=by
          unfold Am Ad Aa Ac Ab
          rw [BV hρ]
          simp only [Out.bind_ok]
          rw [hk2]
          rfl
         rw [ev]
         intro m2 H2 p2 k2 hr2 σ' er2
         refine p m2 H2 (p1.trans p2) ((k1.trans kx).trans k2) hr2 _ ⟨by simp [er2.1.symm],fun i di e=>?_⟩
         by_cases hi:2=i
         ·subst hi
          rw [BV (by simpa using hρ)] at e
          cases e
         ·rw [Bw hi] at e
          obtain ⟨v,z1,z2⟩:=er2.2 i di (by
           by_cases h1i:1=i
           ·subst h1i
            rw [BV (by omega)] at e
            rw [BV (by simp;omega)];exact e
           ·rw [Bw h1i] at e
            rw [Bw h1i,Bw hi];exact e)
          exact ⟨v,by rw [Bw hi];exact z1,z2⟩
        refine wpAny_mono (sx pins s7 _ _ _ (Inv.marked I7) post) (fun fl s8 h8=>?_) fun _ _ z=>False.elim z
        cases fl with
        |next=>
         obtain ⟨σ',H'',I8,q8⟩:=h8
         exact VA (Inv.unmarked I.ok I8) nd hN2 S.k2 fun s9 I9=>⟨_,H'',I9,q8⟩
        |ret u=>obtain ⟨_,_,_,_,_,z⟩:=h8;exact False.elim z
        |brk=>obtain ⟨_,_,_,z⟩:=h8;exact False.elim z
        |cont=>obtain ⟨_,_,_,z⟩:=h8;exact False.elim z
       ·exact p.elim
       ·exact p.elim
     ·exact p.elim
    |_=>exact p.elim
  ·exact p.elim
 ·exact p.elim
end
noncomputable def Kt (Fk:List D→HD→Out D):Out D→Out D
 |.ok _ h1=>.ok (.str "told") h1
 |.err (.str n _) fs h1=>if n∈excNames then (match Dt fs with
  |some is=>(match Fk [.exc n is] h1 with
   |.ok d h2=>.ok d h2
   |_=>.stuck)
  |none=>.stuck) else .stuck
 |_=>.stuck
noncomputable def B6 (cs:List Nat) (Fk:List D→HD→Out D) (f:ME):ME:=fun ρ h=>match (h[0]?:Option Ce),AF (cs.map fun j=>(ρ[j]?).join) with
 |some .tab,some ds=>Kt Fk (f (ds.map some) h)
 |_,_=>.stuck
structure LSc (X:Cx) (scope:Scope) (Nc:List Str) (cs:List Nat):Prop where
 lam:LamSc scope
 nd:(scope.names.map (·.1)).Nodup
 free:(scope.names.all fun y=>y.2 != .free||(X.env.kindOf y.1==some .cell||X.env.kindOf y.1==some .free))=true
 len:cs.length=Nc.length
 out:((Nc.zip cs).all fun p=>X.N[p.2]?==some p.1&&scope.names.lookup p.1==some .free)=true
theorem LSc.at_ {X:Cx} {scope:Scope} {Nc:List Str} {cs:List Nat} (S:LSc X scope Nc cs) {i j:Nat} {x:Str} (h1:Nc[i]?=some x) (h2:cs[i]?=some j):X.N[j]?=some x∧scope.names.lookup x=some .free:=by
 have hz:(Nc.zip cs)[i]?=some (x,j):=by
  rw [List.getElem?_zip_eq_some]
  exact ⟨h1,h2⟩
 have:=qaI.mp S.out (x,j) (D2 hz)
 simpa using this
theorem LSc.fr {X:Cx} {scope:Scope} {Nc:List Str} {cs:List Nat} (S:LSc X scope Nc cs):∀y∈scope.names,y.2=.free→X.env.kindOf y.1=some .cell∨X.env.kindOf y.1=some .free:=fun y hy e=>by
 have:=qaI.mp S.free y hy
 rw [e] at this
 simpa using this
theorem NF {K:Frag} {m:List Addr} {H:Hp} {ρ:Af} {σ:L2.St} (er:ER K m H ρ σ):∀{cs:List Nat} {ds:List D},AF (cs.map fun j=>(ρ[j]?).join)=some ds→∃vs,DVs K m H ds vs∧vs.length=cs.length∧∀(i:Nat) (v:V),vs[i]?=some v→∃j,cs[i]?=some j∧σ[j]?=some (some v)
 |[],ds,e=>by
  simp [AF] at e
  subst e
  exact ⟨[],.nil,rfl,fun i v z=>by simp at z⟩
 |j::cs,ds,e=>by
  rw [Bg] at e
  cases ed:(ρ[j]?).join with
  |none=>rw [ed] at e;simp [AF] at e
  |some d=>
   rw [ed] at e
   simp only [AF,qaP] at e
   obtain ⟨ds',e1,rfl⟩:=e
   obtain ⟨vs,h1,h2,h3⟩:=NF er e1
   obtain ⟨v,e2,r⟩:=er.2 j d (join_some.mp ed)
   refine ⟨v::vs,.cons r h1,by simp [h2],fun i v' z=>?_⟩
   cases i with
   |zero=>simp at z;subst z;exact ⟨j,rfl,e2⟩
   |succ i=>simpa using h3 i v' (by simpa using z)
section
variable {X:Cx} {E:XK} {c P:Addr} {Nc:List Str} {cs:List Nat} {params:Arguments} {body:Expr} {scope:Scope}
theorem VD {α:Type} {l:List (Str×α)} {x:Str} {v:α} (h:(x,v)∈l):∃w,l.lookup x=some w:=by
 cases e:l.lookup x with
 |some w=>exact ⟨w,rfl⟩
 |none=>
  have:=List.lookup_eq_none_iff.mp e _ h
  simp at this
theorem VE {k:Nat} {Fk:List D→HD→Out D} {f:ME} {fs:Addr} {fd:FuncData} {st:Stmt} {lpos p pos p1 p2 p3 p4 p5 p6 p7 p8 p9 p10 p11 p12 p13 p14 p15 p16:Pos} {j1:Nat} (L:LamX X c P) (fna:∀x,X.fn x=true) (hr:Room (k+2) X.A) (lv:Lv X E) (et:etOk X.K=true)
 (hsw:∃Sw,nsIn X.K mainGlobals "SwitchError"=some (some (.ref Sw)))
 (Fn:Fun X.K "_law_said" "_law_said" st fs fd) (hbd:Binds X.K fd ["_law_call"] []) (hm:X.mg "_law_said"=some (.ref fs)) (hkp:keepIn X.K (.ref fs)=true)
 (Sf:CD ["_law_call","_law_word","_law_e"] ["_law_call"] (defScope st)) (hk0:(defScope st).names.lookup ("_law_call":Str)=some .local) (hk1:(defScope st).names.lookup ("_law_word":Str)=some .local) (hk2:(defScope st).names.lookup ("_law_e":Str)=some .local)
 (hgS:∀L' cd,(envOfC "_law_said" (defScope st) L' fs cd).kindOf "SwitchError"=some .globalImplicit) (hgK:∀L' cd,(envOfC "_law_said" (defScope st) L' fs cd).kindOf "_law_kind"=some .globalImplicit)
 (hst:defBody st=[.Assign [.Name "_law_word" p1] (.Constant (.str "told") j1 p2) p3,.Try [.Expr (.Call (.Name "_law_call" p4) [] [] p5) p6] [.ExceptHandler (some (.Name "SwitchError" p7)) (some "_law_e") [.Assign [.Name "_law_word" p8] (.Call (.Name "_law_kind" p9) [.Name "_law_e" p10] [] p11) p12] p13] [] [] p14,.Return (some (.Name "_law_word" p15)) p16])
 (hkind:CaM X.prog X.w X.K X.mg X.base "_law_kind" k Fk) (hg:Gl X "_law_said") (S:LSc X scope Nc cs) (hdef:defaultsOf params X.env=([],[]))
 (hbind:∀(cl:List (Str×Addr)) (pm cv ctv:Value),bindArgs (kla_fn "<lambda>" AY params body scope cl pm cv ctv) ⟨[],[]⟩=pure [])
 (hb:∀(a:Addr) (cd:Value) (cl:List (Str×Addr)) (A:Around) (outer:List Env) (s:Shared) (H:Hp) (E':XK),Room k (A.deeper (envX AY scope s.heap.objs.size a cd cl))→Ev (CY X.prog X.w X.K X.mg X.base Nc scope a cd cl A outer s H E') E' body f)
 (he:starEach [.Lambda params body scope lpos] X.env=(false,eval (.Lambda params body scope lpos) X.env)::starEach [] X.env:=by rfl) (hpl:(backTo pos (starEach [] X.env)).any (·.1)=false:=by rfl):
 Ev X E (.Call (.Name "_law_said" p) [.Lambda params body scope lpos] [] pos) (B6 cs Fk f):=by
 rintro pins s σ H Q I ⟨m,ρ,h,hr1,er,pp⟩
 unfold B6 at pp
 split at pp
 ·rename_i ds et0 eds
  obtain ⟨aP,haP,tab⟩:=hr1.at et0
  obtain ⟨⟨cc,htp⟩,tabr⟩:=id tab
  rw [L.tp] at htp
  cases htp
  obtain ⟨vs,dvs,vlen,vat⟩:=NF er eds
  obtain ⟨cl,hclos,hcl,hcl2⟩:=Mt (scope:=scope) (env:=X.env) fun y hy hf=>I.ok.has y.1 (S.fr y hy hf)
  refine wpAny_Call_Name_kw (EZ I hg hm ?_ (by decide))
  refine PySem.W.callWith_K (h₀:=X.base) I.ok.mod.kin hkp ?_ he hpl
  rw [he]
  show wpAny _ _ (spliced ((false,eval (.Lambda params body scope lpos) X.env)::[])) _ _ s
  refine Calls.spliced_cons (Vp L I tab hdef hclos fun a c' ctv pm h' tk H' I' kp tab' same keep hsz no ob code=>?_)
  refine wpAny_pure ⟨I'.kIn,wpAny_call ?_⟩
  generalize hs1:({s with heap:=h',toks:=tk}:Shared)=s1 at I'
  have hh1:s1.heap=h':=by rw [←hs1]
  have hrN:HR X.K m h H':=hr1.tab kp same tab' tab
  have frLt:∀b∈frs X.stack,b<s.heap.objs.size:=fun b hb=>by
   obtain ⟨_,o,ho,_⟩:=I.stack.mem hb
   exact AA ho
  have cof:∀x c,cl.lookup x=some c→X.env.cells.lookup x=some c:=fun x c e=>(hcl x c (mem_of_lookup e)).1
  have hasC:∀x,scope.names.lookup x=some .free→∃c,cl.lookup x=some c:=fun x e=>by
   obtain ⟨c,hc⟩:=hcl2 _ (mem_of_lookup e) rfl
   exact VD hc
  have C1:Gu s1.heap H' X.stack Nc scope cl vs:=by
   refine ⟨by rw [vlen,S.len],fun x y c e1 e2=>I.ok.inj x y c (cof x c e1) (cof y c e2),hasC,fun x c e=>?_,fun i x v e1 e2=>?_⟩
   ·refine ⟨I'.cell x c (cof x c e),I'.freeC x c (cof x c e),fun z=>?_⟩
    rcases qaB.mp (I.stkSub c z) with z |z
    ·exact I.cne x c (cof x c e) z
    ·obtain ⟨_,o,ho,_⟩:=I.ok.funs.mem z
     exact absurd (AN (AA ho) (I.ok.cab x c (fna x) (cof x c e))) (BY _)
   ·obtain ⟨j,ej,sj⟩:=vat i v e2
    obtain ⟨hN,hf⟩:=S.at_ e1 ej
    have hk:=S.fr _ (mem_of_lookup hf) rfl
    obtain ⟨m0,hn0,hl0⟩:=I'.loc
    obtain ⟨u,r,lk⟩:=hl0 j x v hN sj (by rcases hk with z |z;exact .inr (.inl z);exact .inr (.inr z))
    refine ⟨hf,?_⟩
    rcases lk with ⟨z,_⟩ |⟨_,c,e3,e4⟩
    ·rcases hk with y |y<;>(rw [z] at y;cases y)
    ·obtain ⟨c2,e5⟩:=hasC x hf
     have:=cof x c2 e5
     rw [e3] at this
     cases this
     exact ⟨c,u,e5,e4,r⟩
  obtain ⟨oc,od,kV,doc,pm2,an,cdv,ct,osl,rfl,lk,hcd⟩:=Fn.ex
  have e0:=I'.env0
  have KX:X.K.In s1.heap:=I'.kIn
  have lim:s1.heap.NoLimit:=I'.nolimit
  have hkind2:∀y∈(["_law_call"]:List Str).zip [Value.ref a],(defScope st).names.lookup y.1=some .local∨((defScope st).names.lookup y.1=some .cell∧((cellsFrom (s1.heap.objs.size+1) (defScope st).names []).lookup y.1).isSome=true):=fun y hy=>by
   have:y=(("_law_call":Str),Value.ref a):=by simpa using hy
   subst this
   exact .inl hk0
  have bt:=hbd s1 [.ref a] I'.kIn rfl
  rw [EX] at bt
  refine codeAny_mono (R:=CR (AK X.prog X.w X.K) X.stack X.prog X.w H' s1 Q E) ?_ fun r s' hq=>?_
  ·refine codeAny_call_function hr.depth (KX _ _ lk) rfl Sf.co Sf.gen rfl (PySem.W.codeRec_of KX hcd) (bt _ _ _ _ ?_)
   refine wpAny_newFunctionEnv_cells Sf.kind hkind2 fun env he2 s2 x=>?_
   subst he2
   refine ⟨lim.keeps x.toInCall.keep,codeAny_func ?_⟩
   have I2:Inv (Bp (AK X.prog X.w X.K) X.prog X.w X.K X.mg X.base ["_law_call","_law_word","_law_e"] "_law_said" (defScope st) fs cdv X.A X.stack s1 H' E) [] (L2.start ["_law_call","_law_word","_law_e"] [.ref a]) H' s2:=
    LQ Sf hr.hd e0 rfl (.cons rfl .nil) x
   obtain ⟨ps,hps,hca⟩:=code
   have tri:TriplesOk ps.toList:=by
    obtain ⟨_,ps',z1,z2,_⟩:=tab'
    rw [hps] at z1;cases z1;exact z2
   have SX:SaidX (Bp (AK X.prog X.w X.K) X.prog X.w X.K X.mg X.base ["_law_call","_law_word","_law_e"] "_law_said" (defScope st) fs cdv X.A X.stack s1 H' E) P a c' lpos Nc params body scope cl pm ctv vs:=
    ⟨rfl,hk0,hk1,hk2,⟨c,L.tp⟩,⟨ps,hps,tri,hca⟩,by show s1.heap.get? a=_;rw [hh1];exact ob,no,fun z=>absurd (AN (frLt a z) hsz) (BY _),C1⟩
   have hrS:Room (k+1) (Bp (AK X.prog X.w X.K) X.prog X.w X.K X.mg X.base ["_law_call","_law_word","_law_e"] "_law_said" (defScope st) fs cdv X.A X.stack s1 H' E).A:=hr.deeper _
   have bx:=Hz (JZ (X:=Bp (AK X.prog X.w X.K) X.prog X.w X.K X.mg X.base ["_law_call","_law_word","_law_e"] "_law_said" (defScope st) fs cdv X.A X.stack s1 H' E) (E:=E) (i:=1) (pos:=p3) (pos':=p1) Sf.nd rfl (Or.inl hk1) (Mb (x:="told") (j:=j1) (pos:=p2)))
    (Hz (VC (p4:=p4) (p5:=p5) (p6:=p6) (p7:=p7) (p8:=p8) (p9:=p9) (p10:=p10) (p11:=p11) (p12:=p12) (p13:=p13) (p14:=p14) HW SX hrS et hsw (hgS _ _) (hgK _ _) hkind S.lam (hbind cl pm (.ref c') ctv) (fun s H E'=>hb a (.ref c') cl _ _ s H E'))
     (Hx (Mm (pos:=p16) (JR (Jq (i:=1) (x:="_law_word") (pos:=p15) rfl (.inl hk1))))))
   rw [←hst] at bx
   have post:E8 X.K E (Ah (Am 1 (mC (.str "told"))) (Ah (Ia a vs Fk f) (As (Ab 1)))) {nx:=fun _ H''=>Q .non H'',rt:=Q} (L2.start ["_law_call","_law_word","_law_e"] [.ref a]) H':=by
    refine ⟨m,[some (.clo a vs ds),none,none],h,hrN,?_,?_⟩
    ·refine ⟨rfl,fun i d e=>?_⟩
     match i,e with
     |0,e=>cases e;exact ⟨.ref a,rfl,by unfold DV;exact ⟨rfl,DVs.keep (Ay _) kp dvs⟩⟩
     |1,e=>cases e
     |2,e=>cases e
     |i+3,e=>cases e
    ·have p2:=Post.ahead (Ay m) kp pp
     unfold Ah Am mC
     simp only [Out.bind_ok]
     unfold Ia
     simp only [List.set_cons_succ,List.set_cons_zero,List.getElem?_cons_zero,et0,and_self,if_true]
     unfold Kt at p2
     cases ho:f (ds.map some) h with
     |stuck=>rw [ho] at p2;exact p2.elim
     |ok d h1=>
      rw [ho] at p2
      exact fun m' H'' p1 k1 hr' v rv=>p2 v m' H'' p1 k1 hr' rv
     |err Cv fs h1=>
      rw [ho] at p2
      cases Cv with
      |str n t=>
       simp only at p2 ⊢
       split at p2
       ·rename_i hn
        simp only [hn,if_true]
        cases hi:Dt fs with
        |none=>rw [hi] at p2;exact p2.elim
        |some is=>
         rw [hi] at p2
         simp only at p2 ⊢
         cases hk:Fk [.exc n is] h1 with
         |stuck=>rw [hk] at p2;exact p2.elim
         |err _ _ _=>rw [hk] at p2;exact p2.elim
         |ok d h2=>
          rw [hk] at p2
          exact fun m' H'' p1 k1 hr' v rv=>p2 v m' H'' p1 k1 hr' rv
       ·exact p2.elim
      |_=>exact p2.elim
   refine wpAny_mono (bx [] s2 _ H' _ I2 post) (fun fl s' hs=>?_) fun e s' hs=>hs
   cases fl with
   |ret u=>
    obtain ⟨v,σ',H'',J,rv,q⟩:=hs
    exact ⟨v,H'',J.os,J.bare,J.base,J.hok,rv,q⟩
   |next=>
    obtain ⟨σ',H'',J,q⟩:=hs
    exact ⟨V.non,H'',J.os,J.bare,J.base,J.hok,rfl,q⟩
   |brk=>
    obtain ⟨_,_,_,q⟩:=hs
    exact False.elim q
   |cont=>
    obtain ⟨_,_,_,q⟩:=hs
    exact False.elim q
  ·cases r with
   |error e=>exact Kj lv pins σ H' s1 e s' I' hq
   |ok fl=>
    cases fl with
    |ret u=>exact I'.after hq
    |next=>exact False.elim hq
    |brk=>exact False.elim hq
    |cont=>exact False.elim hq
 ·exact pp.elim
end
def Gv (mg:Str→Option Value) (base:Heap):Prop:=∃bm o,mg "__builtins__"=some (.ref bm)∧bm≠builtinsNs∧base.get? bm=some o∧o.cls=.type "module"∧o.dict=some builtinsNs∧o.data=.plain
theorem VF {P:Program} {w:World} {K:Frag} {mg mb:Str→Option Value} {k:Nat} {fa a c T:Addr} {fd:FuncData} {x:Str} {F:List D→HD→Out D} {s₁:Shared} {vs:List Value} {ns:List Int}
 (KX:K.In s₁.heap) (hns:s₁.heap.Ns mainGlobals mg) (hb:s₁.heap.Ns builtinsNs mb) (hbb:∀x:Str,x≠"__name__"→mb x=bootBuiltins x) (hlim:s₁.heap.NoLimit) (hg:s₁.gens=#[]) (hbm:Gv mg s₁.heap)
 (ha:s₁.heap.get? a=some {cls:=.type "list",data:=.seq vs.toArray}) (hi:IntsAre vs ns) (hl:ns.length≤sizeLine) (hr:Room k callerA)
 (htp:tabP K=some (c,T)) (hcd:codeHdIn K c T=true) (hT:s₁.heap.get? T=some (tabObj #[])) (hKT:K.lookup T=none)
 (FF:∀base:Heap,K.In base→base.Ns mainGlobals mg→Gv mg base→FnOk P w K mg base (AK P w K) k fa fd [x] (Dr K F)) (hbind:∀(s:Shared) (u:Value),BindsTo s fd ⟨[u],[]⟩ [(x,u)])
 (hF:∃h',F [.scr ns] [.tab]=.ok (.bl true) h'):
 codeAny (model P w) callerA (.call (.ref fa) ⟨[.ref a],[]⟩) (fun r s'=>r=.ok (.ret (.bool true))∧OldK s₁.heap s'.heap∧s'.os=s₁.os∧AllBare s'.gens) s₁:=by
 have rv:=L2.vals_ints hi
 have lenV:=hi.length
 have aT:a≠T:=fun z=>by rw [z,hT] at ha;cases ha
 have core:∀H:Hp,(∀b,b=T∨H b=none∨∃o xs,H b=some (.frz o (.lst xs)))→H T=some (.tbl #[])→FzL K H a (ns.map V.int)→HOk P w H s₁.heap→(∀b,H b≠none→b=a∨b=T)→(H a≠none→K.lookup a=none)→
  codeAny (model P w) callerA (.call (.ref fa) ⟨[.ref a],[]⟩) (fun r s'=>r=.ok (.ret (.bool true))∧OldK s₁.heap s'.heap∧s'.os=s₁.os∧AllBare s'.gens) s₁:=by
  intro H hO hHT hS hok hA hK
  have base_of:∀{b:Addr} {o:Obj},s₁.heap.get? b=some o→H b=none→(CM s₁.heap H).get? b=some o:=fun e n=>Qt e n
  have noA:∀{b:Addr} {o:Obj},s₁.heap.get? b=some o→(∀its n,o.data≠.seq its n)→(∀ws,o.data≠.fields ws)→H b=none:=fun {b o} e d1 d2=>by
   cases q:H b with
   |none=>rfl
   |some u=>
    rcases hA b (by rw [q];simp) with e' |e'
    ·subst e'
     rw [ha] at e;cases e
     exact absurd rfl (d1 _ _)
    ·subst e'
     rw [hT] at e;cases e
     exact absurd rfl (d2 _)
  have nsK:∀{b:Addr} {m:Str→Option Value},s₁.heap.Ns b m→(CM s₁.heap H).Ns b m:=fun {b m} ⟨o,es,ep,e,d,r⟩=>⟨o,es,ep,base_of e (noA e (fun _ _ z=>by rw [d] at z;cases z) (fun _ z=>by rw [d] at z;cases z)),d,r⟩
  have hKb:K.In (CM s₁.heap H):=fun b o e=>base_of (KX b o e) (by
   cases q:H b with
   |none=>rfl
   |some u=>
    rcases hA b (by rw [q];simp) with e' |e'
    ·subst e'
     rw [hK (by rw [q];simp)] at e;cases e
    ·subst e'
     rw [hKT] at e;cases e)
  have hM:Mod K mg (CM s₁.heap H):=⟨hKb,nsK hns,⟨mb,nsK hb,hbb⟩,let ⟨mc,h1,h2⟩:=hlim;⟨mc,nsK h1,h2⟩⟩
  have e0:DK P w K mg (CM s₁.heap H) callerA [] s₁ H:=⟨rfl,hM,fun b o e=>Qu e,Nat.le_of_eq (Qs _ _),trivial,fun b hb=>absurd (show b∈([]:List Addr) from hb) (by simp),hok,.of_eq hg⟩
  have hBM:Gv mg (CM s₁.heap H):=by
   obtain ⟨bm,o,h1,h2,h3,h4,h5,h6⟩:=hbm
   exact ⟨bm,o,h1,h2,base_of h3 (noA h3 (fun _ _ z=>by rw [h6] at z;cases z) (fun _ z=>by rw [h6] at z;cases z)),h4,h5,h6⟩
  have hsp:Dr K F [.ref a] H (fun v _=>v=.bl true) fun _ _ _=>False:=by
   obtain ⟨h',e⟩:=hF
   refine ⟨[T],[.scr ns],[.tab],⟨rfl,by simp,fun l cc b e1 e2=>?_⟩,.cons (by simp only [DV];exact ⟨a,rfl,hS⟩) .nil,?_⟩
   ·cases l with
    |zero=>
     simp at e1 e2
     subst e1 e2
     exact ⟨⟨c,htp⟩,#[],hHT,trivial,fun pos cv z=>by simp [codeAmong] at z⟩
    |succ l=>simp at e1
   ·rw [e]
    intro v m' H' _ _ _ r
    simpa [rD,DV] using r
  refine codeAny_mono ((FF _ hKb (nsK hns) hBM).run callerA [] s₁ H ⟨[.ref a],[]⟩ [.ref a] [.ref a] _ _ hr e0 (hbind s₁ (.ref a)) (.cons rfl .nil) hsp) fun r s' h=>?_
  cases r with
  |error e=>
   obtain ⟨_,_,_,_,_,_,_,_,_,_,_,_,q⟩:=h
   exact q.elim
  |ok fl=>
   cases fl with
   |next=>exact False.elim h
   |brk=>exact False.elim h
   |cont=>exact False.elim h
   |ret u=>
    obtain ⟨v,H',os,bare,un,hok',r',q⟩:=h
    have q':v=.bl true:=q
    subst q'
    obtain rfl:u=Value.bool true:=r'
    obtain ⟨more,hT'⟩:=un.tbls T _ hHT
    have hT2:s'.heap.get? T=some (tabObj (#[]++more)):=hok' T _ hT'
    have keepO:∀b o,b≠T→s₁.heap.get? b=some o→s'.heap.get? b=some o:=fun b o hbT e=>by
     cases q:H b with
     |none=>exact un.keep b o e q (by intro z;exact absurd (show b∈([]:List Addr) from z) (by simp)) (by simp)
     |some u=>
      rcases hO b with z |z |⟨ob,xs,z⟩
      ·exact absurd z hbT
      ·rw [q] at z;cases z
      ·have z2:=un.frzs b ob _ z
       obtain ⟨e1,_⟩:=hok b _ z
       obtain ⟨e2,_⟩:=hok' b _ z2
       rw [e] at e1;cases e1
       exact e2
    have hC:=codeHd_of_K KX hcd
    refine ⟨rfl,⟨fun b o e=>?_,fun b o e=>?_⟩,os,bare⟩
    ·by_cases hbT:b=T
     ·subst hbT
      rw [hT] at e
      cases e
      exact .inr (.inl ⟨(hC.tab hT).isCodeTable,rfl,#[],more,rfl,hT2⟩)
     ·exact .inl (keepO b o hbT e)
    ·by_cases hbT:b=T
     ·subst hbT;exact ⟨_,hT2⟩
     ·exact ⟨o,keepO b o hbT e⟩
 cases hk:K.lookup a with
 |some o=>
  have e:=KX a o hk
  rw [ha] at e
  cases e
  refine core (fun b=>if b=T then some (.tbl #[]) else none) (fun b=>?_) (if_pos rfl) (.inr (.inr ⟨_,vs.toArray,_,hk,rfl,rfl,rfl,by rw [AZ,lenV];exact hl,by simpa using rv⟩)) (fun b u z=>?_) (fun b z=>?_) fun z=>absurd (if_neg aT) z
  ·by_cases hb:b=T
   ·exact .inl hb
   ·exact .inr (.inl (if_neg hb))
  ·by_cases hb:b=T
   ·have z':=(if_pos hb).symm.trans z
    cases z'
    subst hb
    exact hT
   ·have z':=(if_neg hb).symm.trans z
    cases z'
  ·by_cases hb:b=T
   ·exact .inr hb
   ·exact absurd (if_neg hb) z
 |none=>
  refine core (fun b=>if b=T then some (.tbl #[]) else if b=a then some (.frz {cls:=.type "list",data:=.seq vs.toArray} (.lst (ns.map V.int))) else none) (fun b=>?_) (if_pos rfl) (.inl ⟨{cls:=.type "list",data:=.seq vs.toArray},(if_neg aT).trans (if_pos rfl)⟩) (fun b u z=>?_) (fun b z=>?_) fun _=>hk
  ·by_cases hb:b=T
   ·exact .inl hb
   ·by_cases hba:b=a
    ·exact .inr (.inr ⟨_,_,(if_neg hb).trans (if_pos hba)⟩)
    ·exact .inr (.inl ((if_neg hb).trans (if_neg hba)))
  ·by_cases hb:b=T
   ·have z':=(if_pos hb).symm.trans z
    cases z'
    subst hb
    exact hT
   ·have z1:=(if_neg hb).symm.trans z
    by_cases hba:b=a
    ·have z':=(if_pos hba).symm.trans z1
     cases z'
     subst hba
     exact ⟨ha,by rw [BX];exact hl,vs,_,rv,ha⟩
    ·have z':=(if_neg hba).symm.trans z1
     cases z'
  ·by_cases hb:b=T
   ·exact .inr hb
   ·by_cases hba:b=a
    ·exact .inl hba
    ·exact absurd ((if_neg hb).trans (if_neg hba)) z
open AutoSeq1 (wpAny_loadPart')
theorem VG:fillsNumberSlot (.type "tuple") "mul"=pure false:=by
 first |exact noFill_tuple_mul' |(unfold fillsNumberSlot;kernel_rfl)
theorem VH:seqRepeat? (.type "tuple")=pure (some (.builtin "tuple.__mul__")):=by
 unfold seqRepeat?
 rw [PySem.seqSlot_of (T:="tuple") (name:="__mul__") (id:="tuple.__mul__") F.slot_tuple_mul.lookup (by decide +kernel),PySem.seqSlot_of (T:="tuple") (name:="__rmul__") (id:="tuple.__rmul__") (by rw [typeLookup_type,builtinLookup_eq_fast];kernel_rfl) (by decide +kernel)]
 rfl
theorem VI (a:Int) (t:Tok) (l:Addr) (items:Array Value) (n:Nat) (dd:Option Addr) (sl:Array (Option Value)):
 Meets (Builtin.«int.__rmul__» ⟨[.int a t,.ref l],[]⟩) (fun _ R s=>s.heap.get? l=some {cls:=.type "tuple",dict:=dd,data:=.seq items n,slots:=sl}∧R (.ok (.ret Value.notImplemented)) s):=
 .of_wp fun prog w A R s h=>by
  obtain ⟨hp,g,d,tk,os⟩:=s;obtain ⟨hl,h⟩:=h
  wp_walk;exact ⟨_,rfl,h⟩
theorem VJ (l:Addr) (items:Array Value) (n:Nat) (dd:Option Addr) (sl:Array (Option Value)) (x:Int) (u:Tok) (h1:1<x) (h2:x<2^63) (hne:items.isEmpty=false) (hz:items.size*x.toNat≤sizeLine):
 Meets (Builtin.«tuple.__mul__» ⟨[.ref l,.int x u],[]⟩) (fun _ R s=>s.heap.get? l=some {cls:=.type "tuple",dict:=dd,data:=.seq items n,slots:=sl}∧R (.ok (.ret (Value.ref s.heap.objs.size))) {s with heap:=s.heap.push {cls:=Value.type "tuple",data:=Data.seq (List.foldl (fun x1 x2=>x1++x2) #[] (List.replicate x.toNat items))}}):=
 .of_wp fun prog w A R s h=>by
  obtain ⟨hp,g,d,tk,os⟩:=s;obtain ⟨hl,h⟩:=h
  have c1:(decide (x < -2^63)||decide (x≥2^63))=false:=by simp;omega
  have c2:(items.isEmpty||x==1)=false:=by
   rw [hne,Bool.false_or]
   exact beq_eq_false_iff_ne.mpr (by omega)
  have c3:(decide (x≤0)||items.isEmpty)=false:=by
   rw [hne,Bool.or_false]
   exact decide_eq_false (by omega)
  have hx:(x.toNat:Int)=x:=Int.toNat_of_nonneg (by omega)
  have hz':(items.size:Int)*x≤sizeLine:=by rw [←hx];exact_mod_cast hz
  have c4:¬((items.size:Int)*x>(2^63 - 1) / 8):=by
   have:(sizeLine:Int)≤(2^63 - 1) / 8:=by decide
   omega
  have c5:Builtin.Tuple.tupleTooMany ((items.size:Int)*x)=false:=by
   unfold Builtin.Tuple.tupleTooMany
   exact decide_eq_false (by omega)
  have c6:(List.foldl (fun x1 x2=>x1++x2) #[] (List.replicate x.toNat items)).size≤sizeLine:=by
   have f0:=Hg items.toList x.toNat []
   rw [FZ] at f0
   have:List.foldl (fun x1 x2=>x1++x2) #[] (List.replicate x.toNat items)=(List.replicate x.toNat items.toList).flatten.toArray:=by simpa using f0
   rw [this,AZ,Hh,Nat.mul_comm]
   simpa using hz
  wp_walk using wpAny_loadPart' hl
  rw [c1]
  simp only [Cq,if_false]
  refine wpAny_bind ?_
  unfold Builtin.Tuple.tupleItemsOf
  wp_walk using wpAny_loadPart' hl
  rw [c2]
  simp only [Cq,if_false]
  rw [c3]
  simp only [Cq,if_false]
  rw [if_neg c4,c5]
  simp only [Cq,if_false]
  refine wpAny_bind (wpAny_newObj_type (wpAny_pure ⟨_,rfl,h⟩) c6)
theorem VL (l:Addr) (items:Array Value) (n:Nat) (dd:Option Addr) (sl:Array (Option Value)) (u:Tok):
 Meets (Builtin.«tuple.__mul__» ⟨[.ref l,.int 1 u],[]⟩) (fun _ R s=>s.heap.get? l=some {cls:=.type "tuple",dict:=dd,data:=.seq items n,slots:=sl}∧R (.ok (.ret (Value.ref l))) s):=
 .of_wp fun prog w A R s h=>by
  obtain ⟨hp,g,d,tk,os⟩:=s;obtain ⟨hl,h⟩:=h
  have c1:(decide ((1:Int) < -2^63)||decide ((1:Int)≥2^63))=false:=by decide
  have c2:(items.isEmpty||(1:Int)==1)=true:=by simp
  wp_walk using wpAny_loadPart' hl
  exact ⟨_,rfl,h⟩
theorem VM (l:Addr) (items:Array Value) (n:Nat) (dd:Option Addr) (sl:Array (Option Value)) (x:Int) (u:Tok) (h1:-(2^63)≤x) (h2:x≤0) (hne:items.isEmpty=false):
 Meets (Builtin.«tuple.__mul__» ⟨[.ref l,.int x u],[]⟩) (fun _ R s=>s.heap.get? l=some {cls:=.type "tuple",dict:=dd,data:=.seq items n,slots:=sl}∧R (.ok (.ret (Value.ref s.heap.objs.size))) {s with heap:=s.heap.push {cls:=Value.type "tuple",data:=Data.seq #[]}}):=
 .of_wp fun prog w A R s h=>by
  obtain ⟨hp,g,d,tk,os⟩:=s;obtain ⟨hl,h⟩:=h
  have c1:(decide (x < -2^63)||decide (x≥2^63))=false:=by simp;omega
  have c2:(items.isEmpty||x==1)=false:=by
   rw [hne,Bool.false_or]
   exact beq_eq_false_iff_ne.mpr (by omega)
  have c3:(decide (x≤0)||items.isEmpty)=true:=by
   rw [hne,Bool.or_false]
   exact decide_eq_true h2
  wp_walk using wpAny_loadPart' hl
  rw [c1]
  simp only [Cq,if_false]
  refine wpAny_bind ?_
  unfold Builtin.Tuple.tupleItemsOf
  wp_walk using wpAny_loadPart' hl
  rw [c2]
  simp only [Cq,if_false]
  rw [c3]
  simp only [if_true]
  refine wpAny_bind (wpAny_newObj_type (wpAny_pure ⟨_,rfl,h⟩) (by show (#[]:Array Value).size≤sizeLine;simp))
section
variable {X:Cx} {E:XK}
def VN (K:Frag):R2:=fun x y H Q=>∃l k xs,x=.ref l∧y=.int k∧H l=some (.tup xs)∧xs≠[]∧-(2^63)≤k∧k<2^63∧xs.length*k.toNat≤sizeLine∧(k=1→Q (.ref l) H)∧
 ∀p,H p=none→Q (.ref p) (Ai H p (.tup (List.replicate k.toNat xs).flatten))
theorem Inv.tnew {pins:List (Addr×Obj)} {σ:L2.St} {H:Hp} {s:Shared} {ys:List V} {its:List Value} {t':Nat} (I:Inv X pins σ H s) (hv:Vals ys its) (hz:ys.length≤sizeLine):
 Inv X pins σ (Ai H s.heap.objs.size (.tup ys)) {s with heap:=s.heap.push {cls:=.type "tuple",data:=.seq its.toArray},toks:=t'}:=
 I.laid (fun _ _ q=>AH _ q) (Ap _) ⟨hz,its,hv,⟨_,Bf _ rfl,rfl,0,rfl⟩,NoDict.new⟩
theorem op_repT:OpR X (binaryOp .Mult) (VN X.K):=by
 intro pins s σ H x y v u Q I rx ry h
 obtain ⟨l,k,xs,rfl,rfl,hH,hne,h1,h2,hz,q1,q⟩:=h
 cases rx
 obtain ⟨t,rfl⟩:=ry
 obtain ⟨z,its,r,⟨o,ho,hc,n,hd⟩,_⟩:=(show ObjOk X.prog X.w H s.heap l (.tup xs) from I.hok l _ hH)
 obtain ⟨oc,dd,dat,sl⟩:=o
 simp only at hc hd
 subst hc hd
 have hl:=r.length
 have hine:its.toArray.isEmpty=false:=by
  cases its with
  |nil=>exfalso;cases xs with
   |nil=>exact hne rfl
   |cons _ _=>simp at hl
  |cons a b=>simp
 have mul:∀{Q':Value→Shared→Prop},wpAny (model X.prog X.w) X.A (call (.builtin "tuple.__mul__") [.ref l,.int k t]) Q' X.xe s→wpAny (model X.prog X.w) X.A (binaryOp .Mult (.ref l) (.int k t)) Q' X.xe s:=fun {Q'} hq=>
  wpAny_binaryOp_repeat_ref (T:="tuple") (U:="int") (by decide) ⟨_,ho,rfl⟩ (fun s'=>typeIs_int s' k t) VG F.fills_int_mul F.slot_int_rmul VH F.slot_int_index.lookup
   (call_meets F.slot_int_rmul (typeIs_int s k t) F.entry_int_rmul (F.args_int_rmul_2 _ _) (VI k t l its.toArray n dd sl) ⟨ho,rfl,⟨_,ho,rfl⟩,hq⟩)
 refine mul ?_
 rcases Int.lt_trichotomy k 1 with hk |hk |hk
 ·refine call_meets F.slot_tuple_mul ⟨_,ho,rfl⟩ F.entry_tuple_mul (F.args_tuple_mul_2 _ _) (VM l its.toArray n dd sl k t h1 (by omega) hine) ⟨ho,?_⟩
  have e:(List.replicate k.toNat xs).flatten=[]:=by
   have:k.toNat=0:=by omega
   rw [this];rfl
  have:=q _ I.fresh
  rw [e] at this
  exact ⟨.ref _,_,LS.Inv.tnew (its:=[]) (t':=s.toks) I .nil (B9 _),rfl,this⟩
 ·subst hk
  refine call_meets F.slot_tuple_mul ⟨_,ho,rfl⟩ F.entry_tuple_mul (F.args_tuple_mul_2 _ _) (VL l its.toArray n dd sl t) ⟨ho,?_⟩
  exact ⟨.ref l,H,I,rfl,q1 rfl⟩
 ·refine call_meets F.slot_tuple_mul ⟨_,ho,rfl⟩ F.entry_tuple_mul (F.args_tuple_mul_2 _ _) (VJ l its.toArray n dd sl k t hk h2 hine (by rw [AZ,←hl];exact hz)) ⟨ho,?_⟩
  have f0:=Hg its k.toNat []
  rw [FZ] at f0
  have f1:List.foldl (fun x1 x2=>x1++x2) #[] (List.replicate k.toNat its.toArray)=(List.replicate k.toNat its).flatten.toArray:=f0
  rw [f1]
  exact ⟨.ref _,_,LS.Inv.tnew (t':=s.toks) I (r.rep k.toNat) (by rw [Hh,Nat.mul_comm];exact hz),rfl,q _ I.fresh⟩
noncomputable def BD:D→D→HD→Out D:=fun x y h=>match x,y with
 |.tup xs,.int k=>@ite _ (xs≠[]∧-(2^63)≤k∧k<2^63∧xs.length*k.toNat≤sizeLine) (Classical.propDecidable _) (.ok (.tup (List.replicate k.toNat xs).flatten) h) .stuck
 |_,_=>Cj x y h
theorem VO:Bh X (binaryOp .Mult) BD:=by
 obtain ⟨r0,hr0,i0⟩:=Uq (X:=X)
 refine ⟨_,op_repT.or hr0,fun m H h E x y v u Q hr rx ry q=>?_⟩
 unfold BD at q
 split at q
 ·rename_i xs k
  split at q
  ·rename_i hc
   obtain ⟨hne,h1,h2,hz⟩:=hc
   simp only [DV] at rx ry
   obtain ⟨a,vs,rfl,ha,dv⟩:=rx
   subst ry
   refine .inl ⟨a,k,vs,rfl,rfl,ha,?_,h1,h2,by rw [←dv.len];exact hz,fun e=>?_,?_⟩
   ·intro e;have:=dv.len;rw [e] at this;exact hne (List.length_eq_zero_iff.mp this)
   ·subst e
    refine AL hr q ?_
    simp only [DV]
    exact ⟨a,vs,rfl,ha,by simpa using dv⟩
   ·exact DO hr (DVs.rep dv k.toNat) q
  ·exact q.elim
 ·exact .inr (i0 m H h E x y v u Q hr rx ry q)
end
end LS
namespace LS
open PySem PySem.Spec PyProof.Rows L2 PySem.W
section
variable {X:Cx} {E:XK}
abbrev MJ:=Str→Af→HD→Out Str
def Fy (X:Cx) (E:XK) (parts:List Expr) (fj:MJ):Prop:=
 ∀(pins:List (Addr×Obj)) (s:Shared) (σ:L2.St) (H:Hp) (acc:Str) (Q:Str→Hp→Prop),Inv X pins σ H s→(∃m ρ h,HR X.K m h H∧ER X.K m H ρ σ∧Post X.K (fun _ _ (a b:Str)=>a=b) m H E Q (fj acc ρ h))→
  wpAny (model X.prog X.w) X.A (joinParts acc (evalEach parts X.env)) (fun v s'=>∃out t H',v=.str out t∧Inv X pins σ H' s'∧Q out H') X.xe s
def Ey:MJ:=fun acc _ h=>if acc.length≤sizeLine then .ok acc h else .stuck
def Du (y:Str) (r:MJ):MJ:=fun acc ρ h=>if (acc++y).length≤sizeLine then r (acc++y) ρ h else .stuck
def NG (f:ME) (r:MJ):MJ:=fun acc ρ h=>(f ρ h).bind fun d h1=>match d with
 |.int i=>if i.natAbs.log2<1920∧(acc++(toString i:Str)).length≤sizeLine then r (acc++(toString i:Str)) ρ h1 else .stuck
 |_=>.stuck
theorem VP:Fy X E [] Ey:=fun pins s σ H acc Q I z1_=>by
 obtain ⟨m,ρ,h,hr,er,p⟩:=z1_
 unfold Ey at p
 split at p
 ·rename_i hz
  exact joinParts_nil ⟨acc,_,H,rfl,I.tok _,p acc m H (Ay _) (.refl _) hr rfl⟩ hz
 ·exact p.elim
theorem VQ {y:Str} {j:Nat} {pos:Pos} {parts:List Expr} {r:MJ} (hp:Fy X E parts r):Fy X E (.Constant (.str y) j pos::parts) (Du y r):=fun pins s σ H acc Q I z2_=>by
 obtain ⟨m,ρ,h,hr,er,p⟩:=z2_
 unfold Du at p
 split at p
 ·rename_i hz
  exact joinParts_cons (Calls.Constant_str ⟨hz,hp pins _ σ H _ Q (I.tok _) ⟨m,ρ,h,hr,er,p⟩⟩)
 ·exact p.elim
def Ez (fj:MJ):ME:=fun ρ h=>(fj Str.empty ρ h).bind fun x h1=>.ok (.str x) h1
theorem VR {v1 v2:Expr} {rest:List Expr} {pos:Pos} {fj:MJ} (hj:Fy X E (v1::v2::rest) fj):Ev X E (.JoinedStr (v1::v2::rest) pos) (Ez fj):=fun pins s σ H Q I z5_=>by
 obtain ⟨m,ρ,h,hr,er,p⟩:=z5_
 refine JoinedStr_many (Ak (hj pins s σ H Str.empty (fun out H1=>Q (.str out) H1) I ⟨m,ρ,h,hr,er,Post.bind p fun a h1 b m1 H1 _ p1 k1 hr1 r1 q1=>?_⟩) fun v s1 z6_=>by obtain ⟨out,t,H1,ev,I1,q⟩:=z6_;exact (⟨.str out,H1,I1,⟨t,ev⟩,q⟩))
 cases r1
 exact AL hr1 q1 (by simp [DV])
def BR:D→HD→Out D:=fun x h=>match A1 h 8 x with
 |some p=>if p.showable=true∧p.hasDict=false∧p.depth≤40∧p.shown.length≤sizeLine then .ok (.str p.shown) h else .stuck
 |none=>.stuck
theorem VS (hu:X.A.units+64<cLine) (hg:X.A.guards=some []):B3 X (.builtin "repr") (Aj BR):=by
 refine Nw (fun ds h=>?_) fun pins s σ H m h ds vs us Q I hr rd r q=>Ei rd q fun x v ev rx q=>?_
 ·unfold Aj BR
  repeat' split
  all_goals trivial
 ·subst ev
  obtain ⟨u,rfl,ru⟩:=Dl r
  unfold BR at q
  split at q
  ·rename_i p e
   split at q
   ·rename_i hc
    obtain ⟨h1,h2,h3,h4⟩:=hc
    obtain ⟨as,hd⟩:=JV I.hok hr 8 x v u p rx ru e
    have Ao:∀(h':Heap) (t tk:Tok),(∀b o,s.heap.get? b=some o→h'.get? b=some o)→EP X pins σ Q (.str p.shown t) {s with heap:=h',toks:=tk}:=fun h' t tk hk=>⟨.str p.shown,H,I.kept hk,⟨t,rfl⟩,AL hr q (by simp [DV])⟩
    cases hd with
    |list a1 a2 a3 a4=>exact repr_of_reads' (.list a1 a2 a3 a4) h1 (fun z=>by rw [h2] at z;cases z) hg (by omega) (fun _ _ e=>e) Ao h4
    |tuple a1 a2 a3 a4=>exact repr_of_reads' (.tuple a1 a2 a3 a4) h1 (fun z=>by rw [h2] at z;cases z) hg (by omega) (fun _ _ e=>e) Ao h4
    |dict a1 a2 a3 a4 a5=>cases h2
    |int i t=>
     have h1':i.natAbs.log2<1920:=by simpa [PyData.showable] using h1
     exact PySem.P.repr_of_int h1' (Ao s.heap _ _ fun _ _ e=>e)
    |none=>exact PySem.P.repr_of_none (Ao s.heap _ _ fun _ _ e=>e)
    |bool b=>exact PySem.P.repr_of_bool (Ao s.heap _ _ fun _ _ e=>e)
    |str x t=>exact PySem.P.repr_of_str (Ao s.heap _ _ fun _ _ e=>e) (by simpa [PyData.shown] using h4)
   ·exact q.elim
  ·exact q.elim
def CK:D→D→HD→Out D:=fun x y h=>match x,y with
 |.str a,.str b=>.ok (.bl (a==b)) h
 |_,_=>Ge x y h
def Bn:D→D→HD→Out D:=fun x y h=>match x,y with
 |.str a,.str b=>.ok (.bl (!(a==b))) h
 |_,_=>DQ x y h
theorem NH (hu:X.A.units+64<cLine):Bh X (compareOp .Eq) CK:=by
 obtain ⟨r0,hr0,i0⟩:=Ti (X:=X) hu
 refine ⟨_,op_eq.or hr0,fun m H h E x y v u Q hr rx ry q=>?_⟩
 unfold CK at q
 split at q
 ·simp only [DV] at rx ry
  subst rx ry
  exact .inl ⟨rfl,by rw [Hc];exact AL hr q (by simp [DV])⟩
 ·exact .inr (i0 m H h E x y v u Q hr rx ry q)
theorem VT (hu:X.A.units+64<cLine):Bh X (compareOp .NotEq) Bn:=by
 obtain ⟨r0,hr0,i0⟩:=Tj (X:=X) hu
 refine ⟨_,op_ne.or hr0,fun m H h E x y v u Q hr rx ry q=>?_⟩
 unfold Bn at q
 split at q
 ·simp only [DV] at rx ry
  subst rx ry
  exact .inl ⟨rfl,by rw [Hc];exact AL hr q (by simp [DV])⟩
 ·exact .inr (i0 m H h E x y v u Q hr rx ry q)
def Ib:List Nat→List D→Af→Option Af
 |[],[],ρ=>some ρ
 |i::is,d::ds,ρ=>Ib is ds (ρ.set i (some d))
 |_,_,_=>none
def EA (is:List Nat):MG:=fun d ρ=>match d with
 |.tup ds=>Ib is ds ρ
 |_=>none
def Ku:List Nat→DI
 |[]=>E1
 |i::is=>CN (B0 i) (Ku is)
theorem NI:∀{is:List Nat} {ds:List D} {ρ ρ':Af},Ib is ds ρ=some ρ'→ds.length=is.length
 |[],[],_,_,_=>rfl
 |[],_::_,_,_,e=>by cases e
 |_::_,[],_,_,e=>by cases e
 |_::is,_::ds,_,_,e=>by simpa using NI (is:=is) (ds:=ds) e
theorem NJ {K:Frag} {m:List Addr} {H:Hp}:∀{is:List Nat} {ds:List D} {vs:List V} {ρ ρ':Af} {σ:L2.St} {Q:L2.St→Hp→Prop},DVs K m H ds vs→ER K m H ρ σ→Ib is ds ρ=some ρ'→(∀σ',ER K m H ρ' σ'→Q σ' H)→Ku is vs σ H Q
 |[],[],vs,ρ,ρ',σ,Q,r,er,e,q=>by
  simp only [DVs] at r
  subst r
  cases e
  exact ⟨rfl,q σ er⟩
 |[],_::_,_,_,_,_,_,_,_,e,_=>by cases e
 |_::_,[],_,_,_,_,_,_,_,e,_=>by cases e
 |i::is,d::ds,vs,ρ,ρ',σ,Q,r,er,e,q=>by
  simp only [DVs] at r
  obtain ⟨v,w,rfl,rv,rw'⟩:=r
  exact ⟨v,w,rfl,NJ rw' (er.set rv) e q⟩
theorem NK {es:List Expr} {is:List Nat} {kt:Nat} {pos:Pos} (h:PG X (.Tuple es kt pos) (E2 X.K is.length (Ku is))):DR X (.Tuple es kt pos) (EA is):=⟨_,h,fun m H d v ρ σ ρ' Q r er e q=>by
 unfold EA at e
 split at e
 ·rename_i ds
  simp only [DV] at r
  obtain ⟨p,vs,rfl,hp,dv⟩:=r
  exact ⟨p,vs,rfl,SqT.of hp,by rw [←dv.len];exact NI e,NJ dv er e q⟩
 ·cases e⟩
end
theorem Kv {K:Frag} (h:etOk K=true) {n:Str} (hn:n∈excNames):∃C,nsIn K mainGlobals n=some (some (.ref C)):=by
 unfold etOk at h
 split at h
 ·rename_i S hS
  have h1:=qaI.mp h n hn
  cases e:CW K n with
  |none=>rw [e] at h1;cases h1
  |some C=>exact ⟨C,Nv e⟩
 ·cases h
section
variable {X:Cx} {E:XK}
theorem VU {x:Str} {pos:Pos} (et:etOk X.K=true) (hn:x∈excNames) (hg:Gl X x:=by rfl) (hd:(x==("__debug__":Str))=false:=by decide):Ev X E (.Name x pos) (mC (.glo x)):=by
 obtain ⟨a,h⟩:=Kv et hn
 exact Ve hg h hd
theorem VV {x:Str} {e:Expr} {es:List Expr} {fa:MA} {np cpos pos:Pos} (et:etOk X.K=true) (hn:x∈excNames) (hne:x≠"TooMany") (hg:Gl X x) (hc:X.calm=true) (th:Km X E) (ha:Cf X E (e::es) fa)
 (hdb:(x==("__debug__":Str))=false:=by decide) (he:starEach (e::es) X.env=(false,eval e X.env)::starEach es X.env:=by rfl) (hpl:(backTo cpos (starEach (e::es) X.env)).any (·.1)=false:=by rfl):
 Ex X E (.Raise (some (.Call (.Name x np) (e::es) [] cpos)) none pos) (Dq x fa):=by
 obtain ⟨C,h⟩:=Kv et hn
 exact UV ((HZ et hn h).at_ hne) h hg hc th ha hdb he hpl
end
theorem CaM.mono {P:Program} {w:World} {K:Frag} {mg:Str→Option Value} {base:Heap} {x:Str} {j k:Nat} {F:List D→HD→Out D} (C:CaM P w K mg base x j F) (h:j≤k):CaM P w K mg base x k F:=by
 obtain ⟨f,fd,ps,G,r⟩:=C.ex
 exact ⟨f,fd,ps,⟨fun A outer s H args us vs Q hr=>G.run A outer s H args us vs Q (hr.mono h)⟩,r⟩
structure SaidD (K:Frag) (mg:Str→Option Value) (st:Stmt) (fs:Addr) (fd:FuncData):Prop where
 fn:Fun K "_law_said" "_law_said" st fs fd
 bd:Binds K fd ["_law_call"] []
 mg:mg "_law_said"=some (.ref fs)
structure Kw (st:Stmt):Prop where
 sc:CD ["_law_call","_law_word","_law_e"] ["_law_call"] (defScope st)
 k0:(defScope st).names.lookup ("_law_call":Str)=some .local
 k1:(defScope st).names.lookup ("_law_word":Str)=some .local
 k2:(defScope st).names.lookup ("_law_e":Str)=some .local
 gS:(defScope st).names.lookup ("SwitchError":Str)=some .globalImplicit
 gK:(defScope st).names.lookup ("_law_kind":Str)=some .globalImplicit
 tx:∃p1 j1 p2 p3 p4 p5 p6 p7 p8 p9 p10 p11 p12 p13 p14 p15 p16,defBody st=[.Assign [.Name "_law_word" p1] (.Constant (.str "told") j1 p2) p3,.Try [.Expr (.Call (.Name "_law_call" p4) [] [] p5) p6] [.ExceptHandler (some (.Name "SwitchError" p7)) (some "_law_e") [.Assign [.Name "_law_word" p8] (.Call (.Name "_law_kind" p9) [.Name "_law_e" p10] [] p11) p12] p13] [] [] p14,.Return (some (.Name "_law_word" p15)) p16]
theorem VW {X:Cx} {E:XK} {c P:Addr} {Nc:List Str} {cs:List Nat} {params:Arguments} {body:Expr} {scope:Scope} {k kk:Nat} {Fk:List D→HD→Out D} {f:ME} {fs:Addr} {fd:FuncData} {st:Stmt} {lpos p pos:Pos}
 (L:LamX X c P) (fna:∀x,X.fn x=true) (hr:Room kk X.A) (lv:Lv X E) (et:etOk X.K=true) (Sd:SaidD X.K X.mg st fs fd) (St:Kw st) (hkind:CaM X.prog X.w X.K X.mg X.base "_law_kind" k Fk) (S:LSc X scope Nc cs)
 (hb:∀(a:Addr) (cd:Value) (cl:List (Str×Addr)) (A:Around) (outer:List Env) (s:Shared) (H:Hp) (E':XK),Room k (A.deeper (envX AY scope s.heap.objs.size a cd cl))→Ev (CY X.prog X.w X.K X.mg X.base Nc scope a cd cl A outer s H E') E' body f)
 (hg:Gl X "_law_said") (hkk:k+2≤kk:=by decide) (hdef:defaultsOf params X.env=([],[]):=by rfl)
 (hbind:∀(cl:List (Str×Addr)) (pm cv ctv:Value),bindArgs (kla_fn "<lambda>" AY params body scope cl pm cv ctv) ⟨[],[]⟩=pure []:=by exact fun _ _ _ _=>rfl)
 (he:starEach [.Lambda params body scope lpos] X.env=(false,eval (.Lambda params body scope lpos) X.env)::starEach [] X.env:=by rfl) (hpl:(backTo pos (starEach [] X.env)).any (·.1)=false:=by rfl):
 Ev X E (.Call (.Name "_law_said" p) [.Lambda params body scope lpos] [] pos) (B6 cs Fk f):=by
 obtain ⟨p1,j1,p2,p3,p4,p5,p6,p7,p8,p9,p10,p11,p12,p13,p14,p15,p16,hst⟩:=St.tx
 exact VE L fna (hr.mono hkk) lv et (Kv et (by decide +kernel)) Sd.fn Sd.bd Sd.mg Sd.fn.kp St.sc St.k0 St.k1 St.k2 (fun _ _=>St.gS) (fun _ _=>St.gK) hst hkind hg S hdef hbind hb he hpl
theorem VX {P:Program} {w:World} {K:Frag} {mg:Str→Option Value} {base:Heap} {x qual:Str} {st:Stmt} {f:Addr} {kV doc pm cdv ct oc:Value} {an od:Option Addr} {osl:Array (Option Value)} {N ps:List Str} {k:Nat} {F:List D→HD→Out D} {g:MS}
 (lk:K.lookup f=some ⟨oc,od,.func (PySem.W.fnOf x qual (defArgs st) (defBody st) (defScope st) .none kV doc pm an cdv ct),osl⟩) (hcd:PySem.W.codeIn K cdv qual=true) (S:CD N ps (defScope st)) (ar:Ar ps.length F)
 (hg:∀ds h,ds.length=ps.length→F ds h=Ax N.length g ds h)
 (hbody:∀(A:Around) (outer:List Env) (s:Shared) (H:Hp) (E:XK),Room k (A.deeper (envOfC qual (defScope st) s.heap.objs.size f cdv))→BQ (Bp (AK P w K) P w K mg base N qual (defScope st) f cdv A outer s H E) E (defBody st) g):
 FnOk P w K mg base (AK P w K) (k+1) f (PySem.W.fnOf x qual (defArgs st) (defBody st) (defScope st) .none kV doc pm an cdv ct) ps (Dr K F):=by
 refine LR lk hcd S (fun vs H Q E h=>HY ar h) fun A outer s H vs Q E hr h=>?_
 refine ⟨_,hbody A outer s H E hr,?_⟩
 have hl:=HY ar h
 obtain ⟨m,ds,hd,hr1,r,p⟩:=h
 have hld:ds.length=ps.length:=by rw [r.len];exact hl
 refine ⟨m,ds.map some++List.replicate (N.length - ds.length) none,hd,hr1,ER.start r,?_⟩
 rw [hg ds hd hld] at p
 unfold Ax at p
 cases o:g (ds.map some++List.replicate (N.length - ds.length) none) hd with
 |stuck=>rw [o] at p;exact p
 |err C fs h1=>rw [o] at p;exact p
 |ok a h1=>
  rw [o] at p
  obtain ⟨fl,ρ1⟩:=a
  intro m1 H1 p1 k1 hr1
  cases fl with
  |nx=>exact fun σ er=>p .non m1 H1 p1 k1 hr1 (by simp [rD,DV])
  |bk=>exact False.elim p
  |ct=>exact False.elim p
  |rt d=>exact fun v rv=>p v m1 H1 p1 k1 hr1 rv
def ZaG (K:Frag) (T:Addr):Bool:=match tabP K with
 |some (c,T')=>T'==T&&codeHdIn K c T
 |none=>false
end LS
namespace LS
open PySem PySem.Spec PyProof.Rows L2
def We {α:Type} (o:Out α) (Q:α→HD→Prop) (R:Str→List (Str×D)→HD→Prop):Prop:=match o with
 |.ok a h=>Q a h
 |.err (.str n _) fs h=>R n fs h
 |_=>False
section
variable {α β:Type} {o:Out α} {Q Q':α→HD→Prop} {R R':Str→List (Str×D)→HD→Prop}
@[simp] theorem ZaH (a:α) (h:HD):We (.ok a h) Q R=Q a h:=rfl
@[simp] theorem ZaI (n:Str) (t:Tok) (fs:List (Str×D)) (h:HD):We (.err (.str n t) fs h:Out α) Q R=R n fs h:=rfl
@[simp] theorem ZaJ:We .stuck Q R=False:=rfl
theorem BS {k:α→HD→Out β} {Q:β→HD→Prop}:We (o.bind k) Q R=We o (fun a h=>We (k a h) Q R) R:=by
 cases o with
 |ok a h=>rfl
 |err C fs h=>cases C<;>rfl
 |stuck=>rfl
theorem Wp.we (h:Wp o Q):We o Q R:=by
 cases o with
 |ok a h'=>exact h
 |_=>exact h.elim
theorem We.mono (h:We o Q R) (f:∀a h,Q a h→Q' a h) (g:∀n fs h,R n fs h→R' n fs h):We o Q' R':=by
 cases o with
 |ok a h'=>exact f _ _ h
 |err C fs h'=>cases C<;>first |exact g _ _ _ h |exact h.elim
 |stuck=>exact h
theorem Pu.we {h:HD} {a:α} (p:Pu o h a) (k:∀h',Sm h h'→Q a h'):We o Q R:=Wp.we (p.wp k)
end
def Er {α:Type} (o:Out α) (h:HD) (n:Str):Prop:=We o (fun _ _=>False) fun n' fs h'=>n'=n∧fs=[]∧Sm h h'
theorem Er.we {α:Type} {o:Out α} {h:HD} {n:Str} {Q:α→HD→Prop} {R:Str→List (Str×D)→HD→Prop} (e:Er o h n) (k:∀h',Sm h h'→R n [] h'):We o Q R:=We.mono e (fun _ _ z=>z.elim) fun n' fs h' z1_=>by obtain ⟨rfl,rfl,s⟩:=z1_;exact k h' s
theorem EB {N:Nat} {g:MS} {ds:List D} {h:HD} {Q:D→HD→Prop} {R:Str→List (Str×D)→HD→Prop}:We (Ax N g ds h) Q R=We (g (ds.map some++List.replicate (N - ds.length) none) h) (Gn Q) R:=by
 unfold Ax
 cases o:g (ds.map some++List.replicate (N - ds.length) none) h with
 |ok a h1=>
  obtain ⟨fl,ρ⟩:=a
  cases fl<;>rfl
 |err C fs h1=>cases C<;>rfl
 |stuck=>rfl
section
variable {ρ:Af} {h:HD} {Q:Fl×Af→HD→Prop} {QD:D→HD→Prop} {QB:Bool→HD→Prop} {R:Str→List (Str×D)→HD→Prop} {g g1 g2:MS} {f:ME} {t:MT} {fa:MA} {F:List D→HD→Out D}
def Kx (g2:MS) (Q:Fl×Af→HD→Prop) (R:Str→List (Str×D)→HD→Prop):Fl×Af→HD→Prop
 |(.nx,ρ),h=>We (g2 ρ h) Q R
 |y,h=>Q y h
@[simp] theorem ZaK:Kx g2 Q R (.nx,ρ) h=We (g2 ρ h) Q R:=rfl
@[simp] theorem ZaL {d:D}:Kx g2 Q R (.rt d,ρ) h=Q (.rt d,ρ) h:=rfl
@[simp] theorem ZaM:We (Ah g1 g2 ρ h) Q R=We (g1 ρ h) (Kx g2 Q R) R:=by
  unfold Ah
  rw [BS]
  congr 1
  funext x h1
  obtain ⟨fl,ρ1⟩:=x
  cases fl<;>rfl
@[simp] theorem ZaN:We (A2 ρ h) Q R=Q (.nx,ρ) h:=rfl
@[simp] theorem ZaO:We (CH f ρ h) Q R=We (f ρ h) (fun _ h1=>Q (.nx,ρ) h1) R:=by unfold CH;rw [BS];rfl
@[simp] theorem ZaP:We (As f ρ h) Q R=We (f ρ h) (fun d h1=>Q (.rt d,ρ) h1) R:=by unfold As;rw [BS];rfl
@[simp] theorem ZaQ {i:Nat}:We (Am i f ρ h) Q R=We (f ρ h) (fun d h1=>Q (.nx,ρ.set i (some d)) h1) R:=by unfold Am;rw [BS];rfl
@[simp] theorem ZaR:We (AW t g1 g2 ρ h) Q R=We (t ρ h) (fun b h1=>We (if b=true then g1 ρ h1 else g2 ρ h1) Q R) R:=by unfold AW;rw [BS]
@[simp] theorem ZaS:We (Ad F fa ρ h) QD R=We (fa ρ h) (fun ds h1=>We (F ds h1) QD R) R:=by unfold Ad;rw [BS]
@[simp] theorem ZaT {n:Str}:We (Dq n fa ρ h) Q R=We (fa ρ h) (fun xs h1=>We (if xs.length≤sizeLine then (.err (CJ n) [] h1:Out (Fl×Af)) else .stuck) Q R) R:=by unfold Dq;rw [BS]
@[simp] theorem ZaU:We (BB t ρ h) QB R=We (t ρ h) (fun b h1=>QB (!b) h1) R:=by unfold BB;rw [BS];rfl
@[simp] theorem ZaV {u:MT}:We (Hl t u ρ h) QB R=We (t ρ h) (fun b h1=>We (if b=true then u ρ h1 else .ok false h1) QB R) R:=by unfold Hl;rw [BS]
@[simp] theorem ZaW {u:MT}:We (B2 t u ρ h) QB R=We (t ρ h) (fun b h1=>We (if b=true then .ok true h1 else u ρ h1) QB R) R:=by unfold B2;rw [BS]
@[simp] theorem ZaX:We (BA f ρ h) QB R=We (f ρ h) (fun x h1=>We (CS x h1) QB R) R:=by unfold BA;rw [BS]
@[simp] theorem ZaY:We (A0 f ρ h) QB R=We (f ρ h) (fun x h1=>We (Ga x h1) QB R) R:=by unfold A0;rw [BS]
@[simp] theorem ZaZ {QA:List D→HD→Prop}:We (Ac ρ h) QA R=QA [] h:=rfl
@[simp] theorem Za0 {QA:List D→HD→Prop}:We (Aa f fa ρ h) QA R=We (f ρ h) (fun x h1=>We (fa ρ h1) (fun xs h2=>QA (x::xs) h2) R) R:=by
  unfold Aa;simp only [BS];rfl
@[simp] theorem Za1 {d:D} {r:Af}:We (Ab 0 (some d::r) h) QD R=QD d h:=rfl
@[simp] theorem Za2 {i:Nat} {x:Option D} {r:Af}:We (Ab (i+1) (x::r) h) QD R=We (Ab i r h) QD R:=rfl
@[simp] theorem Za3 {d:D}:We (mC d ρ h) QD R=QD d h:=rfl
@[simp] theorem Za4 {op:D→D→HD→Out D} {f':ME}:We (Ae op f f' ρ h) QD R=We (f ρ h) (fun x h1=>We (f' ρ h1) (fun y h2=>We (op x y h2) QD R) R) R:=by unfold Ae;simp only [BS]
@[simp] theorem Za5 {fj:MJ}:We (Ez fj ρ h) QD R=We (fj Str.empty ρ h) (fun x h1=>QD (.str x) h1) R:=by unfold Ez;rw [BS];rfl
end
def Et {α:Type} (o:Out α) (h:HD) (n:Str) (fs:List (Str×D)):Prop:=We o (fun _ _=>False) fun n' fs' h'=>n'=n∧fs'=fs∧Sm h h'
theorem Et.we {α:Type} {o:Out α} {h:HD} {n:Str} {fs:List (Str×D)} {Q:α→HD→Prop} {R:Str→List (Str×D)→HD→Prop} (e:Et o h n fs) (k:∀h',Sm h h'→R n fs h'):We o Q R:=We.mono e (fun _ _ z=>z.elim) fun n' fs h' z1_=>by obtain ⟨rfl,rfl,s⟩:=z1_;exact k h' s
theorem NL {cs:List Nat} {Fk:List D→HD→Out D} {f:ME} {ρ:Af} {h:HD} {ds:List D} {Q:D→HD→Prop} (ht:h[0]?=some .tab) (hd:AF (cs.map fun j=>(ρ[j]?).join)=some ds)
 (q:We (f (ds.map some) h) (fun _ h1=>Q (.str "told") h1) fun n fs h1=>n∈excNames∧∃is,Dt fs=some is∧Wp (Fk [.exc n is] h1) Q):Wp (B6 cs Fk f ρ h) Q:=by
 unfold B6
 rw [ht,hd]
 simp only
 unfold Kt
 cases o:f (ds.map some) h with
 |ok a h1=>rw [o] at q;exact q
 |stuck=>rw [o] at q;exact q.elim
 |err C fs h1=>
  rw [o] at q
  cases C with
  |str n t=>
   obtain ⟨hn,is,hi,hk⟩:=(show n∈excNames∧∃is,Dt fs=some is∧Wp (Fk [.exc n is] h1) Q from q)
   simp only [hn,if_true,hi]
   cases e:Fk [.exc n is] h1 with
   |ok d h2=>rw [e] at hk;exact hk
   |_=>rw [e] at hk;exact hk.elim
  |_=>exact q.elim
def Rp (n L:Nat) (d:D):Prop:=∃p:PyData,(∀(h:HD) (m:Nat),A1 h (n+m) d=some p)∧p.showable=true∧p.hasDict=false∧p.depth≤n∧p.shown.length≤L
theorem NM {n L:Nat}:∀{ds:List D},(∀d∈ds,Rp n L d)→∃ps:List PyData,(∀(h:HD) (m:Nat),AF (ds.map (A1 h (n+m)))=some ps)∧PyData.showableAll ps=true∧PyData.hasDictAll ps=false∧PyData.depthAll ps≤n∧ps.length=ds.length∧∀t∈PyData.shownAll ps,t.length≤L
 |[],_=>⟨[],fun _ _=>rfl,rfl,rfl,B9 _,rfl,fun t ht=>by cases ht⟩
 |d::ds,hd=>by
  obtain ⟨p,a1,a2,a3,a4,a5⟩:=hd d AE
  obtain ⟨ps,b1,b2,b3,b4,b5,b6⟩:=NM (fun x hx=>hd x (AI _ hx))
  refine ⟨p::ps,fun h m=>?_,by simp [PyData.showableAll,a2,b2],by simp [PyData.hasDictAll,a3,b3],by simp only [PyData.depthAll];omega,by simp [b5],fun t ht=>?_⟩
  ·rw [Bg,a1 h m]
   simp only [AF,b1 h m]
   rfl
  ·simp only [PyData.shownAll] at ht
   rcases qaB.mp ht with e |e
   ·rw [e];exact a5
   ·exact b6 t e
theorem NO {L:Nat}:∀{ts:List Str},(∀t∈ts,t.length≤L)→piled ts≤ts.length*(L+2)
 |[],_=>by simp [piled]
 |t::ts,h=>by
  have h1:=h t AE
  have h2:=NO (fun x hx=>h x (AI _ hx)) (ts:=ts) (L:=L)
  simp only [piled] at *
  simp [EY]
  omega
theorem NP:∀{ps:List PyData},(PyData.shownAll ps).length=ps.length
 |[]=>rfl
 |p::ps=>by simp [PyData.shownAll,NP (ps:=ps)]
theorem Ic {n L k:Nat} {ds:List D} (h:∀d∈ds,Rp n L d) (hk:ds.length≤k):Rp (n+1) (k*(L+2)+3) (.tup ds):=by
 obtain ⟨ps,b1,b2,b3,b4,b5,b6⟩:=NM h
 refine ⟨.tuple ps,fun h m=>?_,by simpa [PyData.showable] using b2,by simpa [PyData.hasDict] using b3,by simp only [PyData.depth];omega,?_⟩
 ·rw [show n+1+m=(n+m)+1 by omega]
  simp only [A1,b1 h m]
  rfl
 ·simp only [PyData.shown,tupleText]
  have hl:(PyData.shownAll ps).length=ds.length:=by rw [NP,b5]
  have hj:(Str.join ", " (PyData.shownAll ps)).length≤k*(L+2):=by
   by_cases he:PyData.shownAll ps=[]
   ·rw [he];exact B9 _
   ·have h1:=join_length_add _ he
    have h2:=NO b6
    have h3:(PyData.shownAll ps).length*(L+2)≤k*(L+2):=Nat.mul_le_mul_right _ (by rw [hl];exact hk)
    omega
  rw [strLen_append,strLen_append]
  have e1:((("(":String):Str)).length=1:=rfl
  have e2:(((if (PyData.shownAll ps).length==1 then ",)" else ")":String):Str)).length≤2:=by split<;>decide
  omega
theorem VY {n L L':Nat} {d:D} (h:Rp n L d) (hl:L≤L'):Rp n L' d:=by
 obtain ⟨p,a1,a2,a3,a4,a5⟩:=h
 exact ⟨p,a1,a2,a3,a4,Bc a5 hl⟩
theorem NQ {n L:Nat} {d:D} (h:Rp n L d) (hn:n≤8) (hl:L≤sizeLine):∃x:Str,∀hd,BR d hd=.ok (.str x) hd:=by
 obtain ⟨p,a1,a2,a3,a4,a5⟩:=h
 refine ⟨p.shown,fun hd=>?_⟩
 have e:=a1 hd (8 - n)
 rw [show n+(8 - n)=8 by omega] at e
 unfold BR
 rw [e]
 simp only
 rw [if_pos ⟨a2,a3,by omega,Bc a5 hl⟩]
theorem NR {i:Int} (h1:0≤i) (h2:i<10):Rp 0 2 (.int i):=by
 refine ⟨.int i,fun h m=>by cases m<;>rfl,?_,rfl,by simp [PyData.depth],?_⟩
 ·obtain ⟨k,rfl⟩:∃k:Nat,i=(k:Int):=⟨i.toNat,by omega⟩
  have hk:k<10:=by omega
  match k,hk with
  |0,_=>decide
  |1,_=>decide
  |2,_=>decide
  |3,_=>decide
  |4,_=>decide
  |5,_=>decide
  |6,_=>decide
  |7,_=>decide
  |8,_=>decide
  |9,_=>decide
 ·obtain ⟨k,rfl⟩:∃k:Nat,i=(k:Int):=⟨i.toNat,by omega⟩
  have hk:k<10:=by omega
  match k,hk with
  |0,_=>decide
  |1,_=>decide
  |2,_=>decide
  |3,_=>decide
  |4,_=>decide
  |5,_=>decide
  |6,_=>decide
  |7,_=>decide
  |8,_=>decide
  |9,_=>decide
section
variable {h:HD} {i j:Int} {ds:List D} {a b:D} {l:Nat} {x y:Str}
@[simp] theorem Za6:Bn (.str x) (.str y) h=.ok (.bl (!(x==y))) h:=rfl
@[simp] theorem Za7:CK (.str x) (.str y) h=.ok (.bl (x==y)) h:=rfl
@[simp] theorem Za8:Bn (.int i) (.int j) h=.ok (.bl (!(i==j))) h:=rfl
@[simp] theorem Za9:CK (.int i) (.int j) h=.ok (.bl (i==j)) h:=rfl
@[simp] theorem Zba {c d:Bool}:Bn (.bl c) (.bl d) h=.ok (.bl (!(c==d))) h:=rfl
@[simp] theorem Zbb {c d:Bool}:CK (.bl c) (.bl d) h=.ok (.bl (c==d)) h:=rfl
@[simp] theorem Zbc {es:List D}:Bn (.tup ds) (.tup es) h=DQ (.tup ds) (.tup es) h:=rfl
@[simp] theorem Zbd {es:List D}:CK (.tup ds) (.tup es) h=Ge (.tup ds) (.tup es) h:=rfl
@[simp] theorem Zbe:BD (.int i) (.int j) h=Cj (.int i) (.int j) h:=rfl
@[simp] theorem VZ:BD (.loc l) b h=Cj (.loc l) b h:=rfl
@[simp] theorem Zbf:Aw (.int i) b h=Ba (.int i) b h:=rfl
@[simp] theorem Zbg {c:Bool}:Aw (.bl c) b h=Ba (.bl c) b h:=rfl
@[simp] theorem Zbh:Aw .non b h=Ba .non b h:=rfl
@[simp] theorem Zbi:Aw (.str x) b h=Ba (.str x) b h:=rfl
@[simp] theorem Zbj:Aw (.tup ds) b h=Ba (.tup ds) b h:=rfl
@[simp] theorem V0:Aw (.loc l) b h=Ba (.loc l) b h:=rfl
@[simp] theorem Zbk {c:Bool}:Ba (.bl c) (.ty "int") h=.ok (.bl true) h:=rfl
@[simp] theorem Zbl {c:Bool}:Ba (.bl c) (.ty "bool") h=.ok (.bl true) h:=rfl
@[simp] theorem Zbm {c:Bool}:Ba (.bl c) (.ty "tuple") h=.ok (.bl false) h:=rfl
@[simp] theorem Zbn:Ba .non (.ty "int") h=.ok (.bl false) h:=rfl
@[simp] theorem Zbo:Ba .non (.ty "tuple") h=.ok (.bl false) h:=rfl
@[simp] theorem Zbp:Ba (.str x) (.ty "int") h=.ok (.bl false) h:=rfl
@[simp] theorem Zbq:Ba (.str x) (.ty "tuple") h=.ok (.bl false) h:=rfl
theorem V1 (e:h[l]?=some (.lst ds)):Ba (.loc l) (.ty "int") h=.ok (.bl false) h:=by
 simp only [Ba,CI,e];rfl
theorem V2 (e:h[l]?=some (.lst ds)):Ba (.loc l) (.ty "tuple") h=.ok (.bl false) h:=by
 simp only [Ba,CI,e];rfl
@[simp] theorem Zbr:Aw .edic (.ty "int") h=.ok (.bl false) h:=rfl
@[simp] theorem Zbs:Aw .edic (.ty "tuple") h=.ok (.bl false) h:=rfl
theorem CZ {n n':Str} {fs:List (Str×Int)} (h1:n∈excNames) (h2:n'∈excNames):Aw (.exc n fs) (.glo n') h=.ok (.bl (Bd n n')) h:=if_pos ⟨h1,h2⟩
theorem V3 {n:Str} {fs:List (Str×Int)} (h1:n∈excNames):Aw (.exc n fs) (.ty "ValueError") h=.ok (.bl true) h:=if_pos ⟨h1,rfl⟩
@[simp] theorem Zbt {ρ:Af} {c d:D} {i j k l:Nat}:EA [i,j,k,l] (.tup [a,b,c,d]) ρ=some ((((ρ.set i (some a)).set j (some b)).set k (some c)).set l (some d)):=rfl
theorem V4 (hz:x.length+y.length≤1000):Aq (.str x) (.str y) h=.ok (.str (x++y)) h:=by
 simp only [Aq]
 rw [if_pos (by unfold sizeLine;omega)]
theorem Gw {xs ys:List D} {k:Nat} (e1:h[l]?=some (.lst xs)) (e2:h[k]?=some (.lst ys)):Aq (.loc l) (.loc k) h=Bi (xs++ys) h:=by simp only [Aq,e1,e2]
theorem V5 {vs:List V} {w:V} (e:h[l]?=some (.lst ds)) (e1:AF (ds.map B4)=some vs) (e2:B4 a=some w):Eu (.loc l) a h=.ok (.int (Fv w vs)) h:=by
 simp only [Eu,BN,e,Out.bind_ok,Fw,A7,e1,e2]
theorem V6 {vs:List V} {w:V} {j:Nat} (e:h[l]?=some (.lst ds)) (e1:AF (ds.map B4)=some vs) (e2:B4 a=some w) (e3:H0 w vs=some j):Ew (.loc l) a h=.ok (.int j) h:=by
 simp only [Ew,e,e1,e2,e3]
@[simp] theorem NS {chk:D→HD→Out D} {op:D→D→HD→Out D} {f g:ME} {ρ:Af} {Q:D→HD→Prop}:Wp (By chk op f g ρ h) Q=Wp (f ρ h) fun x h1=>Wp (chk x h1) fun x h2=>Wp (g ρ h2) fun y h3=>Wp (op x y h3) Q:=by unfold By;simp only [Al]
@[simp] theorem sz6:(6≤sizeLine)=True:=eq_true (by unfold sizeLine;omega)
@[simp] theorem sz7:(7≤sizeLine)=True:=eq_true (by unfold sizeLine;omega)
@[simp] theorem sz8:(8≤sizeLine)=True:=eq_true (by unfold sizeLine;omega)
@[simp] theorem sz9:(9≤sizeLine)=True:=eq_true (by unfold sizeLine;omega)
@[simp] theorem Zbu:(10≤sizeLine)=True:=eq_true (by unfold sizeLine;omega)
theorem NT {k:Nat} (hne:ds≠[]) (hz:ds.length*k≤1000) (hk:1<k:=by decide):BD (.tup ds) (.int (k:Nat)) h=.ok (.tup (List.replicate k ds).flatten) h:=by
 simp only [BD]
 have h1:k≤1000:=by
  have:1≤ds.length:=by
   cases ds with
   |nil=>exact absurd rfl hne
   |cons _ _=>simp
  have:=Nat.mul_le_mul_right k this
  omega
 rw [if_pos ⟨hne,by omega,by omega,by simp;unfold sizeLine;omega⟩]
 simp
end
section
variable {ρ:Af} {h:HD} {Q:Str→HD→Prop} {R:Str→List (Str×D)→HD→Prop} {acc y:Str} {r:MJ} {f:ME} {n:Nat} {i:Int}
end
end LS
namespace LS
open PySem PySem.Spec PyProof.Rows L2 PySem.W
section
variable {X:Cx} {E:XK}
def Fz:D→HD→Out D:=fun x h=>match A7 x h with
 |some ds=>Bi ds h
 |none=>.stuck
theorem V7:B3 X (.type "list") (Aj Fz):=by
 refine ⟨_,So,fun m H h E ds vs Q hr r q=>Ei r q fun d v ev rv q=>?_⟩
 unfold Fz at q
 split at q
 ·rename_i ds' e
  obtain ⟨p,ws,rfl,hs,dv⟩:=JY hr rv e
  exact ⟨p,ws,ev,hs,(Fb hr dv q).2⟩
 ·exact q.elim
theorem V8 {pos:Pos}:Ev X E (.Dict [] [] pos) (mC .edic):=fun pins s σ H Q I z1_=>by
 obtain ⟨m,ρ,h,hr,er,p⟩:=z1_
 have hf:H s.heap.objs.size=none:=I.hok.fresh (Ap _)
 refine wpAny_Dict_empty ⟨.ref s.heap.objs.size,Ai H s.heap.objs.size (.ext (JM s.heap.objs.size)),I.laid (t':=s.toks) (fun _ _ q=>AH _ q) (Ap _) ?_,rfl,?_⟩
 ·have ne:s.heap.objs.size≠sysModules:=by
   obtain ⟨og,_,_,eg,_⟩:=I.ok.mod.glob
   obtain ⟨ml,⟨ol,_,_,el,_⟩,_⟩:=I.loc
   have h1:(3:Nat)<X.base.objs.size:=AA eg
   have h2:(X.env.locals:Nat)<s.heap.objs.size:=AA el
   have h3:X.base.objs.size≤X.s₀.heap.objs.size:=I.ok.bsz
   have h4:X.s₀.heap.objs.size≤(X.env.locals:Nat):=I.ok.above
   have h5:(1:Nat)<s.heap.objs.size:=AN (AN (show 1<4 by decide) h1) (Bc h3 (Bc h4 (Ea h2)))
   exact fun z=>Nat.ne_of_gt h5 z
  exact ⟨⟨ne,_,_,Bf _ rfl,⟨rfl,rfl,rfl⟩,rfl⟩,⟨_,Bf _ rfl⟩,fun h1 h2 z2_ k=>by obtain ⟨ne,o,ep,z1,z2⟩:=z2_;exact (⟨ne,o,ep,k o z1,z2⟩)⟩
 ·exact p (.ref s.heap.objs.size) m _ (Ay _) (.new hf) (hr.new hf) (by simp only [rD,DV];exact ⟨_,rfl,BZ⟩)
def Zbv (T:List (Str×(List D→HD→Out D))) (fv:ME) (fa:MA):ME:=fun ρ h=>(fv ρ h).bind fun d h1=>match d with
 |.glo n=>(match T.lookup n with
  |some F=>(fa ρ h1).bind F
  |none=>.stuck)
 |_=>.stuck
def Zbw (P:Program) (w:World) (K:Frag) (mg:Str→Option Value) (base:Heap) (k:Nat) (T:List (Str×(List D→HD→Out D))):Prop:=∀n F,T.lookup n=some F→CaE P w K mg base n k F
theorem CaE.mono {P:Program} {w:World} {K:Frag} {mg:Str→Option Value} {base:Heap} {x:Str} {j k:Nat} {F:List D→HD→Out D} (C:CaE P w K mg base x j F) (h:j≤k):CaE P w K mg base x k F:=by
 obtain ⟨f,fd,ps,G,r⟩:=C.ex
 exact ⟨f,fd,ps,G.mono h,r⟩
end
def Zbx (K:Frag) (c:Addr):Bool:=match tabP K with
 |some (c',T)=>c'==c&&codeHdIn K c T
 |none=>false
section
variable {prog:Program} {w:World} {A:Around} {E:Str→Value→Shared→Prop}
end
section
variable {X:Cx} {E:XK}
def V9 (K:PySem.W.Frag):V→Option Int→Option Int→Hp→VK→Prop:=fun x lo hi H Q=>∃a xs,x=.ref a∧SqT K H a xs∧HT.sIx xs.length 0 lo=0∧HT.sIx xs.length xs.length hi=xs.length∧Q (.ref a) H
theorem sl_whole:SlR X (V9 X.K):=by
 rintro pins s σ H x v vl vu lo hi sl Q I rx hs pl pu ⟨a,xs,rfl,hx,w0,w1,q⟩
 cases rx
 obtain ⟨its,r,ht,hz⟩:=I.tuple hx
 have hl:its.toArray.size=xs.length:=by rw [AZ];exact r.length.symm
 rw [←hl] at w0 w1
 obtain ⟨os,hos,hcs,hds⟩:=id hs
 refine ⟨"tuple",_,slot_tuple_getitem.lookup,ht.typeIs,?_⟩
 unfold getItem
 try with_reducible refine wpAny_holding ?_
 first |refine wpAny_bind (wpAny_pure ?_) |skip
 refine wpAny_bind (wpAny_sequenceKey ht.typeIs (by decide) (wpAny_bind (wpAny_callSpecial?_slot (name:=Str.ofString "__getitem__") ht.typeIs slot_tuple_getitem
  (wpAny_call_entry slot_tuple_getitem ht.typeIs entry_tuple_getitem ?_ (args_tuple_getitem _ _)))))
 show wpAny _ _ (Builtin.Tuple.tupleItemsOf (.ref a) >>=_) _ _ s
 refine wpAny_bind (tupleItemsOf_ ht (wpAny_bind (wpAny_typeOf (show s.TypeIs (.ref sl) "slice" from ⟨os,hos,hcs⟩) ?_)))
 rw [if_pos (by decide)]
 refine wpAny_bind (HT.sliceApplied_gen hs pl pu ?_)
 have hy:(((HT.sIx its.toArray.size 0 lo:Nat):Int)==0&&(1:Int)==1&&(HT.sIx its.toArray.size its.toArray.size hi - HT.sIx its.toArray.size 0 lo)==its.toArray.size)=true:=by
  rw [w0,w1]
  simp
 show wpAny _ _ (if (((HT.sIx its.toArray.size 0 lo:Nat):Int)==0&&(1:Int)==1&&(HT.sIx its.toArray.size its.toArray.size hi - HT.sIx its.toArray.size 0 lo)==its.toArray.size)=true then _ else _) _ _ s
 rw [if_pos hy]
 unfold Builtin.Tuple.tupleIsExact
 refine wpAny_bind (wpAny_bind (wpAny_typeOf ht.typeIs (wpAny_pure ?_)))
 rw [if_pos (by decide)]
 refine wpAny_bind (wpAny_rule ?_)
 have Ao:EP X pins σ Q (.ref a) s:=⟨.ref a,H,I,rfl,q⟩
 first
  |exact wpAny_pure ⟨_,rfl,wpAny_pure Ao⟩
  |exact wpAny_pure Ao
def Dv (x:D) (lo hi:Option Int) (h:HD):Out D:=match x with
 |.tup xs=>.ok (.tup (DX xs lo hi)) h
 |_=>.stuck
def Cw (f:ME) (lo hi:MO):ME:=fun ρ h=>(f ρ h).bind fun x h1=>(lo ρ h1).bind fun l h2=>(hi ρ h2).bind fun u h3=>Dv x l u h3
theorem Wa {α:Type} {xs:List α} {lo hi:Option Int} (h0:HT.sIx xs.length 0 lo=0) (h1:HT.sIx xs.length xs.length hi=xs.length):(xs.drop (HT.sIx xs.length 0 lo)).take (HT.sIx xs.length xs.length hi - HT.sIx xs.length 0 lo)=xs:=by
 rw [h0,h1];simp
theorem Wb {e:Expr} {lo hi:Option Expr} {f:ME} {fl fh:MO} {p2 pos:Pos} (he:Ev X E e f) (hl:Fu X E lo fl) (hu:Fu X E hi fh):Ev X E (.Subscript e (.Slice lo hi none p2) pos) (Cw f fl fh):=
 Bq (LW (sl_whole.or R9) he hl hu) fun σ H Q ⟨m,ρ,h,hr,er,p⟩=>⟨m,ρ,h,hr,er,Post.bind p fun x h1 v m1 H1 eo1 p1 k1 hr1 r1 q1=>
  ⟨m1,ρ,h1,hr1,er.keep p1 k1,Post.bind q1 fun l h2 l' m2 H2 eo2 p2 k2 hr2 r2 q2=>
   ⟨m2,ρ,h2,hr2,(er.keep p1 k1).keep p2 k2,Post.bind q2 fun u h3 u' m3 H3 eo3 p3 k3 hr3 r3 q3=>by
    clear eo1 eo2 eo3
    subst r2 r3
    have rx:=DV.keep p3 k3 (DV.keep p2 k2 r1)
    unfold Dv at q3
    split at q3
    ·rename_i xs
     have rx0:=rx
     simp only [DV] at rx
     obtain ⟨a,vs,rfl,ha,dv⟩:=rx
     by_cases hz:HT.sIx xs.length 0 l=0∧HT.sIx xs.length xs.length u=xs.length
     ·refine .inl ⟨a,vs,rfl,SqT.of ha,by rw [←dv.len];exact hz.1,by rw [←dv.len];exact hz.2,?_⟩
      have e:DX xs l u=xs:=Wa hz.1 hz.2
      rw [e] at q3
      exact q3 (.ref a) m3 H3 (Ay _) (.refl _) hr3 rx0
     ·rw [dv.len] at hz
      exact .inr ⟨a,vs,rfl,SqT.of ha,hz,DO hr3 (dv.cut l u) q3⟩
    ·exact q3.elim⟩⟩⟩
theorem Ky {xs:List D} {k:Nat} {h:HD} (hk:k≤xs.length):Dv (.tup xs) none (some (k:Int)) h=.ok (.tup (xs.take k)) h:=by
 simp only [Dv]
 unfold DX
 rw [HT.sIx_nat,HT.sIx_none,GX,show min k xs.length - 0=k from by omega]
theorem NU {xs:List D} {k:Nat} {i:Int} {h:HD} (hi:i=((k+1:Nat):Int)) (hk:k<xs.length):Dv (.tup xs) (some i) none h=.ok (.tup (xs.drop (k+1))) h:=by
 subst hi
 simp only [Dv]
 unfold DX
 rw [HT.sIx_nat,HT.sIx_none,show min (k+1) xs.length=k+1 from by omega]
 congr 2
 exact GO (by simp)
theorem Wc {xs:List D} {h:HD} (hk:1≤xs.length):Dv (.tup xs) none (some (-1)) h=.ok (.tup (xs.take (xs.length - 1))) h:=by
 have e:HT.sIx xs.length xs.length (some (-1))=xs.length - 1:=by
  simp only [HT.sIx]
  rw [if_pos (by decide)]
  omega
 simp only [Dv]
 unfold DX
 rw [e,HT.sIx_none,GX,Nat.sub_zero]
end
section
variable {f:ME} {lo hi:MO} {ρ:Af} {h:HD} {Q:D→HD→Prop}
@[simp] theorem Zby:Wp (Cw f lo hi ρ h) Q=Wp (f ρ h) fun x h1=>Wp (lo ρ h1) fun l h2=>Wp (hi ρ h2) fun u h3=>Wp (Dv x l u h3) Q:=by unfold Cw;simp only [Al]
end
section
variable {K:Frag} {mg:Str→Option Value} {h:Heap}
theorem SaidD.of {st:Stmt} {f:Addr} {fd:FuncData} (d:Dn K mg "_law_said" ["_law_call"] st f fd):SaidD K mg st f fd:=⟨d.fn,d.bd,d.mg⟩
end
open AutoSeq1 (wpAny_loadPart')
section
variable {prog:Program} {w:World} {A:Around} {E:Value→Shared→Prop} {s:Shared}
theorem Wd {Q:List Value→Shared→Prop} {r:Addr} {a b c:Int} {t u v:Tok} {n:Nat} (hh:A.handled=none) (hr:IsRange s.heap r a b c t u v) (hsmall:Builtin.Range.small a b c=true)
 (hn:Builtin.Range.rangeSize a b c=n) (hlen:n≤2^24)
 (hQ:∀h' tk acc,(∀b o,s.heap.get? b=some o→h'.get? b=some o)→ItemsOf (fun i v=>∃t,v=.int (a+i*c) t) acc n→Q acc.toList {s with heap:=h',toks:=tk}):
 wpAny (model prog w) A (collect (.ref r)) Q E s:=by
 unfold collect
 refine wpAny_bind (wpAny_runValue (codeAny_builtin F.entry_proto_collect ?_))
 rw [Around.under_plainId F.plain_proto_collect _]
 show wpAny _ A.in1 (newList [] >>=fun l=>again (.builtin "list.__iadd__" ⟨[l,.ref r],[]⟩)) _ _ s
 refine wpAny_bind (wpAny_newObj_type ?_)
 refine wpAny_pure ⟨plainId_quiet F.plain_list_iadd _,codeAny_builtin F.entry_list_iadd ?_⟩
 rw [Around.under_plainId F.plain_list_iadd _]
 have hS:(s.heap.push {cls:=.type "list",data:=.seq ([]:List Value).toArray}).get? s.heap.objs.size=some {cls:=.type "list",data:=.seq #[]}:=Bf _ rfl
 show wpAny _ A.in1 (Builtin.List.listExtendWith (.ref s.heap.objs.size) (.ref r) (.ref s.heap.objs.size)) _ _ _
 refine wpAny_mono (wpAny_extend_range (A:=A) (s:={s with heap:=s.heap.push {cls:=.type "list",data:=.seq ([]:List Value).toArray}})
  (R:=fun res s'=>∃h' tk acc c',(∀b o,b≠s.heap.objs.size→(s.heap.push {cls:=.type "list",data:=.seq ([]:List Value).toArray}).get? b=some o→h'.get? b=some o)∧
   h'.get? s.heap.objs.size=some {cls:=.type "list",dict:=none,data:=.seq acc c',slots:=#[]}∧ItemsOf (fun i v=>∃t,v=.int (a+i*c) t) acc n∧res=.ok (.ret (.ref s.heap.objs.size))∧s'={s with heap:=h',toks:=tk})
  hh (AH _ hr) hsmall hn hlen _ (.ref s.heap.objs.size) 0 hS fun h' tk acc c' hk hS' hacc=>⟨h',tk,acc,c',hk,hS',hacc,rfl,rfl⟩) (fun Ao s' hx=>?_) (fun e s' hx=>?_)
 ·have fin_ok:∀{res:Result} {s':Shared},(∃h' tk acc c',(∀b o,b≠s.heap.objs.size→(s.heap.push {cls:=.type "list",data:=.seq ([]:List Value).toArray}).get? b=some o→h'.get? b=some o)∧
   h'.get? s.heap.objs.size=some {cls:=.type "list",dict:=none,data:=.seq acc c',slots:=#[]}∧ItemsOf (fun i v=>∃t,v=.int (a+i*c) t) acc n∧res=.ok (.ret (.ref s.heap.objs.size))∧s'={s with heap:=h',toks:=tk})→
   res=.ok (.ret (.ref s.heap.objs.size))∧wpAny (model prog w) A (load s.heap.objs.size >>=fun o=>match o.data with |.seq xs _=>pure xs.toList |_=>unsupported "internal:collect") Q E s':=fun {res s'} hx=>by
   obtain ⟨h',tk,acc,c',hk,hS',hacc,rfl,rfl⟩:=hx
   refine ⟨rfl,wpAny_bind (wpAny_load hS' ?_)⟩
   exact wpAny_pure (hQ h' tk acc (fun b o e=>hk b o (BL (AA e)) (AH _ e)) hacc)
  cases Ao with
  |done f=>
   obtain ⟨e,q⟩:=fin_ok hx
   cases e
   exact q
  |again c'=>
   refine ⟨hx.1,codeAny_mono hx.2 fun res s'' hy=>?_⟩
   obtain ⟨e,q⟩:=fin_ok hy
   subst e
   exact q
 ·obtain ⟨_,_,_,_,_,_,_,z,_⟩:=hx
  cases z
end
theorem Wf (r:Addr) (a b c:Int) (t u v:Tok) (n:Nat) (hsmall:Builtin.Range.small a b c=true) (hn:Builtin.Range.rangeSize a b c=n) (hlen:n≤2^24):
 Meets (Builtin.«tuple.__new__» ⟨[.type "tuple",.ref r],[]⟩)
  (fun A R s=>A.handled=none∧IsRange s.heap r a b c t u v∧∀(h':Heap) (tk:Tok) (acc:Array Value),(∀b o,s.heap.get? b=some o→h'.get? b=some o)→ItemsOf (fun i v=>∃t,v=.int (a+i*c) t) acc n→
   R (.ok (.ret (.ref h'.objs.size))) {s with heap:=h'.push {cls:=.type "tuple",data:=.seq acc},toks:=tk}):=
 .of_wp fun prog w A R s h=>by
  obtain ⟨hh,hr,h⟩:=h
  have hsub:=sub_tuple_self
  have hinit:=init_tuple_lookup
  have hmh:=madeHere_tuple
  have hT:s.TypeIs (.ref r) "range":=⟨_,hr,rfl⟩
  have hh1:A.in1.handled=none:=hh
  wp_walk using wpAny_typeOf hT,Wd hh1 hr hsmall hn hlen
  intro h' tk acc hk hacc
  show wpAny _ _ (Builtin.Tuple.tupleExact acc.toList.toArray >>=fun v=>ret v) _ _ _
  unfold Builtin.Tuple.tupleExact
  refine wpAny_bind (wpAny_newObj_type ?_ (show acc.toList.toArray.size≤sizeLine by simp only [Array.toArray_toList];rw [hacc.1,sizeLine_eq];omega))
  refine wpAny_pure ⟨_,rfl,?_⟩
  have e:acc.toList.toArray=acc:=by simp
  rw [e]
  exact h h' tk acc hk hacc
theorem Wg {prog:Program} {w:World} {A:Around} {E:Value→Shared→Prop} {s:Shared} {Q:Value→Shared→Prop} {r:Addr} {a b c:Int} {t u v:Tok} {n:Nat} (hh:A.handled=none) (hr:IsRange s.heap r a b c t u v) (hsmall:Builtin.Range.small a b c=true)
 (hn:Builtin.Range.rangeSize a b c=n) (hlen:n≤2^24)
 (h:∀(h':Heap) (tk:Nat) (acc:Array Value),(∀b o,s.heap.get? b=some o→h'.get? b=some o)→ItemsOf (fun i v=>∃t,v=.int (a+i*c) t) acc n→Q (.ref h'.objs.size) {s with heap:=h'.push {cls:=.type "tuple",data:=.seq acc},toks:=tk}):
 wpAny (model prog w) A (call (.type "tuple") [.ref r]) Q E s:=by
 refine callType_new F.called_tuple (by decide) (F.typeCall_tuple_1 _) (F.newCall_tuple_1 _) (fun obj=>F.args_object_init_2 obj _) F.entry_tuple_new
  (Wf r a b c t u v n hsmall hn hlen) ⟨hh,hr,fun h' tk acc hk hacc=>⟨⟨_,Bf _ rfl,rfl⟩,h h' tk acc hk hacc⟩⟩
def Gx (r:Addr) (n:Nat) (h:Heap):Prop:=∃t u v,IsRange h r 0 (n:Int) 1 t u v
theorem NV:∀(n k:Nat) (us:List Value),us.length=n→(∀(j:Nat) (v:Value),us[j]?=some v→∃t,v=Value.int ((k:Int)+(j:Int)) t)→Vals ((List.range' k n).map fun i=>V.int ((i:Nat):Int)) us
 |0,k,us,hl,h=>by
  rw [List.length_eq_zero_iff.mp hl]
  exact .nil
 |n+1,k,us,hl,h=>by
  cases us with
  |nil=>cases hl
  |cons u us=>
   rw [List.range'_succ,Bg]
   refine .cons ?_ (NV n (k+1) us (Nat.succ.inj hl) fun j v e=>?_)
   ·obtain ⟨t,e⟩:=h 0 u rfl
    exact ⟨t,by rw [e];simp⟩
   ·obtain ⟨t,e⟩:=h (j+1) v (by simpa using e)
    exact ⟨t,by rw [e];congr 1;push_cast;omega⟩
section
variable {X:Cx} {E:XK}
inductive NW (vs:List V) (H:Hp) (Q:VK):Prop where
 |mk (n:Nat) (e:vs=[.int (n:Int)]) (hn:n≤1000) (q:∀p,H p=none→Q (.ref p) (Ai H p (.ext (Gx p n)))):NW vs H Q
inductive NX (vs:List V) (H:Hp) (Q:VK):Prop where
 |mk (r:Addr) (n:Nat) (e:vs=[.ref r]) (hr:H r=some (.ext (Gx r n))) (hn:n≤1000) (q:∀p,H p=none→Q (.ref p) (Ai H p (.tup ((List.range n).map fun i=>V.int ((i:Nat):Int))))):NX vs H Q
theorem Wh:B1 X (.type "range") NW:=by
 intro pins s σ H vs us Q I r h
 obtain ⟨n,rfl,hn,q⟩:=h
 obtain ⟨u,rfl,t,rfl⟩:=Vals.one r
 refine call_range_1 ?_
 have hf:H s.heap.objs.size=none:=I.hok.fresh (Ap _)
 refine ⟨.ref s.heap.objs.size,Ai H s.heap.objs.size (.ext (Gx s.heap.objs.size n)),I.laid (fun b o e=>AH _ e) (Ap _) ?_,rfl,q _ hf⟩
 exact ⟨⟨_,_,_,Bf _ rfl⟩,⟨_,Bf _ rfl⟩,fun h1 h2 z k=>by obtain ⟨t,u,v,e⟩:=z;exact ⟨t,u,v,k _ e⟩⟩
theorem Wi (hc:X.calm=true):B1 X (.type "tuple") NX:=by
 intro pins s σ H vs us Q I r h
 obtain ⟨a,n,rfl,hr,hn,q⟩:=h
 obtain ⟨u,rfl,ru⟩:=Vals.one r
 cases (show u=Value.ref a from ru)
 obtain ⟨⟨t,u,v,ho⟩,_⟩:=(show ObjOk X.prog X.w H s.heap a (.ext (Gx a n)) from I.hok a _ hr)
 refine Wg (n:=n) (I.ok.hd hc) ho (small_one (by omega) (by omega) (by omega) (by omega)) ?_ (by omega) fun h' tk acc hk hacc=>?_
 ·unfold Builtin.Range.rangeSize
  rw [if_pos (by decide)]
  by_cases h0:(0:Int)<(n:Int)
  ·rw [if_pos h0,Int.ediv_one];omega
  ·rw [if_neg h0];omega
 have I1:Inv X pins σ H {s with heap:=h',toks:=tk}:=I.kept hk
 have hf:H h'.objs.size=none:=I1.hok.fresh (Ap _)
 refine ⟨.ref h'.objs.size,Ai H h'.objs.size (.tup ((List.range n).map fun i=>V.int ((i:Nat):Int))),I1.laid (t':=tk) (fun b o e=>AH _ e) (Ap _) ?_,rfl,q _ hf⟩
 have hv:Vals ((List.range n).map fun i=>V.int ((i:Nat):Int)) acc.toList:=by
  rw [List.range_eq_range']
  refine NV n 0 acc.toList (by rw [Array.length_toList];exact hacc.1) fun j v e=>?_
  obtain ⟨t,e'⟩:=hacc.2 j v (by simpa using e)
  exact ⟨t,by rw [e'];congr 1;simp⟩
 exact ⟨by simp;rw [sizeLine_eq];omega,acc.toList,hv,⟨_,Bf _ rfl,rfl,0,by simp⟩,NoDict.new⟩
theorem NY {K:Frag} {m:List Addr} {H:Hp}:∀l:List Nat,DVs K m H (l.map fun k=>D.int ((k:Nat):Int)) (l.map fun k=>V.int ((k:Nat):Int))
 |[]=>.nil
 |a::l=>.cons (by simp only [DV]) (NY l)
noncomputable def Ie:D→HD→Out D:=fun d h=>match d with
 |.int i=>@ite _ (0≤i∧i≤1000) (Classical.propDecidable _) (.ok (.tup ((List.range i.toNat).map fun k=>D.int ((k:Nat):Int))) h) .stuck
 |_=>.stuck
noncomputable def Dw (f:ME):ME:=fun ρ h=>(f ρ h).bind Ie
theorem Wj {e:Expr} {f:ME} {p q pos pos':Pos} (hc:X.calm=true) (hg1:Gl X "tuple") (hm1:X.mg "tuple"=none) (hg2:Gl X "range") (hm2:X.mg "range"=none) (hv1:bootBuiltins "tuple"=some (.type "tuple")) (he:Ev X E e f)
 (h1:starEach [e] X.env=(false,eval e X.env)::starEach [] X.env:=by rfl) (h2:(backTo pos' (starEach [] X.env)).any (·.1)=false:=by rfl)
 (h3:starEach [.Call (.Name "range" q) [e] [] pos'] X.env=(false,eval (.Call (.Name "range" q) [e] [] pos') X.env)::starEach [] X.env:=by rfl) (h4:(backTo pos (starEach [] X.env)).any (·.1)=false:=by rfl):
 Ev X E (.Call (.Name "tuple" p) [.Call (.Name "range" q) [e] [] pos'] [] pos) (Dw f):=by
 refine Bq (JE (Wi hc) hg1 hm1 hv1 (JB (JE Wh hg2 hm2 boot_range (JB he JA h1) (by decide) (by decide) h1 h2) JA h3) (by decide) (by decide) h3 h4) fun σ H Q z=>?_
 obtain ⟨m,ρ,h,hr,er,pp⟩:=z
 refine ⟨m,ρ,h,hr,er,Post.bind pp fun d h1 v m1 H1 eo p1 k1 hr1 r1 q1=>?_⟩
 unfold Ie at q1
 split at q1
 ·rename_i i
  split at q1
  ·rename_i hi
   simp only [rD,DV] at r1
   obtain ⟨n,rfl⟩:∃n:Nat,i=(n:Int):=⟨i.toNat,by omega⟩
   subst r1
   refine ⟨n,rfl,by omega,fun a ha=>⟨a,n,rfl,BZ,by omega,?_⟩⟩
   exact DO (X:=X) (E:=E) (H:=Ai H1 a (.ext (Gx a n))) (hr1.new ha) (NY (List.range n)) (Post.ahead (Ay _) (.new ha) (by simpa using q1))
  ·exact q1.elim
 ·exact q1.elim
theorem NZ {f:ME} {ρ:Af} {h:HD} {Q:D→HD→Prop}:Wp (Dw f ρ h) Q=Wp (f ρ h) fun d h1=>Wp (Ie d h1) Q:=by unfold Dw;rw [Al]
theorem Ig {n:Nat} {h:HD} (hn:n≤1000):Ie (.int (n:Int)) h=.ok (.tup ((List.range n).map fun k=>D.int ((k:Nat):Int))) h:=by
 show @ite _ (0≤(n:Int)∧(n:Int)≤1000) (Classical.propDecidable _) (Out.ok (D.tup ((List.range (n:Int).toNat).map fun k=>D.int ((k:Nat):Int))) h) Out.stuck=_
 rw [if_pos ⟨by omega,by omega⟩]
 simp
end
end LS
namespace LS
open PySem PySem.Spec PyProof.Rows L2 PySem.W
section
variable {X:Cx} {E:XK}
def Wk:D→HD→Out D:=fun x h=>match x with
 |.tup _=>.ok x h
 |_=>.stuck
def Zbz:D→D→HD→Out D:=fun x y h=>(Wk x h).bind fun _ _=>Fw x y h
mutual
def Kz:PyData→Bool
 |.list _=>false
 |.tuple xs=>KA xs
 |_=>true
def KA:List PyData→Bool
 |[]=>true
 |x::xs=>Kz x&&KA xs
end
def KB (h:HD):Nat→D→Option PyData
 |_,.non=>some .none
 |_,.bl b=>some (.bool b)
 |_,.int i=>some (.int i)
 |_,.str x=>some (.str x)
 |_,.edic=>some (.dict [])
 |n+1,.tup ds=>(AF (ds.map (KB h n))).map .tuple
 |n+1,.loc l=>match h[l]? with
  |some (.lst ds)=>(AF (ds.map (KB h n))).map .list
  |_=>none
 |_,_=>none
inductive Wl (h:Heap) (u:Value) (p:PyData):Prop where
 |mk (as:List Addr) (f1:Reads h u p as) (f2:Kz p=true→sysModules∉as):Wl h u p
inductive Wm (h:Heap) (us:List Value) (ps:List PyData):Prop where
 |mk (as:List Addr) (f1:ReadsAll h us ps as) (f2:KA ps=true→sysModules∉as):Wm h us ps
variable {pins:List (Addr×Obj)} {σ:L2.St} {H:Hp} {s:Shared} {m:List Addr} {h:HD}
def ZbA:D→HD→Out D:=fun x h=>match KB h 8 x with
 |some p=>if p.showable=true∧(p.hasDict=false∨Kz p=true)∧p.depth≤40∧p.shown.length≤sizeLine then .ok (.str p.shown) h else .stuck
 |none=>.stuck
end
end LS
namespace HT
open PySem PyProof.Rows
def lexLe:List Int→List Int→Bool
 |[],[]=>true
 |[],_::_=>true
 |_::_,[]=>false
 |x::xs,y::ys=>if x=y then lexLe xs ys else decide (x≤y)
section
open PySem.SeqAt
open PySem.AutoSeq1 (wpAny_loadPart')
open PySem.MeetsSeq PySem.MeetsSeq2 PySem.MeetsSeq3
end
section
variable {prog:Program} {w:World} {A:Around} {E:Value→Shared→Prop} {s:Shared}
end
end HT
namespace L2
open PySem PySem.Spec PyProof.Rows
section
variable {X:Cx}
def ZbB (K:PySem.W.Frag):R2:=fun x y H Q=>∃a b ns ms,x=.ref a∧y=.ref b∧SqT K H a (ns.map V.int)∧SqT K H b (ms.map V.int)∧Q (.bl (HT.lexLe ns ms)) H
end
end L2
namespace LS
open PySem PySem.Spec PyProof.Rows L2
section
variable {X:Cx} {E:XK}
def N0:D→Option (List Int)
 |.tup ds=>AF (ds.map J5)
 |_=>none
def ZbC (f:List Int→List Int→Bool):D→D→HD→Out D:=fun x y h=>match N0 x,N0 y with
 |some ns,some ms=>.ok (.bl (f ns ms)) h
 |_,_=>.stuck
end
section
variable {prog:Program} {w:World} {A:Around} {E:Value→Shared→Prop} {s:Shared}
end
section
variable {X:Cx} {E:XK} {e:Expr} {f:ME}
def Wn:D→HD→Out D:=fun x h=>match x with
 |.tup ds=>.ok (.tup ds.reverse) h
 |_=>.stuck
def ZbD (f:ME):ME:=fun ρ h=>(f ρ h).bind Wn
end
end LS
namespace LS
open PySem
section
variable {prog:Program} {w:World} {A:Around} {E:Value→Shared→Prop} {h:Heap} {g:Array GenState} {d:Drawn} {t:Nat} {os:OsState}
variable {nm q:Str} {C N:Addr} {bs bm bmB:List Value} {hdct:Bool} {sn:List Str} {sub:List Value} {ab:Bool} {col:Option Bool} {dd:Option Addr} {k0 k1 k2 k3 k5:Option Value} {B newId initId:String}
end
end LS
namespace LS
open PySem PySem.Spec PyProof.Rows L2
def ZbE (i j k:Nat):MG:=fun d ρ=>match d with
 |.tup [x,.tup [y,z]]=>some (((ρ.set i (some x)).set j (some y)).set k (some z))
 |_=>none
abbrev ZbF (K:PySem.W.Frag) (i j k:Nat):TG:=E2 K 2 (CN (B0 i) (CN (E2 K 2 (CN (B0 j) (CN (B0 k) E1))) E1))
def emS (elt:Expr) (gens:List Comprehension) (scope:Scope) (pos:Pos) (d:Nat) (acc:Value) (env:Env):Sem Unit:=match gens[d+1]? with
 |some g=>eval g.iter env >>=fun x=>standAt g.iter.pos >>=fun _=>foldedSetIterable g.iter env x >>=fun y=>holding [y] (pyIter y) >>=fun it=>
  runOwn (.compStart (.ListComp elt gens scope pos) (d+1) it acc env) env >>=fun _=>pure ()
 |none=>eval elt env >>=fun x=>call (.builtin "list.append") [acc,x] >>=fun _=>pure ()
section
variable {prog:Program} {w:World} {A:Around} {R:Result→Shared→Prop} {s:Shared} {elt tg iter:Expr} {gens:List Comprehension} {ifs:List Expr} {scope:Scope} {pos:Pos} {d:Nat} {it acc:Value} {env:Env}
end
abbrev KC (its:List Value) (k:Nat):Obj:={cls:=.type "list",data:=.seq its.toArray k}
structure ZbG (X:Cx) (D:Addr):Prop where
 lo:D≠X.env.locals
 ce:∀x c,X.env.cells.lookup x=some c→c≠D
 pn:∀p∈X.pn,p.1≠D
 ex:D∈X.ex
 fs:D∉X.fs
section
variable {X:Cx} {D:Addr} {its its':List Value} {k k':Nat} {rest:List (Addr×Obj)} {σ:L2.St} {H:Hp} {s:Shared} {h':Heap}
def EM (X:Cx) (D:Addr) (em:Sem Unit) (te:L2.St→Hp→List V→(List V→Hp→Prop)→Prop):Prop:=
 ∀(rest:List (Addr×Obj)) (its:List Value) (k:Nat) (acc:List V) (σ:L2.St) (H:Hp) (s:Shared) (Q:List V→Hp→Prop),Inv X ((D,KC its k)::rest) σ H s→(∀p∈rest,p.1≠D)→Vals acc its→te σ H acc Q→
  wpAny (model X.prog X.w) X.A em (fun _ s'=>∃its' k' acc' H',Inv X ((D,KC its' k')::rest) σ H' s'∧Vals acc' its'∧Q acc' H') (fun _ _=>False) s
def ZbH (te:TE):L2.St→Hp→List V→(List V→Hp→Prop)→Prop:=fun σ H acc Q=>acc.length<sizeLine∧te σ H fun y H'=>Q (acc++[y]) H'
def ZbI (wi:TI) (g:TG) (tc:TT) (te:L2.St→Hp→List V→(List V→Hp→Prop)→Prop):L2.St→Hp→List V→(List V→Hp→Prop)→Prop:=fun σ H acc Q=>wi σ H fun J H1=>∃W:Nat→Nat→List V→Hp→Prop,(∃n,W 0 n acc H1)∧∀i n acc H,W i n acc H→
 (J.stop i H∧Q acc H)∨
 (J.go i H∧∀x H',J.yld i H x H'→g x σ H' fun σ2 H2=>Sub σ σ2∧tc σ2 H2 fun b H3=>if b=true then te σ2 H3 acc fun acc' H4=>∃n',n' < n∧W (i+1) n' acc' H4 else ∃n',n' < n∧W (i+1) n' acc H3)
inductive Wo (X:Cx) (D:Addr) (rest:List (Addr×Obj)) (σ:L2.St) (W:Nat→Nat→List V→Hp→Prop) (tn:Nat→Heap→Prop) (fp:List Addr) (n:Nat) (s':Shared):Prop where
 |mk (i:Nat) (acc:List V) (H':Hp) (its:List Value) (k:Nat) (w:W i n acc H') (ii:Inv X ((D,KC its k)::rest) σ H' s') (st:tn i s'.heap) (fr:∀b∈fp,H' b=none) (rv:Vals acc its):Wo X D rest σ W tn fp n s'
end
def ZbJ (cs:List (Option Nat)) (wi:TI) (g:TG) (tc:TT) (te:L2.St→Hp→List V→(List V→Hp→Prop)→Prop):TE:=fun σ H Q=>wi σ H fun J H1=>∃W:Nat→Nat→List V→Hp→Prop,(∃n,W 0 n [] H1)∧∀i n acc H,W i n acc H→
 (J.stop i H∧acc.length≤sizeLine∧∀p,H p=none→Q (.ref p) (Ai H p (.lst acc)))∨
 (J.go i H∧∀x H',J.yld i H x H'→g x (A8 cs σ) H' fun σ2 H2=>Sub (A8 cs σ) σ2∧tc σ2 H2 fun b H3=>if b=true then te σ2 H3 acc fun acc' H4=>∃n',n' < n∧W (i+1) n' acc' H4 else ∃n',n' < n∧W (i+1) n' acc H3)
section
variable {X:Cx} {elt tg iter:Expr} {ifs:List Expr} {gs:List Comprehension} {scope:Scope} {pos:Pos} {Nc:List Str} {cs:List (Option Nat)} {wi:TI} {g:TG} {tc:TT} {te:L2.St→Hp→List V→(List V→Hp→Prop)→Prop}
end
abbrev Cy:=Af→HD→List D→Out (List D)
abbrev Wq:=L2.St→Hp→List V→(List V→Hp→Prop)→Prop
def Frs (js:List Nat) (σ:L2.St):Prop:=∀j∈js,σ[j]?=some none
def ZbK (K:PySem.W.Frag) (is js:List Nat) (gg:TG) (sg:MG):Prop:=
 ∀m H d v ρ σ ρ' Q,DV K m H d v→ER K m H ρ σ→Frs (is++js) σ→sg d ρ=some ρ'→(∀σ',Sub σ σ'→Frs js σ'→ER K m H ρ' σ'→Q σ' H)→gg v σ H Q
theorem Frs.set {js:List Nat} {σ:L2.St} {i:Nat} {v:Option V} (h:Frs js σ) (n:i∉js):Frs js (σ.set i v):=fun j hj=>by
 have hn:i≠j:=by
  rintro rfl
  exact n hj
 rw [Bw hn]
 exact h j hj
noncomputable def ZbL (f:ME):Cy:=fun ρ h acc=>if acc.length<sizeLine then (noErr (f ρ h)).bind fun y h2=>.ok (acc++[y]) h2 else .stuck
open Classical in
noncomputable def Gy (src:AJ) (items:List D) (sg:MG) (t:MT) (e:Cy) (ρ:Af):List D→HD→List D→Out (List D)
 |[],h,acc=>if Br src items h then .ok acc h else .stuck
 |d::ds,h,acc=>if Br src items h then match sg d ρ with
   |none=>.stuck
   |some ρ1=>(noErr (t ρ1 h)).bind fun b h1=>if b=true then (noErr (e ρ1 h1 acc)).bind fun acc2 h2=>Gy src items sg t e ρ ds h2 acc2 else Gy src items sg t e ρ ds h1 acc
  else .stuck
noncomputable def ZbM (it:MI) (sg:MG) (t:MT) (e:Cy):Cy:=fun ρ h acc=>(noErr (it ρ h)).bind fun x h1=>Gy x.2 x.1 sg t e ρ x.1 h1 acc
noncomputable def Ih (cs:List (Option Nat)) (it:MI) (sg:MG) (t:MT) (e:Cy):ME:=fun ρ h=>(it ρ h).bind fun x h1=>(Gy x.2 x.1 sg t e (BI cs ρ) x.1 h1 []).bind Bi
def tEm (K:PySem.W.Frag) (js:List Nat) (e:Cy):Wq:=fun σ H acc Q=>∃m ρ h dacc,HR K m h H∧ER K m H ρ σ∧DVs K m H dacc acc∧Frs js σ∧Post K (E6 K) m H E0 Q (e ρ h dacc)
inductive Wr {β:Type} (K:PySem.W.Frag) (E:XK) (α:Type) (R:List Addr→Hp→α→β→Prop) (Q:β→Hp→Prop) (kk:List D→HD→Out α) (src:AJ) (items:List D) (sg:MG) (t:MT) (e:Cy) (ρ:Af) (m1:List Addr) (H1:Hp) (i n:Nat) (acc:List V) (H2:Hp):Prop where
 |mk (en:n=items.length - i) (l:i≤items.length) (m2:List Addr) (h2:HD) (dacc:List D) (p:m1 <+:m2) (k:Kp H1 H2) (hr:HR K m2 h2 H2) (da:DVs K m2 H2 dacc acc) (q:Post K R m2 H2 E Q ((Gy src items sg t e ρ (items.drop i) h2 dacc).bind kk)):Wr K E α R Q kk src items sg t e ρ m1 H1 i n acc H2
section
variable {X:Cx} {E:XK} {D:Addr} {elt tg iter:Expr} {ifs:List Expr} {gs gens:List Comprehension} {scope:Scope} {pos:Pos} {Nc:List Str} {cs:List (Option Nat)} {it:MI} {gg:TG} {sg:MG} {t:MT} {f:ME} {e:Cy} {d:Nat} {is js:List Nat}
end
section
variable {α β:Type} {cs:List (Option Nat)} {it:MI} {sg:MG} {t:MT} {f:ME} {e:Cy} {ρ:Af} {h:HD} {src:AJ} {xs:List α} {φ:α→D} {acc:List D}
noncomputable def Ws (cs:List (Option Nat)) (it:MI) (sg:MG) (t:MT) (e:Cy):ME:=Ad (Aj BC) (Aa (Ih cs it sg t e) Ac)
noncomputable def Wt (cs:List (Option Nat)) (it:MI) (sg:MG) (t:MT) (e:Cy):ME:=Ad (Aj Ct) (Aa (Ih cs it sg t e) Ac)
@[simp] theorem ZbN:Ad (Aj BC) (Aa (Ih cs it sg t e) Ac) ρ h=Ws cs it sg t e ρ h:=rfl
@[simp] theorem ZbO:Ad (Aj Ct) (Aa (Ih cs it sg t e) Ac) ρ h=Wt cs it sg t e ρ h:=rfl
end
end LS
namespace LS
open PySem
inductive TlN (h:Heap) (ns:List Str) (bB:List Value):List Value→Prop
 |base:TlN h ns bB bB
 |own {a:Addr} {c0:Value} {dd:Option Addr} {cd:ClassData} {sl:Array (Option Value)} {m:Str→Option Value} {tl:List Value} (ha:h.get? a=some {cls:=c0,dict:=dd,data:=.cls cd,slots:=sl}) (hm:h.Ns cd.ns m) (no:∀n∈ns,m n=none) (r:TlN h ns bB tl):TlN h ns bB (.ref a::tl)
theorem TlN.keeps {h h':Heap} {ns:List Str} {bB tl:List Value} (T:TlN h ns bB tl) (k:∀b o,h.get? b=some o→h'.get? b=some o):TlN h' ns bB tl:=by
 induction T with
 |base=>exact .base
 |own ha hm no _ ih=>exact .own (k _ _ ha) (hm.keeps k) no ih
theorem TlN.has {h:Heap} {ns:List Str} {bB tl:List Value} {v:Value} (T:TlN h ns bB tl) (hv:bB.contains v=true):tl.contains v=true:=by
 induction T with
 |base=>exact hv
 |own ha hm no _ ih=>rw [List.contains_cons,ih,Bool.or_true]
section
variable {M:Model} {A:Around} {E:Value→Shared→Prop} {h:Heap} {g:Array GenState} {d:Drawn} {t:Nat} {os:OsState}
theorem TlN.look {ns:List Str} {bB tl:List Value} {n:Str} {y:Option Value} {Q:Option Value→Shared→Prop} (T:TlN h ns bB tl) (hn:n∈ns) (e:lookupAlong bB n=pure y) (q:Q y ⟨h,g,d,t,os⟩):wpAny M A (lookupAlong tl n) Q E ⟨h,g,d,t,os⟩:=by
 induction T with
 |base=>rw [e];exact wpAny_pure q
 |own ha hm no _ ih=>
  rw [lookupAlong_cons];refine wpAny_bind (wpAny_classOwn_cls ha hm ?_);rw [no n hn]
  exact ih
variable {nm q:Str} {C N x:Addr} {bs bm bB:List Value} {hd:Bool} {sn:List Str} {sub:List Value} {ab:Bool} {col:Option Bool} {dd:Option Addr} {k0 k1 k2 k3 k5:Option Value} {B newId sa owner:String} {ns:List Str} {mN mA:Str→Option Value} {name:Str} {v:Value}
end
section
variable {prog:Program} {w:World} {A:Around} {E:Value→Shared→Prop} {h:Heap} {g:Array GenState} {d:Drawn} {t:Nat} {os:OsState}
variable {nm q:Str} {C N x:Addr} {bs bm bB:List Value} {sn:List Str} {sub:List Value} {ab:Bool} {col:Option Bool} {dd:Option Addr} {k0 k1 k2 k3 k5:Option Value} {B newId sa owner:String} {ns:List Str} {mN mA:Str→Option Value} {name:Str} {v:Value}
structure ZbP (h h':Heap) (x C:Addr) (name:Str) (v:Value) (mA:Str→Option Value):Prop where
 inst:h'.Inst x C (fun y=>if y=name then some v else mA y)
 keep:∀b o,b≠x→(∀o0 dx,h.get? x=some o0→o0.dict=some dx→b≠dx)→h.get? b=some o→h'.get? b=some o
 new:∀o0,h.get? x=some o0→o0.dict=none→∃o1,h'.get? x=some o1∧o1.dict=some h.objs.size
 same:∀o0,h.get? x=some o0→∃o1,h'.get? x=some o1∧o1.cls=o0.cls∧o1.data=o0.data∧o1.slots=o0.slots∧∀dx,o0.dict=some dx→o1.dict=some dx
end
section
variable {prog:Program} {w:World} {A:Around} {E:Value→Shared→Prop} {h:Heap} {g:Array GenState} {d:Drawn} {t:Nat} {os:OsState}
variable {nm q:Str} {C N x:Addr} {bs bm bB:List Value} {sn:List Str} {sub:List Value} {ab:Bool} {col:Option Bool} {dd:Option Addr} {k0 k1 k2 k3 k5:Option Value} {B newId:String} {ns:List Str} {mN mA:Str→Option Value} {name:Str} {v:Value}
end
end LS
namespace LS
open PySem PySem.Spec PyProof.Rows L2
def tmNames:List Str:=["__init__","__setattr__","__getattribute__","__getattr__","many","most"]
def N1 (K:PySem.W.Frag) (ns:List Str) (bB:List Value):List Value→Bool
 |[]=>bB==[]
 |v::r=>(v::r)==bB||match v with
  |.ref a=>(match K.lookup a with
   |some o=>(match clsOf o.data with
    |some cd=>PySem.W.nsOkIn K cd.ns&&(ns.all (fun n=>PySem.W.nsIn K cd.ns n==some none)&&N1 K ns bB r)
    |none=>false)
   |none=>false)
  |_=>false
theorem TlN.tail {h:Heap} {ns:List Str} {bB tl:List Value} (T:TlN h ns bB tl) (hi:("__init__":Str)∈ns):OwnTail h bB tl:=by
 induction T with
 |base=>exact .base
 |own ha hm no _ ih=>exact .own ha hm (no _ hi) ih
inductive Wu (h:Heap) (C fI:Addr):Prop where
 |mk (bm:List Value) (N:Addr) (nm q:Str) (bs:List Value) (sn:List Str) (sub:List Value) (ab:Bool) (col:Option Bool) (dd:Option Addr) (k0 k1 k2 k3 k5:Option Value) (mN:Str→Option Value)
  (hC:h.get? C=some (excClassObj nm q C N bs bm true sn sub ab col dd k0 k1 k2 k3 k5 "ValueError.__new__")) (hN:h.Ns N mN) (hi:mN "__init__"=some (.ref fI)) (no:∀n∈tmNames.tail,mN n=none) (T:TlN h tmNames Gs bm):Wu h C fI
def Wv (K:PySem.W.Frag) (C fI:Addr) (o:Obj) (cd:ClassData):Bool:=
 decide (o.cls=.type "type")&&(decide (cd.mro=.ref C::cd.mro.tail)&&(!cd.hasDel&&(N1 K tmNames Gs cd.mro.tail&&(PySem.W.nsOkIn K cd.ns&&(PySem.W.nsIn K cd.ns "__init__"==some (some (.ref fI))&&(tmNames.tail.all (fun n=>PySem.W.nsIn K cd.ns n==some none)&&(decide (o.slots.toList.length=6)&&(decide (o.slots.toList[4]?=some (some (.builtin "ValueError.__new__")))&&cd.hasDict))))))))
def tmX (K:PySem.W.Frag) (C fI:Addr):Bool:=match K.lookup C with
 |some o=>(match clsOf o.data with
  |some cd=>Wv K C fI o cd
  |none=>false)
 |none=>false
def Ww (C t0:Addr) (da:Option Addr):Obj:={cls:=.ref C,dict:=da,data:=.fields #[.ref t0,.none,.none,.none,.bool false,.none]}
def Ii (C e:Addr) (da:Option Addr) (h:Heap):Prop:=∃t0,h.get? e=some (Ww C t0 da)
def ZbQ (d:Addr) (m:Str→Option Value) (h:Heap):Prop:=h.Ns1 d m
def one (n:Str) (u:Value):Str→Option Value:=fun y=>if y=n then some u else none
section
variable {X:Cx} {pins:List (Addr×Obj)} {σ:L2.St} {H:Hp} {s:Shared} {E:Value→Shared→Prop} {A:Around} {C fI e da:Addr} {n:Str} {u:Value}
def del (H:Hp) (a:Addr):Hp:=fun b=>if b=a then none else H b
theorem N2 {H:Hp} {a b:Addr} (h:b≠a):del H a b=H b:=by unfold del;rw [if_neg h]
theorem Kp.del {H:Hp} {a:Addr} {φ:Heap→Prop} (h:H a=some (.mex φ)):Kp H (LS.del H a):=fun b o e i=>by
 rw [N2]
 ·exact e
 ·intro z
  rw [z,h] at e;cases e;cases i
theorem HR.del {K:PySem.W.Frag} {m:List Addr} {h:HD} {H:Hp} {a:Addr} {φ:Heap→Prop} (r:HR K m h H) (e:H a=some (.mex φ)):HR K m h (LS.del H a):=r.same (.del e) fun b hb=>N2 fun z=>by
 subst z
 obtain ⟨l,hl,el⟩:=GP hb
 have hl':l<h.length:=by rw [←r.len];exact hl
 have c:=r.cells l h[l] m[l] (Bb hl') (Bb hl)
 rw [el] at c
 cases hc:h[l] with
 |lst ds=>rw [hc] at c;obtain ⟨vs,q,_⟩:=c;rw [e] at q;cases q
 |tab=>rw [hc] at c;obtain ⟨_,ps,q,_⟩:=c;rw [e] at q;cases q
 |dic fz kvs=>
  rw [hc] at c
  obtain ⟨es,q,_⟩:=c
  cases fz with
  |true=>obtain ⟨o,q⟩:=q;rw [e] at q;cases q
  |false=>exact absurd (e.symm.trans q) (by intro z;cases z)
end
end LS
namespace LS
open PySem PySem.Spec PyProof.Rows L2 PySem.Calls PySem.W
def swX (K:PySem.W.Frag) (S:Addr):Bool:=PySem.W.readsIn K S (.type "type")&&(match PySem.W.findCls K (.ref S) (.type "type") "__init__" with
 |some (.val (.builtin b))=>b=="ValueError.__init__"
 |_=>false)
def ZbR (H₀:Hp) (C:Addr) (ta:TA):TE:=fun σ H Q=>∃e,H₀ e≠none∧H e=some (.mex (Ii C e none))∧ta σ (del H e) fun vs H1=>∃x,vs=[.ref e,.str x]∧(H1 e=none→Q .non (Ai H1 e (.mex (Ii C e none))))
section
variable {X:Cx} {C fI S:Addr} {ta:TA} {a1 a2:Expr} {p1 p2 p5:Pos}
end
end LS
namespace LS
open PySem PySem.Spec PyProof.Rows L2 PySem.Calls
section
variable {X:Cx} {C fI S:Addr}
end
noncomputable abbrev KG:ME:=Ez (NG (Ab 1) (Du " are more than " (NG (Ab 2) Ey)))
inductive N3 (K:PySem.W.Frag) (C:Addr) (vs:List V) (H:Hp) (Q:VK) (E:XK):Prop
 |mk (e:Addr) (a b:Int) (m:List Addr) (h h2:HD) (x:Str) (ev:vs=[.ref e,.int a,.int b]) (hr:HR K m h H) (hH:H e=some (.mex (Ii C e none))) (hj:KG [none,some (.int a),some (.int b)] h=.ok (.str x) h2)
  (q:∀m1 H1 da,m <+:m1→Kp (del H e) H1→HR K m1 h2 H1→H1 e=none→H1 da=none→da≠e→Q .non (Ai (Ai H1 e (.mex (Ii C e (some da)))) da (.xd [("many",.int a),("most",.int b)]))):N3 K C vs H Q E
section
variable {P:Program} {w:World} {K:PySem.W.Frag} {mg:Str→Option Value} {base:Heap} {C f S:Addr} {k:Nat} {qual:Str} {scope:Scope} {p1 p2 p3 p4 p5 p6 q1 q2 q3 q4 r1 r2 r3 r4:Pos} {js:Expr}
abbrev ZbS (js:Expr) (p1 p2 p3 p5 p6 q1 q2 q3 q4 r1 r2 r3 r4:Pos):List Stmt:=[.Expr (.Call (.Attribute (.Name "SwitchError" p1) "__init__" p2) [.Name "self" p3,js] [] p5) p6,.Assign [.Attribute (.Name "self" q1) "many" q2] (.Name "many" q3) q4,.Assign [.Attribute (.Name "self" r1) "most" r2] (.Name "most" r3) r4]
end
noncomputable def ZbT (fa:MA):MS:=fun ρ h=>(fa ρ h).bind fun xs h1=>match xs with
 |[.int a,.int b]=>(match KG [none,some (.int a),some (.int b)] h1 with
  |.ok (.str _) h2=>.err (CJ "TooMany") [("many",.int a),("most",.int b)] h2
  |_=>.stuck)
 |_=>.stuck
section
variable {X:Cx} {E:XK} {C fI:Addr} {fd:FuncData} {k:Nat}
end
def N4 (nm:Str):D→HD→Out D
 |.exc n fs,h=>if n="TooMany" then (match fs.lookup nm with
  |some i=>.ok (.int i) h
  |none=>.stuck) else .stuck
 |_,_=>.stuck
noncomputable def N5 (f:ME) (nm:Str):ME:=fun ρ h=>(f ρ h).bind fun d h1=>N4 nm d h1
section
variable {X:Cx} {E:XK} {C fI:Addr}
end
end LS
namespace Tp
open PySem PySem.W PySem.Spec PySem.Calls PyProof.Rows
section
variable {α β:Type}
noncomputable def fN (n:Nat) (k:Nat→α):α:=@Nat.rec (fun _=>α) (k 0) (fun m _=>k (Nat.succ m)) n
theorem Ij (n:Nat) (k:Nat→α):fN n k=k n:=by cases n<;>rfl
noncomputable def fL (l:List β):(List β→α)→α:=@List.rec β (fun _=>(List β→α)→α) (fun k=>k []) (fun a _ ih k=>ih fun l'=>k (a::l')) l
theorem Gz:∀(l:List β) (k:List β→α),fL l k=k l
 |[],_=>rfl
 |a::l,k=>Gz l fun l'=>k (a::l')
noncomputable def fE (l:List DictEntry):(List DictEntry→α)→α:=@List.rec DictEntry (fun _=>(List DictEntry→α)→α) (fun k=>k []) (fun a _ ih k=>ih fun l'=>@DictEntry.rec (fun _=>α) (fun x y z=>k (⟨x,y,z⟩::l')) a) l
theorem N6:∀(l:List DictEntry) (k:List DictEntry→α),fE l k=k l
 |[],_=>rfl
 |⟨_,_,_⟩::l,k=>N6 l fun l'=>k (_::l')
noncomputable def fD (d:Data) (k:Data→α):α:=@Data.rec (fun _=>α) (k .plain) (fun v=>k (.prim v)) (fun x n=>@Array.rec Value (fun _=>α) (fun l=>fL l fun l=>fN n fun n=>k (.seq ⟨l⟩ n)) x)
 (fun x n=>@Array.rec DictEntry (fun _=>α) (fun l=>fE l fun l=>fN n fun n=>k (.dict ⟨l⟩ n)) x) (fun x n t=>k (.set x n t)) (fun b n=>k (.bytearray b n)) (fun v=>k (.cell v)) (fun f=>k (.func f)) (fun c=>k (.cls c))
 (fun x=>@Array.rec Value (fun _=>α) (fun l=>fL l fun l=>k (.fields ⟨l⟩)) x) (k .freed) d
theorem Wx (d:Data) (k:Data→α):fD d k=k d:=by
 cases d with
 |seq x n=>cases x;simp only [fD,Gz,Ij]
 |dict x n=>cases x;simp only [fD,N6,Ij]
 |fields x=>cases x;simp only [fD,Gz]
 |_=>rfl
noncomputable def fO (o:Obj) (k:Obj→α):α:=@Obj.rec (fun _=>α) (fun c d da sl=>fD da fun da=>k ⟨c,d,da,sl⟩) o
theorem N7 (o:Obj) (k:Obj→α):fO o k=k o:=by cases o;simp only [fO,Wx]
noncomputable def fT (t:BT):(BT→α)→α:=@BT.rec (fun _=>(BT→α)→α) (fun k=>k .nil) (fun v _ _ il ir k=>fO v fun v=>il fun l=>ir fun r=>k (.node v l r)) t
theorem KH:∀(t:BT) (k:BT→α),fT t k=k t
 |.nil,_=>rfl
 |.node v l r,k=>by
  show fO v (fun v=>fT l fun l=>fT r fun r=>k (.node v l r))=_
  rw [N7,KH l,KH r]
noncomputable def fS (s:SharedT) (k:SharedT→α):α:=@SharedT.rec (fun _=>α) (fun t n li g d tk os=>fT t fun t=>fN n fun n=>fN tk fun tk=>@Drawn.rec (fun _=>α) (fun a b c e=>@Array.rec GenState (fun _=>α) (fun g=>fL g fun g=>k ⟨t,n,li,⟨g⟩,⟨a,b,c,e⟩,tk,os⟩) g) d) s
theorem KI (s:SharedT) (k:SharedT→α):fS s k=k s:=by
 obtain ⟨t,n,li,⟨g⟩,⟨a,b,c,e⟩,tk,os⟩:=s
 simp only [fS,KH,Ij,Gz]
noncomputable def fP (p:Pos) (k:Pos→α):α:=@Pos.rec (fun _=>α) (fun a b c d=>fN a fun a=>fN b fun b=>fN c fun c=>fN d fun d=>k ⟨a,b,c,d⟩) p
theorem KJ (p:Pos) (k:Pos→α):fP p k=k p:=by cases p;simp only [fP,Ij]
end
section
variable (stp:SharedT→Thread→Option (SharedT×Thread)) (ok:Thread→Bool) (seg:Nat→SharedT→Thread→Option (Flow×SharedT×Code×Pos))
noncomputable def FA (env:Env) (c:Code) (f:Nat):List (List Stmt)→SharedT→Pos→List Code→Option (SharedT×Pos×List Code)
 |[],s,pos,cs=>some (s,pos,cs)
 |l::ls,s,pos,cs=>match seg f s (piecesOf l env c pos [topFrame ⟨0,0,0,0⟩]) with
  |some (.next,s',c',pos')=>fS s' fun s'=>fP pos' fun pos'=>FA env c f ls s' pos' (c'::cs)
  |_=>none
def Ik:Nat→SharedT→Thread→Option (SharedT×Thread)
 |0,s,t=>some (s,t)
 |n+1,s,t=>match through t with
  |true=>none
  |false=>match ok t with
   |false=>none
   |true=>match stp s t with
    |some (s',t')=>Ik n s' t'
    |none=>none
def Il:Nat→SharedT→Thread→Option SharedT
 |0,_,_=>none
 |n+1,s,t=>match through t with
  |true=>some s
  |false=>match ok t with
   |false=>none
   |true=>match stp s t with
    |some (s',t')=>Il n s' t'
    |none=>none
def cut:Nat→List Stmt→List (List Stmt)
 |0,l=>[l]
 |n+1,l=>match l with
  |[]=>[]
  |x::l=>[x]::cut n l
theorem N8:∀(n:Nat) (l:List Stmt),(cut n l).flatten=l
 |0,l=>by simp [cut]
 |_+1,[]=>rfl
 |n+1,x::l=>by simp [cut,N8 n l]
theorem N9:∀(n:Nat) (l:List Stmt),(cut n l).length≤n+1
 |0,l=>Ap _
 |_+1,[]=>B9 _
 |n+1,x::l=>Nat.succ_le_succ (N9 n l)
def KL (p:Program):Env:={scope:=p.main.scope,locals:=mainNs,globals:=mainNs,cells:=[],code:=.ref 13,frame:=some 14}
def ED (p:Program):Code:=.body (behindTheImports p) (KL p)
noncomputable def Dc (p:Program) (S0:SharedT):Option (Thread×List Code×SharedT):=match Ik stp ok 12 S0 (topStub p) with
 |some (sa,ta)=>match seg 1 sa (blockOf (behindTheImports p) (KL p) (ED p) ⟨0,0,0,0⟩ [topFrame ⟨0,0,0,0⟩]) with
  |some (.next,sb,cb,pb)=>fS sb fun sb=>fP pb fun pb=>match FA seg (KL p) (ED p) 2000 (cut 400 (behindTheImports p)) sb pb [cb] with
   |some (sf,pf,cs)=>match Il stp ok 2 sf ⟨doneF .next,ED p,pf,[topFrame ⟨0,0,0,0⟩]⟩ with
    |some sg=>some (ta,cs,sg)
    |none=>none
   |none=>none
  |_=>none
 |none=>none
end
noncomputable def Oa (P:Params) (os:OsState):SharedT:=⟨((boot_heap P).objs.toList.foldl (fun (x:BT×Nat) o=>(x.1.ins x.2 o,x.2+1)) (.nil,0)).1,11,(boot_heap P).life,⟨[]⟩,boot_drawn,boot_toks,os⟩
theorem Wy (P:Params) (os:OsState):(Oa P os).abs=⟨boot_heap P,⟨[]⟩,boot_drawn,boot_toks,os⟩:=by kernel_rfl
section
variable {α:Type}
noncomputable def KM (l:List Obj):(List Obj→α)→α:=@List.rec Obj (fun _=>(List Obj→α)→α) (fun k=>k []) (fun a _ ih k=>fO a fun a=>ih fun l'=>k (a::l')) l
theorem Ob:∀(l:List Obj) (k:List Obj→α),KM l k=k l
 |[],_=>rfl
 |a::l,k=>by show fO a (fun a=>KM l fun l'=>k (a::l'))=_;rw [N7,Ob]
noncomputable def Ao (s:SharedT) (k:Shared→α):α:=KM (s.tree.list s.n) fun l=>k ⟨⟨⟨l⟩,s.life⟩,s.gens,s.drawn,s.toks,s.os⟩
theorem Wz (s:SharedT) (k:Shared→α):Ao s k=k s.abs:=Ob _ _
end
section
variable {tb:String→Option Builtin} {p:Program} {w:World} {m0:Nat} {ann:Option Value}
theorem Oc:∀{n:Nat} {s s':SharedT} {t t':Thread},Ik (stepT (denote tb) p w) (stepOk m0 ann) n s t=some (s',t')→topGo tb p w m0 ann n s.abs t=some (s'.abs,t')
 |0,_,_,_,_,h=>by cases h;rfl
 |n+1,s,s',t,t',h=>by
  unfold Ik at h
  unfold topGo
  cases he:through t with
  |true=>rw [he] at h;cases h
  |false=>
   rw [he] at h
   cases hk:stepOk m0 ann t with
   |false=>rw [hk] at h;cases h
   |true=>
    rw [hk] at h
    cases hs:stepT (denote tb) p w s t with
    |none=>rw [hs] at h;cases h
    |some r=>obtain ⟨s₂,t₂⟩:=r;rw [hs] at h;rw [stepT_spec hs];exact Oc h
theorem Od:∀{n:Nat} {s s':SharedT} {t:Thread},Il (stepT (denote tb) p w) (stepOk m0 ann) n s t=some s'→topRun tb p w m0 ann n s.abs t=some s'.abs
 |0,_,_,_,h=>by cases h
 |n+1,s,s',t,h=>by
  unfold Il at h
  unfold topRun
  cases he:through t with
  |true=>rw [he] at h;cases h;rfl
  |false=>
   rw [he] at h
   cases hk:stepOk m0 ann t with
   |false=>rw [hk] at h;cases h
   |true=>
    rw [hk] at h
    cases hs:stepT (denote tb) p w s t with
    |none=>rw [hs] at h;cases h
    |some r=>obtain ⟨s₂,t₂⟩:=r;rw [hs] at h;rw [stepT_spec hs];exact Od h
theorem KN {seg:Nat→SharedT→Thread→Option (Flow×SharedT×Code×Pos)} {env:Env} {c:Code} {f:Nat}:∀{ls:List (List Stmt)} {s sf:SharedT} {pos pf:Pos} {c0 cs:List Code},FA seg env c f ls s pos c0=some (sf,pf,cs)→∀x∈c0,x∈cs
 |[],_,_,_,_,_,_,h,x,hx=>by cases h;exact hx
 |l::ls,s,sf,pos,pf,c0,cs,h,x,hx=>by
  unfold FA at h
  split at h
  ·rw [KI,KJ] at h;exact KN h x (.tail _ hx)
  ·cases h
theorem Oe {env:Env} {c:Code} {f:Nat}:∀{ls:List (List Stmt)} {s sf:SharedT} {pos pf:Pos} {c0 cs:List Code},FA (segRunT tb p w m0 ann 1) env c f ls s pos c0=some (sf,pf,cs)→(∀x∈cs,x=c)→∀{N:Nat} {r:Shared},
 topRun tb p w m0 ann N sf.abs ⟨doneF .next,c,pf,[topFrame ⟨0,0,0,0⟩]⟩=some r→topRun tb p w m0 ann (ls.length*f+N) s.abs (restOf ls.flatten env c pos [topFrame ⟨0,0,0,0⟩])=some r
 |[],s,sf,pos,pf,c0,cs,h,hc,N,r,k=>by
  cases h
  rw [List.length_nil,Nat.zero_mul,Nat.zero_add]
  exact piece_nil k
 |l::ls,s,sf,pos,pf,c0,cs,h,hc,N,r,k=>by
  unfold FA at h
  split at h
  ·rename_i s' c' pos' e
   rw [KI,KJ] at h
   have e1:=segRun_of e
   rw [hc c' (KN h c' (.head _))] at e1
   have:=piece_app (rest:=ls.flatten) e1 (Oe h hc k)
   rw [EV,EY,Nat.add_comm (ls.length*f) f,Nat.add_assoc]
   exact this
  ·cases h
end
noncomputable def WA {α:Type} (OS:Program→List Str→List Str→(Shared→Bool)→Bool→Shared→_) (IM:List Stmt→List Str) (p q:Program) (loose:List Str) (Yf:Shared→α) (H₀:Heap) (s:Shared):=
 ((staticsOk (IM p.main.body) H₀ s.heap&&namesBound p s.heap&&gensDone s&&laidKept H₀ s.heap),(OS q loose (IM p.main.body) (fun _=>true) true s:type_of% (openSeen q loose [] (fun _=>true) true s)),Yf s)
theorem left_of {p q:Program} {loose:List Str} {α:Type} {Yf:Shared→α} {Ya:World→α} {n:Nat} (e:opening p=plainProg p.main.scope.names) (fm:∀s,fenceModules? p s=some s)
 (size:∀w:World,((boot_heap w.params).isNs mainGlobals&&(Array.mk ([]:List GenState)).size==0,(boot_heap w.params).objs.size,(boot_heap w.params).nsMap mainGlobals "__annotations__")=(true,11,some (.ref 6)))
 (h:∀(w:World) (os:OsState),(Dc (stepT (denote treeTable) p w) (stepOk 11 (some (.ref 6))) (segRunT treeTable p w 11 (some (.ref 6)) 1) p (Oa w.params os)).map (fun r=>(r.1,r.2.1,Ao r.2.2 (WA openSeen importedModules p q loose Yf (boot_heap w.params))))=
  some (⟨denote treeTable (ED p),ED p,⟨0,0,0,0⟩,[topFrame ⟨0,0,0,0⟩]⟩,List.replicate n (ED p),(true,openGood q loose,Ya w))):
 LeftO p q loose (fun _=>true) Yf Ya 1000000:=fun w=>by
 obtain ⟨⟨hp,gs,d,k,os⟩,e0,e'⟩:=qaP.mp (boot_open (N:=1000000) e rfl fm w)
 obtain ⟨rfl,rfl,rfl,rfl⟩:hp=boot_heap w.params∧gs=Array.mk []∧d=boot_drawn∧k=boot_toks:=by simpa using e'
 obtain ⟨z1,z2,z3⟩:_∧_∧_:=by simpa only [Prod.mk.injEq] using size w
 obtain ⟨⟨ta,cs,sg⟩,h1,h2⟩:=qaP.mp (h w os)
 dsimp only at h2
 rw [Wz] at h2
 obtain ⟨h3,h4⟩:=Prod.mk.inj h2
 obtain ⟨h5,h6⟩:=Prod.mk.inj h4
 obtain ⟨l1,h7⟩:=Prod.mk.inj h6
 obtain ⟨l2,l3⟩:=Prod.mk.inj h7
 have hcs:∀x∈cs,x=ED p:=fun x hx=>by rw [h5] at hx;exact Jj hx
 have run:topRun treeTable p w 11 (some (.ref 6)) 1000000 ⟨boot_heap w.params,Array.mk [],boot_drawn,boot_toks,os⟩ (topStub p)=some sg.abs:=by
  rw [←Wy]
  unfold Dc at h1
  split at h1
  ·rename_i sa ta' ea
   split at h1
   ·rename_i sb cb pb eb
    rw [KI,KJ] at h1
    split at h1
    ·rename_i sf pf cs' ec
     split at h1
     ·rename_i sg' eg
      cases h1
      have hb:=segRun_of eb
      rw [hcs cb (KN ec cb (.head _))] at hb
      have c1:=Oe ec hcs (Od eg)
      rw [N8] at c1
      have c2:=piece_block hb c1
      have c3:=Oc ea
      rw [h3] at c3
      have c4:=go_top c3 c2
      have hl:=N9 400 (behindTheImports p)
      have:=topRun_mono (1000000 - (12+(1+((cut 400 (behindTheImports p)).length*2000+2)))) _ _ _ _ c4
      rwa [show 12+(1+((cut 400 (behindTheImports p)).length*2000+2))+(1000000 - (12+(1+((cut 400 (behindTheImports p)).length*2000+2))))=1000000 by omega] at this
     ·cases h1
    ·cases h1
   ·cases h1
  ·cases h1
 have t:topFrom treeTable p w 1000000 ⟨boot_heap w.params,Array.mk [],boot_drawn,boot_toks,os⟩=some sg.abs:=by
  unfold topFrom
  dsimp only
  rw [z1,z2,z3,run]
  show (match staticsOk (importedModules p.main.body) (boot_heap w.params) sg.abs.heap&&namesBound p sg.abs.heap&&gensDone sg.abs&&laidKept (boot_heap w.params) sg.abs.heap with |true=>_ |false=>_)=_
  rw [l1]
 unfold openEnds
 rw [e0]
 show (topFrom treeTable p w 1000000 _).map _=_
 rw [t]
 exact congrArg some (Prod.ext l2 l3)
def Of (h:Heap) (a:Addr):Option (Addr×Obj):=match h.get? a with
 |some o=>(match o.cls,a==mainNs||a==cStatics with
  |.none,false=>none
  |_,_=>some (a,o))
 |none=>none
def GA (h:Heap):Frag:=(List.range h.objs.size).filterMap (Of h)
theorem lookup_mem {a:Addr} {o:Obj}:∀{l:Frag},l.lookup a=some o→(a,o)∈l
 |[],h=>by cases h
 |(b,o')::l,h=>by
  rw [D8] at h
  split at h
  ·rename_i q
   cases h
   rw [beq_iff_eq.mp q]
   exact .head _
  ·exact .tail _ (lookup_mem h)
theorem WB (h:Heap):(GA h).In h:=fun a o e=>by
 obtain ⟨b,_,hb⟩:=List.mem_filterMap.mp (lookup_mem e)
 unfold Of at hb
 split at hb
 ·rename_i o' e'
  split at hb
  ·cases hb
  ·cases hb;exact e'
 ·cases hb
def blank (fd:FuncData):FuncData:={fd with kwdefaults:=.none,doc:=.none,pyModule:=.none,annotations:=none,code:=.none,closureTuple:=.none}
def FB (K:Frag) (n:Str):Option (FuncData×Bool×Bool):=match nsIn K mainGlobals n with
 |some (some (.ref f))=>(match K.lookup f with
  |some ⟨_,_,.func fd,_⟩=>some (blank fd,codeIn K fd.code n,keepIn K (.ref f))
  |_=>none)
 |_=>none
abbrev Im (n:Str) (st:Stmt):FuncData:=fnOf n n (L2.defArgs st) (L2.defBody st) (L2.defScope st) .none .none .none .none none .none .none
inductive SeenF (K:Frag) (n:Str) (st:Stmt):Prop where
 |mk (f:Addr) (od an:Option Addr) (sl:Array (Option Value)) (oc kV dc pm cd ct:Value) (a:nsIn K mainGlobals n=some (some (.ref f)))
  (l:K.lookup f=some ⟨oc,od,.func (fnOf n n (L2.defArgs st) (L2.defBody st) (L2.defScope st) .none kV dc pm an cd ct),sl⟩) (c:codeIn K cd n=true) (k:keepIn K (.ref f)=true):SeenF K n st
theorem WC {K:Frag} {n:Str} {st:Stmt} (e:FB K n=some (Im n st,true,true)):SeenF K n st:=by
 unfold FB at e
 split at e
 ·rename_i f hf
  split at e
  ·rename_i oc od fd sl hl
   obtain ⟨e1,e2⟩:=Prod.mk.inj (Option.some.inj e)
   obtain ⟨e3,e4⟩:=Prod.mk.inj e2
   obtain ⟨x1,x2,x3,x4,x5,x6,x7,x8,x9,x10,x11,x12,x13,x14,x15⟩:=fd
   replace e1:FuncData.mk x1 x2 x3 x4 x5 x6 x7 x8 .none .none .none none .none .none x15=Im n st:=e1
   injection e1 with y1 y2 y3 y4 y5 y6 y7 y8 y9 y10 y11 y12 y13 y14 y15
   subst x1 x2 x3 x4 x5 x6 x7 x8 x15
   exact ⟨f,od,x12,sl,oc,x9,x10,x11,x13,x14,hf,hl,e3,e4⟩
  ·cases e
 ·cases e
def FC (K:Frag) (x:Str):Option Int:=match nsIn K mainGlobals x with
 |some (some (.int v _))=>some v
 |_=>none
theorem WD {K:Frag} {x:Str} {v:Int} (e:FC K x=some v):∃t,nsIn K mainGlobals x=some (some (.int v t)):=by
 unfold FC at e
 split at e
 ·rename_i t h;cases e;exact ⟨t,h⟩
 ·cases e
def Io (K:Frag) (h:Heap):Option (Option Obj×Bool×Bool):=match LS.tabP K with
 |some (c,T)=>some (h.get? T,codeHdIn K c T,(K.lookup T).isNone)
 |none=>none
structure Want where
 fs:List (Str×Stmt)
 cs:List (Str×Int)
 bs:List Str
abbrev FD:=List (Option (FuncData×Bool×Bool))×List (Option Int)×List (Option (Option Value))×Bool×Option (Option Obj×Bool×Bool)
noncomputable def ZbU (W:Want) (s:Shared):FD:=fL (GA s.heap) fun K=>
 (W.fs.map fun x=>FB K x.1,W.cs.map fun x=>FC K x.1,W.bs.map (nsIn K mainGlobals),LS.etOk K,Io K s.heap)
def KO (W:Want):FD:=(W.fs.map fun x=>some (Im x.1 x.2,true,true),W.cs.map fun x=>some x.2,W.bs.map fun _=>some none,true,some (some (tabObj #[]),true,true))
inductive Has (W:Want) (K:Frag) (c T:Addr):Prop where
 |mk (fs:∀(i:Nat) n st,W.fs[i]?=some (n,st)→SeenF K n st) (cs:∀(i:Nat) n v,W.cs[i]?=some (n,v)→∃t,nsIn K mainGlobals n=some (some (.int v t))) (bs:∀(i:Nat) n,W.bs[i]?=some n→nsIn K mainGlobals n=some none)
  (et:LS.etOk K=true) (tb:LS.tabP K=some (c,T)) (hd:codeHdIn K c T=true) (no:K.lookup T=none):Has W K c T
def Says (W:Want) (_:World) (h:Heap):Prop:=∃(K:Frag) (c T:Addr),K.In h∧Has W K c T∧h.get? T=some (tabObj #[])
theorem Says.keeps {W:Want} (w:World) (h h':Heap) (x:Says W w h) (k:∀b o,h.get? b=some o→h'.get? b=some o):Says W w h':=by
 obtain ⟨K,c,T,h1,h2,h3⟩:=x
 exact ⟨K,c,T,h1.keeps k,h2,k _ _ h3⟩
theorem KP {α β:Type} {f g:α→β} {l:List α} (e:l.map f=l.map g) {i:Nat} {x:α} (h:l[i]?=some x):f x=g x:=by
 have:=congrArg (·[i]?) e
 simp only [BP,h,F0,Option.some.injEq] at this
 exact this
theorem tab_cd {K:Frag} {c T f:Addr} {oc kV dc pm cd ct:Value} {od an:Option Addr} {sl:Array (Option Value)} {st:Stmt} (h:LS.tabP K=some (c,T)) (a:nsIn K mainGlobals "law"=some (some (.ref f)))
 (l:K.lookup f=some ⟨oc,od,.func (fnOf "law" "law" (L2.defArgs st) (L2.defBody st) (L2.defScope st) .none kV dc pm an cd ct),sl⟩):cd=.ref c:=by
 unfold LS.tabP at h
 rw [a] at h
 dsimp only at h
 rw [l] at h
 dsimp only at h
 split at h
 ·split at h
  ·split at h
   ·cases h;rfl
   ·cases h
  ·cases h
 ·cases h
end Tp
namespace LS
open PySem PySem.W PySem.Spec PySem.Calls PyProof.Rows L2
end LS
namespace Tp
open PySem PySem.W PySem.Spec PySem.Calls PyProof.Rows
def WE (K:Frag):Option (FuncData×List Bool):=match nsIn K mainGlobals "TooMany",nsIn K mainGlobals "SwitchError" with
 |some (some (.ref C)),some (some (.ref S))=>(match K.lookup C with
  |some o=>(match LS.clsOf o.data with
   |some cd=>(match nsIn K cd.ns "__init__" with
    |some (some (.ref f))=>(match K.lookup f with
     |some ⟨oc,_,.func fd,_⟩=>some (blank fd,[codeIn K fd.code "TooMany.__init__",LS.tmX K C f,LS.swX K S,keepIn K (.ref C),oc==.type "function"])
     |_=>none)
    |_=>none)
   |none=>none)
  |none=>none)
 |_,_=>none
abbrev WG (st:Stmt):FuncData:=fnOf "__init__" "TooMany.__init__" (L2.defArgs st) (L2.defBody st) (L2.defScope st) .none .none .none .none none .none .none
inductive Og (K:Frag) (st:Stmt):Prop where
 |mk (C S f:Addr) (od an:Option Addr) (sl:Array (Option Value)) (kV dc pm cd ct:Value) (nC:nsIn K mainGlobals "TooMany"=some (some (.ref C))) (nS:nsIn K mainGlobals "SwitchError"=some (some (.ref S)))
  (l:K.lookup f=some ⟨.type "function",od,.func (fnOf "__init__" "TooMany.__init__" (L2.defArgs st) (L2.defBody st) (L2.defScope st) .none kV dc pm an cd ct),sl⟩) (c:codeIn K cd "TooMany.__init__"=true) (tm:LS.tmX K C f=true) (sw:LS.swX K S=true) (kp:keepIn K (.ref C)=true):Og K st
noncomputable def ZbV (W:Want) (s:Shared):FD×Option (FuncData×List Bool):=fL (GA s.heap) fun K=>
 ((W.fs.map fun x=>FB K x.1,W.cs.map fun x=>FC K x.1,W.bs.map (nsIn K mainGlobals),LS.etOk K,Io K s.heap),WE K)
def ZbW (W:Want) (st:Stmt):FD×Option (FuncData×List Bool):=(KO W,some (WG st,[true,true,true,true,true]))
def SaysT (W:Want) (st:Stmt) (_:World) (h:Heap):Prop:=∃(K:Frag) (c T:Addr),K.In h∧(Has W K c T∧Og K st)∧h.get? T=some (tabObj #[])
theorem SaysT.keeps {W:Want} {st:Stmt} (w:World) (h h':Heap) (x:SaysT W st w h) (k:∀b o,h.get? b=some o→h'.get? b=some o):SaysT W st w h':=by
 obtain ⟨K,c,T,h1,h2,h3⟩:=x
 exact ⟨K,c,T,h1.keeps k,h2,k _ _ h3⟩
end Tp
namespace LS
open PySem PySem.W PySem.Spec PySem.Calls PyProof.Rows L2
structure TmK (P:Program) (w:World) (K:Frag) (mg:Str→Option Value) (base:Heap) (C f:Addr) (fd:FuncData) (oI:Obj):Prop where
 tm:tmX K C f=true
 F:FnOk P w K mg base (AK P w K) 1 f fd ["self","many","most"] (N3 K C)
 hb:Binds K fd ["self","many","most"] []
 lI:K.lookup f=some oI
 cI:oI.cls=.type "function"
 kp:keepIn K (.ref C)=true
 nC:nsIn K mainGlobals "TooMany"=some (some (.ref C))
end LS
namespace LS
open PySem PySem.Spec PyProof.Rows L2
open Classical in
noncomputable def strOfD:D→HD→Out D
 |.int i,h=>if i.natAbs<4611686018427387904 then .ok (.str (toString i)) h else .stuck
 |_,_=>.stuck
section
variable {X:Cx}
theorem WH:B1 X (.type "str") (fun xs H Q=>∃i:Int,xs=[.int i]∧i.natAbs<4611686018427387904∧Q (.str (toString i)) H):=by
 intro pins s σ H xs us Q I r h
 obtain ⟨i,rfl,hi,q⟩:=h
 obtain ⟨u,rfl,t,rfl⟩:=Dl r
 exact str_of_int_fit (N:=4611686018427387904) (by split<;>omega) (Int.le_refl _) fun _=>⟨.str (toString i),H,I.tok _,⟨_,rfl⟩,q⟩
theorem WI:B3 X (.type "str") (Aj strOfD):=by
 refine ⟨_,WH,fun m H h E ds vs Q hr r q=>Ei r q fun d v ev rv q=>?_⟩
 unfold strOfD at q
 split at q
 ·split at q
  ·rename_i i hi
   simp only [DV] at rv;subst rv
   exact ⟨_,ev,hi,AL hr q (by simp [DV])⟩
  ·exact q.elim
 ·exact q.elim
def ZbX (i j k:Nat) (ta:TA):TS:=fun Dn σ H=>ta σ H fun vs H1=>∃u v w,vs=[u,v,w]∧Dn.nx (((σ.set i (some u)).set j (some v)).set k (some w)) H1
def KQ (i j k:Nat) (ρ:Af):List D→HD→Out (Fl×Af)
 |[u,v,w],h=>.ok (.nx,((ρ.set i (some u)).set j (some v)).set k (some w)) h
 |_,_=>.stuck
noncomputable def Oh (i j k:Nat) (fa:MA):MS:=fun ρ h=>(fa ρ h).bind fun ds h1=>KQ i j k ρ ds h1
end
@[simp] theorem ZbY {i j k:Nat} {fa:MA} {ρ:Af} {h:HD} {Q:Fl×Af→HD→Prop}:Wp (Oh i j k fa ρ h) Q=Wp (fa ρ h) fun ds h1=>Wp (KQ i j k ρ ds h1) Q:=by unfold Oh;rw [Al]
@[simp] theorem ZbZ {i j k:Nat} {ρ:Af} {u v w:D} {h:HD} {Q:Fl×Af→HD→Prop}:Wp (KQ i j k ρ [u,v,w] h) Q=Q (.nx,((ρ.set i (some u)).set j (some v)).set k (some w)) h:=rfl
section
variable {X:Cx}
abbrev Zb0:=DP fun i j=>.int (Builtin.bitXor i j)
end
section
variable {X:Cx} {E:XK} {D:Addr} {elt tg iter:Expr} {ifs:List Expr} {gs gens:List Comprehension} {scope:Scope} {pos:Pos} {Nc:List Str} {cs:List (Option Nat)} {it:MI} {gg:TG} {sg:MG} {t:MT} {f:ME} {e:Cy} {d:Nat} {is js:List Nat}
end
def WJ:List Expr→Option (List (Int×Int))
 |[]=>some []
 |.Tuple [.Constant (.int a) _ _,.Constant (.int b) _ _] _ _::es=>(WJ es).map ((a,b)::·)
 |_=>none
noncomputable def Ip:List (Int×Int)→MA
 |[]=>Ac
 |p::ps=>Aa (An (Aa (mC (.int p.1)) (Aa (mC (.int p.2)) Ac))) (Ip ps)
@[simp] theorem Zb1:Ip []=Ac:=rfl
@[simp] theorem Zb2 {p:Int×Int} {ps:List (Int×Int)}:Ip (p::ps)=Aa (An (Aa (mC (.int p.1)) (Aa (mC (.int p.2)) Ac))) (Ip ps):=rfl
section
variable {X:Cx} {E:XK}
@[irreducible] def ExI (X:Cx) (E:XK) (st:Stmt) (g:MS):Prop:=Ex X E st g
@[irreducible] def Zb3 (X:Cx) (E:XK) (sts:List Stmt) (g:MS):Prop:=BQ X E sts g
end
end LS
namespace LS
open PySem PySem.Spec PySem.W PyProof.Rows L2
end LS
namespace LS
open PySem PySem.Spec PyProof.Rows L2 PySem.W
end LS
namespace Tp
open PySem PySem.W PySem.Spec PySem.Calls PyProof.Rows
abbrev Oi:=List (Option (FuncData×Bool×Bool))×List (Option Int)×List (Option (Option Value))×Bool
noncomputable def Zb4 (W:Want) (s:Shared):Oi:=fL (GA s.heap) fun K=>
 (W.fs.map fun x=>FB K x.1,W.cs.map fun x=>FC K x.1,W.bs.map (nsIn K mainGlobals),true)
def Zb5 (W:Want):Oi:=(W.fs.map fun x=>some (Im x.1 x.2,true,true),W.cs.map fun x=>some x.2,W.bs.map fun _=>some none,true)
inductive Oj (W:Want) (K:Frag):Prop where
 |mk (fs:∀(i:Nat) n st,W.fs[i]?=some (n,st)→SeenF K n st) (cs:∀(i:Nat) n v,W.cs[i]?=some (n,v)→∃t,nsIn K mainGlobals n=some (some (.int v t))) (bs:∀(i:Nat) n,W.bs[i]?=some n→nsIn K mainGlobals n=some none)
  (et:True):Oj W K
def Says0 (W:Want) (_:World) (h:Heap):Prop:=∃K:Frag,K.In h∧Oj W K
theorem Says0.keeps {W:Want} (w:World) (h h':Heap) (x:Says0 W w h) (k:∀b o,h.get? b=some o→h'.get? b=some o):Says0 W w h':=by
 obtain ⟨K,h1,h2⟩:=x
 exact ⟨K,h1.keeps k,h2⟩
end Tp
namespace LS
open PySem PySem.W PySem.Spec PySem.Calls PyProof.Rows L2
end LS
namespace LS
open PySem PySem.Spec PyProof.Rows L2
def WK:D→HD→Out D:=fun x h=>match x with
 |.loc l=>(match h[l]? with
  |some (.lst ds)=>Bi ds.reverse h
  |_=>.stuck)
 |_=>.stuck
def Zb6 (f:ME):ME:=fun ρ h=>(f ρ h).bind WK
section
variable {X:Cx} {E:XK} {e:Expr} {f:ME}
end
def FE:D→D→HD→Out D:=fun x y h=>match x with
 |.exc _ _=>.stuck
 |.edic=>.stuck
 |_=>Aw x y h
section
variable {h:HD} {y:D} {i:Int} {b:Bool} {x:Str} {ds:List D} {l:Nat}
@[simp] theorem Zb7:FE (.int i) y h=Aw (.int i) y h:=rfl
@[simp] theorem Zb8:FE (.bl b) y h=Aw (.bl b) y h:=rfl
@[simp] theorem Zb9:FE .non y h=Aw .non y h:=rfl
@[simp] theorem Zca:FE (.str x) y h=Aw (.str x) y h:=rfl
@[simp] theorem Zcb:FE (.tup ds) y h=Aw (.tup ds) y h:=rfl
@[simp] theorem Zcc:FE (.loc l) y h=Aw (.loc l) y h:=rfl
end
end LS
namespace LS
open PySem PySem.Spec PyProof.Rows L2 PySem.W PySem.Calls
section
variable {X:Cx} {E:XK}
def De:D→D→HD→Out D:=fun x y h=>match x,y with
 |.str z,.int i=>if z.length≤sizeLine then (match Bx z.cps.toList i with
  |some c=>.ok (.str ⟨#[c]⟩) h
  |none=>.stuck) else .stuck
 |_,_=>.stuck
theorem WL {a b:Expr} {pos:Pos} {f g:ME} (ha:Ev X E a f) (hb:Ev X E b g) (hs:JG b):Ev X E (.Subscript a b pos) (Ae De f g):=
 Bq (LZ Sh ha hb hs) fun σ H Q hq=>F9 hq fun m H2 h2 x y v u hr rx ry q=>by
  unfold De at q
  split at q
  ·rename_i z i
   split at q
   ·rename_i hz
    split at q
    ·rename_i c ec
     simp only [DV] at rx ry
     subst rx ry
     exact ⟨z,i,c,rfl,rfl,hz,ec,AL hr q (by simp [DV])⟩
    ·exact q.elim
   ·exact q.elim
  ·exact q.elim
def EF:List D→Option (List Str)
 |[]=>some []
 |.str x::ds=>(EF ds).map (x::·)
 |_=>none
def FG (sep:Str):List Str→Str
 |[x]=>x
 |xs=>Builtin.Str.glued sep xs
def BE:D→HD→Out D
 |.str x,h=>.ok (.str x) h
 |_,_=>.stuck
def B7:D→D→HD→Out D:=fun x y h=>match x,y with
 |.str sep,.loc l=>(match h[l]? with
  |some (.lst ds)=>(match EF ds with
   |some xs=>if xs.toArray.foldl (·+ ·.length+sep.length) 0≤sizeLine∧(FG sep xs).length≤sizeLine then .ok (.str (FG sep xs)) h else .stuck
   |none=>.stuck)
  |_=>.stuck)
 |_,_=>.stuck
theorem WM (x y:D) (h:HD):Cn (B7 x y h):=by
 unfold B7
 repeat' split
 all_goals trivial
theorem GB:Kr X "str" BE where
 two:=fun x h=>by
  unfold BE
  split
  ·exact .inl rfl
  ·exact .inr rfl
 ty:=fun m H h x v hr r e=>by
  unfold BE at e
  split at e
  ·simp only [DV] at r
   subst r
   exact fun pins σ s u I ru=>JK I ru rfl
  ·cases e
theorem Ol {K:Frag} {m:List Addr} {H:Hp}:∀{ds:List D} {vs:List V} {us:List Value} {xs:List Str},DVs K m H ds vs→Vals vs us→EF ds=some xs→∃l:List (Str×Tok),us=strValues l∧l.map (·.1)=xs
 |[],_,_,_,r,t,e=>by
  simp only [DVs] at r
  subst r
  cases t
  cases e
  exact ⟨[],rfl,rfl⟩
 |d::ds,_,_,xs,r,t,e=>by
  simp only [DVs] at r
  obtain ⟨v,w,rfl,rv,rw'⟩:=r
  cases t with
  |cons t1 t2=>
   cases d<;>simp only [EF] at e<;>try cases e
   rename_i x
   cases q:EF ds with
   |none=>rw [q] at e;cases e
   |some ys=>
    rw [q] at e
    cases e
    obtain ⟨l,e1,e2⟩:=Ol rw' t2 q
    simp only [DV] at rv
    subst rv
    obtain ⟨tk,rfl⟩:=t1
    exact ⟨(x,tk)::l,by rw [e1];rfl,by simp [e2]⟩
theorem WN:Ds X "str.join" B7:=by
 intro pins s σ H m h x y v yv u uy Q I hr rx ry r r2 q
 unfold B7 at q
 split at q
 ·rename_i sep l
  split at q
  ·rename_i ds el
   split at q
   ·rename_i xs ex
    split at q
    ·rename_i hz
     simp only [DV] at rx ry
     subst rx
     obtain ⟨a,rfl,ha⟩:=ry
     cases (show uy=Value.ref a from r2)
     obtain ⟨t,rfl⟩:=r
     obtain ⟨vs,hv,dv⟩:=hr.cells l _ a el ha
     obtain ⟨z,its,n,rr,hl,e⟩:=I.lstM hv
     obtain ⟨ps,e1,e2⟩:=Ol dv rr ex
     subst e1
     have hlen:Builtin.Str.tooLong ((ps.map (·.1)).toArray.foldl (·+ ·.length+sep.length) 0)=false:=by
      rw [e2]
      exact decide_eq_false (Nat.not_lt.mpr hz.1)
     have Ao:∀(tk tk':Tok),EP X pins σ Q (.str (FG sep xs) tk) {s with toks:=tk'}:=fun tk tk'=>⟨.str (FG sep xs),H,I.tok _,⟨tk,rfl⟩,AL hr q (by simp [DV])⟩
     refine call_meets F.slot_str_join (typeIs_str _ _ _) F.entry_str_join (F.args_str_join_2 _ _) (meets_str_join_list sep t a ps hlen) ⟨⟨_,e,rfl,n,rfl⟩,?_⟩
     subst e2
     match ps,Ao,hz with
     |[],Ao,hz=>exact ⟨hz.2,Ao _ _⟩
     |[p],Ao,hz=>exact Ao _ _
     |p::p'::ps,Ao,hz=>exact ⟨hz.2,Ao _ _⟩
    ·exact q.elim
   ·exact q.elim
  ·exact q.elim
 ·exact q.elim
def KR (n:Str):List D→HD→Out D:=fun xs h1=>if xs.length≤sizeLine then .ok (.exc n []) h1 else .stuck
def Om (n:Str) (fa:MA):ME:=fun ρ h=>(fa ρ h).bind (KR n)
noncomputable def On:List D→HD→Out D:=fun xs h1=>match xs with
 |[.int a,.int b]=>(match KG [none,some (.int a),some (.int b)] h1 with
  |.ok (.str _) h2=>.ok (.exc "TooMany" [("many",a),("most",b)]) h2
  |_=>.stuck)
 |_=>.stuck
noncomputable def Oo (fa:MA):ME:=fun ρ h=>(fa ρ h).bind On
end
section
variable {n:Str} {fa:MA} {f:ME} {ρ:Af} {h:HD} {Q:D→HD→Prop}
@[simp] theorem Zcd:Wp (Om n fa ρ h) Q=Wp (fa ρ h) fun xs h1=>Wp (KR n xs h1) Q:=by unfold Om;rw [Al]
@[simp] theorem Zce {x:D}:KR n [x] h=.ok (.exc n []) h:=if_pos (by show 1≤sizeLine;decide)
@[simp] theorem Zcf:Wp (Oo fa ρ h) Q=Wp (fa ρ h) fun xs h1=>Wp (On xs h1) Q:=by unfold Oo;rw [Al]
@[simp] theorem Zcg {x:Str}:BE (.str x) h=.ok (.str x) h:=rfl
@[simp] theorem Zch {nm:Str}:Wp (N5 f nm ρ h) Q=Wp (f ρ h) fun d h1=>Wp (N4 nm d h1) Q:=by unfold N5;rw [Al]
end
def Oq:Expr→List Str
 |.Name x _=>[x]
 |_=>[]
def WO:Expr→List Str
 |.Tuple es _ _=>es.flatMap Oq
 |_=>[]
def WQ:Expr→List Str
 |.Name x _=>[x]
 |.Tuple es _ _=>es.flatMap Oq++es.flatMap WO
 |_=>[]
def WR (cs:List (Option Nat)) (N:List Str):List Str:=cs.filterMap fun o=>o.map fun j=>N.getD j ""
abbrev DZ (tg:Expr) (cs:List (Option Nat)) (N:List Str):List Str:=WQ tg++WR cs N
theorem WS {X:Cx} {E:XK} {i:Nat} {x:Str} {pos:Pos} (hN:X.N[i]?=some x:=by rfl) (hv:G0 X.env.scope x:=by first |exact Or.inl rfl |exact Or.inr (Or.inl rfl) |exact Or.inr (Or.inr rfl)) (hd:(x==("__debug__":Str))=false:=by decide) (hcd:(x==("__classdict__":Str))=false:=by decide):Ev X E (.Name x pos) (Ab i):=JR (Jq hN hv hd hcd)
section
variable {X:Cx} {E:XK} {scope:Scope} {cs:List (Option Nat)} {tg iter elt:Expr} {it:MI} {gg:TG} {sg:MG} {ifs:List Expr} {t:MT} {f:ME} {pos:Pos}
theorem WT (hcalm:X.calm=true) (S:CSc X scope (DZ tg cs X.N) cs) (hi:DT X E tg iter it) (hg:Fi X.K cs gg sg)
 (hb:∀(C D:Addr) (cells:List (Str×Addr)) (fp:List Addr) (s₀:Shared) (H₀:Hp) (pins:List (Addr×Obj)),PG (Bk X (DZ tg cs X.N) scope C D cells fp s₀ H₀ pins) tg gg∧Fj (Bk X (DZ tg cs X.N) scope C D cells fp s₀ H₀ pins) E0 ifs t∧Ev (Bk X (DZ tg cs X.N) scope C D cells fp s₀ H₀ pins) E0 elt f)
 (hsf:∀x,foldedSetIterable iter X.env x=pure x:=by intro _;rfl):Ev X E (.ListComp elt [⟨tg,iter,ifs,0⟩] scope pos) (AD cs it sg t f):=Uc hcalm S.ok hi hg hb hsf
theorem WU {i:Nat} {x:Str} {pos' pos2:Pos} (hcalm:X.calm=true) (hN:X.N.Nodup) (hix:X.N[i]?=some x) (hx:Eb X.env.scope x) (S:CSc X scope (DZ tg cs X.N) cs) (hi:DT X E tg iter it) (hg:Fi X.K cs gg sg)
 (hb:∀(C D:Addr) (cells:List (Str×Addr)) (fp:List Addr) (s₀:Shared) (H₀:Hp) (pins:List (Addr×Obj)),PG (Bk X (DZ tg cs X.N) scope C D cells fp s₀ H₀ pins) tg gg∧Fj (Bk X (DZ tg cs X.N) scope C D cells fp s₀ H₀ pins) E0 ifs t∧Ev (Bk X (DZ tg cs X.N) scope C D cells fp s₀ H₀ pins) E0 elt f)
 (hsf:∀x,foldedSetIterable iter X.env x=pure x:=by intro _;rfl) (hsw:swapsWith (.ListComp elt [⟨tg,iter,ifs,0⟩] scope pos) (some (.Name x pos')) pos2.line X.env=pure true:=by rfl)
 (hf:X.fn x=true∨X.env.scope.names.lookup x=some .local:=by first |exact .inl rfl |exact .inr rfl |assumption):Ex X E (.Assign [.Name x pos'] (.ListComp elt [⟨tg,iter,ifs,0⟩] scope pos) pos2) (Am i (AD cs it sg t f)):=Ud hcalm hN hix hx S.ok hi hg hb hsf hsw hf
theorem WV {X:Cx} {E:XK} {c P:Addr} {cs:List Nat} {params:Arguments} {body:Expr} {scope:Scope} {k kk:Nat} {Fk:List D→HD→Out D} {f:ME} {fs:Addr} {fd:FuncData} {st:Stmt} {lpos p pos:Pos}
 (L:LamX X c P) (fna:∀x,X.fn x=true) (hr:Room kk X.A) (lv:Lv X E) (et:etOk X.K=true) (Sd:SaidD X.K X.mg st fs fd) (St:Kw st) (hkind:CaM X.prog X.w X.K X.mg X.base "_law_kind" k Fk) (S:LSc X scope (cs.map fun j=>X.N.getD j "") cs)
 (hb:∀(a:Addr) (cd:Value) (cl:List (Str×Addr)) (A:Around) (outer:List Env) (s:Shared) (H:Hp) (E':XK),Room k (A.deeper (envX AY scope s.heap.objs.size a cd cl))→Ev (CY X.prog X.w X.K X.mg X.base (cs.map fun j=>X.N.getD j "") scope a cd cl A outer s H E') E' body f)
 (hg:Gl X "_law_said") (hkk:k+2≤kk:=by decide) (hdef:defaultsOf params X.env=([],[]):=by rfl)
 (hbind:∀(cl:List (Str×Addr)) (pm cv ctv:Value),bindArgs (kla_fn "<lambda>" AY params body scope cl pm cv ctv) ⟨[],[]⟩=pure []:=by exact fun _ _ _ _=>rfl)
 (he:starEach [.Lambda params body scope lpos] X.env=(false,eval (.Lambda params body scope lpos) X.env)::starEach [] X.env:=by rfl) (hpl:(backTo pos (starEach [] X.env)).any (·.1)=false:=by rfl):
 Ev X E (.Call (.Name "_law_said" p) [.Lambda params body scope lpos] [] pos) (B6 cs Fk f):=VW L fna hr lv et Sd St hkind S hb hg hkk hdef hbind he hpl
end
noncomputable def AQ (n m:Nat) (g:MS):List D→HD→Out D:=fun ds h=>if ds.length=n then Ax m g ds h else .stuck
section
variable {P:Program} {w:World} {K:PySem.W.Frag} {mg:Str→Option Value} {base h:Heap} {x:Str} {st:Stmt} {N ps:List Str} {k:Nat} {g:MS}
theorem KS (S:Tp.SeenF K x st) (X:K.In h) (G:h.Ns mainGlobals mg) (bd:∀(kV doc pm:Value) (an:Option Addr) (cdv ct:Value) (us:List Value),us.length=ps.length→bindArgs (PySem.W.fnOf x x (defArgs st) (defBody st) (defScope st) .none kV doc pm an cdv ct) ⟨us,[]⟩=pure (ps.zip us)):∃f fd,Dn K mg x ps st f fd:=by
 obtain ⟨_,_,_,_,_,_,_,_,_,_,a,l,c,k⟩:=S
 exact ⟨_,_,L7 l c k,(L7 l c k).binds bd,PySem.W.mg_of X G a⟩
theorem A3 (S:Tp.SeenF K x st) (X:K.In h) (G:h.Ns mainGlobals mg)
 (b:N.Nodup→∀(f:Addr) (cdv:Value) (A:Around) (outer:List Env) (s:Shared) (H:Hp) (E:XK),Room k (A.deeper (envOfC x (defScope st) s.heap.objs.size f cdv))→BQ (Bp (AK P w K) P w K mg base N x (defScope st) f cdv A outer s H E) E (defBody st) g)
 (bd:∀(kV doc pm:Value) (an:Option Addr) (cdv ct:Value) (us:List Value),us.length=ps.length→bindArgs (PySem.W.fnOf x x (defArgs st) (defBody st) (defScope st) .none kV doc pm an cdv ct) ⟨us,[]⟩=pure (ps.zip us):=by
  intro _ _ _ _ _ _ us hl;rcases us with _ |⟨_,_ |⟨_,_ |⟨_,_ |⟨_,_⟩⟩⟩⟩<;>first |rfl |exact absurd hl (by simp)) (sc:CD N ps (defScope st):=by exact ⟨rfl,rfl,rfl,by decide +kernel,rfl,by decide +kernel,by decide +kernel⟩):CaE P w K mg base x (k+1) (AQ ps.length N.length g):=by
 obtain ⟨f,fd,D⟩:=KS S X G bd
 exact ⟨f,fd,_,UY D.fn sc (fun ds h e=>if_neg e) (fun ds h e=>if_pos e) (fun cdv A outer s H E hr=>b sc.nd f cdv A outer s H E hr),D.bd,D.mg,D.fn.kp⟩
theorem WW (S:Tp.SeenF K x st) (X:K.In h) (G:h.Ns mainGlobals mg)
 (b:N.Nodup→∀(f:Addr) (cdv:Value) (A:Around) (outer:List Env) (s:Shared) (H:Hp),RoomM k (A.deeper (envOfC x (defScope st) s.heap.objs.size f cdv))→BQ (Fx P w K mg base N x (defScope st) f cdv A outer s H) E0 (defBody st) g)
 (bd:∀(kV doc pm:Value) (an:Option Addr) (cdv ct:Value) (us:List Value),us.length=ps.length→bindArgs (PySem.W.fnOf x x (defArgs st) (defBody st) (defScope st) .none kV doc pm an cdv ct) ⟨us,[]⟩=pure (ps.zip us):=by
  intro _ _ _ _ _ _ us hl;rcases us with _ |⟨_,_ |⟨_,_ |⟨_,_ |⟨_,_⟩⟩⟩⟩<;>first |rfl |exact absurd hl (by simp)) (sc:CD N ps (defScope st):=by exact ⟨rfl,rfl,rfl,by decide +kernel,rfl,by decide +kernel,by decide +kernel⟩):CaM P w K mg base x (k+1) (AQ ps.length N.length g):=by
 obtain ⟨f,fd,D⟩:=KS S X G bd
 exact ⟨f,fd,_,Vv D.fn sc (fun ds h e=>if_neg e) (fun ds h e=>if_pos e) (fun cdv A outer s H hr=>b sc.nd f cdv A outer s H hr),D.bd,D.mg,D.fn.kp,fun ds h e=>if_neg e⟩
theorem WX (S:Tp.SeenF K "_law_said" st) (X:K.In h) (G:h.Ns mainGlobals mg)
 (bd:∀(kV doc pm:Value) (an:Option Addr) (cdv ct:Value) (us:List Value),us.length=(["_law_call"]:List Str).length→bindArgs (PySem.W.fnOf "_law_said" "_law_said" (defArgs st) (defBody st) (defScope st) .none kV doc pm an cdv ct) ⟨us,[]⟩=pure ((["_law_call"]:List Str).zip us):=by
  intro _ _ _ _ _ _ us hl;rcases us with _ |⟨_,_ |⟨_,_⟩⟩<;>first |rfl |exact absurd hl (by simp)):∃f fd,SaidD K mg st f fd:=by
 obtain ⟨f,fd,D⟩:=KS S X G bd
 exact ⟨f,fd,SaidD.of D⟩
theorem WY {bs:List Str} (hb:∀(i:Nat) n,bs[i]?=some n→PySem.W.nsIn K mainGlobals n=some none) (X:K.In h) (G:h.Ns mainGlobals mg):∀x∈bs,mg x=none:=fun x hx=>by
 obtain ⟨i,hi,rfl⟩:=GP hx
 exact PySem.W.mg_none_of X G (hb i _ (Bb hi))
end
end LS
namespace LS
open PySem PySem.Builtin PySem.Builtin.Str
abbrev tx (l:List Nat):Str:=⟨l.toArray⟩
theorem A4 (l:List Nat):(tx l).length=l.length:=by show l.toArray.size=_;simp
def Be (c:Nat):List Nat→Nat→List Nat
 |[],_=>[]
 |a::l,k=>if a=c then k::Be c l (k+1) else Be c l (k+1)
theorem Ot (l:List Nat) (c i:Nat) (h:i<l.length):subAt (tx l) (tx [c]) i=decide (l[i]=c):=by
 unfold subAt
 have e:((tx l).cps.extract i (i+(tx [c]).length))=#[l[i]]:=by
  show (l.toArray).extract i (i+1)=_
  apply Array.ext
  ·simp;omega
  ·intro j h1 h2
   simp at h2
   subst h2
   simp
 rw [e]
 by_cases z:l[i]=c
 ·rw [decide_eq_true z];simp [z]
 ·rw [decide_eq_false z];simp [z]
theorem Iq (l:List Nat) (c limit:Nat):∀(n k:Nat) (found:Array Nat) (free:Nat),k+n=l.length→free≤k→
 (forIn (List.range' k (n+1)) (found,free) (StrLaws.occBody (tx l) (tx [c]) l.length limit)).run.fst.toList=found.toList++(Be c (l.drop k) k).take (limit - found.size)
 |0,k,found,free,e,hf=>by
  have:l.drop k=[]:=List.drop_eq_nil_of_le (by omega)
  rw [this]
  unfold StrLaws.occBody
  simp [Be,List.range'_succ]
  rw [if_neg (by rintro ⟨⟨_,h⟩,_⟩;have:(tx [c]).length=1:=rfl;omega)]
  rfl
 |n+1,k,found,free,e,hf=>by
  have hk:k<l.length:=by omega
  rw [List.range'_succ,List.forIn_cons,GN hk,Be]
  unfold StrLaws.occBody
  rw [Ot l c k hk]
  have one:(tx [c]).length=1:=rfl
  by_cases z:l[k]=c
  ·rw [if_pos z]
   by_cases hs:found.size<limit
   ·rw [if_pos (by simp [z,hs,hf,one];omega)]
    have ih:=Iq l c limit n (k+1) (found.push k) (k+(tx [c]).length) (by omega) (Nat.le_of_eq (by rw [one]))
    refine Eq.trans ih ?_
    simp
    rw [show limit - found.size=(limit - (found.size+1))+1 by omega,List.take_succ_cons]
   ·rw [if_neg (by simp;intro h1;omega)]
    have ih:=Iq l c limit n (k+1) found free (by omega) (by omega)
    refine Eq.trans ih ?_
    rw [show limit - found.size=0 by omega,List.take_zero,List.take_zero]
  ·rw [if_neg z,if_neg (by simp [z])]
   exact Iq l c limit n (k+1) found free (by omega) (by omega)
theorem Ir (l:List Nat) (c limit:Nat):occurrences (tx l) (tx [c]) 0 (tx l).length limit=(Be c l 0).take limit:=by
 have hl:(tx l).length=l.length:=A4 l
 rw [StrLaws.occ_eq,hl]
 have:=Iq l c limit l.length 0 #[] 0 (by omega) (Ap _)
 simpa using this
def Dx (c:Nat) (l:List Nat):Int:=match Be c l 0 with
 |i::_=>(i:Int)
 |[]=>-1
theorem WZ (l:List Nat) (c:Nat):Txt.find (tx l) (tx [c])=Dx c l:=by
 unfold Txt.find Dx
 rw [Ir]
 cases Be c l 0<;>rfl
def A5 (c:Nat):List Nat→List (List Nat)
 |[]=>[[]]
 |a::l=>if a=c then []::A5 c l else match A5 c l with
  |[]=>[[a]]
  |p::ps=>(a::p)::ps
theorem KU (c:Nat):∀l,A5 c l≠[]
 |[]=>by simp [A5]
 |a::l=>by
  unfold A5
  split
  ·simp
  ·split<;>simp
theorem KV (c:Nat):∀l,(∀a∈l,a≠c)→A5 c l=[l]
 |[],_=>rfl
 |a::l,h=>by
  unfold A5
  rw [if_neg (h a AE),KV c l fun b hb=>h b (AI _ hb)]
theorem Ou (c:Nat):∀l k,Be c l k=[]↔∀a∈l,a≠c
 |[],k=>by simp [Be]
 |a::l,k=>by
  unfold Be
  split
  ·rename_i h
   subst h
   simp
  ·rename_i h
   rw [Ou c l]
   simp [h]
theorem Iu (c:Nat):∀l k,(Be c l k).length≤l.length
 |[],k=>B9 _
 |a::l,k=>by
  unfold Be
  split
  ·simp;exact Iu c l _
  ·simp;exact Nat.le_succ_of_le (Iu c l _)
theorem KW (c:Nat):∀l k,∀i∈Be c l k,k≤i
 |[],k,i,h=>by cases h
 |a::l,k,i,h=>by
  unfold Be at h
  split at h
  ·rcases qaB.mp h with rfl |h
   ·exact Ap _
   ·exact GT (KW c l _ i h)
  ·exact GT (KW c l _ i h)
theorem KY (L:List Nat) (c:Nat):∀(n k s:Nat),k+n=L.length→s≤k→(∀i,s≤i→i<k→∀h:i<L.length,L[i]≠c)→
 (((s::(Be c (L.drop k) k).map (·+ 1)).zip ((Be c (L.drop k) k)++[L.length])).map fun p=>(tx L).cps.toList.extract p.1 p.2)=(match A5 c (L.drop k) with
   |[]=>[L.extract s k]
   |p::ps=>(L.extract s k++p)::ps)
 |0,k,s,e,hs,hn=>by
  have:L.drop k=[]:=List.drop_eq_nil_of_le (by omega)
  rw [this]
  have hk:L.length=k:=by omega
  simp [Be,A5,hk]
 |n+1,k,s,e,hs,hn=>by
  have hk:k<L.length:=by omega
  rw [GN hk,Be,A5]
  by_cases z:L[k]=c
  ·rw [if_pos z,if_pos z]
   have ih:=KY L c n (k+1) (k+1) (by omega) (Ap _) (fun i h1 h2=>by omega)
   rw [Bg,Cr,List.zip_cons_cons,Bg,ih]
   have e0:L.extract (k+1) (k+1)=[]:=by simp
   rw [e0]
   cases hq:A5 c (L.drop (k+1)) with
   |nil=>exact absurd hq (KU _ _)
   |cons p ps=>simp
  ·rw [if_neg z,if_neg z]
   have ih:=KY L c n (k+1) s (by omega) (by omega) (fun i h1 h2 h3=>by
    by_cases q:i=k
    ·subst q;exact z
    ·exact hn i h1 (by omega) h3)
   rw [ih]
   have e1:L.extract s (k+1)=L.extract s k++[L[k]]:=by
    rw [List.extract_eq_drop_take,List.extract_eq_drop_take]
    have hl:k - s<(L.drop s).length:=by rw [FX];omega
    rw [show k+1 - s=(k - s)+1 by omega,List.take_succ_eq_append_getElem hl]
    congr 2
    rw [List.getElem_drop]
    congr 1
    omega
   rw [e1]
   cases hq:A5 c (L.drop (k+1)) with
   |nil=>exact absurd hq (KU _ _)
   |cons p ps=>simp
theorem W0 (l:List Nat) (c n:Nat) (hn:l.length≤n):partsBetween (tx l) (occurrences (tx l) (tx [c]) 0 (tx l).length n) (tx [c]).length=(A5 c l).map tx:=by
 rw [Ir,GO (Bc (Iu c l 0) hn)]
 unfold partsBetween
 have:=KY l c l.length 0 0 (by omega) (Ap _) (fun i h1 h2=>by omega)
 have e:A5 c l=(match A5 c (l.drop 0) with
  |[]=>[l.extract 0 0]
  |p::ps=>(l.extract 0 0++p)::ps):=by
  rw [GX]
  cases hq:A5 c l with
  |nil=>exact absurd hq (KU _ _)
  |cons p ps=>simp
 rw [e,←this]
 rw [F4,GX]
 show List.map _ _=List.map _ _
 apply D3
 intro p _
 show (⟨(tx l).cps.extract p.1 p.2⟩:Str)=⟨((tx l).cps.toList.extract p.1 p.2).toArray⟩
 congr 1
 simp
def FH (c:Nat):List Nat→Option (List Nat×List Nat)
 |[]=>none
 |a::l=>if a=c then some ([],l) else (FH c l).map fun p=>(a::p.1,p.2)
theorem Ov (c:Nat):∀l k,FH c l=(match Be c l k with
 |[]=>none
 |i::_=>some (l.take (i - k),l.drop (i - k+1)))
 |[],k=>rfl
 |a::l,k=>by
  unfold FH Be
  split
  ·simp
  ·rw [Ov c l (k+1)]
   cases e:Be c l (k+1) with
   |nil=>rfl
   |cons i r=>
    have hi:k+1≤i:=KW c l (k+1) i (by rw [e];exact AE)
    simp
    rw [show i - k=(i - (k+1))+1 by omega]
    simp
end LS
namespace LS
open PySem PySem.Spec PyProof.Rows L2 PySem.W PySem.Calls
section
variable {X:Cx} {E:XK}
theorem W1 {x z:Str} {t:Tok} {pos:Pos} (hg:Gl X x) (hm:X.mg x=some (.str z t)) (hd:(x==("__debug__":Str))=false:=by decide):Ev X E (.Name x pos) (mC (.str z)):=
 Eg (Ly (v:=.str z) hg hm ⟨t,rfl⟩ hd) fun _ _=>by simp [DV]
def EG (f:Str→Str→Option D):D→D→HD→Out D:=fun x y h=>match x,y with
 |.str a,.str b=>(match f a b with
  |some d=>.ok d h
  |none=>.stuck)
 |_,_=>.stuck
theorem Ow (f:Str→Str→Option D) (x y:D) (h:HD):Cn (EG f x y h):=by
 unfold EG
 repeat' split
 all_goals trivial
theorem Ox {id:String} {f:Str→Str→Option D} (h:∀(pins:List (Addr×Obj)) (s:Shared) (σ:L2.St) (H:Hp) (a b:Str) (t u:Tok) (d:D) (Q:VK),Inv X pins σ H s→f a b=some d→(∀v:V,(∀m H,DV X.K m H d v)→Q v H)→wpAny (model X.prog X.w) X.A (call (.builtin id) [.str a t,.str b u]) (EP X pins σ Q) X.xe s):Ds X id (EG f):=by
 intro pins s σ H m hd x y v yv u uy Q I hr rx ry r r2 q
 unfold EG at q
 split at q
 ·rename_i a b
  split at q
  ·rename_i d ed
   simp only [DV] at rx ry
   subst rx ry
   obtain ⟨t,rfl⟩:=r
   obtain ⟨t2,rfl⟩:=r2
   exact h pins s σ H a b t t2 d Q I ed fun v hv=>AL hr q (hv m H)
  ·exact q.elim
 ·exact q.elim
def Iv:D→D→HD→Out D:=EG fun a b=>some (.int (Txt.find a b))
theorem W2:Ds X "str.find" Iv:=Ox fun pins s σ H a b t u d Q I e q=>by
 cases e
 exact SC.find ⟨.int (Txt.find a b),H,I.tok _,⟨_,rfl⟩,q _ fun _ _=>by simp [DV]⟩
def Iw:D→D→HD→Out D:=EG fun a b=>some (.bl (Txt.startswith a b))
theorem W3:Ds X "str.startswith" Iw:=Ox fun pins s σ H a b t u d Q I e q=>by
 cases e
 exact SC.startswith ⟨.bl (Txt.startswith a b),H,I,rfl,q _ fun _ _=>by simp [DV]⟩
def Zci:D→D→HD→Out D:=EG fun a b=>some (.int (Txt.count a b))
def Dy:D→D→HD→Out D:=fun x y h=>match x,y with
 |.str a,.str ⟨⟨[c]⟩⟩=>if a.length≤sizeLine then Bi ((A5 c a.cps.toList).map fun l=>.str (tx l)) h else .stuck
 |_,_=>.stuck
theorem W4 {ds:List D} {h:HD}:Cn (Bi ds h):=by
 unfold Bi
 split<;>trivial
theorem W5 (x y:D) (h:HD):Cn (Dy x y h):=by
 unfold Dy
 repeat' split
 all_goals first |trivial |exact W4
theorem Oy:∀(l:List Str) (tk:Nat),Vals (l.map V.str) (strsFrom tk l)
 |[],_=>.nil
 |x::l,tk=>.cons ⟨tk,rfl⟩ (Oy l (tk+1))
theorem Oz {K:Frag} {m:List Addr} {H:Hp}:∀(l:List (List Nat)),DVs K m H (l.map fun l=>.str (tx l)) ((l.map tx).map V.str)
 |[]=>.nil
 |x::l=>.cons (by simp [DV]) (Oz l)
theorem W6 {l:List Nat} {c:Nat} (h:c∈l):Builtin.Str.strKind (tx [c])≤Builtin.Str.strKind (tx l):=by
 unfold Builtin.Str.strKind
 simp only [List.all_toArray,List.all_cons,List.all_nil,Bool.and_true,qaI,decide_eq_true_eq]
 by_cases h1:∀x∈l,x<256
 ·rw [if_pos h1,if_pos (h1 c h)]
  exact Ap _
 ·rw [if_neg h1]
  by_cases h2:∀x∈l,x<65536
  ·rw [if_pos h2]
   split
   ·decide
   ·rw [if_pos (h2 c h)]
    exact Ap _
  ·rw [if_neg h2]
   repeat' split
   all_goals decide
theorem W7:Ds X "str.split" Dy:=by
 intro pins s σ H m hd x y v yv u uy Q I hr rx ry r r2 q
 unfold Dy at q
 split at q
 ·rename_i a c
  split at q
  ·rename_i ha
   simp only [DV] at rx ry
   subst rx ry
   obtain ⟨t,rfl⟩:=r
   obtain ⟨t2,rfl⟩:=r2
   obtain ⟨⟨l⟩⟩:=a
   obtain ⟨hz,Ao⟩:=Fb hr (Oz (K:=X.K) (m:=m) (H:=H) (A5 c l)) q
   have hf:H s.heap.objs.size=none:=I.hok.fresh (Ap _)
   have one:(A5 c l)=[l]→EP X pins σ Q (.ref s.heap.objs.size) {s with heap:=s.heap.push {cls:=.type "list",data:=.seq [Value.str (tx l) t].toArray}}:=fun e=>by
    rw [e] at Ao
    exact ⟨.ref s.heap.objs.size,Ai H s.heap.objs.size (.lst [.str (tx l)]),I.laid (t':=s.toks) (fun b u e=>AH _ e) (Ap _) ⟨by show 1≤sizeLine;decide,[.str (tx l) t],0,.cons ⟨t,rfl⟩ .nil,Bf _ rfl⟩,rfl,Ao _ hf⟩
   by_cases h1:(decide ((tx l).length<(tx [c]).length)||decide (Builtin.Str.strKind (tx l)<Builtin.Str.strKind (tx [c])))=true
   ·refine call_meets F.slot_str_split (typeIs_str _ _ _) F.entry_str_split (F.args_str_split_2 _ _) (meets_str_split_cannot_occur (tx l) (tx [c]) t t2 h1) (one (KV c l fun b hb z=>?_))
    subst z
    rw [Bool.or_eq_true,decide_eq_true_eq,decide_eq_true_eq,A4,A4] at h1
    rcases h1 with h1 |h1
    ·cases l with
     |nil=>cases hb
     |cons=>simp at h1
    ·exact absurd h1 (Nat.not_lt.mpr (W6 hb))
   ·have h1:(decide ((tx l).length<(tx [c]).length)||decide (Builtin.Str.strKind (tx l)<Builtin.Str.strKind (tx [c])))=false:=by simpa using h1
    have ho:=Ir l c ((tx l).length+1)
    rw [A4,GO (Nat.le_succ_of_le (Iu c l 0)),←A4 l] at ho
    by_cases h2:Be c l 0=[]
    ·refine call_meets F.slot_str_split (typeIs_str _ _ _) F.entry_str_split (F.args_str_split_2 _ _) (meets_str_split_not_found (tx l) (tx [c]) t t2 h1 rfl (by rw [ho,h2];rfl)) (one (KV c l ((Ou c l 0).mp h2)))
    ·have hp:Builtin.Str.partsBetween (tx l) (Builtin.Str.occurrences (tx l) (tx [c]) 0 (tx l).length ((tx l).length+1)) (tx [c]).length=(A5 c l).map tx:=W0 l c _ (by rw [A4];exact Nat.le_succ _)
     refine call_meets F.slot_str_split (typeIs_str _ _ _) F.entry_str_split (F.args_str_split_2 _ _) (meets_str_split_sep (tx l) (tx [c]) t t2 h1 rfl (by rw [ho];cases e:Be c l 0 with
      |nil=>exact absurd e h2
      |cons=>rfl) ha (by rw [hp];simpa using hz)) ?_
     rw [hp]
     exact ⟨.ref s.heap.objs.size,Ai H s.heap.objs.size (.lst (((A5 c l).map tx).map V.str)),I.laid (fun b u e=>AH _ e) (Ap _) ⟨hz,_,0,Oy _ _,Bf _ rfl⟩,rfl,Ao _ hf⟩
  ·exact q.elim
 ·exact q.elim
def BF (c:Nat) (l:List Nat):List Nat×List Nat×List Nat:=match FH c l with
 |some (a,b)=>(a,[c],b)
 |none=>(l,[],[])
def EH:D→D→HD→Out D:=fun x y h=>match x,y with
 |.str a,.str ⟨⟨[c]⟩⟩=>if a.length≤sizeLine then .ok (.tup [.str (tx (BF c a.cps.toList).1),.str (tx (BF c a.cps.toList).2.1),.str (tx (BF c a.cps.toList).2.2)]) h else .stuck
 |_,_=>.stuck
theorem W8 (x y:D) (h:HD):Cn (EH x y h):=by
 unfold EH
 repeat' split
 all_goals trivial
theorem W9:Ds X "str.partition" EH:=by
 intro pins s σ H m hd x y v yv u uy Q I hr rx ry r r2 q
 unfold EH at q
 split at q
 ·rename_i a c
  split at q
  ·rename_i ha
   simp only [DV] at rx ry
   subst rx ry
   obtain ⟨t,rfl⟩:=r
   obtain ⟨t2,rfl⟩:=r2
   obtain ⟨⟨l⟩⟩:=a
   have hf:H s.heap.objs.size=none:=I.hok.fresh (Ap _)
   have Ao:=DO (vs:=[.str (tx (BF c l).1),.str (tx (BF c l).2.1),.str (tx (BF c l).2.2)]) hr (.cons (by simp [DV]) (.cons (by simp [DV]) (.cons (by simp [DV]) .nil))) q
   refine call_meets F.slot_str_partition (typeIs_str _ _ _) F.entry_str_partition (F.args_str_partition_2 _ _) (meets_str_partition (tx l) (tx [c]) t t2 rfl ha) ?_
   have hc:=Ov c l 0
   rw [Ir]
   cases e:Be c l 0 with
   |nil=>
    rw [e] at hc
    have ep:BF c l=(l,[],[]):=by unfold BF;rw [hc]
    rw [ep] at Ao
    exact ⟨.ref s.heap.objs.size,Ai H s.heap.objs.size (.tup [.str (tx l),.str (tx []),.str (tx [])]),I.laid (fun b u e=>AH _ e) (Ap _) ⟨by show 3≤sizeLine;decide,_,.cons ⟨_,rfl⟩ (.cons ⟨_,rfl⟩ (.cons ⟨_,rfl⟩ .nil)),IsTup.new _ _,NoDict.new⟩,rfl,Ao _ hf⟩
   |cons i r=>
    rw [e] at hc
    have ep:BF c l=(l.take i,[c],l.drop (i+1)):=by unfold BF;rw [hc];rfl
    rw [ep] at Ao
    have e1:Builtin.Str.strSub (tx l) 0 i=tx (l.take i):=by
     show (⟨(tx l).cps.extract 0 i⟩:Str)=_
     congr 1
     simp
    have e2:Builtin.Str.strSub (tx l) (i+(tx [c]).length) (tx l).length=tx (l.drop (i+1)):=by
     show (⟨(tx l).cps.extract (i+1) (tx l).length⟩:Str)=_
     congr 1
     rw [A4]
     apply Array.ext'
     simp
     rw [GO (by rw [FX];exact Ap _)]
    show EP X pins σ Q _ {s with toks:=s.toks+1+1,heap:=s.heap.push {cls:=.type "tuple",data:=.seq [.str (Builtin.Str.strSub (tx l) 0 i) s.toks,.str (tx [c]) t2,.str (Builtin.Str.strSub (tx l) (i+(tx [c]).length) (tx l).length) (s.toks+1)].toArray}}
    rw [e1,e2]
    exact ⟨.ref s.heap.objs.size,Ai H s.heap.objs.size (.tup [.str (tx (l.take i)),.str (tx [c]),.str (tx (l.drop (i+1)))]),I.laid (fun b u e=>AH _ e) (Ap _) ⟨by show 3≤sizeLine;decide,_,.cons ⟨_,rfl⟩ (.cons ⟨_,rfl⟩ (.cons ⟨_,rfl⟩ .nil)),IsTup.new _ _,NoDict.new⟩,rfl,Ao _ hf⟩
  ·exact q.elim
 ·exact q.elim
end
theorem Xa (x y:D) (h:HD):Cn (Iv x y h):=Ow _ x y h
theorem Xb (x y:D) (h:HD):Cn (Iw x y h):=Ow _ x y h
theorem Xd (l:List Nat) (lo hi:Option Int):(Builtin.Str.strSliceIndices lo hi 1 l.length).filterMap (l.toArray[·]?)=(l.drop (HT.sIx l.length 0 lo)).take (HT.sIx l.length l.length hi - HT.sIx l.length 0 lo)∧(Builtin.Str.strSliceIndices lo hi 1 l.length).length=HT.sIx l.length l.length hi - HT.sIx l.length 0 lo:=by
 have a0:∀o,HT.sIx l.length 0 o≤l.length:=fun o=>HT.sIx_le _ _ (B9 _) o
 have b0:∀o,HT.sIx l.length l.length o≤l.length:=fun o=>HT.sIx_le _ _ (Ap _) o
 have key:∀(a b:Nat),a≤l.length→b≤l.length→(sliceRange (a:Int) (b:Int) 1)=(List.range (b - a)).map fun k=>a+k:=fun a b ha hb=>by
  unfold sliceRange
  by_cases hlt:(a:Int)<b
  ·simp only [show ((1:Int)>0)=True from by simp,if_true,hlt]
   have e3:(((b:Int) - a+1 - 1) / 1).toNat=b - a:=by first |omega |(simp;done) |(simp;omega)
   rw [e3]
   exact D3 fun k _=>by omega
  ·have:b - a=0:=by omega
   simp [hlt,this]
 have cl:∀(v:Int) (d:Nat),max (0:Int) (min (if v<0 then v+(l.length:Int) else v) l.length)=((HT.sIx l.length d (some v):Nat):Int):=fun v d=>by
  rw [←HT.clip_eq v l.length d]
  split<;>omega
 have main:Builtin.Str.strSliceIndices lo hi 1 l.length=sliceRange ((HT.sIx l.length 0 lo:Nat):Int) ((HT.sIx l.length l.length hi:Nat):Int) 1:=by
  unfold Builtin.Str.strSliceIndices
  simp only [show ((1:Int)>0)=True from by simp,if_true]
  congr 1
  ·cases lo with
   |none=>rfl
   |some v=>exact cl v 0
  ·cases hi with
   |none=>rfl
   |some v=>exact cl v l.length
 rw [main,key _ _ (a0 lo) (b0 hi)]
 refine ⟨?_,by simp⟩
 have:=StrLaws.picks l (HT.sIx l.length l.length hi - HT.sIx l.length 0 lo) (HT.sIx l.length 0 lo)
 by_cases hh:HT.sIx l.length 0 lo≤HT.sIx l.length l.length hi
 ·have:=this (by have:=b0 hi;omega)
  simpa using this
 ·rw [show HT.sIx l.length l.length hi - HT.sIx l.length 0 lo=0 by omega]
  simp
def Dz (l:List Nat) (lo hi:Option Int):List Nat:=(l.drop (HT.sIx l.length 0 lo)).take (HT.sIx l.length l.length hi - HT.sIx l.length 0 lo)
section
variable {X:Cx} {E:XK}
def Xe:V→Option Int→Option Int→Hp→VK→Prop:=fun x lo hi H Q=>∃l:List Nat,x=.str (tx l)∧l.length≤sizeLine∧Q (.str (tx (Dz l lo hi))) H
theorem OA {v:Value} {o:Option Int} (p:IsPart v o):∃q:Option (Int×Tok),v=partValue q∧q.map (·.1)=o:=by
 cases p with
 |none=>exact ⟨none,rfl,rfl⟩
 |int i t=>exact ⟨some (i,t),rfl,rfl⟩
theorem Xf:SlR X Xe:=by
 intro pins s σ H x v vl vu lo hi sl Q I rx hs pl pu h
 obtain ⟨l,rfl,hl,q⟩:=h
 obtain ⟨t,rfl⟩:=rx
 obtain ⟨ql,rfl,el⟩:=OA pl
 obtain ⟨qu,rfl,eu⟩:=OA pu
 subst el eu
 refine ⟨"str",_,F.slot_str_getitem.lookup,typeIs_str _ _ _,?_⟩
 refine wpAny_getItem_str_slice (l:=ql) (u:=qu) (st:=none) hs rfl ?_
 obtain ⟨c1,c2⟩:=Xd l (ql.map (·.1)) (qu.map (·.1))
 have hp:slicePicked (tx l) ql qu none=Builtin.Str.strSliceIndices (ql.map (·.1)) (qu.map (·.1)) 1 l.length:=by unfold slicePicked;rw [A4];rfl
 unfold sliceMade
 rw [hp]
 split
 ·rename_i hw
  rw [BW,beq_iff_eq,beq_iff_eq,c2,A4] at hw
  have e:Dz l (ql.map (·.1)) (qu.map (·.1))=l:=by
   unfold Dz
   have h1:=HT.sIx_le l.length l.length (Ap _) (qu.map (·.1))
   have h0:=HT.sIx_le l.length 0 (B9 _) (ql.map (·.1))
   have h2:=hw.2
   rw [h2,show HT.sIx l.length 0 (ql.map (·.1))=0 by omega]
   simp
  rw [e] at q
  exact ⟨.str (tx l),H,I,⟨t,rfl⟩,q⟩
 ·rw [c1]
  refine ⟨?_,.str (tx (Dz l (ql.map (·.1)) (qu.map (·.1)))),H,I.tok _,⟨_,rfl⟩,q⟩
  rw [A4]
  refine Bc ?_ hl
  rw [FW,FX]
  omega
def Iz (x:D) (lo hi:Option Int) (h:HD):Out D:=match x with
 |.str a=>if a.length≤sizeLine then .ok (.str (tx (Dz a.cps.toList lo hi))) h else .stuck
 |_=>.stuck
def IA (f:ME) (lo hi:MO):ME:=fun ρ h=>(f ρ h).bind fun x h1=>(lo ρ h1).bind fun l h2=>(hi ρ h2).bind fun u h3=>Iz x l u h3
theorem Xg {e:Expr} {lo hi:Option Expr} {f:ME} {fl fh:MO} {p2 pos:Pos} (he:Ev X E e f) (hl:Fu X E lo fl) (hu:Fu X E hi fh):Ev X E (.Subscript e (.Slice lo hi none p2) pos) (IA f fl fh):=
 Bq (LW Xf he hl hu) fun σ H Q z3_=>by obtain ⟨m,ρ,h,hr,er,p⟩:=z3_;exact (⟨m,ρ,h,hr,er,Post.bind p fun x h1 v m1 H1 eo1 p1 k1 hr1 r1 q1=>
  ⟨m1,ρ,h1,hr1,er.keep p1 k1,Post.bind q1 fun l h2 l' m2 H2 eo2 p2 k2 hr2 r2 q2=>
   ⟨m2,ρ,h2,hr2,(er.keep p1 k1).keep p2 k2,Post.bind q2 fun u h3 u' m3 H3 eo3 p3 k3 hr3 r3 q3=>by
    clear eo1 eo2 eo3
    subst r2 r3
    have rx:=DV.keep p3 k3 (DV.keep p2 k2 r1)
    unfold Iz at q3
    split at q3
    ·rename_i a
     split at q3
     ·rename_i ha
      simp only [DV] at rx
      subst rx
      obtain ⟨⟨ls⟩⟩:=a
      exact ⟨ls,rfl,by rw [A4] at ha;exact ha,AL hr3 q3 (by simp [DV])⟩
     ·exact q3.elim
    ·exact q3.elim⟩⟩⟩)
def EI (f:ME) (r:MJ):MJ:=fun acc ρ h=>(f ρ h).bind fun d h1=>match d with
 |.str z=>if z.length≤sizeLine∧(acc++z).length≤sizeLine then r (acc++z) ρ h1 else .stuck
 |_=>.stuck
theorem Xh {e:Expr} {pos:Pos} {parts:List Expr} {f:ME} {r:MJ} (he:Ev X E e f) (hp:Fy X E parts r):Fy X E (.FormattedValue e (-1) none pos::parts) (EI f r):=fun pins s σ H acc Q I z3_=>by
 obtain ⟨m,ρ,h,hr,er,p⟩:=z3_
 have post:tD X.K E f σ H (fun v H1=>∃z,v=.str z∧z.length≤sizeLine∧(acc++z).length≤sizeLine∧∃m1 h1,HR X.K m1 h1 H1∧ER X.K m1 H1 ρ σ∧Post X.K (fun _ _ (a b:Str)=>a=b) m1 H1 E Q (r (acc++z) ρ h1)):=by
  refine ⟨m,ρ,h,hr,er,Post.bind p fun d h1 v m1 H1 eo p1 k1 hr1 r1 q1=>?_⟩
  clear eo
  split at q1
  ·rename_i z
   split at q1
   ·rename_i hz
    simp only [rD,DV] at r1
    exact ⟨z,r1,hz.1,hz.2,m1,h1,hr1,er.keep p1 k1,q1⟩
   ·exact q1.elim
  ·exact q1.elim
 refine joinParts_cons (FormattedValue_plain (Ak (he pins s σ H _ I post) fun u s1 z4_=>?_))
 obtain ⟨v,H1,I1,rv,z,ev,hy,hz,m1,h1,hr1,er1,q1⟩:=z4_
 subst ev
 obtain ⟨t,rfl⟩:=rv
 exact formatField_str (fun t' tk=>⟨hz,hp pins _ σ H1 _ Q (I1.tok _) ⟨m1,ρ,h1,hr1,er1,q1⟩⟩) hy
def OB (x:Str):It:=⟨fun i _=>i<x.cps.size,fun i H v H'=>H'=H∧∃c,x.cps[i]?=some c∧v=.str ⟨#[c]⟩,fun i _=>x.cps.size≤i⟩
theorem Xi {P:Program} {w:World} {K:Frag} {tg:Expr} {x:Str} {t:Tok} {it:Addr} {n:String} (hn:n="str_ascii_iterator"∨n="str_iterator") (wk:∀A':Around,A'.handled=none→Walks P w A' it [it] [it] x.cps.size (SignAt x) (fun i h=>h.IsStrIter it n x t i)):F5 P w K tg (OB x) [it] it (fun i h=>h.IsStrIter it n x t i∧i≤x.cps.size) where
 mem:=by simp
 obj:=fun i h st b hb=>by
  have e:b=it:=by simpa using hb
  subst e
  obtain ⟨⟨o,e,c,d⟩,_⟩:=st
  exact ⟨o,e,fun v z=>by rw [d] at z;cases z⟩
 keep:=fun i h h' st k=>by
  obtain ⟨⟨o,e,c,d⟩,st2⟩:=st
  exact ⟨⟨o,k it (by simp) o e,c,d⟩,st2⟩
 item:=by
  intro X hP hw hK hc i pins s σ H E I hf st hg
  subst hP hw hK
  obtain ⟨f0,f1,f2,f3,f4,f5⟩:=hf it (by simp)
  refine (wk X.A (I.ok.hd hc)).item i s _ E hg st.1 fun v h' k' hv hit hk=>?_
  have I1:Inv X pins σ H {s with heap:=h',toks:=k'}:=I.turned (t':=k') (fun b o hb e=>hk b o (by simpa using hb) e) f0 f1 f3 f4 f5
  obtain ⟨c,u,e1,rfl⟩:=hv
  obtain ⟨o,e,c2,d⟩:=id hit
  exact ⟨_,rfl,G6 (s:={s with heap:=h',toks:=k'}) e c2 d (by rcases hn with rfl |rfl<;>decide) ⟨.str ⟨#[c]⟩,H,I1,⟨u,rfl⟩,⟨rfl,c,e1,rfl⟩,⟨hit,hg⟩,fun b hb=>(hf b hb).1⟩⟩
 done:=by
  intro X hP hw hK hc i pins s σ H E I hf st hg
  subst hP hw hK
  obtain ⟨f0,f1,f2,f3,f4,f5⟩:=hf it (by simp)
  obtain ⟨st,hi⟩:=st
  have e:i=x.cps.size:=Nat.le_antisymm hi hg
  subst e
  exact (wk X.A (I.ok.hd hc)).done s _ E st fun h' k' eb=>⟨rfl,I.turned (t':=k') (fun b o hb e=>eb b o (by simpa using hb) e) f0 f1 f3 f4 f5⟩
 self:=fun A i s Q E st h=>by
  rcases hn with rfl |rfl
  ·exact wpAny_pyIter_striter_ascii st.1 h
  ·exact wpAny_pyIter_striter_wide st.1 h
theorem Xj {tg l:Expr} {tl:TE} (hl:PE X l tl):PI X tg l (fun σ H R=>tl σ H fun x H1=>∃z,x=.str z∧R (OB z) H1):=by
 intro pins s σ H R I h
 refine Ak (hl pins s σ H _ I h) fun v s1 z12_=>?_
 obtain ⟨x,H1,I1,r1,z,rfl,q⟩:=z12_
 obtain ⟨t,rfl⟩:=r1
 have Ao:∀(n:String),(n="str_ascii_iterator"∨n="str_iterator")→(∀A':Around,A'.handled=none→Walks X.prog X.w A' s1.heap.objs.size [s1.heap.objs.size] [s1.heap.objs.size] z.cps.size (SignAt z) (fun i h=>h.IsStrIter s1.heap.objs.size n z t i))→
  G5 X pins σ tg R (.ref s1.heap.objs.size) {s1 with heap:=s1.heap.push {cls:=.type n,data:=.fields #[.str z t,.int 0 0]}}:=fun n hn wk=>
  ⟨s1.heap.objs.size,[s1.heap.objs.size],_,_,H1,rfl,I1.kept (t':=s1.toks) fun b o e=>AH _ e,Xi hn wk,⟨⟨_,Bf _ rfl,rfl,rfl⟩,B9 _⟩,fun b hb=>by
   have e:b=s1.heap.objs.size:=by simpa using hb
   subst e
   exact I1.fpOk (Ap _) (I1.hok.fresh (Ap _)),q⟩
 cases ha:z.cps.all (·< 128)
 ·exact wpAny_pyIter_wide ha (Ao _ (.inr rfl) fun A' hA=>Walks.strWide hA _ z t)
 ·exact wpAny_pyIter_ascii ha (Ao _ (.inl rfl) fun A' hA=>Walks.strAscii hA _ z t)
def GC (z:Str):List D:=z.cps.toList.map fun c=>.str (tx [c])
def IB (d:D) (h:HD):Out (List D×AJ):=match d with
 |.str z=>.ok (GC z,[]) h
 |_=>.stuck
def GD (f:ME):MI:=fun ρ h=>(f ρ h).bind IB
theorem Xk {tg a:Expr} {f:ME} (ha:Ev X E a f):DT X E tg a (GD f):=
 J1 (Xj ha) fun σ H R ⟨m,ρ,h,hr,er,p⟩=>⟨m,ρ,h,hr,er,Post.bind p fun x h1 v m1 H1 eo p1 k1 hr1 r1 q1=>by
  clear eo
  unfold IB at q1
  split at q1
  ·rename_i z
   simp only [rD,DV] at r1
   subst r1
   refine ⟨z,rfl,q1 _ m1 H1 (Ay _) (.refl _) hr1 fun i m2 h2 H2 p2 k2 hr2 _=>⟨fun hi=>?_,fun hi=>?_⟩⟩
   ·have hi':i<z.cps.size:=by simpa [GC] using hi
    refine ⟨hi',fun y H3 z=>?_⟩
    obtain ⟨e3,c,ec,ey⟩:=z
    subst e3 ey
    refine ⟨.refl _,hr2,.str (tx [c]),?_,by simp [DV]⟩
    simp [GC,ec]
   ·show z.cps.size≤i
    have hi':i=z.cps.size:=by simpa [GC] using hi
    omega
  ·exact q1.elim⟩
end
section
variable {f:ME} {ρ:Af} {h:HD} {Q:D→HD→Prop} {lo hi:MO} {QI:List D×AJ→HD→Prop}
@[simp] theorem Zcj:Wp (GD f ρ h) QI=Wp (f ρ h) fun d h1=>Wp (IB d h1) QI:=by unfold GD;rw [Al]
@[simp] theorem Zck:Wp (IA f lo hi ρ h) Q=Wp (f ρ h) fun x h1=>Wp (lo ρ h1) fun l h2=>Wp (hi ρ h2) fun u h3=>Wp (Iz x l u h3) Q:=by unfold IA;simp only [Al]
end
end LS
namespace Tp
open PySem PySem.W PySem.Spec PySem.Calls PyProof.Rows
def KZ (K:Frag) (n v:Str):Bool:=match nsIn K mainGlobals n with
 |some (some (.str z _))=>z.cps.toList==v.cps.toList
 |_=>false
theorem Xl {K:Frag} {n v:Str} (e:KZ K n v=true):∃t,nsIn K mainGlobals n=some (some (.str v t)):=by
 unfold KZ at e
 split at e
 ·rename_i z t h
  have:z=v:=by
   obtain ⟨⟨z⟩⟩:=z
   obtain ⟨⟨v⟩⟩:=v
   simpa using e
  subst this
  exact ⟨t,h⟩
 ·cases e
def strsIn (K:Frag):List (Str×Str)→Bool
 |[]=>true
 |p::r=>KZ K p.1 p.2&&strsIn K r
theorem strsIn_of {K:Frag}:∀{l:List (Str×Str)},strsIn K l=true→∀(i:Nat) n v,l[i]?=some (n,v)→∃t,nsIn K mainGlobals n=some (some (.str v t))
 |[],_,i,n,v,h=>by simp at h
 |p::r,e,0,n,v,h=>by
  simp only [EV,Nat.zero_lt_succ,getElem?_pos,List.getElem_cons_zero,Option.some.injEq] at h
  subst h
  exact Xl (qc1.mp e).1
 |p::r,e,i+1,n,v,h=>strsIn_of (qc1.mp e).2 i n v (by simpa using h)
noncomputable def obsX (W:Want) (ex:Frag→Bool) (s:Shared):FD×Bool:=fL (GA s.heap) fun K=>
 ((W.fs.map fun x=>FB K x.1,W.cs.map fun x=>FC K x.1,W.bs.map (nsIn K mainGlobals),LS.etOk K,Io K s.heap),ex K)
def valX (W:Want):FD×Bool:=(KO W,true)
def SaysX (W:Want) (ex:Frag→Bool) (_:World) (h:Heap):Prop:=∃(K:Frag) (c T:Addr),K.In h∧(Has W K c T∧ex K=true)∧h.get? T=some (tabObj #[])
theorem SaysX.keeps {W:Want} {ex:Frag→Bool} (w:World) (h h':Heap) (x:SaysX W ex w h) (k:∀b o,h.get? b=some o→h'.get? b=some o):SaysX W ex w h':=by
 obtain ⟨K,c,T,h1,h2,h3⟩:=x
 exact ⟨K,c,T,h1.keeps k,h2,k _ _ h3⟩
theorem saysX_of {W:Want} {ex:Frag→Bool} (w:World) (s:Shared) (e:obsX W ex s=valX W):SaysX W ex w s.heap:=by
 unfold obsX valX KO at e
 rw [Gz] at e
 obtain ⟨e,e6⟩:=Prod.mk.inj e
 obtain ⟨e1,e⟩:=Prod.mk.inj e
 obtain ⟨e2,e⟩:=Prod.mk.inj e
 obtain ⟨e3,e⟩:=Prod.mk.inj e
 obtain ⟨e4,e5⟩:=Prod.mk.inj e
 unfold Io at e5
 split at e5
 ·rename_i c T hT
  obtain ⟨a1,a2⟩:=Prod.mk.inj (Option.some.inj e5)
  obtain ⟨a2,a3⟩:=Prod.mk.inj a2
  exact ⟨_,c,T,WB _,⟨⟨fun i n st h=>WC (KP e1 h),fun i n v h=>WD (KP e2 h),fun i n h=>KP e3 h,e4,hT,a2,Option.isNone_iff_eq_none.mp a3⟩,e6⟩,a1⟩
 ·cases e5
end Tp
namespace LS
open PySem PySem.W PySem.Spec PySem.Calls PyProof.Rows L2
theorem walk_hdX {l:OpenLaw} {n k:Nat} {q:Program} {loose:List Str} {XP:(Str→Option Value)→Heap→Prop} {W:Tp.Want} {ex:Frag→Bool} {d:DefRec} {x:Str} {F:List D→HD→Out D}
 (hn:l.most=some n) (hn2:n≤sizeLine) (hdf:d.params.defaults=[]) (hr:Room k callerA)
 (Fn:∀(w:World) (K:Frag) (c T:Addr) (mg:Str→Option Value) (fa:Addr) (h:Heap),Tp.Has W K c T∧ex K=true→K.In h→h.Ns mainGlobals mg→mg d.name=some (.ref fa)→
  ∃fd:FuncData,(∀(s:Shared) (u:Value),BindsTo s fd ⟨[u],[]⟩ [(x,u)])∧
   ∀base:Heap,K.In base→base.Ns mainGlobals mg→Gv mg base→FnOk l.prog w K mg base (AK l.prog w K) k fa fd [x] (Dr K F))
 (hF:∀ns:List Int,ns.length≤n→(∀i∈ns,Builtin.Int.intBits i≤2^20)→∃h',F [.scr ns] [.tab]=.ok (.bl true) h'):
 WalkO q loose XP (Tp.SaysX W ex) l.row.toRowW d [] (fun f vs=>PySem.call f vs):=by
 refine Att.attach_bits hn hdf fun w s₀ s₁ mg mb fa o pm cd doc a vs ns hbits G Y ho hd hcd' hmg hobj hints hlen hg=>?_
 obtain ⟨K,c,T,KX,HS,hT⟩:=Y
 obtain ⟨fd,hb,hF'⟩:=Fn w K c T mg fa _ HS KX G.T.g hmg
 obtain ⟨bm,ob,b1,b2,b3,b4,b5,b6⟩:=G.T.bmain
 obtain ⟨⟨_,_,_,_,h1,h2,h3⟩,_⟩:=HS
 exact VF KX G.T.g G.T.b G.T.builtins G.T.nolimit hg ⟨bm,ob,b1,b2,b3,b4,b5,b6⟩ hobj hints (Bc hlen hn2) hr h1 h2 hT h3 hF' hb (hF ns hlen hbits)
end LS
namespace LS
open PySem PySem.Spec PyProof.Rows L2 PySem.W PySem.Calls
def CL (sep:List Nat):List (List Nat)→List Nat
 |[]=>[]
 |x::r=>x++r.flatMap fun y=>sep++y
theorem OC (sep:List Nat):∀(r:List (List Nat)) (x:List Nat),((r.map tx).foldl (fun acc p=>acc++(tx sep).cps++p.cps) (tx x).cps)=(tx (x++r.flatMap fun y=>sep++y)).cps
 |[],x=>by simp
 |y::r,x=>by
  rw [Bg,List.foldl_cons]
  have e:(tx x).cps++(tx sep).cps++(tx y).cps=(tx (x++(sep++y))).cps:=by simp
  rw [e,OC sep r]
  simp
theorem Xm (sep:List Nat) (l:List (List Nat)):FG (tx sep) (l.map tx)=tx (CL sep l):=by
 cases l with
 |nil=>rfl
 |cons x r=>
  cases r with
  |nil=>simp [FG,CL]
  |cons y r=>
   show Builtin.Str.glued (tx sep) ((x::y::r).map tx)=_
   unfold Builtin.Str.glued
   have:=OC sep (y::r) x
   exact congrArg Str.mk this
theorem OD {α:Type} (e:α→List Nat):∀xs:List α,EF (xs.map fun x=>D.str (tx (e x)))=some ((xs.map e).map tx)
 |[]=>rfl
 |x::xs=>by
  simp only [Bg,EF,OD e xs]
  rfl
theorem Xn (n m:Nat) (l:List (List Nat)) (hl:∀x∈l,x.length≤n):∀a,(l.map tx).foldl (fun (x:Nat) (y:Str)=>x+y.length+m) a≤a+l.length*(n+m):=by
 induction l with
 |nil=>intro a;simp
 |cons x r ih=>
  intro a
  rw [Bg,List.foldl_cons]
  have h1:=ih (fun y hy=>hl y (AI _ hy)) (a+(tx x).length+m)
  have h2:=hl x AE
  rw [A4] at h1 ⊢
  rw [EV,EY]
  omega
theorem OE (sep:List Nat) (n:Nat):∀(l:List (List Nat)),(∀x∈l,x.length≤n)→(CL sep l).length≤l.length*(n+sep.length)
 |[],_=>by simp [CL]
 |x::r,h=>by
  have:∀(r:List (List Nat)),(∀x∈r,x.length≤n)→(r.flatMap fun y=>sep++y).length≤r.length*(n+sep.length):=fun r hr=>by
   induction r with
   |nil=>simp
   |cons y r ih=>
    have h1:=ih fun z hz=>hr z (AI _ hz)
    have h2:=hr y AE
    simp only [List.flatMap_cons,DH,EV,EY]
    omega
  have h1:=this r fun z hz=>h z (AI _ hz)
  have h2:=h x AE
  simp only [CL,DH,EV,EY]
  omega
theorem Xo {α:Type} {e:α→List Nat} {xs:List α} {sep:List Nat} {l n:Nat} {h:HD} (el:h[l]?=some (.lst (xs.map fun x=>.str (tx (e x))))) (he:∀x∈xs,(e x).length≤n) (hz:xs.length*(n+sep.length)≤sizeLine):
 B7 (.str (tx sep)) (.loc l) h=.ok (.str (tx (CL sep (xs.map e)))) h:=by
 have he':∀x∈xs.map e,x.length≤n:=fun x hx=>by
  obtain ⟨y,hy,rfl⟩:=qaK.mp hx
  exact he y hy
 simp only [B7,el,OD,Xm]
 rw [if_pos]
 refine ⟨?_,?_⟩
 ·rw [List.foldl_toArray]
  have:=Xn n (tx sep).length (xs.map e) he' 0
  rw [A4] at this
  rw [BX,Nat.zero_add] at this
  rw [A4]
  exact Bc this hz
 ·rw [A4]
  have:=OE sep n (xs.map e) he'
  rw [BX] at this
  exact Bc this hz
noncomputable def K0 (sep:List Nat) (cs:List (Option Nat)) (it:MI) (sg:MG) (f:ME):ME:=By BE B7 (mC (.str (tx sep))) (AD cs it sg A9 f)
theorem GE {α:Type} {cs:List (Option Nat)} {it:MI} {sg:MG} {f:ME} {ρ:Af} {h:HD} {src:AJ} {xs:List α} {φ:α→D} {sep:List Nat} (e:α→List Nat) (ρ1:α→Af) (n:Nat) (hi:CV (it ρ h) h (xs.map φ) src) (hg:∀x∈xs,sg (φ x) (BI cs ρ)=some (ρ1 x)) (hf:∀x∈xs,∀h',Sm h h'→Pu (f (ρ1 x) h') h' (.str (tx (e x))))
 (hx:xs.length≤sizeLine) (he:∀x∈xs,(e x).length≤n) (hz:xs.length*(n+sep.length)≤sizeLine):Pu (K0 sep cs it sg f ρ h) h (.str (tx (CL sep (xs.map e)))):=by
 unfold Pu K0
 rw [NS]
 show Wp (AD cs it sg A9 f ρ h) _
 refine HJ (fun _=>true) (fun x=>.str (tx (e x))) ρ1 hi hx hg (fun x hx h' s'=>(.ok:Pu (.ok true h') h' true)) (fun x hx _ h' s'=>hf x hx h' s') fun l h' s' e'=>?_
 rw [HI] at e'
 rw [Xo e' he hz]
 exact ⟨rfl,s'⟩
theorem Xp {l:List Nat} {ρ:Af} {h:HD} {i:Nat} (e:ρ[i]?=some (some (.str (tx l)))):CV (GD (Ab i) ρ h) h (l.map fun c=>.str (tx [c])) []:=by
 simp [CV,Sm.refl,Br,Ab,e,IB,GC]
theorem K1 (a b:List Nat):(tx a++tx b:Str)=tx (a++b):=by
 show (⟨a.toArray++b.toArray⟩:Str)=_
 simp
theorem IC {a b:List Nat} {h:HD} (hz:a.length+b.length≤sizeLine):Aq (.str (tx a)) (.str (tx b)) h=.ok (.str (tx (a++b))) h:=by
 simp only [Aq,A4,K1]
 rw [if_pos hz]
theorem Xq {a b:List Nat}:((tx a:Str)==tx b)=decide (a=b):=by
 rw [qb8,beq_iff_eq,decide_eq_true_eq]
 exact ⟨fun e=>by simpa using congrArg (fun s=>s.cps.toList) e,fun e=>by rw [e]⟩
theorem OF {a b:List Nat} {h:HD}:Bn (.str (tx a)) (.str (tx b)) h=.ok (.bl (!decide (a=b))) h:=by
 show Out.ok (D.bl (!(tx a==tx b))) h=_
 rw [Xq]
theorem Xr {l:List Nat} {c:Nat} {h:HD}:Iv (.str (tx l)) (.str (tx [c])) h=.ok (.int (Dx c l)) h:=by
 show Out.ok (D.int (Txt.find (tx l) (tx [c]))) h=_
 rw [WZ]
theorem Xs {l:List Nat} {c:Nat} {h:HD} (hz:l.length≤sizeLine):Dy (.str (tx l)) (.str (tx [c])) h=Bi ((A5 c l).map fun l=>.str (tx l)) h:=by
 show (if (tx l).length≤sizeLine then Bi ((A5 c l).map fun l=>.str (tx l)) h else .stuck)=_
 rw [A4,if_pos hz]
theorem Xu {l:List Nat} {c:Nat} {h:HD} (hz:l.length≤sizeLine):EH (.str (tx l)) (.str (tx [c])) h=.ok (.tup [.str (tx (BF c l).1),.str (tx (BF c l).2.1),.str (tx (BF c l).2.2)]) h:=by
 show (if (tx l).length≤sizeLine then Out.ok (D.tup [.str (tx (BF c l).1),.str (tx (BF c l).2.1),.str (tx (BF c l).2.2)]) h else .stuck)=_
 rw [A4,if_pos hz]
theorem Xv {l:List Nat} {lo hi:Option Int} {h:HD} (hz:l.length≤sizeLine):Iz (.str (tx l)) lo hi h=.ok (.str (tx (Dz l lo hi))) h:=by
 show (if (tx l).length≤sizeLine then Out.ok (D.str (tx (Dz l lo hi))) h else .stuck)=_
 rw [A4,if_pos hz]
theorem Xw {l:List Nat} {c:Nat} {h:HD}:Iw (.str (tx l)) (.str (tx [c])) h=.ok (.bl (decide (l.head?=some c))) h:=by
 show Out.ok (D.bl (Txt.startswith (tx l) (tx [c]))) h=_
 congr 2
 unfold Txt.startswith
 cases l with
 |nil=>rw [A4,A4];rfl
 |cons a l=>
  rw [Ot (a::l) c 0 (by simp),A4,A4]
  simp
theorem Xx (l:List Nat):Dz l (some 1) none=l.drop 1:=by
 unfold Dz
 have h1:HT.sIx l.length 0 (some 1)=min 1 l.length:=HT.sIx_nat _ _ 1
 rw [h1]
 show (l.drop (min 1 l.length)).take (l.length - min 1 l.length)=_
 cases l with
 |nil=>rfl
 |cons a l=>
  rw [show min 1 (a::l).length=1 by simp]
  simp
theorem OG {y acc:List Nat} {r:MJ} {ρ:Af} {h:HD} {Q:Str→HD→Prop} (hz:(acc++y).length≤sizeLine) (k:Wp (r (tx (acc++y)) ρ h) Q):Wp (Du (tx y) r (tx acc) ρ h) Q:=by
 unfold Du
 rw [K1,if_pos (by rw [A4];exact hz)]
 exact k
theorem OH {z acc:List Nat} {f:ME} {r:MJ} {ρ:Af} {h:HD} {Q:Str→HD→Prop} (p:Pu (f ρ h) h (.str (tx z))) (hz:(acc++z).length≤sizeLine) (k:∀h',Sm h h'→Wp (r (tx (acc++z)) ρ h') Q):Wp (EI f r (tx acc) ρ h) Q:=by
 unfold EI
 rw [Al]
 refine p.wp fun h1 s1=>?_
 show Wp (if (tx z).length≤sizeLine∧(tx acc++tx z).length≤sizeLine then r (tx acc++tx z) ρ h1 else .stuck) Q
 rw [K1,if_pos ⟨by rw [A4];simp at hz;omega,by rw [A4];exact hz⟩]
 exact k h1 s1
theorem Xy {acc:List Nat} {ρ:Af} {h:HD} {Q:Str→HD→Prop} (hz:acc.length≤sizeLine) (k:Q (tx acc) h):Wp (Ey (tx acc) ρ h) Q:=by
 unfold Ey
 rw [if_pos (by rw [A4];exact hz)]
 exact k
theorem K2 {l:List Nat} {k c:Nat} {h:HD} (hl:l.length≤sizeLine) (e:l[k]?=some c):De (.str (tx l)) (.int (k:Nat)) h=.ok (.str (tx [c])) h:=by
 have hk:k<l.length:=(qa4.mp e).1
 have e1:Bx l ((k:Nat):Int)=some c:=by
  unfold Bx Cb
  rw [if_pos (by omega),if_pos (by omega)]
  simpa using e
 show (if (tx l).length≤sizeLine then (match Bx l ((k:Nat):Int) with
  |some c=>Out.ok (D.str ⟨#[c]⟩) h
  |none=>.stuck) else .stuck)=_
 rw [A4,if_pos hl,e1]
end LS
set_option maxHeartbeats 0
namespace LK
open PySem PySem.Spec PyProof.Rows L2 LS
def AS (i:Nat):Stmt:=PySem.Challenge.pw_lineswitch_k91_boards_and_switchings_wri.main.body.getD i (.Pass ⟨0,0,0,0⟩)
abbrev K3:Stmt:=AS 41
abbrev OI:Stmt:=AS 14
noncomputable abbrev OJ:MS:=As (Dm (Ad (AV Aw) (Aa (Ab 0) (Aa (mC (.ty "int")) (Ac)))) (Hn (Ad (AV Aw) (Aa (Ab 0) (Aa (mC (.ty "bool")) (Ac))))))
noncomputable def DA:List D→HD→Out D:=AQ 1 1 OJ
abbrev OK:Stmt:=AS 17
noncomputable abbrev OL:MS:=As (Dm (Ad (AV Aw) (Aa (Ab 0) (Aa (mC (.ty "tuple")) (Ac)))) (DN Gc Gc (mC (.int 1)) (Ad (Aj Bj) (Aa (Ab 0) (Ac))) (mC (.int 8))))
noncomputable def FI:List D→HD→Out D:=AQ 1 1 OL
abbrev OM:Stmt:=AS 28
noncomputable abbrev K4:MS:=As (By BE B7 (mC (.str "")) (AD [none] (AX (Ab 0)) (AG 0) (A9) (Ae De (mC (.str "0123456789")) (Ab 0))))
noncomputable def GF:List D→HD→Out D:=AQ 1 1 K4
abbrev ON:Stmt:=AS 30
noncomputable abbrev K5:MS:=As (Ad (Aj BC) (Aa (AD [none,some 1] (GD (Ab 0)) (AG 0) (A9) (By BE Iv (Ab 1) (Ab 0))) (Ac)))
noncomputable def D0:List D→HD→Out D:=AQ 2 2 K5
abbrev OO:Stmt:=AS 31
noncomputable abbrev OP:MS:=AW (BB (BA (Ad (AV Aw) (Aa (Ab 0) (Aa (mC (.ty "str")) (Ac)))))) (Dq "NoText" (Aa (mC (.str "this is no text")) (Ac))) (A2)
noncomputable def FJ:List D→HD→Out D:=AQ 1 1 OP
abbrev OQ:Stmt:=AS 35
noncomputable abbrev K6:MS:=Ah (AW (A0 (Ae Gb (Ab 1) (Ad (Aj Bj) (Aa (Ab 0) (Ac))))) (As (Ae Az (Ab 0) (Ab 1))) (A2)) (As (Ae Aq (Ae BD (mC (.int 6151)) (Ab 1)) (mC (.int 29))))
noncomputable def ID:List D→HD→Out D:=AQ 2 2 K6
abbrev OR:Stmt:=AS 36
noncomputable abbrev OT:MS:=Ah (Am 2 (Ae Aq (Ae BD (Ae Aq (Ab 0) (mC (.int 1))) (mC (.int 40692))) (Ae BD (mC (.int 104729)) (Ab 1)))) (Ah (Am 2 (Ae Aq (Ae Eh (Ae BD (Ab 2) (Ab 2)) (mC (.int 2147483399))) (Ab 1))) (As (Ae Eh (Ae BD (Ab 2) (Ae Aq (Ab 2) (mC (.int 31)))) (mC (.int 2147483563)))))
noncomputable def IE:List D→HD→Out D:=AQ 2 3 OT
abbrev OU:Stmt:=AS 38
noncomputable abbrev OV:MS:=Ah (Ej (Gj 2 3) (Ad (AV Gf) (Aa (Ae Az (Ab 0) (mC (.int 0))) (Aa (Ab 1) (Ac))))) (Ah (HF (Ab 0) (mC (.int 0)) (Ab 2)) (As (Ab 3)))
noncomputable def Bl:List D→HD→Out D:=AQ 2 4 OV
abbrev OW:Stmt:=AS 40
noncomputable abbrev OX:MS:=Ah (Am 1 (AR (Aa (Ad (AV Aw) (Aa (Ab 0) (Aa (mC (.glo "NoBoard")) (Ac)))) (Aa (Ad (AV Aw) (Aa (Ab 0) (Aa (mC (.glo "NoLine")) (Ac)))) (Aa (Ad (AV Aw) (Aa (Ab 0) (Aa (mC (.glo "NoSwitching")) (Ac)))) (Aa (Ad (AV Aw) (Aa (Ab 0) (Aa (mC (.glo "NoNumber")) (Ac)))) (Ac))))))) (Ah (Am 1 (Ae Aq (Ab 1) (AR (Aa (Ad (AV Aw) (Aa (Ab 0) (Aa (mC (.glo "Unlike")) (Ac)))) (Aa (Ad (AV Aw) (Aa (Ab 0) (Aa (mC (.glo "NoNet")) (Ac)))) (Aa (Ad (AV Aw) (Aa (Ab 0) (Aa (mC (.glo "NoPlace")) (Ac)))) (Aa (Ad (AV Aw) (Aa (Ab 0) (Aa (mC (.glo "NoText")) (Ac)))) (Ac)))))))) (Ah (Am 1 (Ae Aq (Ab 1) (AR (Aa (Ad (AV Aw) (Aa (Ab 0) (Aa (mC (.glo "NoRow")) (Ac)))) (Aa (Ad (AV Aw) (Aa (Ab 0) (Aa (mC (.glo "TooMany")) (Ac)))) (Ac)))))) (Ah (AW (B2 (BB (BA (Ad (AV Aw) (Aa (Ab 0) (Aa (mC (.ty "ValueError")) (Ac)))))) (A0 (Ae Bn (By BN Eu (Ab 1) (mC (.bl true))) (mC (.int 1))))) (As (mC (.str "! other"))) (A2)) (Ah (AW (BA (Ae Az (Ab 1) (mC (.int 9)))) Mn A2) (Ah (Am 2 (AR (Aa (mC (.str "board")) (Aa (mC (.str "line")) (Aa (mC (.str "switching")) (Aa (mC (.str "number")) (Aa (mC (.str "unlike")) (Aa (mC (.str "net")) (Aa (mC (.str "place")) (Aa (mC (.str "text")) (Aa (mC (.str "row")) (Ac)))))))))))) (As (Ae Aq (mC (.str "! ")) (Ae Az (Ab 2) (By BN Ew (Ab 1) (mC (.bl true)))))))))))
noncomputable def Cz:List D→HD→Out D:=AQ 1 3 OX
abbrev OY:Stmt:=AS 46
noncomputable abbrev OZ:MS:=Ah (Am 1 (mC (.str ""))) (Ah (BM (AX (Ab 0)) (AG 2) (Am 1 (Ae Aq (Ab 1) (Ae Az (AR (Aa (mC (.str ".")) (Aa (mC (.str "#")) (Ac)))) (Ab 2))))) (As (Ab 1)))
noncomputable def GG:List D→HD→Out D:=AQ 1 3 OZ
abbrev O0:Stmt:=AS 47
noncomputable abbrev K7:MS:=As (By BE B7 (mC (.str "")) (AD [none] (AX (Ab 0)) (AG 0) (A9) (Ad (Aj strOfD) (Aa (Ab 0) (Ac)))))
noncomputable def FK:List D→HD→Out D:=AQ 1 1 K7
abbrev O1:Stmt:=AS 15
noncomputable abbrev K8:MS:=As (Dm (Ad DA (Aa (Ab 0) (Ac))) (DN Gc Gc (Ab 1) (Ab 0) (Ab 2)))
noncomputable def GH:List D→HD→Out D:=AQ 3 3 K8
abbrev O2:Stmt:=AS 21
noncomputable abbrev O3:MS:=Ah (AW (BB (BA (Ad (AV Aw) (Aa (Ab 0) (Aa (mC (.ty "tuple")) (Ac)))))) (As (mC (.bl false))) (A2)) (Ah (Am 2 (Fq (mC (.int 1)))) (Ah (BM (AX (Ab 0)) (AG 3) (Ah (AW (B2 (BB (BA (Ad DA (Aa (Ab 3) (Ac))))) (BB (A0 (DN Gb Gb (Ab 2) (Ab 3) (Ab 1))))) (As (mC (.bl false))) (A2)) (Am 2 (Ab 3)))) (As (mC (.bl true)))))
noncomputable def EJ:List D→HD→Out D:=AQ 2 4 O3
abbrev O4:Stmt:=AS 37
noncomputable abbrev O5:MS:=Ah (Am 2 (Ad ID (Aa (Ab 0) (Aa (Ab 1) (Ac))))) (Ah (AW (A0 (Ae CK (Ae Eh (Ab 2) (mC (.int 2))) (mC (.int 0)))) (As (AR (Aa (Ae Hw (Ab 2) (mC (.int 2))) (Ac)))) (A2)) (Ah (Am 3 (mC (.int 0))) (Ah (BM (CT (Aa (mC (.int 24)) (Ac))) (AG 4) (Am 3 (Ae Aq (Ae BD (Ab 3) (mC (.int 2147483647))) (Ad IE (Aa (Ab 2) (Aa (Ab 4) (Ac))))))) (As (AR (Aa (Ab 3) (Ac)))))))
noncomputable def IF:List D→HD→Out D:=AQ 2 5 O5
abbrev O6:Stmt:=AS 39
noncomputable abbrev O7:MS:=Ah (Fe 1 2 (Aa (Ad Bl (Aa (Ab 0) (Aa (mC (.int 2147483647)) (Ac)))) (Aa (mC (.int 0)) (Ac)))) (Ah (BM (CT (Aa (mC (.int 24)) (Ac))) (AG 3) (Ah (Am 1 (Ae Eh (Ae Aq (Ae Aq (Ae BD (Ab 1) (mC (.int 48271))) (mC (.int 11))) (Ab 3)) (mC (.int 2147483647)))) (Am 2 (Ae Aq (Ae BD (Ab 2) (mC (.int 2147483647))) (Ab 1))))) (As (AR (Aa (Ab 2) (Ac)))))
noncomputable def IG:List D→HD→Out D:=AQ 1 4 O7
abbrev O8:Stmt:=AS 43
noncomputable abbrev O9:MS:=Ah (Ej (EA [2,3]) (An (Aa (Ad Bl (Aa (Ab 0) (Aa (Ad (Aj Bj) (Aa (Ab 1) (Ac))) (Ac)))) (Aa (Ad Bl (Aa (Ab 0) (Aa (Ad (Aj Bj) (Aa (Ae Az (Ab 1) (mC (.int 0))) (Ac))) (Ac)))) (Ac))))) (Ah (Am 4 (Ae Az (AR (Aa (mC (.int 2)) (Aa (Fq (mC (.int 1))) (Aa (mC (.bl true)) (Aa (mC (.bl false)) (Aa (mC .non) (Aa (mC (.str "0")) (Aa (An (Aa (mC (.int 0)) (Ac))) (Aa (Ae Gd (mC (.int 10)) (mC (.int 29))) (Aa (AR (Aa (mC (.int 0)) (Ac))) (Aa (mC .edic) (Ac)))))))))))) (Ad Bl (Aa (Ab 0) (Aa (mC (.int 10)) (Ac)))))) (Ah (Am 5 (Ae Az (Ab 1) (Ab 2))) (Ah (Am 6 (Ae Aq (Ae Aq (Cw (Ab 5) (Cu) (Cm (Ab 3))) (An (Aa (Ab 4) (Ac)))) (Cw (Ab 5) (Cm (Ae Aq (Ab 3) (mC (.int 1)))) (Cu)))) (Ah (Am 7 (AR (Aa (Ab 6) (Aa (Ab 6) (Aa (Ab 6) (Aa (Ae Aq (Ab 5) (Ae BD (An (Aa (mC (.int 0)) (Ac))) (mC (.int 8)))) (Aa (An (Ac)) (Aa (Ad (Aj Fz) (Aa (Ab 5) (Ac))) (Aa (mC .non) (Aa (mC (.int 1)) (Ac))))))))))) (Ah (AW (A0 (Ae JT (Ad (Aj Bj) (Aa (Ab 1) (Ac))) (mC (.int 1)))) (Am 7 (Ae Aq (Ab 7) (AR (Aa (Cw (Ab 5) (Cu) (Cm (Fq (mC (.int 1))))) (Aa (Ae Aq (Ab 5) (An (Aa (mC (.int 0)) (Ac)))) (Ac)))))) (A2)) (Ah (Am 7 (AD [none,some 1,some 2] (AX (Ab 7)) (AG 0) (A9) (Ae Aq (Ae Aq (Cw (Ab 1) (Cu) (Cm (Ab 2))) (An (Aa (Ab 0) (Ac)))) (Cw (Ab 1) (Cm (Ae Aq (Ab 2) (mC (.int 1)))) (Cu))))) (Ah (Am 7 (Ae Aq (Ab 7) (AR (Aa (Ad (Aj Fz) (Aa (Ab 1) (Ac))) (Aa (An (Aa (Ab 1) (Ac))) (Aa (Ae BD (An (Aa (Ae Az (Ab 1) (mC (.int 0))) (Ac))) (mC (.int 9))) (Aa (Ae Aq (Ab 1) (An (Aa (An (Ac)) (Ac)))) (Aa (Ae Az (Ab 1) (mC (.int 0))) (Aa (mC .non) (Aa (An (Ac)) (Aa (mC (.int 0)) (Aa (mC (.str "")) (Aa (mC .edic) (Ac)))))))))))))) (As (Ae Az (Ab 7) (Ad Bl (Aa (Ab 0) (Aa (Ad (Aj Bj) (Aa (Ab 7) (Ac))) (Ac)))))))))))))
noncomputable def IH:List D→HD→Out D:=AQ 2 8 O9
abbrev Pa:Stmt:=AS 44
noncomputable abbrev Pb:MS:=As (Ad (Aj BC) (Aa (AD [none,some 0] (CT (Aa (Ab 1) (Ac))) (AG 0) (A0 (Ae CK (Ad Bl (Aa (Ab 1) (Aa (mC (.int 2)) (Ac)))) (mC (.int 1)))) (Ab 0)) (Ac)))
noncomputable def FL:List D→HD→Out D:=AQ 2 2 Pb
abbrev Pc:Stmt:=AS 45
noncomputable abbrev Pd:MS:=Ah (Am 2 (Ad Bl (Aa (Ab 0) (Aa (Ab 1) (Ac))))) (Ah (Am 3 (Ae Az (AR (Aa (Ab 1) (Aa (Fq (mC (.int 1))) (Aa (mC (.bl true)) (Aa (mC .non) (Aa (mC (.str "0")) (Aa (An (Aa (mC (.int 0)) (Ac))) (Aa (Ae Gd (mC (.int 10)) (mC (.int 29))) (Aa (mC (.bl false)) (Aa (AR (Aa (mC (.int 0)) (Ac))) (Aa (mC .edic) (Ac)))))))))))) (Ad Bl (Aa (Ab 0) (Aa (mC (.int 10)) (Ac)))))) (Ah (Am 4 (AR (Aa (An (Aa (Ab 3) (Ac))) (Aa (An (Aa (Ab 2) (Aa (Ab 2) (Ac)))) (Aa (An (Aa (Ab 2) (Aa (Ab 3) (Ac)))) (Aa (AR (Aa (Ab 2) (Ac))) (Aa (mC .non) (Aa (Ab 2) (Aa (mC (.str "")) (Aa (Ho (A0 (Ae JT (Ab 1) (mC (.int 1)))) (An (Aa (Ae Fc (Ab 1) (mC (.int 1))) (Aa (mC (.int 0)) (Ac)))) (An (Aa (mC (.int 0)) (Aa (mC (.int 0)) (Ac))))) (Aa (mC .edic) (Aa (An (Aa (Ab 3) (Aa (Ab 2) (Ac)))) (Ac))))))))))))) (Ah (Am 4 (Ae Aq (Ab 4) (AR (Aa (Ae Aq (Dw (Ab 1)) (An (Aa (Ab 3) (Ac)))) (Aa (Ae Aq (Dw (Ab 1)) (An (Aa (Ae Fc (Ab 1) (mC (.int 1))) (Ac)))) (Ac)))))) (As (Ae Az (Ab 4) (Ad Bl (Aa (Ab 0) (Aa (mC (.int 12)) (Ac)))))))))
noncomputable def FM:List D→HD→Out D:=AQ 2 5 Pd
abbrev Pe:Stmt:=AS 16
noncomputable abbrev Pf:MS:=As (Ad GH (Aa (Ab 0) (Aa (mC (.int 0)) (Aa (mC (.int 1)) (Ac)))))
noncomputable def II:List D→HD→Out D:=AQ 1 1 Pf
abbrev Pg:Stmt:=AS 33
noncomputable abbrev IJ:MS:=Ah (CH (Ad FJ (Aa (Ab 0) (Ac)))) (Ah (Ej (EA [1,2,3]) (By BE EH (Ab 0) (mC (.str "c")))) (Ah (Am 4 (An (Aa (Ad D0 (Aa (IA (Ab 1) (Cm (mC (.int 1))) (Cu)) (Aa (mC (.str "0123456789")) (Ac)))) (Aa (Ad D0 (Aa (Ab 3) (Aa (mC (.str "0123456789")) (Ac)))) (Ac))))) (Ah (Am 5 (Dm (By BE Iw (Ab 1) (mC (.str "r"))) (Ae CK (Ab 2) (mC (.str "c"))))) (Ah (AW (B2 (BB (BA (Ab 5))) (BB (BA (Ad (Aj Ct) (Aa (AD [none] (AX (Ab 4)) (AG 0) (A9) (Ad EJ (Aa (Ab 0) (Aa (mC (.int 8)) (Ac))))) (Ac)))))) (Dq "NoText" (Aa (mC (.str "this writes no switching")) (Ac))) (A2)) (As (Ab 4))))))
noncomputable def IK:List D→HD→Out D:=AQ 1 6 IJ
abbrev Ph:Stmt:=AS 42
noncomputable abbrev Pi:MS:=Ah (Am 3 (Ad Bl (Aa (Ab 0) (Aa (mC (.int 5)) (Ac))))) (Ah (Am 4 (Ad IG (Aa (Ab 0) (Ac)))) (Ah (Am 5 (Ae Az (AR (Aa (mC (.int 3)) (Aa (mC (.int 1)) (Aa (mC (.int 5)) (Aa (mC (.int 3)) (Aa (mC (.int 2)) (Ac))))))) (Ab 3))) (Ah (Am 6 (AR (Ac))) (Ah (BM (CT (Aa (Ab 1) (Ac))) (AG 7) (CH (Gm (Ab 6) (Ad (Aj BC) (Aa (AD [none,some 4,some 5] (CT (Aa (Ab 2) (Ac))) (AG 0) (A9) (Ad (Aj Gi) (Aa (Ae Gb (Ad Bl (Aa (Ab 1) (Aa (mC (.int 6)) (Ac)))) (Ab 2)) (Ac)))) (Ac)))))) (Ah (AW (A0 (Ae CK (Ab 3) (mC (.int 3)))) (Am 6 (Ae BD (AR (Aa (Ae Az (Ab 6) (mC (.int 0))) (Ac))) (Ab 1))) (A2)) (As (Ad (Aj BC) (Aa (Ab 6) (Ac)))))))))
noncomputable def IP:List D→HD→Out D:=AQ 3 8 Pi
abbrev Pj:Stmt:=AS 18
noncomputable abbrev Pk:MS:=As (Dm (Ad FI (Aa (Ab 0) (Ac))) (Ad (Aj Ct) (Aa (AD [none] (AX (Ab 0)) (AG 0) (A9) (Ad II (Aa (Ab 0) (Ac)))) (Ac))))
noncomputable def IQ:List D→HD→Out D:=AQ 1 1 Pk
abbrev Pl:Stmt:=AS 19
noncomputable abbrev Pm:MS:=Ah (AW (B2 (BB (BA (Ad FI (Aa (Ab 0) (Ac))))) (BB (BA (Ad (Aj Ct) (Aa (AD [none] (AX (Ab 0)) (AG 0) (A9) (Ad IQ (Aa (Ab 0) (Ac)))) (Ac)))))) (As (mC (.bl false))) (A2)) (As (Ad (Aj Ct) (Aa (AD [none,some 0] (AX (Ab 0)) (AG 0) (A9) (Ae CK (Ad (Aj Bj) (Aa (Ab 0) (Ac))) (Ad (Aj Bj) (Aa (Ae Az (Ab 1) (mC (.int 0))) (Ac))))) (Ac))))
noncomputable def FN:List D→HD→Out D:=AQ 1 1 Pm
abbrev Pn:Stmt:=AS 20
noncomputable abbrev K9:MS:=AW (BB (BA (Ad FN (Aa (Ab 0) (Ac))))) (Dq "NoBoard" (Aa (mC (.str "this is no board")) (Ac))) (A2)
noncomputable def D1:List D→HD→Out D:=AQ 1 1 K9
abbrev Po:Stmt:=AS 32
noncomputable abbrev IR:MS:=Ah (CH (Ad FJ (Aa (Ab 0) (Ac)))) (Ah (Am 1 (Ad (Aj BC) (Aa (AD [none] (AX (By BE Dy (Ab 0) (mC (.str "/")))) (AG 0) (A9) (Ad D0 (Aa (Ab 0) (Aa (mC (.str ".#")) (Ac))))) (Ac)))) (Ah (AW (BB (BA (Ad FN (Aa (Ab 1) (Ac))))) (Dq "NoText" (Aa (mC (.str "this writes no board")) (Ac))) (A2)) (As (Ab 1))))
noncomputable def IS:List D→HD→Out D:=AQ 1 2 IR
abbrev Pp:Stmt:=AS 22
noncomputable abbrev La:MS:=Ah (CH (Ad D1 (Aa (Ab 0) (Ac)))) (Ah (AW (B2 (BB (BA (Ad (AV Aw) (Aa (Ab 1) (Aa (mC (.ty "tuple")) (Ac)))))) (A0 (Ae Bn (Ad (Aj Bj) (Aa (Ab 1) (Ac))) (mC (.int 2))))) (As (mC (.bl false))) (A2)) (As (Dm (Ad EJ (Aa (Ae Az (Ab 1) (mC (.int 0))) (Aa (Ad (Aj Bj) (Aa (Ab 0) (Ac))) (Ac)))) (Ad EJ (Aa (Ae Az (Ab 1) (mC (.int 1))) (Aa (Ad (Aj Bj) (Aa (Ae Az (Ab 0) (mC (.int 0))) (Ac))) (Ac)))))))
noncomputable def FO:List D→HD→Out D:=AQ 2 2 La
abbrev Pq:Stmt:=AS 27
noncomputable abbrev IT:MS:=Ah (CH (Ad D1 (Aa (Ab 0) (Ac)))) (As (By BE B7 (mC (.str "/")) (AD [none] (AX (Ab 0)) (AG 0) (A9) (By BE B7 (mC (.str "")) (AD [none] (AX (Ab 0)) (AG 0) (A9) (Ae De (mC (.str ".#")) (Ab 0)))))))
noncomputable def EK:List D→HD→Out D:=AQ 1 1 IT
abbrev Pr:Stmt:=AS 23
noncomputable abbrev IU:MS:=AW (BB (BA (Ad FO (Aa (Ab 0) (Aa (Ab 1) (Ac)))))) (Dq "NoSwitching" (Aa (mC (.str "this is no switching of the board")) (Ac))) (A2)
noncomputable def FP:List D→HD→Out D:=AQ 2 2 IU
abbrev Pt:Stmt:=AS 29
noncomputable abbrev IV:MS:=Ah (CH (Ad FP (Aa (Ab 0) (Aa (Ab 1) (Ac))))) (Ah (Ej (Gj 2 3) (Ab 1)) (As (Ez (Du "r" (EI (Ad GF (Aa (Ab 2) (Ac))) (Du "c" (EI (Ad GF (Aa (Ab 3) (Ac))) (Ey))))))))
noncomputable def Df:List D→HD→Out D:=AQ 2 4 IV
abbrev s_law:Stmt:=AS 48
noncomputable abbrev Lb:MS:=Ah (BM (CT (Aa (Ad (AV Gg) (Aa (mC (.int 1)) (Aa (Ad (AV Gh) (Aa (Ad (Aj Bj) (Aa (Ab 0) (Ac))) (Aa (mC (.int 5)) (Ac)))) (Ac)))) (Ac))) (AG 1) (Ah (Am 2 (Ad IF (Aa (Ab 0) (Aa (Ab 1) (Ac))))) (Ah (Fe 3 4 (Aa (Ae Aq (mC (.int 1)) (Ad Bl (Aa (Ab 2) (Aa (mC (.int 8)) (Ac))))) (Aa (Ae Aq (mC (.int 1)) (Ad Bl (Aa (Ab 2) (Aa (mC (.int 8)) (Ac))))) (Ac)))) (Ah (Am 5 (Ad IP (Aa (Ab 2) (Aa (Ab 3) (Aa (Ab 4) (Ac)))))) (Ah (Am 6 (By BE B7 (mC (.str "/")) (AD [none] (AX (Ab 5)) (AG 0) (A9) (Ad GG (Aa (Ab 0) (Ac)))))) (Ah (AW (B2 (A0 (Ae Bn (Ad EK (Aa (Ab 5) (Ac))) (Ab 6))) (A0 (Ae Bn (Ad (Aj BR) (Aa (Ad IS (Aa (Ab 6) (Ac))) (Ac))) (Ad (Aj BR) (Aa (Ab 5) (Ac)))))) (As (mC (.bl false))) (A2)) (Ah (Am 7 (An (Aa (Dw (Ab 3)) (Aa (Dw (Ab 4)) (Ac))))) (Ah (BM (AX (AR (Aa (An (Aa (Ad FL (Aa (Ab 2) (Aa (Ab 3) (Ac)))) (Aa (Ad FL (Aa (Ab 2) (Aa (Ab 4) (Ac)))) (Ac)))) (Aa (An (Aa (An (Ac)) (Aa (An (Ac)) (Ac)))) (Aa (Ab 7) (Aa (An (Aa (An (Ac)) (Aa (An (Aa (Ae Fc (Ab 4) (mC (.int 1))) (Ac))) (Ac)))) (Ac))))))) (AG 8) (Ah (Am 6 (Ae Aq (Ae Aq (Ae Aq (mC (.str "r")) (Ad FK (Aa (Ae Az (Ab 8) (mC (.int 0))) (Ac)))) (mC (.str "c"))) (Ad FK (Aa (Ae Az (Ab 8) (mC (.int 1))) (Ac))))) (AW (B2 (A0 (Ae Bn (Ad Df (Aa (Ab 5) (Aa (Ab 8) (Ac)))) (Ab 6))) (A0 (Ae Bn (Ad (Aj BR) (Aa (Ad IK (Aa (Ab 6) (Ac))) (Ac))) (Ad (Aj BR) (Aa (Ab 8) (Ac)))))) (As (mC (.bl false))) (A2)))) (Ah (Am 9 (AR (Aa (An (Aa (Ad FM (Aa (Ab 2) (Aa (Ab 3) (Ac)))) (Aa (Ae Az (Ab 7) (mC (.int 1))) (Ac)))) (Aa (An (Aa (Ae Az (Ab 7) (mC (.int 0))) (Aa (Ad FM (Aa (Ab 2) (Aa (Ab 4) (Ac)))) (Ac)))) (Aa (mC .non) (Aa (AR (Ac)) (Aa (Cw (Ab 7) (Cu) (Cm (mC (.int 1)))) (Aa (An (Aa (An (Aa (mC (.int 8)) (Ac))) (Aa (An (Ac)) (Ac)))) (Ac))))))))) (Ah (Am 10 (Ad IH (Aa (Ab 2) (Aa (Ab 5) (Ac))))) (Ah (BM (AX (Ab 9)) (AG 11) (Ah (AW (A0 (Ae Bn (B6 [5,11] Cz (Ad Df (Aa (Ab 0) (Aa (Ab 1) (Ac))))) (mC (.str "! switching")))) (As (mC (.bl false))) (A2)) (AW (A0 (Ae Bn (B6 [10,11] Cz (Ad Df (Aa (Ab 0) (Aa (Ab 1) (Ac))))) (mC (.str "! board")))) (As (mC (.bl false))) (A2)))) (AW (A0 (Ae Bn (B6 [10] Cz (Ad EK (Aa (Ab 0) (Ac)))) (mC (.str "! board")))) (As (mC (.bl false))) (A2))))))))))))) (As (mC (.bl true)))
noncomputable def F_law:List D→HD→Out D:=AQ 1 12 Lb
theorem _root_.LS.Sm.len {h h':HD} (s:Sm h h'):h.length≤h'.length:=by
 cases e:h.length with
 |zero=>exact B9 _
 |succ n=>
  have hn:n<h.length:=by omega
  have:=s n h[n] (Bb hn)
  have:=(qa4.mp this).1
  omega
theorem sz {n:Nat} (hn:n≤8):(List.range n).length≤sizeLine:=by
 rw [GU];unfold sizeLine;omega
open PySem.Builtin.Int in
theorem Xz {ns:List Int} {k:Nat} (hb:∀i∈ns,Builtin.Int.intBits i≤2^20) (hk:k≤1000):∃c:Int,Builtin.Int.intBits c≤2^20∧∀h,Pu (ID [.scr ns,.int (k:Nat)] h) h (.int c):=by
 by_cases hl:k<ns.length
 ·refine ⟨ns[k],hb _ (EW hl),fun h=>?_⟩
  change Wp (Ax 2 K6 [.scr ns,.int (k:Nat)] h) _
  refine Eq.mpr (AO) ?_
  have:(k:Int)<ns.length:=by omega
  simp [this]
  refine Au (UB (Bb hl)) ?_
  simp [Sm.refl]
 ·refine ⟨6151*(k:Int)+29,?_,fun h=>?_⟩
  ·rw [intBits_le_iff]
   have h1:(6151*(k:Int)+29).natAbs<2^30:=by omega
   exact AN h1 (Nat.pow_le_pow_right (by decide) (by omega))
  ·change Wp (Ax 2 K6 [.scr ns,.int (k:Nat)] h) _
   refine Eq.mpr (AO) ?_
   have:¬(k:Int)<ns.length:=by omega
   simp [this]
   rw [Kd (by decide) (by decide)]
   simp [Sm.refl]
def Pv (c:Int) (k:Nat):Int:=(((c+1)*40692+104729*(k:Int))*((c+1)*40692+104729*(k:Int))) % 2147483399+(k:Int)
theorem Pw {h:HD}:Ff [.int 24] h=.ok ((List.range 24).map fun k=>D.int ((k:Nat):Int),[]) h:=Gp (n:=24) (by decide)
theorem XA {c:Int} {k:Nat} (hc:Builtin.Int.intBits c≤2^20) (hk:k≤1000):∃r:Int,∀h,Pu (IE [.int c,.int (k:Nat)] h) h (.int r):=by
 refine ⟨Pv c k*(Pv c k+31) % 2147483563,fun h=>?_⟩
 change Wp (Ax 3 OT [.int c,.int (k:Nat)] h) _
 refine Eq.mpr (AO) ?_
 have bX:Builtin.Int.intBits ((c+1)*40692+104729*(k:Int))≤16777216:=by
  have hk':Builtin.Int.intBits ((k:Nat):Int)≤10:=PySem.intBits_le_iff.mpr (by omega)
  have:=PySem.intBits_add_le (PySem.intBits_mul_le (PySem.intBits_add_le hc (show Builtin.Int.intBits 1≤1 by decide)) (show Builtin.Int.intBits 40692≤16 by decide)) (PySem.intBits_mul_le (show Builtin.Int.intBits 104729≤17 by decide) hk')
  exact Bc this (by decide)
 have h1:=Int.emod_nonneg (((c+1)*40692+104729*(k:Int))*((c+1)*40692+104729*(k:Int))) (show (2147483399:Int)≠0 by decide)
 have h2:=Int.emod_lt_of_pos (((c+1)*40692+104729*(k:Int))*((c+1)*40692+104729*(k:Int))) (show (0:Int)<2147483399 by decide)
 simp
 rw [HN (by decide) (by decide)]
 simp
 rw [Kd (by decide) (by decide)]
 simp
 rw [UE bX bX]
 simp
 rw [HP (by decide)]
 simp
 rw [Kd (by omega) (by omega)]
 simp
 rw [HP (by decide)]
 simp
 exact ⟨rfl,.refl _⟩
def BoxAt (h:HD) (b:Nat):Prop:=∃n:Int,h[b]?=some (.lst [.int n])
inductive Px (ns:List Int) (k:Nat) (c:Int) (h:HD) (xs:List Nat) (ρ:Af) (h':HD):Prop where
 |mk (N:Int) (x:Option D) (f0:ρ=[some (.scr ns),some (.int (k:Nat)),some (.int c),some (.int N),x]) (f1:Sm h h') (f2:∀j∈xs,j<24):Px ns k c h xs ρ h'
theorem XB {ns:List Int} {k:Nat} {h:HD} {Q:D→HD→Prop} (hb:∀i∈ns,Builtin.Int.intBits i≤2^20) (hk:k≤1000) (q:∀l h',BoxAt h' l→h.length≤l→Sm h h'→Q (.loc l) h'):Wp (IF [.scr ns,.int (k:Nat)] h) Q:=by
 change Wp (Ax 5 (O5) [.scr ns,.int (k:Nat)] h) _
 refine Eq.mpr (AO) ?_
 obtain ⟨c,bc,pc⟩:=Xz (k:=k) hb hk
 simp
 refine (pc h).wp fun h1 s1=>?_
 rw [HP (by decide)]
 simp
 by_cases hz:c % 2=0
 ·simp [hz]
  rw [UF (by decide) (by decide)]
  simp
  exact AM (by simp) fun l h' s e el _=>q l h' ⟨_,e⟩ (by have:=s1.len;omega) (s1.trans s)
 ·simp [hz]
  refine Ft (src:=[]) (xs:=List.range 24) (fun i=>.int ((i:Nat):Int)) (Px ns k c h) ?_ (fun ys ρ h' _=>DS) ?_ ?_
  ·simp [Pw]
   exact ⟨_,_,rfl,s1,fun j hj=>qaU.mp hj⟩
  ·rintro x xs ρ h' ⟨N,y,rfl,sh,hx⟩
   refine ⟨_,rfl,?_⟩
   obtain ⟨m,pm⟩:=XA (k:=x) bc (by have:=hx x AE;omega)
   simp
   rw [HN (by decide) (by decide)]
   simp
   refine (pm h').wp fun h2 s2=>?_
   simp [B5]
   exact ⟨_,_,rfl,sh.trans s2,fun j hj=>hx j (AI _ hj)⟩
  ·rintro ρ h' ⟨N,y,rfl,sh,_⟩
   simp
   exact AM (by simp) fun l h' s e el _=>q l h' ⟨_,e⟩ (by have:=sh.len;omega) (sh.trans s)
def Smx (b:Nat) (h h':HD):Prop:=∀(l:Nat) (c:Ce),l≠b→h[l]?=some c→h'[l]?=some c
theorem Smx.refl (b:Nat) (h:HD):Smx b h h:=fun _ _ _ e=>e
theorem Smx.trans {b:Nat} {h h1 h2:HD} (a:Smx b h h1) (c:Smx b h1 h2):Smx b h h2:=fun l x n e=>c l x n (a l x n e)
theorem BU {b:Nat} {h h':HD} (s:Sm h h'):Smx b h h':=fun l c _ e=>s l c e
theorem GI {b:Nat} {m:Int} {h:HD} {Q:D→HD→Prop} (hx:BoxAt h b) (h1:0<m) (h2:m<18446744073709551616) (q:∀d h',0≤d→d<m→BoxAt h' b→Smx b h h'→Q (.int d) h'):Wp (Bl [.loc b,.int m] h) Q:=by
 change Wp (Ax 4 OV [.loc b,.int m] h) _
 refine Eq.mpr (AO) ?_
 obtain ⟨N,e⟩:=hx
 simp
 rw [show (0:Int)=((0:Nat):Int) from rfl]
 refine Au (Dp e (k:=0) rfl) ?_
 simp
 refine Au (UG h1 h2) ?_
 simp
 rw [show (0:Int)=((0:Nat):Int) from rfl]
 refine Au (UC e (by simp)) ?_
 simp
 have hl:b<h.length:=(qa4.mp e).1
 refine q _ _ (Int.emod_nonneg _ (by omega)) (Int.emod_lt_of_pos _ h1) ⟨_,by rw [BV hl]⟩ fun l c ne el=>?_
 rw [Bw (Ne.symm ne)]
 exact el
theorem BoxAt.sm {b:Nat} {h h':HD} (x:BoxAt h b) (s:Sm h h'):BoxAt h' b:=let ⟨n,e⟩:=x;⟨n,s _ _ e⟩
theorem BoxAt.smx {a b:Nat} {h h':HD} (x:BoxAt h b) (s:Smx a h h') (ne:b≠a):BoxAt h' b:=let ⟨n,e⟩:=x;⟨n,s _ _ ne e⟩
theorem BoxAt.new {b:Nat} {h:HD} {c:Ce} (x:BoxAt h b):BoxAt (h++[c]) b:=x.sm (.app _ _)
def Plain (h:HD):D→Prop
 |.int _=>True
 |.bl _=>True
 |.non=>True
 |.str _=>True
 |.tup _=>True
 |.edic=>True
 |.loc l=>∃ds,h[l]?=some (.lst ds)
 |_=>False
theorem Plain.sm {h h':HD} {d:D} (p:Plain h d) (s:Sm h h'):Plain h' d:=by
 cases d with
 |loc l=>obtain ⟨ds,e⟩:=p;exact ⟨ds,s _ _ e⟩
 |_=>exact p
def AC:D→List D
 |.tup ds=>ds
 |_=>[]
def Plain2 (h:HD) (d:D):Prop:=Plain h d∧∀x∈AC d,Plain h x
def Plain3 (h:HD) (d:D):Prop:=Plain h d∧∀x∈AC d,Plain2 h x
theorem Plain2.sm {h h':HD} {d:D} (p:Plain2 h d) (s:Sm h h'):Plain2 h' d:=⟨p.1.sm s,fun x hx=>(p.2 x hx).sm s⟩
theorem Plain3.sm {h h':HD} {d:D} (p:Plain3 h d) (s:Sm h h'):Plain3 h' d:=⟨p.1.sm s,fun x hx=>(p.2 x hx).sm s⟩
def Dg:D→Bool
 |.int i=>decide (0≤i)&&decide (i≤1)
 |_=>false
def Bs:D→Bool
 |.tup ds=>decide (1≤ds.length)&&decide (ds.length≤8)
 |_=>false
def Bm (d:D):Bool:=Bs d&&(AC d).all Dg
def Co (d:D):Nat:=(AC d).length
def BG (d:D):Bool:=Bs d&&(AC d).all Bm&&(AC d).all fun x=>Co x==Co ((AC d).getD 0 .non)
theorem p_is_between_int {i a b:Int} {h:HD}:Pu (GH [.int i,.int a,.int b] h) h (.bl (decide (a≤i)&&decide (i≤b))):=by
 change Wp (Ax 3 (K8) [.int i,.int a,.int b] h) _
 refine Eq.mpr (AO) ?_
 have e:DA [.int i] h=.ok (.bl true) h:=rfl
 simp [e]
 by_cases h1:a≤i<;>simp [h1,Al,Sm.refl]
theorem XC {d:D} {a b:Int} {h:HD} (e:DA [d] h=.ok (.bl false) h):Pu (GH [d,.int a,.int b] h) h (.bl false):=by
 change Wp (Ax 3 (K8) [d,.int a,.int b] h) _
 refine Eq.mpr (AO) ?_
 simp [e,Sm.refl]
def EL:D→Bool
 |.int _=>true
 |_=>false
theorem Pz {d:D} {h:HD} (p:Plain h d):DA [d] h=.ok (.bl (EL d)) h:=by
 cases d with
 |loc l=>
  obtain ⟨ds,e⟩:=p
  have i1:Aw (.loc l) (.ty "int") h=.ok (.bl false) h:=V1 e
  have w:Wp (Ax 1 OJ [.loc l] h) fun d h'=>d=.bl false∧h'=h:=by
   refine Eq.mpr AO ?_
   simp [-V0,i1]
  obtain ⟨a,h',e',rfl,rfl⟩:=Wp.ex w
  exact e'
 |tup ds=>rfl
 |int i=>rfl
 |bl b=>rfl
 |non=>rfl
 |str x=>rfl
 |edic=>rfl
 |_=>exact p.elim
theorem PB {d:D} (h:EL d=true):∃i,d=.int i:=by cases d<;>first |exact ⟨_,rfl⟩ |cases h
theorem XE {d:D} {h:HD} (p:Plain h d):Pu (II [d] h) h (.bl (Dg d)):=by
 change Wp (Ax 1 (Pf) [d] h) _
 refine Eq.mpr AO ?_
 simp
 cases hw:EL d with
 |true=>
  obtain ⟨i,rfl⟩:=PB hw
  exact p_is_between_int.wp fun h' s=>⟨rfl,s⟩
 |false=>
  have e:=Pz p
  rw [hw] at e
  have e2:Dg d=false:=by cases d<;>first |rfl |cases hw
  exact (XC e).wp fun h' s=>⟨by rw [e2],s⟩
def GJ:D→Bool
 |.tup _=>true
 |_=>false
theorem Lc {d:D} {h:HD} (p:Plain h d):Aw d (.ty "tuple") h=.ok (.bl (GJ d)) h:=by
 cases d with
 |loc l=>obtain ⟨ds,e⟩:=p;exact V2 e
 |tup ds=>rfl
 |int i=>rfl
 |bl b=>rfl
 |non=>rfl
 |str x=>rfl
 |edic=>rfl
 |_=>exact p.elim
theorem Ld {d:D} (h:GJ d=true):∃ds,d=.tup ds:=by cases d<;>first |exact ⟨_,rfl⟩ |cases h
theorem PC {d:D} {h:HD} (p:Plain h d):Pu (FI [d] h) h (.bl (Bs d)):=by
 change Wp (Ax 1 OL [d] h) _
 refine Eq.mpr AO ?_
 cases hT:GJ d with
 |true=>
  obtain ⟨ds,rfl⟩:=Ld hT
  have a1:(1:Int)≤ds.length↔1≤ds.length:=by omega
  have a2:(ds.length:Int)≤8↔ds.length≤8:=by omega
  by_cases h1:1≤ds.length
  ·by_cases h2:ds.length≤8
   ·simp [a1.mpr h1,a2.mpr h2,Al,Sm.refl,Bs,h1,h2]
   ·have b2:¬(ds.length:Int)≤8:=by omega
    simp [a1.mpr h1,b2,Al,Sm.refl,Bs,h1,h2]
  ·have b1:¬(1:Int)≤ds.length:=by omega
   simp [b1,Al,Sm.refl,Bs,h1]
 |false=>
  have:Bs d=false:=by cases d<;>first |rfl |cases hT
  simp [Lc p,hT,this,Sm.refl]
theorem Le {d:D} (h:Bs d=true):∃ds,d=.tup ds∧1≤ds.length∧ds.length≤8:=by
 cases d with
 |tup ds=>exact ⟨ds,rfl,by simpa [Bs] using h⟩
 |_=>cases h
theorem XF {d:D} {h:HD} (p:Plain2 h d):Pu (IQ [d] h) h (.bl (Bm d)):=by
 change Wp (Ax 1 (Pk) [d] h) _
 refine Eq.mpr (AO) ?_
 simp
 refine (PC p.1).wp fun h1 s1=>?_
 cases hl:Bs d with
 |false=>simp [Bm,hl,s1]
 |true=>
  obtain ⟨ds,rfl,l1,l2⟩:=Le hl
  simp
  refine Pu.wp (HM (src:=[]) (xs:=ds) (φ:=fun x=>x) Dg (fun x=>[some x]) (by rw [List.map_id'];exact En) (fun x _=>rfl) (fun x hx h' s'=>?_) (by unfold sizeLine;omega)) fun h2 s2=>?_
  ·simp [Pu]
   exact XE ((p.2 x hx).sm (s1.trans s'))
  ·simp [Bm,hl,AC,s1.trans s2]
theorem PD {d:D} {h:HD} (hl:Bs d=true):Bj d h=.ok (.int (Co d:Nat)) h:=by
 obtain ⟨ds,rfl,_,_⟩:=Le hl
 simp [Co,AC]
theorem PF {d:D} (h:Bm d=true):Bs d=true:=by unfold Bm at h;exact (qc1.mp h).1
theorem Lf {d:D} {h:HD} (p:Plain3 h d):Pu (FN [d] h) h (.bl (BG d)):=by
 change Wp (Ax 1 (Pm) [d] h) _
 refine Eq.mpr (AO) ?_
 simp
 refine (PC p.1).wp fun h1 s1=>?_
 cases hl:Bs d with
 |false=>simp [BG,hl,s1]
 |true=>
  obtain ⟨ds,rfl,l1,l2⟩:=Le hl
  simp
  refine Pu.wp (HM (src:=[]) (xs:=ds) (φ:=fun x=>x) Bm (fun x=>[some x]) (by rw [List.map_id'];exact En) (fun x _=>rfl) (fun x hx h' s'=>?_) (by unfold sizeLine;omega)) fun h2 s2=>?_
  ·simp [Pu]
   exact XF ((p.2 x hx).sm (s1.trans s'))
  ·cases ha:ds.all Bm with
   |false=>simp [BG,hl,AC,ha,s1.trans s2]
   |true=>
    simp
    have hr:∀x∈ds,Bm x=true:=fun x hx=>qaI.mp ha x hx
    obtain ⟨d0,rest,rfl⟩:∃d0 rest,ds=d0::rest:=by
     cases ds with
     |nil=>simp at l1
     |cons a r=>exact ⟨a,r,rfl⟩
    refine Pu.wp (HM (src:=[]) (xs:=d0::rest) (φ:=fun x=>x) (fun x=>Co x==Co d0) (fun x=>[some x,some (.tup (d0::rest))]) (by rw [List.map_id'];exact En) (fun x _=>rfl) (fun x hx h' s'=>?_) (by unfold sizeLine;omega)) fun h3 s3=>?_
    ·simp [Pu]
     rw [PD (PF (hr x hx))]
     simp
     rw [show (0:Int)=((0:Nat):Int) from rfl]
     refine Au (ix_tup (k:=0) rfl) ?_
     simp
     rw [PD (PF (hr d0 AE))]
     simp [Sm.refl]
     rw [qb8]
     simp
     omega
    ·have:(d0::rest).all Bm=true:=ha
     simp only [BG,hl,AC,this,Bool.true_and]
     refine ⟨?_,(s1.trans s2).trans s3⟩
     simp
theorem XG {d:D} {h:HD} (p:Plain3 h d) (hb:BG d=true):Pu (D1 [d] h) h .non:=by
 change Wp (Ax 1 (K9) [d] h) _
 refine Eq.mpr (AO) ?_
 simp
 refine (Lf p).wp fun h1 s1=>?_
 simp [hb,s1]
theorem PH {d:D} {h:HD} (p:Plain3 h d) (hb:BG d=false):Er (D1 [d] h) h "NoBoard":=by
 change We (Ax 1 (K9) [d] h) _ _
 refine Eq.mpr (EB) ?_
 simp
 refine (Lf p).we fun h1 s1=>?_
 simp [hb,s1,CJ]
def lit (x:Bool):D:=.int (if x then 1 else 0)
def AB (w:Nat) (f:Nat→Bool):D:=.tup ((List.range w).map fun j=>lit (f j))
def bD (h w:Nat) (f:Nat→Nat→Bool):D:=.tup ((List.range h).map fun i=>AB w (f i))
section
variable {H W:Nat} {h:HD} {f:Nat→Nat→Bool} {r:Nat→Bool}
theorem XH {x:Bool}:Dg (lit x)=true:=by cases x<;>rfl
theorem IW:Plain2 h (AB W r):=⟨trivial,fun x hx=>by
 simp only [AB,AC,qaK] at hx
 obtain ⟨j,_,rfl⟩:=hx
 exact trivial⟩
theorem PJ:Plain3 h (bD H W f):=⟨trivial,fun x hx=>by
 simp only [bD,AC,qaK] at hx
 obtain ⟨j,_,rfl⟩:=hx
 exact IW⟩
theorem PK {ds:List D} (h1:1≤ds.length) (h2:ds.length≤8):Bs (.tup ds)=true:=by simp [Bs,h1,h2]
theorem XI (hw:1≤W∧W≤8):Bm (AB W r)=true:=by
 unfold Bm
 rw [BW]
 refine ⟨PK (by simp;omega) (by simp;omega),qaI.mpr fun x hx=>?_⟩
 simp only [AB,AC,qaK] at hx
 obtain ⟨j,_,rfl⟩:=hx
 exact XH
theorem IX:Co (AB W r)=W:=by simp [Co,AB,AC]
theorem PL (hh:1≤H∧H≤8) (hw:1≤W∧W≤8):BG (bD H W f)=true:=by
 unfold BG
 rw [BW,BW]
 refine ⟨⟨PK (by simp;omega) (by simp;omega),qaI.mpr fun x hx=>?_⟩,qaI.mpr fun x hx=>?_⟩
 ·simp only [bD,AC,qaK] at hx
  obtain ⟨j,_,rfl⟩:=hx
  exact XI hw
 ·simp only [bD,AC,qaK] at hx ⊢
  obtain ⟨j,_,rfl⟩:=hx
  have:((List.range H).map fun i=>AB W (f i)).getD 0 .non=AB W (f 0):=by
   rw [ES,BP,GQ (by omega)];rfl
  rw [this,IX,IX]
  simp
theorem PM (hh:1≤H∧H≤8) (hw:1≤W∧W≤8):Pu (D1 [bD H W f] h) h .non:=XG PJ (PL hh hw)
end
section
variable {h:HD}
theorem PN:Gd (.int 10) (.int 29) h=.ok (.int (10^29)) h:=by
 simp only [Gd,LS.intD]
 rw [if_pos (by decide)]
 rfl
variable {H W:Nat} {f:Nat→Nat→Bool} {r:Nat→Bool}
theorem Lg:Bj (bD H W f) h=.ok (.int (H:Nat)) h:=by simp [bD]
theorem XJ:Bj (AB W r) h=.ok (.int (W:Nat)) h:=by simp [AB]
theorem XM {k:Nat} (hk:k<H):Az (bD H W f) (.int (k:Nat)) h=.ok (AB W (f k)) h:=MY hk
theorem PP (hk:1≤H):Az (bD H W f) (.int 0) h=.ok (AB W (f 0)) h:=MZ (by omega)
def NoRowD (h:HD) (H W:Nat) (x:D):Prop:=Plain2 h x∧(Bm x=false∨(1<H∧Co x≠W))
def BO (H W:Nat) (f:Nat→Nat→Bool) (A:Nat) (x:D):D:=.tup (((List.range H).map fun i=>AB W (f i)).take A++[x]++((List.range H).map fun i=>AB W (f i)).drop (A+1))
theorem XN {A:Nat} {x y:D} (hy:y∈AC (BO H W f A x)):y=x∨∃i,y=AB W (f i):=by
 simp only [BO,AC,GS,qaW,qaB,List.not_mem_nil,or_false] at hy
 rcases hy with hy |hy |hy
 ·have:=Jn hy
  simp at this
  obtain ⟨i,_,rfl⟩:=this
  exact .inr ⟨i,rfl⟩
 ·exact .inl hy
 ·have:=Jo hy
  simp at this
  obtain ⟨i,_,rfl⟩:=this
  exact .inr ⟨i,rfl⟩
theorem XO {A:Nat} {x:D} (hx:Plain2 h x):Plain3 h (BO H W f A x):=⟨trivial,fun y hy=>by
 rcases XN hy with rfl |⟨i,rfl⟩
 ·exact hx
 ·exact IW⟩
theorem XQ {A:Nat} {x:D} (hA:A<H) (hx:NoRowD h H W x):BG (BO H W f A x)=false:=by
 have hm:x∈AC (BO H W f A x):=by simp [BO,AC]
 rcases hx.2 with hr |⟨h1,hl⟩
 ·unfold BG
  rw [show (AC (BO H W f A x)).all Bm=false from by
   rw [FV]
   exact ⟨x,hm,by rw [hr];simp⟩]
  simp
 ·unfold BG
  rw [show ((AC (BO H W f A x)).all fun y=>Co y==Co ((AC (BO H W f A x)).getD 0 .non))=false from ?_]
  ·simp
  rw [FV]
  have lenA:(((List.range H).map fun i=>AB W (f i)).take A).length=A:=by simp;omega
  by_cases hA0:A=0
  ·subst hA0
   have e0:(AC (BO H W f 0 x)).getD 0 .non=x:=by simp [BO,AC]
   rw [e0]
   have h2:((List.range H).map fun i=>AB W (f i)).drop 1≠[]:=by
    intro z
    have:=congrArg List.length z
    simp at this
    omega
   obtain ⟨y,hy⟩:=List.exists_mem_of_ne_nil _ h2
   refine ⟨y,by simp only [BO,AC];exact qaW.mpr (.inr hy),?_⟩
   have:=Jo hy
   simp at this
   obtain ⟨i,_,rfl⟩:=this
   rw [IX]
   simpa using fun z=>hl z.symm
  ·have e0:(AC (BO H W f A x)).getD 0 .non=AB W (f 0):=by
    simp only [BO,AC,GS]
    rw [ES,Di (by rw [lenA];omega),List.getElem?_take,if_pos (by omega),BP,GQ (by omega)]
    rfl
   rw [e0,IX]
   exact ⟨x,hm,by simpa using hl⟩
theorem Lh {ds:List D} {x:D} (hx:x∈ds) (hr:Bm x=false):BG (.tup ds)=false:=by
 unfold BG
 rw [show (AC (.tup ds)).all Bm=false from by
  rw [FV]
  exact ⟨x,hx,by rw [hr];simp⟩]
 simp
theorem PQ {d:D} (hl:Bs d=false):BG d=false:=by unfold BG;rw [hl];simp
theorem XR (hh:1≤H):Bm (bD H W f)=false:=by
 unfold Bm
 rw [show (AC (bD H W f)).all Dg=false from by
  rw [FV]
  exact ⟨AB W (f 0),by simp [bD,AC];exact ⟨0,by omega,rfl⟩,by simp [AB,Dg]⟩]
 simp
theorem XS (hw:1≤W):BG (AB W r)=false:=Lh (x:=lit (r 0)) (by simp;exact ⟨0,by omega,rfl⟩) (by simp [Bm,lit,Bs])
def NoB (h:HD) (d:D):Prop:=Plain3 h d∧BG d=false
theorem NoB.sm {h':HD} {d:D} (n:NoB h d) (s:Sm h h'):NoB h' d:=⟨n.1.sm s,n.2⟩
end
theorem Plain.smx {b:Nat} {h h':HD} {d:D} (p:Plain h d) (s:Smx b h h') (x:BoxAt h' b):Plain h' d:=by
 cases d with
 |loc l=>
  obtain ⟨ds,e⟩:=p
  by_cases hl:l=b
  ·obtain ⟨n,e'⟩:=x
   exact ⟨_,hl ▸ e'⟩
  ·exact ⟨ds,s _ _ hl e⟩
 |_=>exact p
theorem Plain2.smx {b:Nat} {h h':HD} {d:D} (p:Plain2 h d) (s:Smx b h h') (x:BoxAt h' b):Plain2 h' d:=⟨p.1.smx s x,fun y hy=>(p.2 y hy).smx s x⟩
theorem Plain3.smx {b:Nat} {h h':HD} {d:D} (p:Plain3 h d) (s:Smx b h h') (x:BoxAt h' b):Plain3 h' d:=⟨p.1.smx s x,fun y hy=>(p.2 y hy).smx s x⟩
theorem NoB.smx {b:Nat} {h h':HD} {d:D} (n:NoB h d) (s:Smx b h h') (x:BoxAt h' b):NoB h' d:=⟨n.1.smx s x,n.2⟩
def TabAt (h:HD):Prop:=h[0]?=some .tab
theorem TabAt.sm {h h':HD} (t:TabAt h) (s:Sm h h'):TabAt h':=s _ _ t
theorem TabAt.smx {b:Nat} {h h':HD} (t:TabAt h) (s:Smx b h h') (hb:0<b):TabAt h':=s _ _ (by omega) t
theorem TabAt.pos {h:HD} (t:TabAt h):0<h.length:=(qa4.mp t).1
theorem DB {b:Nat} {m:Int} {h:HD} {Q:D→HD→Prop} (hx:BoxAt h b) (hb:0<b) (ht:TabAt h) (h1:0<m) (h2:m≤1000) (q:∀(d:Nat) h',(d:Int)<m→BoxAt h' b→TabAt h'→Smx b h h'→Q (.int (d:Nat)) h'):Wp (Bl [.loc b,.int m] h) Q:=
 GI hx (by omega) (by omega) fun d h' d0 d1 x s=>by
  obtain ⟨k,rfl⟩:∃k:Nat,d=(k:Int):=⟨d.toNat,by omega⟩
  exact q k h' (by omega) x (ht.smx s hb) s
theorem BoxAt.lt {b:Nat} {h:HD} (x:BoxAt h b):b<h.length:=let ⟨_,e⟩:=x;(qa4.mp e).1
@[simp] theorem Zcl {ρ:Af} {a b:D} {i j:Nat}:EA [i,j] (.tup [a,b]) ρ=some ((ρ.set i (some a)).set j (some b)):=id rfl
theorem DD {xs ys:List D} {h:HD} (hz:xs.length+ys.length≤1000):Aq (.tup xs) (.tup ys) h=.ok (.tup (xs++ys)) h:=by
 simp only [Aq]
 rw [if_pos (by unfold sizeLine;omega)]
theorem XT {ds:List D} {x:D} (hx:x∈ds) (hl:Dg x=false):Bm (.tup ds)=false:=by
 unfold Bm
 rw [show (AC (.tup ds)).all Dg=false from by
  rw [FV]
  exact ⟨x,hx,by rw [hl];simp⟩]
 simp
theorem XU {d:D} (hl:Bs d=false):Bm d=false:=by unfold Bm;rw [hl];simp
theorem PR {ds:List D} (hl:8<ds.length):Bs (.tup ds)=false:=by
 have:¬ds.length≤8:=by omega
 simp [Bs,this]
theorem XW {h:HD} {W:Nat} {r:Nat→Bool} {x:D} (hx:x∈(List.range W).map fun j=>lit (r j)):Plain h x:=by
 simp only [qaK] at hx
 obtain ⟨j,_,rfl⟩:=hx
 exact trivial
theorem all_nil {P:D→Prop}:∀d∈([]:List D),P d:=fun d hd=>by cases hd
theorem all_cons {P:D→Prop} {a:D} {l:List D} (h:P a) (t:∀d∈l,P d):∀d∈a::l,P d:=fun d hd=>by
 rcases qaB.mp hd with rfl |hd
 ·exact h
 ·exact t d hd
theorem FQ {P:D→Prop} {l r:List D} (h:∀d∈l,P d) (t:∀d∈r,P d):∀d∈l++r,P d:=fun d hd=>by
 rcases qaW.mp hd with hd |hd
 ·exact h d hd
 ·exact t d hd
theorem Li (P:D→Prop) {l o:Nat} {ds:List D} {h:HD} (e:h[l]?=some (.lst ds)) (ho:o<ds.length) (hp:∀d∈ds,P d):∃y,Az (.loc l) (.int (o:Nat)) h=.ok y h∧P y:=
 ⟨ds[o],Dp e (Bb ho),hp _ (EW ho)⟩
theorem FR {h:HD} {d:D} (p:Plain h d) (e:AC d=[]):Plain2 h d:=⟨p,fun x hx=>by rw [e] at hx;cases hx⟩
theorem Lj {h:HD} {d:D} (p:Plain h d) (e:AC d=[]):Plain3 h d:=⟨p,fun x hx=>by rw [e] at hx;cases hx⟩
def XX (h:HD) (H W l:Nat):Prop:=∃ds:List D,h[l]?=some (.lst ds)∧ds.length≤10∧∀d∈ds,NoRowD h H W d
theorem NoRowD.sm {h h':HD} {H W:Nat} {d:D} (n:NoRowD h H W d) (s:Sm h h'):NoRowD h' H W d:=⟨n.1.sm s,n.2⟩
noncomputable abbrev XY:MS:=Ah (Am 7 (AD [none,some 1,some 2] (AX (Ab 7)) (AG 0) (A9) (Ae Aq (Ae Aq (Cw (Ab 1) (Cu) (Cm (Ab 2))) (An (Aa (Ab 0) (Ac)))) (Cw (Ab 1) (Cm (Ae Aq (Ab 2) (mC (.int 1)))) (Cu))))) (Ah (Am 7 (Ae Aq (Ab 7) (AR (Aa (Ad (Aj Fz) (Aa (Ab 1) (Ac))) (Aa (An (Aa (Ab 1) (Ac))) (Aa (Ae BD (An (Aa (Ae Az (Ab 1) (mC (.int 0))) (Ac))) (mC (.int 9))) (Aa (Ae Aq (Ab 1) (An (Aa (An (Ac)) (Ac)))) (Aa (Ae Az (Ab 1) (mC (.int 0))) (Aa (mC .non) (Aa (An (Ac)) (Aa (mC (.int 0)) (Aa (mC (.str "")) (Aa (mC .edic) (Ac)))))))))))))) (As (Ae Az (Ab 7) (Ad Bl (Aa (Ab 0) (Aa (Ad (Aj Bj) (Aa (Ab 7) (Ac))) (Ac)))))))
theorem PU {R:List D} {h:HD}:Fz (.tup R) h=Bi R h:=rfl
theorem NoB.tup {h:HD} {ds:List D} (hp:∀x∈ds,Plain2 h x) (hb:BG (.tup ds)=false):NoB h (.tup ds):=⟨⟨trivial,hp⟩,hb⟩
theorem PV {b H W A l:Nat} {f:Nat→Nat→Bool} {h:HD} {c3 c4 c5 c6:Option D} {Q:D→HD→Prop} (hx:BoxAt h b) (hb:0<b) (ht:TabAt h) (hh:1≤H∧H≤8) (hw:1≤W∧W≤8) (hA:A<H) (hn:XX h H W l)
 (q:∀d h',NoB h' d→BoxAt h' b→TabAt h'→Smx b h h'→Q d h'):Wp (XY [some (.loc b),some (bD H W f),some (.int (A:Nat)),c3,c4,c5,c6,some (.loc l)] h) (Gn Q):=by
 obtain ⟨ds,el,ln,hn⟩:=hn
 try simp [-Ag]
 refine HJ (src:=[(l,ds)]) (xs:=ds) (φ:=fun x=>x) (fun _=>true) (fun x=>BO H W f A x) (fun x=>[some x,some (bD H W f),some (.int (A:Nat))]) ?_ (by unfold sizeLine;omega) (fun x _=>rfl) (fun x hx h' s'=>.ok) (fun x hx _ h' s'=>?_) fun l7 h7 s7 e7=>?_
 ·simp
  refine Au (Kn el) ?_
  simp [Sm.refl]
  exact fun h2 s2=>J0 (s2 _ _ el)
 ·simp [Pu]
  rw [bD]
  refine Au (Ky (by simp;omega)) ?_
  simp
  refine Au (DD (by simp;omega)) ?_
  simp
  refine Au (NU (k:=A) (by omega) (by simp;omega)) ?_
  simp
  refine Au (DD (by simp;omega)) ?_
  simp [BO,Sm.refl]
 rw [HI] at e7
 refine Eq.mpr (Ag) ?_
 simp [-Ag,PP hh.1]
 obtain ⟨R,eR,lR,pR⟩:∃R:List D,bD H W f=.tup R∧R.length=H∧∀x∈R,∀h,Plain2 h x:=⟨_,rfl,by simp,fun x hx h=>by
  simp only [qaK] at hx
  obtain ⟨j,_,rfl⟩:=hx
  exact IW⟩
 rw [eR]
 refine Au (PU) ?_
 refine AM (by unfold sizeLine;omega) fun l8 h8 s8 e8 _ _=>?_
 rw [show (9:Int)=((9:Nat):Int) from rfl]
 refine Au (NT (by simp) (by simp)) ?_
 try simp [-Ag]
 refine Au (DD (by simp;omega)) ?_
 rw [Ck]
 refine AM (by simp) fun l9 h9 s9 e9 _ _=>?_
 try simp [-Ag]
 refine Au (Gw (s9 _ _ (s8 _ _ e7)) e9) ?_
 refine AM (by simp;unfold sizeLine;omega) fun l10 h10 s10 e10 el10 _=>?_
 have s:=((s7.trans s8).trans s9).trans s10
 obtain ⟨L,eL,lL,nL⟩:∃L:List D,h10[l10]?=some (.lst L)∧L.length=ds.length+10∧∀d∈L,NoB h10 d:=by
  have s8':=s9.trans s10
  have pl:∀x∈R,Plain2 h10 x:=fun x hx=>pR x hx h10
  have flat:∀{x:D},Plain h10 x→AC x=[]→Bs x=false→NoB h10 x:=fun p e l=>⟨Lj p e,PQ l⟩
  refine ⟨_,e10,by simp,FQ (fun d hm=>?_) <| all_cons (flat ⟨_,s8' _ _ e8⟩ rfl rfl) <| all_cons (.tup (all_cons ⟨trivial,fun y hy=>(pl y hy).1⟩ all_nil) (Lh (x:=.tup R) AE (by rw [←eR];exact XR hh.1))) <|
   all_cons (.tup (fun x hx=>?_) (PQ (PR (by simp)))) <| all_cons (.tup (FQ pl (all_cons (FR trivial rfl) all_nil)) (Lh (x:=.tup []) (by simp) rfl)) <|
   all_cons ⟨⟨trivial,fun x hx=>?_⟩,XS hw.1⟩ <| all_cons (flat trivial rfl rfl) <| all_cons (flat trivial rfl rfl) <| all_cons (flat trivial rfl rfl) <| all_cons (flat trivial rfl rfl) <| all_cons (flat trivial rfl rfl) all_nil⟩
  ·obtain ⟨x,hx1,ex⟩:=qaK.mp hm
   rw [←ex]
   have:=(hn x hx1).sm s
   exact ⟨XO this.1,XQ hA this⟩
  ·rw [show x=_ from Jj (n:=9) hx]
   exact IW
  ·obtain ⟨j,_,rfl⟩:=qaK.mp hx
   exact FR trivial rfl
 refine Eq.mpr (Ag) ?_
 try simp [-Ag]
 refine Au (U4 eL) ?_
 try simp [-Ag]
 refine DB (hx.sm s) hb (ht.sm s) (by omega) (by omega) fun d h11 ld x11 t11 s11=>?_
 have n10:l10≠b:=by have:=(((hx.sm s7).sm s8).sm s9).lt;omega
 have hd:d<L.length:=by omega
 refine Au (Dp (s11 _ _ n10 eL) (Bb hd)) ?_
 exact q _ _ ((nL _ (EW hd)).smx s11 x11) x11 t11 ((BU s).trans s11)
theorem XZ {b H W:Nat} {f:Nat→Nat→Bool} {h:HD} {Q:D→HD→Prop} (hx:BoxAt h b) (hb:0<b) (ht:TabAt h) (hh:1≤H∧H≤8) (hw:1≤W∧W≤8) (q:∀d h',NoB h' d→BoxAt h' b→TabAt h'→Smx b h h'→Q d h'):Wp (IH [.loc b,bD H W f] h) Q:=by
 change Wp (Ax 8 (O9) [.loc b,bD H W f] h) _
 refine Eq.mpr (AO) ?_
 simp [-Ag,Lg,PP hh.1,XJ]
 refine DB hx hb ht (by omega) (by omega) fun A h1 lA x1 t1 s1=>?_
 refine DB x1 hb t1 (by omega) (by omega) fun B h2 lB x2 t2 s2=>?_
 have hA:A<H:=by omega
 have hB:B<W:=by omega
 try simp [-Ag]
 refine Eq.mpr (Ag) ?_
 try simp [-Ag,PN]
 refine AM (by simp) fun l3 h3 s3 e3 el3 _=>?_
 try simp [-Ag]
 refine AM (by simp) fun l4 h4 s4 e4 el4 _=>?_
 have x4:BoxAt h4 b:=(x2.sm s3).sm s4
 have t4:TabAt h4:=(t2.sm s3).sm s4
 have n3:l3≠b:=by have:=x2.lt;omega
 have n4:l4≠b:=by have:=(x2.sm s3).lt;omega
 try simp [-Ag]
 refine DB x4 hb t4 (by decide) (by decide) fun o h5 l2 x5 t5 s5=>?_
 have e4':=s5 _ _ n4 e4
 have e3':=s5 _ _ n3 (s4 _ _ e3)
 obtain ⟨y,ey,py,ly⟩:=Li (fun y=>Plain h5 y∧Dg y=false) (o:=o) e4' (by simp;omega) <| all_cons ⟨trivial,rfl⟩ <| all_cons ⟨trivial,rfl⟩ <| all_cons ⟨trivial,rfl⟩ <| all_cons ⟨trivial,rfl⟩ <| all_cons ⟨trivial,rfl⟩ <| all_cons ⟨trivial,rfl⟩ <| all_cons ⟨trivial,rfl⟩ <| all_cons ⟨trivial,by decide⟩ <| all_cons ⟨⟨_,e3'⟩,rfl⟩ <| all_cons ⟨trivial,rfl⟩ all_nil
 refine Au (ey) ?_
 rw [Ck]
 refine Eq.mpr (Ag) ?_
 try simp [-Ag]
 refine Au (XM hA) ?_
 rw [Ck]
 refine Eq.mpr (Ag) ?_
 have S:Smx b h h5:=(((s1.trans s2).trans (BU s3)).trans (BU s4)).trans s5
 clear ey
 generalize hr:f A=r
 obtain ⟨R,eR,lR,pR⟩:∃R:List D,AB W r=.tup R∧R.length=W∧∀x∈R,∀h,Plain h x:=⟨_,rfl,by simp,fun x hx h=>XW hx⟩
 rw [eR]
 try simp [-Ag]
 refine Au (Ky (by omega)) ?_
 try simp [-Ag]
 refine Au (DD (by simp;omega)) ?_
 try simp [-Ag]
 refine Au (NU (k:=B) (by omega) (by omega)) ?_
 try simp [-Ag]
 refine Au (DD (by simp;omega)) ?_
 rw [Ck]
 refine Eq.mpr (Ag) ?_
 try simp [-Ag]
 rw [show (8:Int)=((8:Nat):Int) from rfl]
 refine Au (NT (by simp) (by simp)) ?_
 try simp [-Ag]
 refine Au (DD (by simp;omega)) ?_
 rw [Ck]
 refine Au (PU) ?_
 refine AM (by unfold sizeLine;omega) fun l6 h6 s6 e6 _ _=>?_
 refine AM (by simp) fun l7 h7 s7 e7 _ _=>?_
 refine Eq.mpr (Ag) ?_
 have hS7:Smx b h h7:=(S.trans (BU s6)).trans (BU s7)
 have x7:=(x5.sm s6).sm s7
 have t7:=(t5.sm s6).sm s7
 have py7:Plain h7 y:=(py.sm s6).sm s7
 have base:∀d∈[D.tup (List.take B R++y::List.drop (B+1) R),D.tup (List.take B R++y::List.drop (B+1) R),D.tup (List.take B R++y::List.drop (B+1) R),D.tup (R++[D.int 0,D.int 0,D.int 0,D.int 0,D.int 0,D.int 0,D.int 0,D.int 0]),D.tup [],D.loc l6,D.non,D.int 1],NoRowD h7 H W d:=by
  have pt:∀ds:List D,(∀x∈ds,Plain h7 x)→Bm (.tup ds)=false→NoRowD h7 H W (.tup ds):=fun ds hd hr=>⟨⟨trivial,hd⟩,.inl hr⟩
  have bent:NoRowD h7 H W (.tup (List.take B R++y::List.drop (B+1) R)):=by
   refine pt _ (fun x hx=>?_) (XT (x:=y) (by simp) ly)
   rcases qaW.mp hx with z |z
   ·exact pR x (Jn z) _
   ·rcases qaB.mp z with z |z
    ·exact z ▸ py7
    ·exact pR x (Jo z) _
  refine all_cons bent <| all_cons bent <| all_cons bent <| all_cons (pt _ (FQ (fun x z=>pR x z _) fun x hx=>?_) (XU (PR (by simp;omega)))) <| all_cons (pt _ all_nil rfl) <| all_cons ⟨FR ⟨_,s7 _ _ e6⟩ rfl,.inl rfl⟩ <| all_cons ⟨FR trivial rfl,.inl rfl⟩ <| all_cons ⟨FR trivial rfl,.inl rfl⟩ all_nil
  rw [show x=_ from Jj (n:=8) hx]
  exact trivial
 refine Eq.mpr (BJ) ?_
 by_cases h1:1<H
 ·have h1':(1:Int)<(H:Int):=by omega
  simp [-Ag,Lg,h1',h1]
  refine Au (Wc (by omega)) ?_
  try simp [-Ag]
  refine Au (DD (by simp;omega)) ?_
  try simp [-Ag]
  refine AM (by simp) fun l8 h8 s8 e8 _ _=>?_
  try simp [-Ag]
  refine Au (Gw (s8 _ _ e7) e8) ?_
  refine AM (by simp) fun l9 h9 s9 e9 _ _=>?_
  refine Eq.mpr (Ag) ?_
  have s79:=s8.trans s9
  refine PV (x7.sm s79) hb (t7.sm s79) hh hw hA ⟨_,e9,by simp,fun d hd=>?_⟩ fun d h' n x t s'=>q d h' n x t ((hS7.trans (BU s79)).trans s')
  rcases qaW.mp hd with z |z
  ·exact (base d z).sm s79
  ·simp only [qaB,List.not_mem_nil,or_false] at z
   rcases z with rfl |rfl
   ·refine ⟨⟨trivial,fun x hx=>pR x (Jn hx) _⟩,.inr ⟨h1,?_⟩⟩
    simp [Co,AC]
    omega
   ·refine ⟨⟨trivial,fun x hx=>?_⟩,.inr ⟨h1,?_⟩⟩
    ·rcases qaW.mp hx with z |z
     ·exact pR x z _
     ·simp only [qaB,List.not_mem_nil,or_false] at z
      subst z
      exact trivial
    ·simp [Co,AC]
     omega
 ·have h1':¬(1:Int)<(H:Int):=by omega
  simp [-Ag,Lg,h1',h1]
  refine Eq.mpr (Ag) ?_
  exact PV x7 hb t7 hh hw hA ⟨_,e7,by simp,base⟩ fun d h' n x t s'=>q d h' n x t (hS7.trans s')
theorem Lk {i:Int} {h:HD}:DA [.int i] h=.ok (.bl true) h:=rfl
def BK (n:Nat):Int→List D→Bool
 |_,[]=>true
 |last,.int i::ds=>decide (last<i∧i<(n:Int))&&BK n i ds
 |_,_::_=>false
def Bu (n:Nat) (d:D):Bool:=match d with
 |.tup ds=>BK n (-1) ds
 |_=>false
theorem Ll {n:Nat} {last:Int} {x:D} {xs:List D} (h:EL x=false):BK n last (x::xs)=false:=by
 cases x<;>first |rfl |(cases h)
inductive PX (ds:List D) (n:Nat) (h:HD) (xs:List D) (ρ:Af) (h':HD):Prop where
 |mk (last:Int) (x:Option D) (f0:ρ=[some (.tup ds),some (.int (n:Nat)),some (.int last),x]) (f1:h'=h) (f2:BK n last xs=BK n (-1) ds) (f3:∀y∈xs,Plain h y):PX ds n h xs ρ h'
theorem IY {d:D} {n:Nat} {h:HD} (p:Plain2 h d):Pu (EJ [d,.int (n:Nat)] h) h (.bl (Bu n d)):=by
 change Wp (Ax 4 (O3) [d,.int (n:Nat)] h) _
 refine Eq.mpr AO ?_
 cases hT:GJ d with
 |true=>
  obtain ⟨ds,rfl⟩:=Ld hT
  simp
  refine Ft (src:=[]) (xs:=ds) (fun x=>x) (PX ds n h) ?_ (fun ys ρ h' _=>DS) ?_ ?_
  ·simp
   exact ⟨-1,_,rfl,rfl,rfl,p.2⟩
  ·rintro x xs ρ h' ⟨last,y,rfl,rfl,e,pl⟩
   refine ⟨_,rfl,?_⟩
   have px:=pl x AE
   cases hx:EL x with
   |false=>
    simp [Pz px,hx,B5,Sm.refl]
    rw [Ll hx] at e
    simp [Bu,←e]
   |true=>
    obtain ⟨i,rfl⟩:=PB hx
    by_cases h1:last<i
    ·by_cases h2:i<(n:Int)
     ·simp [Lk,h1,h2,Al,B5]
      exact ⟨i,_,rfl,rfl,by rw [←e];simp [BK,h1,h2],fun y hy=>pl y (AI _ hy)⟩
     ·simp [Lk,h1,h2,Al,B5,Sm.refl]
      simp [Bu,←e,BK,h1,h2]
    ·simp [Lk,h1,Al,B5,Sm.refl]
     simp [Bu,←e,BK,h1]
  ·rintro ρ h' ⟨last,y,rfl,rfl,e,_⟩
   simp [Sm.refl,Bu,←e,BK]
 |false=>
  have e:Bu n d=false:=by cases d<;>first |rfl |cases hT
  simp [Lc p.1,hT,e,Sm.refl]
def CA (H W:Nat) (d:D):Bool:=match d with
 |.tup [a,b]=>Bu H a&&Bu W b
 |_=>false
section
variable {H W:Nat} {h:HD} {f:Nat→Nat→Bool}
theorem PY {d:D} (hh:1≤H∧H≤8) (hw:1≤W∧W≤8) (p:Plain3 h d):Pu (FO [bD H W f,d] h) h (.bl (CA H W d)):=by
 change Wp (Ax 2 (La) [bD H W f,d] h) _
 refine Eq.mpr AO ?_
 simp
 refine (PM hh hw).wp fun h1 s1=>?_
 have p1:=p.sm s1
 cases hT:GJ d with
 |true=>
  obtain ⟨ds,rfl⟩:=Ld hT
  by_cases h2:ds.length=2
  ·obtain ⟨a,b,rfl⟩:∃a b,ds=[a,b]:=by
    match ds,h2 with
    |[a,b],_=>exact ⟨a,b,rfl⟩
   simp [bD]
   refine (IY (p1.2 a (by simp [AC]))).wp fun h2 s2=>?_
   cases ha:Bu H a with
   |false=>simp [CA,ha,s1.trans s2]
   |true=>
    simp
    refine Au (MZ (by omega)) ?_
    simp [AB]
    refine (IY ((p1.2 b (by simp [AC])).sm s2)).wp fun h3 s3=>?_
    simp [CA,ha,(s1.trans s2).trans s3]
  ·have e2:CA H W (.tup ds)=false:=by
    match ds,h2 with
    |[],_=>rfl
    |[_],_=>rfl
    |_::_::_::_,_=>rfl
   have e3:¬((ds.length:Int)=2):=by omega
   simp [e2,e3,s1]
 |false=>
  have e:CA H W d=false:=by cases d<;>first |rfl |cases hT
  simp [Lc p1.1,hT,e,s1]
theorem X0 {d:D} (hh:1≤H∧H≤8) (hw:1≤W∧W≤8) (p:Plain3 h d) (hs:CA H W d=false):Er (FP [bD H W f,d] h) h "NoSwitching":=by
 change We (Ax 2 (IU) [bD H W f,d] h) _ _
 refine Eq.mpr EB ?_
 simp
 refine (PY hh hw p).we fun h1 s1=>?_
 simp [hs,s1,CJ]
end
def A6 (n:Nat) (p:Nat→Bool):D:=.tup (((List.range n).filter p).map fun i=>.int ((i:Nat):Int))
def BH (h w:Nat) (p q:Nat→Bool):D:=.tup [A6 h p,A6 w q]
section
variable {H W n:Nat} {h:HD} {f:Nat→Nat→Bool} {r p q p' q':Nat→Bool}
theorem Lm:∀{ks:List Nat} {last:Int},ks.Pairwise (·< ·)→(∀k∈ks,last<(k:Int)∧k<n)→BK n last (ks.map fun i=>.int ((i:Nat):Int))=true
 |[],_,_,_=>rfl
 |k::ks,last,hp,hb=>by
  rw [List.pairwise_cons] at hp
  have h0:=hb k AE
  rw [Bg,BK,Lm hp.2 fun j hj=>⟨Int.ofNat_lt.mpr (hp.1 j hj),(hb j (AI _ hj)).2⟩,decide_eq_true ⟨h0.1,Int.ofNat_lt.mpr h0.2⟩]
  rfl
theorem PZ:Bu n (A6 n p)=true:=Lm (List.Pairwise.filter _ List.pairwise_lt_range) fun k hk=>⟨by omega,qaU.mp (qaT.mp hk).1⟩
theorem EN:Plain2 h (A6 n p):=⟨trivial,fun x hx=>by
 obtain ⟨k,_,rfl⟩:=qaK.mp hx
 exact trivial⟩
theorem IZ {x y:D} (px:Plain2 h x) (py:Plain2 h y):Plain3 h (.tup [x,y]):=⟨trivial,all_cons px (all_cons py all_nil)⟩
theorem X1 (hh:1≤H∧H≤8) (hw:1≤W∧W≤8):Pu (FO [bD H W f,BH H W p q] h) h (.bl true):=by
 have e:CA H W (BH H W p q)=true:=by
  show (Bu H (A6 H p)&&Bu W (A6 W q))=true
  rw [PZ,PZ]
  rfl
 exact e ▸ PY hh hw (IZ EN EN)
theorem X2 (hh:1≤H∧H≤8) (hw:1≤W∧W≤8):Pu (FP [bD H W f,BH H W p q] h) h .non:=by
 change Wp (Ax 2 (IU) [bD H W f,BH H W p q] h) _
 refine Eq.mpr (AO) ?_
 simp
 refine (X1 hh hw).wp fun h1 s1=>?_
 simp [s1]
end
theorem Smx.over {a b:Nat} {h h1 h2:HD} (s:Smx b h h1) (s2:Smx a h1 h2) (hl:h.length≤a):Smx b h h2:=fun l c n e=>s2 l c (by have:=(qa4.mp e).1;omega) (s l c n e)
theorem Smx.put {a b:Nat} {c:Ce} {h h1:HD} (s:Smx b h h1) (hl:h.length≤a):Smx b h (h1.set a c):=fun l x n e=>by
 rw [Bw (by have:=(qa4.mp e).1;omega)]
 exact s l x n e
theorem Smx.new {b:Nat} {c:Ce} {h h1:HD} (s:Smx b h h1):Smx b h (h1++[c]):=s.trans (BU (.app _ _))
theorem Smx.len {b:Nat} {h h':HD} (s:Smx b h h') (hb:b<h'.length):h.length≤h'.length:=by
 cases e:h.length with
 |zero=>exact B9 _
 |succ n=>
  have hn:n<h.length:=by omega
  by_cases hz:n=b
  ·omega
  ·have:=s n h[n] hz (Bb hn)
   have:=(qa4.mp this).1
   omega
inductive P0 (b:Nat) (h1:HD) (xs:List Nat) (ρ:Af) (h':HD):Prop where
 |mk (N M:Int) (x:Option D) (f0:ρ=[some (.loc b),some (.int N),some (.int M),x]) (f1:h'=h1):P0 b h1 xs ρ h'
theorem X3 {b:Nat} {h:HD} {Q:D→HD→Prop} (hx:BoxAt h b) (q:∀l h',BoxAt h' b→BoxAt h' l→l≠b→h.length≤l→Smx b h h'→Q (.loc l) h'):Wp (IG [.loc b] h) Q:=by
 change Wp (Ax 4 (O7) [.loc b] h) _
 refine Eq.mpr (AO) ?_
 simp
 refine GI hx (by decide) (by decide) fun d h1 d0 d1 x1 s1=>?_
 refine Ft (src:=[]) (xs:=List.range 24) (fun i=>.int ((i:Nat):Int)) (P0 b h1) ?_ (fun ys ρ h' _=>DS) ?_ ?_
 ·simp [Pw]
  exact ⟨_,_,_,rfl,rfl⟩
 ·rintro x xs ρ h' ⟨N,M,y,rfl,rfl⟩
  refine ⟨_,rfl,?_⟩
  simp
  rw [HN (by decide) (by decide)]
  simp
  rw [HP (by decide)]
  simp
  rw [HN (by decide) (by decide)]
  simp [B5]
  exact ⟨_,_,_,rfl,rfl⟩
 ·rintro ρ h' ⟨N,M,y,rfl,rfl⟩
  simp
  refine AM (by simp) fun l h2 s e el _=>?_
  exact q l h2 (x1.sm s) ⟨_,e⟩ (by have:=x1.lt;omega) (by have:=s1.len x1.lt;omega) (s1.trans (BU s))
theorem P3 {b n:Nat} {h:HD} {Q:D→HD→Prop} (hx:BoxAt h b) (hn:n≤8) (q:∀p h',BoxAt h' b→Smx b h h'→Q (A6 n p) h'):Wp (FL [.loc b,.int (n:Nat)] h) Q:=by
 change Wp (Ax 2 (Pb) [.loc b,.int (n:Nat)] h) _
 refine Eq.mpr (AO) ?_
 simp
 refine M6 (src:=[]) (xs:=List.range n) (fun i=>.int ((i:Nat):Int)) (fun h'=>BoxAt h' b∧Smx b h h') (fun _ _=>True) (fun i d=>d=.int ((i:Nat):Int)) (fun i=>[some (.int ((i:Nat):Int)),some (.loc b)]) ?_ (fun _ _=>DS) (fun h c x=>⟨x.1.new,x.2.new⟩) List.nodup_range (sz hn) (fun x _=>rfl) ?_ ?_
 ·simp [Gp (show n≤1000 by omega),hx,Smx.refl]
 ·intro x hx h i
  simp
  refine GI i.1 (by decide) (by decide) fun d h1 d0 d1 x1 s1=>?_
  simp [x1,i.2.trans s1]
 ·intro h' g e x1 hr _
  have:((List.range n).filter g).map e=((List.range n).filter g).map fun i=>D.int ((i:Nat):Int):=D3 fun x hx=>hr x (qaT.mp hx).1 (qaT.mp hx).2
  rw [this]
  exact q g h' x1.1 x1.2
theorem X4 {W:Nat} {rows:List (Nat→Bool)} {H:Nat} (e:rows.length=H):D.tup (rows.map (AB W))=bD H W fun i=>rows.getD i fun _=>false:=by
 unfold bD
 congr 1
 apply List.ext_getElem
 ·simp [e]
 ·intro i h1 h2
  simp at h1 h2
  simp [ES,Bb h1]
inductive P4 (b H W:Nat) (way dense:Int) (l2 l3:Nat) (h:HD) (xs:List Nat) (ρ:Af) (h':HD):Prop where
 |mk (x:Option D) (rows:List (Nat→Bool)) (f0:ρ=[some (.loc b),some (.int (H:Nat)),some (.int (W:Nat)),some (.int way),some (.loc l2),some (.int dense),some (.loc l3),x]) (f1:BoxAt h' b) (f2:BoxAt h' l2) (f3:h'[l3]?=some (.lst (rows.map (AB W)))) (f4:rows.length+xs.length=H) (f5:Smx b h h'):P4 b H W way dense l2 l3 h xs ρ h'
inductive P5 (b W l2 l3:Nat) (rows:List (Nat→Bool)) (h h':HD):Prop where
 |mk (f1:BoxAt h' b) (f2:BoxAt h' l2) (f3:h'[l3]?=some (.lst (rows.map (AB W)))) (f4:Smx b h h'):P5 b W l2 l3 rows h h'
theorem X5 {b H W:Nat} {h:HD} {Q:D→HD→Prop} (hx:BoxAt h b) (hh:1≤H∧H≤8) (hw:1≤W∧W≤8) (q:∀f h',BoxAt h' b→Smx b h h'→Q (bD H W f) h'):Wp (IP [.loc b,.int (H:Nat),.int (W:Nat)] h) Q:=by
 change Wp (Ax 8 (Pi) [.loc b,.int (H:Nat),.int (W:Nat)] h) _
 refine Eq.mpr (AO) ?_
 simp [-Ag]
 refine GI hx (by decide) (by decide) fun way h1 d0 d1 x1 z1=>?_
 simp [-Ag,Ag (g:=Ah (Am 4 _) _)]
 refine X3 x1 fun l2 h2 x2 y2 n2 k2 z2=>?_
 have kl2:h.length≤l2:=by have:=z1.len x1.lt;omega
 refine Eq.mpr (Ag) ?_
 simp [-Ag]
 refine AM (by simp) fun l h3 s3 e3 el3 _=>?_
 obtain ⟨dense,ed⟩:∃dense:Int,Az (.loc l) (.int way) h3=.ok (.int dense) h3:=by
  obtain ⟨w,rfl⟩:∃w:Nat,way=(w:Int):=⟨way.toNat,by omega⟩
  obtain ⟨y,ey,z,rfl⟩:=Li (fun y=>∃i,y=.int i) (o:=w) e3 (by simp;omega) <| all_cons ⟨_,rfl⟩ <| all_cons ⟨_,rfl⟩ <| all_cons ⟨_,rfl⟩ <| all_cons ⟨_,rfl⟩ <| all_cons ⟨_,rfl⟩ all_nil
  exact ⟨z,ey⟩
 refine Au (ed) ?_
 rw [Ck]
 refine Eq.mpr (Ag) ?_
 simp [-Ag]
 refine AM (by simp) fun l3 h4 s4 e4 el4 _=>?_
 have x4:BoxAt h4 b:=(x2.sm s3).sm s4
 have y4:BoxAt h4 l2:=(y2.sm s3).sm s4
 have z4:Smx b h h4:=((z1.trans z2).trans (BU s3)).trans (BU s4)
 have kl3:h.length≤l3:=by have:=(z1.trans z2).len x2.lt;have:=s3.len;omega
 have n3:l3≠b:=by
  obtain ⟨n,e⟩:=x2.sm s3
  have:=(qa4.mp e).1
  omega
 have n4:l3≠l2:=by
  obtain ⟨n,e⟩:=y2.sm s3
  have:=(qa4.mp e).1
  omega
 refine Eq.mpr (Ag) ?_
 simp [-Ag]
 refine Ft (src:=[]) (xs:=List.range H) (fun i=>.int ((i:Nat):Int)) (P4 b H W way dense l2 l3 h) ?_ (fun ys ρ h' _=>DS) ?_ ?_
 ·simp [Gp (show H≤1000 by omega)]
  exact ⟨_,[],rfl,x4,y4,e4,by simp,z4⟩
 ·rintro x xs ρ h' ⟨y,rows,rfl,x5,y5,e5,hl,z5⟩
  refine ⟨_,rfl,?_⟩
  simp [Kc e5]
  refine M6 (src:=[]) (xs:=List.range W) (fun i=>.int ((i:Nat):Int)) (P5 b W l2 l3 rows h) (fun _ b=>b=true) (fun i d=>∃r:Bool,d=lit r) (fun i=>[some (.int ((i:Nat):Int)),some (.loc l2),some (.int dense)]) ?_ (fun _ _=>DS) (fun h c x=>by obtain ⟨a1,a2,a3,a4⟩:=x;exact ⟨a1.new,a2.new,Sm.app _ _ _ _ a3,a4.new⟩) List.nodup_range (sz hw.2) (fun x _=>rfl) ?_ ?_
  ·simp [Gp (show W≤1000 by omega)]
   exact ⟨x5,y5,e5,z5⟩
  ·intro x hx h i
   simp
   obtain ⟨a1,a2,a3,a4⟩:=i
   refine GI a2 (by decide) (by decide) fun d h1 d0 d1 x1 s1=>?_
   simp only [Ck,MU,Fs,Uy,DU,Us,Ux,Uz]
   exact ⟨⟨a1.smx s1 (Ne.symm n2),x1,s1 _ _ n4 a3,a4.over s1 kl2⟩,by cases decide (d<dense)<;>simp [lit]⟩
  ·intro h6 g e x6 hr tr
   obtain ⟨x61,x62,x63,x64⟩:=x6
   have hr':∃r:Nat→Bool,∀x∈List.range W,e x=lit (r x):=by
    refine ⟨fun x=>if h:x∈List.range W then (hr x h (tr x h)).choose else false,fun x hx=>?_⟩
    simp only [dif_pos hx]
    exact (hr x hx (tr x hx)).choose_spec
   obtain ⟨r,er⟩:=hr'
   have ef:(List.range W).filter g=List.range W:=List.filter_eq_self.mpr tr
   have em:D.tup (((List.range W).filter g).map e)=AB W r:=by
    rw [ef];unfold AB;congr 1;exact D3 er
   rw [em]
   simp [UA x63 (show (rows.map (AB W)).length<sizeLine by simp;unfold sizeLine;omega),B5]
   have hl3:l3<h6.length:=(qa4.mp x63).1
   refine ⟨_,rows++[r],rfl,?_,?_,?_,?_,x64.put kl3⟩
   ·obtain ⟨n,e⟩:=x61
    exact ⟨n,by rw [Bw n3];exact e⟩
   ·obtain ⟨n,e⟩:=x62
    exact ⟨n,by rw [Bw n4];exact e⟩
   ·rw [BV hl3]
    simp
   ·simp at hl ⊢
    omega
 ·rintro ρ h' ⟨y,rows,rfl,x5,y5,e5,hl,z5⟩
  simp at hl
  simp
  by_cases h3:way=3
  ·simp [h3]
   obtain ⟨r0,rest,rfl⟩:∃r0 rest,rows=r0::rest:=by
    cases rows with
    |nil=>simp at hl;omega
    |cons a r=>exact ⟨a,r,rfl⟩
   rw [show (0:Int)=((0:Nat):Int) from rfl]
   refine Au (Dp e5 (k:=0) (a:=AB W r0) rfl) ?_
   simp
   refine AM (by simp) fun l5 h5 s5 e6 _ _=>?_
   refine Au (VZ) ?_
   refine Au (U5 e6 (by omega)) ?_
   refine AM (by simp;unfold sizeLine;omega) fun l6 h6 s6 e7 _ _=>?_
   simp [MX e7]
   have:D.tup (List.replicate H (AB W r0))=bD H W fun _=>r0:=by
    unfold bD
    congr 1
    apply List.ext_getElem
    ·simp
    ·intro i h1 h2;simp
   rw [this]
   exact q _ _ ((x5.sm s5).sm s6) ((z5.trans (BU s5)).trans (BU s6))
  ·simp [h3,MX e5]
   rw [X4 hl]
   exact q _ _ x5 z5
def FS (n:Nat):D→Bool
 |.int i=>!(decide (0≤i∧i<(n:Int)))
 |_=>true
theorem P6 {n:Nat}:∀{ds:List D} {last:Int},-1≤last→(∃x∈ds,FS n x=true)→BK n last ds=false
 |[],_,_,h=>by obtain ⟨x,hx,_⟩:=h;cases hx
 |d::ds,last,hl,h=>by
  cases hw:EL d with
  |false=>exact Ll hw
  |true=>
   obtain ⟨i,rfl⟩:∃i,d=.int i:=by cases d<;>first |exact ⟨_,rfl⟩ |cases hw
   unfold BK
   by_cases hi:last<i∧i<(n:Int)
   ·rw [decide_eq_true hi,Bool.true_and]
    refine P6 (by omega) ?_
    obtain ⟨x,hx,hb⟩:=h
    rcases qaB.mp hx with e |hx
    ·subst e
     simp [FS] at hb
     omega
    ·exact ⟨x,hx,hb⟩
   ·rw [decide_eq_false hi,GW]
theorem P7 {n:Nat} {i j:Int} (hij:¬i<j):∀{ds:List D} {last:Int},BK n last (ds++[.int i,.int j])=false
 |[],last=>by simp [BK,hij]
 |d::ds,last=>by
  cases hw:EL d with
  |false=>exact Ll hw
  |true=>
   obtain ⟨k,rfl⟩:∃i,d=.int i:=by cases d<;>first |exact ⟨_,rfl⟩ |cases hw
   rw [Cr]
   unfold BK
   rw [P7 hij,Bool.and_false]
theorem X6 {n:Nat} {ds:List D} {x:D} (hx:x∈ds) (hb:FS n x=true):Bu n (.tup ds)=false:=P6 (Int.le_refl _) ⟨x,hx,hb⟩
theorem P8 {n:Nat} {ds:List D} {i j:Int} (hij:¬i<j):Bu n (.tup (ds++[.int i,.int j]))=false:=P7 hij
def NoL (h:HD) (n:Nat) (d:D):Prop:=Plain2 h d∧Bu n d=false
theorem NoL.sm {h h':HD} {n:Nat} {d:D} (x:NoL h n d) (s:Sm h h'):NoL h' n d:=⟨x.1.sm s,x.2⟩
theorem NoL.smx {b:Nat} {h h':HD} {n:Nat} {d:D} (x:NoL h n d) (s:Smx b h h') (xb:BoxAt h' b):NoL h' n d:=⟨x.1.smx s xb,x.2⟩
theorem X7 {n:Nat} (hn:1≤n):((List.range n).map fun k=>D.int ((k:Nat):Int))++[D.int ((n:Int) - 1)]=((List.range (n - 1)).map fun k=>D.int ((k:Nat):Int))++[.int ((n:Int) - 1),.int ((n:Int) - 1)]:=by
 obtain ⟨m,rfl⟩:∃m,n=m+1:=⟨n - 1,by omega⟩
 simp [List.range_succ]
theorem X8 {d x:D} {h:HD} (n:NoB h d):Er (FO [d,x] h) h "NoBoard":=by
 change We (Ax 2 (La) [d,x] h) _ _
 refine Eq.mpr EB ?_
 simp
 exact (PH n.1 n.2).we fun h1 s1=>⟨rfl,rfl,s1⟩
theorem X9 {d x:D} {h:HD} (n:NoB h d):Er (FP [d,x] h) h "NoBoard":=by
 change We (Ax 2 (IU) [d,x] h) _ _
 refine Eq.mpr EB ?_
 simp
 exact (X8 n).we fun h1 s1=>⟨rfl,rfl,s1⟩
theorem P9 {h:HD} {n:Nat} {x:D} (hx:x∈(List.range n).map fun k=>D.int ((k:Nat):Int)):Plain h x:=by
 obtain ⟨k,_,rfl⟩:=qaK.mp hx
 exact trivial
theorem Yb {n:Nat} {a b:Out D} {Q:D→HD→Prop} {h:HD} (hn:1≤n) (ha:a=.ok (.tup [.int ((n:Int) - 1),.int 0]) h) (hb:b=.ok (.tup [.int 0,.int 0]) h) (q:∀i j:Int,¬i<j→Q (.tup [.int i,.int j]) h):Wp (if 1<(n:Int) then a else b) Q:=by
 split
 ·rw [ha];exact q _ _ (by omega)
 ·rw [hb];exact q _ _ (by omega)
theorem Qa {b n:Nat} {h:HD} {Q:D→HD→Prop} (hx:BoxAt h b) (hb:0<b) (ht:TabAt h) (hn:1≤n∧n≤8) (q:∀d h',NoL h' n d→BoxAt h' b→TabAt h'→Smx b h h'→Q d h'):Wp (FM [.loc b,.int (n:Nat)] h) Q:=by
 change Wp (Ax 5 (Pd) [.loc b,.int (n:Nat)] h) _
 refine Eq.mpr AO ?_
 simp [-Ag]
 refine DB hx hb ht (by omega) (by omega) fun A h1 lA x1 t1 s1=>?_
 refine Eq.mpr Ag ?_
 try simp [-Ag,PN]
 refine AM (by simp) fun l3 h3 s3 e3 el3 _=>?_
 try simp [-Ag]
 refine AM (by simp) fun l4 h4 s4 e4 el4 _=>?_
 have x4:BoxAt h4 b:=(x1.sm s3).sm s4
 have t4:TabAt h4:=(t1.sm s3).sm s4
 have n3:l3≠b:=by have:=x1.lt;omega
 have n4:l4≠b:=by have:=(x1.sm s3).lt;omega
 try simp [-Ag]
 refine DB x4 hb t4 (by decide) (by decide) fun o h5 l2 x5 t5 s5=>?_
 have e4':=s5 _ _ n4 e4
 have e3':=s5 _ _ n3 (s4 _ _ e3)
 obtain ⟨y,ey,py,ly⟩:=Li (fun y=>Plain h5 y∧FS n y=true) (o:=o) e4' (by simp;omega) <| all_cons ⟨trivial,by simp [FS]⟩ <| all_cons ⟨trivial,rfl⟩ <| all_cons ⟨trivial,rfl⟩ <| all_cons ⟨trivial,rfl⟩ <| all_cons ⟨trivial,rfl⟩ <| all_cons ⟨trivial,rfl⟩ <| all_cons ⟨trivial,by simp [FS];omega⟩ <| all_cons ⟨trivial,rfl⟩ <| all_cons ⟨⟨_,e3'⟩,rfl⟩ <| all_cons ⟨trivial,rfl⟩ all_nil
 refine Au ey ?_
 refine Eq.mpr (Ck _ _) ?_
 refine Eq.mpr Ag ?_
 have S:Smx b h h5:=((s1.trans (BU s3)).trans (BU s4)).trans s5
 clear ey
 try simp [-Ag]
 refine AM (by simp) fun l6 h6 s6 e6 _ _=>?_
 refine Yb (h:=h6) hn.1 (by simp [An,Aa,Ae,Ab,mC,Ac,Fc]) (by simp [An,Aa,Ab,mC,Ac]) fun i j hij=>?_
 refine AM (by simp) fun l7 h7 s7 e7 _ _=>?_
 refine Eq.mpr Ag ?_
 try simp [-Ag,NZ]
 refine Au (Ig (by omega)) ?_
 try simp [-Ag]
 refine Au (DD (by simp;omega)) ?_
 try simp [-Ag]
 refine Au (Ig (by omega)) ?_
 try simp [-Ag]
 refine Au (DD (by simp;omega)) ?_
 try simp [-Ag]
 refine AM (by simp) fun l8 h8 s8 e8 _ _=>?_
 try simp [-Ag]
 refine Au (Gw (s8 _ _ e7) e8) ?_
 refine AM (by simp;unfold sizeLine;omega) fun l9 h9 s9 e9 el9 _=>?_
 refine Eq.mpr Ag ?_
 try simp [-Ag]
 have s59:=((s6.trans s7).trans s8).trans s9
 have x9:BoxAt h9 b:=x5.sm s59
 have t9:TabAt h9:=t5.sm s59
 have n9:l9≠b:=by have:=(((x5.sm s6).sm s7).sm s8).lt;omega
 obtain ⟨L,eL,lL,nL⟩:∃L:List D,h9[l9]?=some (.lst L)∧L.length=12∧∀d∈L,NoL h9 n d:=by
  have py9:Plain h9 y:=py.sm s59
  have bad:∀{ds:List D},(∀x∈ds,Plain h9 x)→y∈ds→NoL h9 n (.tup ds):=fun hd hy=>⟨⟨trivial,hd⟩,X6 hy ly⟩
  have flat:∀{x:D},Plain h9 x→AC x=[]→Bu n x=false→NoL h9 n x:=fun p e l=>⟨FR p e,l⟩
  have pint:∀i:Int,Plain h9 (.int i):=fun i=>trivial
  have m0:∀{l:List D},y∈y::l:=AE
  have two:∀{i j:Int},¬i<j→NoL h9 n (.tup [.int i,.int j]):=fun z=>⟨⟨trivial,all_cons (pint _) (all_cons (pint _) all_nil)⟩,P8 (ds:=[]) z⟩
  refine ⟨_,e9,by simp,FQ (all_cons (bad (all_cons py9 all_nil) m0) <| all_cons (two (Int.lt_irrefl _)) <| all_cons (bad (all_cons (pint _) (all_cons py9 all_nil)) (AI _ m0)) <|
   all_cons (flat ⟨_,(((s7.trans s8).trans s9) _ _ e6)⟩ rfl rfl) <| all_cons (flat trivial rfl rfl) <| all_cons (flat trivial rfl rfl) <| all_cons (flat trivial rfl rfl) <| all_cons (two hij) <| all_cons (flat trivial rfl rfl) <|
   all_cons (bad (all_cons py9 (all_cons (pint _) all_nil)) m0) all_nil) <| all_cons (bad (FQ (fun x z=>P9 z) (all_cons py9 all_nil)) (B8 _ m0)) <| all_cons ?_ all_nil⟩
  rw [X7 hn.1]
  exact ⟨⟨trivial,FQ (fun x z=>P9 z) (all_cons (pint _) (all_cons (pint _) all_nil))⟩,P8 (Int.lt_irrefl _)⟩
 refine DB x9 hb t9 (by decide) (by decide) fun c h10 lc x10 t10 s10=>?_
 have hd:c<L.length:=by omega
 refine Au (Dp (s10 _ _ n9 eL) (Bb hd)) ?_
 exact q _ _ ((nL _ (EW hd)).smx s10 x10) x10 t10 ((S.trans (BU s59)).trans s10)
def NoS (h:HD) (H W:Nat) (d:D):Prop:=Plain3 h d∧CA H W d=false
theorem NoS.sm {h h':HD} {H W:Nat} {d:D} (x:NoS h H W d) (s:Sm h h'):NoS h' H W d:=⟨x.1.sm s,x.2⟩
theorem NoS.smx {b:Nat} {h h':HD} {H W:Nat} {d:D} (x:NoS h H W d) (s:Smx b h h') (xb:BoxAt h' b):NoS h' H W d:=⟨x.1.smx s xb,x.2⟩
theorem Qb {H W:Nat} {a b:D} (h:Bu H a=false):CA H W (.tup [a,b])=false:=by simp [CA,h]
theorem Yc {H W:Nat} {a b:D} (h:Bu W b=false):CA H W (.tup [a,b])=false:=by simp [CA,h]
def Ln (c:Str):List V:=[.bl (Bd c "NoBoard"),.bl (Bd c "NoLine"),.bl (Bd c "NoSwitching"),.bl (Bd c "NoNumber"),.bl (Bd c "Unlike"),.bl (Bd c "NoNet"),.bl (Bd c "NoPlace"),.bl (Bd c "NoText"),.bl (Bd c "NoRow"),.bl (Bd c "TooMany")]
def Yd:List D:=[.str "board",.str "line",.str "switching",.str "number",.str "unlike",.str "net",.str "place",.str "text",.str "row"]
theorem Qc {c w t:Str} {j:Nat} {h:HD} (hc:c∈excNames) (hn:Fv (.bl true) (Ln c)=1) (h9:Bd c "TooMany"=false) (hj:H0 (.bl true) (Ln c)=some j) (hw:Yd[j]?=some (.str w)) (hz:((("! ":String):Str)).length+w.length≤1000) (ht:((("! ":String):Str))++w=t):Pu (Cz [.exc c []] h) h (.str t):=by
 have i0:∀h,Aw (.exc c []) (.glo "NoBoard") h=.ok (.bl (Bd c "NoBoard")) h:=fun h=>CZ hc (by decide +kernel)
 have i1:∀h,Aw (.exc c []) (.glo "NoLine") h=.ok (.bl (Bd c "NoLine")) h:=fun h=>CZ hc (by decide +kernel)
 have i2:∀h,Aw (.exc c []) (.glo "NoSwitching") h=.ok (.bl (Bd c "NoSwitching")) h:=fun h=>CZ hc (by decide +kernel)
 have i3:∀h,Aw (.exc c []) (.glo "NoNumber") h=.ok (.bl (Bd c "NoNumber")) h:=fun h=>CZ hc (by decide +kernel)
 have i4:∀h,Aw (.exc c []) (.glo "Unlike") h=.ok (.bl (Bd c "Unlike")) h:=fun h=>CZ hc (by decide +kernel)
 have i5:∀h,Aw (.exc c []) (.glo "NoNet") h=.ok (.bl (Bd c "NoNet")) h:=fun h=>CZ hc (by decide +kernel)
 have i6:∀h,Aw (.exc c []) (.glo "NoPlace") h=.ok (.bl (Bd c "NoPlace")) h:=fun h=>CZ hc (by decide +kernel)
 have i7:∀h,Aw (.exc c []) (.glo "NoText") h=.ok (.bl (Bd c "NoText")) h:=fun h=>CZ hc (by decide +kernel)
 have i8:∀h,Aw (.exc c []) (.glo "NoRow") h=.ok (.bl (Bd c "NoRow")) h:=fun h=>CZ hc (by decide +kernel)
 have i9:∀h,Aw (.exc c []) (.glo "TooMany") h=.ok (.bl (Bd c "TooMany")) h:=fun h=>CZ hc (by decide +kernel)
 have iv:∀h,Aw (.exc c []) (.ty "ValueError") h=.ok (.bl true) h:=fun h=>V3 hc
 change Wp (Ax 3 OX [.exc c []] h) _
 refine Eq.mpr AO ?_
 simp [-Ag,i0,i1,i2,i3]
 refine AM (by simp) fun l1 h1 s1 e1 _ _=>?_
 refine Eq.mpr Ag ?_
 simp [-Ag,i4,i5,i6,i7]
 refine AM (by simp) fun l2 h2 s2 e2 _ _=>?_
 refine Au (Gw (s2 _ _ e1) e2) ?_
 refine AM (by simp) fun l3 h3 s3 e3 _ _=>?_
 refine Eq.mpr Ag ?_
 simp [-Ag,i8,i9]
 refine AM (by simp) fun l4 h4 s4 e4 _ _=>?_
 refine Au (Gw (s4 _ _ e3) e4) ?_
 refine AM (by simp) fun l5 h5 s5 e5 _ _=>?_
 refine Eq.mpr Ag ?_
 simp [-Ag,iv,Kc e5]
 refine Au ((V5 (vs:=Ln c) e5 rfl rfl).trans (by rw [hn])) ?_
 simp [-Ag]
 refine Eq.mpr Ag ?_
 simp [-Ag]
 rw [show (9:Int)=((9:Nat):Int) from rfl]
 refine Au (Dp e5 (k:=9) rfl) ?_
 simp [-Ag,h9]
 refine Eq.mpr Ag ?_
 simp [-Ag]
 refine AM (by simp) fun l6 h6 s6 e6 _ _=>?_
 refine Eq.mpr Ag ?_
 simp [Kc (s6 _ _ e5)]
 refine Au (V6 (s6 _ _ e5) rfl rfl hj) ?_
 simp only [Ck]
 refine Au (Dp e6 hw) ?_
 simp only [Ck]
 refine Au (V4 hz) ?_
 exact ⟨congrArg D.str ht,((((s1.trans s2).trans s3).trans s4).trans s5).trans s6⟩
theorem p_kind_board {h:HD}:Pu (Cz [.exc "NoBoard" []] h) h (.str "! board"):=Qc (w:="board") (j:=0) (by decide +kernel) (by decide +kernel) (by decide +kernel) (by decide +kernel) rfl (by decide +kernel) (by decide +kernel)
theorem Qd {cs:List Nat} {f:ME} {ρ:Af} {h:HD} {ds:List D} {Q:D→HD→Prop} (ht:TabAt h) (hd:AF (cs.map fun j=>(ρ[j]?).join)=some ds) (he:Er (f (ds.map some) h) h "NoBoard")
 (q:∀h',Sm h h'→Q (.str "! board") h'):Wp (B6 cs Cz f ρ h) Q:=
 NL ht hd (he.we fun h' s=>⟨by decide +kernel,[],rfl,p_kind_board.wp fun h2 s2=>q h2 (s.trans s2)⟩)
theorem p_kind_switching {h:HD}:Pu (Cz [.exc "NoSwitching" []] h) h (.str "! switching"):=Qc (w:="switching") (j:=2) (by decide +kernel) (by decide +kernel) (by decide +kernel) (by decide +kernel) rfl (by decide +kernel) (by decide +kernel)
theorem Ye {cs:List Nat} {f:ME} {ρ:Af} {h:HD} {ds:List D} {Q:D→HD→Prop} (ht:TabAt h) (hd:AF (cs.map fun j=>(ρ[j]?).join)=some ds) (he:Er (f (ds.map some) h) h "NoSwitching")
 (q:∀h',Sm h h'→Q (.str "! switching") h'):Wp (B6 cs Cz f ρ h) Q:=
 NL ht hd (he.we fun h' s=>⟨by decide +kernel,[],rfl,p_kind_switching.wp fun h2 s2=>q h2 (s.trans s2)⟩)
def DE (b:Bool):Nat:=if b then 35 else 46
def Bz (W:Nat) (r:Nat→Bool):List Nat:=(List.range W).map fun j=>DE (r j)
def Cp (H W:Nat) (f:Nat→Nat→Bool):List Nat:=CL [47] ((List.range H).map fun i=>Bz W (f i))
def Bv (n:Nat) (p:Nat→Bool):List Nat:=((List.range n).filter p).map fun i=>48+i
def Dh (H W:Nat) (p q:Nat→Bool):List Nat:=114::(Bv H p++99::Bv W q)
def GK:List Nat:=[48,49,50,51,52,53,54,55,56,57]
theorem Bt {n:Nat} (h:n≤1000):n≤sizeLine:=by unfold sizeLine;omega
section
variable {H W:Nat} {h:HD} {f:Nat→Nat→Bool} {r p q:Nat→Bool} {n:Nat}
theorem I0:(Bz W r).length=W:=by simp [Bz]
theorem Yg (hh:H≤8) (hw:W≤8):(Cp H W f).length≤100:=by
 have:=OE [47] 8 ((List.range H).map fun i=>Bz W (f i)) fun x hx=>by
  obtain ⟨i,_,rfl⟩:=qaK.mp hx
  rw [I0];exact hw
 rw [BX,GU] at this
 unfold Cp
 have h2:H*(8 + [47].length)≤8*9:=Nat.mul_le_mul hh (by decide)
 omega
theorem FT (hn:n≤8):(Bv n p).length≤8:=by
 unfold Bv
 rw [BX]
 exact Bc (DF _ _) (by simpa using hn)
theorem Yh {b:Bool}:De (.str ".#") (lit b) h=.ok (.str (tx [DE b])) h:=by
 cases b
 ·exact K2 (l:=[46,35]) (k:=0) (by decide) rfl
 ·exact K2 (l:=[46,35]) (k:=1) (by decide) rfl
theorem Lo (l:List Nat) {α:Type} (g:α→Nat) (xs:List α) (e:l=xs.map g):CL [] (xs.map fun x=>[g x])=l:=by
 subst e
 have key:∀xs:List α,(xs.map fun x=>[g x]).flatMap (fun y=>([]:List Nat)++y)=xs.map g:=fun xs=>by
  induction xs with
  |nil=>rfl
  |cons b xs ih=>rw [Bg,List.flatMap_cons,ih];rfl
 cases xs with
 |nil=>rfl
 |cons a xs=>
  rw [Bg,CL,key]
  rfl
theorem p_row_text:Pu (K0 [] [none] (AX (Ab 0)) (AG 0) (Ae De (mC (.str ".#")) (Ab 0)) [some (AB W r)] h) h (.str (tx (Bz W r)))∨8<W:=by
 by_cases hw:W≤8
 ·left
  have:=GE (sep:=[]) (xs:=List.range W) (φ:=fun j=>lit (r j)) (ρ:=[some (AB W r)]) (h:=h) (cs:=[none]) (it:=AX (Ab 0)) (sg:=AG 0) (f:=Ae De (mC (.str ".#")) (Ab 0)) (src:=[]) (fun j=>[DE (r j)]) (fun j=>[some (lit (r j))]) 1 En (fun x _=>rfl) (fun x _ h' _=>by
   simp [Pu]
   rw [Yh]
   exact ⟨rfl,.refl _⟩) (sz hw) (fun x _=>by simp) (Bt (by simp;omega))
  rw [Lo (Bz W r) (fun j=>DE (r j)) _ rfl] at this
  exact this
 ·right;omega
theorem Yi (hh:1≤H∧H≤8) (hw:1≤W∧W≤8):Pu (EK [bD H W f] h) h (.str (tx (Cp H W f))):=by
 change Wp (Ax 1 IT [bD H W f] h) _
 refine Eq.mpr AO ?_
 simp only [IT,BJ,Ka,El,Em,Fs,DU]
 refine (PM hh hw).wp fun h1 s1=>?_
 refine Eq.mpr Ag ?_
 rw [HH]
 refine Pu.wp (a:=.str (tx (Cp H W f))) ?_ fun h2 s2=>⟨rfl,s1.trans s2⟩
 refine GE (sep:=[47]) (xs:=List.range H) (φ:=fun i=>AB W (f i)) (src:=[]) (fun i=>Bz W (f i)) (fun i=>[some (AB W (f i))]) 8 En (fun x _=>rfl) (fun x _ h' _=>?_) (sz hh.2) (fun x _=>by rw [I0];exact hw.2) (Bt (by simp;omega))
 exact p_row_text.resolve_right (by omega)
theorem Qe (hn:n≤8):Pu (GF [A6 n p] h) h (.str (tx (Bv n p))):=by
 change Wp (Ax 1 K4 [A6 n p] h) _
 refine Eq.mpr AO ?_
 simp only [K4,HH]
 refine Pu.wp (a:=.str (tx (Bv n p))) ?_ fun h2 s2=>⟨rfl,s2⟩
 have:=GE (sep:=[]) (xs:=(List.range n).filter p) (φ:=fun i=>.int ((i:Nat):Int)) (ρ:=[some (A6 n p)]) (h:=h) (cs:=[none]) (it:=AX (Ab 0)) (sg:=AG 0) (f:=Ae De (mC (.str "0123456789")) (Ab 0)) (src:=[]) (fun i=>[48+i]) (fun i=>[some (.int ((i:Nat):Int))]) 1 En (fun x _=>rfl) (fun x hx h' _=>by
  have hx:x<8:=by have:=qaU.mp (qaT.mp hx).1;omega
  simp [Pu]
  rw [show De (.str "0123456789") (.int (x:Nat)) h'=.ok (.str (tx [48+x])) h' from K2 (l:=GK) (by decide) (by
   match x,hx with
   |0,_=>rfl
   |1,_=>rfl
   |2,_=>rfl
   |3,_=>rfl
   |4,_=>rfl
   |5,_=>rfl
   |6,_=>rfl
   |7,_=>rfl)]
  exact ⟨rfl,.refl _⟩) (Bt (Bc (DF _ _) (by simp;omega))) (fun x _=>by simp) (Bt (by
   have:=DF p (List.range n)
   rw [GU] at this
   simp;omega))
 rw [Lo (Bv n p) (fun j=>48+j) _ rfl] at this
 exact this
end
@[simp] theorem Zcm {ρ:Af} {a b c:D} {i j k:Nat}:EA [i,j,k] (.tup [a,b,c]) ρ=some (((ρ.set i (some a)).set j (some b)).set k (some c)):=id rfl
section
variable {H W:Nat} {h:HD} {f:Nat→Nat→Bool} {r p q:Nat→Bool} {n:Nat}
theorem Lp {l s:List Nat} (hl:l.length≤1000):Pu (D0 [.str (tx l),.str (tx s)] h) h (.tup (l.map fun c=>.int (Dx c s))):=by
 change Wp (Ax 2 K5 [.str (tx l),.str (tx s)] h) _
 refine Eq.mpr AO ?_
 simp only [K5,HH,UD]
 refine Pu.wp (M1 (src:=[]) (xs:=l) (φ:=fun c=>.str (tx [c])) (fun c=>.int (Dx c s)) (fun c=>[some (.str (tx [c])),some (.str (tx s))]) (Xp (i:=0) rfl) (fun x _=>rfl) (fun x _ h' _=>?_) (Bt hl)) fun h2 s2=>⟨rfl,s2⟩
 simp [Pu]
 rw [Xr]
 exact ⟨rfl,.refl _⟩
theorem p_need_text {x:Str}:Pu (FJ [.str x] h) h .non:=by
 change Wp (Ax 1 OP [.str x] h) _
 refine Eq.mpr AO ?_
 have e:Aw (.str x) (.ty "str") h=.ok (.bl true) h:=rfl
 simp [e,Sm.refl]
theorem Lq:∀(rs:List (List Nat)) (x:List Nat),(∀c∈x,c≠47)→(∀y∈rs,∀c∈y,c≠47)→A5 47 (x++rs.flatMap fun y=>[47]++y)=x::rs
 |rs,a::x,hx,hr=>by
  have ih:=Lq rs x (fun c hc=>hx c (AI _ hc)) hr
  rw [Cr,A5,if_neg (hx a AE),ih]
 |[],[],_,_=>rfl
 |y::rs,[],_,hr=>by
  have ih:=Lq rs y (hr y AE) fun z hz=>hr z (AI _ hz)
  rw [List.flatMap_cons,FZ,GS,List.singleton_append,A5,if_pos rfl,ih]
theorem Yj {b:Bool}:DE b≠47:=by cases b<;>decide
theorem Qf:∀c∈Bz W r,c≠47:=fun c hc=>by
 obtain ⟨j,_,rfl⟩:=qaK.mp hc
 exact Yj
theorem Yk (hh:1≤H):A5 47 (Cp H W f)=(List.range H).map fun i=>Bz W (f i):=by
 unfold Cp
 obtain ⟨k,rfl⟩:∃k,H=k+1:=⟨H - 1,by omega⟩
 rw [List.range_succ_eq_map,Bg,CL]
 refine Lq _ _ Qf fun y hy=>?_
 obtain ⟨i,_,rfl⟩:=qaK.mp hy
 exact Qf
theorem Yl {b:Bool}:D.int (Dx (DE b) [46,35])=lit b:=by cases b<;>rfl
theorem Ym (hh:1≤H∧H≤8) (hw:1≤W∧W≤8):Pu (IS [.str (tx (Cp H W f))] h) h (bD H W f):=by
 change Wp (Ax 2 IR [.str (tx (Cp H W f))] h) _
 refine Eq.mpr AO ?_
 change Wp (IR [some (.str (tx (Cp H W f))),none] h) _
 simp only [IR,BJ,Ka,El,Em,Fs,DU]
 refine p_need_text.wp fun h1 s1=>?_
 refine Eq.mpr Ag ?_
 rw [BJ,Kb]
 have main:Pu (Gq [none] (AX (By BE Dy (Ab 0) (mC (.str "/")))) (AG 0) A9 (Ad D0 (Aa (Ab 0) (Aa (mC (.str ".#")) Ac))) [some (.str (tx (Cp H W f))),none] h1) h1 (bD H W f):=by
  have hsz:=Bt (Bc (Yg (f:=f) hh.2 hw.2) (by decide:100≤1000))
  obtain ⟨L,hL⟩:∃L,L=(List.range H).map fun i=>Bz W (f i):=⟨_,rfl⟩
  have e0:Dy (.str (tx (Cp H W f))) (.str "/") h1=Bi ((List.range H).map fun i=>.str (tx (Bz W (f i)))) h1:=by
   rw [show ("/":Str)=tx [47] from rfl,Xs hsz,Yk hh.1,F4]
   rfl
  have hz:((List.range H).map fun i=>D.str (tx (Bz W (f i)))).length≤sizeLine:=by rw [BX];exact sz hh.2
  refine Pu.eq (M1 (src:=[(h1.length,(List.range H).map fun i=>.str (tx (Bz W (f i))))]) (xs:=List.range H) (φ:=fun i=>.str (tx (Bz W (f i)))) (fun i=>AB W (f i)) (fun i=>[some (.str (tx (Bz W (f i))))]) ?_ (fun x _=>rfl) (fun x _ h' _=>?_) (sz hh.2)) rfl
  ·unfold CV
   simp only [Ut,NS,Fs,BE,Ck]
   show Wp (Dy (.str (tx (Cp H W f))) (.str "/") h1) _
   rw [e0,Bi,if_pos hz]
   show Wp (Do (.loc h1.length) _) _
   simp [Do,A7,HB]
   refine ⟨.app _ _,fun h2 s2=>?_⟩
   refine J0 (s2 _ _ ?_)
   simp
  ·simp [Pu]
   rw [show (".#":Str)=tx [46,35] from rfl]
   refine Pu.wp (Lp (by rw [I0];omega)) fun h3 s3=>⟨?_,s3⟩
   unfold Bz AB
   rw [F4]
   congr 1
   refine D3 fun j _=>?_
   exact Yl
 refine main.wp fun h2 s2=>?_
 refine Eq.mpr Ag ?_
 simp
 refine (Lf PJ).wp fun h3 s3=>?_
 simp [PL hh hw,(s1.trans s2).trans s3]
theorem part_sw:BF 99 (Dh H W p q)=(114::Bv H p,[99],Bv W q)∨8<H:=by
 by_cases hh:H≤8
 ·left
  have:∀(l m:List Nat),(∀c∈l,c≠99)→FH 99 (l++99::m)=some (l,m):=fun l m hl=>by
   induction l with
   |nil=>rfl
   |cons a l ih=>
    rw [Cr,FH,if_neg (hl a AE),ih fun c hc=>hl c (AI _ hc)]
    rfl
  unfold BF Dh
  have:=this (114::Bv H p) (Bv W q) fun c hc=>by
   rcases qaB.mp hc with rfl |hc
   ·decide
   ·obtain ⟨i,hi,rfl⟩:=qaK.mp hc
    have:=qaU.mp (qaT.mp hi).1
    omega
  rw [Cr] at this
  rw [this]
 ·right;omega
theorem Yn {x:Nat} (hx:x<8):Dx (48+x) GK=(x:Int):=by
 match x,hx with
 |0,_=>rfl
 |1,_=>rfl
 |2,_=>rfl
 |3,_=>rfl
 |4,_=>rfl
 |5,_=>rfl
 |6,_=>rfl
 |7,_=>rfl
theorem Qg (hn:n≤8):D.tup ((Bv n p).map fun c=>.int (Dx c GK))=A6 n p:=by
 unfold Bv A6
 rw [F4]
 congr 1
 refine D3 fun i hi=>?_
 have:=qaU.mp (qaT.mp hi).1
 show D.int (Dx (48+i) GK)=_
 rw [Yn (by omega)]
theorem Qh (hn:n≤8):Bu 8 (A6 n p)=true:=Lm (n:=8) (List.Pairwise.filter _ List.pairwise_lt_range) fun k hk=>⟨by omega,by have:=qaU.mp (qaT.mp hk).1;omega⟩
theorem Yo (hh:H≤8) (hw:W≤8):Pu (IK [.str (tx (Dh H W p q))] h) h (BH H W p q):=by
 change Wp (Ax 6 IJ [.str (tx (Dh H W p q))] h) _
 refine Eq.mpr AO ?_
 have l1:=FT (p:=p) hh
 have l2:=FT (p:=q) hw
 have hsz:(Dh H W p q).length≤1000:=by simp [Dh];omega
 change Wp (IJ [some (.str (tx (Dh H W p q))),none,none,none,none,none] h) _
 simp only [IJ,BJ,Ka,El,Em,Fs,DU]
 refine p_need_text.wp fun h1 s1=>?_
 refine Eq.mpr Ag ?_
 rw [BJ]
 have e1:EH (.str (tx (Dh H W p q))) (.str "c") h1=.ok (.tup [.str (tx (114::Bv H p)),.str (tx [99]),.str (tx (Bv W q))]) h1:=by
  rw [show ("c":Str)=tx [99] from rfl,Xu (Bt hsz),part_sw.resolve_right (by omega)]
 simp [e1]
 rw [Xv (by simp;exact Bt (by omega)),Xx]
 simp
 rw [show ("0123456789":Str)=tx GK from rfl]
 refine (Lp (by omega)).wp fun h2 s2=>?_
 refine (Lp (by omega)).wp fun h3 s3=>?_
 rw [Qg hh,Qg hw]
 rw [show ("r":Str)=tx [114] from rfl,show ("c":Str)=tx [99] from rfl,Xw]
 simp
 refine Pu.wp (HM (src:=[]) (xs:=[A6 H p,A6 W q]) (φ:=fun x=>x) (fun _=>true) (fun x=>[some x]) (M3 rfl) (fun x _=>rfl) (fun x hx h' s'=>?_) (Bt (by simp))) fun h4 s4=>?_
 ·simp [Pu]
  rcases qaB.mp hx with rfl |hx
  ·refine (IY (n:=8) EN).wp fun h5 s5=>⟨?_,s5⟩
   rw [Qh hh]
  ·cases qb4.mp hx
   refine (IY (n:=8) EN).wp fun h5 s5=>⟨?_,s5⟩
   rw [Qh hw]
 ·simp
  exact ⟨rfl,((s1.trans s2).trans s3).trans s4⟩
end
section
variable {H W:Nat} {h:HD} {f:Nat→Nat→Bool} {r p q:Nat→Bool} {n:Nat}
theorem Yp {a b:List Nat} (ha:a.length≤8) (hb:b.length≤8) {fa fb:ME} {ρ:Af} {h:HD} {Q:D→HD→Prop} (pa:∀h',Sm h h'→Pu (fa ρ h') h' (.str (tx a))) (pb:∀h',Sm h h'→Pu (fb ρ h') h' (.str (tx b)))
 (k:∀h',Sm h h'→Q (.str (tx (114::(a++99::b)))) h'):Wp (Ez (Du "r" (EI fa (Du "c" (EI fb Ey)))) ρ h) Q:=by
 unfold Ez
 rw [Al]
 refine OG (y:=[114]) (acc:=[]) (Bt (by simp)) ?_
 refine OH (pa h (.refl _)) (Bt (by simp;omega)) fun h1 s1=>?_
 refine OG (y:=[99]) (Bt (by simp;omega)) ?_
 refine OH (pb h1 s1) (Bt (by simp;omega)) fun h2 s2=>?_
 refine Xy (Bt (by simp;omega)) ?_
 have:=k h2 (s1.trans s2)
 simpa using this
theorem Yq (hh:1≤H∧H≤8) (hw:1≤W∧W≤8):Pu (Df [bD H W f,BH H W p q] h) h (.str (tx (Dh H W p q))):=by
 change Wp (Ax 4 IV [bD H W f,BH H W p q] h) _
 refine Eq.mpr AO ?_
 simp
 refine (X2 hh hw).wp fun h1 s1=>?_
 simp [BH]
 refine Yp (FT (p:=p) hh.2) (FT (p:=q) hw.2) (fun h' _=>?_) (fun h' _=>?_) fun h2 s2=>⟨rfl,s1.trans s2⟩
 ·simp [Pu]
  exact Qe hh.2
 ·simp [Pu]
  exact Qe hw.2
theorem Yr {d:D} (hh:1≤H∧H≤8) (hw:1≤W∧W≤8) (x:NoS h H W d):Er (Df [bD H W f,d] h) h "NoSwitching":=by
 change We (Ax 4 IV [bD H W f,d] h) _ _
 refine Eq.mpr EB ?_
 simp
 refine (X0 hh hw x.1 x.2).we fun h1 s1=>?_
 exact ⟨rfl,rfl,s1⟩
theorem Ys {d x:D} (n:NoB h d):Er (Df [d,x] h) h "NoBoard":=by
 change We (Ax 4 IV [d,x] h) _ _
 refine Eq.mpr EB ?_
 simp
 refine (X9 n).we fun h1 s1=>?_
 exact ⟨rfl,rfl,s1⟩
theorem Yt {d:D} (n:NoB h d):Er (EK [d] h) h "NoBoard":=by
 change We (Ax 1 IT [d] h) _ _
 refine Eq.mpr EB ?_
 simp
 refine (PH n.1 n.2).we fun h1 s1=>?_
 exact ⟨rfl,rfl,s1⟩
inductive Qi (W:Nat) (r:Nat→Bool) (h:HD) (xs:List Nat) (ρ:Af) (h':HD):Prop where
 |mk (a:List Nat) (x:Option D) (f0:ρ=[some (AB W r),some (.str (tx a)),x]) (f1:Sm h h') (f2:a++xs.map (fun j=>DE (r j))=Bz W r) (f3:a.length+xs.length≤8):Qi W r h xs ρ h'
theorem Yu (hw:W≤8):Pu (GG [AB W r] h) h (.str (tx (Bz W r))):=by
 change Wp (Ax 3 OZ [AB W r] h) _
 refine Eq.mpr AO ?_
 simp
 refine Ft (src:=[]) (xs:=List.range W) (fun j=>lit (r j)) (Qi W r h) ?_ (fun ys ρ h' _=>DS) ?_ ?_
 ·simp [AB]
  exact ⟨[],_,rfl,.refl _,rfl,by simpa using hw⟩
 ·rintro j xs ρ h' ⟨a,x,rfl,s,e,hl⟩
  refine ⟨_,rfl,?_⟩
  simp
  refine AM (by simp) fun l h2 s2 e2 _ _=>?_
  have e3:Az (.loc l) (lit (r j)) h2=.ok (.str (tx [DE (r j)])) h2:=by
   cases r j
   ·exact Dp (k:=0) e2 rfl
   ·exact Dp (k:=1) e2 rfl
  rw [e3]
  simp at hl
  simp
  rw [IC (Bt (by simp;omega))]
  simp [B5]
  exact ⟨a++[DE (r j)],_,rfl,s.trans s2,by rw [←e];simp,by simp;omega⟩
 ·rintro ρ h' ⟨a,x,rfl,s,e,hl⟩
  simp at e
  subst e
  simp [s]
theorem Yv {x:Nat} (hx:x<8):LS.strOfD (.int (x:Nat)) h=.ok (.str (tx [48+x])) h:=by
 show (if ((x:Nat):Int).natAbs<4611686018427387904 then Out.ok (D.str (Str.ofString (toString ((x:Nat):Int)))) h else .stuck)=_
 rw [if_pos (by omega)]
 congr 2
 match x,hx with
 |0,_=>rfl
 |1,_=>rfl
 |2,_=>rfl
 |3,_=>rfl
 |4,_=>rfl
 |5,_=>rfl
 |6,_=>rfl
 |7,_=>rfl
theorem Qj (hn:n≤8):Pu (FK [A6 n p] h) h (.str (tx (Bv n p))):=by
 change Wp (Ax 1 K7 [A6 n p] h) _
 refine Eq.mpr AO ?_
 simp only [K7,HH]
 refine Pu.wp (a:=.str (tx (Bv n p))) ?_ fun h2 s2=>⟨rfl,s2⟩
 have:=GE (sep:=[]) (xs:=(List.range n).filter p) (φ:=fun i=>.int ((i:Nat):Int)) (ρ:=[some (A6 n p)]) (h:=h) (cs:=[none]) (it:=AX (Ab 0)) (sg:=AG 0) (f:=Ad (Aj LS.strOfD) (Aa (Ab 0) Ac)) (src:=[]) (fun i=>[48+i]) (fun i=>[some (.int ((i:Nat):Int))]) 1 En (fun x _=>rfl) (fun x hx h' _=>by
  have hx:x<8:=by have:=qaU.mp (qaT.mp hx).1;omega
  simp [Pu]
  rw [Yv hx]
  exact ⟨rfl,.refl _⟩) (Bt (Bc (DF _ _) (by simp;omega))) (fun x _=>by simp) (Bt (by
   have:=DF p (List.range n)
   rw [GU] at this
   simp;omega))
 rw [Lo (Bv n p) (fun j=>48+j) _ rfl] at this
 exact this
theorem Yw {ρ:Af} (hh:1≤H∧H≤8) (hw:1≤W∧W≤8) {i:Nat} (ei:ρ[i]?=some (some (bD H W f))):Pu (By BE B7 (mC (.str "/")) (AD [none] (AX (Ab i)) (AG 0) A9 (Ad GG (Aa (Ab 0) Ac))) ρ h) h (.str (tx (Cp H W f))):=by
 refine GE (sep:=[47]) (xs:=List.range H) (φ:=fun i=>AB W (f i)) (src:=[]) (fun i=>Bz W (f i)) (fun i=>[some (AB W (f i))]) 8 (M3 (by simp [AX,Ab,ei,Do,A7,bD,HB])) (fun x _=>rfl) (fun x _ h' _=>?_) (sz hh.2) (fun x _=>by rw [I0];exact hw.2) (Bt (by simp;omega))
 simp [Pu]
 exact Yu hw.2
end
@[irreducible] noncomputable def Ja:MS:=Am 2 (Ad IF (Aa (Ab 0) (Aa (Ab 1) (Ac))))
@[irreducible] noncomputable def Jb:MS:=Fe 3 4 (Aa (Ae Aq (mC (.int 1)) (Ad Bl (Aa (Ab 2) (Aa (mC (.int 8)) (Ac))))) (Aa (Ae Aq (mC (.int 1)) (Ad Bl (Aa (Ab 2) (Aa (mC (.int 8)) (Ac))))) (Ac)))
@[irreducible] noncomputable def Jc:MS:=Am 5 (Ad IP (Aa (Ab 2) (Aa (Ab 3) (Aa (Ab 4) (Ac)))))
@[irreducible] noncomputable def Jd:MS:=Am 6 (By BE B7 (mC (.str "/")) (AD [none] (AX (Ab 5)) (AG 0) (A9) (Ad GG (Aa (Ab 0) (Ac)))))
@[irreducible] noncomputable def Je:MS:=AW (B2 (A0 (Ae Bn (Ad EK (Aa (Ab 5) (Ac))) (Ab 6))) (A0 (Ae Bn (Ad (Aj BR) (Aa (Ad IS (Aa (Ab 6) (Ac))) (Ac))) (Ad (Aj BR) (Aa (Ab 5) (Ac)))))) (As (mC (.bl false))) (A2)
@[irreducible] noncomputable def Jf:MS:=Am 7 (An (Aa (Dw (Ab 3)) (Aa (Dw (Ab 4)) (Ac))))
@[irreducible] noncomputable def GL:MS:=BM (AX (AR (Aa (An (Aa (Ad FL (Aa (Ab 2) (Aa (Ab 3) (Ac)))) (Aa (Ad FL (Aa (Ab 2) (Aa (Ab 4) (Ac)))) (Ac)))) (Aa (An (Aa (An (Ac)) (Aa (An (Ac)) (Ac)))) (Aa (Ab 7) (Aa (An (Aa (An (Ac)) (Aa (An (Aa (Ae Fc (Ab 4) (mC (.int 1))) (Ac))) (Ac)))) (Ac))))))) (AG 8) (Ah (Am 6 (Ae Aq (Ae Aq (Ae Aq (mC (.str "r")) (Ad FK (Aa (Ae Az (Ab 8) (mC (.int 0))) (Ac)))) (mC (.str "c"))) (Ad FK (Aa (Ae Az (Ab 8) (mC (.int 1))) (Ac))))) (AW (B2 (A0 (Ae Bn (Ad Df (Aa (Ab 5) (Aa (Ab 8) (Ac)))) (Ab 6))) (A0 (Ae Bn (Ad (Aj BR) (Aa (Ad IK (Aa (Ab 6) (Ac))) (Ac))) (Ad (Aj BR) (Aa (Ab 8) (Ac)))))) (As (mC (.bl false))) (A2)))
@[irreducible] noncomputable def Jg:MS:=Am 9 (AR (Aa (An (Aa (Ad FM (Aa (Ab 2) (Aa (Ab 3) (Ac)))) (Aa (Ae Az (Ab 7) (mC (.int 1))) (Ac)))) (Aa (An (Aa (Ae Az (Ab 7) (mC (.int 0))) (Aa (Ad FM (Aa (Ab 2) (Aa (Ab 4) (Ac)))) (Ac)))) (Aa (mC .non) (Aa (AR (Ac)) (Aa (Cw (Ab 7) (Cu) (Cm (mC (.int 1)))) (Aa (An (Aa (An (Aa (mC (.int 8)) (Ac))) (Aa (An (Ac)) (Ac)))) (Ac))))))))
@[irreducible] noncomputable def Jh:MS:=Am 10 (Ad IH (Aa (Ab 2) (Aa (Ab 5) (Ac))))
@[irreducible] noncomputable def GM:MS:=BM (AX (Ab 9)) (AG 11) (Ah (AW (A0 (Ae Bn (B6 [5,11] Cz (Ad Df (Aa (Ab 0) (Aa (Ab 1) (Ac))))) (mC (.str "! switching")))) (As (mC (.bl false))) (A2)) (AW (A0 (Ae Bn (B6 [10,11] Cz (Ad Df (Aa (Ab 0) (Aa (Ab 1) (Ac))))) (mC (.str "! board")))) (As (mC (.bl false))) (A2)))
@[irreducible] noncomputable def Ji:MS:=AW (A0 (Ae Bn (B6 [10] Cz (Ad EK (Aa (Ab 0) (Ac)))) (mC (.str "! board")))) (As (mC (.bl false))) (A2)
theorem Qk {it:MI} {sg:MG} {body:MS} {Q:Fl×Af→HD→Prop} {ρ:Af} {h:HD} (I:List D→Af→HD→Prop) (hi:Wp (it ρ h) fun x h'=>∃l ds,x=(ds,[(l,ds)])∧h'[l]?=some (.lst ds)∧I ds ρ h')
 (step:∀d ds ρ h,I (d::ds) ρ h→∃ρ1,sg d ρ=some ρ1∧Wp (body ρ1 h) (fun y h'=>Sm h h'∧B5 (I ds) Q y h')) (done:∀ρ h,I [] ρ h→Q (.nx,ρ) h):Wp (BM it sg body ρ h) Q:=by
 unfold BM
 rw [Al]
 refine Wp.mono hi fun x h1 z=>?_
 obtain ⟨l,ds,rfl,el,i⟩:=z
 have:=HK (src:=[(l,ds)]) (items:=ds) (sg:=sg) (body:=body) (Q:=Q) (fun d:D=>d) (fun xs ρ h=>h[l]?=some (.lst ds)∧I xs ρ h) (fun xs ρ h z=>J0 z.1) (fun d xs ρ h z=>by
  obtain ⟨ρ1,e,w⟩:=step d xs ρ h z.2
  refine ⟨ρ1,e,Wp.mono w fun y h' zz=>?_⟩
  obtain ⟨s,kk⟩:=zz
  obtain ⟨fl,ρ2⟩:=y
  cases fl with
  |nx=>exact ⟨s _ _ z.1,kk⟩
  |ct=>exact ⟨s _ _ z.1,kk⟩
  |bk=>exact kk
  |rt d=>exact kk) (fun ρ h z=>done ρ h z.2) ds ρ h1 ⟨el,i⟩
 rwa [List.map_id''] at this
 exact fun _=>rfl
theorem Ql {n:Nat} {p:Nat→Bool} (hn:n≤8):Rp 1 35 (A6 n p):=VY (Ic (n:=0) (k:=8) (L:=2) (fun d hd=>by
 obtain ⟨i,hi,rfl⟩:=qaK.mp hd
 have:=qaU.mp (qaT.mp hi).1
 exact NR (by omega) (by omega)) (by
 rw [BX]
 exact Bc (DF _ _) (by simpa using hn))) (by decide)
theorem Yx {H W:Nat} {p q:Nat→Bool} (hh:H≤8) (hw:W≤8):∃x:Str,∀h,BR (BH H W p q) h=.ok (.str x) h:=
 NQ (n:=2) (L:=2*(35+2)+3) (Ic (n:=1) (L:=35) (k:=2) (fun d hd=>by
  rcases qaB.mp hd with rfl |hd
  ·exact Ql hh
  ·exact qb4.mp hd ▸ Ql hw) (by simp)) (by decide) (by unfold sizeLine;decide)
theorem Yy {W:Nat} {r:Nat→Bool} (hw:W≤8):Rp 1 35 (AB W r):=
 Ic (n:=0) (k:=8) (L:=2) (fun d hd=>by
  obtain ⟨j,_,rfl⟩:=qaK.mp hd
  exact NR (by split<;>decide) (by split<;>decide)) (by simp;omega)
theorem Yz {H W:Nat} {f:Nat→Nat→Bool} (hh:H≤8) (hw:W≤8):∃x:Str,∀h,BR (bD H W f) h=.ok (.str x) h:=
 NQ (n:=2) (Ic (k:=8) (L:=35) (fun d hd=>by
  obtain ⟨j,_,rfl⟩:=qaK.mp hd
  exact Yy hw) (by simp;omega)) (by decide) (by unfold sizeLine;decide)
def CB (ns:List Int) (k b H W:Nat) (f:Nat→Nat→Bool) (c6 c7 c8 c9 c10 c11:Option D):Af:=[some (.scr ns),some (.int (k:Nat)),some (.loc b),some (.int (H:Nat)),some (.int (W:Nat)),some (bD H W f),c6,c7,c8,c9,c10,c11]
abbrev EO:Nat→Bool:=fun _=>true
theorem Qm {n:Nat}:A6 n EO=.tup ((List.range n).map fun k=>D.int ((k:Nat):Int)):=by unfold A6;rw [List.filter_eq_self.mpr fun _ _=>rfl]
theorem Lr {n:Nat}:A6 n (fun _=>false)=.tup []:=by unfold A6;rw [List.filter_eq_nil_iff.mpr fun _ _=>by simp];rfl
theorem YA {n:Nat} (hn:1≤n):A6 n (fun i=>i==n - 1)=.tup [.int ((n:Int) - 1)]:=by
 obtain ⟨m,rfl⟩:∃m,n=m+1:=⟨n - 1,by omega⟩
 unfold A6
 rw [List.range_succ,List.filter_append,List.filter_eq_nil_iff.mpr fun a ha=>by
  have:=qaU.mp ha
  simp;omega]
 simp
def Sw (H W:Nat) (d:D):Prop:=∃p q,d=BH H W p q
section
variable {ns:List Int} {k b H W:Nat} {f:Nat→Nat→Bool} {c6 c7 c8 c9 c10 c11:Option D} {h:HD} {Q:Fl×Af→HD→Prop}
inductive Qn (ns:List Int) (k b H W:Nat) (f:Nat→Nat→Bool) (c7 c9 c10 c11:Option D) (h:HD) (xs:List D) (ρ:Af) (h':HD):Prop where
 |mk (c6 c8:Option D) (f0:ρ=CB ns k b H W f c6 c7 c8 c9 c10 c11) (f1:BoxAt h' b) (f2:TabAt h') (f3:∀d∈xs,Sw H W d):Qn ns k b H W f c7 c9 c10 c11 h xs ρ h'
theorem YB (hh:1≤H∧H≤8) (hw:1≤W∧W≤8) (hb:0<b) (hx:BoxAt h b) (ht:TabAt h) (q1:∀c6 c8 h',BoxAt h' b→TabAt h'→Q (.nx,CB ns k b H W f c6 (some (BH H W EO EO)) c8 c9 c10 c11) h'):
 Wp (GL (CB ns k b H W f c6 (some (BH H W EO EO)) c8 c9 c10 c11) h) Q:=by
 unfold GL
 refine Qk (Qn ns k b H W f (some (BH H W EO EO)) c9 c10 c11 h) ?_ ?_ ?_
 ·simp [CB]
  refine P3 hx hh.2 fun p h1 x1 s1=>?_
  refine P3 x1 hw.2 fun q h2 x2 s2=>?_
  refine AM (by simp) fun l h3 s3 e3 _ _=>?_
  refine Au (Kn e3) ?_
  refine ⟨l,_,rfl,e3,_,_,rfl,x2.sm s3,((ht.smx s1 hb).smx s2 hb).sm s3,?_⟩
  refine all_cons ⟨p,q,rfl⟩ <| all_cons ⟨fun _=>false,fun _=>false,?_⟩ <| all_cons ⟨_,_,rfl⟩ <| all_cons ⟨fun _=>false,fun i=>i==W - 1,?_⟩ all_nil
  ·unfold BH;rw [Lr,Lr]
  ·unfold BH;rw [Lr,YA hw.1]
 ·rintro d ds ρ h' ⟨c6,c8,rfl,x,t,hd⟩
  refine ⟨_,rfl,?_⟩
  obtain ⟨p,q,rfl⟩:=hd d AE
  have l1:=FT (p:=p) hh.2
  have l2:=FT (p:=q) hw.2
  obtain ⟨y,ry⟩:=Yx (p:=p) (q:=q) hh.2 hw.2
  simp [CB,BH]
  refine (Qj hh.2).wp fun h1 s1=>?_
  rw [show ("r":Str)=tx [114] from rfl,show ("c":Str)=tx [99] from rfl,IC (Bt (by simp;omega))]
  refine Eq.mpr (Ck _ _) ?_
  rw [IC (Bt (by simp;omega))]
  refine Eq.mpr (Ck _ _) ?_
  refine (Qj hw.2).wp fun h2 s2=>?_
  rw [IC (Bt (by simp;omega))]
  simp
  refine (Yq (p:=p) (q:=q) hh hw).wp fun h3 s3=>?_
  rw [show (114::(Bv H p++99::Bv W q))=Dh H W p q from rfl,OF]
  simp
  refine (Yo hh.2 hw.2).wp fun h4 s4=>?_
  rw [ry]
  simp
  rw [show D.tup [A6 H p,A6 W q]=BH H W p q from rfl,ry]
  have s:=((s1.trans s2).trans s3).trans s4
  simp [B5]
  exact ⟨s,_,_,rfl,x.sm s,t.sm s,fun y hy=>hd y (AI _ hy)⟩
 ·rintro ρ h' ⟨c6,c8,rfl,x,t,hd⟩
  exact q1 _ _ h' x t
inductive Qo (ns:List Int) (k b H W:Nat) (f:Nat→Nat→Bool) (c6 c7 c8:Option D) (e:D) (L:Nat) (ds:List D) (h:HD) (xs:List D) (ρ:Af) (h':HD):Prop where
 |mk (d11:Option D) (f0:ρ=CB ns k b H W f c6 c7 c8 (some (.loc L)) (some e) d11) (f1:Sm h h') (f3:∀d∈xs,NoS h H W d):Qo ns k b H W f c6 c7 c8 e L ds h xs ρ h'
theorem YC {e:D} {L:Nat} {ds:List D} (hh:1≤H∧H≤8) (hw:1≤W∧W≤8) (ht:TabAt h) (he:NoB h e) (eL:h[L]?=some (.lst ds)) (hd:∀d∈ds,NoS h H W d)
 (q1:∀d11 h',Sm h h'→Q (.nx,CB ns k b H W f c6 c7 c8 (some (.loc L)) (some e) d11) h'):Wp (GM (CB ns k b H W f c6 c7 c8 (some (.loc L)) (some e) c11) h) Q:=by
 unfold GM
 refine Qk (Qo ns k b H W f c6 c7 c8 e L ds h) ?_ ?_ ?_
 ·simp [CB]
  refine Au (Kn eL) ?_
  exact ⟨L,ds,rfl,eL,_,rfl,.refl _,hd⟩
 ·rintro d xs ρ h' ⟨d11,rfl,s,hp⟩
  refine ⟨_,rfl,?_⟩
  have nd:=(hp d AE).sm s
  simp [CB,-Ag]
  refine Ye (ds:=[bD H W f,d]) (ht.sm s) rfl ?_ fun h4 s4=>?_
  ·unfold Er
   simp
   exact Yr hh hw nd
  try simp [-Ag]
  refine Eq.mpr Ag ?_
  simp
  have s04:=s.trans s4
  refine Qd (ds:=[e,d]) (ht.sm s04) rfl ?_ fun h6 s6=>?_
  ·unfold Er
   simp
   exact Ys (he.sm s04)
  simp [B5]
  exact ⟨s4.trans s6,_,rfl,s04.trans s6,fun y hy=>hp y (AI _ hy)⟩
 ·rintro ρ h' ⟨d11,rfl,s,hp⟩
  exact q1 _ h' s
end
noncomputable abbrev YD:MS:=Ah Ja (Ah Jb (Ah Jc (Ah Jd (Ah Je (Ah Jf (Ah GL (Ah Jg (Ah Jh (Ah GM Ji)))))))))
theorem YE {ns:List Int} {k:Nat} {h:HD} {a2 a3 a4 a5 a6 a7 a8 a9 a10 a11:Option D} {Q:Fl×Af→HD→Prop} (hb:∀i∈ns,Builtin.Int.intBits i≤2^20) (hk:k≤1000) (ht:TabAt h)
 (q:∀(b2 b3 b4 b5 b6 b7 b8 b9 b10 b11:Option D) h',TabAt h'→Q (.nx,[some (.scr ns),some (.int (k:Nat)),b2,b3,b4,b5,b6,b7,b8,b9,b10,b11]) h'):
 Wp (YD [some (.scr ns),some (.int (k:Nat)),a2,a3,a4,a5,a6,a7,a8,a9,a10,a11] h) Q:=by
 refine Eq.mpr BJ ?_
 simp only [Ja,Kb,El,Em,MU,Fs,DU]
 refine XB hb hk fun b h1 x1 lb s1=>?_
 have hb0:0<b:=by have:=ht.pos;omega
 have t1:=ht.sm s1
 refine Eq.mpr Ag ?_
 refine Eq.mpr BJ ?_
 unfold Jb
 try simp [-Ag]
 refine DB x1 hb0 t1 (by decide) (by decide) fun d1 h2 l1 x2 t2 _=>?_
 try simp [-Ag]
 refine DB x2 hb0 t2 (by decide) (by decide) fun d2 h3 l2 x3 t3 _=>?_
 try simp [-Ag]
 obtain ⟨H,eH,hh⟩:∃H:Nat,(1:Int)+(d1:Int)=(H:Int)∧1≤H∧H≤8:=⟨1+d1,by omega,by omega,by omega⟩
 obtain ⟨W,eW,hw⟩:∃W:Nat,(1:Int)+(d2:Int)=(W:Int)∧1≤W∧W≤8:=⟨1+d2,by omega,by omega,by omega⟩
 rw [eH,eW]
 refine Eq.mpr Ag ?_
 refine Eq.mpr BJ ?_
 unfold Jc
 try simp [-Ag]
 refine X5 x3 hh hw fun f h4 x4 s4=>?_
 have t4:=t3.smx s4 hb0
 refine Eq.mpr Ag ?_
 refine Eq.mpr BJ ?_
 unfold Jd
 rw [Kb]
 refine (Yw (i:=5) hh hw rfl).wp fun h5 s5=>?_
 refine Eq.mpr Ag ?_
 refine Eq.mpr BJ ?_
 unfold Je
 obtain ⟨y,ry⟩:=Yz (f:=f) hh.2 hw.2
 try simp [-Ag]
 refine (Yi hh hw).wp fun h6 s6=>?_
 rw [OF]
 try simp [-Ag]
 refine (Ym hh hw).wp fun h7 s7=>?_
 rw [ry]
 try simp [-Ag]
 rw [ry]
 try simp [-Ag]
 refine Eq.mpr Ag ?_
 refine Eq.mpr BJ ?_
 unfold Jf
 try simp [-Ag,NZ]
 refine Au (Ig (by omega)) ?_
 try simp [-Ag]
 refine Au (Ig (by omega)) ?_
 try simp [-Ag]
 rw [←Qm,←Qm]
 refine Eq.mpr Ag ?_
 refine Eq.mpr BJ ?_
 have s47:=(s5.trans s6).trans s7
 refine YB (ns:=ns) (k:=k) (b:=b) (f:=f) hh hw hb0 (x4.sm s47) (t4.sm s47) fun c6 c8 h8 x8 t8=>?_
 clear x1 x2 x3 x4 t1 t2 t3 t4 s1 s4 s5 s6 s7 s47 eH eW l1 l2 ht
 refine Eq.mpr Ag ?_
 refine Eq.mpr BJ ?_
 unfold Jg
 simp [-Ag,CB]
 refine Qa x8 hb0 t8 hh fun e1 h9 n1 x9 t9 s9=>?_
 try simp [-Ag,BH]
 refine Qa x9 hb0 t9 hw fun e2 h10 n2 x10 t10 s10=>?_
 have n1:=n1.smx s10 x10
 try simp [-Ag]
 refine AM (by simp) fun l11 h11 s11 e11 _ _=>?_
 try simp [-Ag]
 refine Au (Ky (k:=1) (by simp)) ?_
 try simp [-Ag]
 refine AM (by simp) fun L h12 s12 e12 el _=>?_
 refine Eq.mpr Ag ?_
 refine Eq.mpr BJ ?_
 have s02:=s11.trans s12
 have x12:=x10.sm s02
 have t12:=t10.sm s02
 have nL:L≠b:=by have:=(x10.sm s11).lt;omega
 have m1:=n1.sm s02
 have m2:=n2.sm s02
 obtain ⟨ds,eL,hds⟩:∃ds,h12[L]?=some (.lst ds)∧∀d∈ds,NoS h12 H W d:=by
  refine ⟨_,e12,all_cons ⟨IZ m1.1 EN,Qb m1.2⟩ <| all_cons ⟨IZ EN m2.1,Yc m2.2⟩ <| all_cons ⟨Lj trivial rfl,rfl⟩ <| all_cons ⟨Lj ⟨_,s12 _ _ e11⟩ rfl,rfl⟩ <| all_cons ⟨⟨trivial,all_cons EN all_nil⟩,rfl⟩ <| all_cons ⟨IZ ⟨trivial,all_cons trivial all_nil⟩ ⟨trivial,all_nil⟩,Qb ?_⟩ all_nil⟩
  simp [Bu,BK]
  omega
 clear e12
 unfold Jh
 try simp [-Ag]
 refine XZ x12 hb0 t12 hh hw fun e h13 ne x13 t13 s13=>?_
 refine Eq.mpr Ag ?_
 refine Eq.mpr BJ ?_
 refine YC (ns:=ns) (k:=k) (b:=b) (f:=f) hh hw t13 ne (s13 _ _ nL eL) (fun d hd=>(hds d hd).smx s13 x13) fun d11 h14 s14=>?_
 refine Eq.mpr Ag ?_
 unfold Ji
 simp [CB]
 refine Qd (ds:=[e]) (t13.sm s14) rfl ?_ fun h15 s15=>?_
 ·unfold Er
  simp
  exact Yt (ne.sm s14)
 simp
 exact q _ _ _ _ _ _ _ _ _ _ h15 ((t13.sm s14).sm s15)
def IL (ns:List Int) (xs:List Nat) (ρ:Af) (h':HD):Prop:=∃d1 d2 d3 d4 d5 d6 d7 d8 d9 d10 d11,ρ=[some (.scr ns),d1,d2,d3,d4,d5,d6,d7,d8,d9,d10,d11]∧TabAt h'∧∀k∈xs,k≤1000
theorem YF:Lb=Ah (BM (CT (Aa (Ad (AV Gg) (Aa (mC (.int 1)) (Aa (Ad (AV Gh) (Aa (Ad (Aj Bj) (Aa (Ab 0) (Ac))) (Aa (mC (.int 5)) (Ac)))) (Ac)))) (Ac))) (AG 1) (Ah Ja (Ah Jb (Ah Jc (Ah Jd (Ah Je (Ah Jf (Ah GL (Ah Jg (Ah Jh (Ah GM (Ji)))))))))))) (As (mC (.bl true))):=by
 unfold Ja Jb Jc Jd Je Jf GL Jg Jh GM Ji
 rfl
theorem law_true (ns:List Int) (hl:ns.length≤63) (hb:∀i∈ns,Builtin.Int.intBits i≤2^20):∃h',F_law [.scr ns] [.tab]=.ok (.bl true) h':=by
 have main:Wp (F_law [.scr ns] [.tab]) fun d _=>d=.bl true:=by
  change Wp (Ax 12 (Lb) [.scr ns] [.tab]) _
  rw [YF,AO,BJ]
  obtain ⟨n,en,hn⟩:∃n:Nat,(if (if (5:Int)<(ns.length:Int) then (5:Int) else (ns.length:Int))>1 then (if (5:Int)<(ns.length:Int) then (5:Int) else (ns.length:Int)) else 1)=(n:Int)∧n≤99:=by
   have h0:0≤(if (if (5:Int)<(ns.length:Int) then (5:Int) else (ns.length:Int))>1 then (if (5:Int)<(ns.length:Int) then (5:Int) else (ns.length:Int)) else 1)∧(if (if (5:Int)<(ns.length:Int) then (5:Int) else (ns.length:Int))>1 then (if (5:Int)<(ns.length:Int) then (5:Int) else (ns.length:Int)) else 1)≤99:=by
    constructor<;>(split<;>split<;>omega)
   generalize (if (if (5:Int)<(ns.length:Int) then (5:Int) else (ns.length:Int))>1 then (if (5:Int)<(ns.length:Int) then (5:Int) else (ns.length:Int)) else 1)=E at h0
   exact ⟨E.toNat,by omega,by omega⟩
  refine Ft (src:=[]) (xs:=List.range n) (fun i=>.int ((i:Nat):Int)) (IL ns) ?_ (fun ys ρ h' _=>DS) ?_ ?_
  ·simp
   rw [en,Gp (by omega)]
   exact ⟨rfl,_,_,_,_,_,_,_,_,_,_,_,rfl,rfl,fun k hk=>by have:=qaU.mp hk;omega⟩
  ·rintro x xs ρ h' ⟨d1,d2,d3,d4,d5,d6,d7,d8,d9,d10,d11,rfl,t,hx⟩
   refine ⟨_,rfl,?_⟩
   refine YE hb (hx x AE) t fun _ _ _ _ _ _ _ _ _ _ h2 t2=>?_
   simp [B5]
   exact ⟨_,_,_,_,_,_,_,_,_,_,_,rfl,t2,fun k hk=>hx k (AI _ hk)⟩
  ·rintro ρ h' ⟨d1,d2,d3,d4,d5,d6,d7,d8,d9,d10,d11,rfl,t,hx⟩
   simp
 obtain ⟨a,h',e,rfl⟩:=Wp.ex main
 exact ⟨h',e⟩
end LK
set_option maxHeartbeats 0
namespace LK
open PySem PySem.Spec PyProof.Rows L2 LS
theorem YG:Kw K3:=⟨⟨rfl,rfl,rfl,by decide +kernel,rfl,by decide +kernel,by decide +kernel⟩,rfl,rfl,rfl,rfl,rfl,⟨_,_,_,_,_,_,_,_,_,_,_,_,_,_,_,_,_,rfl⟩⟩
section
set_option hygiene false
local macro_rules |`(tactic|infer_instance)=>`(tactic|first |((with_reducible show PE _ (.Name _ _) _);first |exact WS |exact SL rfl (by show mg _=_;with_reducible assumption) |exact W1 rfl (by show mg _=_;with_reducible assumption) |exact Uh rfl (B _ (by decide +kernel)) (by decide +kernel) |exact VU et (by decide +kernel)) |((with_reducible show PE _ (.Constant _ _ _) _);first |exact SI |exact SJ |exact SK |exact Mb) |((with_reducible show PE _ (.Tuple _ _ _) _);((with_reducible refine S6 ?_);ac_rfl)) |((with_reducible show PE _ (.List _ _) _);((with_reducible refine S7 ?_);ac_rfl)) |((with_reducible show PE _ (.BinOp _ .Add _ _) _);(refine E9 Tb ?_ ?_<;>ac_rfl)) |((with_reducible show PE _ (.BinOp _ .Sub _ _) _);(refine E9 Tc ?_ ?_<;>ac_rfl)) |((with_reducible show PE _ (.BinOp _ .Mod _ _) _);(refine E9 Te ?_ ?_<;>ac_rfl)) |((with_reducible show PE _ (.BinOp _ .Mult _ _) _);(refine E9 VO ?_ ?_<;>ac_rfl)) |((with_reducible show PE _ (.BinOp _ .Pow _ _) _);(refine E9 Tf ?_ ?_<;>ac_rfl)) |((with_reducible show PE _ (.BinOp _ .FloorDiv _ _) _);(refine E9 Tu ?_ ?_<;>ac_rfl)) |((with_reducible show PE _ (.Subscript _ (.Slice _ _ _ _) _) _);first |(refine Wb ?_ ?_ ?_<;>ac_rfl) |(refine Xg ?_ ?_ ?_<;>ac_rfl)) |((with_reducible show PE _ (.Subscript _ _ _) _);first |(refine To ?_ ?_ fun _ _=>rfl<;>ac_rfl) |(refine WL ?_ ?_ fun _ _=>rfl<;>ac_rfl)) |((with_reducible show PE _ (.Call (.Attribute _ "append" _) _ _ _) _);(refine Ul ?_ ?_<;>ac_rfl)) |((with_reducible show PE _ (.Call (.Attribute _ "count" _) _ _ _) _);(refine Es PySem.F.plainAttrs_list PySem.F.slot_list_count PySem.F.type_list_count Ks Vm Vk ?_ ?_<;>ac_rfl)) |((with_reducible show PE _ (.Call (.Attribute _ "index" _) _ _ _) _);(refine Es PySem.F.plainAttrs_list PySem.F.slot_list_index PySem.F.type_list_index Ks Vl Vn ?_ ?_<;>ac_rfl)) |((with_reducible show PE _ (.Call (.Attribute _ "find" _) _ _ _) _);(refine Es PySem.F.plainAttrs_str PySem.F.slot_str_find PySem.F.type_str_find GB Xa W2 ?_ ?_<;>ac_rfl)) |((with_reducible show PE _ (.Call (.Attribute _ "join" _) _ _ _) _);(refine Es PySem.F.plainAttrs_str PySem.F.slot_str_join PySem.F.type_str_join GB WM WN ?_ ?_<;>ac_rfl)) |((with_reducible show PE _ (.Call (.Attribute _ "partition" _) _ _ _) _);(refine Es PySem.F.plainAttrs_str PySem.F.slot_str_partition PySem.F.type_str_partition GB W8 W9 ?_ ?_<;>ac_rfl)) |((with_reducible show PE _ (.Call (.Attribute _ "split" _) _ _ _) _);(refine Es PySem.F.plainAttrs_str PySem.F.slot_str_split PySem.F.type_str_split GB W5 W7 ?_ ?_<;>ac_rfl)) |((with_reducible show PE _ (.Call (.Attribute _ "startswith" _) _ _ _) _);(refine Es PySem.F.plainAttrs_str PySem.F.slot_str_startswith PySem.F.type_str_startswith GB Xb W3 ?_ ?_<;>ac_rfl)) |((with_reducible show PE _ (.Call (.Name _ _) [.Lambda _ _ _ _] _ _) _);(refine WV LX (fun _=>rfl) hr HW et Sd YG (CaM.mono (k:=9) C8 (by decide)) ⟨⟨rfl,rfl,rfl,by kernel_rfl⟩,by decide +kernel,by kernel_rfl,rfl,by kernel_rfl⟩ (fun a cd cl A outer s H E' hr=>?_) rfl;ac_rfl)) |((with_reducible show PE _ (.Call (.Name _ _) _ _ _) _);first |(refine UX (by show CaE l.prog w K mg base _ _ _;with_reducible assumption) hr (by first |exact UP |exact UW |exact Vr) ?_;ac_rfl) |(refine S9 (by first |exact Uk rfl |exact Vg et |exact Tv rfl |exact Tw rfl |exact VS hr.units hr.gd |exact Ts |exact Tq) rfl (B _ (by decide +kernel)) (by decide +kernel) ?_;ac_rfl) |(refine Ta (by first |exact Tx |exact V7 |exact WI |exact Tz) rfl (B _ (by decide +kernel)) (by decide +kernel) ?_;ac_rfl) |(refine Wj rfl rfl (B _ (by decide +kernel)) rfl (B _ (by decide +kernel)) (by decide +kernel) ?_;ac_rfl)) |((with_reducible show PE _ (.ListComp _ _ _ _) _);(refine WT rfl ⟨rfl,by decide +kernel,by kernel_rfl,by decide +kernel,rfl,by kernel_rfl⟩ ?_ (Mz rfl) fun C D cells fp s₀ H₀ pins=>⟨?_,?_,?_⟩<;>ac_rfl)) |((with_reducible show PE _ (.Compare _ [.Eq] _ _) _);(refine Mc (NH hr.units) ?_ ?_ (E3 _)<;>ac_rfl)) |((with_reducible show PE _ (.Compare _ [.Lt] _ _) _);(refine Mc Hu ?_ ?_ (E3 _)<;>ac_rfl)) |((with_reducible show PE _ (.Compare _ [_,_] _ _) _);(refine S4 Mi Mi ?_ ?_ ?_<;>ac_rfl)) |((with_reducible show PE _ (.BoolOp _ _ _) _);first |(refine SY ?_ ?_<;>ac_rfl) |(refine SW ?_;ac_rfl)) |((with_reducible show PE _ (.UnaryOp _ _ _) _);first |(refine SZ ?_;ac_rfl) |(refine Uo ?_;ac_rfl)) |((with_reducible show PE _ (.IfExp _ _ _ _) _);(refine S3 ?_ ?_ ?_<;>ac_rfl)) |((with_reducible show PE _ (.Dict _ _ _) _);exact V8) |((with_reducible show PE _ (.JoinedStr _ _) _);(refine VR ?_;ac_rfl)))
local macro_rules |`(tactic|nofun)=>`(tactic|first |((with_reducible show PT _ (.Compare _ [.Eq] _ _) _);(refine Hk (NH hr.units) ?_ ?_ (E3 _)<;>ac_rfl)) |((with_reducible show PT _ (.Compare _ [.NotEq] _ _) _);(refine Hk (VT hr.units) ?_ ?_ (E3 _)<;>ac_rfl)) |((with_reducible show PT _ (.Compare _ [.Gt] _ _) _);(refine Hk Td ?_ ?_ (E3 _)<;>ac_rfl)) |((with_reducible show PT _ (.Compare _ [.Lt] _ _) _);(refine Hk Hu ?_ ?_ (E3 _)<;>ac_rfl)) |((with_reducible show PT _ (.Compare _ [_,_] _ _) _);(refine S5 Hu Hu ?_ ?_ ?_<;>ac_rfl)) |((with_reducible show PT _ (.UnaryOp .Not _ _) _);(refine SV ?_;ac_rfl)) |((with_reducible show PT _ (.BoolOp _ _ _) _);(refine SU (Mf ?_ ?_)<;>ac_rfl)) |((with_reducible show PT _ _ _);(refine SO ?_;ac_rfl)))
local macro_rules |`(tactic|contradiction)=>`(tactic|first |((with_reducible show PI _ _ (.Call (.Name _ _) _ _ _) _);(refine TV rfl (B _ (by decide +kernel)) ?_;ac_rfl)) |((with_reducible show PI _ _ _ _);first |(refine Xk ?_;ac_rfl) |(refine TR ?_;ac_rfl)))
local macro_rules |`(tactic|bv_omega)=>`(tactic|first |((with_reducible show PS _ (.Return _ _) _);(refine Mm ?_;ac_rfl)) |((with_reducible show PS _ (.If _ _ _ _) _);(refine TF ?_ ?_ ?_<;>ac_rfl)) |((with_reducible show PS _ (.Assign [.Name _ _] (.ListComp _ _ _ _) _) _);(refine WU rfl nd rfl (by first|exact .inl rfl|exact .inr rfl) ⟨rfl,by decide +kernel,by kernel_rfl,by decide +kernel,rfl,by kernel_rfl⟩ ?_ (Mz rfl) fun C D cells fp s₀ H₀ pins=>⟨?_,?_,?_⟩<;>ac_rfl)) |((with_reducible show PS _ (.Assign [.Name _ _] _ _) _);((with_reducible refine JZ ?_ ?_ ?_ ?_ ?_ ?_)<;>ac_rfl)) |((with_reducible show PS _ (.Expr _ _) _);(refine TC ?_;ac_rfl)) |((with_reducible show PS _ (.For _ _ _ _ _) _);(refine TX UZ rfl ?_ ?_ ?_<;>ac_rfl)) |((with_reducible show PS _ (.Assign [.Tuple _ _ _] _ _) _);first |(refine TJ rfl nd rfl rfl (by decide) rfl rfl ?_ (by first |rfl |with_unfolding_all rfl);ac_rfl) |(refine TM ?_ ?_<;>ac_rfl)) |((with_reducible show PS _ (.Assign [.Subscript _ _ _] _ _) _);(refine Um ?_ ?_ ?_<;>ac_rfl)) |((with_reducible show PS _ (.Raise _ _ _) _);(refine VV et (by decide +kernel) (by decide +kernel) rfl rfl UU ?_;ac_rfl)))
local macro_rules |`(tactic|split)=>`(tactic|first |((with_reducible show PW _ _ _);first |(refine Mf ?_ ?_<;>ac_rfl) |(refine SS ?_;ac_rfl)) |((with_reducible show DR _ (.Name _ _) _);exact TK (Dj (by first |exact nd |exact of_decide_eq_true (by kernel_rfl)) rfl (by first|exact .inl rfl|exact .inr rfl))) |((with_reducible show DR _ (.Tuple [_,_] _ _) _);first |exact TL (Up rfl (Dj (by first |exact nd |exact of_decide_eq_true (by kernel_rfl)) rfl (by first|exact .inl rfl|exact .inr rfl)) (Dj (by first |exact nd |exact of_decide_eq_true (by kernel_rfl)) rfl (by first|exact .inl rfl|exact .inr rfl))) |exact NK (Jt rfl (Ec (Dj (by first |exact nd |exact of_decide_eq_true (by kernel_rfl)) rfl (by first|exact .inl rfl|exact .inr rfl)) (Ec (Dj (by first |exact nd |exact of_decide_eq_true (by kernel_rfl)) rfl (by first|exact .inl rfl|exact .inr rfl)) Js)))) |((with_reducible show DR _ (.Tuple [_,_,_] _ _) _);exact NK (Jt rfl (Ec (Dj (by first |exact nd |exact of_decide_eq_true (by kernel_rfl)) rfl (by first|exact .inl rfl|exact .inr rfl)) (Ec (Dj (by first |exact nd |exact of_decide_eq_true (by kernel_rfl)) rfl (by first|exact .inl rfl|exact .inr rfl)) (Ec (Dj (by first |exact nd |exact of_decide_eq_true (by kernel_rfl)) rfl (by first|exact .inl rfl|exact .inr rfl)) Js))))) |((with_reducible show PG _ (.Name _ _) _);exact Dj (by first |exact nd |exact of_decide_eq_true (by kernel_rfl)) rfl (by first|exact .inl rfl|exact .inr rfl)) |rfl |exact nd |exact Or.inl rfl |exact Or.inr rfl |exact Ua |(refine Ub ?_;ac_rfl) |exact U0 |(refine U1 ?_;ac_rfl) |exact VP |(refine VQ ?_;ac_rfl) |(refine Xh ?_ ?_<;>ac_rfl))
local macro_rules |`(tactic|ac_rfl)=>`(tactic|first |((with_reducible show PE _ _ _);infer_instance) |((with_reducible show PA _ _ _);first |with_reducible exact Hq |((with_reducible refine Hr ?_ ?_ ?_)<;>ac_rfl)) |((with_reducible show PS _ _ _);bv_omega) |((with_reducible show Ca _ _ _);first |with_reducible exact TH |with_reducible exact TB |((with_reducible refine Hx ?_);ac_rfl) |((with_reducible refine Hz ?_ ?_)<;>ac_rfl) |(refine Hx ?_;ac_rfl) |(refine Hz ?_ ?_<;>ac_rfl)) |((with_reducible show PT _ _ _);nofun) |((with_reducible show PI _ _ _ _);contradiction) |split)
def want:Tp.Want:=⟨[(("is_whole":Str),OI),(("is_line_tuple":Str),OK),(("figures_text":Str),OM),(("signs_read":Str),ON),(("need_text":Str),OO),(("_law_cell":Str),OQ),(("_law_mix":Str),OR),(("_law_take":Str),OU),(("_law_kind":Str),OW),(("_law_line":Str),OY),(("_law_figures":Str),O0),(("is_between":Str),O1),(("is_lot":Str),O2),(("_law_box":Str),O4),(("_law_wide_box":Str),O6),(("_law_no_board":Str),O8),(("_law_lot":Str),Pa),(("_law_no_lot":Str),Pc),(("is_light":Str),Pe),(("switching_read":Str),Pg),(("_law_board":Str),Ph),(("is_row":Str),Pj),(("is_board":Str),Pl),(("need_board":Str),Pn),(("board_read":Str),Po),(("is_switching":Str),Pp),(("board_text":Str),Pq),(("need_switching":Str),Pr),(("switching_text":Str),Pt),(("law":Str),s_law),(("_law_said":Str),K3)],[(("MOST_LINES":Str),(8:Int))],["ValueError","all","bool","divmod","int","isinstance","len","list","max","min","range","repr","str","tuple"]⟩
def Qp (K:PySem.W.Frag):Bool:=Tp.strsIn K [(("FIGURES":Str),("0123456789":Str)),(("LIGHT_SIGNS":Str),(".#":Str))]
section
variable {l:PySem.W.OpenLaw} {w:World} {K:PySem.W.Frag} {h base:Heap} {mg:Str→Option Value} {t_MOST_LINES t_FIGURES t_LIGHT_SIGNS:Tok} (fs:∀(i:Nat) n st,want.fs[i]?=some (n,st)→Tp.SeenF K n st) (X:K.In h) (G:h.Ns mainGlobals mg) (B:∀x∈want.bs,mg x=none) (et:etOk K=true) (M_MOST_LINES:mg "MOST_LINES"=some (.int 8 t_MOST_LINES)) (M_FIGURES:mg "FIGURES"=some (.str "0123456789" t_FIGURES)) (M_LIGHT_SIGNS:mg "LIGHT_SIGNS"=some (.str ".#" t_LIGHT_SIGNS))
include fs X G B et M_MOST_LINES M_FIGURES M_LIGHT_SIGNS
theorem YH:CaE l.prog w K mg base "is_whole" 1 DA:=A3 (fs 0 _ OI rfl) X G (N:=["thing"]) (ps:=["thing"]) fun nd _ _ _ _ _ _ _ hr=>by ac_rfl
theorem YI:CaE l.prog w K mg base "is_line_tuple" 1 FI:=A3 (fs 1 _ OK rfl) X G (N:=["thing"]) (ps:=["thing"]) fun nd _ _ _ _ _ _ _ hr=>by ac_rfl
theorem YJ:CaE l.prog w K mg base "figures_text" 1 GF:=A3 (fs 2 _ OM rfl) X G (N:=["lot"]) (ps:=["lot"]) fun nd _ _ _ _ _ _ _ hr=>by ac_rfl
theorem YK:CaE l.prog w K mg base "signs_read" 1 D0:=A3 (fs 3 _ ON rfl) X G (N:=["text","signs"]) (ps:=["text","signs"]) fun nd _ _ _ _ _ _ _ hr=>by ac_rfl
theorem YL:CaE l.prog w K mg base "need_text" 1 FJ:=A3 (fs 4 _ OO rfl) X G (N:=["thing"]) (ps:=["thing"]) fun nd _ _ _ _ _ _ _ hr=>by ac_rfl
theorem YM:CaE l.prog w K mg base "_law_cell" 1 ID:=A3 (fs 5 _ OQ rfl) X G (N:=["_law_script","_law_k"]) (ps:=["_law_script","_law_k"]) fun nd _ _ _ _ _ _ _ hr=>by ac_rfl
theorem YN:CaE l.prog w K mg base "_law_mix" 1 IE:=A3 (fs 6 _ OR rfl) X G (N:=["_law_cell_here","_law_k","_law_number"]) (ps:=["_law_cell_here","_law_k"]) fun nd _ _ _ _ _ _ _ hr=>by ac_rfl
theorem YO:CaE l.prog w K mg base "_law_take" 1 Bl:=A3 (fs 7 _ OU rfl) X G (N:=["_law_box_here","_law_many","_law_left","_law_digit"]) (ps:=["_law_box_here","_law_many"]) fun nd _ _ _ _ _ _ _ hr=>by ac_rfl
theorem YQ:CaM l.prog w K mg base "_law_kind" 1 Cz:=WW (fs 8 _ OW rfl) X G (N:=["_law_e","_law_kinds","_law_words"]) (ps:=["_law_e"]) fun nd _ _ _ _ _ _ hr=>by ac_rfl
theorem YR:CaE l.prog w K mg base "_law_line" 1 GG:=A3 (fs 9 _ OY rfl) X G (N:=["_law_row","_law_text","_law_light"]) (ps:=["_law_row"]) fun nd _ _ _ _ _ _ _ hr=>by ac_rfl
theorem YS:CaE l.prog w K mg base "_law_figures" 1 FK:=A3 (fs 10 _ O0 rfl) X G (N:=["_law_lot_here"]) (ps:=["_law_lot_here"]) fun nd _ _ _ _ _ _ _ hr=>by ac_rfl
theorem YT (C0:CaE l.prog w K mg base "is_whole" 1 DA):CaE l.prog w K mg base "is_between" 2 GH:=A3 (fs 11 _ O1 rfl) X G (N:=["thing","least","most"]) (ps:=["thing","least","most"]) fun nd _ _ _ _ _ _ _ hr=>by ac_rfl
theorem YU (C0:CaE l.prog w K mg base "is_whole" 1 DA):CaE l.prog w K mg base "is_lot" 2 EJ:=A3 (fs 12 _ O2 rfl) X G (N:=["thing","size","last","number"]) (ps:=["thing","size"]) fun nd _ _ _ _ _ _ _ hr=>by ac_rfl
theorem YV (C5:CaE l.prog w K mg base "_law_cell" 1 ID) (C6:CaE l.prog w K mg base "_law_mix" 1 IE):CaE l.prog w K mg base "_law_box" 2 IF:=A3 (fs 13 _ O4 rfl) X G (N:=["_law_script","_law_k","_law_here","_law_number","_law_j"]) (ps:=["_law_script","_law_k"]) fun nd _ _ _ _ _ _ _ hr=>by ac_rfl
theorem YW (C7:CaE l.prog w K mg base "_law_take" 1 Bl):CaE l.prog w K mg base "_law_wide_box" 2 IG:=A3 (fs 14 _ O6 rfl) X G (N:=["_law_box_here","_law_number","_law_many","_law_j"]) (ps:=["_law_box_here"]) fun nd _ _ _ _ _ _ _ hr=>by ac_rfl
theorem YX (C7:CaE l.prog w K mg base "_law_take" 1 Bl):CaE l.prog w K mg base "_law_no_board" 2 IH:=A3 (fs 15 _ O8 rfl) X G (N:=["_law_box_here","_law_board_here","_law_at","_law_place","_law_odd","_law_row","_law_bent","_law_some"]) (ps:=["_law_box_here","_law_board_here"]) fun nd _ _ _ _ _ _ _ hr=>by ac_rfl
theorem YY (C7:CaE l.prog w K mg base "_law_take" 1 Bl):CaE l.prog w K mg base "_law_lot" 2 FL:=A3 (fs 16 _ Pa rfl) X G (N:=["_law_box_here","_law_size"]) (ps:=["_law_box_here","_law_size"]) fun nd _ _ _ _ _ _ _ hr=>by ac_rfl
theorem YZ (C7:CaE l.prog w K mg base "_law_take" 1 Bl):CaE l.prog w K mg base "_law_no_lot" 2 FM:=A3 (fs 17 _ Pc rfl) X G (N:=["_law_box_here","_law_size","_law_low","_law_odd","_law_some"]) (ps:=["_law_box_here","_law_size"]) fun nd _ _ _ _ _ _ _ hr=>by ac_rfl
theorem Y0 (C11:CaE l.prog w K mg base "is_between" 2 GH):CaE l.prog w K mg base "is_light" 3 II:=A3 (fs 18 _ Pe rfl) X G (N:=["thing"]) (ps:=["thing"]) fun nd _ _ _ _ _ _ _ hr=>by ac_rfl
theorem Y1 (C4:CaE l.prog w K mg base "need_text" 1 FJ) (C3:CaE l.prog w K mg base "signs_read" 1 D0) (C12:CaE l.prog w K mg base "is_lot" 2 EJ):CaE l.prog w K mg base "switching_read" 3 IK:=A3 (fs 19 _ Pg rfl) X G (N:=["text","ahead","between","behind","lots","has_signs"]) (ps:=["text"]) fun nd _ _ _ _ _ _ _ hr=>by ac_rfl
theorem Y2 (C7:CaE l.prog w K mg base "_law_take" 1 Bl) (C14:CaE l.prog w K mg base "_law_wide_box" 2 IG):CaE l.prog w K mg base "_law_board" 3 IP:=A3 (fs 20 _ Ph rfl) X G (N:=["_law_box_here","_law_high","_law_wide","_law_way","_law_digits","_law_dense","_law_rows","_law_number"]) (ps:=["_law_box_here","_law_high","_law_wide"]) fun nd _ _ _ _ _ _ _ hr=>by ac_rfl
theorem Y3 (C1:CaE l.prog w K mg base "is_line_tuple" 1 FI) (C18:CaE l.prog w K mg base "is_light" 3 II):CaE l.prog w K mg base "is_row" 4 IQ:=A3 (fs 21 _ Pj rfl) X G (N:=["thing"]) (ps:=["thing"]) fun nd _ _ _ _ _ _ _ hr=>by ac_rfl
theorem Y4 (C1:CaE l.prog w K mg base "is_line_tuple" 1 FI) (C21:CaE l.prog w K mg base "is_row" 4 IQ):CaE l.prog w K mg base "is_board" 5 FN:=A3 (fs 22 _ Pl rfl) X G (N:=["thing"]) (ps:=["thing"]) fun nd _ _ _ _ _ _ _ hr=>by ac_rfl
theorem Y5 (C22:CaE l.prog w K mg base "is_board" 5 FN):CaE l.prog w K mg base "need_board" 6 D1:=A3 (fs 23 _ Pn rfl) X G (N:=["thing"]) (ps:=["thing"]) fun nd _ _ _ _ _ _ _ hr=>by ac_rfl
theorem Y6 (C4:CaE l.prog w K mg base "need_text" 1 FJ) (C3:CaE l.prog w K mg base "signs_read" 1 D0) (C22:CaE l.prog w K mg base "is_board" 5 FN):CaE l.prog w K mg base "board_read" 6 IS:=A3 (fs 24 _ Po rfl) X G (N:=["text","board"]) (ps:=["text"]) fun nd _ _ _ _ _ _ _ hr=>by ac_rfl
theorem Y7 (C23:CaE l.prog w K mg base "need_board" 6 D1) (C12:CaE l.prog w K mg base "is_lot" 2 EJ):CaE l.prog w K mg base "is_switching" 7 FO:=A3 (fs 25 _ Pp rfl) X G (N:=["board","thing"]) (ps:=["board","thing"]) fun nd _ _ _ _ _ _ _ hr=>by ac_rfl
theorem Y8 (C23:CaE l.prog w K mg base "need_board" 6 D1):CaE l.prog w K mg base "board_text" 7 EK:=A3 (fs 26 _ Pq rfl) X G (N:=["board"]) (ps:=["board"]) fun nd _ _ _ _ _ _ _ hr=>by ac_rfl
theorem Y9 (C25:CaE l.prog w K mg base "is_switching" 7 FO):CaE l.prog w K mg base "need_switching" 8 FP:=A3 (fs 27 _ Pr rfl) X G (N:=["board","thing"]) (ps:=["board","thing"]) fun nd _ _ _ _ _ _ _ hr=>by ac_rfl
theorem Za (C27:CaE l.prog w K mg base "need_switching" 8 FP) (C2:CaE l.prog w K mg base "figures_text" 1 GF):CaE l.prog w K mg base "switching_text" 9 Df:=A3 (fs 28 _ Pt rfl) X G (N:=["board","switching","rows","columns"]) (ps:=["board","switching"]) fun nd _ _ _ _ _ _ _ hr=>by ac_rfl
end
theorem all_mk {l:PySem.W.OpenLaw} {w:World} {K:PySem.W.Frag} {h:Heap} {mg:Str→Option Value} {fa c T:Addr} (HS:Tp.Has want K c T∧Qp K=true) (X:K.In h) (G:h.Ns mainGlobals mg) (hfa:mg "law"=some (.ref fa)):
 ∃fd:FuncData,(∀(s:Shared) (v:Value),BindsTo s fd ⟨[v],[]⟩ [("_law_script",v)])∧∀base:Heap,K.In base→base.Ns mainGlobals mg→Gv mg base→FnOk l.prog w K mg base (AK l.prog w K) 12 fa fd ["_law_script"] (Dr K F_law):=by
 obtain ⟨⟨fs,cs,bs,et,tb,hd,no⟩,wx⟩:=HS
 obtain ⟨f_law,_,an_law,_,_,kV_law,dc_law,pm_law,cd_law,ct_law,a_law,l_law,c_law,k_law⟩:=fs 29 "law" s_law rfl
 cases Tp.tab_cd tb a_law l_law
 cases hfa.symm.trans (PySem.W.mg_of X G a_law)
 have B:=WY bs X G
 obtain ⟨fsd,fdd,Sd⟩:=WX (fs 30 _ K3 rfl) X G
 obtain ⟨t_MOST_LINES,v_MOST_LINES⟩:=cs 0 "MOST_LINES" 8 rfl
 have M_MOST_LINES:=PySem.W.mg_of X G v_MOST_LINES
 obtain ⟨t_FIGURES,v_FIGURES⟩:=Tp.strsIn_of wx 0 "FIGURES" "0123456789" rfl
 have M_FIGURES:=PySem.W.mg_of X G v_FIGURES
 obtain ⟨t_LIGHT_SIGNS,v_LIGHT_SIGNS⟩:=Tp.strsIn_of wx 1 "LIGHT_SIGNS" ".#" rfl
 have M_LIGHT_SIGNS:=PySem.W.mg_of X G v_LIGHT_SIGNS
 refine ⟨PySem.W.fnOf "law" "law" (defArgs s_law) (defBody s_law) (defScope s_law) .none kV_law dc_law pm_law an_law (.ref c) ct_law,fun s v=>.of_eq rfl,fun base _ _ hbm=>?_⟩
 have C0:=YH (l:=l) (w:=w) (base:=base) fs X G B et M_MOST_LINES M_FIGURES M_LIGHT_SIGNS
 have C1:=YI (l:=l) (w:=w) (base:=base) fs X G B et M_MOST_LINES M_FIGURES M_LIGHT_SIGNS
 have C2:=YJ (l:=l) (w:=w) (base:=base) fs X G B et M_MOST_LINES M_FIGURES M_LIGHT_SIGNS
 have C3:=YK (l:=l) (w:=w) (base:=base) fs X G B et M_MOST_LINES M_FIGURES M_LIGHT_SIGNS
 have C4:=YL (l:=l) (w:=w) (base:=base) fs X G B et M_MOST_LINES M_FIGURES M_LIGHT_SIGNS
 have C5:=YM (l:=l) (w:=w) (base:=base) fs X G B et M_MOST_LINES M_FIGURES M_LIGHT_SIGNS
 have C6:=YN (l:=l) (w:=w) (base:=base) fs X G B et M_MOST_LINES M_FIGURES M_LIGHT_SIGNS
 have C7:=YO (l:=l) (w:=w) (base:=base) fs X G B et M_MOST_LINES M_FIGURES M_LIGHT_SIGNS
 have C8:=YQ (l:=l) (w:=w) (base:=base) fs X G B et M_MOST_LINES M_FIGURES M_LIGHT_SIGNS
 have C9:=YR (l:=l) (w:=w) (base:=base) fs X G B et M_MOST_LINES M_FIGURES M_LIGHT_SIGNS
 have C10:=YS (l:=l) (w:=w) (base:=base) fs X G B et M_MOST_LINES M_FIGURES M_LIGHT_SIGNS
 have C11:=YT (l:=l) (w:=w) (base:=base) fs X G B et M_MOST_LINES M_FIGURES M_LIGHT_SIGNS C0
 have C12:=YU (l:=l) (w:=w) (base:=base) fs X G B et M_MOST_LINES M_FIGURES M_LIGHT_SIGNS C0
 have C13:=YV (l:=l) (w:=w) (base:=base) fs X G B et M_MOST_LINES M_FIGURES M_LIGHT_SIGNS C5 C6
 have C14:=YW (l:=l) (w:=w) (base:=base) fs X G B et M_MOST_LINES M_FIGURES M_LIGHT_SIGNS C7
 have C15:=YX (l:=l) (w:=w) (base:=base) fs X G B et M_MOST_LINES M_FIGURES M_LIGHT_SIGNS C7
 have C16:=YY (l:=l) (w:=w) (base:=base) fs X G B et M_MOST_LINES M_FIGURES M_LIGHT_SIGNS C7
 have C17:=YZ (l:=l) (w:=w) (base:=base) fs X G B et M_MOST_LINES M_FIGURES M_LIGHT_SIGNS C7
 have C18:=Y0 (l:=l) (w:=w) (base:=base) fs X G B et M_MOST_LINES M_FIGURES M_LIGHT_SIGNS C11
 have C19:=Y1 (l:=l) (w:=w) (base:=base) fs X G B et M_MOST_LINES M_FIGURES M_LIGHT_SIGNS C4 C3 C12
 have C20:=Y2 (l:=l) (w:=w) (base:=base) fs X G B et M_MOST_LINES M_FIGURES M_LIGHT_SIGNS C7 C14
 have C21:=Y3 (l:=l) (w:=w) (base:=base) fs X G B et M_MOST_LINES M_FIGURES M_LIGHT_SIGNS C1 C18
 have C22:=Y4 (l:=l) (w:=w) (base:=base) fs X G B et M_MOST_LINES M_FIGURES M_LIGHT_SIGNS C1 C21
 have C23:=Y5 (l:=l) (w:=w) (base:=base) fs X G B et M_MOST_LINES M_FIGURES M_LIGHT_SIGNS C22
 have C24:=Y6 (l:=l) (w:=w) (base:=base) fs X G B et M_MOST_LINES M_FIGURES M_LIGHT_SIGNS C4 C3 C22
 have C25:=Y7 (l:=l) (w:=w) (base:=base) fs X G B et M_MOST_LINES M_FIGURES M_LIGHT_SIGNS C23 C12
 have C26:=Y8 (l:=l) (w:=w) (base:=base) fs X G B et M_MOST_LINES M_FIGURES M_LIGHT_SIGNS C23
 have C27:=Y9 (l:=l) (w:=w) (base:=base) fs X G B et M_MOST_LINES M_FIGURES M_LIGHT_SIGNS C25
 have C28:=Za (l:=l) (w:=w) (base:=base) fs X G B et M_MOST_LINES M_FIGURES M_LIGHT_SIGNS C27 C2
 have sc:CD ["_law_script","_law_k","_law_box_here","_law_high","_law_wide","_law_board_here","_law_text","_law_every","_law_some","_law_bad","_law_none","_law_thing"] ["_law_script"] (defScope s_law):=⟨rfl,rfl,rfl,by decide +kernel,rfl,by decide +kernel,by decide +kernel⟩
 have nd:=sc.nd
 exact VX l_law c_law sc (fun ds h e=>if_neg e) (fun ds h e=>if_pos e) fun A outer s H E hr=>by
  have LX:LamX (Bp (AK l.prog w K) l.prog w K mg base ["_law_script","_law_k","_law_box_here","_law_high","_law_wide","_law_board_here","_law_text","_law_every","_law_some","_law_bad","_law_none","_law_thing"] "law" (defScope s_law) fa (.ref c) A outer s H E) c T:=⟨rfl,tb,hd,(show ("law":Str)++".<locals>."=("law.<locals>.":Str) by decide +kernel),hbm⟩
  ac_rfl
end
end LK
namespace LK
open PySem PySem.W
abbrev top_q:Program:=view PySem.Challenge.pw_lineswitch_k91_boards_and_switchings_wri [48]
abbrev top_loose:List Str:=(PySem.Challenge.pw_lineswitch_k91_boards_and_switchings_wri.main.scope.names.map (·.1)).filter fun x=>!(x=="law")
set_option maxHeartbeats 0 in
theorem top_left:LeftO PySem.Challenge.pw_lineswitch_k91_boards_and_switchings_wri top_q top_loose (fun _=>true) (Tp.obsX want Qp) (fun _=>Tp.valX want) 1000000:=
 Tp.left_of (n:=50) (by kernel_rfl) (fun s=>by kernel_rfl) (fun w=>by kernel_rfl) (fun w os=>by
  rw [PySem.W.Fast.te10156331382660048174,PySem.W.Fast.te11892475500146522536,PySem.W.Fast.te14364793385576792824,PySem.W.Fast.te10110043849684766642,PySem.W.Fast.te6613529449190102663,PySem.W.Fast.te4187177175401517315,PySem.W.Fast.te5923862056798008813]
  kernel_rfl)
end LK
open PySem PySem.W PyProof.Rows
set_option maxRecDepth 100000 in
set_option maxHeartbeats 0 in
theorem PySem.Challenge.cw_lineswitch_k91_boards_and_switchings_wri_holds : PySem.Challenge.rw_lineswitch_k91_boards_and_switchings_wri.Holds := by
 w_on;o_law
 refine PySem.W.holds_open (q:=LK.top_q) (loose:=LK.top_loose) (d:=⟨"law",L2.defArgs LK.s_law,L2.defBody LK.s_law,L2.defScope LK.s_law,_⟩) (kwd:=[]) (Xt:=fun _=>true) (XP:=fun _ _=>True) (N:=1000000) LK.top_left Tp.saysX_of Tp.SaysX.keeps (fun _ _=>trivial) (fun _ _ _ _ _=>trivial) (by rfl) (by kernel_rfl) (by kernel_rfl) (fun s _=>recFacts_nil (by rfl)) (by rfl) (by assumption) (by kernel_rfl) ⟨rfl,rfl,rfl,rfl,rfl,by decide +kernel⟩ ?hw ?hc
 case hw=>w_witness2
 case hc=>exact LS.walk_hdX (n:=63) (k:=12) (x:="_law_script") (F:=LK.F_law) rfl (by decide) rfl ⟨rfl,by decide,by decide,rfl⟩ (fun w K c T mg fa h HS X G hfa=>LK.all_mk HS X G hfa) LK.law_true
