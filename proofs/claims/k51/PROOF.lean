import PyProof.Rows.All
import Wide.All
import OpenK.AllK
import Wide.FinOn
import Lean
import PyProof.EqAt
import PyProof.EqKinds
import PyProof.TupleCall
import PyProof.ExcBaseAll.ValueError
import PyProof.ZipIter
import KE.KIsAll
import KE.KTryMore
import PyProof.ExcArgsOwn
import PyProof.ExcAttrAll.ValueError
import KE.KLam
import KE.KNestM
import PyProof.NsDelKeeps
import PyProof.Rows.CatchPack
import PyProof.ReprRoads
import PyProof.Rows.FStr
import PyProof.ListRange
import PyProof.CollectIter
import KE.KRevSl
import PyProof.ExcInit
import PyProof.ExcClass2
import PyProof.InstStore
import PyProof.InstStoreFacts
import PyProof.InstLoad
import OpenK.KMore
import PyProof.Rows.StrKeys3
import PyProof.ReprLen
import PySem.Challenge.RW_lineswitch_k51_worst_boards
set_option Elab.async false
set_option linter.all false
set_option maxRecDepth 100000
abbrev AJ:=@PySem.Heap.get?_push_of_some
abbrev AS:=@List.mem_cons_of_mem
abbrev AH:=@List.prefix_refl
abbrev AO:=@List.mem_cons_self
abbrev Bb:=@List.getElem?_eq_getElem
abbrev qa5:=@List.getElem?_eq_some_iff
abbrev AX:=@Nat.lt_of_lt_of_le
abbrev qa7:=@List.mem_cons
abbrev AE:=@PySem.Heap.lt_size
abbrev A5:=@List.size_toArray
abbrev Bt:=@List.mem_append_right
abbrev AM:=@Nat.le_refl
abbrev Bz:=@PySem.Heap.get?_push_size
abbrev qaD:=@List.mem_singleton
abbrev BL:=@Bool.false_ne_true
abbrev BU:=@List.getElem?_set_ne
abbrev CF:=@List.getElem?_set_self
abbrev BM:=@List.map_cons
abbrev BA:=@Nat.le_trans
abbrev Ca:=@List.getElem?_map
abbrev BG:=@Nat.ne_of_lt
abbrev CG:=@List.length_append
abbrev CH:=@Bool.false_eq_true
abbrev qaN:=@List.all_eq_true
abbrev Cm:=@List.length_map
abbrev EA:=@List.getD_eq_getElem?_getD
abbrev DF:=@Nat.pow_le_pow_right
abbrev qaR:=@Option.map_eq_some_iff
abbrev CN:=@Bool.and_eq_true
abbrev Ct:=@PySem.Heap.size_push
abbrev CO:=@List.map_append
abbrev Cn:=@Nat.ne_of_gt
abbrev qaW:=@List.mem_map
abbrev Dl:=@List.range_succ
abbrev FP:=@List.getElem?_append_left
abbrev CP:=@Nat.lt_irrefl
abbrev DK:=@List.not_mem_nil
abbrev qb1:=@List.mem_range
abbrev qb2:=@List.mem_append
abbrev EB:=@List.lookup_cons
abbrev ED:=@List.append_nil
abbrev DL:=@List.map_map
abbrev Fs:=@Nat.le_add_right
abbrev Gv:=@List.mem_append_left
abbrev Gw:=@List.mem_of_getElem?
abbrev Gx:=@List.replicate_succ
abbrev IQ:=@List.getElem?_append_right
abbrev FQ:=@List.length_cons
abbrev FR:=@List.sum_append
abbrev Hs:=@List.filterMap_cons
abbrev Ht:=@List.getElem?_range
abbrev Hu:=@List.map_congr_left
abbrev Gy:=@List.cons_append
abbrev IR:=@PySem.Heap.get?_update_other
abbrev EF:=@Nat.zero_le
abbrev IS:=@PySem.Heap.get?_update_self
abbrev Hv:=@List.flatten_cons
abbrev Hw:=@Nat.lt_succ_of_lt
abbrev Kj:=@List.drop_eq_getElem_cons
abbrev qbN:=@Option.isSome_iff_exists
abbrev FS:=@Nat.mul_comm
abbrev FT:=@List.map_nil
abbrev Hx:=@Nat.le_of_not_lt
abbrev Hz:=@List.getElem_mem
abbrev IT:=@List.getElem_of_mem
abbrev qbT:=@Bool.eq_iff_iff
abbrev qbU:=@List.nodup_cons
abbrev HA:=@List.nil_append
abbrev HB:=@List.length_nil
abbrev IU:=@List.flatMap_cons
abbrev Kk:=@List.length_filter_le
abbrev IV:=@Option.map_some
abbrev HC:=@Nat.le_of_lt
abbrev HE:=@Nat.add_comm
abbrev Kl:=@List.contains_cons
abbrev Mn:=@List.getElem?_replicate
abbrev qc4:=@List.length_eq_zero_iff
abbrev HF:=@Nat.le_succ
abbrev IW:=@List.sum_cons
abbrev Mo:=@PySem.Heap.get?_none_of_le
abbrev Km:=@List.of_mem_zip
abbrev IX:=@Nat.succ_mul
abbrev Kn:=@Int.le_antisymm
abbrev Mp:=@List.mem_of_mem_tail
abbrev Ko:=@Nat.mul_le_mul
namespace L2
open PySem PySem.Spec PyProof.Rows
abbrev T1:=Sum Int Str
inductive V where
 |non |bl (b:Bool) |int (i:Int) |str (x:Str) |byt (b:Array UInt8) |flt (b:UInt64) |ref (a:Addr) |ty (n:String)
 deriving DecidableEq
def RelV:V→Value→Prop
 |.non,u=>u=Value.none
 |.bl b,u=>u=Value.bool b
 |.int i,u=>∃t,u=Value.int i t
 |.str x,u=>∃t,u=Value.str x t
 |.byt b,u=>∃t,u=Value.bytes b t
 |.flt b,u=>∃t,u=Value.float b t
 |.ref a,u=>u=Value.ref a
 |.ty n,u=>u=Value.type n
abbrev Vals:List V→List Value→Prop:=Paired RelV
theorem Vals.length {xs:List V} {us:List Value} (r:Vals xs us):xs.length=us.length:=Paired.length r
theorem Vals.get:∀{xs:List V} {us:List Value} {i:Nat} {x:V},Vals xs us→xs[i]?=some x→∃u,us[i]?=some u∧RelV x u
 |_,_,_,_,.nil,e=>by simp at e
 |_,_,0,_,.cons r _,e=>by simp at e;subst e;exact ⟨_,rfl,r⟩
 |_,_,i+1,x,.cons _ t,e=>by
  obtain ⟨u,h1,h2⟩:=Vals.get (i:=i) (x:=x) t (by simpa using e)
  exact ⟨u,by simpa using h1,h2⟩
theorem Vals.set {x:V} {u:Value} (r:RelV x u):∀{xs:List V} {us:List Value} (i:Nat),Vals xs us→Vals (xs.set i x) (us.set i u)
 |_,_,_,.nil=>.nil
 |_,_,0,.cons _ t=>.cons r t
 |_,_,i+1,.cons q t=>.cons q (Vals.set r i t)
theorem Vals.append:∀{xs ys:List V} {us ws:List Value},Vals xs us→Vals ys ws→Vals (xs++ys) (us++ws)
 |_,_,_,_,.nil,s=>s
 |_,_,_,_,.cons r t,s=>.cons r (Vals.append t s)
theorem Vals.take:∀{xs:List V} {us:List Value} (n:Nat),Vals xs us→Vals (xs.take n) (us.take n)
 |_,_,0,_=>.nil
 |_,_,_+1,.nil=>.nil
 |_,_,n+1,.cons r t=>.cons r (Vals.take n t)
theorem Vals.drop:∀{xs:List V} {us:List Value} (n:Nat),Vals xs us→Vals (xs.drop n) (us.drop n)
 |_,_,0,r=>r
 |_,_,_+1,.nil=>.nil
 |_,_,n+1,.cons _ t=>Vals.drop n t
def RelO:Option V→Option Value→Prop
 |some v,some u=>RelV v u
 |none,none=>True
 |_,_=>False
def kV:T1→V
 |.inl i=>.int i
 |.inr x=>.str x
inductive HO where
 |lst (xs:List V)
 |tup (xs:List V)
 |own (x:Addr)
 |xd (fs:List (Str×V))
 |frz (o:Obj) (u:HO)
 |tbl (ps:Array Value)
 |ext (φ:Heap→Prop)
 |mex (φ:Heap→Prop)
abbrev Hp:=Addr→Option HO
def Ak (H:Hp) (a:Addr) (o:HO):Hp:=fun b=>if b=a then some o else H b
theorem Bo {H:Hp} {a:Addr} {o:HO}:Ak H a o a=some o:=by unfold Ak;rw [if_pos rfl]
theorem Al {H:Hp} {a b:Addr} {o:HO} (h:b≠a):Ak H a o b=H b:=by unfold Ak;rw [if_neg h]
theorem Mq {H:Hp} {a:Addr} {o u:HO}:Ak (Ak H a o) a u=Ak H a u:=by
 funext b;unfold Ak;split<;>rfl
theorem T3 {H:Hp} {a b:Addr} {o u:HO} (h:H a=some o) (h':H b=some u) (d:o≠u):a≠b:=by
 intro e;subst e;rw [h] at h';exact d (Option.some.inj h')
theorem BB {H:Hp} {a b:Addr} {o:HO} (h:H a=some o) (h':H b=none):a≠b:=by
 intro e;subst e;rw [h] at h';cases h'
section
variable (P:Program) (w:World)
inductive O9 (h:Heap) (a:Addr) (xs:List V):Prop where
 |mk (f1:xs.length≤sizeLine) (its:List Value) (n:Nat) (f2:Vals xs its) (f3:h.get? a=some {cls:=.type "list",data:=.seq its.toArray n}):O9 h a xs
def NoDict (h:Heap) (a:Addr):Prop:=∀o,h.get? a=some o→o.dict=none
inductive Pa (h:Heap) (a:Addr) (xs:List V):Prop where
 |mk (f1:xs.length≤sizeLine) (its:List Value) (f2:Vals xs its) (f3:IsTup h a its.toArray) (f4:NoDict h a):Pa h a xs
theorem NoDict.new {h:Heap} {o:Obj} (hd:o.dict=none:=by rfl) (hf:o.isFreed=false:=by rfl):NoDict (h.push o) h.objs.size:=fun u e=>by
 rw [Bz _ hf] at e
 cases e
 exact hd
def ObjOk (P:Program) (w:World) (H:Hp) (h:Heap) (a:Addr):HO→Prop
 |.lst xs=>O9 h a xs
 |.tup xs=>Pa h a xs
 |.own _=>∃o,h.get? a=some o
 |.xd fs=>∃mA,h.Ns1 a mA∧∀f,RelO (fs.lookup f) (mA f)
 |.frz o u=>h.get? a=some o∧ObjOk P w H h a u
 |.tbl ps=>h.get? a=some {cls:=.none,data:=.fields ps}
 |.ext φ=>φ h∧(∃o,h.get? a=some o)∧∀h1 h2:Heap,φ h1→(∀o,h1.get? a=some o→h2.get? a=some o)→φ h2
 |.mex φ=>φ h∧(∃o,h.get? a=some o)∧∀h1 h2:Heap,φ h1→(∀o,h1.get? a=some o→h2.get? a=some o)→φ h2
def HOk (H:Hp) (h:Heap):Prop:=∀a o,H a=some o→ObjOk P w H h a o
end
section
variable {P:Program} {w:World} {H H':Hp} {h h':Heap} {a:Addr} {o:HO}
theorem ObjOk.lt (x:ObjOk P w H h a o):a<h.objs.size:=by
 cases o with
 |lst xs=>obtain ⟨_,_,_,_,e⟩:=x;exact AE e
 |tup xs=>obtain ⟨_,_,_,p,_⟩:=x;exact p.lt
 |own y=>obtain ⟨_,e⟩:=x;exact AE e
 |xd fs=>obtain ⟨_,⟨_,_,_,e,_⟩,_⟩:=x;exact AE e
 |frz ob u=>obtain ⟨e,_⟩:=x;exact AE e
 |tbl ps=>exact AE (show h.get? a=some _ from x)
 |ext φ=>obtain ⟨_,⟨_,e⟩,_⟩:=x;exact AE e
 |mex φ=>obtain ⟨_,⟨_,e⟩,_⟩:=x;exact AE e
theorem ObjOk.stay (x:ObjOk P w H h a o) (k:∀b u,(b=a∨H b=some (.own a))→h.get? b=some u→h'.get? b=some u)
 (ho:∀b,H b=some (.own a)→H' b=some (.own a)) (ht:∀b xs,H b=some (.tup xs)→H' b=some (.tup xs)):ObjOk P w H' h' a o:=by
 induction o with
 |lst xs=>obtain ⟨z,its,n,r,e⟩:=x;exact ⟨z,its,n,r,k _ _ (.inl rfl) e⟩
 |tup xs=>obtain ⟨z,its,r,⟨ob,e,c⟩,nd⟩:=x;exact ⟨z,its,r,⟨ob,k _ _ (.inl rfl) e,c⟩,fun o e2=>by rw [k _ _ (.inl rfl) e] at e2;cases e2;exact nd _ e⟩
 |own y=>obtain ⟨ob,e⟩:=x;exact ⟨ob,k _ _ (.inl rfl) e⟩
 |xd fs=>obtain ⟨mA,⟨od,es,ep,e,c⟩,r⟩:=x;exact ⟨mA,⟨od,es,ep,k _ _ (.inl rfl) e,c⟩,r⟩
 |frz ob u ih=>obtain ⟨e,q⟩:=x;exact ⟨k _ _ (.inl rfl) e,ih q⟩
 |tbl ps=>
  have e:h.get? a=some {cls:=.none,data:=.fields ps}:=x
  show h'.get? a=some {cls:=.none,data:=.fields ps}
  exact k a _ (.inl rfl) e
 |ext φ=>obtain ⟨p,⟨o,e⟩,st⟩:=x;exact ⟨st _ _ p fun o q=>k _ _ (.inl rfl) q,⟨o,k _ _ (.inl rfl) e⟩,st⟩
 |mex φ=>obtain ⟨p,⟨o,e⟩,st⟩:=x;exact ⟨st _ _ p fun o q=>k _ _ (.inl rfl) q,⟨o,k _ _ (.inl rfl) e⟩,st⟩
theorem HOk.lt (x:HOk P w H h) (e:H a=some o):a<h.objs.size:=(x a o e).lt
theorem HOk.fresh (x:HOk P w H h) (e:h.objs.size≤a):H a=none:=by
 cases q:H a with
 |none=>rfl
 |some u=>exact absurd (AX (x.lt q) e) (CP _)
theorem HOk.kept (x:HOk P w H h) (k:∀b u,h.get? b=some u→h'.get? b=some u):HOk P w H h':=fun a o e=>
 (x a o e).stay (fun b u _ q=>k b u q) (fun _ q=>q) fun _ _ q=>q
theorem HOk.laid (x:HOk P w H h) (k:∀b u,h.get? b=some u→h'.get? b=some u) (hp:h.objs.size≤a) (new:ObjOk P w (Ak H a o) h' a o):HOk P w (Ak H a o) h':=fun b u e=>by
 have hn:=x.fresh hp
 by_cases hb:b=a
 ·subst hb;rw [Bo] at e;cases e;exact new
 ·rw [Al hb] at e
  exact (x b u e).stay (fun c v _ q=>k c v q) (fun c q=>by rw [Al (BB q hn)];exact q) fun c xs q=>by rw [Al (BB q hn)];exact q
end
def Rd (H:Hp) (a:Addr) (u:HO):Prop:=H a=some u∨∃o,H a=some (.frz o u)
theorem Rd.ok {P:Program} {w:World} {H:Hp} {h:Heap} {a:Addr} {u:HO} (r:Rd H a u) (x:HOk P w H h):ObjOk P w H h a u:=by
 rcases r with r |⟨o,r⟩
 ·exact x a u r
 ·obtain ⟨_,q⟩:=x a _ r
  exact q
def Kq:Option HO→Prop
 |some (.lst _)=>True
 |some (.ext _)=>True
 |some (.mex _)=>True
 |_=>False
section
variable {P:Program} {w:World} {H:Hp} {h h':Heap} {x e:Addr} {o':HO}
theorem HOk.write (ok:HOk P w H h) (mu:Kq (H x)) (he:e=x∨H e=some (.own x)) (k:∀b u,b≠e→h.get? b=some u→h'.get? b=some u) (heo:∃u,h'.get? e=some u)
 (new:ObjOk P w (Ak H x o') h' x o'):HOk P w (Ak H x o') h':=fun b u q=>by
 have nown:∀c y,H c=some (.own y)→c≠x:=fun c y r z=>by subst z;rw [r] at mu;exact mu
 have ntup:∀c xs,H c=some (.tup xs)→c≠x:=fun c xs r z=>by subst z;rw [r] at mu;exact mu
 by_cases hb:b=x
 ·subst hb;rw [Bo] at q;cases q;exact new
 ·rw [Al hb] at q
  by_cases hbe:b=e
  ·have q':H b=some (.own x):=by
    rcases he with z |z
    ·exact absurd (hbe.trans z) hb
    ·rw [hbe];exact z
   rw [q] at q';cases q'
   obtain ⟨v,hv⟩:=heo
   exact ⟨v,by rw [hbe];exact hv⟩
  ·refine (ok b u q).stay (fun c v hc r=>k c v ?_ r) (fun c r=>by rw [Al (nown c b r)];exact r) fun c xs r=>by rw [Al (ntup c xs r)];exact r
   rcases hc with rfl |hc
   ·exact hbe
   ·rintro rfl
    rcases he with z |z
    ·exact nown c b hc z
    ·rw [hc] at z;cases z;exact hb rfl
end
structure Un (fs ex:List Addr) (H H':Hp) (h h':Heap):Prop where
 keep:∀b o,h.get? b=some o→H b=none→b∉fs→b∉ex→h'.get? b=some o
 slot:∀b o,h.get? b=some o→H b=none→b∈fs→b∉ex→∃sl,h'.get? b=some {o with slots:=sl}
 free:∀b o,h.get? b=some o→H b=none→b∉ex→H' b=none
 there:∀b o,h.get? b=some o→b∉ex→∃o',h'.get? b=some o'
 tups:∀b xs,H b=some (.tup xs)→H' b=some (.tup xs)
 frzs:∀b o u,H b=some (.frz o u)→H' b=some (.frz o u)
 tbls:∀b ps,H b=some (.tbl ps)→∃more,H' b=some (.tbl (ps++more))
section
variable {fs fs' ex ex':List Addr} {H H1 H2:Hp} {h h1 h2 h':Heap} {a x e:Addr} {o:HO}
theorem Un.any (u:Un fs ex H H1 h h1) {b:Addr} {ob:Obj} (q:h.get? b=some ob) (n:H b=none) (hx:b∉ex):∃sl,h1.get? b=some {ob with slots:=sl}:=by
 by_cases hb:b∈fs
 ·exact u.slot b ob q n hb hx
 ·exact ⟨ob.slots,u.keep b ob q n hb hx⟩
theorem Un.kept (k:∀b u,h.get? b=some u→h'.get? b=some u):Un fs ex H H h h':=
 ⟨fun b ob q _ _ _=>k b ob q,fun b ob q _ _ _=>⟨ob.slots,k b ob q⟩,fun _ _ _ n _=>n,fun b ob q _=>⟨ob,k b ob q⟩,fun _ _ q=>q,fun _ _ _ q=>q,fun _ ps q=>⟨#[],by rw [q];simp⟩⟩
theorem Un.refl:Un fs ex H H h h:=Un.kept fun _ _ q=>q
theorem Un.laid (k:∀b u,h.get? b=some u→h'.get? b=some u) (hp:h.objs.size≤a) (hn:H a=none):Un fs ex H (Ak H a o) h h' where
 keep:=fun b u q _ _ _=>k b u q
 slot:=fun b u q _ _ _=>⟨u.slots,k b u q⟩
 free:=fun b u q n _=>by rw [Al (BG (AX (AE q) hp))];exact n
 there:=fun b u q _=>⟨u,k b u q⟩
 tups:=fun b xs q=>by rw [Al (BB q hn)];exact q
 frzs:=fun b u xs q=>by rw [Al (BB q hn)];exact q
 tbls:=fun b ps q=>⟨#[],by rw [Al (BB q hn),q];simp⟩
theorem Un.write (mu:Kq (H x)) (he:e=x∨H e=some (.own x)) (k:∀b u,b≠e→h.get? b=some u→h'.get? b=some u) (heo:∃u,h'.get? e=some u):Un fs ex H (Ak H x o) h h':=by
 have hx:∀b,H b=none→b≠x:=fun b n z=>by subst z;rw [n] at mu;exact mu
 have hb:∀b,H b=none→b≠e:=fun b n z=>by
  subst z
  rcases he with r |r
  ·exact hx b n r
  ·rw [n] at r;cases r
 have hm:∀b u,H b=some u→¬Kq (some u)→b≠x:=fun b u q nm z=>by subst z;rw [q] at mu;exact nm mu
 refine ⟨fun b u q n _ _=>k b u (hb b n) q,fun b u q n _ _=>⟨u.slots,k b u (hb b n) q⟩,fun b u q n _=>by rw [Al (hx b n)];exact n,fun b u q _=>?_,
  fun b xs q=>by rw [Al (hm b _ q fun z=>z)];exact q,fun b u xs q=>by rw [Al (hm b _ q fun z=>z)];exact q,fun b ps q=>⟨#[],by rw [Al (hm b _ q fun z=>z),q];simp⟩⟩
 by_cases hbe:b=e
 ·subst hbe;exact heo
 ·exact ⟨u,k b u hbe q⟩
end
def Kr (h:Heap) (H:Hp):List Addr:=(List.range h.objs.size).filter fun a=>(H a).isSome
def EG (h:Heap) (H:Hp):Heap:=PySem.W.hideAll h (Kr h H)
theorem T4 (h:Heap) (H:Hp):(EG h H).objs.size=h.objs.size:=PySem.W.hideAll_size _ _
theorem T6 {h:Heap} {H:Hp} {b:Addr} {o:Obj} (e:h.get? b=some o) (n:H b=none):(EG h H).get? b=some o:=
 PySem.W.hideAll_get _ e fun hm=>by
  have q:(H b).isSome=true:=(List.mem_filter.mp hm).2
  rw [n] at q;simp at q
theorem T7 {h:Heap} {H:Hp} {b:Addr} {o:Obj} (e:(EG h H).get? b=some o):h.get? b=some o∧H b=none:=by
 have e':h.get? b=some o:=PySem.W.of_hideAll (Kr h H) e
 refine ⟨e',?_⟩
 cases q:H b with
 |none=>rfl
 |some x=>
  have hm:b∈Kr h H:=List.mem_filter.mpr ⟨qb1.mpr (AE e'),by simp [q]⟩
  have z:(EG h H).get? b=none:=PySem.W.hideAll_none (Kr h H) hm
  rw [z] at e;cases e
def T8 (g h:Heap) (L:Addr):List (Addr×Obj):=(List.range h.objs.size).filterMap fun a=>if a=L∨(g.get? a).isSome=true then none else (h.get? a).map fun o=>(a,o)
def rest (g h:Heap) (L d:Addr):List (Addr×Obj):=(T8 g h L).filter fun p=>decide (p.1≠d)
structure Mod (K:PySem.W.Frag) (mg:Str→Option Value) (base:Heap):Prop where
 kin:K.In base
 glob:base.Ns mainGlobals mg
 blt:∃mb,base.Ns builtinsNs mb∧∀x:Str,x≠"__name__"→mb x=bootBuiltins x
 nolimit:base.NoLimit
structure Cx where
 prog:Program
 w:World
 K:PySem.W.Frag
 mg:Str→Option Value
 base:Heap
 A:Around
 N:List Str
 s₀:Shared
 H₀:Hp
 env:Env
 outer:List Env
 stack:List Env
 ex:List Addr
 fn:Str→Bool
 calm:Bool
 pn:List (Addr×Obj)
 xe:Value→Shared→Prop
def frs (l:List Env):List Addr:=l.filterMap (·.frame)
abbrev Cx.fs (X:Cx):List Addr:=frs X.outer
def D8 (sc:Scope) (x:Str):Prop:=sc.names.lookup x=some .local∨sc.names.lookup x=some .cell∨sc.names.lookup x=some .free
def FU (sc:Scope) (x:Str):Prop:=sc.names.lookup x=some .local∨sc.names.lookup x=some .cell
def Pb (env:Env) (h:Heap) (m:Str→Option Value) (x:Str) (u:Value):Prop:=
 (env.kindOf x=some .local∧m x=some u)∨((env.kindOf x=some .cell∨env.kindOf x=some .free)∧∃c,env.cells.lookup x=some c∧h.IsCell c (some u))
structure Cx.Ok (X:Cx):Prop where
 mod:Mod X.K X.mg X.base
 kind:X.env.scope.kind=.function
 glob:X.env.globals=mainGlobals
 blt:X.env.builtins=builtinsNs
 above:X.s₀.heap.objs.size≤X.env.locals
 inj:∀x y c,X.env.cells.lookup x=some c→X.env.cells.lookup y=some c→x=y
 has:∀x,(X.env.kindOf x=some .cell∨X.env.kindOf x=some .free)→∃c,X.env.cells.lookup x=some c
 cab:∀x c,X.fn x=true→X.env.cells.lookup x=some c→X.s₀.heap.objs.size≤c
 hd:X.calm=true→X.A.handled=none
 frames:X.A.frames=some X.stack
 stk:X.stack=X.outer∨(X.stack=X.env::X.outer∧X.env.frame=some X.env.locals)
 exf:∀b∈X.ex,b≠X.env.locals∧∀x c,X.env.cells.lookup x=some c→c≠b
 bs:∀b o,X.base.get? b=some o→X.s₀.heap.get? b=some o∧X.H₀ b=none
 bsz:X.base.objs.size≤X.s₀.heap.objs.size
 noex:∀b o,X.base.get? b=some o→b∉X.ex
 exfs:∀b∈X.ex,b∉X.fs
 funs:X.s₀.heap.FunFrames X.base X.outer
 frf:∀b∈X.fs,X.H₀ b=none
structure Inv (X:Cx) (pins:List (Addr×Obj)) (σ:List (Option V)) (H:Hp) (s:Shared):Prop where
 ok:X.Ok
 os:s.os=X.s₀.os
 bare:AllBare s.gens
 base:Un X.fs X.ex X.H₀ H X.s₀.heap s.heap
 loc:∃m,s.heap.Ns X.env.locals m∧∀(i:Nat) (x:Str) (v:V),X.N[i]?=some x→σ[i]?=some (some v)→D8 X.env.scope x→∃u,RelV v u∧Pb X.env s.heap m x u
 cell:∀x c,X.env.cells.lookup x=some c→∃v,s.heap.IsCell c v
 free:H X.env.locals=none
 freeC:∀x c,X.env.cells.lookup x=some c→H c=none
 pin:∀p∈X.pn++pins,s.heap.get? p.1=some p.2∧H p.1=none∧p.1≠X.env.locals∧p.1∉X.fs∧∀v,p.2.data≠.cell v
 hok:HOk X.prog X.w H s.heap
 len:σ.length=X.N.length
section
variable {X:Cx} {pins:List (Addr×Obj)} {σ:List (Option V)} {H H':Hp} {s:Shared} {h':Heap}
theorem Cx.Ok.nofr (ok:X.Ok) {b:Addr} {o:Obj} (e:X.base.get? b=some o):b∉X.fs:=fun hb=>by
 have:=(ok.funs.mem hb).1
 rw [e] at this;cases this
theorem Inv.bs (I:Inv X pins σ H s):∀b o,X.base.get? b=some o→s.heap.get? b=some o∧H b=none:=fun b o e=>
 ⟨I.base.keep b o (I.ok.bs b o e).1 (I.ok.bs b o e).2 (I.ok.nofr e) (I.ok.noex b o e),I.base.free b o (I.ok.bs b o e).1 (I.ok.bs b o e).2 (I.ok.noex b o e)⟩
theorem Inv.bk (I:Inv X pins σ H s):∀b o,X.base.get? b=some o→s.heap.get? b=some o:=fun b o e=>(I.bs b o e).1
theorem Inv.mod (I:Inv X pins σ H s):Mod X.K X.mg X.base:=I.ok.mod
theorem Inv.kIn (I:Inv X pins σ H s):X.K.In s.heap:=I.ok.mod.kin.keeps I.bk
theorem Inv.nolimit (I:Inv X pins σ H s):s.heap.NoLimit:=I.ok.mod.nolimit.keeps I.bk
theorem Inv.lt (I:Inv X pins σ H s):X.env.locals<s.heap.objs.size:=let ⟨_,hn,_⟩:=I.loc;hn.lt
theorem Inv.sz (I:Inv X pins σ H s):X.s₀.heap.objs.size≤s.heap.objs.size:=BA I.ok.above (HC I.lt)
theorem Inv.nofs (I:Inv X pins σ H s) {a:Addr} (h:s.heap.objs.size≤a):a∉X.fs:=fun hb=>by
 obtain ⟨_,o,ho,_⟩:=I.ok.funs.mem hb
 exact absurd (AX (AE ho) (BA I.sz h)) (CP _)
theorem Inv.cne (I:Inv X pins σ H s):∀x c,X.env.cells.lookup x=some c→c≠X.env.locals:=fun x c e z=>by
 obtain ⟨v,o,ho,hd⟩:=I.cell x c e
 obtain ⟨m,⟨o',es,ep,ho',hd',_⟩,_⟩:=I.loc
 rw [z,ho'] at ho;cases ho;rw [hd'] at hd;cases hd
theorem Inv.funs (I:Inv X pins σ H s):s.heap.FunFrames X.base X.outer:=by
 have all:∀(l:List Env),(∀b∈frs l,b∈X.fs)→X.s₀.heap.FunFrames X.base l→s.heap.FunFrames X.base l:=by
  intro l
  induction l with
  |nil=>intro _ _;trivial
  |cons env r ih=>
   intro hs hl
   obtain ⟨hk,⟨L,o,hf,hn,ho,hd⟩,hr⟩:=hl
   have hL:L∈X.fs:=hs L (by unfold frs;rw [Hs,hf];exact AO)
   obtain ⟨sl,e⟩:=I.base.slot L o ho (I.ok.frf L hL) hL fun z=>I.ok.exfs L z hL
   exact ⟨hk,⟨L,_,hf,hn,e,hd⟩,ih (fun b hb=>hs b (by unfold frs;rw [Hs,hf];exact AS _ hb)) hr⟩
 exact all X.outer (fun _ hb=>hb) I.ok.funs
theorem Inv.stack (I:Inv X pins σ H s):s.heap.FunFrames X.base X.stack:=by
 rcases I.ok.stk with e |⟨e,hf⟩
 ·rw [e];exact I.funs
 ·rw [e]
  obtain ⟨m,hn,_⟩:=I.loc
  refine .cons (by rw [I.ok.kind];decide) hf hn ?_ I.funs
  exact Mo (BA I.ok.bsz I.ok.above)
theorem Inv.stkSub (I:Inv X pins σ H s):∀b∈frs X.stack,b∈X.env.locals::X.fs:=fun b hb=>by
 rcases I.ok.stk with e |⟨e,hf⟩
 ·rw [e] at hb;exact AS _ hb
 ·rw [e] at hb
  unfold frs at hb
  rw [Hs,hf] at hb
  exact hb
theorem Inv.stkFree (I:Inv X pins σ H s):∀b∈frs X.stack,H b=none:=fun b hb=>by
 rcases qa7.mp (I.stkSub b hb) with e |hb
 ·rw [e];exact I.free
 ·obtain ⟨_,o,ho,_⟩:=I.ok.funs.mem hb
  exact I.base.free b o ho (I.ok.frf b hb) fun z=>I.ok.exfs b z hb
theorem Inv.step {g':Array GenState} {t':Nat} {d':Drawn} {ch:List Addr} (I:Inv X pins σ H s)
 (hch:∀b∈ch,(b∈X.ex∨X.s₀.heap.objs.size≤b)∧b≠X.env.locals∧(∀x c,X.env.cells.lookup x=some c→c≠b)∧∀p∈X.pn++pins,p.1≠b)
 (keep:∀b o,b≠X.env.locals→b∉X.fs→b∉ch→s.heap.get? b=some o→H b=none→h'.get? b=some o)
 (slot:∀b o,b≠X.env.locals→b∈X.fs→b∉ch→s.heap.get? b=some o→H b=none→∃sl,h'.get? b=some {o with slots:=sl}) (free:∀b o,b∉ch→s.heap.get? b=some o→H b=none→H' b=none)
 (there:∀b o,b∉ch→s.heap.get? b=some o→∃o',h'.get? b=some o')
 (tups:∀b xs,H b=some (.tup xs)→H' b=some (.tup xs)) (frzs:∀b o u,H b=some (.frz o u)→H' b=some (.frz o u)) (tbls:∀b ps,H b=some (.tbl ps)→∃more,H' b=some (.tbl (ps++more)))
 (ns:∀m,s.heap.Ns X.env.locals m→h'.Ns X.env.locals m) (hok:HOk X.prog X.w H' h') (hg:AllBare g'):
 Inv X pins σ H' {s with heap:=h',gens:=g',drawn:=d',toks:=t'}:=by
 have neL:∀b o,X.s₀.heap.get? b=some o→b≠X.env.locals:=fun b o e=>BG (AX (AE e) I.ok.above)
 have neC:∀b o,X.s₀.heap.get? b=some o→b∉X.ex→b∉ch:=fun b o e hx hb=>by
  rcases (hch b hb).1 with z |z
  ·exact hx z
  ·exact absurd (AX (AE e) z) (CP _)
 have cellK:∀x c,X.env.cells.lookup x=some c→∀v,s.heap.IsCell c v→h'.IsCell c v:=fun x c e v z1_=>by
  obtain ⟨o,ho,hd⟩:=z1_
  have nch:c∉ch:=fun z=>(hch c z).2.2.1 x c e rfl
  by_cases hc:c∈X.fs
  ·obtain ⟨sl,q⟩:=slot c o (I.cne x c e) hc nch ho (I.freeC x c e)
   exact ⟨_,q,hd⟩
  ·exact ⟨o,keep c o (I.cne x c e) hc nch ho (I.freeC x c e),hd⟩
 refine ⟨I.ok,I.os,hg,⟨fun b o e n hb hx=>?_,fun b o e n hb hx=>?_,fun b o e n hx=>?_,fun b o e hx=>?_,fun b xs e=>tups b xs (I.base.tups b xs e),fun b o xs e=>frzs b o xs (I.base.frzs b o xs e),fun b ps e=>?_⟩,?_,fun x c e=>?_,?_,fun x c e=>?_,fun p hp=>?_,hok,I.len⟩
 ·exact keep b o (neL b o e) hb (neC b o e hx) (I.base.keep b o e n hb hx) (I.base.free b o e n hx)
 ·obtain ⟨sl,e1⟩:=I.base.slot b o e n hb hx
  obtain ⟨sl',e2⟩:=slot b _ (neL b o e) hb (neC b o e hx) e1 (I.base.free b o e n hx)
  exact ⟨sl',e2⟩
 ·obtain ⟨o',e1⟩:=I.base.there b o e hx
  exact free b o' (neC b o e hx) e1 (I.base.free b o e n hx)
 ·obtain ⟨o',e1⟩:=I.base.there b o e hx
  exact there b o' (neC b o e hx) e1
 ·obtain ⟨m1,e1⟩:=I.base.tbls b ps e
  obtain ⟨m2,e2⟩:=tbls b _ e1
  exact ⟨m1++m2,by rw [e2,Array.append_assoc]⟩
 ·obtain ⟨m,hn,hl⟩:=I.loc
  refine ⟨m,ns m hn,fun i x v e1 e2 e3=>?_⟩
  obtain ⟨u,r,l⟩:=hl i x v e1 e2 e3
  refine ⟨u,r,?_⟩
  rcases l with l |⟨k,c,e,z⟩
  ·exact .inl l
  ·exact .inr ⟨k,c,e,cellK x c e _ z⟩
 ·obtain ⟨v,z⟩:=I.cell x c e
  exact ⟨v,cellK x c e v z⟩
 ·obtain ⟨m,⟨o,_,_,ho,_⟩,_⟩:=I.loc
  exact free _ o (fun z=>(hch _ z).2.1 rfl) ho I.free
 ·obtain ⟨v,o,ho,hd⟩:=I.cell x c e
  exact free c o (fun z=>(hch c z).2.2.1 x c e rfl) ho (I.freeC x c e)
 ·obtain ⟨e,n,ne,nf,d⟩:=I.pin p hp
  have nch:p.1∉ch:=fun z=>(hch p.1 z).2.2.2 p hp rfl
  exact ⟨keep p.1 p.2 ne nf nch e n,free p.1 p.2 nch e n,ne,nf,d⟩
theorem Inv.un {t':Nat} (I:Inv X pins σ H s) (u:Un X.fs [] H H' s.heap h') (hok:HOk X.prog X.w H' h'):Inv X pins σ H' {s with heap:=h',toks:=t'}:=by
 obtain ⟨m,⟨o,es,ep,ho,r⟩,_⟩:=id I.loc
 obtain ⟨sl,hL⟩:=u.any ho I.free (by simp)
 exact I.step (g':=s.gens) (d':=s.drawn) (ch:=[]) (fun _ z=>nomatch z) (fun b o _ hb _ e n=>u.keep b o e n hb (by simp)) (fun b o _ hb _ e n=>u.slot b o e n hb (by simp)) (fun b o _ e n=>u.free b o e n (by simp)) (fun b o _ e=>u.there b o e (by simp)) u.tups u.frzs u.tbls (fun m' hm=>by
  obtain ⟨o',es',ep',ho',r'⟩:=hm
  rw [ho] at ho';cases ho'
  exact ⟨_,es',ep',hL,r'⟩) hok I.bare
theorem Inv.call {g':Array GenState} {t':Nat} {d':Drawn} {ch:List Addr} (I:Inv X pins σ H s) (u:Un (frs X.stack) ch H H' s.heap h') (hok:HOk X.prog X.w H' h') (hg:AllBare g')
 (hch:∀b∈ch,(b∈X.ex∨X.s₀.heap.objs.size≤b)∧b≠X.env.locals∧(∀x c,X.env.cells.lookup x=some c→c≠b)∧∀p∈X.pn++pins,p.1≠b):
 Inv X pins σ H' {s with heap:=h',gens:=g',drawn:=d',toks:=t'}:=by
 obtain ⟨m,⟨o,es,ep,ho,r⟩,_⟩:=id I.loc
 obtain ⟨sl,hL⟩:=u.any ho I.free fun z=>(hch _ z).2.1 rfl
 exact I.step (ch:=ch) hch (fun b o hL hb hc e n=>u.keep b o e n (fun z=>(qa7.mp (I.stkSub b z)).elim hL hb) hc) (fun b o _ _ hc e n=>u.any e n hc) (fun b o hc e n=>u.free b o e n hc) (fun b o hc e=>u.there b o e hc) u.tups u.frzs u.tbls (fun m' hm=>by
  obtain ⟨o',es',ep',ho',r'⟩:=hm
  rw [ho] at ho';cases ho'
  exact ⟨_,es',ep',hL,r'⟩) hok hg
theorem Inv.turned {t':Nat} {it:Addr} (I:Inv X pins σ H s) (k:∀b o,b≠it→s.heap.get? b=some o→h'.get? b=some o) (hn:H it=none) (hL:it≠X.env.locals)
 (h1:it∈X.ex∨X.s₀.heap.objs.size≤it) (h2:∀x c,X.env.cells.lookup x=some c→c≠it) (h3:∀p∈X.pn++pins,p.1≠it):Inv X pins σ H {s with heap:=h',toks:=t'}:=by
 have nit:∀b u,H b=some u→b≠it:=fun b u e z=>by rw [z,hn] at e;cases e
 refine I.step (g':=s.gens) (d':=s.drawn) (ch:=[it]) (fun b hb=>?_) (fun b o _ _ hc e _=>k b o (fun z=>hc (by simp [z])) e) (fun b o _ _ hc e _=>⟨o.slots,k b o (fun z=>hc (by simp [z])) e⟩) (fun _ _ _ _ n=>n)
  (fun b o hc e=>⟨o,k b o (fun z=>hc (by simp [z])) e⟩) (fun _ _ e=>e) (fun _ _ _ e=>e) (fun b ps e=>⟨#[],by rw [e];simp⟩) (fun m hm=>?_) (fun b u e=>?_) I.bare
 ·have e:b=it:=by simpa using hb
  subst e
  exact ⟨h1,hL,h2,h3⟩
 ·obtain ⟨o,es,ep,ho,r⟩:=hm
  exact ⟨o,es,ep,k _ o (Ne.symm hL) ho,r⟩
 ·refine (I.hok b u e).stay (fun c v hc q=>k c v ?_ q) (fun _ q=>q) fun _ _ q=>q
  rcases hc with z |z
  ·rw [z];exact nit b u e
  ·exact nit c _ z
theorem Inv.tok (I:Inv X pins σ H s) (t:Nat):Inv X pins σ H {s with toks:=t}:=I.un (h':=s.heap) (t':=t) Un.refl I.hok
theorem Inv.kept {t':Nat} (I:Inv X pins σ H s) (k:∀b u,s.heap.get? b=some u→h'.get? b=some u):Inv X pins σ H {s with heap:=h',toks:=t'}:=I.un (Un.kept k) (I.hok.kept k)
theorem Inv.laid {a:Addr} {o:HO} {t':Nat} (I:Inv X pins σ H s) (k:∀b u,s.heap.get? b=some u→h'.get? b=some u) (hp:s.heap.objs.size≤a) (new:ObjOk X.prog X.w (Ak H a o) h' a o):
 Inv X pins σ (Ak H a o) {s with heap:=h',toks:=t'}:=I.un (Un.laid k hp (I.hok.fresh hp)) (I.hok.laid k hp new)
theorem Inv.write {x e:Addr} {o:HO} {t':Nat} (I:Inv X pins σ H s) (mu:Kq (H x)) (he:e=x∨H e=some (.own x)) (k:∀b u,b≠e→s.heap.get? b=some u→h'.get? b=some u) (heo:∃u,h'.get? e=some u)
 (new:ObjOk X.prog X.w (Ak H x o) h' x o):Inv X pins σ (Ak H x o) {s with heap:=h',toks:=t'}:=I.un (Un.write mu he k heo) (I.hok.write mu he k heo new)
theorem Inv.weak {σ':List (Option V)} (I:Inv X pins σ H s) (hl:σ'.length=σ.length) (w:∀(i:Nat) v,σ'[i]?=some (some v)→σ[i]?=some (some v)):Inv X pins σ' H s:=
 ⟨I.ok,I.os,I.bare,I.base,let ⟨m,hn,hl'⟩:=I.loc;⟨m,hn,fun i x v e1 e2 e3=>hl' i x v e1 (w i v e2) e3⟩,I.cell,I.free,I.freeC,I.pin,I.hok,hl.trans I.len⟩
theorem Inv.pins_of {pins':List (Addr×Obj)} (I:Inv X pins σ H s) (h:∀p∈pins',s.heap.get? p.1=some p.2∧H p.1=none∧p.1≠X.env.locals∧p.1∉X.fs∧∀v,p.2.data≠.cell v):Inv X pins' σ H s:=
 ⟨I.ok,I.os,I.bare,I.base,I.loc,I.cell,I.free,I.freeC,fun p hp=>(qb2.mp hp).elim (fun z=>I.pin p (Gv _ z)) (h p),I.hok,I.len⟩
theorem Mr {N:List Str} (hN:N.Nodup) {i j:Nat} {x:Str} (a:N[i]?=some x) (b:N[j]?=some x):i=j:=by
 obtain ⟨h1,e1⟩:=qa5.mp a
 obtain ⟨h2,e2⟩:=qa5.mp b
 exact (List.getElem_inj hN).mp (e1.trans e2.symm)
theorem IY {M:Model} {A:Around} {E:Value→Shared→Prop} {i:Nat} {x:Str} {v:V} {u:Value} {Q:Unit→Shared→Prop} (I:Inv X pins σ H s) (hN:X.N.Nodup) (hi:X.N[i]?=some x) (hx:FU X.env.scope x) (r:RelV v u)
 (h:∀s',Inv X pins (σ.set i (some v)) H s'→(∃a,Heap.SameBut a s.heap s'.heap∧(a=X.env.locals∨X.env.cells.lookup x=some a))→Q () s') (hf:X.fn x=true∨X.env.scope.names.lookup x=some .local:=by first |exact .inl rfl |exact .inr rfl |assumption):wpAny M A (storeName X.env x u) Q E s:=by
 obtain ⟨m,hn,hl⟩:=id I.loc
 have hcls:(X.env.scope.kind==.class||(X.env.scope.kind==.module&&X.env.locals != X.env.globals))=false:=by rw [I.ok.kind];rfl
 have hiσ:i < σ.length:=by rw [I.len];exact (qa5.mp hi).1
 have cne:=I.cne
 have tracked:∀{a:Addr} {h':Heap},(∃o,s.heap.get? a=some o∧H a=none)→Heap.SameBut a s.heap h'→HOk X.prog X.w H h':=fun {a h'} ha hs b ob e=>by
  obtain ⟨_,_,hfree⟩:=ha
  refine (I.hok b ob e).stay (fun c w' hc q=>(hs.2 c ?_).trans q) (fun _ q=>q) fun _ _ q=>q
  rintro rfl
  rcases hc with rfl |hc
  ·rw [hfree] at e;cases e
  ·rw [hfree] at hc;cases hc
 rcases hx with hk |hk
 ·refine wpAny_storeName_local hk hn (fun h' hn' hs=>?_) hcls
  obtain ⟨oL,_,_,hoL,_⟩:=id hn
  refine h _ ⟨I.ok,I.os,I.bare,⟨fun b o e n hb hx=>?_,fun b o e n hb hx=>?_,I.base.free,fun b o e hx=>?_,I.base.tups,I.base.frzs,I.base.tbls⟩,⟨_,hn',fun j y v' e1 e2 e3=>?_⟩,fun y c e=>?_,I.free,I.freeC,fun p hp=>?_,tracked ⟨oL,hoL,I.free⟩ hs,by simpa using I.len⟩ ⟨_,hs,.inl rfl⟩
  ·exact (hs.2 b (BG (AX (AE e) I.ok.above))).trans (I.base.keep b o e n hb hx)
  ·obtain ⟨sl,e1⟩:=I.base.slot b o e n hb hx
   exact ⟨sl,(hs.2 b (BG (AX (AE e) I.ok.above))).trans e1⟩
  ·obtain ⟨o',e1⟩:=I.base.there b o e hx
   exact ⟨o',(hs.2 b (BG (AX (AE e) I.ok.above))).trans e1⟩
  ·by_cases hj:j=i
   ·subst hj
    rw [hi] at e1;cases e1
    rw [CF hiσ] at e2
    cases e2
    exact ⟨u,r,.inl ⟨hk,by simp⟩⟩
   ·rw [BU (Ne.symm hj)] at e2
    obtain ⟨u',r',q⟩:=hl j y v' e1 e2 e3
    refine ⟨u',r',?_⟩
    rcases q with ⟨k,e⟩ |⟨k,c,e,z⟩
    ·refine .inl ⟨k,?_⟩
     have:y≠x:=fun e=>hj (Mr hN e1 (e ▸ hi))
     simp [this,e]
    ·exact .inr ⟨k,c,e,z.sameBut hs (cne y c e)⟩
  ·obtain ⟨w',z⟩:=I.cell y c e
   exact ⟨w',z.sameBut hs (cne y c e)⟩
  ·obtain ⟨e,n,ne,nf,d⟩:=I.pin p hp
   exact ⟨(hs.2 p.1 ne).trans e,n,ne,nf,d⟩
 ·have hfn:X.fn x=true:=by
   rcases hf with z |z
   ·exact z
   ·rw [z] at hk;cases hk
  obtain ⟨c,hc⟩:=I.ok.has x (.inl hk)
  obtain ⟨w',z⟩:=I.cell x c hc
  refine wpAny_storeName_cell I.ok.kind hk hc z (fun h' hc' hs=>?_)
  obtain ⟨oc,hoc,hocd⟩:=id z
  refine h {s with heap:=h'} ⟨I.ok,I.os,I.bare,⟨fun b o e n hb hx=>?_,fun b o e n hb hx=>?_,I.base.free,fun b o e hx=>?_,I.base.tups,I.base.frzs,I.base.tbls⟩,⟨m,hn.sameBut hs (Ne.symm (cne x c hc)),fun j y v' e1 e2 e3=>?_⟩,fun y c' e=>?_,I.free,I.freeC,fun p hp=>?_,tracked ⟨oc,hoc,I.freeC x c hc⟩ hs,by simpa using I.len⟩ ⟨c,hs,.inr hc⟩
  ·exact (hs.2 b (BG (AX (AE e) (I.ok.cab x c hfn hc)))).trans (I.base.keep b o e n hb hx)
  ·obtain ⟨sl,e1⟩:=I.base.slot b o e n hb hx
   exact ⟨sl,(hs.2 b (BG (AX (AE e) (I.ok.cab x c hfn hc)))).trans e1⟩
  ·obtain ⟨o',e1⟩:=I.base.there b o e hx
   exact ⟨o',(hs.2 b (BG (AX (AE e) (I.ok.cab x c hfn hc)))).trans e1⟩
  ·by_cases hj:j=i
   ·subst hj
    rw [hi] at e1;cases e1
    rw [CF hiσ] at e2
    cases e2
    exact ⟨u,r,.inr ⟨.inl hk,c,hc,hc'⟩⟩
   ·rw [BU (Ne.symm hj)] at e2
    obtain ⟨u',r',q⟩:=hl j y v' e1 e2 e3
    refine ⟨u',r',?_⟩
    rcases q with q |⟨k,c',e,z'⟩
    ·exact .inl q
    ·refine .inr ⟨k,c',e,z'.sameBut hs ?_⟩
     rintro rfl
     exact hj (Mr hN e1 (I.ok.inj _ _ _ e hc ▸ hi))
  ·by_cases hcc:c'=c
   ·subst hcc;exact ⟨_,hc'⟩
   ·obtain ⟨w2,z2⟩:=I.cell y c' e
    exact ⟨w2,z2.sameBut hs hcc⟩
  ·obtain ⟨e,n,ne,nf,d⟩:=I.pin p hp
   refine ⟨(hs.2 p.1 ?_).trans e,n,ne,nf,d⟩
   intro q
   rw [q,hoc] at e
   have q':oc=p.2:=Option.some.inj e
   exact d w' (by rw [←q'];exact hocd)
theorem Pc {M:Model} {A:Around} {E:Value→Shared→Prop} {i:Nat} {x:Str} {v:V} {u:Value} {Q:Unit→Shared→Prop} (I:Inv X pins σ H s) (hN:X.N.Nodup) (hi:X.N[i]?=some x) (hx:FU X.env.scope x) (r:RelV v u)
 (h:∀s',Inv X pins (σ.set i (some v)) H s'→Q () s') (hf:X.fn x=true∨X.env.scope.names.lookup x=some .local:=by first |exact .inl rfl |exact .inr rfl |assumption):wpAny M A (storeName X.env x u) Q E s:=
 IY I hN hi hx r (fun s' I' _=>h s' I') hf
theorem Inv.call' {s':Shared} {ch:List Addr} (I:Inv X pins σ H s) (ho:s'.os=s.os) (u:Un (frs X.stack) ch H H' s.heap s'.heap) (hok:HOk X.prog X.w H' s'.heap) (hg:AllBare s'.gens)
 (hch:∀b∈ch,(b∈X.ex∨X.s₀.heap.objs.size≤b)∧b≠X.env.locals∧(∀x c,X.env.cells.lookup x=some c→c≠b)∧∀p∈X.pn++pins,p.1≠b):Inv X pins σ H' s':=by
 obtain ⟨h',g',d',t',o'⟩:=s'
 have e:o'=s.os:=ho
 subst e
 exact I.call (g':=g') (t':=t') (d':=d') u hok hg hch
end
abbrev XK:=Value→Option Addr→Hp→Prop
abbrev St:=List (Option V)
abbrev VK:=V→Hp→Prop
abbrev TE:=St→Hp→VK→Prop
abbrev TT:=St→Hp→(Bool→Hp→Prop)→Prop
abbrev TA:=St→Hp→(List V→Hp→Prop)→Prop
structure DM where
 nx:St→Hp→Prop
 rt:VK
 bk:St→Hp→Prop:=fun _ _=>False
 ct:St→Hp→Prop:=fun _ _=>False
abbrev TS:=DM→St→Hp→Prop
inductive EP (X:Cx) (pins:List (Addr×Obj)) (σ:St) (Q:VK) (u:Value) (s':Shared):Prop where
 |mk (v:V) (H':Hp) (i:Inv X pins σ H' s') (r:RelV v u) (q:Q v H'):EP X pins σ Q u s'
inductive TP (X:Cx) (pins:List (Addr×Obj)) (σ:St) (Q:Bool→Hp→Prop) (b:Bool) (s':Shared):Prop where
 |mk (H':Hp) (i:Inv X pins σ H' s') (q:Q b H'):TP X pins σ Q b s'
inductive AP (X:Cx) (pins:List (Addr×Obj)) (σ:St) (Q:List V→Hp→Prop) (us:List Value) (s':Shared):Prop where
 |mk (vs:List V) (H':Hp) (i:Inv X pins σ H' s') (r:Vals vs us) (q:Q vs H'):AP X pins σ Q us s'
inductive SN (X:Cx) (pins:List (Addr×Obj)) (q:St→Hp→Prop) (s':Shared):Prop where
 |mk (σ':St) (H':Hp) (i:Inv X pins σ' H' s') (p:q σ' H'):SN X pins q s'
inductive SR (X:Cx) (pins:List (Addr×Obj)) (q:V→Hp→Prop) (u:Value) (s':Shared):Prop where
 |mk (v:V) (σ':St) (H':Hp) (i:Inv X pins σ' H' s') (r:RelV v u) (p:q v H'):SR X pins q u s'
def SP (X:Cx) (pins:List (Addr×Obj)) (D:DM) (f:Flow) (s':Shared):Prop:=
 match f with
 |.next=>SN X pins D.nx s'
 |.brk=>SN X pins D.bk s'
 |.cont=>SN X pins D.ct s'
 |.ret u=>SR X pins D.rt u s'
def PE (X:Cx) (e:Expr) (t:TE):Prop:=
 ∀(pins:List (Addr×Obj)) (s:Shared) (σ:St) (H:Hp) (Q:VK),Inv X pins σ H s→t σ H Q→wpAny (model X.prog X.w) X.A (eval e X.env) (EP X pins σ Q) X.xe s
def PT (X:Cx) (e:Expr) (t:TT):Prop:=
 ∀(pins:List (Addr×Obj)) (s:Shared) (σ:St) (H:Hp) (Q:Bool→Hp→Prop),Inv X pins σ H s→t σ H Q→wpAny (model X.prog X.w) X.A (isTrue e X.env (eval e X.env)) (TP X pins σ Q) X.xe s
def PW (X:Cx) (e:Expr) (t:TT):Prop:=
 ∀(E9:Sem Value) (pins:List (Addr×Obj)) (s:Shared) (σ:St) (H:Hp) (Q:Bool→Hp→Prop),Inv X pins σ H s→t σ H Q→wpAny (model X.prog X.w) X.A (isTrue e X.env E9) (TP X pins σ Q) X.xe s
theorem PW.pt {X:Cx} {e:Expr} {t:TT} (h:PW X e t):PT X e t:=h _
def PA (X:Cx) (es:List Expr) (t:TA):Prop:=
 ∀(pos:Pos) (pins:List (Addr×Obj)) (s:Shared) (σ:St) (H:Hp) (Q:List V→Hp→Prop),Inv X pins σ H s→t σ H Q→wpAny (model X.prog X.w) X.A (spliced (backTo pos (starEach es X.env))) (AP X pins σ Q) X.xe s
def PS (X:Cx) (st:Stmt) (t:TS):Prop:=
 ∀(pins:List (Addr×Obj)) (s:Shared) (σ:St) (H:Hp) (D:DM),Inv X pins σ H s→t D σ H→wpAny (model X.prog X.w) X.A (exec st X.env) (SP X pins D) X.xe s
def D9 (X:Cx) (st:List Stmt) (t:TS):Prop:=
 ∀(pins:List (Addr×Obj)) (s:Shared) (σ:St) (H:Hp) (D:DM),Inv X pins σ H s→t D σ H→wpAny (model X.prog X.w) X.A (execs st X.env) (SP X pins D) X.xe s
theorem Aw {α:Type} {t:Sem α} {Q Q':α→Shared→Prop} {M:Model} {A:Around} {E:Value→Shared→Prop} {s:Shared} (h:wpAny M A t Q E s) (hQ:∀a s,Q a s→Q' a s):wpAny M A t Q' E s:=wpAny_mono h hQ fun _ _ x=>x
section
variable {X:Cx}
def Ms (i:Nat):TE:=fun σ H Q=>∃v,σ[i]?=some (some v)∧Q v H
def tC (v:V):TE:=fun _ H Q=>Q v H
theorem Gz {i:Nat} {x:Str} {pos:Pos} (hN:X.N[i]?=some x) (hv:D8 X.env.scope x) (hd:(x==("__debug__":Str))=false:=by decide) (hcd:(x==("__classdict__":Str))=false:=by decide):PE X (.Name x pos) (Ms i):=by
 intro pins s σ H Q I h
 obtain ⟨v,e,h⟩:=h
 obtain ⟨m,hn,hl⟩:=I.loc
 obtain ⟨u,r,l⟩:=hl i x v hN e hv
 have AW:EP X pins σ Q u s:=⟨v,H,I,r,h⟩
 rcases l with ⟨hk,hm⟩ |⟨hk,c,hc,hcell⟩
 ·exact wpAny_Name (wpAny_loadName_local I.ok.kind hk hn hm AW) hd
 ·rcases hk with hk |hk
  ·exact wpAny_Name (wpAny_loadName_cell I.ok.kind hk hc hcell AW) hd
  ·exact wpAny_Name (wpAny_loadName_free I.ok.kind hk hc hcell AW hcd) hd
theorem T9 {i j pos}:PE X (.Constant (.int i) j pos) (tC (.int i)):=fun _ _ _ H _ I h=>wpAny_Constant_int ⟨.int i,H,I.tok _,⟨_,rfl⟩,h⟩
theorem Ua {b j pos}:PE X (.Constant (.bool b) j pos) (tC (.bl b)):=fun _ _ _ H _ I h=>Constant_bool ⟨.bl b,H,I,rfl,h⟩
theorem Ub {j pos}:PE X (.Constant .none j pos) (tC .non):=fun _ _ _ H _ I h=>Constant_none ⟨.non,H,I,rfl,h⟩
theorem Uc {x j pos}:PE X (.Constant (.str x) j pos) (tC (.str x)):=fun _ _ _ H _ I h=>Calls.Constant_str ⟨.str x,H,I.tok _,⟨_,rfl⟩,h⟩
def Gl (X:Cx) (x:Str):Prop:=X.env.kindOf x=some .globalImplicit
theorem Ft {E:Value→Shared→Prop} {pins:List (Addr×Obj)} {s:Shared} {σ:St} {H:Hp} {x:Str} {u:Value} {pos:Pos} {Q:Value→Shared→Prop} (I:Inv X pins σ H s) (hg:Gl X x) (hm:X.mg x=some u) (h:Q u s)
 (hd:(x==("__debug__":Str))=false:=by decide):wpAny (model X.prog X.w) X.A (eval (.Name x pos) X.env) Q E s:=
 Calls.Name_function_global I.ok.kind hg (Calls.loadGlobal_global (by rw [I.ok.glob];exact I.mod.glob.keeps I.bk) hm h) hd
theorem GA {E:Value→Shared→Prop} {pins:List (Addr×Obj)} {s:Shared} {σ:St} {H:Hp} {x:Str} {u:Value} {pos:Pos} {Q:Value→Shared→Prop} (I:Inv X pins σ H s) (hg:Gl X x) (hm:X.mg x=none) (hv:bootBuiltins x=some u) (h:Q u s)
 (hn:x≠"__name__":=by decide) (hd:(x==("__debug__":Str))=false:=by decide):wpAny (model X.prog X.w) X.A (eval (.Name x pos) X.env) Q E s:=by
 obtain ⟨mb,h1,h2⟩:=I.mod.blt
 exact Calls.Name_function_global I.ok.kind hg (Calls.loadGlobal_builtin (by rw [I.ok.glob];exact I.mod.glob.keeps I.bk) hm (by rw [I.ok.blt];exact h1.keeps I.bk) ((h2 x hn).trans hv) h) hd
theorem Ud {x:Str} {v:V} {u:Value} {pos:Pos} (hg:Gl X x) (hm:X.mg x=some u) (r:RelV v u) (hd:(x==("__debug__":Str))=false:=by decide):PE X (.Name x pos) (tC v):=
 fun _ _ _ H _ I h=>Ft I hg hm ⟨v,H,I,r,h⟩ hd
theorem Ue {x:Str} {v:V} {u:Value} {pos:Pos} (hg:Gl X x) (hm:X.mg x=none) (hv:bootBuiltins x=some u) (r:RelV v u) (hn:x≠"__name__":=by decide) (hd:(x==("__debug__":Str))=false:=by decide):PE X (.Name x pos) (tC v):=
 fun _ _ _ H _ I h=>GA I hg hm hv ⟨v,H,I,r,h⟩ hn hd
variable {a b:Expr} {ta tb:TE} {pos:Pos}
variable {tA tB':TT} {rest:List Expr}
def Ug (t u:TT):TT:=fun σ H Q=>t σ H fun c H1=>if c=true then Q true H1 else u σ H1 Q
def Uh (t:TT):TT:=fun σ H Q=>t σ H fun c H1=>Q (!c) H1
theorem Ui (ha:PT X a tA):PW X (.BoolOp .Or [a] pos) tA:=by
 intro wh pins s σ H Q I h
 refine isTrue_or (Aw (ha pins s σ H Q I h) fun c s1 e=>?_)
 cases c with
 |false=>exact isTrue_or_nil e
 |true=>exact e
theorem Uj (ha:PT X a tA) (hb:PW X (.BoolOp .Or (b::rest) pos) tB'):PW X (.BoolOp .Or (a::b::rest) pos) (Ug tA tB'):=by
 intro wh pins s σ H Q I h
 refine isTrue_or (Aw (ha pins s σ H _ I h) fun c s1 z9_=>?_)
 obtain ⟨H1,I1,q1⟩:=z9_
 cases c with
 |true=>exact ⟨H1,I1,q1⟩
 |false=>exact hb wh pins s1 σ H1 Q I1 q1
theorem Uk (ha:PT X a tA):PT X (.UnaryOp .Not a pos) (Uh tA):=by
 intro pins s σ H Q I h
 exact isTrue_not (Aw (ha pins s σ H (fun c H1=>Q (!c) H1) I h) fun c s1 z=>by cases z with |mk H1 I1 q=>exact ⟨H1,I1,q⟩)
def Ul (ta tb:TE):TE:=fun σ H Q=>ta σ H fun x H1=>∃c,x=.bl c∧if c=true then tb σ H1 Q else Q (.bl false) H1
def Zcf (ta tb:TE):TE:=fun σ H Q=>ta σ H fun x H1=>∃c,x=.bl c∧if c=true then Q (.bl true) H1 else tb σ H1 Q
def Um (ta:TE):TE:=fun σ H Q=>ta σ H fun x H1=>∃c,x=.bl c∧Q (.bl (!c)) H1
theorem Uo {op} {t:TE} (h:PE X a t):PE X (.BoolOp op [a] pos) t:=fun pins s σ H Q I hw=>BoolOp_one (h pins s σ H Q I hw)
theorem Up (ha:PE X a ta) (hb:PE X (.BoolOp .And (b::rest) pos) tb):PE X (.BoolOp .And (a::b::rest) pos) (Ul ta tb):=by
 intro pins s σ H Q I h
 refine BoolOp_and (Aw (ha pins s σ H _ I h) fun v s1 z10_=>?_)
 obtain ⟨x,H1,I1,r1,q1⟩:=z10_
 obtain ⟨c,rfl,q1⟩:=q1
 cases r1
 refine wpAny_truthy_bool ?_
 cases c with
 |true=>exact hb pins s1 σ H1 Q I1 q1
 |false=>exact ⟨.bl false,H1,I1,rfl,q1⟩
theorem Uq (ha:PE X a ta):PE X (.UnaryOp .Not a pos) (Um ta):=by
 intro pins s σ H Q I h
 refine UnaryOp_ (Aw (ha pins s σ H _ I h) fun v s1 z12_=>?_)
 obtain ⟨x,H1,I1,r1,q1⟩:=z12_
 obtain ⟨c,rfl,q1⟩:=q1
 cases r1
 exact not_of (wpAny_truthy_bool ⟨.bl (!c),H1,I1,rfl,q1⟩)
def Ur (t:TT) (ta tb:TE):TE:=fun σ H Q=>t σ H fun c H1=>if c=true then ta σ H1 Q else tb σ H1 Q
theorem Us {c:Expr} (hc:PT X c tA) (ha:PE X a ta) (hb:PE X b tb):PE X (.IfExp c a b pos) (Ur tA ta tb):=by
 intro pins s σ H Q I h
 refine wpAny_IfExp (Aw (hc pins s σ H _ I h) fun d s1 z13_=>?_)
 obtain ⟨H1,I1,q1⟩:=z13_
 cases d with
 |true=>exact ha pins s1 σ H1 Q I1 q1
 |false=>exact hb pins s1 σ H1 Q I1 q1
end
def SqL (K:PySem.W.Frag) (H:Hp) (a:Addr) (xs:List V):Prop:=
 Rd H a (.lst xs)∨
  ∃(o:Obj) (its:Array Value) (n:Nat),K.lookup a=some o∧o.cls=.type "list"∧o.dict=none∧o.data=.seq its n∧its.size≤sizeLine∧Vals xs its.toList
def SqT (K:PySem.W.Frag) (H:Hp) (a:Addr) (xs:List V):Prop:=
 Rd H a (.tup xs)∨
  ∃(o:Obj) (its:Array Value) (n:Nat),K.lookup a=some o∧o.cls=.type "tuple"∧o.data=.seq its n∧its.size≤sizeLine∧Vals xs its.toList
def Ut:Value→Option V
 |.none=>some .non
 |.bool b=>some (.bl b)
 |.int i _=>some (.int i)
 |.str x _=>some (.str x)
 |.bytes b _=>some (.byt b)
 |.float b _=>some (.flt b)
 |.ref a=>some (.ref a)
 |.type n=>some (.ty n)
 |_=>none
theorem RelV.abs {x:V} {u:Value} (r:RelV x u):Ut u=some x:=by
 cases x with
 |non=>cases r;rfl
 |bl _=>cases r;rfl
 |int _=>obtain ⟨t,rfl⟩:=r;rfl
 |str _=>obtain ⟨t,rfl⟩:=r;rfl
 |byt _=>obtain ⟨t,rfl⟩:=r;rfl
 |flt _=>obtain ⟨t,rfl⟩:=r;rfl
 |ref _=>cases r;rfl
 |ty _=>cases r;rfl
theorem RelV.inj {x y:V} {u:Value} (r:RelV x u) (q:RelV y u):x=y:=Option.some.inj (r.abs.symm.trans q.abs)
theorem Vals.inj {xs ys:List V} {us:List Value} (h:Vals xs us) (g:Vals ys us):xs=ys:=by
 induction h generalizing ys with
 |nil=>cases g;rfl
 |cons r t ih=>cases g with |cons r' t'=>rw [r.inj r',ih t']
section
variable {X:Cx} {pins:List (Addr×Obj)} {σ:St} {H:Hp} {s:Shared} {a:Addr} {xs ys:List V}
theorem SqL.of {K:PySem.W.Frag} (h:H a=some (.lst xs)):SqL K H a xs:=.inl (.inl h)
theorem SqT.of {K:PySem.W.Frag} (h:H a=some (.tup xs)):SqT K H a xs:=.inl (.inl h)
theorem Inv.list (I:Inv X pins σ H s) (h:SqL X.K H a xs):∃its:List Value,Vals xs its∧PlainL s.heap a its.toArray∧xs.length≤sizeLine:=by
 rcases h with h |⟨o,its,n,hk,hc,hd,hs,hz,r⟩
 ·obtain ⟨z,its,n,r,e⟩:=h.ok I.hok
  exact ⟨its,r,⟨_,n,e,rfl,rfl,rfl⟩,z⟩
 ·refine ⟨its.toList,r,⟨o,n,I.kIn a o hk,hc,hd,by simpa using hs⟩,?_⟩
  have e:=r.length
  simp only [Array.length_toList] at e
  omega
theorem Inv.tuple (I:Inv X pins σ H s) (h:SqT X.K H a xs):∃its:List Value,Vals xs its∧IsTup s.heap a its.toArray∧xs.length≤sizeLine:=by
 rcases h with h |⟨o,its,n,hk,hc,hs,hz,r⟩
 ·obtain ⟨z,its,r,p,_⟩:=h.ok I.hok
  exact ⟨its,r,p,z⟩
 ·refine ⟨its.toList,r,⟨o,I.kIn a o hk,hc,n,by simpa using hs⟩,?_⟩
  have e:=r.length
  simp only [Array.length_toList] at e
  omega
theorem Inv.list_inj (I:Inv X pins σ H s) (h:SqL X.K H a xs) (h':SqL X.K H a ys):xs=ys:=by
 obtain ⟨its,r,⟨o,n,e,_,_,d⟩,_⟩:=I.list h
 obtain ⟨its',r',⟨o',n',e',_,_,d'⟩,_⟩:=I.list h'
 rw [e] at e';cases e'
 rw [d] at d'
 injection d' with d1 _
 have:its=its':=by simpa using congrArg Array.toList d1
 subst this
 exact r.inj r'
theorem Inv.tuple_inj (I:Inv X pins σ H s) (h:SqT X.K H a xs) (h':SqT X.K H a ys):xs=ys:=by
 obtain ⟨its,r,⟨o,e,_,n,d⟩,_⟩:=I.tuple h
 obtain ⟨its',r',⟨o',e',_,n',d'⟩,_⟩:=I.tuple h'
 rw [e] at e';cases e'
 rw [d] at d'
 injection d' with d1 _
 have:its=its':=by simpa using congrArg Array.toList d1
 subst this
 exact r.inj r'
end
section
variable {X:Cx} {pins:List (Addr×Obj)} {σ:St} {H:Hp} {s:Shared} {E:Value→Shared→Prop}
end
section
variable {X:Cx} {st:Stmt} {rest:List Stmt} {t u:TS} {e:Expr} {te:TE} {pos:Pos}
def Uu:TS:=fun D σ H=>D.nx σ H
def Uv (t u:TS):TS:=fun D σ H=>t {D with nx:=u D} σ H
theorem Uw:D9 X [] Uu:=fun _ _ σ H _ I h=>wpAny_execs_nil ⟨σ,H,I,h⟩
theorem Mt (h1:PS X st t) (h2:D9 X rest u):D9 X (st::rest) (Uv t u):=by
 intro pins s σ H D I h
 refine wpAny_execs_cons (Aw (h1 pins s σ H {D with nx:=u D} I h) fun f s1 q=>?_)
 cases f with
 |next=>
  obtain ⟨σ',H',I',q⟩:=q
  exact h2 pins s1 σ' H' D I' q
 |ret v=>exact q
 |brk=>exact q
 |cont=>exact q
theorem Pd (h1:PS X st t):D9 X [st] t:=by
 intro pins s σ H D I h
 refine wpAny_execs_cons (Aw (h1 pins s σ H D I h) fun f s1 q=>?_)
 cases f with
 |next=>exact wpAny_execs_nil q
 |ret v=>exact q
 |brk=>exact q
 |cont=>exact q
theorem Inv.quiet {pins:List (Addr×Obj)} {σ:St} {H:Hp} {s:Shared} (I:Inv X pins σ H s):interactive X.env=false:=by simp [interactive,I.ok.kind]
def Ux (te:TE):TS:=fun D σ H=>te σ H fun _ H1=>D.nx σ H1
theorem Pe (he:PE X e te) (hs:swapsWith e none pos.line X.env=pure false:=by rfl):PS X (.Expr e pos) (Ux te):=by
 intro pins s σ H D I h
 exact wpAny_Expr_any (Aw (he pins s σ H _ I h) fun v s1 z16_=>by obtain ⟨x,H1,I1,r1,q1⟩:=z16_;exact (⟨σ,H1,I1,q1⟩)) I.quiet hs
def Uy (te:TE):TS:=fun D σ H=>te σ H D.rt
theorem Uz (he:PE X e te):PS X (.Return (some e) pos) (Uy te):=by
 intro pins s σ H D I h
 exact wpAny_Return_some (Aw (he pins s σ H _ I h) fun v s1 z17_=>by obtain ⟨x,H1,I1,r1,q1⟩:=z17_;exact (⟨x,σ,H1,I1,r1,q1⟩))
def UA (c:TT) (t u:TS):TS:=fun D σ H=>c σ H fun b H1=>if b=true then t D σ H1 else u D σ H1
theorem UB {c:Expr} {a b:List Stmt} {tc:TT} (hc:PT X c tc) (ha:D9 X a t) (hb:D9 X b u):PS X (.If c a b pos) (UA tc t u):=by
 intro pins s σ H D I h
 refine wpAny_If (Aw (hc pins s σ H _ I h) fun d s1 z18_=>?_)
 obtain ⟨H1,I1,q1⟩:=z18_
 cases d with
 |true=>exact ha pins s1 σ H1 D I1 q1
 |false=>exact hb pins s1 σ H1 D I1 q1
def Zcg:TS:=fun _ _ _=>False
end
abbrev TG:=V→St→Hp→(St→Hp→Prop)→Prop
abbrev FV:=List V→St→Hp→(St→Hp→Prop)→Prop
def PG (X:Cx) (target:Expr) (t:TG):Prop:=
 ∀(pins:List (Addr×Obj)) (s:Shared) (σ:St) (H:Hp) (v:V) (u:Value) (Q:St→Hp→Prop),Inv X pins σ H s→RelV v u→t v σ H Q→
  wpAny (model X.prog X.w) X.A (assign target X.env u) (fun _ s'=>SN X pins Q s') X.xe s
def Ks (X:Cx) (ts:List Expr) (t:FV):Prop:=
 ∀(pins:List (Addr×Obj)) (s:Shared) (σ:St) (H:Hp) (vs:List V) (us:List Value) (Q:St→Hp→Prop),Inv X pins σ H s→Vals vs us→t vs σ H Q→
  wpAny (model X.prog X.w) X.A (assignInOrder ((assignEach ts X.env).map (·.2)) us) (fun _ s'=>SN X pins Q s') X.xe s
abbrev Mu:=V→V→V→Hp→(Hp→Prop)→Prop
def Pf (X:Cx) (t:Mu):Prop:=
 ∀(pins:List (Addr×Obj)) (s:Shared) (σ:St) (H:Hp) (o i v:V) (ov iv u:Value) (Q:Hp→Prop),Inv X pins σ H s→RelV o ov→RelV i iv→RelV v u→t o i v H Q→
  wpAny (model X.prog X.w) X.A (setItem ov iv u) (fun _ s'=>∃H',Inv X pins σ H' s'∧Q H') X.xe s
section
variable {X:Cx} {pos:Pos}
def Cu (i:Nat):TG:=fun v σ H Q=>Q (σ.set i (some v)) H
theorem AF {i:Nat} {x:Str} (hN:X.N.Nodup) (hi:X.N[i]?=some x) (hx:FU X.env.scope x) (hf:X.fn x=true∨X.env.scope.names.lookup x=some .local:=by first |exact .inl rfl |exact .inr rfl |assumption):PG X (.Name x pos) (Cu i):=by
 intro pins s σ H v u Q I r h
 exact wpAny_assign_Name (Pc I hN hi hx r (fun s' I'=>⟨_,H,I',h⟩) hf)
def GB:FV:=fun vs σ H Q=>vs=[]∧Q σ H
def DN (t:TG) (u:FV):FV:=fun vs σ H Q=>∃v r,vs=v::r∧t v σ H fun σ' H'=>u r σ' H' Q
theorem Pg:Ks X [] GB:=by
 intro pins s σ H vs us Q I r h
 obtain ⟨e,h⟩:=h
 subst e
 cases r
 exact assignInOrder_nil ⟨σ,H,I,h⟩
theorem Kt {e:Expr} {es:List Expr} {t:TG} {u:FV} (h1:PG X e t) (h2:Ks X es u)
 (hs:(assignEach (e::es) X.env).map (·.2)=assign e X.env::(assignEach es X.env).map (·.2):=by rfl):Ks X (e::es) (DN t u):=by
 intro pins s σ H vs us Q I r h
 obtain ⟨v,vr,e1,h⟩:=h
 subst e1
 cases r with
 |cons r rr=>
  rw [hs]
  refine assignInOrder_cons (Aw (h1 pins s σ H _ _ _ I r h) fun _ s1 z19_=>?_)
  obtain ⟨σ1,H1,I1,q1⟩:=z19_
  exact h2 pins s1 σ1 H1 _ _ Q I1 rr q1
def GC (K:PySem.W.Frag) (n:Nat) (t:FV):TG:=fun v σ H Q=>∃a xs,v=.ref a∧SqT K H a xs∧xs.length=n∧t xs σ H Q
theorem Ph {es:List Expr} {k:Nat} {t:FV} {n:Nat} (hc:X.calm=true) (h:Ks X es t)
 (hn:(assignEach es X.env).length=n:=by rfl) (hst:(assignEach es X.env).findIdx? (·.1)=none:=by rfl):PG X (.Tuple es k pos) (GC X.K n t):=by
 intro pins s σ H v u Q I r hw
 obtain ⟨a,xs,e1,hq,hl,hw⟩:=hw
 subst e1
 cases r
 obtain ⟨its,rv,ht,hz⟩:=I.tuple hq
 refine assign_Tuple_tuple (I.ok.hd hc) ht (by simp [hn,←hl,rv.length]) hst fun h' hx=>?_
 have I1:Inv X pins σ H {s with heap:=h'}:=I.kept (t':=s.toks) fun b o e=>hx b o (BG (AE e)) e
 exact h pins _ σ H xs _ Q I1 (by simpa using rv) hw
def UC (to ti:TE) (t:Mu):TG:=fun v σ H Q=>to σ H fun o H1=>ti σ H1 fun i H2=>t o i v H2 fun H3=>Q σ H3
theorem UD {o i:Expr} {to ti:TE} {t:Mu} (ho:PE X o to) (hi:PE X i ti) (hs:Pf X t)
 (ha:∀v,assign (.Subscript o i pos) X.env v=(do
  let ov ←holding [v] (eval o X.env)
  let iv ←holding [v,ov] (eval i X.env)
  standAt pos
  holding [v,ov,iv] (setItem ov iv v)
  release [v,ov,iv] []):=by intro _;rfl):PG X (.Subscript o i pos) (UC to ti t):=by
 intro pins s σ H v u Q I r h
 rw [ha]
 refine wpAny_bind (wpAny_holding (Aw (ho pins s σ H _ I h) fun ov s1 z20_=>?_))
 obtain ⟨x,H1,I1,r1,q1⟩:=z20_
 refine wpAny_bind (wpAny_holding (Aw (hi pins s1 σ H1 _ I1 q1) fun iv s2 z21_=>?_))
 obtain ⟨y,H2,I2,r2,q2⟩:=z21_
 refine wpAny_bind (wpAny_standAt (wpAny_bind (wpAny_holding (Aw (hs pins s2 σ H2 x y v ov iv u _ I2 r1 r2 r q2) fun _ s3 z22_=>?_))))
 obtain ⟨H3,I3,q3⟩:=z22_
 exact wpAny_release ⟨σ,H3,I3,q3⟩
def Pi (te:TE) (g:TG):TS:=fun D σ H=>te σ H fun x H1=>g x σ H1 D.nx
theorem Pj {tg e:Expr} {te:TE} {g:TG} (he:PE X e te) (hg:PG X tg g) (hs:swapsWithSole [tg] e pos.line X.env=pure false:=by rfl) (hw:swappedStores [tg] e X.env=pure none:=by rfl)
 (h1:(assignEach [tg] X.env).map (·.2)=[assign tg X.env]:=by rfl):PS X (.Assign [tg] e pos) (Pi te g):=by
 intro pins s σ H D I h
 refine wpAny_Assign_stores (Aw (he pins s σ H _ I h) fun v s1 z23_=>?_) hs hw
 obtain ⟨x,H1,I1,r1,q1⟩:=z23_
 rw [h1]
 exact Aw (hg pins s1 σ H1 x v _ I1 r1 q1) fun _ s2 q=>q
theorem UE {i:Nat} {x:Str} {e:Expr} {te:TE} {pos':Pos} (hN:X.N.Nodup) (hi:X.N[i]?=some x) (hx:FU X.env.scope x) (he:PE X e te) (hs:swapsWith e (some (.Name x pos')) pos.line X.env=pure false:=by rfl) (hf:X.fn x=true∨X.env.scope.names.lookup x=some .local:=by first |exact .inl rfl |exact .inr rfl |assumption):
 PS X (.Assign [.Name x pos'] e pos) (Pi te (Cu i)):=by
 intro pins s σ H D I h
 refine wpAny_Assign_Name (Aw (he pins s σ H _ I h) fun v s1 z24_=>?_) hs
 obtain ⟨y,H1,I1,r1,q1⟩:=z24_
 exact Pc I1 hN hi hx r1 (fun s2 I2=>⟨_,H1,I2,q1⟩) hf
def Zch (i j:Nat) (ta:TA):TS:=fun D σ H=>ta σ H fun vs H1=>∃v w,vs=[v,w]∧D.nx ((σ.set i (some v)).set j (some w)) H1
end
section
variable {X:Cx} {pos:Pos}
end
structure It where
 go:Nat→Hp→Prop
 yld:Nat→Hp→V→Hp→Prop
 stop:Nat→Hp→Prop
def CQ (X:Cx) (pins:List (Addr×Obj)) (H:Hp) (b:Addr):Prop:=
 H b=none∧b≠X.env.locals∧b∉X.fs∧(b∈X.ex∨X.s₀.heap.objs.size≤b)∧(∀x c,X.env.cells.lookup x=some c→c≠b)∧∀p∈X.pn++pins,p.1≠b
theorem Inv.fpOk {X:Cx} {pins:List (Addr×Obj)} {σ:St} {H H':Hp} {s:Shared} {b:Addr} (I:Inv X pins σ H s) (hb:s.heap.objs.size≤b) (hn:H' b=none):CQ X pins H' b:=by
 refine ⟨hn,Cn (AX I.lt hb),I.nofs hb,.inr (BA I.sz hb),fun x c e z=>?_,fun p hp z=>?_⟩
 ·obtain ⟨v,q⟩:=I.cell x c e
  exact absurd (AX q.lt (by rw [z];exact hb)) (CP _)
 ·exact absurd (AX (AE (I.pin p hp).1) (by rw [z];exact hb)) (CP _)
structure FW (P:Program) (w:World) (K:PySem.W.Frag) (tg:Expr) (J:It) (fp:List Addr) (it:Addr) (tn:Nat→Heap→Prop):Prop where
 mem:it∈fp
 obj:∀i h,tn i h→∀b∈fp,∃o,h.get? b=some o∧∀v,o.data≠.cell v
 keep:∀i h h',tn i h→(∀b∈fp,∀o,h.get? b=some o→h'.get? b=some o)→tn i h'
 item:∀(X:Cx),X.prog=P→X.w=w→X.K=K→X.calm=true→∀(i:Nat) (pins:List (Addr×Obj)) (s:Shared) (σ:St) (H:Hp) (E:Value→Shared→Prop),Inv X pins σ H s→(∀b∈fp,CQ X pins H b)→tn i s.heap→J.go i H→
  wpAny (model P w) X.A (pyNext (.ref it)) (fun r s1=>∃u,r=some u∧
   wpAny (model P w) X.A (letOwnedTupleGo tg (.ref it) u) (fun _ s2=>∃x H',Inv X pins σ H' s2∧RelV x u∧J.yld i H x H'∧tn (i+1) s2.heap∧∀b∈fp,H' b=none) E s1) E s
 done:∀(X:Cx),X.prog=P→X.w=w→X.K=K→X.calm=true→∀(i:Nat) (pins:List (Addr×Obj)) (s:Shared) (σ:St) (H:Hp) (E:Value→Shared→Prop),Inv X pins σ H s→(∀b∈fp,CQ X pins H b)→tn i s.heap→J.stop i H→
  wpAny (model P w) X.A (pyNext (.ref it)) (fun r s1=>r=none∧Inv X pins σ H s1) E s
 self:∀(A:Around) (i:Nat) (s:Shared) (Q:Value→Shared→Prop) (E:Value→Shared→Prop),tn i s.heap→Q (.ref it) s→wpAny (model P w) A (pyIter (.ref it)) Q E s
abbrev TI:=St→Hp→(It→Hp→Prop)→Prop
inductive Mv (X:Cx) (pins:List (Addr×Obj)) (σ:St) (tg:Expr) (R:It→Hp→Prop) (itv:Value) (s2:Shared):Prop where
 |mk (it:Addr) (fp:List Addr) (tn:Nat→Heap→Prop) (J:It) (H':Hp) (e:itv=.ref it) (i:Inv X pins σ H' s2) (t:FW X.prog X.w X.K tg J fp it tn) (st:tn 0 s2.heap) (f:∀b∈fp,CQ X pins H' b) (r:R J H'):Mv X pins σ tg R itv s2
def PI (X:Cx) (tg iter:Expr) (wi:TI):Prop:=
 ∀(pins:List (Addr×Obj)) (s:Shared) (σ:St) (H:Hp) (R:It→Hp→Prop),Inv X pins σ H s→wi σ H R→
  wpAny (model X.prog X.w) X.A (eval iter X.env) (fun v s1=>wpAny (model X.prog X.w) X.A (pyIter v) (Mv X pins σ tg R) X.xe s1) X.xe s
theorem Mw {M:Model} {A:Around} {E:Value→Shared→Prop} {s:Shared} {tg:Expr} {it:Addr} {u:Value} {o:Obj} {n:String} {vs:Array Value} {Q:Unit→Shared→Prop} (ho:s.heap.get? it=some o) (hc:o.cls=.type n) (hd:o.data=.fields vs)
 (hn:["enumerate","zip","dict_itemiterator","dict_reverseitemiterator","odict_iterator","itertools.zip_longest","itertools.pairwise"].contains n=false) (hQ:Q () s):wpAny M A (letOwnedTupleGo tg (.ref it) u) Q E s:=by
 unfold letOwnedTupleGo
 cases tg<;>first
  |exact wpAny_pure hQ
  |(cases u<;>first
   |exact wpAny_pure hQ
   |(refine wpAny_bind (wpAny_load ho ?_)
     rw [hc,hd]
     show wpAny M A (if (["enumerate","zip","dict_itemiterator","dict_reverseitemiterator","odict_iterator","itertools.zip_longest","itertools.pairwise"].contains n&&vs[0]?==some (rawInt _))=true then _ else _) Q E s
     rw [if_neg (by intro h;rw [hn,Bool.false_and] at h;cases h)]
     exact wpAny_pure hQ))
def IZ (K:PySem.W.Frag) (a:Addr):It:=
 ⟨fun i H=>∃xs x,SqL K H a xs∧xs[i]?=some x,fun i H x H'=>H'=H∧∀xs,SqL K H a xs→xs[i]?=some x,fun i H=>∃xs,SqL K H a xs∧xs.length≤i⟩
def Ja (K:PySem.W.Frag) (a:Addr):It:=
 ⟨fun i H=>∃xs x,SqT K H a xs∧xs[i]?=some x,fun i H x H'=>H'=H∧∀xs,SqT K H a xs→xs[i]?=some x,fun i H=>∃xs,SqT K H a xs∧xs.length≤i⟩
def Jb (lo:Int) (n:Nat):It:=⟨fun i _=>i<n,fun i H x H'=>H'=H∧x=.int (lo+i),fun i _=>n≤i⟩
theorem UF {P:Program} {w:World} {K:PySem.W.Frag} {tg:Expr} (a it:Addr):FW P w K tg (IZ K a) [it] it (fun i h=>h.IsListIter it a i) where
 mem:=by simp
 obj:=fun i h st b hb=>by
  have e:b=it:=by simpa using hb
  subst e
  obtain ⟨o,e,c,d⟩:=st
  exact ⟨o,e,fun v z=>by rw [d] at z;cases z⟩
 keep:=fun i h h' st k=>st.at fun o e=>k it (by simp) o e
 item:=by
  intro X hP hw hK hc i pins s σ H E I hf st hg
  subst hP hw hK
  obtain ⟨xs,x,hq,hx⟩:=hg
  obtain ⟨its,rv,p,hz⟩:=I.list hq
  obtain ⟨u,hu,ru⟩:=rv.get hx
  obtain ⟨f0,f1,f2,f3,f4,f5⟩:=hf it (by simp)
  refine wpAny_pyNext_list_item st p.isList (x:=u) (by simpa using hu) fun h' st' sb=>?_
  have I1:Inv X pins σ H {s with heap:=h'}:=I.turned (t':=s.toks) (fun b o hb e=>(sb.2 b hb).trans e) f0 f1 f3 f4 f5
  obtain ⟨o,e,c,d⟩:=id st'
  exact ⟨u,rfl,Mw (s:={s with heap:=h'}) e c d (by decide) ⟨x,H,I1,ru,⟨rfl,fun ys hy=>by rw [I.list_inj hy hq];exact hx⟩,st',fun b hb=>(hf b hb).1⟩⟩
 done:=by
  intro X hP hw hK hc i pins s σ H E I hf st hg
  subst hP hw hK
  obtain ⟨xs,hq,hx⟩:=hg
  obtain ⟨its,rv,p,hz⟩:=I.list hq
  obtain ⟨f0,f1,f2,f3,f4,f5⟩:=hf it (by simp)
  have hl:=rv.length
  exact wpAny_pyNext_list_end (I.ok.hd hc) st p.isList (by simp;omega) fun h' eb=>⟨rfl,I.turned (t':=s.toks) (fun b o hb e=>eb b o hb e) f0 f1 f3 f4 f5⟩
 self:=fun _ _ _ _ _ st h=>wpAny_pyIter_listiter st h
theorem UG {P:Program} {w:World} {K:PySem.W.Frag} {tg:Expr} (a it:Addr):FW P w K tg (Ja K a) [it] it (fun i h=>h.IsTupleIter it a i) where
 mem:=by simp
 obj:=fun i h st b hb=>by
  have e:b=it:=by simpa using hb
  subst e
  obtain ⟨o,e,c,d⟩:=st
  exact ⟨o,e,fun v z=>by rw [d] at z;cases z⟩
 keep:=fun i h h' st k=>st.at fun o e=>k it (by simp) o e
 item:=by
  intro X hP hw hK hc i pins s σ H E I hf st hg
  subst hP hw hK
  obtain ⟨xs,x,hq,hx⟩:=hg
  obtain ⟨its,rv,p,hz⟩:=I.tuple hq
  obtain ⟨u,hu,ru⟩:=rv.get hx
  obtain ⟨f0,f1,f2,f3,f4,f5⟩:=hf it (by simp)
  refine wpAny_pyNext_tuple_item st (show s.heap.IsTuple a its.toArray from p) (x:=u) (by simpa using hu) fun h' st' sb=>?_
  have I1:Inv X pins σ H {s with heap:=h'}:=I.turned (t':=s.toks) (fun b o hb e=>(sb.2 b hb).trans e) f0 f1 f3 f4 f5
  obtain ⟨o,e,c,d⟩:=id st'
  exact ⟨u,rfl,Mw (s:={s with heap:=h'}) e c d (by decide) ⟨x,H,I1,ru,⟨rfl,fun ys hy=>by rw [I.tuple_inj hy hq];exact hx⟩,st',fun b hb=>(hf b hb).1⟩⟩
 done:=by
  intro X hP hw hK hc i pins s σ H E I hf st hg
  subst hP hw hK
  obtain ⟨xs,hq,hx⟩:=hg
  obtain ⟨its,rv,p,hz⟩:=I.tuple hq
  obtain ⟨f0,f1,f2,f3,f4,f5⟩:=hf it (by simp)
  have hl:=rv.length
  exact wpAny_pyNext_tuple_end (I.ok.hd hc) st (show s.heap.IsTuple a its.toArray from p) (by simp;omega) fun h' eb=>⟨rfl,I.turned (t':=s.toks) (fun b o hb e=>eb b o hb e) f0 f1 f3 f4 f5⟩
 self:=fun _ _ _ _ _ st h=>wpAny_pyIter_tupleiter st h
theorem UH {P:Program} {w:World} {K:PySem.W.Frag} {tg:Expr} (it:Addr) (lo:Int) (n:Nat):FW P w K tg (Jb lo n) [it] it (fun i h=>IsRangeIter h it (lo+(i:Nat)*1) ((n:Int) - (i:Nat)) 1) where
 mem:=by simp
 obj:=fun i h st b hb=>by
  have e:b=it:=by simpa using hb
  subst e
  exact ⟨_,st,fun v z=>by
   have z':Data.fields _=Data.cell v:=z
   cases z'⟩
 keep:=fun i h h' st k=>k it (by simp) _ st
 item:=by
  intro X hP hw hK hc i pins s σ H E I hf st hg
  subst hP hw hK
  obtain ⟨f0,f1,f2,f3,f4,f5⟩:=hf it (by simp)
  have W:=Walks.range (prog:=X.prog) (w:=X.w) (I.ok.hd hc) it lo 1 n
  refine W.item i s _ _ hg st fun v h' tk hv st' kk=>?_
  obtain ⟨t,rfl⟩:=hv
  have I1:Inv X pins σ H {s with heap:=h',toks:=tk}:=I.turned (fun b o hb e=>kk b o (by simpa using hb) e) f0 f1 f3 f4 f5
  refine ⟨_,rfl,Mw (s:={s with heap:=h',toks:=tk}) (n:="range_iterator") st' rfl rfl (by decide) ⟨.int (lo+i),H,I1,⟨t,?_⟩,⟨rfl,rfl⟩,st',fun b hb=>(hf b hb).1⟩⟩
  rw [Int.mul_one]
 done:=by
  intro X hP hw hK hc i pins s σ H E I hf st hg
  subst hP hw hK
  obtain ⟨f0,f1,f2,f3,f4,f5⟩:=hf it (by simp)
  exact wpAny_pyNext_range_end (I.ok.hd hc) st (by have:n≤i:=hg;omega) fun h' eb=>⟨rfl,I.turned (t':=s.toks) (fun b o hb e=>eb b o hb e) f0 f1 f3 f4 f5⟩
 self:=fun _ _ _ _ _ st h=>wpAny_pyIter_rangeiter st h
section
variable {X:Cx} {tg:Expr}
theorem Pk {pins:List (Addr×Obj)} {σ:St} {H:Hp} {s:Shared} {R:It→Hp→Prop} {E:Value→Shared→Prop} {lo hi:Int} {t u v:Tok} {tk:Nat} (I:Inv X pins σ H s) (h1:-(2^62)≤lo) (h2:lo<2^62) (h3:-(2^62)≤hi) (h4:hi<2^62)
 (q:R (Jb lo (hi - lo).toNat) H):wpAny (model X.prog X.w) X.A (pyIter (.ref s.heap.objs.size)) (Mv X pins σ tg R) E {s with heap:=s.heap.push {cls:=.type "range",data:=.fields #[.int lo t,.int hi u,.int 1 v]},toks:=tk}:=by
 refine wpAny_pyIter_range (IsRange.new ..) (small_one h1 h2 h3 h4) ?_
 have I1:Inv X pins σ H {s with heap:=s.heap.push {cls:=.type "range",data:=.fields #[.int lo t,.int hi u,.int 1 v]},toks:=tk}:=I.kept fun b o e=>AJ _ e
 refine ⟨(s.heap.push {cls:=.type "range",data:=.fields #[.int lo t,.int hi u,.int 1 v]}).objs.size,[(s.heap.push {cls:=.type "range",data:=.fields #[.int lo t,.int hi u,.int 1 v]}).objs.size],_,_,H,rfl,
  I1.kept (t':=tk) fun b o e=>AJ _ e,UH _ lo (hi - lo).toNat,?_,fun b hb=>?_,q⟩
 ·have e1:lo+((0:Nat):Int)*1=lo:=by simp
  have e2:(((hi - lo).toNat:Nat):Int) - ((0:Nat):Int)=Builtin.Range.rangeSize lo hi 1:=by rw [rangeSize_one];split<;>omega
  show IsRangeIter _ _ (lo+((0:Nat):Int)*1) ((((hi - lo).toNat:Nat):Int) - ((0:Nat):Int)) 1
  rw [e1,e2]
  exact Bz _ rfl
 ·have e:b=(s.heap.push {cls:=.type "range",data:=.fields #[.int lo t,.int hi u,.int 1 v]}).objs.size:=by simpa using hb
  subst e
  exact I1.fpOk (AM _) (I1.hok.fresh (AM _))
def UI (ta:TA):TI:=fun σ H R=>ta σ H fun vs H1=>∃j:Int,vs=[.int j]∧-(2^62)≤j∧j<2^62∧R (Jb 0 j.toNat) H1
def UJ (ta:TA):TI:=fun σ H R=>ta σ H fun vs H1=>∃i j:Int,vs=[.int i,.int j]∧(-(2^62)≤i∧i<2^62∧-(2^62)≤j∧j<2^62)∧R (Jb i (j - i).toNat) H1
theorem UK {a:Expr} {ta:TA} {p pos:Pos} (hg:Gl X "range") (hm:X.mg "range"=none) (ha:PA X [a] ta) (hs:starEach [a] X.env=[(false,eval a X.env)]:=by rfl):PI X tg (.Call (.Name "range" p) [a] [] pos) (UI ta):=by
 intro pins s σ H R I h
 refine Call_ (GA I hg hm boot_range (PyProof.Rows.callWith_type1 (Aw (ha pos pins s σ H _ I h) fun us s1 z37_=>?_) hs rfl))
 obtain ⟨vs,H1,I1,r1,q1⟩:=z37_
 obtain ⟨j,e,q1,q2,q⟩:=q1
 subst e
 cases r1 with
 |cons r rr=>
  cases rr
  obtain ⟨t,rfl⟩:=r
  exact call_range_1 (Pk I1 (by omega) (by omega) q1 q2 (by simpa using q))
theorem UL {a b:Expr} {ta:TA} {p pos:Pos} (hg:Gl X "range") (hm:X.mg "range"=none) (ha:PA X [a,b] ta) (hs:starEach [a,b] X.env=[(false,eval a X.env),(false,eval b X.env)]:=by rfl) (hs2:starEach [b] X.env=[(false,eval b X.env)]:=by rfl):
 PI X tg (.Call (.Name "range" p) [a,b] [] pos) (UJ ta):=by
 intro pins s σ H R I h
 refine Call_ (GA I hg hm boot_range (PyProof.Rows.callWith_type1 (Aw (ha pos pins s σ H _ I h) fun us s1 ⟨vs,H1,I1,r1,q1⟩=>?_) (by rw [hs,hs2]) (by rw [hs2];rfl)))
 obtain ⟨i,j,e,⟨q1,q2,q3,q4⟩,q⟩:=q1
 subst e
 cases r1 with
 |cons r rr=>
  cases rr with
  |cons r' rr=>
   cases rr
   obtain ⟨t,rfl⟩:=r
   obtain ⟨t',rfl⟩:=r'
   exact call_range_2 (Pk I1 q1 q2 q3 q4 q)
def UM (wi:TI) (g:TG) (tb:TS):TS:=fun D σ H=>wi σ H fun J H1=>∃W:Nat→Nat→St→Hp→Prop,(∃m,W 0 m σ H1)∧∀i m σ H,W i m σ H→
 (J.stop i H∧D.nx σ H)∨(J.go i H∧∃N:St→Hp→Prop,(∀σ' H',N σ' H'→∃m',m' < m∧W (i+1) m' σ' H')∧∀x H',J.yld i H x H'→g x σ H' fun σ2 H2=>tb {D with nx:=N,ct:=N,bk:=D.nx} σ2 H2)
def FX (fp:List Addr) (h:Heap):List (Addr×Obj):=fp.filterMap fun b=>(h.get? b).map fun o=>(b,o)
theorem Jc {fp:List Addr} {h:Heap} {b:Addr} {o:Obj} (hb:b∈fp) (e:h.get? b=some o):(b,o)∈FX fp h:=List.mem_filterMap.mpr ⟨b,hb,by rw [e];rfl⟩
theorem Pl {fp:List Addr} {h:Heap} {p:Addr×Obj} (hp:p∈FX fp h):p.1∈fp∧h.get? p.1=some p.2:=by
 obtain ⟨b,hb,e⟩:=List.mem_filterMap.mp hp
 cases q:h.get? b with
 |none=>rw [q] at e;cases e
 |some o=>
  rw [q] at e
  have e':(b,o)=p:=Option.some.inj e
  subst e'
  exact ⟨hb,q⟩
theorem Inv.pinned {pins:List (Addr×Obj)} {σ:St} {H:Hp} {s:Shared} {fp:List Addr} (I:Inv X pins σ H s) (hf:∀b∈fp,CQ X pins H b) (ho:∀b∈fp,∃o,s.heap.get? b=some o∧∀v,o.data≠.cell v):Inv X (pins++FX fp s.heap) σ H s:=
 I.pins_of fun p hp=>(qb2.mp hp).elim (fun z=>I.pin p (Bt _ z)) fun z=>by
  obtain ⟨hb,e⟩:=Pl z
  obtain ⟨f0,f1,f2,_⟩:=hf p.1 hb
  obtain ⟨o,e',d⟩:=ho p.1 hb
  rw [e] at e';cases e'
  exact ⟨e,f0,f1,f2,d⟩
theorem Inv.unpinned {pins pl:List (Addr×Obj)} {σ:St} {H:Hp} {s:Shared} (I:Inv X (pins++pl) σ H s):Inv X pins σ H s:=I.pins_of fun p hp=>I.pin p (Bt _ (Gv _ hp))
inductive Mx (X:Cx) (pins:List (Addr×Obj)) (tn:Nat→Heap→Prop) (fp:List Addr) (W:Nat→Nat→St→Hp→Prop) (n:Nat) (s':Shared):Prop where
 |mk (i:Nat) (σ':St) (H':Hp) (ii:Inv X pins σ' H' s') (st:tn i s'.heap) (fr:∀b∈fp,H' b=none) (w:W i n σ' H'):Mx X pins tn fp W n s'
theorem UN {iter:Expr} {body:List Stmt} {wi:TI} {g:TG} {tb:TS} {pos:Pos} (hp:PassesOwn (model X.prog X.w) X.A X.env X.xe) (hc:X.calm=true) (hi:PI X tg iter wi) (hg:PG X tg g) (hb:D9 X body tb)
 (hs:∀x,foldedSetIterable iter X.env x=pure x:=by intro _;rfl):PS X (.For tg iter body [] pos) (UM wi g tb):=by
 intro pins s σ H D I h
 refine wpAny_For (Aw (hi pins s σ H _ I h) fun v s1 h1=>Aw h1 fun itv s2 h2=>?_) hs
 obtain ⟨it,fp,tn,J,H2,e,I2,T,Dk,f2,W,⟨m0,w0⟩,CM⟩:=h2
 subst e
 have stat:∀{H':Hp},(∀b∈fp,H' b=none)→∀b∈fp,CQ X pins H' b:=fun hn b hb=>⟨hn b hb,(f2 b hb).2⟩
 refine codeAny_forLoop_any (Mx X pins tn fp W) ?_ m0 ⟨0,σ,H2,I2,Dk,fun b hb=>(f2 b hb).1,w0⟩
 rintro n s3 ⟨i,σ3,H3,I3,Mk,fr3,w3⟩
 rcases CM i n σ3 H3 w3 with ⟨stop,qn⟩ |⟨go,N,hN,step⟩
 ·refine wpAny_passesOwn hp (Aw (T.done X rfl rfl rfl hc i pins s3 σ3 H3 X.xe I3 (stat fr3) Mk stop) fun r s4 z39_=>?_)
  obtain ⟨hr,I4⟩:=z39_
  subst hr
  exact wpAny_execs_nil ⟨σ3,H3,I4,qn⟩
 ·refine wpAny_passesOwn hp (Aw (T.item X rfl rfl rfl hc i pins s3 σ3 H3 X.xe I3 (stat fr3) Mk go) fun r s4 z40_=>?_)
  obtain ⟨u,hr,h4⟩:=z40_
  subst hr
  refine wpAny_passesOwn hp (Aw h4 fun _ s5 z41_=>?_)
  obtain ⟨x,H5,I5,r5,y5,Ez,fr5⟩:=z41_
  have I5':=I5.pinned (stat fr5) (T.obj _ _ Ez)
  refine wpAny_passesOwn hp (Aw (hg _ s5 σ3 H5 x u _ I5' r5 (step x H5 y5)) fun _ s6 z42_=>?_)
  obtain ⟨σ6,H6,I6,q6⟩:=z42_
  refine wpAny_passesOwn hp (Aw (hb _ s6 σ6 H6 _ I6 q6) fun f s7 q7=>?_)
  have again:∀{σ7:St} {H7:Hp},Inv X (pins++FX fp s5.heap) σ7 H7 s7→N σ7 H7→∃m,m<n∧Mx X pins tn fp W m s7:=fun {σ7 H7} I7 n7=>by
   obtain ⟨m',hm,w7⟩:=hN σ7 H7 n7
   refine ⟨m',hm,i+1,σ7,H7,I7.unpinned,T.keep _ _ _ Ez fun b hb o e=>(I7.pin (b,o) (Bt _ (Bt _ (Jc hb e)))).1,fun b hb=>?_,w7⟩
   obtain ⟨o,e,d⟩:=T.obj _ _ Ez b hb
   exact (I7.pin (b,o) (Bt _ (Bt _ (Jc hb e)))).2.1
  cases f with
  |next=>obtain ⟨σ7,H7,I7,n7⟩:=q7;exact again I7 n7
  |cont=>obtain ⟨σ7,H7,I7,n7⟩:=q7;exact again I7 n7
  |brk=>obtain ⟨σ7,H7,I7,q7⟩:=q7;exact ⟨σ7,H7,I7.unpinned,q7⟩
  |ret v=>obtain ⟨x7,σ7,H7,I7,r7,q7⟩:=q7;exact ⟨x7,σ7,H7,I7.unpinned,r7,q7⟩
end
abbrev R2:=V→V→Hp→VK→Prop
def OpR (X:Cx) (f:Value→Value→Sem Value) (r:R2):Prop:=
 ∀(pins:List (Addr×Obj)) (s:Shared) (σ:St) (H:Hp) (x y:V) (v u:Value) (Q:VK),Inv X pins σ H s→RelV x v→RelV y u→r x y H Q→
  wpAny (model X.prog X.w) X.A (f v u) (EP X pins σ Q) X.xe s
def My (X:Cx) (f:Value→Sem Value) (r:V→Hp→VK→Prop):Prop:=
 ∀(pins:List (Addr×Obj)) (s:Shared) (σ:St) (H:Hp) (x:V) (v:Value) (Q:VK),Inv X pins σ H s→RelV x v→r x H Q→
  wpAny (model X.prog X.w) X.A (f v) (EP X pins σ Q) X.xe s
def Dm (X:Cx) (f:Value) (r:List V→Hp→VK→Prop):Prop:=
 ∀(pins:List (Addr×Obj)) (s:Shared) (σ:St) (H:Hp) (xs:List V) (us:List Value) (Q:VK),Inv X pins σ H s→Vals xs us→r xs H Q→
  wpAny (model X.prog X.w) X.A (call f us) (EP X pins σ Q) X.xe s
def UO (X:Cx) (r:V→Hp→(Bool→Hp→Prop)→Prop):Prop:=
 ∀(pins:List (Addr×Obj)) (s:Shared) (σ:St) (H:Hp) (x:V) (v:Value) (Q:Bool→Hp→Prop),Inv X pins σ H s→RelV x v→r x H Q→
  wpAny (model X.prog X.w) X.A (truthy v) (TP X pins σ Q) X.xe s
def Ku (r:R2) (ta tb:TE):TE:=fun σ H Q=>ta σ H fun x H1=>tb σ H1 fun y H2=>r x y H2 Q
def UP (r:V→Hp→VK→Prop) (ta:TE):TE:=fun σ H Q=>ta σ H fun x H1=>r x H1 Q
def rI (C:Int→Int→Prop) (g:Int→Int→V):R2:=fun x y H Q=>∃i j,x=.int i∧y=.int j∧C i j∧Q (g i j) H
def Fu (g:Int→Int→V):R2:=fun x y H Q=>∃i j,x=.int i∧y=.int j∧Q (g i j) H
def rU (g:Int→V):V→Hp→VK→Prop:=fun x H Q=>∃i,x=.int i∧Q (g i) H
section
variable {X:Cx} {a b c:Expr} {ta tb tc:TE} {pos:Pos}
theorem Mz (ha:PE X a ta) (hb:PE X b tb) {pins:List (Addr×Obj)} {s:Shared} {σ:St} {H:Hp} {R:V→V→Hp→Prop} (I:Inv X pins σ H s)
 (h:ta σ H fun x H1=>tb σ H1 fun y H2=>R x y H2) {Q:Value→Shared→Prop} {f:Value→Value→Sem Value}
 (hf:∀v u s2 x y H2,Inv X pins σ H2 s2→RelV x v→RelV y u→R x y H2→wpAny (model X.prog X.w) X.A (f v u) Q X.xe s2):
 wpAny (model X.prog X.w) X.A (eval a X.env) (fun v s₁=>wpAny (model X.prog X.w) X.A (eval b X.env) (fun u s₂=>wpAny (model X.prog X.w) X.A (f v u) Q X.xe s₂) X.xe s₁) X.xe s:=by
 refine Aw (ha pins s σ H _ I h) fun v s1 z44_=>?_
 obtain ⟨x,H1,I1,r1,q1⟩:=z44_
 refine Aw (hb pins s1 σ H1 _ I1 q1) fun u s2 z45_=>?_
 obtain ⟨y,H2,I2,r2,q2⟩:=z45_
 exact hf v u s2 x y H2 I2 r1 r2 q2
theorem UQ {op:Operator} {r:R2} (ho:OpR X (binaryOp op) r) (ha:PE X a ta) (hb:PE X b tb):PE X (.BinOp a op b pos) (Ku r ta tb):=by
 intro pins s σ H Q I h
 exact wpAny_BinOp (Mz ha hb I h fun v u s2 x y H2 I2 rx ry q=>ho pins s2 σ H2 x y v u Q I2 rx ry q)
theorem UR {op:UnaryOp} {r:V→Hp→VK→Prop} (ho:My X (unaryOp op) r) (ha:PE X a ta):PE X (.UnaryOp op a pos) (UP r ta):=by
 intro pins s σ H Q I h
 exact UnaryOp_ (Aw (ha pins s σ H _ I h) fun v s1 z46_=>by obtain ⟨x,H1,I1,r1,q1⟩:=z46_;exact (ho pins s1 σ H1 x v Q I1 r1 q1))
theorem Jd {f:Value→Value→Sem Value} {C:Int→Int→Prop} {g:Int→Int→Int}
 (rule:∀(i j:Int) (t u:Tok) (s:Shared) (Q:Value→Shared→Prop) (E:Value→Shared→Prop),C i j→Q (.int (g i j) s.toks) {s with toks:=s.toks+1}→wpAny (model X.prog X.w) X.A (f (.int i t) (.int j u)) Q E s):
 OpR X f (rI C fun i j=>.int (g i j)):=by
 intro pins s σ H x y v u Q I rx ry h
 obtain ⟨i,j,rfl,rfl,hc,q⟩:=h
 obtain ⟨t,rfl⟩:=rx
 obtain ⟨t',rfl⟩:=ry
 exact rule i j t t' s _ _ hc ⟨.int (g i j),H,I.tok _,⟨_,rfl⟩,q⟩
theorem MB {f:Value→Value→Sem Value} {g:Int→Int→Int}
 (rule:∀(i j:Int) (t u:Tok) (s:Shared) (Q:Value→Shared→Prop) (E:Value→Shared→Prop),Q (.int (g i j) s.toks) {s with toks:=s.toks+1}→wpAny (model X.prog X.w) X.A (f (.int i t) (.int j u)) Q E s):
 OpR X f (Fu fun i j=>.int (g i j)):=by
 intro pins s σ H x y v u Q I rx ry h
 obtain ⟨i,j,rfl,rfl,q⟩:=h
 obtain ⟨t,rfl⟩:=rx
 obtain ⟨t',rfl⟩:=ry
 exact rule i j t t' s _ _ ⟨.int (g i j),H,I.tok _,⟨_,rfl⟩,q⟩
theorem MC {f:Value→Value→Sem Value} {g:Int→Int→Bool}
 (rule:∀(i j:Int) (t u:Tok) (s:Shared) (Q:Value→Shared→Prop) (E:Value→Shared→Prop),Q (.bool (g i j)) s→wpAny (model X.prog X.w) X.A (f (.int i t) (.int j u)) Q E s):
 OpR X f (Fu fun i j=>.bl (g i j)):=by
 intro pins s σ H x y v u Q I rx ry h
 obtain ⟨i,j,rfl,rfl,q⟩:=h
 obtain ⟨t,rfl⟩:=rx
 obtain ⟨t',rfl⟩:=ry
 exact rule i j t t' s _ _ ⟨.bl (g i j),H,I,rfl,q⟩
def Pm (i j:Int):Prop:=0<j∧j<1073741824
def GD (i j:Int):Prop:=0≤j∧j≤1000000∧i.natAbs<2^64
def CMul (i j:Int):Prop:=(-(2^64)<i∧i<2^64)∨(-(2^64)<j∧j<2^64)
theorem CMul.ok {i j:Int} (h:CMul i j):IntMulOk i j:=by
 rcases h with ⟨h1,h2⟩ |⟨h1,h2⟩
 ·exact .of_left (intBits_le_64 h1 h2)
 ·exact .of_right (intBits_le_64 h1 h2)
theorem op_add:OpR X (binaryOp .Add) (Fu fun i j=>.int (i+j)):=MB fun _ _ _ _ _ _ _ q=>add_int q
theorem US:OpR X (binaryOp .Sub) (Fu fun i j=>.int (i - j)):=MB fun _ _ _ _ _ _ _ q=>sub_int q
theorem UT:OpR X (binaryOp .Mod) (rI (fun _ j=>0<j) fun i j=>.int (i % j)):=Jd fun i j _ _ _ _ _ hc q=>by
 have h1:(0:Int)<j:=hc
 exact mod_int' (by omega) (by rw [Int.fmod_eq_emod_of_nonneg i (by omega)];exact q)
theorem UU:OpR X (binaryOp .Pow) (rI GD fun i j=>.int (i^j.toNat)):=Jd fun _ _ _ _ _ _ _ hc q=>pow_int_small hc.1 hc.2.1 hc.2.2 q
theorem UV:OpR X (binaryOp .LShift) (rI GD fun i j=>.int (i*2^j.toNat)):=Jd fun _ _ _ _ _ _ _ hc q=>lshift_int_small hc.1 hc.2.1 hc.2.2 q
theorem UW:OpR X (binaryOp .BitXor) (Fu fun i j=>.int (Builtin.bitXor i j)):=MB fun _ _ _ _ _ _ _ q=>xor_int q
theorem UX {f:Value→Sem Value} {g:Int→Int}
 (rule:∀(i:Int) (t:Tok) (s:Shared) (Q:Value→Shared→Prop) (E:Value→Shared→Prop),Q (.int (g i) s.toks) {s with toks:=s.toks+1}→wpAny (model X.prog X.w) X.A (f (.int i t)) Q E s):
 My X f (rU fun i=>.int (g i)):=by
 intro pins s σ H x v Q I rx h
 obtain ⟨i,rfl,q⟩:=h
 obtain ⟨t,rfl⟩:=rx
 exact rule i t s _ _ ⟨.int (g i),H,I.tok _,⟨_,rfl⟩,q⟩
theorem UY:My X (unaryOp .USub) (rU fun i=>.int (-i)):=UX fun _ _ _ _ _ q=>neg_int q
end
def Pn:V→V→Bool
 |.non,.non=>true |.non,.int _=>true |.int _,.non=>true |.non,.bl _=>true |.bl _,.non=>true |.non,.str _=>true |.str _,.non=>true
 |.int _,.int _=>true |.bl _,.bl _=>true |.str _,.str _=>true |.byt _,.byt _=>true
 |.int _,.str _=>true |.str _,.int _=>true |.bl _,.str _=>true |.str _,.bl _=>true
 |_,_=>false
def UZ:R2:=fun x y H Q=>Pn x y=true∧Q (.bl (decide (x=y))) H
def U0:R2:=fun x y H Q=>Pn x y=true∧Q (.bl (!decide (x=y))) H
theorem Po {i j:Int}:decide (V.int i=V.int j)=(i==j):=by
 rw [qbT]
 simp
theorem Pp {i j:Bool}:decide (V.bl i=V.bl j)=(i==j):=by
 rw [qbT]
 simp
theorem Kv {i j:Str}:decide (V.str i=V.str j)=(i==j):=by
 rw [qbT]
 simp
theorem Pq {i j:Array UInt8}:decide (V.byt i=V.byt j)=(i.toList==j.toList):=by
 rw [qbT]
 cases i
 cases j
 simp
section
variable {X:Cx} {a b c:Expr} {ta tb tc:TE} {pos:Pos}
theorem Bp {pins:List (Addr×Obj)} {σ:St} {H:Hp} {s:Shared} {Q:VK} {k k':Bool} (I:Inv X pins σ H s) (q:Q (.bl k) H) (e:k=k'):EP X pins σ Q (.bool k') s:=by
 subst e
 exact ⟨.bl k,H,I,rfl,q⟩
theorem op_eq:OpR X (compareOp .Eq) UZ:=by
 intro pins s σ H x y v u Q I rx ry h
 obtain ⟨hs,q⟩:=h
 cases x with
 |non=>
  cases rx
  cases y with
  |non=>cases ry;exact PySem.EqNone.eq_none_none (Bp I q (by simp))
  |bl j=>cases ry;exact PySem.EqNone.eq_none_bool (Bp I q (by simp))
  |int j=>obtain ⟨t',rfl⟩:=ry;exact PySem.EqNone.eq_none_int (Bp I q (by simp))
  |str j=>obtain ⟨t',rfl⟩:=ry;exact PySem.EqNone.eq_none_str (Bp I q (by simp))
  |_=>exact absurd (show false=true from hs) BL
 |bl i=>
  cases rx
  cases y with
  |non=>cases ry;exact PySem.EqNone.eq_bool_none (Bp I q (by simp))
  |bl j=>cases ry;exact eq_bool (Bp I q Pp)
  |str j=>obtain ⟨t',rfl⟩:=ry;exact PySem.EqMixed.eq_bool_str (Bp I q (by simp))
  |_=>exact absurd (show false=true from hs) BL
 |int i=>
  obtain ⟨t,rfl⟩:=rx
  cases y with
  |non=>cases ry;exact PySem.EqNone.eq_int_none (Bp I q (by simp))
  |int j=>obtain ⟨t',rfl⟩:=ry;exact eq_int (Bp I q Po)
  |str j=>obtain ⟨t',rfl⟩:=ry;exact PySem.EqMixed.eq_int_str (Bp I q (by simp))
  |_=>exact absurd (show false=true from hs) BL
 |str i=>
  obtain ⟨t,rfl⟩:=rx
  cases y with
  |non=>cases ry;exact PySem.EqNone.eq_str_none (Bp I q (by simp))
  |bl j=>cases ry;exact PySem.EqMixed.eq_str_bool (Bp I q (by simp))
  |int j=>obtain ⟨t',rfl⟩:=ry;exact PySem.EqMixed.eq_str_int (Bp I q (by simp))
  |str j=>obtain ⟨t',rfl⟩:=ry;exact eq_str (Bp I q Kv)
  |_=>exact absurd (show false=true from hs) BL
 |byt i=>
  obtain ⟨t,rfl⟩:=rx
  cases y with
  |byt j=>obtain ⟨t',rfl⟩:=ry;exact PySem.W.eq_bytes (Bp I q Pq)
  |_=>exact absurd (show false=true from hs) BL
 |_=>cases y<;>exact absurd (show false=true from hs) BL
theorem op_ne:OpR X (compareOp .NotEq) U0:=by
 intro pins s σ H x y v u Q I rx ry h
 obtain ⟨hs,q⟩:=h
 cases x with
 |non=>
  cases rx
  cases y with
  |non=>cases ry;exact PySem.EqNone.ne_none_none (Bp I q (by simp))
  |bl j=>cases ry;exact PySem.EqNone.ne_none_bool (Bp I q (by simp))
  |int j=>obtain ⟨t',rfl⟩:=ry;exact PySem.EqNone.ne_none_int (Bp I q (by simp))
  |str j=>obtain ⟨t',rfl⟩:=ry;exact PySem.EqNone.ne_none_str (Bp I q (by simp))
  |_=>exact absurd (show false=true from hs) BL
 |bl i=>
  cases rx
  cases y with
  |non=>cases ry;exact PySem.EqNone.ne_bool_none (Bp I q (by simp))
  |bl j=>cases ry;exact ne_bool (Bp I q (congrArg not Pp))
  |str j=>obtain ⟨t',rfl⟩:=ry;exact PySem.EqMixed.ne_bool_str (Bp I q (by simp))
  |_=>exact absurd (show false=true from hs) BL
 |int i=>
  obtain ⟨t,rfl⟩:=rx
  cases y with
  |non=>cases ry;exact PySem.EqNone.ne_int_none (Bp I q (by simp))
  |int j=>obtain ⟨t',rfl⟩:=ry;exact ne_int (Bp I q (congrArg not Po))
  |str j=>obtain ⟨t',rfl⟩:=ry;exact PySem.EqMixed.ne_int_str (Bp I q (by simp))
  |_=>exact absurd (show false=true from hs) BL
 |str i=>
  obtain ⟨t,rfl⟩:=rx
  cases y with
  |non=>cases ry;exact PySem.EqNone.ne_str_none (Bp I q (by simp))
  |bl j=>cases ry;exact PySem.EqMixed.ne_str_bool (Bp I q (by simp))
  |int j=>obtain ⟨t',rfl⟩:=ry;exact PySem.EqMixed.ne_str_int (Bp I q (by simp))
  |str j=>obtain ⟨t',rfl⟩:=ry;exact ne_str (Bp I q (congrArg not Kv))
  |_=>exact absurd (show false=true from hs) BL
 |byt i=>
  obtain ⟨t,rfl⟩:=rx
  cases y with
  |byt j=>obtain ⟨t',rfl⟩:=ry;exact PySem.W.ne_bytes (Bp I q (congrArg not Pq))
  |_=>exact absurd (show false=true from hs) BL
 |_=>cases y<;>exact absurd (show false=true from hs) BL
theorem U1:OpR X (compareOp .Lt) (Fu fun i j=>.bl (decide (i<j))):=MC fun _ _ _ _ _ _ _ q=>lt_int q
theorem U2:OpR X (compareOp .LtE) (Fu fun i j=>.bl (decide (i≤j))):=MC fun _ _ _ _ _ _ _ q=>le_int q
theorem U3:OpR X (compareOp .Gt) (Fu fun i j=>.bl (decide (j<i))):=MC fun _ _ _ _ _ _ _ q=>gt_int q
theorem OpR.or {f:Value→Value→Sem Value} {r r':R2} (h:OpR X f r) (h':OpR X f r'):OpR X f (fun x y H Q=>r x y H Q∨r' x y H Q):=by
 intro pins s σ H x y v u Q I rx ry q
 rcases q with q |q
 ·exact h pins s σ H x y v u Q I rx ry q
 ·exact h' pins s σ H x y v u Q I rx ry q
theorem CS (b:Expr) {op:CmpOp} (h:op≠.In:=by decide) (h2:op≠.NotIn:=by decide):behindInMarks op b=false:=by
 have e1:(op==CmpOp.In)=false:=by cases op<;>first |rfl |exact absurd rfl h
 have e2:(op==CmpOp.NotIn)=false:=by cases op<;>first |rfl |exact absurd rfl h2
 cases b with
 |Set elts k p=>
  show (k==0&&(op==.In||op==.NotIn)&&elts.all (constantsAlone 8))=false
  rw [e1,e2,Bool.or_self,Bool.and_false,Bool.false_and]
 |_=>rfl
theorem U4 {op:CmpOp} {r:R2} (ho:OpR X (compareOp op) r) (ha:PE X a ta) (hb:PE X b tb) (hm:behindInMarks op b=false):PE X (.Compare a [op] [b] pos) (Ku r ta tb):=by
 intro pins s σ H Q I h
 exact wpAny_Compare1 (Mz ha hb I h fun v u s2 x y H2 I2 rx ry q=>ho pins s2 σ H2 x y v u Q I2 rx ry q) hm
def U5 (t:TE):TT:=fun σ H Q=>t σ H fun x H'=>∃k,x=.bl k∧Q k H'
theorem U6 {op:CmpOp} {r:R2} (ho:OpR X (compareOp op) r) (ha:PE X a ta) (hb:PE X b tb) (hm:behindInMarks op b=false):PT X (.Compare a [op] [b] pos) (U5 (Ku r ta tb)):=by
 intro pins s σ H Q I h
 refine wpAny_isTrue_Compare1 (Aw (ha pins s σ H _ I h) fun v s1 ⟨x,H1,I1,r1,q1⟩=>Aw (hb pins s1 σ H1 _ I1 q1) ?_) hm
 rintro u s2 ⟨y,H2,I2,r2,q2⟩
 refine Aw (ho pins s2 σ H2 x y v u _ I2 r1 r2 q2) fun c s3 z49_=>?_
 obtain ⟨z,H3,I3,r3,k,e,q3⟩:=z49_
 subst e
 cases r3
 exact wpAny_truthy_bool ⟨H3,I3,q3⟩
def Pr (r r':R2) (ta tb tc:TE):TE:=fun σ H Q=>ta σ H fun x H1=>tb σ H1 fun y H2=>r x y H2 fun z H3=>∃k,z=.bl k∧
 (if k=true then tc σ H3 fun w' H4=>r' y w' H4 Q else Q (.bl false) H3)
theorem U7 {op op':CmpOp} {r r':R2} (ho:OpR X (compareOp op) r) (ho':OpR X (compareOp op') r') (ha:PE X a ta) (hb:PE X b tb) (hc:PE X c tc)
 (hm:lastMarks [op,op'] [b,c]=false:=by with_unfolding_all rfl):PE X (.Compare a [op,op'] [b,c] pos) (Pr r r' ta tb tc):=by
 intro pins s σ H Q I h
 refine Compare_chain (Aw (ha pins s σ H _ I h) fun v s1 ⟨x,H1,I1,r1,q1⟩=>chain_link (Aw (hb pins s1 σ H1 _ I1 q1) ?_)) hm
 rintro u s2 ⟨y,H2,I2,r2,q2⟩
 refine Aw (ho pins s2 σ H2 x y v u _ I2 r1 r2 q2) fun d s3 z52_=>?_
 obtain ⟨z,H3,I3,r3,k,e,q3⟩:=z52_
 subst e
 cases r3
 refine wpAny_truthy_bool ?_
 cases k with
 |false=>exact ite_ff ⟨.bl false,H3,I3,rfl,q3⟩
 |true=>exact ite_tt (chain_last (Aw (hc pins s3 σ H3 _ I3 q3) fun w' s4 z53_=>by obtain ⟨z',H4,I4,r4,q4⟩:=z53_;exact (ho' pins s4 σ H4 y z' u w' Q I4 r2 r4 q4)))
def MD (K:PySem.W.Frag) (x:V) (H:Hp) (k:Bool):Prop:=
 match x with
 |.non=>k=false
 |.bl b=>k=b
 |.int i=>k=(i != 0)
 |.str y=>y.length≤sizeLine∧k=((y.length:Int) != 0)
 |.byt y=>y.size≤sizeLine∧k=((y.size:Int) != 0)
 |.ref p=>(∃xs,SqL K H p xs∧k=!xs.isEmpty)∨(∃xs,SqT K H p xs∧k=!xs.isEmpty)
 |_=>False
theorem Pt {xs:List V} {its:List Value} (r:Vals xs its):(!its.toArray.isEmpty)=!xs.isEmpty:=by
 cases r<;>simp
theorem HG:(sizeLine:Nat)<2^63:=by rw [sizeLine_eq];decide
theorem U8:UO X (fun x H Q=>∃k,MD X.K x H k∧Q k H):=by
 intro pins s σ H x v Q I rx h
 obtain ⟨k,e,q⟩:=h
 have hl:=HG
 have hs:sizeLine=16777216:=sizeLine_eq
 cases x with
 |non=>
  cases rx
  have e':k=false:=e
  subst e'
  exact truthy_none ⟨H,I,q⟩
 |bl b=>
  cases rx
  have e':k=b:=e
  subst e'
  exact wpAny_truthy_bool ⟨H,I,q⟩
 |int i=>
  obtain ⟨t,rfl⟩:=rx
  have e':k=(i != 0):=e
  subst e'
  exact PySem.P.truthy_int ⟨H,I,q⟩
 |str y=>
  obtain ⟨t,rfl⟩:=rx
  obtain ⟨hy,e'⟩:y.length≤sizeLine∧k=((y.length:Int) != 0):=e
  subst e'
  exact PySem.P.truthy_str (by omega) ⟨H,I.tok _,q⟩
 |byt y=>
  obtain ⟨t,rfl⟩:=rx
  obtain ⟨hy,e'⟩:y.size≤sizeLine∧k=((y.size:Int) != 0):=e
  subst e'
  exact PySem.W.truthy_bytes (by omega) ⟨H,I.tok _,q⟩
 |ref p=>
  cases rx
  have e':(∃xs,SqL X.K H p xs∧k=!xs.isEmpty)∨(∃xs,SqT X.K H p xs∧k=!xs.isEmpty):=e
  rcases e' with ⟨xs,hx,e'⟩ |⟨xs,hx,e'⟩
  ·subst e'
   obtain ⟨its,r,pl,hz⟩:=I.list hx
   have hlen:=r.length
   exact wpAny_truthy_list pl.isList (by simp only [A5];omega) ⟨H,I.tok _,by rw [Pt r];exact q⟩
  ·subst e'
   obtain ⟨its,r,pl,hz⟩:=I.tuple hx
   have hlen:=r.length
   exact truthy_tuple pl (by simp only [A5];omega) ⟨H,I.tok _,by rw [Pt r];exact q⟩
 |_=>exact (show False from e).elim
theorem U9 (ha:PE X a ta) (he:∀E9,isTrue a X.env E9=(do let v ←E9;standAt a.pos;holding [v] (truthy v))):
 PT X a (fun σ H Q=>ta σ H fun x H'=>∃k,MD X.K x H' k∧Q k H'):=by
 intro pins s σ H Q I h
 exact isTrue_plain (Aw (ha pins s σ H _ I h) fun v s1 z59_=>by obtain ⟨x,H1,I1,r1,q1⟩:=z59_;exact (U8 pins s1 σ H1 x v Q I1 r1 q1)) (he _)
theorem Va:OpR X (binaryOp .Add) (fun x y H Q=>∃i j,x=.str i∧y=.str j∧i.length+j.length≤sizeLine∧Q (.str (i++j)) H):=by
 intro pins s σ H x y v u Q I rx ry h
 obtain ⟨i,j,rfl,rfl,hz,q⟩:=h
 obtain ⟨t,rfl⟩:=rx
 obtain ⟨t',rfl⟩:=ry
 exact add_str (fun t' tk=>⟨.str (i++j),H,I.tok _,⟨_,rfl⟩,q⟩) hz
theorem EH {x:V} {us:List Value} (r:Vals [x] us):∃u,us=[u]∧RelV x u:=by
 cases r with
 |cons r1 r2=>cases r2;exact ⟨_,rfl,r1⟩
theorem Kw {x y:V} {us:List Value} (r:Vals [x,y] us):∃u w',us=[u,w']∧RelV x u∧RelV y w':=by
 cases r with
 |cons r1 r2=>
  cases r2 with
  |cons r3 r4=>cases r4;exact ⟨_,_,rfl,r1,r3⟩
theorem Vb (hc:X.calm=true):Dm X (.builtin "max") (fun xs H Q=>∃i j,xs=[.int i,.int j]∧Q (.int (if j>i then j else i)) H):=by
 intro pins s σ H xs us Q I r h
 obtain ⟨i,j,rfl,q⟩:=h
 obtain ⟨u,w',rfl,⟨t,rfl⟩,⟨t',rfl⟩⟩:=Kw r
 refine max_two_ints (I.ok.hd hc) fun h' tk k=>⟨_,H,I.kept k,?_,q⟩
 by_cases hj:j>i
 ·rw [if_pos hj,if_pos hj];exact ⟨_,rfl⟩
 ·rw [if_neg hj,if_neg hj];exact ⟨_,rfl⟩
theorem Vc (hc:X.calm=true):Dm X (.builtin "min") (fun xs H Q=>∃i j,xs=[.int i,.int j]∧Q (.int (if j<i then j else i)) H):=by
 intro pins s σ H xs us Q I r h
 obtain ⟨i,j,rfl,q⟩:=h
 obtain ⟨u,w',rfl,⟨t,rfl⟩,⟨t',rfl⟩⟩:=Kw r
 refine min_two_ints (I.ok.hd hc) fun h' tk k=>⟨_,H,I.kept k,?_,q⟩
 by_cases hj:j<i
 ·rw [if_pos hj,if_pos hj];exact ⟨_,rfl⟩
 ·rw [if_neg hj,if_neg hj];exact ⟨_,rfl⟩
end
section
variable {prog:Program} {w:World} {A:Around} {E:Value→Shared→Prop} {s:Shared} {K:PySem.W.Frag} {x dx C f:Addr} {mA:Str→Option Value} {name:Str} {v:Value}
end
theorem RelO.some_of {v:V} {o:Option Value} (r:RelO (some v) o):∃u,o=some u∧RelV v u:=by
 cases o with
 |none=>exact (show False from r).elim
 |some u=>exact ⟨u,rfl,r⟩
section
variable {P:Program} {w:World} {H H':Hp} {h h':Heap} {a C dx:Addr} {fs fs':List (Str×V)}
end
section
variable {X:Cx} {pins:List (Addr×Obj)} {σ:St} {H:Hp} {s:Shared} {a C dx:Addr} {fs:List (Str×V)} {f:Str} {v:V} {A:Around} {E:Value→Shared→Prop}
end
section
variable {X:Cx} {o e value:Expr} {f:Str} {pos pos' tpos:Pos} {ta tv:TE}
end
section
variable {X:Cx} {pins:List (Addr×Obj)} {σ:St} {H:Hp} {s:Shared} {A:Around} {E:Value→Shared→Prop} {Q:Value→Shared→Prop} {c:Value} {b:Bool}
inductive EI (K:PySem.W.Frag) (H:Hp):V→Value→Prop where
 |non:EI K H .non (.type "NoneType")
 |bl (x:Bool):EI K H (.bl x) (.type "bool")
 |int (i:Int):EI K H (.int i) (.type "int")
 |str (x:Str):EI K H (.str x) (.type "str")
 |flt (x:UInt64):EI K H (.flt x) (.type "float")
 |lst {a:Addr} {xs:List V} (e:H a=some (.lst xs)):EI K H (.ref a) (.type "list")
 |frz {a:Addr} {o:Obj} {xs:List V} (e:H a=some (.frz o (.lst xs))):EI K H (.ref a) (.type "list")
 |tup {a:Addr} {xs:List V} (e:H a=some (.tup xs)):EI K H (.ref a) (.type "tuple")
theorem Vd {x:V} {u t:Value} (I:Inv X pins σ H s) (rx:RelV x u) (ty:EI X.K H x t) (e:PySem.W.kitOne X.K t c=some b) (h:∀tk,Q (.bool b) {s with toks:=tk}):
 wpAny (model X.prog X.w) A (call (.builtin "isinstance") [u,c]) Q E s:=by
 cases ty with
 |non=>cases (show u=Value.none from rx);exact PySem.W.kia_one PySem.W.kitx_none I.kIn True.intro e (fun z=>nomatch z) h
 |bl y=>cases (show u=Value.bool y from rx);exact PySem.W.kia_one PySem.W.kitx_bool I.kIn True.intro e (fun z=>nomatch z) h
 |int i=>obtain ⟨t,q⟩:=(show ∃t,u=Value.int i t from rx);cases q;exact PySem.W.kia_one PySem.W.kitx_int I.kIn True.intro e (fun z=>nomatch z) h
 |str y=>obtain ⟨t,q⟩:=(show ∃t,u=Value.str y t from rx);cases q;exact PySem.W.kia_one PySem.W.kitx_str I.kIn True.intro e (fun z=>nomatch z) h
 |flt y=>obtain ⟨t,q⟩:=(show ∃t,u=Value.float y t from rx);cases q;exact PySem.W.kia_one PySem.W.kitx_float I.kIn True.intro e (fun z=>nomatch z) h
 |@lst a xs ea=>
  cases (show u=Value.ref a from rx)
  obtain ⟨_,_,n,_,h1⟩:=(show ObjOk X.prog X.w H s.heap a (.lst xs) from I.hok a _ ea)
  exact PySem.W.kia_one PySem.W.kitx_list I.kIn ⟨_,h1,rfl⟩ e (fun z=>nomatch z) h
 |@frz a ob xs ea=>
  cases (show u=Value.ref a from rx)
  obtain ⟨_,_,_,n,_,h1⟩:=(show ObjOk X.prog X.w H s.heap a (.frz ob (.lst xs)) from I.hok a _ ea)
  exact PySem.W.kia_one PySem.W.kitx_list I.kIn ⟨_,h1,rfl⟩ e (fun z=>nomatch z) h
 |@tup a xs ea=>
  cases (show u=Value.ref a from rx)
  obtain ⟨_,_,_,p,_⟩:=(show ObjOk X.prog X.w H s.heap a (.tup xs) from I.hok a _ ea)
  obtain ⟨o,h1,h2,_⟩:=p
  exact PySem.W.kia_one PySem.W.kitx_tuple I.kIn ⟨o,h1,h2⟩ e (fun z=>nomatch z) h
end
structure Room (k:Nat) (A:Around):Prop where
 hd:A.handled=none
 dp:A.depth+3*k+5<recursionLimit
 un:A.units+16*k+200<cLine
 gd:A.guards=some []
theorem Room.mono {j k:Nat} {A:Around} (r:Room k A) (h:j≤k):Room j A:=⟨r.hd,by have:=r.dp;omega,by have:=r.un;omega,r.gd⟩
theorem Room.deeper {k:Nat} {A:Around} (r:Room (k+1) A) (env:Env):Room k (A.deeper env):=
 ⟨r.hd,by have:=r.dp;show A.depth+1+3*k+5<_;omega,by have:=r.un;show A.units+3+16*k+200<_;omega,r.gd⟩
theorem Ve {A:Around} {C:Addr} {us:List Value} {kw:List (Str×Value)}:(A.under (.builtin "type.__call__" ⟨.ref C::us,kw⟩)).depth=A.depth+1:=by
 first |rfl |simp [Around.under,Code.weight,Code.isCreation,Code.isGuard,Code.isCaller,Code.frames,Code.isFrame,guardIds]
theorem Vf {A:Around} {C:Addr} {us:List Value} {kw:List (Str×Value)}:(A.under (.builtin "type.__call__" ⟨.ref C::us,kw⟩)).units=A.units+1:=by
 first |rfl |simp [Around.under,Code.cUnits,Code.frames,Code.isFrame]
theorem Room.make {k:Nat} {A:Around} (r:Room (k+1) A) (C:Addr) (us:List Value) (kw:List (Str×Value)):Room k (A.under (.builtin "type.__call__" ⟨.ref C::us,kw⟩)):=
 ⟨r.hd,by have:=r.dp;rw [Ve];omega,by have:=r.un;rw [Vf];omega,by first |exact r.gd |(show pushGuards _ _=_;rw [r.gd];rfl)⟩
theorem Room.depth {k:Nat} {A:Around} (r:Room k A):A.depth<recursionLimit:=by have:=r.dp;omega
theorem Room.units {k:Nat} {A:Around} (r:Room k A):A.units+64<cLine:=by have:=r.un;omega
def Pv:TA:=fun _ H Q=>Q [] H
def Vg (ta:TE) (tr:TA):TA:=fun σ H Q=>ta σ H fun x H1=>tr σ H1 fun xs H2=>Q (x::xs) H2
section
variable {X:Cx} {e:Expr} {es:List Expr} {te:TE} {t:TA} {pos:Pos}
theorem Vh:PA X [] Pv:=fun _ _ _ _ H Q I h=>Calls.spliced_nil ⟨[],H,I,.nil,h⟩
theorem Vi (ha:PE X e te) (hr:PA X es t) (hs:starEach (e::es) X.env=(false,eval e X.env)::starEach es X.env:=by rfl):PA X (e::es) (Vg te t):=by
 intro pos pins s σ H Q I h
 rw [hs]
 show wpAny _ _ (spliced ((false,eval e X.env)::backTo pos (starEach es X.env))) _ _ s
 refine Calls.spliced_cons (Aw (ha pins s σ H _ I h) fun u s1 z68_=>?_)
 obtain ⟨x,H1,I1,r1,q1⟩:=z68_
 exact Aw (hr pos pins s1 σ H1 _ I1 q1) fun us s2 z69_=>by obtain ⟨xs,H2,I2,r2,q2⟩:=z69_;exact (⟨x::xs,H2,I2,.cons r1 r2,q2⟩)
def Vj (t:TA):TE:=fun σ H Q=>t σ H fun xs H1=>xs.length≤sizeLine∧∀p,H1 p=none→Q (.ref p) (Ak H1 p (.tup xs))
def Vk (t:TA):TE:=fun σ H Q=>t σ H fun xs H1=>xs.length≤sizeLine∧∀p,H1 p=none→Q (.ref p) (Ak H1 p (.lst xs))
theorem Vl {x1} (h:PA X es t):PE X (.Tuple es x1 pos) (Vj t):=by
 intro pins s σ H Q I hq
 refine wpAny_Tuple_spliced (Aw (h pos pins s σ H _ I hq) fun us s1 ⟨xs,H1,I1,r,z,q⟩=>⟨by rw [←r.length];exact z,?_⟩)
 have hf:H1 s1.heap.objs.size=none:=I1.hok.fresh (AM _)
 refine ⟨.ref s1.heap.objs.size,Ak H1 s1.heap.objs.size (.tup xs),I1.laid (t':=s1.toks) (fun b u e=>AJ _ e) (AM _) ?_,rfl,q _ hf⟩
 exact ⟨z,us,r,⟨_,Bz _ rfl,rfl,_,rfl⟩,NoDict.new⟩
theorem Vm (h:PA X es t):PE X (.List es pos) (Vk t):=by
 intro pins s σ H Q I hq
 refine wpAny_List_spliced (Aw (h pos pins s σ H _ I hq) fun us s1 ⟨xs,H1,I1,r,z,q⟩=>⟨by rw [←r.length];exact z,?_⟩)
 have hf:H1 s1.heap.objs.size=none:=I1.hok.fresh (AM _)
 refine ⟨.ref s1.heap.objs.size,Ak H1 s1.heap.objs.size (.lst xs),I1.laid (t':=s1.toks) (fun b u e=>AJ _ e) (AM _) ?_,rfl,q _ hf⟩
 exact ⟨z,us,0,r,Bz _ rfl⟩
end
abbrev Sp:=List V→Hp→VK→XK→Prop
abbrev Ea:=List Env→Hp→Shared→XK→Value→Shared→Prop
structure Env0 (P:Program) (w:World) (K:PySem.W.Frag) (mg:Str→Option Value) (base:Heap) (A:Around) (outer:List Env) (s:Shared) (H:Hp):Prop where
 frames:A.frames=some outer
 mod:Mod K mg base
 bs:∀b o,base.get? b=some o→s.heap.get? b=some o∧H b=none
 bsz:base.objs.size≤s.heap.objs.size
 funs:s.heap.FunFrames base outer
 frf:∀b∈frs outer,H b=none
 hok:HOk P w H s.heap
 bare:AllBare s.gens
inductive CE (outer:List Env) (P:Program) (w:World) (H:Hp) (s:Shared) (Q:VK) (u:Value) (s':Shared):Prop where
 |mk (v:V) (H':Hp) (os:s'.os=s.os) (bare:AllBare s'.gens) (un:Un (frs outer) [] H H' s.heap s'.heap) (hok:HOk P w H' s'.heap) (r:RelV v u) (q:Q v H'):CE outer P w H s Q u s'
def CR (CX:Ea) (outer:List Env) (P:Program) (w:World) (H:Hp) (s:Shared) (Q:VK) (E:XK) (r:Result) (s':Shared):Prop:=
 match r with
 |.ok (.ret u)=>CE outer P w H s Q u s'
 |.ok _=>False
 |.error e=>CX outer H s E e s'
structure FnOk (P:Program) (w:World) (K:PySem.W.Frag) (mg:Str→Option Value) (base:Heap) (CX:Ea) (k:Nat) (f:Addr) (fd:FuncData) (ps:List Str) (sp:Sp):Prop where
 len:∀vs H Q E,sp vs H Q E→vs.length=ps.length
 run:∀(A:Around) (outer:List Env) (s:Shared) (H:Hp) (args:Args) (us:List Value) (vs:List V) (Q:VK) (E:XK),Room k A→Env0 P w K mg base A outer s H→BindsTo s fd args (ps.zip us)→Vals vs us→sp vs H Q E→
  codeAny (model P w) A (.call (.ref f) args) (CR CX outer P w H s Q E) s
theorem FnOk.mono {P:Program} {w:World} {K:PySem.W.Frag} {mg:Str→Option Value} {base:Heap} {CX:Ea} {j k:Nat} {f:Addr} {fd:FuncData} {ps:List Str} {sp:Sp} (F:FnOk P w K mg base CX j f fd ps sp) (h:j≤k):
 FnOk P w K mg base CX k f fd ps sp:=⟨F.len,fun A outer s H args us vs Q E hr=>F.run A outer s H args us vs Q E (hr.mono h)⟩
theorem FnOk.imp {P:Program} {w:World} {K:PySem.W.Frag} {mg:Str→Option Value} {base:Heap} {CX:Ea} {k:Nat} {f:Addr} {fd:FuncData} {ps:List Str} {sp sp':Sp} (F:FnOk P w K mg base CX k f fd ps sp)
 (h:∀vs H Q E,sp' vs H Q E→sp vs H Q E):FnOk P w K mg base CX k f fd ps sp':=
 ⟨fun vs H Q E q=>F.len vs H Q E (h _ _ _ _ q),fun A outer s H args us vs Q E hr he hb hv hs=>F.run A outer s H args us vs Q E hr he hb hv (h _ _ _ _ hs)⟩
theorem Env0.make {P:Program} {w:World} {K:PySem.W.Frag} {mg:Str→Option Value} {base:Heap} {A:Around} {outer:List Env} {s:Shared} {H:Hp} (e:Env0 P w K mg base A outer s H) (C:Addr) (us:List Value) (kw:List (Str×Value)):
 Env0 P w K mg base (A.under (.builtin "type.__call__" ⟨.ref C::us,kw⟩)) outer s H:=⟨by first |exact e.frames |(simpa [Around.under,Code.envs,Code.isFrame,pushEnvs] using e.frames),e.mod,e.bs,e.bsz,e.funs,e.frf,e.hok,e.bare⟩
section
variable {X:Cx} {pins:List (Addr×Obj)} {σ:St} {H:Hp} {s s':Shared}
theorem Inv.env0 (I:Inv X pins σ H s):Env0 X.prog X.w X.K X.mg X.base X.A X.stack s H:=
 ⟨I.ok.frames,I.ok.mod,I.bs,BA I.ok.bsz I.sz,I.stack,I.stkFree,I.hok,I.bare⟩
theorem Inv.after {Q:VK} {u:Value} (I:Inv X pins σ H s) (h:CE X.stack X.prog X.w H s Q u s'):EP X pins σ Q u s':=by
 obtain ⟨v,H',os,bare,un,hok,r,q⟩:=h
 obtain ⟨hh,g,d,t,os'⟩:=s'
 obtain rfl:os'=s.os:=os
 exact ⟨v,H',I.call (h':=hh) (g':=g) (d':=d) (t':=t) (ch:=[]) un hok bare (fun b z=>absurd z (by simp)),r,q⟩
end
def Pw (sp:Sp) (dvs:List V) (E:XK) (t:TA):TE:=fun σ H Q=>t σ H fun vs H1=>sp (vs++dvs) H1 Q E
def Binds (K:PySem.W.Frag) (fd:FuncData) (ps:List Str) (ds:List Value):Prop:=
 ∀(s:Shared) (us:List Value),K.In s.heap→(us++ds).length=ps.length→BindsTo s fd ⟨us,[]⟩ (ps.zip (us++ds))
theorem Binds.all {K:PySem.W.Frag} {fd:FuncData} {ps:List Str} (h:∀us:List Value,us.length=ps.length→bindArgs fd ⟨us,[]⟩=pure (ps.zip us)):Binds K fd ps []:=fun s us _ hl=>by
 rw [ED] at hl ⊢
 exact .of_eq (h us hl)
def EJ (CX:Ea) (X:Cx) (E:XK):Prop:=∀(pins:List (Addr×Obj)) (σ:St) (H:Hp) (s:Shared) (e:Value) (s':Shared),Inv X pins σ H s→CX X.stack H s E e s'→X.xe e s'
section
variable {X:Cx} {CX:Ea} {k:Nat} {f C:Addr} {fd:FuncData} {ps:List Str} {sp:Sp} {dvs:List V} {ds:List Value} {E:XK} {x m:Str} {p pos apos:Pos} {e o:Expr} {es:List Expr} {ta:TE} {t:TA}
theorem MF {pins:List (Addr×Obj)} {σ:St} {H:Hp} {s:Shared} {Q:VK} {us:List Value} {vs:List V} (F:FnOk X.prog X.w X.K X.mg X.base CX k f fd ps sp) (hr:Room k X.A) (hb:Binds X.K fd ps ds) (hd:Vals dvs ds) (hx:EJ CX X E)
 (I:Inv X pins σ H s) (r:Vals vs us) (h:sp (vs++dvs) H Q E):wpAny (model X.prog X.w) X.A (call (.ref f) us) (EP X pins σ Q) X.xe s:=by
 have r2:Vals (vs++dvs) (us++ds):=r.append hd
 have hl:(us++ds).length=ps.length:=by rw [←r2.length];exact F.len _ _ _ _ h
 refine wpAny_call (codeAny_mono (F.run X.A X.stack s H ⟨us,[]⟩ (us++ds) (vs++dvs) Q E hr I.env0 (hb s us I.kIn hl) r2 h) fun r s' hq=>?_)
 cases r with
 |error e=>exact hx pins σ H s e s' I hq
 |ok fl=>
  cases fl with
  |ret u=>exact I.after hq
  |next=>exact False.elim hq
  |brk=>exact False.elim hq
  |cont=>exact False.elim hq
theorem Vn (F:FnOk X.prog X.w X.K X.mg X.base CX k f fd ps sp) (hr:Room k X.A) (hg:Gl X x) (hm:X.mg x=some (.ref f)) (hk:PySem.W.keepIn X.K (.ref f)=true) (hb:Binds X.K fd ps ds) (hd:Vals dvs ds) (hx:EJ CX X E)
 (ha:PA X (e::es) t) (hdb:(x==("__debug__":Str))=false:=by decide) (he:starEach (e::es) X.env=(false,eval e X.env)::starEach es X.env:=by rfl) (hpl:(backTo pos (starEach es X.env)).any (·.1)=false:=by rfl):
 PE X (.Call (.Name x p) (e::es) [] pos) (Pw sp dvs E t):=by
 intro pins s σ H Q I h
 refine wpAny_Call_Name_kw (Ft I hg hm ?_ hdb)
 refine PySem.W.callWith_K (h₀:=X.base) I.ok.mod.kin hk (Aw (ha pos pins s σ H _ I h) ?_) he hpl
 rintro us s1 ⟨vs,H1,I1,r,q⟩
 refine ⟨I1.kIn,?_⟩
 exact MF F hr hb hd hx I1 r q
theorem Vo (F:FnOk X.prog X.w X.K X.mg X.base CX k f fd ps sp) (hr:Room k X.A) (hg:Gl X x) (hm:X.mg x=some (.ref f)) (hk:PySem.W.keepIn X.K (.ref f)=true) (hb:Binds X.K fd ps ds) (hd:Vals dvs ds) (hx:EJ CX X E)
 (hdb:(x==("__debug__":Str))=false:=by decide):PE X (.Call (.Name x p) [] [] pos) (Pw sp dvs E Pv):=by
 intro pins s σ H Q I h
 refine wpAny_Call_Name_kw (Ft I hg hm ?_ hdb)
 exact PySem.W.callWith_K0 I.kIn hk (MF (us:=[]) F hr hb hd hx I .nil h)
end
section
variable {X:Cx} {CX:Ea} {k:Nat} {f C:Addr} {fd:FuncData} {ps ks:List Str} {sp:Sp} {E:XK} {x m:Str} {p pos apos kpos:Pos} {e o:Expr} {es:List Expr} {kws:List Keyword} {te ta:TE} {t tk:TA} {nm:Option Str}
variable {g:List Value→List Value→List Value} {gV:List V→List V→List V}
end
structure AV (N P:List Str) (sc:Scope):Prop where
 kind:sc.kind=.function
 co:sc.isCoroutine=false
 gen:sc.isGenerator=false
 nd:N.Nodup
 pre:N.take P.length=P
 par:∀x∈P,sc.names.lookup x=some .local∨sc.names.lookup x=some .cell
 nofree:∀y∈sc.names,y.2≠.free
theorem Px {kindOf:Str→Option NameKind} {x:Str}:∀{binds:List (Str×Value)} {m:Str→Option Value},(∀v,(x,v)∉binds)→bindL kindOf binds m x=m x
 |[],_,_=>rfl
 |(n,v)::r,m,h=>by
  unfold bindL
  rw [Px fun w hw=>h w (AS _ hw)]
  split
  ·have:x≠n:=by rintro rfl;exact h v AO
   simp [this]
  ·rfl
theorem Pz {kindOf:Str→Option NameKind} {x:Str}:∀{binds:List (Str×Value)} {m:Str→Option Value},(∀v,(x,v)∉binds)→bindC kindOf binds m x=m x
 |[],_,_=>rfl
 |(n,v)::r,m,h=>by
  unfold bindC
  rw [Pz fun w hw=>h w (AS _ hw)]
  split
  ·rfl
  ·have:x≠n:=by rintro rfl;exact h v AO
   simp [this]
theorem MH {kindOf:Str→Option NameKind} {x:Str} {v:Value}:∀{P:List Str} {vs:List Value} {i:Nat} {m:Str→Option Value},P.Nodup→P[i]?=some x→vs[i]?=some v→kindOf x=some .local→
 bindL kindOf (P.zip vs) m x=some v
 |[],_,_,_,_,h,_,_=>by simp at h
 |_::_,[],_,_,_,_,h,_=>by simp at h
 |p::P,w::vs,0,m,nd,h1,h2,hk=>by
  simp at h1 h2;subst h1;subst h2
  show bindL kindOf ((p,w)::P.zip vs) m p=_
  unfold bindL
  rw [Px fun v hv=>(qbU.mp nd).1 (Km hv).1,if_pos hk]
  simp
 |p::P,w::vs,i+1,m,nd,h1,h2,hk=>by
  show bindL kindOf ((p,w)::P.zip vs) m x=_
  unfold bindL
  exact MH (i:=i) (qbU.mp nd).2 (by simpa using h1) (by simpa using h2) hk
theorem MK {kindOf:Str→Option NameKind} {x:Str} {v:Value}:∀{P:List Str} {vs:List Value} {i:Nat} {m:Str→Option Value},P.Nodup→P[i]?=some x→vs[i]?=some v→kindOf x≠some .local→
 bindC kindOf (P.zip vs) m x=some v
 |[],_,_,_,_,h,_,_=>by simp at h
 |_::_,[],_,_,_,_,h,_=>by simp at h
 |p::P,w::vs,0,m,nd,h1,h2,hk=>by
  simp at h1 h2;subst h1;subst h2
  show bindC kindOf ((p,w)::P.zip vs) m p=_
  unfold bindC
  rw [Pz fun v hv=>(qbU.mp nd).1 (Km hv).1,if_neg hk]
  simp
 |p::P,w::vs,i+1,m,nd,h1,h2,hk=>by
  show bindC kindOf ((p,w)::P.zip vs) m x=_
  unfold bindC
  exact MK (i:=i) (qbU.mp nd).2 (by simpa using h1) (by simpa using h2) hk
def start (N:List Str) (vs:List V):St:=vs.map some++List.replicate (N.length - vs.length) none
def AI (CX:Ea) (P:Program) (w:World) (K:PySem.W.Frag) (mg:Str→Option Value) (base:Heap) (N:List Str) (qual:Str) (scope:Scope) (f:Addr) (cd:Value) (A:Around) (outer:List Env) (s:Shared) (H:Hp) (E:XK):Cx where
 prog:=P
 w:=w
 K:=K
 mg:=mg
 base:=base
 A:=A.deeper (envOfC qual scope s.heap.objs.size f cd)
 N:=N
 s₀:=s
 H₀:=H
 env:=envOfC qual scope s.heap.objs.size f cd
 outer:=outer
 stack:=envOfC qual scope s.heap.objs.size f cd::outer
 ex:=[]
 calm:=true
 fn:=fun _=>true
 pn:=[]
 xe:=fun e s'=>wpAny (model P w) (A.deeper (envOfC qual scope s.heap.objs.size f cd)) (leaving (envOfC qual scope s.heap.objs.size f cd) e) (fun _ s''=>CX outer H s E e s'') (fun e' s''=>CX outer H s E e' s'') s'
theorem Kx {sc:Scope} {n:Nat} {x:Str} (h:sc.names.lookup x=some .cell):∃c,(cellsFrom n sc.names []).lookup x=some c:=by
 have q:=PySem.W.cellsFrom_some sc.names n [] (.inl h)
 exact qbN.mp q
theorem PB {CX:Ea} {P:Program} {w:World} {K:PySem.W.Frag} {mg:Str→Option Value} {base:Heap} {N ps:List Str} {qual:Str} {scope:Scope} {f:Addr} {cd:Value} {A:Around} {outer:List Env} {s s1:Shared} {H:Hp} {E:XK} {us:List Value} {vs:List V}
 (S:AV N ps scope) (hd:A.handled=none) (e0:Env0 P w K mg base A outer s H) (hl:vs.length=ps.length) (r:Vals vs us)
 (x:InCallC s s.heap.objs.size (bindL (envOfC qual scope s.heap.objs.size f cd).kindOf (ps.zip us) fun _=>none) (cellsFrom (s.heap.objs.size+1) scope.names []) (bindC (envOfC qual scope s.heap.objs.size f cd).kindOf (ps.zip us) fun _=>none) s1):
 Inv (AI CX P w K mg base N qual scope f cd A outer s H E) [] (start N vs) H s1:=by
 have hpl:ps.length≤N.length:=by have:=congrArg List.length S.pre;rw [List.length_take] at this;omega
 obtain ⟨h1,tk,rfl,hk⟩:=x.done
 have noA:∀b:Addr,b∉(AI CX P w K mg base N qual scope f cd A outer s H E).ex:=fun b z=>absurd (show b∈([]:List Addr) from z) (by simp)
 refine ⟨⟨e0.mod,S.kind,rfl,rfl,AM _,fun y z c h1 h2=>?_,fun y hy=>?_,fun y c _ h=>?_,fun _=>hd,Around.frames_deeper e0.frames,.inr ⟨rfl,rfl⟩,fun b z=>absurd z (noA b),e0.bs,e0.bsz,fun b _ _=>noA b,fun b z=>absurd z (noA b),e0.funs,e0.frf⟩,
  rfl,e0.bare,Un.kept hk,⟨_,x.toInCall.ns,fun i y v h1 h2 h3=>?_⟩,fun y c h=>⟨_,x.cell y c h⟩,e0.hok.fresh (AM _),fun y c h=>?_,fun p hp=>absurd (show p∈([]:List (Addr×Obj)) from hp) (by simp),e0.hok.kept hk,?_⟩
 ·exact name_of_addr x.apart (PySem.mem_of_lookup h1) (PySem.mem_of_lookup h2)
 ·have hy:scope.names.lookup y=some .cell∨scope.names.lookup y=some .free:=hy
  rcases hy with hy |hy
  ·exact Kx hy
  ·exact absurd rfl (S.nofree _ (PySem.mem_of_lookup hy))
 ·exact HC (x.above y c (PySem.mem_of_lookup h))
 ·have hi:i<vs.length:=by
   unfold start at h2
   by_cases hi:i<vs.length
   ·exact hi
   ·rw [IQ (by simpa using hi)] at h2
    rw [Mn] at h2
    split at h2<;>cases h2
  have ha:vs[i]?=some v:=by
   unfold start at h2
   rw [FP (by simpa using hi),Ca] at h2
   cases e:vs[i]? with
   |none=>rw [e] at h2;cases h2
   |some a=>rw [e] at h2;cases h2;rfl
  obtain ⟨u,hu,rv⟩:=r.get ha
  have hp:ps[i]?=some y:=by
   rw [←S.pre,List.getElem?_take_of_lt (by omega)];exact h1
  have ndP:ps.Nodup:=by rw [←S.pre];exact S.nd.sublist (List.take_sublist _ _)
  refine ⟨u,rv,?_⟩
  rcases S.par y (Gw hp) with k |k
  ·exact .inl ⟨k,MH ndP hp hu k⟩
  ·obtain ⟨c,e⟩:=Kx (n:=s.heap.objs.size+1) k
   refine .inr ⟨.inl k,c,e,?_⟩
   have q:=x.cell y c e
   rw [MK ndP hp hu (by show scope.names.lookup y≠_;rw [k];decide)] at q
   exact q
 ·exact e0.hok.fresh (HC (x.above y c (PySem.mem_of_lookup h)))
 ·unfold start
  show _=N.length
  rw [CG,Cm,List.length_replicate]
  omega
theorem ML {CX:Ea} {P:Program} {w:World} {K:PySem.W.Frag} {mg:Str→Option Value} {base:Heap} {k:Nat} {f:Addr} {name qual:Str} {params:Arguments} {body:List Stmt} {scope:Scope} {dV kV doc pm cdv ct oc:Value} {an od:Option Addr}
 {osl:Array (Option Value)} {N ps:List Str} {sp:Sp} (lk:K.lookup f=some ⟨oc,od,.func (PySem.W.fnOf name qual params body scope dV kV doc pm an cdv ct),osl⟩) (hcd:PySem.W.codeIn K cdv qual=true) (S:AV N ps scope)
 (len:∀vs H Q E,sp vs H Q E→vs.length=ps.length)
 (hbody:∀(A:Around) (outer:List Env) (s:Shared) (H:Hp) (vs:List V) (Q:VK) (E:XK),Room k (A.deeper (envOfC qual scope s.heap.objs.size f cdv))→sp vs H Q E→
  ∃t,D9 (AI CX P w K mg base N qual scope f cdv A outer s H E) body t∧t {nx:=fun _ H'=>Q .non H',rt:=Q} (start N vs) H):
 FnOk P w K mg base CX (k+1) f (PySem.W.fnOf name qual params body scope dV kV doc pm an cdv ct) ps sp:=by
 refine ⟨len,fun A outer s H args us vs Q E hr e0 hb r hsp=>?_⟩
 have hl:=len _ _ _ _ hsp
 have KX:K.In s.heap:=e0.mod.kin.keeps fun b o e=>(e0.bs b o e).1
 have lim:s.heap.NoLimit:=e0.mod.nolimit.keeps fun b o e=>(e0.bs b o e).1
 have hkind:∀y∈ps.zip us,scope.names.lookup y.1=some .local∨(scope.names.lookup y.1=some .cell∧((cellsFrom (s.heap.objs.size+1) scope.names []).lookup y.1).isSome=true):=fun z81_ hy=>by
  obtain ⟨n,v⟩:=z81_
  rcases S.par n (Km hy).1 with q |q
  ·exact .inl q
  ·exact .inr ⟨q,PySem.W.cellsFrom_some _ _ _ (.inl q)⟩
 refine codeAny_call_function hr.depth (KX _ _ lk) rfl S.co S.gen rfl (PySem.W.codeRec_of KX hcd) (hb _ _ _ _ ?_)
 refine wpAny_newFunctionEnv_cells S.kind hkind fun env he s1 x=>?_
 subst he
 refine ⟨lim.keeps x.toInCall.keep,codeAny_func ?_⟩
 obtain ⟨t,ht,hq⟩:=hbody A outer s H vs Q E (hr.deeper _) hsp
 have I:Inv (AI CX P w K mg base N qual scope f cdv A outer s H E) [] (start N vs) H s1:=PB S hr.hd e0 hl r x
 refine wpAny_mono (ht [] s1 (start N vs) H _ I hq) (fun fl s' hs=>?_) fun e s' hs=>hs
 have AW:∀{σ':St} {H':Hp} {v:V} {u:Value},Inv (AI CX P w K mg base N qual scope f cdv A outer s H E) [] σ' H' s'→RelV v u→Q v H'→CE outer P w H s Q u s':=
  fun {σ' H' v u} J rv q=>⟨v,H',J.os,J.bare,J.base,J.hok,rv,q⟩
 cases fl with
 |ret u=>
  obtain ⟨v,σ',H',J,rv,q⟩:=hs
  exact AW J rv q
 |next=>
  obtain ⟨σ',H',J,q⟩:=hs
  exact AW (v:=V.non) (u:=Value.none) J rfl q
 |brk=>
  obtain ⟨_,_,_,q⟩:=hs
  exact False.elim q
 |cont=>
  obtain ⟨_,_,_,q⟩:=hs
  exact False.elim q
section
variable {X:Cx} {x:Str} {p pos:Pos} {e:Expr} {es:List Expr} {t:TA} {id T:String} {r:List V→Hp→VK→Prop}
def PC (r:List V→Hp→VK→Prop) (t:TA):TE:=fun σ H Q=>t σ H fun vs H1=>r vs H1 Q
theorem Vp (hc:Dm X (.builtin id) r) (hg:Gl X x) (hm:X.mg x=none) (hv:bootBuiltins x=some (.builtin id)) (ha:PA X (e::es) t) (hn:x≠"__name__":=by decide) (hdb:(x==("__debug__":Str))=false:=by decide)
 (he:starEach (e::es) X.env=(false,eval e X.env)::starEach es X.env:=by rfl) (hpl:(backTo pos (starEach es X.env)).any (·.1)=false:=by rfl):PE X (.Call (.Name x p) (e::es) [] pos) (PC r t):=by
 intro pins s σ H Q I h
 refine wpAny_Call_Name_kw (GA I hg hm hv ?_ hn hdb)
 exact PyProof.Rows.callWith_builtin1 (Aw (ha pos pins s σ H _ I h) fun us s1 z82_=>by obtain ⟨vs,H1,I1,r1,q1⟩:=z82_;exact (hc pins s1 σ H1 vs us Q I1 r1 q1)) he hpl
theorem Vq (hc:Dm X (.type T) r) (hg:Gl X x) (hm:X.mg x=none) (hv:bootBuiltins x=some (.type T)) (ha:PA X (e::es) t) (hn:x≠"__name__":=by decide) (hdb:(x==("__debug__":Str))=false:=by decide)
 (he:starEach (e::es) X.env=(false,eval e X.env)::starEach es X.env:=by rfl) (hpl:(backTo pos (starEach es X.env)).any (·.1)=false:=by rfl):PE X (.Call (.Name x p) (e::es) [] pos) (PC r t):=by
 intro pins s σ H Q I h
 refine wpAny_Call_Name_kw (GA I hg hm hv ?_ hn hdb)
 exact PyProof.Rows.callWith_type1 (Aw (ha pos pins s σ H _ I h) fun us s1 z83_=>by obtain ⟨vs,H1,I1,r1,q1⟩:=z83_;exact (hc pins s1 σ H1 vs us Q I1 r1 q1)) he hpl
end
end L2
namespace HT
open PySem PyProof.Rows
section
open PySem.SeqAt
open PySem.AutoSeq1 (wpAny_loadPart')
open PySem.MeetsSeq PySem.MeetsSeq2 PySem.MeetsSeq3
end
section
variable {prog:Program} {w:World} {A:Around} {E:Value→Shared→Prop} {s:Shared}
theorem cat_tup {t b:Addr} {vs ws:List Value} {Q:Value→Shared→Prop} (ht:IsTup s.heap t vs.toArray) (hb:IsTup s.heap b ws.toArray) (hv:vs≠[])
 (h1:ws=[]→Q (.ref t) s) (h2:ws≠[]→Q (.ref s.heap.objs.size) {s with heap:=s.heap.push {cls:=.type "tuple",data:=.seq (vs++ws).toArray}})
 (hsz:vs.length+ws.length≤sizeLine):wpAny (model prog w) A (binaryOp .Add (.ref t) (.ref b)) Q E s:=by
 obtain ⟨⟨cls,dd,data,sl⟩,ho,hc,n,hd⟩:=id ht
 obtain ⟨⟨cls2,dd2,data2,sl2⟩,ho2,hc2,n2,hd2⟩:=id hb
 simp only at hc hd hc2 hd2
 subst hc hd hc2 hd2
 have e:vs.toArray++ws.toArray=(vs++ws).toArray:=by simp
 by_cases hw:ws=[]
 ·exact concat_meets ⟨_,ho,rfl⟩ ⟨_,ho2,rfl⟩ noFill_tuple_add seq_tuple_add PySem.F.slot_tuple_add PySem.F.entry_tuple_add (PySem.F.args_tuple_add_2 _ _)
   (tuple_addW1 t b vs.toArray ws.toArray n n2 dd dd2 sl sl2 (by simpa using hv) (by simp [hw])) ⟨ho,ho2,h1 hw⟩
 ·refine concat_meets ⟨_,ho,rfl⟩ ⟨_,ho2,rfl⟩ noFill_tuple_add seq_tuple_add PySem.F.slot_tuple_add PySem.F.entry_tuple_add (PySem.F.args_tuple_add_2 _ _)
   (tuple_addW2 t b vs.toArray ws.toArray n n2 dd dd2 sl sl2 (by simpa using hv) (by simpa using hw) (by rw [A5,A5];exact hsz)) ⟨ho,ho2,?_⟩
  rw [e]
  exact h2 hw
def sIx (n d:Nat):Option Int→Nat
 |none=>d
 |some v=>if v<0 then (v+(n:Int)).toNat else min v.toNat n
end
end HT
namespace L2
open PySem PySem.Spec PyProof.Rows
abbrev TO:=St→Hp→(Option Int→Hp→Prop)→Prop
def PO (X:Cx) (e:Option Expr) (t:TO):Prop:=
 ∀(pins:List (Addr×Obj)) (s:Shared) (σ:St) (H:Hp) (Q:Option Int→Hp→Prop),Inv X pins σ H s→t σ H Q→
  wpAny (model X.prog X.w) X.A (evalPart e X.env) (fun u s'=>∃o H',Inv X pins σ H' s'∧IsPart u o∧Q o H') X.xe s
def Zci:TO:=fun _ H Q=>Q none H
def Zcj (t:TE):TO:=fun σ H Q=>t σ H fun x H1=>∃i,x=.int i∧Q (some i) H1
section
variable {X:Cx} {e:Expr} {te:TE} {lo hi:Option Expr} {tl th:TO} {pos p2:Pos}
def SlR (X:Cx) (r:V→Option Int→Option Int→Hp→VK→Prop):Prop:=
 ∀(pins:List (Addr×Obj)) (s:Shared) (σ:St) (H:Hp) (x:V) (v vl vu:Value) (lo hi:Option Int) (sl:Addr) (Q:VK),Inv X pins σ H s→RelV x v→s.heap.IsSliceOf sl vl vu .none→IsPart vl lo→IsPart vu hi→r x lo hi H Q→
  ∃T id,typeLookup (.type T) "__getitem__"=pure (some (.builtin id))∧s.TypeIs v T∧wpAny (model X.prog X.w) X.A (getItem v (.ref sl)) (EP X pins σ Q) X.xe s
theorem SlR.or {r r':V→Option Int→Option Int→Hp→VK→Prop} (h:SlR X r) (h':SlR X r'):SlR X (fun x lo hi H Q=>r x lo hi H Q∨r' x lo hi H Q):=by
 intro pins s σ H x v vl vu lo hi sl Q I rx hs pl pu q
 rcases q with q |q
 ·exact h pins s σ H x v vl vu lo hi sl Q I rx hs pl pu q
 ·exact h' pins s σ H x v vl vu lo hi sl Q I rx hs pl pu q
def tSl (r:V→Option Int→Option Int→Hp→VK→Prop) (te:TE) (tl th:TO):TE:=fun σ H Q=>te σ H fun x H1=>tl σ H1 fun l H2=>th σ H2 fun u H3=>r x l u H3 Q
def MM (xs:List V) (lo hi:Option Int):List V:=(xs.drop (HT.sIx xs.length 0 lo)).take (HT.sIx xs.length xs.length hi - HT.sIx xs.length 0 lo)
def Zck (K:PySem.W.Frag):V→Option Int→Option Int→Hp→VK→Prop:=fun x lo hi H Q=>∃a xs,x=.ref a∧SqT K H a xs∧
 ¬(HT.sIx xs.length 0 lo=0∧HT.sIx xs.length xs.length hi=xs.length)∧∀p,H p=none→Q (.ref p) (Ak H p (.tup (MM xs lo hi)))
def Vr (K:PySem.W.Frag):R2:=fun x y H Q=>∃a b xs ys,x=.ref a∧y=.ref b∧SqT K H a xs∧SqT K H b ys∧xs≠[]∧xs.length+ys.length≤sizeLine∧
 (ys=[]→Q (.ref a) H)∧(ys≠[]→∀p,H p=none→Q (.ref p) (Ak H p (.tup (xs++ys))))
theorem Vals.nil_iff {xs:List V} {us:List Value} (r:Vals xs us):us=[]↔xs=[]:=by
 cases r with
 |nil=>simp
 |cons _ _=>simp
theorem op_catT:OpR X (binaryOp .Add) (Vr X.K):=by
 intro pins s σ H x y v u Q I rx ry h
 obtain ⟨a,b,xs,ys,rfl,rfl,ha,hb,hx,hz,q1,q2⟩:=h
 cases rx
 cases ry
 obtain ⟨its,r1,p1,_⟩:=I.tuple ha
 obtain ⟨its2,r2,p2,_⟩:=I.tuple hb
 refine HT.cat_tup p1 p2 (fun z=>hx (r1.nil_iff.mp z)) (fun z=>⟨.ref a,H,I,rfl,q1 (r2.nil_iff.mp z)⟩) (fun z=>?_) (by rw [←r1.length,←r2.length];exact hz)
 refine ⟨.ref s.heap.objs.size,_,I.laid (t':=s.toks) (o:=.tup (xs++ys)) (fun b ob q=>AJ _ q) (AM _) ?_,rfl,q2 (fun w=>z (r2.nil_iff.mpr w)) _ (I.hok.fresh (AM _))⟩
 exact ⟨by rw [CG];exact hz,_,r1.append r2,IsTup.new _ _,NoDict.new⟩
end
def DO (n:Nat) (i:Int):Option Nat:=if 0≤i then (if i<n then some i.toNat else none) else if -(n:Int)≤i then some (i+n).toNat else none
def Do {α:Type} (xs:List α) (i:Int):Option α:=(DO xs.length i).bind fun j=>xs[j]?
theorem PD {n:Nat} {i:Int} {j:Nat} (h:DO n i=some j):seqIndex? i n=some j∧j<n∧-(n:Int)≤i∧i<n:=by
 unfold DO at h
 by_cases h0:0≤i
 ·rw [if_pos h0] at h
  by_cases h1:i<n
  ·rw [if_pos h1] at h
   have e:i.toNat=j:=Option.some.inj h
   exact ⟨by rw [seqIndex_of h0 h1,e],by omega,by omega,h1⟩
  ·rw [if_neg h1] at h;cases h
 ·rw [if_neg h0] at h
  by_cases h1:-(n:Int)≤i
  ·rw [if_pos h1] at h
   have e:(i+n).toNat=j:=Option.some.inj h
   exact ⟨by rw [seqIndex_neg (by omega) h1,e],by omega,h1,by omega⟩
  ·rw [if_neg h1] at h;cases h
theorem PF {α:Type} {xs:List α} {i:Int} {v:α} (h:Do xs i=some v):∃j,seqIndex? i xs.length=some j∧xs[j]?=some v∧j<xs.length∧-(xs.length:Int)≤i∧i<xs.length:=by
 unfold Do at h
 cases e:DO xs.length i with
 |none=>rw [e] at h;cases h
 |some j=>
  rw [e] at h
  obtain ⟨h1,h2,h3,h4⟩:=PD e
  exact ⟨j,h1,h,h2,h3,h4⟩
def PH (b:Expr):Prop:=∀o i,subscripted b false o i=operate [o,i] (getItem o i)
def IxR (X:Cx) (r:R2):Prop:=
 ∀(value slice:Expr) (pins:List (Addr×Obj)) (s:Shared) (σ:St) (H:Hp) (x y:V) (v u:Value) (Q:VK),Inv X pins σ H s→RelV x v→RelV y u→r x y H Q→
  subscripted slice false v u=operate [v,u] (getItem v u)→wpAny (model X.prog X.w) X.A (subscriptTail value slice v u) (EP X pins σ Q) X.xe s
def MN (X:Cx) (id:String) (r:V→List V→Hp→VK→Prop):Prop:=
 ∀(pins:List (Addr×Obj)) (s:Shared) (σ:St) (H:Hp) (x:V) (xs:List V) (v:Value) (us:List Value) (Q:VK),Inv X pins σ H s→RelV x v→Vals xs us→r x xs H Q→
  wpAny (model X.prog X.w) X.A (call (.builtin id) (v::us)) (EP X pins σ Q) X.xe s
section
variable {X:Cx} {a b:Expr} {ta tb:TE} {pos:Pos}
theorem IxR.or {r r':R2} (h:IxR X r) (h':IxR X r'):IxR X (fun x y H Q=>r x y H Q∨r' x y H Q):=by
 intro value slice pins s σ H x y v u Q I rx ry q hs
 rcases q with q |q
 ·exact h value slice pins s σ H x y v u Q I rx ry q hs
 ·exact h' value slice pins s σ H x y v u Q I rx ry q hs
theorem Vs {r:R2} (hr:IxR X r) (ha:PE X a ta) (hb:PE X b tb) (hs:PH b):PE X (.Subscript a b pos) (Ku r ta tb):=by
 intro pins s σ H Q I h
 exact Subscript_ (Mz ha hb I h fun v u s2 x y H2 I2 rx ry q=>hr a b pins s2 σ H2 x y v u Q I2 rx ry q (hs _ _))
def Vt (K:PySem.W.Frag):R2:=fun x y H Q=>∃p xs i v,x=.ref p∧y=.int i∧SqL K H p xs∧Do xs i=some v∧Q v H
def Vu (K:PySem.W.Frag):R2:=fun x y H Q=>∃p xs i v,x=.ref p∧y=.int i∧SqT K H p xs∧Do xs i=some v∧Q v H
theorem ix_list:IxR X (Vt X.K):=by
 intro value slice pins s σ H x y v u Q I rx ry h hs
 obtain ⟨p,xs,i,z,rfl,rfl,hq,he,q⟩:=h
 cases rx
 obtain ⟨t,rfl⟩:=ry
 obtain ⟨its,r,pl,hz⟩:=I.list hq
 obtain ⟨j,h1,h2,h3,h4,h5⟩:=PF he
 obtain ⟨w,ew,rw'⟩:=r.get h2
 have hl:=r.length
 have hn:=HG
 have AW:EP X pins σ Q w s:=⟨z,H,I,rw',q⟩
 by_cases h0:0≤i
 ·have hj:i.toNat=j:=by
   rw [seqIndex_of h0 h5] at h1
   exact Option.some.inj h1
  exact item_listR pl.isList h0 (by omega) (by rw [hj];simpa using ew) AW hs
 ·have hj:(i+(its.toArray.size:Int)).toNat=j:=by
   rw [seqIndex_neg (by omega) h4] at h1
   rw [A5,←hl]
   exact Option.some.inj h1
  exact subscriptTail_builtinR (x:=w) pl.isList.typeIs slot_list_getitem.lookup
   (wpAny_getItem_list_neg (Q:=fun r s'=>r=w∧EP X pins σ Q r s') pl.isList (by omega) (by rw [A5]<;>omega) (by omega) (by rw [hj];simpa using ew) ⟨rfl,AW⟩) hs
theorem ix_tup:IxR X (Vu X.K):=by
 intro value slice pins s σ H x y v u Q I rx ry h hs
 obtain ⟨p,xs,i,z,rfl,rfl,hq,he,q⟩:=h
 cases rx
 obtain ⟨t,rfl⟩:=ry
 obtain ⟨its,r,pl,hz⟩:=I.tuple hq
 obtain ⟨j,h1,h2,h3,h4,h5⟩:=PF he
 obtain ⟨w,ew,rw'⟩:=r.get h2
 have hl:=r.length
 have hn:=HG
 have AW:EP X pins σ Q w s:=⟨z,H,I,rw',q⟩
 exact subscriptTail_builtinR (x:=w) pl.typeIs slot_tuple_getitem.lookup
  (getItem_tuple (j:=j) (Q:=fun r s'=>r=w∧EP X pins σ Q r s') pl (by omega) (by omega) (by rw [A5,←hl];exact h1) (by simpa using ew) ⟨rfl,AW⟩) hs
theorem Vv (its:List Value) (n j:Nat) (u:Value):Obj.mapSeq (·.setIfInBounds j u) {cls:=.type "list",data:=.seq its.toArray n}={cls:=.type "list",data:=.seq (its.set j u).toArray n}:=by
 simp [Obj.mapSeq]
theorem Inv.lst {pins:List (Addr×Obj)} {σ:St} {H:Hp} {s:Shared} {p:Addr} {xs:List V} (I:Inv X pins σ H s) (h:H p=some (.lst xs)):
 ∃(its:List Value) (n:Nat),Vals xs its∧s.heap.get? p=some {cls:=.type "list",data:=.seq its.toArray n}∧xs.length≤sizeLine:=by
 obtain ⟨z,its,n,r,e⟩:=I.hok p _ h
 exact ⟨its,n,r,e,z⟩
theorem Inv.lstUpd {pins:List (Addr×Obj)} {σ:St} {H:Hp} {s:Shared} {p:Addr} {xs ys:List V} {its its':List Value} {n n':Nat} {f:Obj→Obj} (I:Inv X pins σ H s) (h:H p=some (.lst xs))
 (ho:s.heap.get? p=some {cls:=.type "list",data:=.seq its.toArray n}) (hf:f {cls:=.type "list",data:=.seq its.toArray n}={cls:=.type "list",data:=.seq its'.toArray n'}) (r:Vals ys its') (hz:ys.length≤sizeLine) (t:Nat):
 Inv X pins σ (Ak H p (.lst ys)) {s with heap:=s.heap.update p f,toks:=t}:=by
 have e:(s.heap.update p f).get? p=some {cls:=.type "list",data:=.seq its'.toArray n'}:=by
  rw [IS f ho (by rw [hf]<;>rfl),hf]
 refine I.write (x:=p) (e:=p) (by rw [h];trivial) (.inl rfl) (fun b u hb q=>(IR _ _ (Ne.symm hb)).trans q) ⟨_,e⟩ ?_
 exact ⟨hz,its',n',r,e⟩
def Vw:V→V→V→Hp→(Hp→Prop)→Prop:=fun o i v H Q=>∃p xs k j,o=.ref p∧i=.int k∧H p=some (.lst xs)∧DO xs.length k=some j∧Q (Ak H p (.lst (xs.set j v)))
theorem Vx:Pf X Vw:=by
 intro pins s σ H o i v ov iv u Q I ro ri rv h
 obtain ⟨p,xs,k,j,rfl,rfl,hp,hj,q⟩:=h
 cases ro
 obtain ⟨t,rfl⟩:=ri
 obtain ⟨its,n,r,ho,hz⟩:=I.lst hp
 obtain ⟨h1,h2,h3,h4⟩:=PD hj
 have hl:=r.length
 have hn:=HG
 have I':Inv X pins σ (Ak H p (.lst (xs.set j v))) {s with heap:=s.heap.update p (Obj.mapSeq (·.setIfInBounds j u))}:=
  I.lstUpd hp ho (Vv its n j u) (r.set rv j) (by rw [List.length_set];exact hz) s.toks
 by_cases h0:0≤k
 ·have hk:k.toNat=j:=by
   rw [seqIndex_of h0 h4] at h1
   exact Option.some.inj h1
  exact PySem.W.ki_setAt ho h0 (by omega) (by rw [A5,←hl];exact h4) (by rw [hk];exact ⟨_,I',q⟩)
 ·have hk:(k+(its.toArray.size:Int)).toNat=j:=by
   rw [seqIndex_neg (by omega) h3] at h1
   rw [A5,←hl]
   exact Option.some.inj h1
  exact PySem.W.ki_setBack ho (by omega) (by rw [A5,←hl];exact h3) (by omega) (by rw [hk];exact ⟨_,I',q⟩)
def Eb:V→Bool
 |.non=>true
 |.bl _=>true
 |.int _=>true
 |.str _=>true
 |_=>false
def EK:V→V→Bool
 |.non,.non=>true
 |.bl a,.bl b=>a==b
 |.bl a,.int b=>(if a then 1 else 0)==b
 |.int a,.bl b=>a==(if b then 1 else 0)
 |.int a,.int b=>a==b
 |.str a,.str b=>a==b
 |_,_=>false
theorem Vy {A:Around} {s:Shared} {y x:V} {u v:Value} (ry:RelV y u) (rx:RelV x v) (fy:Eb y=true) (fx:Eb x=true):SeqAt.EqAt A s u v (EK y x):=by
 cases y with
 |non=>
  cases ry
  cases x with
  |non=>cases rx;exact SeqAt.EqAt.same _
  |bl b=>cases rx;exact SeqAt.EqAt.none_bool b
  |int b=>obtain ⟨t,rfl⟩:=rx;exact SeqAt.EqAt.none_int b t
  |str b=>obtain ⟨t,rfl⟩:=rx;exact SeqAt.EqAt.none_str b t
  |_=>exact absurd (show false=true from fx) BL
 |bl a=>
  cases ry
  cases x with
  |non=>cases rx;exact SeqAt.EqAt.bool_none a
  |bl b=>cases rx;exact SeqAt.EqAt.bool_bool a b
  |int b=>obtain ⟨t,rfl⟩:=rx;exact SeqAt.EqAt.bool_int a b t
  |str b=>obtain ⟨t,rfl⟩:=rx;exact SeqAt.EqAt.bool_str a b t
  |_=>exact absurd (show false=true from fx) BL
 |int a=>
  obtain ⟨t',rfl⟩:=ry
  cases x with
  |non=>cases rx;exact SeqAt.EqAt.int_none a t'
  |bl b=>cases rx;exact SeqAt.EqAt.int_bool a t' b
  |int b=>obtain ⟨t,rfl⟩:=rx;exact SeqAt.EqAt.int_int a t' b t
  |str b=>obtain ⟨t,rfl⟩:=rx;exact SeqAt.EqAt.int_str a t' b t
  |_=>exact absurd (show false=true from fx) BL
 |str a=>
  obtain ⟨t',rfl⟩:=ry
  cases x with
  |non=>cases rx;exact SeqAt.EqAt.str_none a t'
  |bl b=>cases rx;exact SeqAt.EqAt.str_bool a t' b
  |int b=>obtain ⟨t,rfl⟩:=rx;exact SeqAt.EqAt.str_int a t' b t
  |str b=>obtain ⟨t,rfl⟩:=rx;exact SeqAt.EqAt.str_str a t' b t
  |_=>exact absurd (show false=true from fx) BL
 |_=>exact absurd (show false=true from fy) BL
def GE (x:V) (u:Value):Bool:=match u with
 |.none=>EK .non x
 |.bool b=>EK (.bl b) x
 |.int i _=>EK (.int i) x
 |.str z _=>EK (.str z) x
 |_=>false
theorem MP {x y:V} {u:Value} (r:RelV y u) (f:Eb y=true):GE x u=EK y x:=by
 cases y with
 |non=>cases r;rfl
 |bl b=>cases r;rfl
 |int i=>obtain ⟨t,rfl⟩:=r;rfl
 |str z=>obtain ⟨t,rfl⟩:=r;rfl
 |_=>exact absurd (show false=true from f) BL
theorem MQ {A:Around} {s:Shared} {x:V} {v:Value} (rx:RelV x v) (fx:Eb x=true):∀{xs:List V} {us:List Value},Vals xs us→xs.all Eb=true→∀u∈us,SeqAt.EqAt A s u v (GE x u)
 |_,_,.nil,_=>fun u hu=>by cases hu
 |y::xs,u::us,.cons r t,f=>fun u' hu=>by
  rw [List.all_cons,CN] at f
  rcases qa7.mp hu with rfl |hu
  ·rw [MP r f.1];exact Vy r rx f.1 fx
  ·exact MQ rx fx t f.2 u' hu
def Ky (x:V) (xs:List V):Bool:=xs.any fun y=>EK y x
def rIn (K:PySem.W.Frag) (neg:Bool):R2:=fun x y H Q=>∃p xs,y=.ref p∧(SqL K H p xs∨SqT K H p xs)∧Eb x=true∧xs.all Eb=true∧Q (.bl (if neg then !Ky x xs else Ky x xs)) H
theorem Vz:Dm X (.builtin "len") (fun xs H Q=>∃p ys,xs=[.ref p]∧(SqL X.K H p ys∨SqT X.K H p ys)∧Q (.int ys.length) H):=by
 intro pins s σ H xs us Q I r h
 obtain ⟨p,ys,rfl,hq,q⟩:=h
 obtain ⟨u,rfl,rx⟩:=EH r
 cases rx
 have hn:=HG
 rcases hq with hq |hq
 ·obtain ⟨its,r',pl,hz⟩:=I.list hq
  have hlen:=r'.length
  exact Calls.call_len_list pl.isList (by simp only [A5]<;>omega) ⟨.int ys.length,H,I.tok _,⟨s.toks+1,by rw [A5,hlen]⟩,q⟩
 ·obtain ⟨its,r',pl,hz⟩:=I.tuple hq
  have hlen:=r'.length
  exact len_tuple pl (by simp only [A5]<;>omega) ⟨.int ys.length,H,I.tok _,⟨s.toks+1,by rw [A5,hlen]⟩,q⟩
theorem VA:Dm X (.type "list") (fun xs H Q=>∃p ys,xs=[.ref p]∧(SqL X.K H p ys∨SqT X.K H p ys)∧∀l,H l=none→Q (.ref l) (Ak H l (.lst ys))):=by
 intro pins s σ H xs us Q I r h
 obtain ⟨p,ys,rfl,hq,q⟩:=h
 obtain ⟨u,rfl,rx⟩:=EH r
 cases rx
 have AW:∀(its:List Value),Vals ys its→ys.length≤sizeLine→∀(h':Heap) (c':Nat),(∀b o',s.heap.get? b=some o'→h'.get? b=some o')→
  h'.get? s.heap.objs.size=some {cls:=.type "list",dict:=none,data:=.seq its.toArray c',slots:=#[]}→EP X pins σ Q (.ref s.heap.objs.size) {s with heap:=h'}:=fun its r' hz h' c' kp e=>
  ⟨.ref s.heap.objs.size,_,I.laid (t':=s.toks) kp (AM _) (show ObjOk X.prog X.w _ h' _ (.lst ys) from ⟨hz,its,c',r',e⟩),rfl,q _ (I.hok.fresh (AM _))⟩
 rcases hq with hq |hq
 ·obtain ⟨its,r',pl,hz⟩:=I.list hq
  have hlen:=r'.length
  obtain ⟨o,ho,hc,n,hd⟩:=pl.isList
  exact call_list_seq p (.inl rfl) ho hc hd (fun h' c' kp e=>AW its r' hz h' c' kp e) (by simp only [A5]<;>omega)
 ·obtain ⟨its,r',pl,hz⟩:=I.tuple hq
  have hlen:=r'.length
  obtain ⟨o,ho,hc,n,hd⟩:=pl
  exact call_list_seq p (.inr rfl) ho hc hd (fun h' c' kp e=>AW its r' hz h' c' kp e) (by simp only [A5]<;>omega)
theorem VB:Dm X (.type "tuple") (fun xs H Q=>∃p ys,xs=[.ref p]∧((SqL X.K H p ys∧∀l,H l=none→Q (.ref l) (Ak H l (.tup ys)))∨(SqT X.K H p ys∧Q (.ref p) H))):=by
 intro pins s σ H xs us Q I r h
 obtain ⟨p,ys,rfl,h⟩:=h
 obtain ⟨u,rfl,rx⟩:=EH r
 cases rx
 rcases h with ⟨hq,q⟩ |⟨hq,q⟩
 ·obtain ⟨its,r',pl,hz⟩:=I.list hq
  have hlen:=r'.length
  refine call_tuple_list pl.isList (fun h' kp=>?_) (by simp only [A5]<;>omega)
  have I1:Inv X pins σ H {s with heap:=h'}:=I.kept (t':=s.toks) kp
  have I2:Inv X pins σ (Ak H h'.objs.size (.tup ys)) {s with heap:=h'.push {cls:=.type "tuple",data:=.seq its.toArray}}:=
   I1.laid (t':=s.toks) (fun b o e=>AJ _ e) (AM _) (show ObjOk X.prog X.w _ _ _ (.tup ys) from ⟨hz,its,r',IsTup.new _ _,NoDict.new⟩)
  exact ⟨.ref h'.objs.size,_,I2,rfl,q _ (I1.hok.fresh (AM _))⟩
 ·obtain ⟨its,r',pl,hz⟩:=I.tuple hq
  exact call_tuple_same pl ⟨.ref p,H,I,rfl,q⟩
def PJ (K:PySem.W.Frag) (T:String) (x:V) (H:Hp):Prop:=match x with
 |.str _=>T="str"
 |.int _=>T="int"
 |.ref p=>(T="list"∧∃xs,SqL K H p xs)∨(T="tuple"∧∃o,K.lookup p=some o∧o.cls=.type "tuple"∧o.dict=none)
 |_=>False
theorem PK {pins:List (Addr×Obj)} {σ:St} {H:Hp} {s:Shared} {T:String} {x:V} {v:Value} (I:Inv X pins σ H s) (r:RelV x v) (ty:PJ X.K T x H):
 s.TypeIs v T∧∀a,v=.ref a→∃ob,s.heap.get? a=some ob∧ob.dict=none:=by
 cases x with
 |str z=>
  obtain ⟨t,rfl⟩:=r
  cases (show T="str" from ty)
  exact ⟨typeIs_str s z t,fun _ e=>nomatch e⟩
 |int i=>
  obtain ⟨t,rfl⟩:=r
  cases (show T="int" from ty)
  exact ⟨typeIs_int s i t,fun _ e=>nomatch e⟩
 |ref p=>
  cases r
  rcases ty with ⟨rfl,xs,hq⟩ |⟨rfl,o,hk,hc,hd⟩
  ·obtain ⟨its,_,pl,_⟩:=I.list hq
   refine ⟨pl.isList.typeIs,fun a e=>?_⟩
   cases e
   obtain ⟨o,n,e,c,hd,_⟩:=pl
   exact ⟨o,e,hd⟩
  ·refine ⟨⟨o,I.kIn p o hk,hc⟩,fun a e=>?_⟩
   cases e
   exact ⟨o,I.kIn _ o hk,hd⟩
 |_=>exact False.elim ty
def VC (K:PySem.W.Frag) (T:String) (r:V→List V→Hp→VK→Prop) (to:TE) (t:TA):TE:=fun σ H Q=>to σ H fun x H1=>PJ K T x H1∧t σ H1 fun xs H2=>r x xs H2 Q
variable {o e:Expr} {es:List Expr} {to:TE} {t:TA} {name:Str} {apos cpos:Pos} {T id:String} {r:V→List V→Hp→VK→Prop}
theorem PL (pa:PlainAttrs T) (slot:Slot T name id) (hty:typeOf (.builtin id)=pure (.type "method_descriptor")) (hm:MN X id r) (ho:PE X o to) (ha:PA X (e::es) t)
 (hbase:attributeBase o name X.env (eval o X.env)=eval o X.env:=by rfl)
 (hfew:((backTo cpos (starEach (e::es) X.env)).all (fun x=>!x.1)&&(backToKw cpos (keywordEach [] X.env)).all (fun x=>x.1.isSome)
  &&decide ((e::es).length+([]:List Keyword).length+(if ([]:List Keyword).isEmpty then 0 else 1)<30))=true:=by rfl)
 (hline:(apos.endLine==cpos.line)=true:=by rfl) (hs:starEach (e::es) X.env=(false,eval e X.env)::starEach es X.env:=by rfl) (hplain:(backTo cpos (starEach es X.env)).any (·.1)=false:=by rfl):
 PE X (.Call (.Attribute o name apos) (e::es) [] cpos) (VC X.K T r to t):=by
 intro pins s σ H Q I h
 refine wpAny_Call_method_late hbase hfew hline rfl (Aw (ho pins s σ H _ I h) fun v s1 z89_=>?_)
 obtain ⟨x,H1,I1,r1,ty,q1⟩:=z89_
 obtain ⟨h1,h2⟩:=PK I1 r1 ty
 refine ⟨T,id,pa,slot,hty,h1,h2,?_⟩
 have hA:=ha cpos pins s1 σ H1 _ I1 q1
 rw [hs] at hA ⊢
 refine Calls.callWith_builtin (by show (false||(backTo cpos (starEach es X.env)).any (·.1))=false;rw [hplain]<;>rfl) (Calls.evalArgs_plain ?_)
 exact Aw hA fun us s2 z90_=>by obtain ⟨vs,H2,I2,r2,q2⟩:=z90_;exact (hm pins s2 σ H2 x vs v us Q I2 r1 r2 q2)
end
def PM (X:Cx) (id:String) (r:V→List V→Hp→VK→Prop):Prop:=
 ∀(pins:List (Addr×Obj)) (s:Shared) (σ:St) (H:Hp) (x:V) (xs:List V) (v:Value) (us:List Value) (Q:VK),Inv X pins σ H s→RelV x v→Vals xs us→r x xs H Q→
  wpAny (model X.prog X.w) X.A (call (.builtin id) (v::us)) (EP X pins σ Q) X.xe s
theorem Vals.one {x:V} {us:List Value} (h:Vals [x] us):∃u,us=[u]∧RelV x u:=by
 cases h with
 |cons r t=>cases t;exact ⟨_,rfl,r⟩
theorem Vals.reverse {xs:List V} {us:List Value} (h:Vals xs us):Vals xs.reverse us.reverse:=by
 induction h with
 |nil=>exact .nil
 |cons r t ih=>rw [List.reverse_cons,List.reverse_cons];exact Vals.append ih (.cons r .nil)
theorem Vals.rep {xs:List V} {us:List Value} (h:Vals xs us):∀k:Nat,Vals (List.replicate k xs).flatten (List.replicate k us).flatten
 |0=>.nil
 |k+1=>by
  rw [Gx,Gx,Hv,Hv]
  exact Vals.append h (Vals.rep h k)
theorem Kz (its:List Value):∀(k:Nat) (acc:List Value),
 List.foldl (fun x1 x2=>x1++x2) acc.toArray (List.replicate k its.toArray)=(acc++(List.replicate k its).flatten).toArray
 |0,acc=>by simp
 |k+1,acc=>by
  have e:acc.toArray++its.toArray=(acc++its).toArray:=by simp
  have e2:(acc++its)++(List.replicate k its).flatten=acc++(List.replicate (k+1) its).flatten:=by
   rw [Gx,Hv,List.append_assoc]
  rw [←e2,←Kz its k (acc++its),←e,Gx,List.foldl_cons]
section
variable {X:Cx} {pins:List (Addr×Obj)} {σ:St} {H:Hp} {s:Shared} {l b:Addr} {xs ys zs:List V}
theorem Inv.lset {its its':List Value} {n:Nat} {f:Array Value→Array Value} {t':Nat} (I:Inv X pins σ H s) (hH:H l=some (.lst xs))
 (e:s.heap.get? l=some {cls:=.type "list",data:=.seq its.toArray n}) (hf:f its.toArray=its'.toArray) (hv:Vals ys its') (hz:ys.length≤sizeLine):
 Inv X pins σ (Ak H l (.lst ys)) {s with heap:=s.heap.update l (Obj.mapSeq f),toks:=t'}:=by
 have q:=PySem.IsL.update e f
 rw [hf] at q
 refine I.write (x:=l) (e:=l) (by rw [hH];exact trivial) (.inl rfl) (fun b' u hb hu=>(IR s.heap (Obj.mapSeq f) (Ne.symm hb)).trans hu) ⟨_,q⟩ ?_
 exact ⟨hz,its',_,hv,q⟩
theorem Inv.lnew {its:List Value} {t':Nat} (I:Inv X pins σ H s) (hv:Vals ys its) (hz:ys.length≤sizeLine):
 Inv X pins σ (Ak H s.heap.objs.size (.lst ys)) {s with heap:=s.heap.push {cls:=.type "list",data:=.seq its.toArray},toks:=t'}:=
 I.laid (fun _ _ q=>AJ _ q) (AM _) ⟨hz,its,0,hv,Bz _ rfl⟩
theorem Inv.fresh (I:Inv X pins σ H s):H s.heap.objs.size=none:=I.hok.fresh (AM _)
theorem Inv.lstM (I:Inv X pins σ H s) (hH:H l=some (.lst xs)):xs.length≤sizeLine∧∃(its:List Value) (n:Nat),Vals xs its∧xs.length=its.length∧s.heap.get? l=some {cls:=.type "list",data:=.seq its.toArray n}:=by
 obtain ⟨z,its,n,r,e⟩:=I.hok l _ hH
 exact ⟨z,its,n,r,r.length,e⟩
theorem PN {n:Nat} (h:n≤sizeLine):Builtin.List.listTooLong n=false:=by
 unfold Builtin.List.listTooLong
 exact decide_eq_false (by omega)
end
section
variable {X:Cx}
def VD:V→List V→Hp→VK→Prop:=fun x vs H Q=>∃l xs y,x=.ref l∧vs=[y]∧H l=some (.lst xs)∧xs.length<sizeLine∧Q .non (Ak H l (.lst (xs++[y])))
theorem VE:PM X "list.append" VD:=by
 intro pins s σ H x vs v us Q I rx rv h
 obtain ⟨l,xs,y,rfl,rfl,hH,hz,q⟩:=h
 cases rx
 obtain ⟨u,rfl,ru⟩:=rv.one
 obtain ⟨z,its,n,r,hl,e⟩:=I.lstM hH
 refine call_meets F.slot_list_append ⟨_,e,rfl⟩ F.entry_list_append (F.args_list_append_2 _ _) (PySem.list_append l its.toArray n u (by rw [A5];omega)) ⟨e,?_⟩
 refine ⟨.non,_,I.lset (its':=its++[u]) hH e (by simp) (r.append (.cons ru .nil)) ?_,rfl,q⟩
 rw [CG,List.length_singleton]
 omega
def VF:V→List V→Hp→VK→Prop:=fun x vs H Q=>∃l b xs zs,x=.ref l∧vs=[.ref b]∧H l=some (.lst xs)∧H b=some (.lst zs)∧xs.length+zs.length≤sizeLine∧Q .non (Ak H l (.lst (xs++zs)))
theorem VG:PM X "list.extend" VF:=by
 intro pins s σ H x vs v us Q I rx rv h
 obtain ⟨l,b,xs,zs,rfl,rfl,hH,hB,hz,q⟩:=h
 cases rx
 obtain ⟨u,rfl,ru⟩:=rv.one
 cases ru
 obtain ⟨z,its,n,r,hl,e⟩:=I.lstM hH
 obtain ⟨z2,its2,n2,r2,hl2,e2⟩:=I.lstM hB
 have hsz:its.toArray.size+its2.toArray.size≤sizeLine:=by rw [A5,A5];omega
 have hlong:¬(!its.toArray.isEmpty&&Builtin.List.listTooLong (its.toArray.size+its2.toArray.size))=true:=by
  rw [PN hsz,Bool.and_false]
  exact BL
 refine call_meets F.slot_list_extend ⟨_,e,rfl⟩ F.entry_list_extend (F.args_list_extend_2 _ _)
  (AutoSeq1.list_extend_list_list_0 l its.toArray n b its2.toArray n2 hlong (by rw [A5];omega) (by omega)) ⟨e,e2,?_⟩
 refine ⟨.non,_,I.lset (its':=its++its2) hH e (by simp) (r.append r2) ?_,rfl,q⟩
 rw [CG]
 omega
def VH:R2:=fun x y H Q=>∃l b xs zs,x=.ref l∧y=.ref b∧H l=some (.lst xs)∧H b=some (.lst zs)∧xs.length+zs.length≤sizeLine∧∀p,H p=none→Q (.ref p) (Ak H p (.lst (xs++zs)))
theorem op_cat:OpR X (binaryOp .Add) VH:=by
 intro pins s σ H x y v u Q I rx ry h
 obtain ⟨l,b,xs,zs,rfl,rfl,hH,hB,hz,q⟩:=h
 cases rx
 cases ry
 obtain ⟨z,its,n,r,hl,e⟩:=I.lstM hH
 obtain ⟨z2,its2,n2,r2,hl2,e2⟩:=I.lstM hB
 refine PySem.P.add_list e e2 ?_ (by rw [A5,A5];omega)
 have ea:its.toArray++its2.toArray=(its++its2).toArray:=by simp
 rw [ea]
 exact ⟨.ref _,_,I.lnew (t':=s.toks) (r.append r2) (by rw [CG];omega),rfl,q _ I.fresh⟩
def VI:R2:=fun x y H Q=>∃l k xs,x=.ref l∧y=.int k∧H l=some (.lst xs)∧-(2^63)≤k∧k<2^63∧xs.length*k.toNat≤sizeLine∧
 ∀p,H p=none→Q (.ref p) (Ak H p (.lst (List.replicate k.toNat xs).flatten))
theorem KA {α:Type} (xs:List α) (k:Nat):(List.replicate k xs).flatten.length=k*xs.length:=by
 induction k with
 |zero=>simp
 |succ k ih=>rw [Gx,Hv,CG,ih,IX,HE]
theorem VJ:OpR X (binaryOp .Mult) VI:=by
 intro pins s σ H x y v u Q I rx ry h
 obtain ⟨l,k,xs,rfl,rfl,hH,h1,h2,hz,q⟩:=h
 cases rx
 obtain ⟨t,rfl⟩:=ry
 obtain ⟨z,its,n,r,hl,e⟩:=I.lstM hH
 have hlen:its.toArray.size*k.toNat≤sizeLine:=by rw [A5,←hl];exact hz
 have hcap:¬its.toArray.size*k.toNat>(2^63 - 1) / 8:=by
  have:(sizeLine:Nat)≤(2^63 - 1) / 8:=by decide
  omega
 have hfit:¬(!Builtin.List.listFitsIndex k)=true:=by
  rw [fitsIndex_both h1 h2]
  exact BL
 have hlong:¬Builtin.List.listTooLong (its.toArray.size*k.toNat)=true:=by
  rw [PN hlen]
  exact BL
 have hnew:List.foldl (fun x1 x2=>x1++x2) #[] (List.replicate (if its.toArray.isEmpty=true then 0 else k.toNat) its.toArray)=(List.replicate k.toNat its).flatten.toArray:=by
  have f0:∀m:Nat,List.foldl (fun x1 x2=>x1++x2) #[] (List.replicate m its.toArray)=(List.replicate m its).flatten.toArray:=fun m=>by
   have:=Kz its m []
   rw [HA] at this
   exact this
  rw [f0]
  cases its with
  |nil=>simp
  |cons a r'=>rw [if_neg (by simp)]
 refine wpAny_binaryOp_repeat_ref (T:="list") (U:="int") (by decide) ⟨_,e,rfl⟩ (fun s'=>typeIs_int s' k t) noFill_list_mul F.fills_int_mul F.slot_int_rmul repeat_list F.slot_int_index.lookup
  (call_meets F.slot_int_rmul (typeIs_int s k t) F.entry_int_rmul (F.args_int_rmul_2 _ _) (int___rmul___int_list k t l its.toArray n)
   ⟨e,rfl,⟨_,e,rfl⟩,call_meets F.slot_list_mul ⟨_,e,rfl⟩ F.entry_list_mul (F.args_list_mul_2 _ _) (AutoListH.list___mul___list_int_3 l its.toArray n k t hfit hcap hlong) ⟨e,?_⟩⟩)
 rw [hnew]
 exact ⟨.ref _,_,I.lnew (t':=s.toks) (r.rep k.toNat) (by rw [KA,FS];exact hz),rfl,q _ I.fresh⟩
end
section
variable {prog:Program} {w:World} {A:Around} {E:Value→Shared→Prop} {s:Shared}
end
section
variable {X:Cx}
end
end L2
namespace Att
open PySem PySem.W PySem.Calls PyProof.Rows
theorem VL {P:Params} {h:Heap}:∀(ns:List Int) (vs:List Value),WellAll P h vs (ns.map WData.int)→IntsAre vs ns:=by
 intro ns
 induction ns with
 |nil=>
  intro vs w
  rw [FT] at w
  cases w
  exact .nil
 |cons n ns ih=>
  intro vs w
  rw [BM] at w
  cases w with
  |cons a b=>
   cases a
   exact .cons _ _ (ih _ b)
theorem VM {l:OpenLaw} {n:Nat} (hn:l.most=some n) {P:Params} {h:Heap} {args:List WData} {vals:List Value}
 (hpre:l.row.toRowW.claim.pre args=true) (hwl:WellAll P h vals args):
 ∃a vs ns,vals=[Value.ref a]∧args=[WData.list (ns.map WData.int)]∧h.get? a=some {cls:=.type "list",data:=.seq vs.toArray}∧IntsAre vs ns∧ns.length≤n:=by
 have hsh:WShape.hasAll [] args [.list .int]=true:=(pre_splitW hpre).1
 have hc:l.pre.holds [] {args:=args}=true:=(pre_splitW hpre).2
 obtain ⟨d,r,rfl,h1,h2⟩:=hasAllW_cons hsh
 obtain rfl:=hasAllW_nil h2
 obtain ⟨xs,rfl,h3⟩:=hasW_list h1
 obtain ⟨ns,rfl⟩:=items_int h3
 have hlen:ns.length≤n:=by
  unfold OpenLaw.pre at hc
  have h4:(WTm.not (.lt (.lit (.int (n:Int))) (.len (.arg 0)))).holds [] {args:=[.list (ns.map .int)]}=true:=by
   have h4:=(holds_andW hc).1
   rw [hn] at h4
   exact h4
  have h5:=condW_of h4 (w_not (w_lt w_lit (w_len_list (w_arg rfl))))
  rw [Cm] at h5
  refine Hx fun q=>?_
  have q':(n:Int)<((ns.length:Nat):Int):=by omega
  first
   |(rw [decide_eq_true q'] at h5;exact absurd h5 (by decide))
   |(simp at h5;omega)
 cases hwl with
 |cons w1 w2=>
  cases w2
  cases w1 with
  |list ho hall=>exact ⟨_,_,ns,rfl,rfl,ho,VL ns _ hall,hlen⟩
theorem VN (l:OpenLaw) (args:List WData):l.row.toRowW.claim.post args (.bool true) args=true:=
 postW_of (r:=l.row.toRowW) (X:=(true==true))
  (show WShape.has [] (.bool true) .bool=true by first |rfl |decide |simp [WShape.has,WShape.arms,WShape.armsAll])
  (show (WTm.eq .res (.lit (.bool true))).value [] {args:=args,res:=some (.bool true),after:=args}=some (.bool (true==true)) from w_eq_bool (w_res rfl) w_lit) rfl
section
variable {prog:Program} {w:World} {A:Around} {E:Value→Shared→Prop} {s:Shared} {K:Frag}
end
end Att
namespace L2
open PySem PySem.Spec PyProof.Rows
theorem vals_ints:∀{vs:List Value} {ns:List Int},IntsAre vs ns→Vals (ns.map V.int) vs
 |_,_,.nil=>.nil
 |_,_,.cons n t h=>.cons ⟨t,rfl⟩ (vals_ints h)
def defArgs (s:Stmt):Arguments:=match s with
 |.FunctionDef _ a _ _ _ _ _ _ _ _=>a
 |_=>{posonlyargs:=[],args:=[],vararg:=none,kwonlyargs:=[],kw_defaults:=[],kwarg:=none,defaults:=[]}
def defBody (s:Stmt):List Stmt:=match s with
 |.FunctionDef _ _ b _ _ _ _ _ _ _=>b
 |_=>[]
def defScope (s:Stmt):Scope:=match s with
 |.FunctionDef _ _ _ _ _ _ sc _ _ _=>sc
 |_=>{kind:=.function,names:=[],isGenerator:=false,isCoroutine:=false}
abbrev PP:Ea:=fun _ _ _ _ _ _=>False
abbrev E0:XK:=fun _ _ _=>False
inductive PQ (K:PySem.W.Frag) (x qual:Str) (st:Stmt) (f:Addr) (fd:FuncData):Prop where
 |mk (oc:Value) (od:Option Addr) (kV doc pm:Value) (an:Option Addr) (cdv ct:Value) (osl:Array (Option Value)) (f1:fd=PySem.W.fnOf x qual (defArgs st) (defBody st) (defScope st) .none kV doc pm an cdv ct) (f2:K.lookup f=some ⟨oc,od,.func fd,osl⟩) (f3:PySem.W.codeIn K cdv qual=true):PQ K x qual st f fd
structure Fun (K:PySem.W.Frag) (x qual:Str) (st:Stmt) (f:Addr) (fd:FuncData):Prop where
 ex:PQ K x qual st f fd
 kp:PySem.W.keepIn K (.ref f)=true
section
variable {P:Program} {w:World} {K:PySem.W.Frag} {mg:Str→Option Value} {base:Heap}
theorem Fun.binds {x qual:Str} {st:Stmt} {f:Addr} {fd:FuncData} {ps:List Str} (F:Fun K x qual st f fd)
 (h:∀(kV doc pm:Value) (an:Option Addr) (cdv ct:Value) (us:List Value),us.length=ps.length→bindArgs (PySem.W.fnOf x qual (defArgs st) (defBody st) (defScope st) .none kV doc pm an cdv ct) ⟨us,[]⟩=pure (ps.zip us)):Binds K fd ps []:=by
 obtain ⟨oc,od,kV,doc,pm,an,cdv,ct,osl,rfl,lk,hcd⟩:=F.ex
 exact .all (h kV doc pm an cdv ct)
theorem FY {x qual:Str} {st:Stmt} {f:Addr} {oc:Value} {od an:Option Addr} {osl:Array (Option Value)} {kV doc pm cdv ct:Value} (l:K.lookup f=some ⟨oc,od,.func (PySem.W.fnOf x qual (defArgs st) (defBody st) (defScope st) .none kV doc pm an cdv ct),osl⟩)
 (c:PySem.W.codeIn K cdv qual=true) (k:PySem.W.keepIn K (.ref f)=true):Fun K x qual st f (PySem.W.fnOf x qual (defArgs st) (defBody st) (defScope st) .none kV doc pm an cdv ct):=⟨⟨oc,od,kV,doc,pm,an,cdv,ct,osl,rfl,l,c⟩,k⟩
end
section
variable {X:Cx}
theorem pv (i:Nat) {x:Str} {pos:Pos} (hN:X.N[i]?=some x:=by rfl) (hv:D8 X.env.scope x:=by first |exact Or.inl rfl |exact Or.inr (Or.inl rfl) |exact Or.inr (Or.inr rfl)) (hd:(x==("__debug__":Str))=false:=by decide)
 (hcd:(x==("__classdict__":Str))=false:=by decide):PE X (.Name x pos) (Ms i):=Gz hN hv hd hcd
end
end L2
namespace LS
open PySem PySem.Spec PyProof.Rows L2
inductive D where
 |non |bl (b:Bool) |int (i:Int) |str (x:Str) |tup (ds:List D) |loc (l:Nat) |scr (ns:List Int) |adr (a:Addr) |ty (n:String) |exc (n:Str) (fs:List (Str×Int)) |edic |glo (n:Str) |clo (a:Addr) (vs:List V) (ds:List D)
inductive Cell where
 |lst (ds:List D) |tab
abbrev HD:=List Cell
abbrev Ah:=List (Option D)
inductive Out (α:Type) where
 |ok (a:α) (h:HD) |err (C:Value) (fs:List (Str×D)) (h:HD) |stuck
def Out.bind {α β:Type} (o:Out α) (k:α→HD→Out β):Out β:=match o with
 |.ok a h=>k a h
 |.err C fs h=>.err C fs h
 |.stuck=>.stuck
@[simp] theorem Out.bind_ok {α β:Type} (a:α) (h:HD) (k:α→HD→Out β):(Out.ok a h).bind k=k a h:=rfl
@[simp] theorem Out.bind_err {α β:Type} (C:Value) (fs:List (Str×D)) (h:HD) (k:α→HD→Out β):(Out.err C fs h:Out α).bind k=.err C fs h:=rfl
@[simp] theorem Out.bind_stuck {α β:Type} (k:α→HD→Out β):(Out.stuck:Out α).bind k=.stuck:=rfl
def MR:HO→Bool
 |.tup _=>true
 |.frz _ _=>true
 |.ext _=>true
 |.xd _=>true
 |_=>false
def Kp (H H':Hp):Prop:=∀b o,H b=some o→MR o=true→H' b=some o
theorem Kp.refl (H:Hp):Kp H H:=fun _ _ e _=>e
theorem Kp.trans {H H1 H2:Hp} (a:Kp H H1) (b:Kp H1 H2):Kp H H2:=fun c o e i=>b c o (a c o e i) i
theorem Kp.new {H:Hp} {p:Addr} {o:HO} (h:H p=none):Kp H (Ak H p o):=fun b u e _=>by rw [Al (BB e h)];exact e
theorem Kp.set {H:Hp} {p:Addr} {o u:HO} (h:H p=some o) (i:MR o=false):Kp H (Ak H p u):=fun b w e iw=>by
 rw [Al]
 ·exact e
 ·intro z
  rw [z,h] at e;cases e;rw [i] at iw;cases iw
def FzL (K:PySem.W.Frag) (H:Hp) (a:Addr) (xs:List V):Prop:=(∃o,H a=some (.frz o (.lst xs)))∨SqL K (fun _=>none) a xs
theorem Kp.fzL {K:PySem.W.Frag} {H H':Hp} {a:Addr} {xs:List V} (k:Kp H H') (h:FzL K H a xs):FzL K H' a xs:=by
 rcases h with ⟨o,h⟩ |h
 ·exact .inl ⟨o,k _ _ h rfl⟩
 ·exact .inr h
theorem FzL.sq {K:PySem.W.Frag} {H:Hp} {a:Addr} {xs:List V} (h:FzL K H a xs):SqL K H a xs:=by
 rcases h with ⟨o,h⟩ |(h |⟨o,h⟩) |h
 ·exact .inl (.inr ⟨o,h⟩)
 ·cases h
 ·cases h
 ·exact .inr h
def EL (C:Addr) (da:Option Addr) (a:Addr) (h:Heap):Prop:=∃o vs,h.get? a=some o∧o.cls=.ref C∧(∀d,da=some d→o.dict=some d)∧o.data=.fields vs
def PR (a:Addr) (h:Heap):Prop:=a≠sysModules∧∃o ep,h.get? a=some o∧o.ExactDict∧o.data=.dict #[] ep
mutual
def DV (K:PySem.W.Frag) (m:List Addr) (H:Hp):D→V→Prop
 |.non,v=>v=.non
 |.bl b,v=>v=.bl b
 |.int i,v=>v=.int i
 |.str x,v=>v=.str x
 |.tup ds,v=>∃a vs,v=.ref a∧H a=some (.tup vs)∧DVs K m H ds vs
 |.loc l,v=>∃a,v=.ref a∧m[l]?=some a
 |.scr ns,v=>∃a,v=.ref a∧FzL K H a (ns.map V.int)
 |.adr a,v=>v=.ref a
 |.ty n,v=>v=.ty n
 |.exc n fs,v=>∃a C da,v=.ref a∧PySem.W.nsIn K mainGlobals n=some (some (.ref C))∧H a=some (.ext (EL C da a))∧∀f i,fs.lookup f=some i→∃d fv,da=some d∧H d=some (.xd fv)∧fv.lookup f=some (.int i)
 |.edic,v=>∃a,v=.ref a∧H a=some (.ext (PR a))
 |.glo n,v=>∃a,v=.ref a∧PySem.W.nsIn K mainGlobals n=some (some (.ref a))
 |.clo a vs ds,v=>v=.ref a∧DVs K m H ds vs
def DVs (K:PySem.W.Frag) (m:List Addr) (H:Hp):List D→List V→Prop
 |[],vs=>vs=[]
 |d::ds,vs=>∃v r,vs=v::r∧DV K m H d v∧DVs K m H ds r
end
section
variable {K:PySem.W.Frag} {m m':List Addr} {H H':Hp}
theorem HH {l:Nat} {a:Addr} (p:m <+:m') (h:m[l]?=some a):m'[l]?=some a:=by
 obtain ⟨t,rfl⟩:=p
 have hl:l<m.length:=(qa5.mp h).1
 rw [FP hl];exact h
mutual
theorem DV.keep (p:m <+:m') (k:Kp H H'):∀{d:D} {v:V},DV K m H d v→DV K m' H' d v
 |.non,_,h=>by simpa [DV] using h
 |.bl _,_,h=>by simpa [DV] using h
 |.int _,_,h=>by simpa [DV] using h
 |.str _,_,h=>by simpa [DV] using h
 |.tup ds,_,h=>by
  simp only [DV] at h ⊢
  obtain ⟨a,vs,e,q,r⟩:=h
  exact ⟨a,vs,e,k _ _ q rfl,DVs.keep p k r⟩
 |.loc l,_,h=>by
  simp only [DV] at h ⊢
  obtain ⟨a,e,q⟩:=h
  exact ⟨a,e,HH p q⟩
 |.scr ns,_,h=>by
  simp only [DV] at h ⊢
  obtain ⟨a,e,q⟩:=h
  exact ⟨a,e,k.fzL q⟩
 |.adr _,_,h=>by simpa [DV] using h
 |.ty _,_,h=>by simpa [DV] using h
 |.exc _ _,_,h=>by
  simp only [DV] at h ⊢
  obtain ⟨a,C,da,e,q,r,t⟩:=h
  exact ⟨a,C,da,e,q,k _ _ r rfl,fun f i z=>let ⟨d,fv,z1,z2,z3⟩:=t f i z;⟨d,fv,z1,k _ _ z2 rfl,z3⟩⟩
 |.edic,_,h=>by
  simp only [DV] at h ⊢
  obtain ⟨a,e,r⟩:=h
  exact ⟨a,e,k _ _ r rfl⟩
 |.glo _,_,h=>by simpa [DV] using h
 |.clo _ _ ds,_,h=>by
  simp only [DV] at h ⊢
  exact ⟨h.1,DVs.keep p k h.2⟩
theorem DVs.keep (p:m <+:m') (k:Kp H H'):∀{ds:List D} {vs:List V},DVs K m H ds vs→DVs K m' H' ds vs
 |[],_,h=>by simpa [DVs] using h
 |d::ds,_,h=>by
  simp only [DVs] at h ⊢
  obtain ⟨v,r,e,q,t⟩:=h
  exact ⟨v,r,e,DV.keep p k q,DVs.keep p k t⟩
end
theorem DVs.nil:DVs K m H [] []:=by simp [DVs]
theorem DVs.cons {d:D} {v:V} {ds:List D} {vs:List V} (h:DV K m H d v) (t:DVs K m H ds vs):DVs K m H (d::ds) (v::vs):=by
 simp only [DVs];exact ⟨v,vs,rfl,h,t⟩
theorem DVs.len:∀{ds:List D} {vs:List V},DVs K m H ds vs→ds.length=vs.length
 |[],_,h=>by simp only [DVs] at h;subst h;rfl
 |d::ds,_,h=>by
  simp only [DVs] at h
  obtain ⟨v,r,e,_,t⟩:=h
  subst e
  simp [DVs.len t]
theorem DVs.get:∀{ds:List D} {vs:List V} {i:Nat} {d:D},DVs K m H ds vs→ds[i]?=some d→∃v,vs[i]?=some v∧DV K m H d v
 |[],_,_,_,_,e=>by simp at e
 |d::ds,_,i,x,h,e=>by
  simp only [DVs] at h
  obtain ⟨v,r,rfl,q,t⟩:=h
  cases i with
  |zero=>simp at e;subst e;exact ⟨v,rfl,q⟩
  |succ i=>
   obtain ⟨w,h1,h2⟩:=DVs.get (i:=i) t (by simpa using e)
   exact ⟨w,by simpa using h1,h2⟩
theorem DVs.app:∀{ds es:List D} {vs ws:List V},DVs K m H ds vs→DVs K m H es ws→DVs K m H (ds++es) (vs++ws)
 |[],_,_,_,h,t=>by simp only [DVs] at h;subst h;exact t
 |d::ds,_,_,_,h,t=>by
  simp only [DVs] at h
  obtain ⟨v,r,rfl,q,u⟩:=h
  exact .cons q (DVs.app u t)
theorem DVs.set:∀{ds:List D} {vs:List V} {d:D} {v:V} (i:Nat),DVs K m H ds vs→DV K m H d v→DVs K m H (ds.set i d) (vs.set i v)
 |[],_,_,_,_,h,_=>by simp only [DVs] at h;subst h;exact .nil
 |d::ds,_,_,_,i,h,q'=>by
  simp only [DVs] at h
  obtain ⟨v,r,rfl,q,u⟩:=h
  cases i with
  |zero=>exact .cons q' u
  |succ i=>exact .cons q (DVs.set i u q')
theorem DVs.take:∀{ds:List D} {vs:List V} (n:Nat),DVs K m H ds vs→DVs K m H (ds.take n) (vs.take n)
 |_,_,0,_=>by simpa using (DVs.nil:DVs K m H [] [])
 |[],_,n+1,h=>by simp only [DVs] at h;subst h;exact .nil
 |d::ds,_,n+1,h=>by
  simp only [DVs] at h
  obtain ⟨v,r,rfl,q,u⟩:=h
  exact .cons q (DVs.take n u)
theorem DVs.drop:∀{ds:List D} {vs:List V} (n:Nat),DVs K m H ds vs→DVs K m H (ds.drop n) (vs.drop n)
 |_,_,0,h=>by simpa using h
 |[],_,n+1,h=>by simp only [DVs] at h;subst h;exact .nil
 |d::ds,_,n+1,h=>by
  simp only [DVs] at h
  obtain ⟨v,r,rfl,q,u⟩:=h
  simpa using DVs.drop n u
theorem DVs.rep {ds:List D} {vs:List V} (h:DVs K m H ds vs):∀n,DVs K m H (List.replicate n ds).flatten (List.replicate n vs).flatten
 |0=>by simpa using (DVs.nil:DVs K m H [] [])
 |n+1=>by
  rw [Gx,Hv,Gx,Hv]
  exact h.app (DVs.rep h n)
def HI (q:Str) (c:Addr) (h:Heap):Prop:=h.CodeRec (.ref c) q
def tabP (K:PySem.W.Frag):Option (Addr×Addr):=match PySem.W.nsIn K mainGlobals "law" with
 |some (some (.ref f))=>(match K.lookup f with
  |some ⟨_,_,.func fd,_⟩=>(match fd.code with
   |.ref c=>(match K.lookup c with
    |some ⟨_,_,.fields vs,_⟩=>(match (vs[11]?:Option Value) with
     |some (.ref P)=>some (c,P)
     |_=>none)
    |_=>none)
   |_=>none)
  |_=>none)
 |_=>none
def TabIs (K:PySem.W.Frag) (H:Hp) (a:Addr):Prop:=(∃c,tabP K=some (c,a))∧∃ps,H a=some (.tbl ps)∧TriplesOk ps.toList∧∀pos cv,codeAmong pos ps.toList=some cv→∃c,cv=.ref c∧H c=some (.ext (HI "law.<locals>.<lambda>" c))
theorem TabIs.keep {K:PySem.W.Frag} {H H':Hp} {a:Addr} (t:TabIs K H a) (k:Kp H H') (e:H' a=H a):TabIs K H' a:=by
 obtain ⟨z,ps,h1,h2,h3⟩:=t
 exact ⟨z,ps,e.trans h1,h2,fun pos cv q=>let ⟨c,q1,q2⟩:=h3 pos cv q;⟨c,q1,k _ _ q2 rfl⟩⟩
def KB (K:PySem.W.Frag) (m:List Addr) (H:Hp):Cell→Addr→Prop
 |.lst ds,a=>∃vs,H a=some (.lst vs)∧DVs K m H ds vs
 |.tab,a=>TabIs K H a
structure HR (K:PySem.W.Frag) (m:List Addr) (h:HD) (H:Hp):Prop where
 len:m.length=h.length
 nd:m.Nodup
 cells:∀(l:Nat) (c:Cell) (a:Addr),h[l]?=some c→m[l]?=some a→KB K m H c a
theorem HR.at {h:HD} {l:Nat} {c:Cell} (r:HR K m h H) (e:h[l]?=some c):∃a,m[l]?=some a∧KB K m H c a:=by
 have hl:l<h.length:=(qa5.mp e).1
 have:l<m.length:=by rw [r.len];exact hl
 exact ⟨m[l],Bb this,r.cells l c _ e (Bb this)⟩
theorem HR.mem {h:HD} {a:Addr} (r:HR K m h H) (ha:a∈m):H a≠none:=by
 obtain ⟨l,hl,rfl⟩:=IT ha
 have hl':l<h.length:=by rw [←r.len];exact hl
 have:=r.cells l h[l] m[l] (Bb hl') (Bb hl)
 cases hc:h[l] with
 |lst ds=>
  rw [hc] at this
  obtain ⟨vs,e,_⟩:=this
  rw [e];simp
 |tab=>
  rw [hc] at this
  obtain ⟨_,ps,e,_⟩:=this
  rw [e];simp
theorem HR.same {h:HD} (r:HR K m h H) (k:Kp H H') (s:∀a∈m,H' a=H a):HR K m h H':=by
 refine ⟨r.len,r.nd,fun l c a e q=>?_⟩
 have hm:a∈m:=Gw q
 have:=r.cells l c a e q
 cases c with
 |lst ds=>
  obtain ⟨vs,e1,e2⟩:=this
  exact ⟨vs,by rw [s a hm];exact e1,e2.keep (AH _) k⟩
 |tab=>exact TabIs.keep this k (s a hm)
theorem HR.new {h:HD} {p:Addr} {o:HO} (r:HR K m h H) (hp:H p=none):HR K m h (Ak H p o):=
 r.same (.new hp) fun a ha=>Al fun z=>r.mem ha (z ▸ hp)
theorem HR.newCell {h:HD} {p:Addr} {o:HO} {c:Cell} (r:HR K m h H) (hp:H p=none) (hc:KB K (m++[p]) (Ak H p o) c p):HR K (m++[p]) (h++[c]) (Ak H p o):=by
 have hpm:p∉m:=fun z=>r.mem z hp
 refine ⟨by simp [r.len],?_,fun l c' a e q=>?_⟩
 ·rw [List.nodup_append]
  refine ⟨r.nd,by simp,fun a ha b hb=>?_⟩
  rw [qaD] at hb
  subst hb
  intro z;subst z;exact hpm ha
 ·by_cases hl:l<m.length
  ·rw [FP hl] at q
   rw [FP (by rw [←r.len];exact hl)] at e
   have:=r.cells l c' a e q
   have hne:a≠p:=fun z=>hpm (z ▸ Gw q)
   cases c' with
   |lst ds=>
    obtain ⟨vs,e1,e2⟩:=this
    exact ⟨vs,by rw [Al hne];exact e1,e2.keep (List.prefix_append _ _) (.new hp)⟩
   |tab=>exact TabIs.keep this (.new hp) (Al hne)
  ·have h1:m.length≤l:=Hx hl
   rw [IQ h1] at q
   rw [IQ (by rw [←r.len];exact h1)] at e
   have e0:l - m.length=0:=by
    cases hz:l - m.length with
    |zero=>rfl
    |succ n=>rw [hz] at q;simp at q
   rw [←r.len] at e
   rw [e0] at q e
   simp at q e
   subst q e
   exact hc
theorem HR.setCell {h:HD} {p:Addr} {l:Nat} {o u:HO} {c:Cell} (r:HR K m h H) (hl:m[l]?=some p) (ho:H p=some o) (i:MR o=false) (hc:KB K m (Ak H p u) c p):HR K m (h.set l c) (Ak H p u):=by
 refine ⟨by simp [r.len],r.nd,fun j c' a e q=>?_⟩
 by_cases hj:j=l
 ·subst hj
  rw [hl] at q;cases q
  have hlt:j<h.length:=by rw [←r.len];exact (qa5.mp hl).1
  rw [CF hlt] at e
  cases e
  exact hc
 ·rw [BU (Ne.symm hj)] at e
  have:=r.cells j c' a e q
  have hne:a≠p:=by
   intro z
   subst z
   obtain ⟨h1,e1⟩:=qa5.mp q
   obtain ⟨h2,e2⟩:=qa5.mp hl
   exact hj ((List.getElem_inj r.nd).mp (e1.trans e2.symm))
  cases c' with
  |lst ds=>
   obtain ⟨vs,e1,e2⟩:=this
   exact ⟨vs,by rw [Al hne];exact e1,e2.keep (AH _) (.set ho i)⟩
  |tab=>exact TabIs.keep this (.set ho i) (Al hne)
def ER (K:PySem.W.Frag) (m:List Addr) (H:Hp) (ρ:Ah) (σ:L2.St):Prop:=ρ.length=σ.length∧∀(i:Nat) (d:D),ρ[i]?=some (some d)→∃v,σ[i]?=some (some v)∧DV K m H d v
theorem ER.keep {ρ:Ah} {σ:L2.St} (p:m <+:m') (k:Kp H H') (e:ER K m H ρ σ):ER K m' H' ρ σ:=⟨e.1,fun i d h=>let ⟨v,a,b⟩:=e.2 i d h;⟨v,a,b.keep p k⟩⟩
theorem ER.set {ρ:Ah} {σ:L2.St} {i:Nat} {d:D} {v:V} (e:ER K m H ρ σ) (r:DV K m H d v):ER K m H (ρ.set i (some d)) (σ.set i (some v)):=by
 refine ⟨by simp [e.1],fun j d' h=>?_⟩
 by_cases hj:i=j
 ·subst hj
  by_cases hl:i < ρ.length
  ·rw [CF hl] at h
   cases h
   exact ⟨v,by rw [CF (by rw [←e.1];exact hl)],r⟩
  ·rw [List.getElem?_eq_none (by simp;omega)] at h;cases h
 ·rw [BU hj] at h
  obtain ⟨w,a,b⟩:=e.2 j d' h
  exact ⟨w,by rw [BU hj];exact a,b⟩
theorem ER.start {N:List Str} {ds:List D} {vs:List V} (h:DVs K m H ds vs):ER K m H (ds.map some++List.replicate (N.length - ds.length) none) (L2.start N vs):=by
 refine ⟨by simp [L2.start,h.len],fun i d e=>?_⟩
 by_cases hl:i<ds.length
 ·rw [FP (by simpa using hl),Ca] at e
  obtain ⟨d',e1⟩:∃d',ds[i]?=some d':=⟨ds[i],Bb hl⟩
  rw [e1] at e
  simp at e
  subst e
  obtain ⟨v,q,r⟩:=h.get e1
  refine ⟨v,?_,r⟩
  unfold L2.start
  rw [FP (by simpa [←h.len] using hl),Ca,q]
  rfl
 ·rw [IQ (by simpa using Hx hl)] at e
  rw [Mn] at e
  split at e<;>cases e
def XD (K:PySem.W.Frag) (m:List Addr) (H:Hp) (fs:List (Str×D)) (da:Option Addr):Prop:=
 ∀f d,fs.lookup f=some d→∃a fv v,da=some a∧H a=some (.xd fv)∧fv.lookup f=some v∧DV K m H d v
def Post {α β:Type} (K:PySem.W.Frag) (R:List Addr→Hp→α→β→Prop) (m:List Addr) (H:Hp) (E:XK) (Q:β→Hp→Prop):Out α→Prop
 |.ok a h'=>∀v m' H',m <+:m'→Kp H H'→HR K m' h' H'→R m' H' a v→Q v H'
 |.err C fs h'=>∀da m' H',m <+:m'→Kp H H'→HR K m' h' H'→XD K m' H' fs da→E C da H'
 |.stuck=>False
theorem Post.ahead {α β:Type} {R:List Addr→Hp→α→β→Prop} {E:XK} {Q:β→Hp→Prop} {o:Out α} (p:m <+:m') (k:Kp H H') (h:Post K R m H E Q o):Post K R m' H' E Q o:=by
 cases o with
 |ok a h'=>exact fun v m2 H2 p2 k2=>h v m2 H2 (p.trans p2) (k.trans k2)
 |err C fs h'=>exact fun da m2 H2 p2 k2=>h da m2 H2 (p.trans p2) (k.trans k2)
 |stuck=>exact h
theorem Post.bind {α β γ δ:Type} {R:List Addr→Hp→α→β→Prop} {R':List Addr→Hp→γ→δ→Prop} {E:XK} {Q:δ→Hp→Prop} {Q':β→Hp→Prop} {o:Out α} {k:α→HD→Out γ}
 (h:Post K R' m H E Q (o.bind k)) (f:∀a h1 v m1 H1,o=.ok a h1→m <+:m1→Kp H H1→HR K m1 h1 H1→R m1 H1 a v→Post K R' m1 H1 E Q (k a h1)→Q' v H1):Post K R m H E Q' o:=by
 cases o with
 |ok a h1=>exact fun v m1 H1 p kk hr r=>f a h1 v m1 H1 rfl p kk hr r (h.ahead p kk)
 |err C fs h1=>exact h
 |stuck=>exact h
theorem Post.mono {α β:Type} {R:List Addr→Hp→α→β→Prop} {E:XK} {Q Q':β→Hp→Prop} {o:Out α} (h:Post K R m H E Q o) (f:∀v H',Q v H'→Q' v H'):Post K R m H E Q' o:=by
 cases o with
 |ok a h1=>exact fun v m1 H1 p k hr r=>f _ _ (h v m1 H1 p k hr r)
 |err C fs h1=>exact h
 |stuck=>exact h
end
abbrev ME:=Ah→HD→Out D
abbrev MT:=Ah→HD→Out Bool
abbrev MA:=Ah→HD→Out (List D)
inductive Fl where
 |nx |bk |ct |rt (d:D)
abbrev MS:=Ah→HD→Out (Fl×Ah)
def rD (K:PySem.W.Frag):List Addr→Hp→D→V→Prop:=fun m H d v=>DV K m H d v
def rB:List Addr→Hp→Bool→Bool→Prop:=fun _ _ a b=>a=b
def DP (K:PySem.W.Frag):List Addr→Hp→List D→List V→Prop:=fun m H d v=>DVs K m H d v
inductive tM {α β:Type} (K:PySem.W.Frag) (R:List Addr→Hp→α→β→Prop) (E:XK) (f:Ah→HD→Out α) (σ:L2.St) (H:Hp) (Q:β→Hp→Prop):Prop where
 |mk (m:List Addr) (ρ:Ah) (h:HD) (hr:HR K m h H) (er:ER K m H ρ σ) (p:Post K R m H E Q (f ρ h)):tM K R E f σ H Q
abbrev tD (K:PySem.W.Frag) (E:XK) (f:ME):TE:=tM K (rD K) E f
abbrev EN (K:PySem.W.Frag) (E:XK) (f:MT):TT:=tM K rB E f
abbrev PU (K:PySem.W.Frag) (E:XK) (f:MA):TA:=tM K (DP K) E f
def PV (K:PySem.W.Frag) (m:List Addr) (H:Hp) (D:DM):Fl×Ah→Prop
 |(.nx,ρ)=>∀σ,ER K m H ρ σ→D.nx σ H
 |(.bk,ρ)=>∀σ,ER K m H ρ σ→D.bk σ H
 |(.ct,ρ)=>∀σ,ER K m H ρ σ→D.ct σ H
 |(.rt d,_)=>∀v,DV K m H d v→D.rt v H
def PostS (K:PySem.W.Frag) (m:List Addr) (H:Hp) (E:XK) (D:DM):Out (Fl×Ah)→Prop
 |.ok a h'=>∀m' H',m <+:m'→Kp H H'→HR K m' h' H'→PV K m' H' D a
 |.err C fs h'=>∀da m' H',m <+:m'→Kp H H'→HR K m' h' H'→XD K m' H' fs da→E C da H'
 |.stuck=>False
inductive HJ (K:PySem.W.Frag) (E:XK) (g:MS) (D:DM) (σ:L2.St) (H:Hp):Prop where
 |mk (m:List Addr) (ρ:Ah) (h:HD) (hr:HR K m h H) (er:ER K m H ρ σ) (p:PostS K m H E D (g ρ h)):HJ K E g D σ H
theorem PostS.ahead {K:PySem.W.Frag} {m m':List Addr} {H H':Hp} {E:XK} {D:DM} {o:Out (Fl×Ah)} (p:m <+:m') (k:Kp H H') (h:PostS K m H E D o):PostS K m' H' E D o:=by
 cases o with
 |ok a h'=>exact fun m2 H2 p2 k2=>h m2 H2 (p.trans p2) (k.trans k2)
 |err C fs h'=>exact fun da m2 H2 p2 k2=>h da m2 H2 (p.trans p2) (k.trans k2)
 |stuck=>exact h
abbrev Ev (X:Cx) (E:XK) (e:Expr) (f:ME):Prop:=PE X e (tD X.K E f)
abbrev EO (X:Cx) (E:XK) (e:Expr) (f:MT):Prop:=PT X e (EN X.K E f)
abbrev Cb (X:Cx) (E:XK) (es:List Expr) (f:MA):Prop:=PA X es (PU X.K E f)
abbrev Ex (X:Cx) (E:XK) (st:Stmt) (g:MS):Prop:=PS X st (HJ X.K E g)
abbrev AQ (X:Cx) (E:XK) (sts:List Stmt) (g:MS):Prop:=D9 X sts (HJ X.K E g)
section
variable {X:Cx}
theorem B3 {e:Expr} {t t':TE} (h:PE X e t) (i:∀σ H Q,t' σ H Q→t σ H Q):PE X e t':=fun pins s σ H Q I q=>h pins s σ H Q I (i σ H Q q)
theorem MU {e:Expr} {t t':TT} (h:PT X e t) (i:∀σ H Q,t' σ H Q→t σ H Q):PT X e t':=fun pins s σ H Q I q=>h pins s σ H Q I (i σ H Q q)
theorem PX {e:List Expr} {t t':TA} (h:PA X e t) (i:∀σ H Q,t' σ H Q→t σ H Q):PA X e t':=fun pos pins s σ H Q I q=>h pos pins s σ H Q I (i σ H Q q)
theorem GF {e:Stmt} {t t':TS} (h:PS X e t) (i:∀D σ H,t' D σ H→t D σ H):PS X e t':=fun pins s σ H D I q=>h pins s σ H D I (i D σ H q)
theorem PY {e:List Stmt} {t t':TS} (h:D9 X e t) (i:∀D σ H,t' D σ H→t D σ H):D9 X e t':=fun pins s σ H D I q=>h pins s σ H D I (i D σ H q)
end
end LS
namespace LS
open PySem PySem.Spec PyProof.Rows L2
section
variable {X:Cx} {E:XK} {a b c:Expr} {pos:Pos} {f g k:ME}
def Ab (i:Nat):ME:=fun ρ h=>match ρ[i]? with
 |some (some d)=>.ok d h
 |_=>.stuck
theorem Ae {i:Nat} (h:PE X a (Ms i)):Ev X E a (Ab i):=B3 h fun σ H Q z1_=>by
 obtain ⟨m,ρ,hd,hr,er,p⟩:=z1_
 unfold Ab at p
 split at p
 ·rename_i d e
  obtain ⟨v,e1,r⟩:=er.2 i d e
  exact ⟨v,e1,p v m H (AH _) (.refl _) hr r⟩
 ·exact p.elim
def mC (d:D):ME:=fun _ h=>.ok d h
theorem HK {d:D} {v:V} (h:PE X a (tC v)) (r:∀m H,DV X.K m H d v):Ev X E a (mC d):=B3 h fun σ H Q z2_=>by obtain ⟨m,ρ,hd,hr,er,p⟩:=z2_;exact (p v m H (AH _) (.refl _) hr (r m H))
theorem Ap {i:Int} {j:Nat}:Ev X E (.Constant (.int i) j pos) (mC (.int i)):=HK T9 fun _ _=>by simp [DV]
theorem Ec {i:Bool} {j:Nat}:Ev X E (.Constant (.bool i) j pos) (mC (.bl i)):=HK Ua fun _ _=>by simp [DV]
theorem PZ {j:Nat}:Ev X E (.Constant .none j pos) (mC .non):=HK Ub fun _ _=>by simp [DV]
theorem Cd {x:Str} {j:Nat}:Ev X E (.Constant (.str x) j pos) (mC (.str x)):=HK Uc fun _ _=>by simp [DV]
theorem Je {x:Str} {i:Int} {t:Tok} {pos:Pos} (hg:Gl X x) (hm:X.mg x=some (.int i t)) (hd:(x==("__debug__":Str))=false:=by decide):Ev X E (.Name x pos) (mC (.int i)):=
 HK (Ud (v:=.int i) hg hm ⟨t,rfl⟩ hd) fun _ _=>by simp [DV]
def Ai (op:D→D→HD→Out D) (f g:ME):ME:=fun ρ h=>(f ρ h).bind fun x h1=>(g ρ h1).bind fun y h2=>op x y h2
theorem KC {op:D→D→HD→Out D} {Q:VK} {R:V→V→Hp→Prop} {σ:L2.St} {H:Hp} (h:tD X.K E (Ai op f g) σ H Q)
 (i:∀m H2 h2 x y v u,HR X.K m h2 H2→DV X.K m H2 x v→DV X.K m H2 y u→Post X.K (rD X.K) m H2 E Q (op x y h2)→R v u H2):tD X.K E f σ H fun v H1=>tD X.K E g σ H1 fun u H2=>R v u H2:=by
 obtain ⟨m,ρ,hd,hr,er,p⟩:=h
 refine ⟨m,ρ,hd,hr,er,Post.bind p fun x h1 v m1 H1 _ p1 k1 hr1 r1 q1=>?_⟩
 refine ⟨m1,ρ,h1,hr1,er.keep p1 k1,Post.bind q1 fun y h2 u m2 H2 _ p2 k2 hr2 r2 q2=>?_⟩
 exact i m2 H2 h2 x y v u hr2 (DV.keep p2 k2 r1) r2 q2
def BO (X:Cx) (f:Value→Value→Sem Value) (op:D→D→HD→Out D):Prop:=
 ∃r:R2,OpR X f r∧∀m H h E x y v u Q,HR X.K m h H→DV X.K m H x v→DV X.K m H y u→Post X.K (rD X.K) m H E Q (op x y h)→r v u H Q
theorem Ay {o:Operator} {op:D→D→HD→Out D} (ho:BO X (binaryOp o) op) (ha:Ev X E a f) (hb:Ev X E b g):Ev X E (.BinOp a o b pos) (Ai op f g):=by
 obtain ⟨r,ho,i⟩:=ho
 exact B3 (UQ ho ha hb) fun σ H Q h=>KC h fun m H2 h2 x y v u hr rx ry q=>i m H2 h2 E x y v u Q hr rx ry q
theorem VO {o:CmpOp} {op:D→D→HD→Out D} (ho:BO X (compareOp o) op) (ha:Ev X E a f) (hb:Ev X E b g) (hm:behindInMarks o b=false):Ev X E (.Compare a [o] [b] pos) (Ai op f g):=by
 obtain ⟨r,ho,i⟩:=ho
 exact B3 (U4 ho ha hb hm) fun σ H Q h=>KC h fun m H2 h2 x y v u hr rx ry q=>i m H2 h2 E x y v u Q hr rx ry q
def Jf:D→HD→Out Bool
 |.bl b,h=>.ok b h
 |_,_=>.stuck
def Bu (f:ME):MT:=fun ρ h=>(f ρ h).bind Jf
theorem VP {m:List Addr} {H:Hp} {x:D} {v:V} {h:HD} {Q:Bool→Hp→Prop} (hr:HR X.K m h H) (r:DV X.K m H x v) (q:Post X.K rB m H E Q (Jf x h)):∃k,v=.bl k∧Q k H:=by
 cases x with
 |bl b=>
  simp only [DV] at r
  exact ⟨b,r,q b m H (AH _) (.refl _) hr rfl⟩
 |_=>exact q.elim
theorem Dp {o:CmpOp} {op:D→D→HD→Out D} (ho:BO X (compareOp o) op) (ha:Ev X E a f) (hb:Ev X E b g) (hm:behindInMarks o b=false):EO X E (.Compare a [o] [b] pos) (Bu (Ai op f g)):=by
 obtain ⟨r,ho,i⟩:=ho
 refine MU (U6 ho ha hb hm) fun σ H Q h=>?_
 obtain ⟨m,ρ,hd,hr,er,p⟩:=h
 have h':tD X.K E (Ai op f g) σ H fun x H'=>∃k,x=.bl k∧Q k H':=
  ⟨m,ρ,hd,hr,er,Post.bind p fun x h1 v m1 H1 _ p1 k1 hr1 r1 q1=>VP hr1 r1 q1⟩
 exact KC h' fun m H2 h2 x y v u hr rx ry q=>i m H2 h2 E x y v u _ hr rx ry q
def ES:D→HD→Out Bool
 |.non,h=>.ok false h
 |.bl b,h=>.ok b h
 |.int i,h=>.ok (i != 0) h
 |.tup ds,h=>.ok (!ds.isEmpty) h
 |.loc l,h=>match h[l]? with
  |some (.lst ds)=>.ok (!ds.isEmpty) h
  |_=>.stuck
 |_,_=>.stuck
def Ed (f:ME):MT:=fun ρ h=>(f ρ h).bind ES
theorem P0 {α β:Type} {xs:List α} {ys:List β} (h:xs.length=ys.length):xs.isEmpty=ys.isEmpty:=by
 cases xs<;>cases ys<;>simp_all
theorem VQ {m:List Addr} {H:Hp} {x:D} {v:V} {h:HD} {Q:Bool→Hp→Prop} (hr:HR X.K m h H) (r:DV X.K m H x v) (q:Post X.K rB m H E Q (ES x h)):∃k,MD X.K v H k∧Q k H:=by
 have go:∀k,ES x h=.ok k h→Q k H:=fun k e=>by rw [e] at q;exact q k m H (AH _) (.refl _) hr rfl
 cases x with
 |non=>simp only [DV] at r;subst r;exact ⟨false,rfl,go _ rfl⟩
 |bl b=>simp only [DV] at r;subst r;exact ⟨b,rfl,go _ rfl⟩
 |int i=>simp only [DV] at r;subst r;exact ⟨_,rfl,go _ rfl⟩
 |str x=>exact q.elim
 |tup ds=>
  simp only [DV] at r
  obtain ⟨p,vs,rfl,hp,dv⟩:=r
  exact ⟨_,.inr ⟨vs,SqT.of hp,rfl⟩,by rw [←P0 dv.len];exact go _ rfl⟩
 |loc l=>
  simp only [DV] at r
  obtain ⟨p,rfl,hp⟩:=r
  simp only [ES] at q
  split at q
  ·rename_i ds e
   obtain ⟨vs,e1,dv⟩:=hr.cells l _ p e hp
   exact ⟨_,.inl ⟨vs,SqL.of e1,rfl⟩,by rw [←P0 dv.len];exact q _ m H (AH _) (.refl _) hr rfl⟩
  ·exact q.elim
 |scr ns=>exact q.elim
 |adr a=>exact q.elim
 |ty a=>exact q.elim
 |exc n fs=>exact q.elim
 |edic=>exact q.elim
 |glo n=>exact q.elim
 |clo a vs ds=>exact q.elim
theorem HL (ha:Ev X E a f) (he:∀E9,isTrue a X.env E9=(do let v ←E9;standAt a.pos;holding [v] (truthy v)):=by intro _;rfl):EO X E a (Ed f):=
 MU (U9 ha he) fun σ H Q z3_=>by obtain ⟨m,ρ,hd,hr,er,p⟩:=z3_;exact (⟨m,ρ,hd,hr,er,Post.bind p fun x h1 v m1 H1 _ p1 k1 hr1 r1 q1=>VQ hr1 r1 q1⟩)
variable {tf tg:MT} {rest:List Expr}
def KG (f g:MT):MT:=fun ρ h=>(f ρ h).bind fun b h1=>if b=true then g ρ h1 else .ok false h1
def GG (f g:MT):MT:=fun ρ h=>(f ρ h).bind fun b h1=>if b=true then .ok true h1 else g ρ h1
def EU (f:MT):MT:=fun ρ h=>(f ρ h).bind fun b h1=>.ok (!b) h1
abbrev KH (X:Cx) (E:XK) (e:Expr) (f:MT):Prop:=PW X e (EN X.K E f)
theorem VR {e:Expr} {t t':TT} (h:PW X e t) (i:∀σ H Q,t' σ H Q→t σ H Q):PW X e t':=fun wh pins s σ H Q I q=>h wh pins s σ H Q I (i σ H Q q)
theorem P3 (ha:EO X E a tf):KH X E (.BoolOp .Or [a] pos) tf:=Ui ha
theorem P4 (ha:EO X E a tf) (hb:KH X E (.BoolOp .Or (b::rest) pos) tg):KH X E (.BoolOp .Or (a::b::rest) pos) (GG tf tg):=
 VR (Uj ha hb) fun σ H Q z5_=>by obtain ⟨m,ρ,hd,hr,er,p⟩:=z5_;exact (⟨m,ρ,hd,hr,er,Post.bind p fun x h1 v m1 H1 _ p1 k1 hr1 r1 q1=>by
  cases r1
  cases x with
  |false=>exact ⟨m1,ρ,h1,hr1,er.keep p1 k1,q1⟩
  |true=>exact q1 true m1 H1 (AH _) (.refl _) hr1 rfl⟩)
theorem P5 (h:KH X E a tf):EO X E a tf:=PW.pt h
theorem Jg (ha:EO X E a tf):EO X E (.UnaryOp .Not a pos) (EU tf):=
 MU (Uk ha) fun σ H Q z6_=>by obtain ⟨m,ρ,hd,hr,er,p⟩:=z6_;exact (⟨m,ρ,hd,hr,er,Post.bind p fun x h1 v m1 H1 _ p1 k1 hr1 r1 q1=>by
  cases r1
  exact q1 _ m1 H1 (AH _) (.refl _) hr1 rfl⟩)
def FZ (f g:ME):ME:=fun ρ h=>(f ρ h).bind fun x h1=>match x with
 |.bl true=>g ρ h1
 |.bl false=>.ok (.bl false) h1
 |_=>.stuck
def P6 (f g:ME):ME:=fun ρ h=>(f ρ h).bind fun x h1=>match x with
 |.bl true=>.ok (.bl true) h1
 |.bl false=>g ρ h1
 |_=>.stuck
def KI (f:ME):ME:=fun ρ h=>(f ρ h).bind fun x h1=>match x with
 |.bl b=>.ok (.bl (!b)) h1
 |_=>.stuck
theorem KJ {o:BoolOp} (h:Ev X E a f):Ev X E (.BoolOp o [a] pos) f:=Uo h
theorem KL (ha:Ev X E a f) (hb:Ev X E (.BoolOp .And (b::rest) pos) g):Ev X E (.BoolOp .And (a::b::rest) pos) (FZ f g):=
 B3 (Up ha hb) fun σ H Q ⟨m,ρ,hd,hr,er,p⟩=>⟨m,ρ,hd,hr,er,Post.bind p fun x h1 v m1 H1 _ p1 k1 hr1 r1 q1=>by
  cases x with
  |bl b=>
   refine ⟨b,by simpa [rD,DV] using r1,?_⟩
   cases b with
   |true=>exact ⟨m1,ρ,h1,hr1,er.keep p1 k1,q1⟩
   |false=>exact q1 _ m1 H1 (AH _) (.refl _) hr1 (by simp [rD,DV])
  |_=>exact q1.elim⟩
theorem VS (ha:Ev X E a f):Ev X E (.UnaryOp .Not a pos) (KI f):=
 B3 (Uq ha) fun σ H Q z9_=>by obtain ⟨m,ρ,hd,hr,er,p⟩:=z9_;exact (⟨m,ρ,hd,hr,er,Post.bind p fun x h1 v m1 H1 _ p1 k1 hr1 r1 q1=>by
  cases x with
  |bl b=>exact ⟨b,by simpa [rD,DV] using r1,q1 _ m1 H1 (AH _) (.refl _) hr1 (by simp [rD,DV])⟩
  |_=>exact q1.elim⟩)
def KM (t:MT) (f g:ME):ME:=fun ρ h=>(t ρ h).bind fun b h1=>if b=true then f ρ h1 else g ρ h1
theorem VT (hc:EO X E c tf) (ha:Ev X E a f) (hb:Ev X E b g):Ev X E (.IfExp c a b pos) (KM tf f g):=
 B3 (Us hc ha hb) fun σ H Q z10_=>by obtain ⟨m,ρ,hd,hr,er,p⟩:=z10_;exact (⟨m,ρ,hd,hr,er,Post.bind p fun x h1 v m1 H1 _ p1 k1 hr1 r1 q1=>by
  cases r1
  cases x with
  |true=>exact ⟨m1,ρ,h1,hr1,er.keep p1 k1,q1⟩
  |false=>exact ⟨m1,ρ,h1,hr1,er.keep p1 k1,q1⟩⟩)
def HM (op op':D→D→HD→Out D) (f g k:ME):ME:=fun ρ h=>(f ρ h).bind fun x h1=>(g ρ h1).bind fun y h2=>(op x y h2).bind fun z h3=>match z with
 |.bl true=>(k ρ h3).bind fun w h4=>op' y w h4
 |.bl false=>.ok (.bl false) h3
 |_=>.stuck
theorem VU {r r':R2} {op op':D→D→HD→Out D} {o o':Value→Value→Sem Value} (i:∀m H h E x y v u Q,HR X.K m h H→DV X.K m H x v→DV X.K m H y u→Post X.K (rD X.K) m H E Q (op x y h)→r v u H Q)
 (i':∀m H h E x y v u Q,HR X.K m h H→DV X.K m H x v→DV X.K m H y u→Post X.K (rD X.K) m H E Q (op' x y h)→r' v u H Q) {σ:L2.St} {H:Hp} {Q:VK} (h:tD X.K E (HM op op' f g k) σ H Q):
 Pr r r' (tD X.K E f) (tD X.K E g) (tD X.K E k) σ H Q:=by
 obtain ⟨m,ρ,hd,hr,er,p⟩:=h
 refine ⟨m,ρ,hd,hr,er,Post.bind p fun x h1 v m1 H1 _ p1 k1 hr1 r1 q1=>?_⟩
 refine ⟨m1,ρ,h1,hr1,er.keep p1 k1,Post.bind q1 fun y h2 u m2 H2 _ p2 k2 hr2 r2 q2=>?_⟩
 refine i m2 H2 h2 E x y v u _ hr2 (DV.keep p2 k2 r1) r2 (Post.bind q2 fun z h3 w m3 H3 _ p3 k3 hr3 r3 q3=>?_)
 cases z with
 |bl b=>
  refine ⟨b,by simpa [rD,DV] using r3,?_⟩
  cases b with
  |false=>exact q3 _ m3 H3 (AH _) (.refl _) hr3 (by simp [rD,DV])
  |true=>
   refine ⟨m3,ρ,h3,hr3,((er.keep p1 k1).keep p2 k2).keep p3 k3,Post.bind q3 fun z h4 w' m4 H4 _ p4 k4 hr4 r4 q4=>?_⟩
   exact i' m4 H4 h4 E y z u w' Q hr4 (DV.keep p4 k4 (DV.keep p3 k3 r2)) r4 q4
 |_=>exact q3.elim
theorem P7 {o o':CmpOp} {op op':D→D→HD→Out D} (ho:BO X (compareOp o) op) (ho':BO X (compareOp o') op') (ha:Ev X E a f) (hb:Ev X E b g) (hc:Ev X E c k)
 (hm:lastMarks [o,o'] [b,c]=false:=by with_unfolding_all rfl):Ev X E (.Compare a [o,o'] [b,c] pos) (HM op op' f g k):=by
 obtain ⟨r,ho,i⟩:=ho
 obtain ⟨r',ho',i'⟩:=ho'
 exact B3 (U7 ho ho' ha hb hc hm) fun σ H Q h=>VU (o:=compareOp o) (o':=compareOp o') i i' h
variable {es:List Expr} {fa:MA}
def Ac:MA:=fun _ h=>.ok [] h
def Aa (f:ME) (r:MA):MA:=fun ρ h=>(f ρ h).bind fun x h1=>(r ρ h1).bind fun xs h2=>.ok (x::xs) h2
theorem Af:Cb X E [] Ac:=PX Vh fun σ H Q z11_=>by obtain ⟨m,ρ,hd,hr,er,p⟩:=z11_;exact (p [] m H (AH _) (.refl _) hr .nil)
theorem Ad (ha:Ev X E a f) (hr:Cb X E es fa) (hs:starEach (a::es) X.env=(false,eval a X.env)::starEach es X.env:=by rfl):Cb X E (a::es) (Aa f fa):=
 PX (Vi ha hr hs) fun σ H Q z12_=>by obtain ⟨m,ρ,hd,hr,er,p⟩:=z12_;exact (⟨m,ρ,hd,hr,er,Post.bind p fun x h1 v m1 H1 _ p1 k1 hr1 r1 q1=>
  ⟨m1,ρ,h1,hr1,er.keep p1 k1,Post.bind q1 fun xs h2 vs m2 H2 _ p2 k2 hr2 r2 q2=>q2 _ m2 H2 (AH _) (.refl _) hr2 (DVs.cons (DV.keep p2 k2 r1) r2)⟩⟩)
def A1 (fa:MA):ME:=fun ρ h=>(fa ρ h).bind fun xs h1=>if xs.length≤sizeLine then .ok (.tup xs) h1 else .stuck
def CI (xs:List D) (h:HD):Out D:=if xs.length≤sizeLine then .ok (.loc h.length) (h++[.lst xs]) else .stuck
def AZ (fa:MA):ME:=fun ρ h=>(fa ρ h).bind CI
theorem Jh {m:List Addr} {H:Hp} {h:HD} {xs:List D} {vs:List V} {Q:VK} (hr:HR X.K m h H) (r:DVs X.K m H xs vs) (q:Post X.K (rD X.K) m H E Q (.ok (.tup xs) h)):∀p,H p=none→Q (.ref p) (Ak H p (.tup vs)):=fun p hp=>
 q (.ref p) m _ (AH _) (.new hp) (hr.new hp) (by simp only [rD,DV];exact ⟨p,vs,rfl,Bo,r.keep (AH _) (.new hp)⟩)
theorem HN {m:List Addr} {H:Hp} {h:HD} {xs:List D} {vs:List V} {Q:VK} (hr:HR X.K m h H) (r:DVs X.K m H xs vs) (q:Post X.K (rD X.K) m H E Q (CI xs h)):vs.length≤sizeLine∧∀p,H p=none→Q (.ref p) (Ak H p (.lst vs)):=by
 unfold CI at q
 by_cases hz:xs.length≤sizeLine
 ·rw [if_pos hz] at q
  refine ⟨by rw [←r.len];exact hz,fun p hp=>?_⟩
  refine q (.ref p) (m++[p]) _ (List.prefix_append _ _) (.new hp) (hr.newCell hp ⟨vs,Bo,r.keep (List.prefix_append _ _) (.new hp)⟩) ?_
  simp only [rD,DV]
  exact ⟨p,rfl,by rw [←hr.len];simp⟩
 ·rw [if_neg hz] at q;exact q.elim
theorem BP {x1:Nat} (h:Cb X E es fa):Ev X E (.Tuple es x1 pos) (A1 fa):=
 B3 (Vl h) fun σ H Q z13_=>by obtain ⟨m,ρ,hd,hr,er,p⟩:=z13_;exact (⟨m,ρ,hd,hr,er,Post.bind p fun xs h1 vs m1 H1 _ p1 k1 hr1 r1 q1=>by
  by_cases hz:xs.length≤sizeLine
  ·rw [if_pos hz] at q1
   exact ⟨by rw [←DVs.len r1];exact hz,Jh hr1 r1 q1⟩
  ·rw [if_neg hz] at q1;exact q1.elim⟩)
theorem BQ (h:Cb X E es fa):Ev X E (.List es pos) (AZ fa):=
 B3 (Vm h) fun σ H Q z14_=>by obtain ⟨m,ρ,hd,hr,er,p⟩:=z14_;exact (⟨m,ρ,hd,hr,er,Post.bind p fun xs h1 vs m1 H1 _ p1 k1 hr1 r1 q1=>HN hr1 r1 q1⟩)
inductive KN (K:PySem.W.Frag) (F:List D→HD→Out D) (vs:List V) (H:Hp) (Q:VK) (E:XK):Prop where
 |mk (m:List Addr) (ds:List D) (h:HD) (hr:HR K m h H) (r:DVs K m H ds vs) (p:Post K (rD K) m H E0 Q (F ds h)):KN K F vs H Q E
def Ar (n:Nat) (F:List D→HD→Out D):Prop:=∀ds h,ds.length≠n→F ds h=.stuck
theorem Ar.len {K:PySem.W.Frag} {n:Nat} {F:List D→HD→Out D} (ar:Ar n F) {vs:List V} {H:Hp} {Q:VK} {E':XK} (h:KN K F vs H Q E'):vs.length=n:=by
 obtain ⟨m,ds,hd,hr,r,p⟩:=h
 rw [←r.len]
 by_cases e:ds.length=n
 ·exact e
 ·rw [ar ds hd e] at p;exact p.elim
def ar0 (F:HD→Out D):List D→HD→Out D:=fun ds h=>match ds with
 |[]=>F h
 |_=>.stuck
def An (F:D→HD→Out D):List D→HD→Out D:=fun ds h=>match ds with
 |[a]=>F a h
 |_=>.stuck
def Bq (F:D→D→HD→Out D):List D→HD→Out D:=fun ds h=>match ds with
 |[a,b]=>F a b h
 |_=>.stuck
def VV (F:D→D→D→HD→Out D):List D→HD→Out D:=fun ds h=>match ds with
 |[a,b,c]=>F a b c h
 |_=>.stuck
def Ag (F:List D→HD→Out D) (fa:MA):ME:=fun ρ h=>(fa ρ h).bind F
def CJ (X:Cx) (f:Value) (F:List D→HD→Out D):Prop:=
 ∃r:List V→Hp→VK→Prop,Dm X f r∧∀m H h E ds vs Q,HR X.K m h H→DVs X.K m H ds vs→Post X.K (rD X.K) m H E Q (F ds h)→r vs H Q
theorem AK {id:String} {F:List D→HD→Out D} {x:Str} {p pos:Pos} {e:Expr} (hc:CJ X (.builtin id) F) (hg:Gl X x) (hm:X.mg x=none) (hv:bootBuiltins x=some (.builtin id)) (ha:Cb X E (e::es) fa) (hn:x≠"__name__":=by decide) (hdb:(x==("__debug__":Str))=false:=by decide)
 (hs:starEach (e::es) X.env=(false,eval e X.env)::starEach es X.env:=by rfl) (hpl:(backTo pos (starEach es X.env)).any (·.1)=false:=by rfl):Ev X E (.Call (.Name x p) (e::es) [] pos) (Ag F fa):=by
 obtain ⟨r,hc,i⟩:=hc
 exact B3 (Vp hc hg hm hv ha hn hdb hs hpl) fun σ H Q z17_=>by obtain ⟨m,ρ,hd,hr,er,p⟩:=z17_;exact (⟨m,ρ,hd,hr,er,Post.bind p fun xs h1 vs m1 H1 e1 p1 k1 hr1 r1 q1=>i m1 H1 h1 E xs vs Q hr1 r1 q1⟩)
theorem HP {id:String} {F:List D→HD→Out D} {x:Str} {p pos:Pos} {e:Expr} (hc:CJ X (.type id) F) (hg:Gl X x) (hm:X.mg x=none) (hv:bootBuiltins x=some (.type id)) (ha:Cb X E (e::es) fa) (hn:x≠"__name__":=by decide) (hdb:(x==("__debug__":Str))=false:=by decide)
 (hs:starEach (e::es) X.env=(false,eval e X.env)::starEach es X.env:=by rfl) (hpl:(backTo pos (starEach es X.env)).any (·.1)=false:=by rfl):Ev X E (.Call (.Name x p) (e::es) [] pos) (Ag F fa):=by
 obtain ⟨r,hc,i⟩:=hc
 exact B3 (Vq hc hg hm hv ha hn hdb hs hpl) fun σ H Q z18_=>by obtain ⟨m,ρ,hd,hr,er,p⟩:=z18_;exact (⟨m,ρ,hd,hr,er,Post.bind p fun xs h1 vs m1 H1 e1 p1 k1 hr1 r1 q1=>i m1 H1 h1 E xs vs Q hr1 r1 q1⟩)
end
section
variable {X:Cx} {E:XK}
theorem Bj {K:PySem.W.Frag} {m:List Addr} {H:Hp} {h:HD} {d:D} {v:V} {Q:VK} (hr:HR K m h H) (q:Post K (rD K) m H E Q (.ok d h)) (r:DV K m H d v):Q v H:=q v m H (AH _) (.refl _) hr r
theorem op_catT0:OpR X (binaryOp .Add) (fun x y H Q=>∃a b ys,x=.ref a∧y=.ref b∧SqT X.K H a []∧SqT X.K H b ys∧Q (.ref b) H):=by
 intro pins s σ H x y v u Q I rx ry h
 obtain ⟨a,b,ys,rfl,rfl,ha,hb,q⟩:=h
 cases rx
 cases ry
 obtain ⟨its,r1,p1,_⟩:=I.tuple ha
 obtain ⟨its2,r2,p2,_⟩:=I.tuple hb
 cases r1
 obtain ⟨⟨cls,dd,data,sl⟩,ho,hc,n,hd⟩:=id p1
 obtain ⟨⟨cls2,dd2,data2,sl2⟩,ho2,hc2,n2,hd2⟩:=id p2
 simp only at hc hd hc2 hd2
 subst hc hd hc2 hd2
 exact concat_meets ⟨_,ho,rfl⟩ ⟨_,ho2,rfl⟩ noFill_tuple_add seq_tuple_add PySem.F.slot_tuple_add PySem.F.entry_tuple_add (PySem.F.args_tuple_add_2 _ _)
  (tuple_addW0 a b _ its2.toArray n n2 dd dd2 sl sl2 (by simp)) ⟨ho,ho2,⟨.ref b,H,I,rfl,q⟩⟩
def AA:D→D→HD→Out D
 |.int i,.int j,h=>.ok (.int (i+j)) h
 |.str x,.str y,h=>if x.length+y.length≤sizeLine then .ok (.str (x++y)) h else .stuck
 |.tup xs,.tup ys,h=>if xs.length+ys.length≤sizeLine then .ok (.tup (xs++ys)) h else .stuck
 |.loc l,.loc k,h=>match h[l]?,h[k]? with
  |some (.lst xs),some (.lst ys)=>CI (xs++ys) h
  |_,_=>.stuck
 |_,_,_=>.stuck
theorem Br:BO X (binaryOp .Add) AA:=by
 refine ⟨_,op_add.or (op_catT0.or (op_catT.or (op_cat.or Va))),fun m H h E x y v u Q hr rx ry q=>?_⟩
 unfold AA at q
 split at q
 ·simp only [DV] at rx ry
  subst rx ry
  exact .inl ⟨_,_,rfl,rfl,Bj hr q (by simp [DV])⟩
 ·simp only [DV] at rx ry
  subst rx ry
  split at q
  ·rename_i hz
   exact .inr (.inr (.inr (.inr ⟨_,_,rfl,rfl,hz,Bj hr q (by simp [DV])⟩)))
  ·exact q.elim
 ·rename_i xs ys
  simp only [DV] at rx ry
  obtain ⟨a,vs,rfl,ha,dx⟩:=rx
  obtain ⟨b,ws,rfl,hb,dy⟩:=ry
  split at q
  ·rename_i hz
   cases xs with
   |nil=>
    simp only [DVs] at dx
    subst dx
    exact .inr (.inl ⟨a,b,ws,rfl,rfl,SqT.of ha,SqT.of hb,Bj hr q (by simp only [DV];exact ⟨b,ws,rfl,hb,dy⟩)⟩)
   |cons x xs=>
    refine .inr (.inr (.inl ⟨a,b,vs,ws,rfl,rfl,SqT.of ha,SqT.of hb,?_,by rw [←dx.len,←dy.len];exact hz,fun e=>?_,fun e=>?_⟩))
    ·intro e;have:=dx.len;rw [e] at this;simp at this
    ·subst e
     have:ys=[]:=by have:=dy.len;simpa using this
     subst this
     exact Bj hr q (by simp only [DV];exact ⟨a,vs,rfl,ha,by simpa using dx⟩)
    ·exact Jh hr (dx.app dy) q
  ·exact q.elim
 ·simp only [DV] at rx ry
  obtain ⟨a,rfl,ha⟩:=rx
  obtain ⟨b,rfl,hb⟩:=ry
  split at q
  ·rename_i xs ys e1 e2
   obtain ⟨vs,h1,d1⟩:=hr.cells _ _ a e1 ha
   obtain ⟨ws,h2,d2⟩:=hr.cells _ _ b e2 hb
   obtain ⟨z,q'⟩:=HN hr (d1.app d2) q
   exact .inr (.inr (.inr (.inl ⟨a,b,vs,ws,rfl,rfl,h1,h2,by simpa using z,q'⟩)))
  ·exact q.elim
 ·exact q.elim
def intD (f:Int→Int→D) (c:Int→Int→Prop) [∀i j,Decidable (c i j)]:D→D→HD→Out D
 |.int i,.int j,h=>if c i j then .ok (f i j) h else .stuck
 |_,_,_=>.stuck
theorem KO {o:Value→Value→Sem Value} {f:Int→Int→V} {g:Int→Int→D} {c c':Int→Int→Prop} [∀i j,Decidable (c' i j)] (h:OpR X o (rI c f)) (hc:∀i j,c' i j→c i j) (hg:∀m H i j,DV X.K m H (g i j) (f i j)):BO X o (intD g c'):=by
 refine ⟨_,h,fun m H h E x y v u Q hr rx ry q=>?_⟩
 unfold intD at q
 split at q
 ·simp only [DV] at rx ry
  subst rx ry
  split at q
  ·rename_i hc'
   exact ⟨_,_,rfl,rfl,hc _ _ hc',Bj hr q (hg _ _ _ _)⟩
  ·exact q.elim
 ·exact q.elim
def F0 (f:Int→Int→D):D→D→HD→Out D
 |.int i,.int j,h=>.ok (f i j) h
 |_,_,_=>.stuck
theorem Ji {o:Value→Value→Sem Value} {f:Int→Int→V} {g:Int→Int→D} (h:OpR X o (Fu f)) (hg:∀m H i j,DV X.K m H (g i j) (f i j)):BO X o (F0 g):=by
 refine ⟨_,h,fun m H h E x y v u Q hr rx ry q=>?_⟩
 unfold F0 at q
 split at q
 ·simp only [DV] at rx ry
  subst rx ry
  exact ⟨_,_,rfl,rfl,Bj hr q (hg _ _ _ _)⟩
 ·exact q.elim
abbrev B4:=F0 fun i j=>.int (i - j)
theorem Ee:BO X (binaryOp .Sub) B4:=Ji US fun _ _ _ _=>by simp [DV]
abbrev KP:=F0 fun i j=>.bl (decide (i<j))
abbrev Jj:=F0 fun i j=>.bl (decide (i≤j))
abbrev HQ:=F0 fun i j=>.bl (decide (j<i))
theorem P8:BO X (compareOp .Lt) KP:=Ji U1 fun _ _ _ _=>by simp [DV]
theorem KQ:BO X (compareOp .LtE) Jj:=Ji U2 fun _ _ _ _=>by simp [DV]
theorem MV:BO X (compareOp .Gt) HQ:=Ji U3 fun _ _ _ _=>by simp [DV]
instance (i j:Int):Decidable (CMul i j):=by unfold CMul;infer_instance
instance (i j:Int):Decidable (Pm i j):=by unfold Pm;infer_instance
instance (i j:Int):Decidable (GD i j):=by unfold GD;infer_instance
abbrev GH:=intD (fun i j=>.int (i % j)) fun _ j=>0<j
theorem KR:BO X (binaryOp .Mod) GH:=KO UT (fun _ _ h=>h) fun _ _ _ _=>by simp [DV]
abbrev Jk:=intD (fun i j=>.int (i^j.toNat)) GD
theorem VW:BO X (binaryOp .Pow) Jk:=KO UU (fun _ _ h=>h) fun _ _ _ _=>by simp [DV]
abbrev F4:=intD (fun i j=>.int (i*2^j.toNat)) GD
theorem P9:BO X (binaryOp .LShift) F4:=KO UV (fun _ _ h=>h) fun _ _ _ _=>by simp [DV]
def Zcl:D→D→HD→Out D
 |.int i,.int j,h=>if CMul i j then .ok (.int (i*j)) h else .stuck
 |.loc l,.int k,h=>match h[l]? with
  |some (.lst xs)=>if -(2^63)≤k∧k<2^63 then CI (List.replicate k.toNat xs).flatten h else .stuck
  |_=>.stuck
 |_,_,_=>.stuck
def Qa:D→Bool
 |.non=>true
 |_=>false
def VX:D→D→HD→Out D
 |.bl b,.bl c,h=>.ok (.bl (b==c)) h
 |x,.non,h=>.ok (.bl (Qa x)) h
 |_,_,_=>.stuck
def VY:D→D→HD→Out D
 |.bl b,.bl c,h=>.ok (.bl (!(b==c))) h
 |x,.non,h=>.ok (.bl (!Qa x)) h
 |_,_,_=>.stuck
end
def A0 {α:Type}:List (Option α)→Option (List α)
 |[]=>some []
 |none::_=>none
 |some a::r=>(A0 r).map (a::·)
def Bk (h:HD):Nat→D→Option PyData
 |_,.non=>some .none
 |_,.bl b=>some (.bool b)
 |_,.int i=>some (.int i)
 |_,.str x=>some (.str x)
 |n+1,.tup ds=>(A0 (ds.map (Bk h n))).map .tuple
 |n+1,.loc l=>match h[l]? with
  |some (.lst ds)=>(A0 (ds.map (Bk h n))).map .list
  |_=>none
 |_,_=>none
section
variable {X:Cx} {E:XK} {pins:List (Addr×Obj)} {σ:L2.St} {H:Hp} {s:Shared} {m:List Addr} {h:HD}
theorem MW {n:Nat} (ih:∀(d:D) (v:V) (u:Value) (p:PyData),DV X.K m H d v→RelV v u→Bk h n d=some p→∃as,Reads s.heap u p as):
 ∀(ds:List D) (vs:List V) (us:List Value) (ps:List PyData),DVs X.K m H ds vs→Vals vs us→A0 (ds.map (Bk h n))=some ps→∃as,ReadsAll s.heap us ps as
 |[],vs,us,ps,r,q,e=>by
  simp only [DVs] at r
  subst r
  cases q
  simp [A0] at e
  subst e
  exact ⟨[],.nil⟩
 |d::ds,vs,us,ps,r,q,e=>by
  simp only [DVs] at r
  obtain ⟨v,w,rfl,rv,rw'⟩:=r
  cases q with
  |cons q1 q2=>
   rw [BM] at e
   cases ed:Bk h n d with
   |none=>rw [ed] at e;simp [A0] at e
   |some p=>
    rw [ed] at e
    simp only [A0,qaR] at e
    obtain ⟨ps',e1,rfl⟩:=e
    obtain ⟨as,h1⟩:=ih d v _ p rv q1 ed
    obtain ⟨bs,h2⟩:=MW ih ds w _ ps' rw' q2 e1
    exact ⟨as++bs,.cons h1 h2⟩
theorem MX (hok:HOk X.prog X.w H s.heap) (hr:HR X.K m h H):∀(n:Nat) (d:D) (v:V) (u:Value) (p:PyData),DV X.K m H d v→RelV v u→Bk h n d=some p→∃as,Reads s.heap u p as:=by
 intro n
 induction n with
 |zero=>
  intro d v u p r q e
  cases d<;>simp only [Bk,DV,Option.some.injEq] at e r<;>try (cases e;done)
  ·subst e r;cases q;exact ⟨[],.none⟩
  ·subst e r;cases q;exact ⟨[],.bool _⟩
  ·subst e r;obtain ⟨t,rfl⟩:=q;exact ⟨[],.int _ _⟩
  ·subst e r;obtain ⟨t,rfl⟩:=q;exact ⟨[],.str _ _⟩
 |succ n ih=>
  intro d v u p r q e
  cases d with
  |non=>simp only [Bk,DV,Option.some.injEq] at e r;subst e r;cases q;exact ⟨[],.none⟩
  |bl b=>simp only [Bk,DV,Option.some.injEq] at e r;subst e r;cases q;exact ⟨[],.bool _⟩
  |int i=>simp only [Bk,DV,Option.some.injEq] at e r;subst e r;obtain ⟨t,rfl⟩:=q;exact ⟨[],.int _ _⟩
  |str x=>simp only [Bk,DV,Option.some.injEq] at e r;subst e r;obtain ⟨t,rfl⟩:=q;exact ⟨[],.str _ _⟩
  |tup ds=>
   simp only [Bk,DV,qaR] at e r
   obtain ⟨a,vs,rfl,ha,dv⟩:=r
   obtain ⟨ps,e1,rfl⟩:=e
   cases q
   obtain ⟨_,its,rv,⟨o,ho,hc,k,hd⟩,_⟩:=hok a _ ha
   obtain ⟨as,h1⟩:=MW ih ds vs its ps dv rv e1
   exact ⟨as,.tuple ho hc hd (by simpa using h1)⟩
  |loc l=>
   simp only [DV] at r
   obtain ⟨a,rfl,ha⟩:=r
   cases q
   simp only [Bk] at e
   split at e
   ·rename_i ds el
    simp only [qaR] at e
    obtain ⟨ps,e1,rfl⟩:=e
    obtain ⟨vs,hv,dv⟩:=hr.cells l _ a el ha
    obtain ⟨_,its,k,rv,ho⟩:=hok a _ hv
    obtain ⟨as,h1⟩:=MW ih ds vs its ps dv rv e1
    exact ⟨_,.list ho rfl rfl (by simpa using h1)⟩
   ·cases e
  |scr ns=>simp [Bk] at e
  |adr a=>simp [Bk] at e
  |ty a=>simp [Bk] at e
  |exc n fs=>simp [Bk] at e
  |edic=>simp [Bk] at e
  |glo n=>simp [Bk] at e
  |clo a vs ds=>simp [Bk] at e
def HU (f:PyData→PyData→Bool):D→D→HD→Out D:=fun x y h=>match Bk h 8 x,Bk h 8 y with
 |some p,some q=>if SeqAt.shaped p=true∧SeqAt.shaped q=true then .ok (.bl (f p q)) h else .stuck
 |_,_=>.stuck
abbrev Jl:=HU PyData.eqv
abbrev F5:=HU fun p q=>!PyData.eqv p q
theorem Qb {o:CmpOp} {f:PyData→PyData→Bool}
 (rule:∀{s:Shared} {a b:Value} {p q:PyData} {as bs:List Addr} {Q:Value→Shared→Prop},Reads s.heap a p as→Reads s.heap b q bs→SeqAt.shaped p=true→SeqAt.shaped q=true→Q (.bool (f p q)) s→wpAny (model X.prog X.w) X.A (compareOp o a b) Q X.xe s):
 BO X (compareOp o) (HU f):=by
 refine ⟨fun v u H Q=>∃m h x y,HR X.K m h H∧DV X.K m H x v∧DV X.K m H y u∧Post X.K (rD X.K) m H E0 Q (HU f x y h),?_,fun m H h E x y v u Q hr rx ry q=>⟨m,h,x,y,hr,rx,ry,?_⟩⟩
 ·intro pins s σ H x y v u Q I rx ry hq
  obtain ⟨m,h,dx,dy,hr,r1,r2,q⟩:=hq
  unfold HU at q
  split at q
  ·rename_i p p' e1 e2
   split at q
   ·rename_i hs
    obtain ⟨as,h1⟩:=MX I.hok hr 8 dx x v p r1 rx e1
    obtain ⟨bs,h2⟩:=MX I.hok hr 8 dy y u p' r2 ry e2
    exact rule h1 h2 hs.1 hs.2 ⟨.bl _,H,I,rfl,Bj hr q (by simp [DV])⟩
   ·exact q.elim
  ·exact q.elim
 ·unfold HU at q ⊢
  split
  ·split
   ·rename_i e1 e2 hs
    rw [e1,e2] at q
    simp only [hs] at q
    exact q
   ·rename_i e1 e2 hs
    rw [e1,e2] at q
    simp only [hs] at q
    exact q.elim
  ·rename_i hn
   split at q
   ·rename_i e1 e2
    exact (hn _ _ e1 e2).elim
   ·exact q.elim
theorem VZ (hu:X.A.units+64<cLine):BO X (compareOp .Eq) Jl:=Qb fun ra rb ha hb h=>eq_dataH ra rb ha hb hu h
theorem V0 (hu:X.A.units+64<cLine):BO X (compareOp .NotEq) F5:=Qb fun ra rb ha hb h=>ne_dataH ra rb ha hb hu h
def Dq:D→Option V
 |.non=>some .non
 |.bl b=>some (.bl b)
 |.int i=>some (.int i)
 |.str x=>some (.str x)
 |_=>none
theorem MY {d:D} {v w:V} (r:DV X.K m H d v) (e:Dq d=some w):v=w∧Eb v=true:=by
 cases d<;>simp only [Dq,Option.some.injEq,DV] at e r<;>first |(subst e r;exact ⟨rfl,rfl⟩) |cases e
theorem MZ:∀{ds:List D} {vs ws:List V},DVs X.K m H ds vs→A0 (ds.map Dq)=some ws→vs=ws∧vs.all Eb=true
 |[],vs,ws,r,e=>by
  simp only [DVs] at r
  simp [A0] at e
  subst r e
  exact ⟨rfl,rfl⟩
 |d::ds,vs,ws,r,e=>by
  simp only [DVs] at r
  obtain ⟨v,w,rfl,rv,rw'⟩:=r
  rw [BM] at e
  cases ed:Dq d with
  |none=>rw [ed] at e;simp [A0] at e
  |some p=>
   rw [ed] at e
   simp only [A0,qaR] at e
   obtain ⟨ps',e1,rfl⟩:=e
   obtain ⟨h1,h2⟩:=MY rv ed
   obtain ⟨h3,h4⟩:=MZ rw' e1
   subst h1 h3
   exact ⟨rfl,by simp [h2,h4]⟩
def BC:D→HD→Option (List D)
 |.tup ds,_=>some ds
 |.loc l,h=>match h[l]? with
  |some (.lst ds)=>some ds
  |_=>none
 |.scr ns,_=>some (ns.map .int)
 |_,_=>none
theorem Qc {ns:List Int}:DVs X.K m H (ns.map .int) (ns.map V.int):=by
 induction ns with
 |nil=>exact .nil
 |cons n ns ih=>exact .cons (by simp [DV]) ih
theorem KS {d:D} {v:V} {ds:List D} (hr:HR X.K m h H) (r:DV X.K m H d v) (e:BC d h=some ds):∃p vs,v=.ref p∧(SqL X.K H p vs∨SqT X.K H p vs)∧DVs X.K m H ds vs:=by
 cases d with
 |tup xs=>
  simp only [DV,BC,Option.some.injEq] at r e
  subst e
  obtain ⟨a,vs,rfl,ha,dv⟩:=r
  exact ⟨a,vs,rfl,.inr (SqT.of ha),dv⟩
 |loc l=>
  simp only [DV] at r
  obtain ⟨a,rfl,ha⟩:=r
  simp only [BC] at e
  split at e
  ·rename_i xs el
   cases e
   obtain ⟨vs,hv,dv⟩:=hr.cells l _ a el ha
   exact ⟨a,vs,rfl,.inl (SqL.of hv),dv⟩
  ·cases e
 |scr ns=>
  simp only [DV,BC,Option.some.injEq] at r e
  subst e
  obtain ⟨a,rfl,ha⟩:=r
  exact ⟨a,_,rfl,.inl ha.sq,Qc⟩
 |_=>simp [BC] at e
def inD (neg:Bool):D→D→HD→Out D:=fun x y h=>match BC y h with
 |none=>.stuck
 |some ds=>match Dq x,A0 (ds.map Dq) with
  |some v,some vs=>.ok (.bl (if neg then !Ky v vs else Ky v vs)) h
  |_,_=>.stuck
def AY:D→D→HD→Out D:=fun x y h=>match BC x h,y with
 |some ds,.int i=>match Do ds i with
  |some d=>.ok d h
  |none=>.stuck
 |_,_=>.stuck
theorem V1 {ds:List D} {vs:List V} {i:Int} {d:D} (r:DVs X.K m H ds vs) (e:Do ds i=some d):∃v,Do vs i=some v∧DV X.K m H d v:=by
 unfold Do at e ⊢
 rw [r.len] at e
 cases k:DO vs.length i with
 |none=>rw [k] at e;cases e
 |some j=>
  rw [k] at e
  exact r.get e
theorem Co {a b:Expr} {pos:Pos} {f g:ME} (ha:Ev X E a f) (hb:Ev X E b g) (hs:PH b):Ev X E (.Subscript a b pos) (Ai AY f g):=
 B3 (Vs (ix_list.or ix_tup) ha hb hs) fun σ H Q hq=>KC hq fun m H2 h2 x y v u hr rx ry q=>by
  unfold AY at q
  split at q
  ·rename_i ds i e
   split at q
   ·rename_i d ed
    simp only [DV] at ry
    subst ry
    obtain ⟨p,vs,rfl,hsq,dv⟩:=KS hr rx e
    obtain ⟨w,e1,r1⟩:=V1 dv ed
    rcases hsq with hsq |hsq
    ·exact .inl ⟨p,vs,i,w,rfl,rfl,hsq,e1,Bj hr q r1⟩
    ·exact .inr ⟨p,vs,i,w,rfl,rfl,hsq,e1,Bj hr q r1⟩
   ·exact q.elim
  ·exact q.elim
def Bm:D→HD→Out D:=fun x h=>match BC x h with
 |some ds=>.ok (.int ds.length) h
 |none=>.stuck
theorem Fv {F:D→HD→Out D} {ds:List D} {vs:List V} {Q:VK} {C:Prop} (r:DVs X.K m H ds vs) (q:Post X.K (rD X.K) m H E Q (An F ds h)) (k:∀d v,vs=[v]→DV X.K m H d v→Post X.K (rD X.K) m H E Q (F d h)→C):C:=by
 unfold An at q
 split at q
 ·simp only [DVs] at r
  obtain ⟨v,w,rfl,rv,rfl⟩:=r
  exact k _ v rfl rv q
 ·exact q.elim
theorem KU {F:D→D→HD→Out D} {ds:List D} {vs:List V} {Q:VK} {C:Prop} (r:DVs X.K m H ds vs) (q:Post X.K (rD X.K) m H E Q (Bq F ds h)) (k:∀d d' v v',vs=[v,v']→DV X.K m H d v→DV X.K m H d' v'→Post X.K (rD X.K) m H E Q (F d d' h)→C):C:=by
 unfold Bq at q
 split at q
 ·simp only [DVs] at r
  obtain ⟨v,w,rfl,rv,v',w',rfl,rv',rfl⟩:=r
  exact k _ _ v v' rfl rv rv' q
 ·exact q.elim
theorem Dr:CJ X (.builtin "len") (An Bm):=by
 refine ⟨_,Vz,fun m H h E ds vs Q hr r q=>Fv r q fun d v ev rv q=>?_⟩
 unfold Bm at q
 split at q
 ·rename_i xs e
  obtain ⟨p,ws,rfl,hs,dv⟩:=KS hr rv e
  exact ⟨p,ws,ev,hs,by rw [←dv.len];exact Bj hr q (by simp [DV])⟩
 ·exact q.elim
def CDv (i j:Int):Prop:=0<j∧j<18446744073709551616
instance (i j:Int):Decidable (CDv i j):=by unfold CDv;infer_instance
theorem CDv.no {i j:Int} (h:CDv i j):Builtin.divisionGoesByPylong i j=false:=by
 refine PyProof.noPylong_of_log2 ?_
 have h0:j.natAbs≠0:=by have:=h.1;omega
 have h1:j.natAbs<2^64:=by have:=h.2;have:=h.1;omega
 exact Nat.lt_trans ((Nat.log2_lt h0).mpr h1) (by decide)
theorem V2:Dm X (.builtin "divmod") (fun xs H Q=>∃i j,xs=[.int i,.int j]∧CDv i j∧∀p,H p=none→Q (.ref p) (Ak H p (.tup [.int (i / j),.int (i % j)]))):=by
 intro pins s σ H xs us Q I r h
 obtain ⟨i,j,rfl,hc,q⟩:=h
 obtain ⟨u,w',rfl,⟨t,rfl⟩,⟨t',rfl⟩⟩:=Kw r
 have h1:=hc.1
 refine divmod_int (by omega) ?_ (.inl hc.no)
 rw [Int.fdiv_eq_ediv_of_nonneg i (by omega),Int.fmod_eq_emod_of_nonneg i (by omega)]
 have hn:H s.heap.objs.size=none:=I.hok.fresh (AM _)
 refine ⟨.ref s.heap.objs.size,_,?_,rfl,q _ hn⟩
 refine I.laid (fun b o e=>AJ _ e) (AM _) ⟨by simp only [FQ,HB];rw [sizeLine_eq];decide,[.int (i / j) s.toks,.int (i % j) (s.toks+1)],.cons ⟨_,rfl⟩ (.cons ⟨_,rfl⟩ .nil),?_,NoDict.new⟩
 exact ⟨_,Bz s.heap rfl,rfl,0,rfl⟩
def Jm:D→D→HD→Out D
 |.int i,.int j,h=>if CDv i j then .ok (.tup [.int (i / j),.int (i % j)]) h else .stuck
 |_,_,_=>.stuck
theorem V3:CJ X (.builtin "divmod") (Bq Jm):=by
 refine ⟨_,V2,fun m H h E ds vs Q hr r q=>KU r q fun d d' v v' ev rv rv' q=>?_⟩
 unfold Jm at q
 split at q
 ·split at q
  ·rename_i i j hc
   simp only [DV] at rv rv'
   subst rv rv'
   exact ⟨i,j,ev,hc,Jh hr (.cons (by simp [DV]) (.cons (by simp [DV]) .nil)) q⟩
  ·exact q.elim
 ·exact q.elim
theorem V4:OpR X (binaryOp .FloorDiv) (rI CDv fun i j=>.int (i / j)):=Jd fun i j _ _ _ _ _ hc q=>by
 have h1:=hc.1
 exact floordiv_int (by omega) (by rw [Int.fdiv_eq_ediv_of_nonneg i (by omega)];exact q) (.inl hc.no)
abbrev Jn:=intD (fun i j=>.int (i / j)) CDv
theorem Qd:BO X (binaryOp .FloorDiv) Jn:=KO V4 (fun _ _ h=>h) fun _ _ _ _=>by simp [DV]
def Jo:D→D→HD→Out D
 |.int i,.int j,h=>.ok (.int (if j>i then j else i)) h
 |_,_,_=>.stuck
def F6:D→D→HD→Out D
 |.int i,.int j,h=>.ok (.int (if j<i then j else i)) h
 |_,_,_=>.stuck
theorem V5 (hc:X.calm=true):CJ X (.builtin "max") (Bq Jo):=by
 refine ⟨_,Vb hc,fun m H h E ds vs Q hr r q=>KU r q fun d d' v v' ev rv rv' q=>?_⟩
 unfold Jo at q
 split at q
 ·simp only [DV] at rv rv'
  subst rv rv'
  exact ⟨_,_,ev,Bj hr q (by simp [DV])⟩
 ·exact q.elim
theorem M0 (hc:X.calm=true):CJ X (.builtin "min") (Bq F6):=by
 refine ⟨_,Vc hc,fun m H h E ds vs Q hr r q=>KU r q fun d d' v v' ev rv rv' q=>?_⟩
 unfold F6 at q
 split at q
 ·simp only [DV] at rv rv'
  subst rv rv'
  exact ⟨_,_,ev,Bj hr q (by simp [DV])⟩
 ·exact q.elim
def Qe:D→HD→Out D
 |.int i,h=>.ok (.int i) h
 |.bl b,h=>.ok (.int (if b then 1 else 0)) h
 |_,_=>.stuck
def Ds:D→HD→Out D:=fun x h=>match x with
 |.tup ds=>.ok (.tup ds) h
 |.loc l=>match h[l]? with
  |some (.lst ds)=>.ok (.tup ds) h
  |_=>.stuck
 |_=>.stuck
theorem KV:CJ X (.type "tuple") (An Ds):=by
 refine ⟨_,VB,fun m H h E ds vs Q hr r q=>Fv r q fun d v ev rv q=>?_⟩
 unfold Ds at q
 split at q
 ·simp only [DV] at rv
  obtain ⟨a,ws,rfl,ha,dv⟩:=rv
  exact ⟨a,ws,ev,.inr ⟨SqT.of ha,Bj hr q (by simp only [DV];exact ⟨a,ws,rfl,ha,dv⟩)⟩⟩
 ·split at q
  ·rename_i ds' el
   simp only [DV] at rv
   obtain ⟨a,rfl,ha⟩:=rv
   obtain ⟨ws,hv,dv⟩:=hr.cells _ _ a el ha
   exact ⟨a,ws,ev,.inl ⟨SqL.of hv,Jh hr dv q⟩⟩
  ·exact q.elim
 ·exact q.elim
end
theorem PostS.bind {α β:Type} {K:PySem.W.Frag} {m:List Addr} {H:Hp} {R:List Addr→Hp→α→β→Prop} {E:XK} {Q':β→Hp→Prop} {Dn:DM} {o:Out α} {k:α→HD→Out (Fl×Ah)}
 (h:PostS K m H E Dn (o.bind k)) (f:∀a h1 v m1 H1,o=.ok a h1→m <+:m1→Kp H H1→HR K m1 h1 H1→R m1 H1 a v→PostS K m1 H1 E Dn (k a h1)→Q' v H1):Post K R m H E Q' o:=by
 cases o with
 |ok a h1=>exact fun v m1 H1 p kk hr r=>f a h1 v m1 H1 rfl p kk hr r (h.ahead p kk)
 |err C fs h1=>exact h
 |stuck=>exact h
theorem PostS.here {K:PySem.W.Frag} {m:List Addr} {H:Hp} {E:XK} {Dn:DM} {a:Fl×Ah} {h:HD} (hr:HR K m h H) (p:PostS K m H E Dn (.ok a h)):PV K m H Dn a:=p m H (AH _) (.refl _) hr
section
variable {X:Cx} {E:XK} {st:Stmt} {sts b1 b2:List Stmt} {g g1 g2:MS} {e:Expr} {f:ME} {pos:Pos} {t:MT}
def BH:MS:=fun ρ h=>.ok (.nx,ρ) h
def Aj (g1 g2:MS):MS:=fun ρ h=>(g1 ρ h).bind fun x h1=>match x with
 |(.nx,ρ1)=>g2 ρ1 h1
 |y=>.ok y h1
theorem CU:AQ X E [] BH:=PY Uw fun Dn σ H z1_=>by obtain ⟨m,ρ,h,hr,er,p⟩:=z1_;exact ((p.here hr) σ er)
theorem Ax (h:Ex X E st g):AQ X E [st] g:=Pd h
theorem Av (h1:Ex X E st g1) (h2:AQ X E sts g2):AQ X E (st::sts) (Aj g1 g2):=
 PY (Mt h1 h2) fun Dn σ H z2_=>by
  obtain ⟨m,ρ,h,hr,er,p⟩:=z2_
  refine ⟨m,ρ,h,hr,er,?_⟩
  unfold Aj at p
  cases o:g1 ρ h with
  |stuck=>rw [o] at p;exact p
  |err C fs h1=>rw [o] at p;exact p
  |ok x h1=>
   rw [o] at p
   obtain ⟨fl,ρ1⟩:=x
   intro m1 H1 p1 k1 hr1
   cases fl with
   |nx=>exact fun σ1 er1=>⟨m1,ρ1,h1,hr1,er1,PostS.ahead p1 k1 p⟩
   |bk=>exact p m1 H1 p1 k1 hr1
   |ct=>exact p m1 H1 p1 k1 hr1
   |rt d=>exact p m1 H1 p1 k1 hr1
def Ce (f:ME):MS:=fun ρ h=>(f ρ h).bind fun _ h1=>.ok (.nx,ρ) h1
theorem EV (he:Ev X E e f) (hs:swapsWith e none pos.line X.env=pure false:=by rfl):Ex X E (.Expr e pos) (Ce f):=
 GF (Pe he hs) fun Dn σ H z3_=>by obtain ⟨m,ρ,h,hr,er,p⟩:=z3_;exact (⟨m,ρ,h,hr,er,PostS.bind p fun x h1 v m1 H1 _ p1 k1 hr1 r1 q1=>(q1.here hr1) σ (er.keep p1 k1)⟩)
def AL (f:ME):MS:=fun ρ h=>(f ρ h).bind fun d h1=>.ok (.rt d,ρ) h1
theorem A3 (he:Ev X E e f):Ex X E (.Return (some e) pos) (AL f):=
 GF (Uz he) fun Dn σ H z4_=>by obtain ⟨m,ρ,h,hr,er,p⟩:=z4_;exact (⟨m,ρ,h,hr,er,PostS.bind p fun x h1 v m1 H1 _ p1 k1 hr1 r1 q1=>(q1.here hr1) v r1⟩)
def Bv (t:MT) (g1 g2:MS):MS:=fun ρ h=>(t ρ h).bind fun b h1=>if b=true then g1 ρ h1 else g2 ρ h1
theorem CV {c:Expr} (hc:EO X E c t) (ha:AQ X E b1 g1) (hb:AQ X E b2 g2):Ex X E (.If c b1 b2 pos) (Bv t g1 g2):=
 GF (UB hc ha hb) fun Dn σ H z5_=>by obtain ⟨m,ρ,h,hr,er,p⟩:=z5_;exact (⟨m,ρ,h,hr,er,PostS.bind p fun x h1 v m1 H1 _ p1 k1 hr1 r1 q1=>by
  cases r1
  cases x with
  |true=>exact ⟨m1,ρ,h1,hr1,er.keep p1 k1,q1⟩
  |false=>exact ⟨m1,ρ,h1,hr1,er.keep p1 k1,q1⟩⟩)
def Zcm:MS:=fun _ _=>.stuck
def Aq (i:Nat) (f:ME):MS:=fun ρ h=>(f ρ h).bind fun d h1=>.ok (.nx,ρ.set i (some d)) h1
theorem A6 {i:Nat} {x:Str} {pos':Pos} (hN:X.N.Nodup) (hi:X.N[i]?=some x) (hx:FU X.env.scope x) (he:Ev X E e f) (hs:swapsWith e (some (.Name x pos')) pos.line X.env=pure false:=by rfl) (hf:X.fn x=true∨X.env.scope.names.lookup x=some .local:=by first |exact .inl rfl |exact .inr rfl |assumption):
 Ex X E (.Assign [.Name x pos'] e pos) (Aq i f):=
 GF (UE hN hi hx he hs hf) fun Dn σ H z9_=>by obtain ⟨m,ρ,h,hr,er,p⟩:=z9_;exact (⟨m,ρ,h,hr,er,PostS.bind p fun x h1 v m1 H1 _ p1 k1 hr1 r1 q1=>(q1.here hr1) _ ((er.keep p1 k1).set r1)⟩)
def Qf (i j:Nat) (fa:MA):MS:=fun ρ h=>(fa ρ h).bind fun ds h1=>match ds with
 |[x,y]=>.ok (.nx,(ρ.set i (some x)).set j (some y)) h1
 |_=>.stuck
abbrev MG:=D→Ah→Option Ah
def Jp (X:Cx) (tg:Expr) (sg:MG):Prop:=
 ∃gg:TG,PG X tg gg∧∀m H d v ρ σ ρ' Q,DV X.K m H d v→ER X.K m H ρ σ→sg d ρ=some ρ'→(∀σ',ER X.K m H ρ' σ'→Q σ' H)→gg v σ H Q
def AG (i:Nat):MG:=fun d ρ=>some (ρ.set i (some d))
def BV (i j:Nat):MG:=fun d ρ=>match d with
 |.tup [x,y]=>some ((ρ.set i (some x)).set j (some y))
 |_=>none
theorem DQ {i:Nat} {x:Str} (h:PG X (.Name x pos) (Cu i)):Jp X (.Name x pos) (AG i):=⟨_,h,fun m H d v ρ σ ρ' Q r er e q=>by
 simp only [AG,Option.some.injEq] at e
 subst e
 exact q _ (er.set r)⟩
theorem KW {i j:Nat} {x y:Str} {px py:Pos} {kt:Nat} (h:PG X (.Tuple [.Name x px,.Name y py] kt pos) (GC X.K 2 (DN (Cu i) (DN (Cu j) GB)))):Jp X (.Tuple [.Name x px,.Name y py] kt pos) (BV i j):=⟨_,h,fun m H d v ρ σ ρ' Q r er e q=>by
 unfold BV at e
 split at e
 ·rename_i a b
  cases e
  simp only [DV,DVs] at r
  obtain ⟨p,vs,rfl,hp,v1,w1,rfl,r1,v2,w2,rfl,r2,rfl⟩:=r
  exact ⟨p,_,rfl,SqT.of hp,rfl,v1,_,rfl,v2,_,rfl,rfl,q _ ((er.set r1).set r2)⟩
 ·cases e⟩
def F7 (sg:MG) (f:ME):MS:=fun ρ h=>(f ρ h).bind fun d h1=>match sg d ρ with
 |some ρ1=>.ok (.nx,ρ1) h1
 |none=>.stuck
theorem M1 {tg:Expr} {sg:MG} (he:Ev X E e f) (hg:Jp X tg sg) (hs:swapsWithSole [tg] e pos.line X.env=pure false:=by rfl) (hw:swappedStores [tg] e X.env=pure none:=by rfl)
 (h1:(assignEach [tg] X.env).map (·.2)=[assign tg X.env]:=by rfl):Ex X E (.Assign [tg] e pos) (F7 sg f):=by
 obtain ⟨gg,hg,i⟩:=hg
 exact GF (Pj he hg hs hw h1) fun Dn σ H z11_=>by obtain ⟨m,ρ,h,hr,er,p⟩:=z11_;exact (⟨m,ρ,h,hr,er,PostS.bind p fun x h1 v m1 H1 _ p1 k1 hr1 r1 q1=>by
  split at q1
  ·rename_i ρ1 es
   exact i m1 H1 x v ρ σ ρ1 _ r1 (er.keep p1 k1) es fun σ' er'=>(q1.here hr1) σ' er'
  ·exact q1.elim⟩)
abbrev A8:=List (Nat×List D)
def Bs (src:A8) (items:List D) (h:HD):Prop:=∀p∈src,h[p.1]?=some (.lst p.2)
theorem DR {items:List D} {h:HD}:Bs [] items h:=fun p z=>nomatch z
theorem CW {items ds:List D} {h:HD} {l:Nat} (e:h[l]?=some (.lst ds)):Bs [(l,ds)] items h:=fun p z=>by
 rw [qaD] at z
 subst z
 exact e
def F8 (K:PySem.W.Frag):List Addr→Hp→(List D×A8)→It→Prop:=fun m1 H1 x J=>
 ∀i m2 h2 H2,m1 <+:m2→Kp H1 H2→HR K m2 h2 H2→Bs x.2 x.1 h2→
  (i<x.1.length→J.go i H2∧∀y H3,J.yld i H2 y H3→Kp H2 H3∧HR K m2 h2 H3∧∃d,x.1[i]?=some d∧DV K m2 H3 d y)∧(i=x.1.length→J.stop i H2)
abbrev MI:=Ah→HD→Out (List D×A8)
abbrev EW (X:Cx) (E:XK) (tg iter:Expr) (it:MI):Prop:=PI X tg iter (tM X.K (F8 X.K) E it)
theorem Jq {tg iter:Expr} {w w':TI} (h:PI X tg iter w) (i:∀σ H R,w' σ H R→w σ H R):PI X tg iter w':=fun pins s σ H R I q=>h pins s σ H R I (i σ H R q)
theorem V6 {tg l:Expr} {tl:TE} (hl:PE X l tl):PI X tg l (fun σ H R=>tl σ H fun x H1=>∃a,x=.ref a∧(((∃xs,SqL X.K H1 a xs)∧R (IZ X.K a) H1)∨((∃xs,SqT X.K H1 a xs)∧R (Ja X.K a) H1))):=by
 intro pins s σ H R I h
 refine Aw (hl pins s σ H _ I h) fun v s1 z12_=>?_
 obtain ⟨x,H1,I1,r1,q1⟩:=z12_
 obtain ⟨a,e,q⟩:=q1
 subst e
 cases r1
 rcases q with ⟨⟨xs,hq⟩,q⟩ |⟨⟨xs,hq⟩,q⟩
 ·obtain ⟨its,rv,p,hz⟩:=I1.list hq
  refine wpAny_pyIter_list p.isList ?_
  refine ⟨s1.heap.objs.size,[s1.heap.objs.size],_,_,H1,rfl,I1.kept (t':=s1.toks) fun b o e=>AJ _ e,UF a _,⟨_,Bz _ rfl,rfl,rfl⟩,fun b hb=>?_,q⟩
  have e:b=s1.heap.objs.size:=by simpa using hb
  subst e
  exact I1.fpOk (AM _) (I1.hok.fresh (AM _))
 ·obtain ⟨its,rv,p,hz⟩:=I1.tuple hq
  refine wpAny_pyIter_tuple (show s1.heap.IsTuple a its.toArray from p) ?_
  refine ⟨s1.heap.objs.size,[s1.heap.objs.size],_,_,H1,rfl,I1.kept (t':=s1.toks) fun b o e=>AJ _ e,UG a _,⟨_,Bz _ rfl,rfl,rfl⟩,fun b hb=>?_,q⟩
  have e:b=s1.heap.objs.size:=by simpa using hb
  subst e
  exact I1.fpOk (AM _) (I1.hok.fresh (AM _))
def Qg:D→List D→A8
 |.loc l,ds=>[(l,ds)]
 |_,_=>[]
def EX (d:D) (h:HD):Out (List D×A8):=match BC d h with
 |some ds=>.ok (ds,Qg d ds) h
 |none=>.stuck
def AR (f:ME):MI:=fun ρ h=>(f ρ h).bind EX
theorem Kp.lget {H H':Hp} {a:Addr} {K:PySem.W.Frag} {xs:List V} (k:Kp H H') (h:FzL K H a xs):SqL K H' a xs:=(k.fzL h).sq
theorem Qh {K:PySem.W.Frag} {a:Addr} {m:List Addr} {H:Hp} {h:HD} {i:Nat} {items:List D} {vs:List V} (hr:HR K m h H) (hs:SqL K H a vs) (dv:DVs K m H items vs) (uniq:∀ys,SqL K H a ys→ys=vs∨True):
 (i<items.length→(IZ K a).go i H∧∀y H3,(IZ K a).yld i H y H3→Kp H H3∧HR K m h H3∧∃d,items[i]?=some d∧DV K m H3 d y)∧(i=items.length→(IZ K a).stop i H):=by
 refine ⟨fun hi=>?_,fun hi=>⟨vs,hs,by rw [←dv.len];exact Nat.le_of_eq hi.symm⟩⟩
 have hd:items[i]?=some items[i]:=Bb hi
 obtain ⟨v,e1,r1⟩:=dv.get hd
 refine ⟨⟨vs,v,hs,e1⟩,fun y H3 z13_=>?_⟩
 obtain ⟨e3,hy⟩:=z13_
 subst e3
 have:=hy vs hs
 rw [e1] at this
 cases this
 exact ⟨.refl _,hr,_,hd,r1⟩
theorem V7 {K:PySem.W.Frag} {a:Addr} {m:List Addr} {H:Hp} {h:HD} {i:Nat} {items:List D} {vs:List V} (hr:HR K m h H) (hs:SqT K H a vs) (dv:DVs K m H items vs):
 (i<items.length→(Ja K a).go i H∧∀y H3,(Ja K a).yld i H y H3→Kp H H3∧HR K m h H3∧∃d,items[i]?=some d∧DV K m H3 d y)∧(i=items.length→(Ja K a).stop i H):=by
 refine ⟨fun hi=>?_,fun hi=>⟨vs,hs,by rw [←dv.len];exact Nat.le_of_eq hi.symm⟩⟩
 have hd:items[i]?=some items[i]:=Bb hi
 obtain ⟨v,e1,r1⟩:=dv.get hd
 refine ⟨⟨vs,v,hs,e1⟩,fun y H3 z14_=>?_⟩
 obtain ⟨e3,hy⟩:=z14_
 subst e3
 have:=hy vs hs
 rw [e1] at this
 cases this
 exact ⟨.refl _,hr,_,hd,r1⟩
theorem BI {tg a:Expr} (ha:Ev X E a f):EW X E tg a (AR f):=
 Jq (V6 ha) fun σ H R ⟨m,ρ,h,hr,er,p⟩=>⟨m,ρ,h,hr,er,Post.bind p fun x h1 v m1 H1 _ p1 k1 hr1 r1 q1=>by
  unfold EX at q1
  split at q1
  ·rename_i ds eds
   cases x with
   |tup xs=>
    simp only [BC,Option.some.injEq] at eds
    subst eds
    simp only [rD,DV] at r1
    obtain ⟨a,vs,rfl,ha,dv⟩:=r1
    refine ⟨a,rfl,.inr ⟨⟨vs,SqT.of ha⟩,q1 _ m1 H1 (AH _) (.refl _) hr1 fun i m2 h2 H2 p2 k2 hr2 _=>?_⟩⟩
    exact V7 hr2 (SqT.of (k2 _ _ ha rfl)) (dv.keep p2 k2)
   |loc l=>
    simp only [rD,DV] at r1
    obtain ⟨a,rfl,ha⟩:=r1
    simp only [BC] at eds
    split at eds
    ·rename_i xs el
     cases eds
     obtain ⟨vs,hv,dv⟩:=hr1.cells l _ a el ha
     refine ⟨a,rfl,.inl ⟨⟨vs,SqL.of hv⟩,q1 _ m1 H1 (AH _) (.refl _) hr1 fun i m2 h2 H2 p2 k2 hr2 hs=>?_⟩⟩
     obtain ⟨ws,hw,dw⟩:=hr2.cells l _ a (hs _ AO) (HH p2 ha)
     exact Qh hr2 (SqL.of hw) dw fun _ _=>.inr trivial
    ·cases eds
   |scr ns=>
    simp only [BC,Option.some.injEq] at eds
    subst eds
    simp only [rD,DV] at r1
    obtain ⟨a,rfl,ha⟩:=r1
    refine ⟨a,rfl,.inl ⟨⟨_,ha.sq⟩,q1 _ m1 H1 (AH _) (.refl _) hr1 fun i m2 h2 H2 p2 k2 hr2 _=>?_⟩⟩
    exact Qh hr2 (k2.lget ha) Qc fun _ _=>.inr trivial
   |_=>simp [BC] at eds
  ·exact q1.elim⟩
def F9 (lo:Int) (n:Nat):List D:=(List.range n).map fun k=>.int (lo+(k:Nat))
theorem Qi {K:PySem.W.Frag} {m1:List Addr} {H1:Hp} (lo:Int) (n:Nat):F8 K m1 H1 (F9 lo n,[]) (Jb lo n):=fun i m2 h2 H2 p2 k2 hr2 _=>by
 refine ⟨fun hi=>?_,fun hi=>?_⟩
 ·have hi':i<n:=by simpa [F9] using hi
  refine ⟨hi',fun y H3 z16_=>?_⟩
  obtain ⟨e3,ey⟩:=z16_
  subst e3 ey
  refine ⟨.refl _,hr2,.int (lo+i),?_,by simp [DV]⟩
  simp [F9,Ht,hi']
 ·show n≤i
  have hi':i=n:=by simpa [F9] using hi
  omega
@[irreducible] noncomputable def HV:List D→HD→Out (List D×A8):=fun ds h=>match ds with
  |[.int j]=>@ite _ (-(2^62)≤j∧j<2^62) (Classical.propDecidable _) (.ok (F9 0 j.toNat,[]) h) .stuck
  |_=>.stuck
@[irreducible] noncomputable def Jr:List D→HD→Out (List D×A8):=fun ds h=>match ds with
  |[.int i,.int j]=>@ite _ ((-(2^62)≤i∧i<2^62)∧-(2^62)≤j∧j<2^62) (Classical.propDecidable _) (.ok (F9 i (j - i).toNat,[]) h) .stuck
  |_=>.stuck
noncomputable def CY (fa:MA):MI:=fun ρ h=>(fa ρ h).bind HV
noncomputable def EY (fa:MA):MI:=fun ρ h=>(fa ρ h).bind Jr
theorem Ga {tg a:Expr} {fa:MA} {p pos:Pos} (hg:Gl X "range") (hm:X.mg "range"=none) (ha:Cb X E [a] fa) (hs:starEach [a] X.env=[(false,eval a X.env)]:=by rfl):EW X E tg (.Call (.Name "range" p) [a] [] pos) (CY fa):=
 Jq (UK hg hm ha hs) fun σ H R z17_=>by obtain ⟨m,ρ,h,hr,er,p⟩:=z17_;exact (⟨m,ρ,h,hr,er,Post.bind p fun x h1 v m1 H1 _ p1 k1 hr1 r1 q1=>by
  unfold HV at q1
  split at q1
  ·split at q1
   ·rename_i hj
    simp only [DP,DVs,DV] at r1
    obtain ⟨v,w,rfl,rfl,rfl⟩:=r1
    exact ⟨_,rfl,hj.1,hj.2,q1 _ m1 H1 (AH _) (.refl _) hr1 (Qi 0 _)⟩
   ·exact q1.elim
  ·exact q1.elim⟩)
theorem Js {tg a b:Expr} {fa:MA} {p pos:Pos} (hg:Gl X "range") (hm:X.mg "range"=none) (ha:Cb X E [a,b] fa) (hs:starEach [a,b] X.env=[(false,eval a X.env),(false,eval b X.env)]:=by rfl) (hs2:starEach [b] X.env=[(false,eval b X.env)]:=by rfl):EW X E tg (.Call (.Name "range" p) [a,b] [] pos) (EY fa):=
 Jq (UL hg hm ha hs hs2) fun σ H R z18_=>by obtain ⟨m,ρ,h,hr,er,p⟩:=z18_;exact (⟨m,ρ,h,hr,er,Post.bind p fun x h1 v m1 H1 _ p1 k1 hr1 r1 q1=>by
  unfold Jr at q1
  split at q1
  ·split at q1
   ·rename_i hj
    simp only [DP,DVs,DV] at r1
    obtain ⟨v,w,rfl,rfl,v',w',rfl,rfl,rfl⟩:=r1
    exact ⟨_,_,rfl,⟨hj.1.1,hj.1.2,hj.2.1,hj.2.2⟩,q1 _ m1 H1 (AH _) (.refl _) hr1 (Qi _ _)⟩
   ·exact q1.elim
  ·exact q1.elim⟩)
open Classical in
noncomputable def EZ (src:A8) (items:List D) (sg:MG) (body:MS):List D→MS
 |[]=>fun ρ h=>if Bs src items h then .ok (.nx,ρ) h else .stuck
 |d::ds=>fun ρ h=>if Bs src items h then match sg d ρ with
   |none=>.stuck
   |some ρ1=>(body ρ1 h).bind fun x h2=>match x with
    |(.nx,ρ2)=>EZ src items sg body ds ρ2 h2
    |(.ct,ρ2)=>EZ src items sg body ds ρ2 h2
    |(.bk,ρ2)=>.ok (.nx,ρ2) h2
    |(.rt d,ρ2)=>.ok (.rt d,ρ2) h2
  else .stuck
noncomputable def Bw (it:MI) (sg:MG) (body:MS):MS:=fun ρ h=>(it ρ h).bind fun x h1=>EZ x.2 x.1 sg body x.1 ρ h1
inductive Qj (K:PySem.W.Frag) (E:XK) (Dn:DM) (src:A8) (items:List D) (sg:MG) (g:MS) (m1:List Addr) (H1:Hp) (i n:Nat) (σ2:L2.St) (H2:Hp):Prop where
 |mk (e:n=items.length - i) (l:i≤items.length) (m2:List Addr) (ρ2:Ah) (h2:HD) (p:m1 <+:m2) (k:Kp H1 H2) (hr:HR K m2 h2 H2) (er:ER K m2 H2 ρ2 σ2) (q:PostS K m2 H2 E Dn (EZ src items sg g (items.drop i) ρ2 h2)):Qj K E Dn src items sg g m1 H1 i n σ2 H2
inductive Qk (K:PySem.W.Frag) (E:XK) (Dn:DM) (src:A8) (items:List D) (sg:MG) (g:MS) (m1:List Addr) (H1:Hp) (i:Nat) (σ2:L2.St) (H2:Hp):Prop where
 |mk (m2:List Addr) (ρ2:Ah) (h2:HD) (p:m1 <+:m2) (k:Kp H1 H2) (hr:HR K m2 h2 H2) (er:ER K m2 H2 ρ2 σ2) (q:PostS K m2 H2 E Dn (EZ src items sg g (items.drop i) ρ2 h2)):Qk K E Dn src items sg g m1 H1 i σ2 H2
theorem Dt {tg iter:Expr} {body:List Stmt} {it:MI} {sg:MG} {g:MS} (hp:PassesOwn (model X.prog X.w) X.A X.env X.xe) (hc:X.calm=true) (hi:EW X E tg iter it) (hg:Jp X tg sg) (hb:AQ X E body g)
 (hs:∀x,foldedSetIterable iter X.env x=pure x:=by intro _;rfl):Ex X E (.For tg iter body [] pos) (Bw it sg g):=by
 obtain ⟨gg,hg,ig⟩:=hg
 refine GF (UN hp hc hi hg hb hs) ?_
 rintro Dn σ H ⟨m,ρ,h,hr,er,p⟩
 refine ⟨m,ρ,h,hr,er,PostS.bind p fun x h1 J m1 H1 _ p1 k1 hr1 r1 q1=>?_⟩
 obtain ⟨items,src⟩:=x
 refine ⟨Qj X.K E Dn src items sg g m1 H1,⟨items.length,rfl,EF _,m1,ρ,h1,AH _,.refl _,hr1,er.keep p1 k1,by simpa using q1⟩,?_⟩
 rintro i n σ2 H2 ⟨rfl,hi,m2,ρ2,h2,p2,k2,hr2,er2,q2⟩
 by_cases hlt:i<items.length
 ·rw [Kj hlt] at q2
  unfold EZ at q2
  split at q2
  ·rename_i hs
   obtain ⟨hgo,hy⟩:=(r1 i m2 h2 H2 p2 k2 hr2 hs).1 hlt
   refine .inr ⟨hgo,Qk X.K E Dn src items sg g m1 H1 (i+1),fun σ5 H5 z20_=>by obtain ⟨m5,ρ5,h5,a1,a2,a3,a4,a5⟩:=z20_;exact (⟨items.length - (i+1),by omega,rfl,hlt,m5,ρ5,h5,a1,a2,a3,a4,a5⟩),fun y H3 hyl=>?_⟩
   obtain ⟨k3,hr3,d,ed,rd⟩:=hy y H3 hyl
   have ed':d=items[i]:=by rw [Bb hlt] at ed;exact (Option.some.inj ed).symm
   subst ed'
   split at q2
   ·exact q2.elim
   ·rename_i ρ3 es
    refine ig m2 H3 _ y ρ2 σ2 ρ3 _ rd (er2.keep (AH _) k3) es fun σ4 er4=>?_
    refine ⟨m2,ρ3,h2,hr3,er4,?_⟩
    have q3:=PostS.ahead (AH _) k3 q2
    cases o:g ρ3 h2 with
    |stuck=>rw [o] at q3;exact q3
    |err C fs h5=>rw [o] at q3;exact q3
    |ok z h5=>
     rw [o] at q3
     obtain ⟨fl,ρ5⟩:=z
     intro m5 H5 p5 k5 hr5
     have pk:m1 <+:m5:=p2.trans p5
     have kk:Kp H1 H5:=(k2.trans k3).trans k5
     cases fl with
     |nx=>exact fun σ5 er5=>⟨m5,ρ5,h5,pk,kk,hr5,er5,PostS.ahead p5 k5 q3⟩
     |ct=>exact fun σ5 er5=>⟨m5,ρ5,h5,pk,kk,hr5,er5,PostS.ahead p5 k5 q3⟩
     |bk=>exact fun σ5 er5=>q3 m5 H5 p5 k5 hr5 σ5 er5
     |rt d=>exact fun v rv=>q3 m5 H5 p5 k5 hr5 v rv
  ·exact q2.elim
 ·have he:i=items.length:=Nat.le_antisymm hi (Hx hlt)
  subst he
  rw [List.drop_length] at q2
  unfold EZ at q2
  split at q2
  ·rename_i hs
   exact .inl ⟨(r1 _ m2 h2 H2 p2 k2 hr2 hs).2 rfl,(q2.here hr2) σ2 er2⟩
  ·exact q2.elim
end
section
variable {M:Model} {A:Around} {E:Value→Shared→Prop} {s:Shared}
theorem M3 {env:Env}:∀(names:List (Str×NameKind)) (acc:List (Str×Addr)),(∀y∈names,y.2=.free→∃c,env.cells.lookup y.1=some c)→
 ∃cl:List (Str×Addr),(forIn names acc (fun (x:Str×NameKind) (cs:List (Str×Addr))=>match x with
  |(name,kind)=>if (kind==NameKind.free)=true then do let y ←cellOf env name;pure (ForInStep.yield ((name,y)::cs)) else pure (ForInStep.yield cs)):Sem (List (Str×Addr)))=pure cl∧
  (∀x c,(x,c)∈cl→(x,c)∈acc∨(env.cells.lookup x=some c∧(x,NameKind.free)∈names))∧(∀y∈names,y.2=.free→∃c,(y.1,c)∈cl)∧(∀p∈acc,p∈cl)
 |[],acc,_=>⟨acc,rfl,fun x c h=>.inl h,fun y hy=>absurd hy (by simp),fun p h=>h⟩
 |(name,kind)::r,acc,h=>by
  rw [List.forIn_cons]
  by_cases hk:kind=.free
  ·subst hk
   obtain ⟨c,hc⟩:=h (name,.free) AO rfl
   obtain ⟨cl,e,h1,h2,h3⟩:=M3 (env:=env) r ((name,c)::acc) (fun y hy=>h y (AS _ hy))
   refine ⟨cl,?_,fun x c' hm=>?_,fun y hy hf=>?_,fun p hp=>h3 p (AS _ hp)⟩
   ·rw [←e]
    have:cellOf env name=pure c:=by unfold cellOf;rw [hc]
    simp only [this,beq_self_eq_true,if_true,pure_bind]
   ·rcases h1 x c' hm with q |⟨q1,q2⟩
    ·rcases qa7.mp q with q |q
     ·cases q;exact .inr ⟨hc,AO⟩
     ·exact .inl q
    ·exact .inr ⟨q1,AS _ q2⟩
   ·rcases qa7.mp hy with q |q
    ·subst q;exact ⟨c,h3 _ AO⟩
    ·exact h2 y q hf
  ·obtain ⟨cl,e,h1,h2,h3⟩:=M3 (env:=env) r acc (fun y hy=>h y (AS _ hy))
   refine ⟨cl,?_,fun x c' hm=>?_,fun y hy hf=>?_,h3⟩
   ·rw [←e]
    have hk':(kind==NameKind.free)=false:=by simpa using hk
    simp only [hk',CH,if_false,pure_bind]
   ·rcases h1 x c' hm with q |⟨q1,q2⟩
    ·exact .inl q
    ·exact .inr ⟨q1,AS _ q2⟩
   ·rcases qa7.mp hy with q |q
    ·subst q;exact absurd hf hk
    ·exact h2 y q hf
theorem M4 {scope:Scope} {env:Env} (h:∀y∈scope.names,y.2=.free→∃c,env.cells.lookup y.1=some c):
 ∃cl:List (Str×Addr),closureFor scope env=pure cl∧(∀x c,(x,c)∈cl→env.cells.lookup x=some c∧(x,NameKind.free)∈scope.names)∧(∀y∈scope.names,y.2=.free→∃c,(y.1,c)∈cl):=by
 obtain ⟨cl,e,h1,h2,h3⟩:=M3 (env:=env) scope.names [] h
 refine ⟨cl,?_,fun x c hm=>?_,h2⟩
 ·unfold closureFor
  simp only [bind_pure]
  exact e
 ·rcases h1 x c hm with q |q
  ·exact nomatch q
  ·exact q
theorem Ql {scope:Scope} {globals:Addr} {cl:List (Str×Addr)} {qual:Str} {around:Env} {Q:Env→Shared→Prop}
 (h:Q (newEnv scope s.heap.objs.size globals (cellsFrom (s.heap.objs.size+1) scope.names cl) qual none .none (some around) builtinsNs) {s with heap:=pushCells (s.heap.push {cls:=.type "dict",data:=.dict #[]}) scope.names}):
 wpAny M A (newFunctionEnv scope globals cl [] qual none .none (some around)) Q E s:=by
 simp only [newFunctionEnv,Option.isSome_some,if_true]
 refine wpAny_bind (wpAny_alloc ?_)
 refine wpAny_bind (wpAny_layCells _ (fun name kind cells=>by cases hkc:kind==NameKind.cell<;>simp [hkc]) _ _ _ _ ?_)
 simp only [List.forIn_nil,pure_bind]
 refine wpAny_pure ?_
 rw [show ({s with heap:=s.heap.push {cls:=.type "dict",data:=.dict #[]}}:Shared).heap.objs.size=s.heap.objs.size+1 from Ct ..]
 exact h
end
section
variable {prog:Program} {w:World} {A:Around} {R:Result→Shared→Prop} {s:Shared}
theorem V8 {elt target iter:Expr} {ifs:List Expr} {scope:Scope} {pos:Pos} {it acc:Value} {env:Env} (I:Nat→Shared→Prop)
 (CM:∀n s,I n s→wpAny (model prog w) A (pyNext it) (fun r s₁=>match r with
  |none=>R (.ok .next) s₁
  |some v=>wpAny (model prog w) A (letOwnedTupleGo target it v) (fun _ s₁'=>wpAny (model prog w) A (assign target env v) (fun _ s₂=>
   wpAny (model prog w) A (forIn ifs true fun c r=>if r=true then do let ok ←isTrue c env (eval c env);pure (ForInStep.yield ok) else pure (ForInStep.yield r)) (fun ok s₃=>
    if ok=true then wpAny (model prog w) A (eval elt env) (fun x s₄=>
     wpAny (model prog w) A (call (.builtin "list.append") [acc,x]) (fun _ s₅=>∃m,m<n∧I m s₅) (notedBy (model prog w) A env fun e s'=>R (.error e) s') s₄) (notedBy (model prog w) A env fun e s'=>R (.error e) s') s₃
    else ∃m,m<n∧I m s₃) (notedBy (model prog w) A env fun e s'=>R (.error e) s') s₂) (notedBy (model prog w) A env fun e s'=>R (.error e) s') s₁') (notedBy (model prog w) A env fun e s'=>R (.error e) s') s₁) (notedBy (model prog w) A env fun e s'=>R (.error e) s') s)
 (n:Nat) (h:I n s):
 codeAny (model prog w) A (.compLoop (.ListComp elt [⟨target,iter,ifs,0⟩] scope pos) 0 it acc env) R s:=by
 refine codeAny_loop rfl I (fun n s hI=>?_) n h
 show wpAny _ A ((compTurn (.ListComp elt [⟨target,iter,ifs,0⟩] scope pos) 0 it acc env).onRaise (fun x=>do noteFrame x env;theTreesLotGoes x)) _ _ s
 refine wpAny_noted ?_
 rw [compTurn_list]
 refine wpAny_bind (wpAny_standAt (wpAny_bind (wpAny_mono (CM n s hI) (fun r s₁ h₁=>?_) fun _ _ h'=>h')))
 cases r with
 |none=>exact wpAny_pure h₁
 |some v=>
  refine wpAny_bind (wpAny_mono h₁ (fun _ s₁' h₁'=>?_) fun _ _ h'=>h')
  refine wpAny_bind (wpAny_mono h₁' (fun _ s₂ h₂=>wpAny_bind (wpAny_mono h₂ (fun ok s₃ h₃=>?_) fun _ _ h'=>h')) fun _ _ h'=>h')
  cases ok with
  |false=>exact wpAny_pure ⟨rfl,h₃⟩
  |true=>
   exact wpAny_bind (wpAny_bind (wpAny_mono h₃ (fun x s₄ h₄=>wpAny_bind (wpAny_mono h₄ (fun _ s₅ h₅=>wpAny_pure (wpAny_pure ⟨rfl,h₅⟩)) fun _ _ h'=>h')) fun _ _ h'=>h'))
end
def Gb (X:Cx) (ifs:List Expr) (t:TT):Prop:=∀(pins:List (Addr×Obj)) (s:Shared) (σ:L2.St) (H:Hp) (Q:Bool→Hp→Prop),Inv X pins σ H s→t σ H Q→
 wpAny (model X.prog X.w) X.A (forIn ifs true fun c r=>if r=true then do let ok ←isTrue c X.env (eval c X.env);pure (ForInStep.yield ok) else pure (ForInStep.yield r)) (TP X pins σ Q) X.xe s
theorem V9 {X:Cx}:Gb X [] (fun _ H Q=>Q true H):=fun _ _ _ H _ I h=>wpAny_tests_nil ⟨H,I,h⟩
theorem Wa {X:Cx} {c:Expr} {t:TT} (h:PT X c t):Gb X [c] t:=fun pins s σ H Q I q=>wpAny_tests_one (h pins s σ H Q I q)
def Qm (env:Env) (scope:Scope) (C:Addr) (cells:List (Str×Addr)):Env:=
 {scope:=relabel scope env,locals:=C,globals:=env.globals,cells:=cells,qual:=env.qual,func:=none,code:=env.code,frame:=env.frame,builtins:=env.builtins}
def Bf (X:Cx) (Nc:List Str) (scope:Scope) (C D:Addr) (cells:List (Str×Addr)) (fp:List Addr) (s₀:Shared) (H₀:Hp) (pins:List (Addr×Obj)):Cx:=
 {X with N:=Nc,s₀:=s₀,H₀:=H₀,env:=Qm X.env scope C cells,outer:=X.stack,stack:=X.stack,ex:=D::fp,fn:=fun x=>scope.names.lookup x==some .cell,pn:=X.pn++pins,xe:=fun _ _=>False}
def Bx (cs:List (Option Nat)) (σ:L2.St):L2.St:=cs.map fun o=>o.bind fun j=>(σ[j]?).join
def Sub (σ σ':L2.St):Prop:=σ.length=σ'.length∧∀(i:Nat) v,σ[i]?=some (some v)→σ'[i]?=some (some v)
def KY (cs:List (Option Nat)) (wi:TI) (g:TG) (tc:TT) (te:TE):TE:=fun σ H Q=>wi σ H fun J H1=>∃W:Nat→Nat→List V→Hp→Prop,(∃n,W 0 n [] H1)∧∀i n acc H,W i n acc H→
 (J.stop i H∧acc.length≤sizeLine∧∀p,H p=none→Q (.ref p) (Ak H p (.lst acc)))∨
 (J.go i H∧acc.length<sizeLine∧∀x H',J.yld i H x H'→g x (Bx cs σ) H' fun σ2 H2=>Sub (Bx cs σ) σ2∧tc σ2 H2 fun b H3=>if b=true then te σ2 H3 fun y H4=>∃n',n' < n∧W (i+1) n' (acc++[y]) H4 else ∃n',n' < n∧W (i+1) n' acc H3)
theorem M5:∀(names:List (Str×NameKind)) (h:Heap) (acc:List (Str×Addr)) (x:Str) (c:Addr),(x,c)∈cellsFrom h.objs.size names acc→(x,c)∈acc∨(h.objs.size≤c∧(x,NameKind.cell)∈names∧(pushCells h names).IsCell c none)
 |[],_,_,_,_,m=>.inl m
 |(name,kind)::r,h,acc,x,c,m=>by
  unfold cellsFrom at m
  unfold pushCells
  split at m
  ·rename_i hk
   rw [if_pos hk]
   have hk':kind=.cell:=by simpa using hk
   have e:h.objs.size+1=(h.push {cls:=.type "cell",data:=.cell none}).objs.size:=(Ct ..).symm
   rw [e] at m
   rcases M5 r _ _ x c m with q |⟨q1,q2,q3⟩
   ·rcases qa7.mp q with q |q
    ·cases q
     refine .inr ⟨AM _,by rw [hk'];exact AO,?_⟩
     exact (show (h.push {cls:=.type "cell",data:=.cell none}).IsCell h.objs.size none from ⟨_,Bz _ rfl,rfl⟩).keeps fun b o e=>pushCells_keeps _ _ b o e
    ·exact .inl q
   ·exact .inr ⟨by rw [←e] at q1;exact Nat.le_of_succ_le q1,AS _ q2,q3⟩
  ·rename_i hk
   rw [if_neg hk]
   rcases M5 r h acc x c m with q |⟨q1,q2,q3⟩
   ·exact .inl q
   ·exact .inr ⟨q1,AS _ q2,q3⟩
theorem M6:∀(names:List (Str×NameKind)) (h:Heap) (acc:List (Str×Addr)),(∀x c,(x,c)∈acc→c<h.objs.size)→(∀x y c,(x,c)∈acc→(y,c)∈acc→x=y)→
 ∀x y c,(x,c)∈cellsFrom h.objs.size names acc→(y,c)∈cellsFrom h.objs.size names acc→x=y
 |[],_,_,_,i=>i
 |(name,kind)::r,h,acc,lt,i=>by
  unfold cellsFrom
  split
  ·have e:h.objs.size+1=(h.push {cls:=.type "cell",data:=.cell none}).objs.size:=(Ct ..).symm
   rw [e]
   refine M6 r _ _ (fun x c m=>?_) (fun x y c m m'=>?_)
   ·rw [←e]
    rcases qa7.mp m with q |q
    ·cases q;exact Nat.lt_succ_self _
    ·exact Hw (lt x c q)
   ·rcases qa7.mp m with q |q<;>rcases qa7.mp m' with q' |q'
    ·cases q;cases q';rfl
    ·cases q;exact absurd (lt y _ q') (CP _)
    ·cases q';exact absurd (lt x _ q) (CP _)
    ·exact i x y c q q'
  ·exact M6 r h acc lt i
theorem lookup_mem {α:Type} {l:List (Str×α)} {x:Str} {k:α} (nd:(l.map (·.1)).Nodup) (h:(x,k)∈l):l.lookup x=some k:=by
 induction l with
 |nil=>cases h
 |cons p r ih=>
  obtain ⟨y,j⟩:=p
  rw [BM,qbU] at nd
  rw [EB]
  rcases qa7.mp h with e |e
  ·cases e;simp
  ·have:x≠y:=by
    rintro rfl
    exact nd.1 (qaW.mpr ⟨(x,k),e,rfl⟩)
   have hb:(x==y)=false:=by simpa using this
   rw [hb]
   exact ih nd.2 e
theorem Wb {env:Env} {x n:Str} {j:NameKind} {r:List (Str×NameKind)} {k:NameKind} (h:List.lookup x ((if (j==NameKind.free&&env.scope.kind==.function&&env.kindOf n==some .cell)=true then (n,NameKind.cell) else (n,j))::r)=some k):
 (x=n∧(k=j∨(j=.free∧k=.cell)))∨(x≠n∧List.lookup x r=some k):=by
 by_cases hx:x=n
 ·subst hx
  refine .inl ⟨rfl,?_⟩
  split at h
  ·rename_i hc
   rw [EB] at h
   simp only [beq_self_eq_true] at h
   cases h
   simp only [CN] at hc
   exact .inr ⟨by simpa using hc.1.1,rfl⟩
  ·rw [EB] at h
   simp only [beq_self_eq_true] at h
   cases h
   exact .inl rfl
 ·have hb:(x==n)=false:=by simpa using hx
  refine .inr ⟨hx,?_⟩
  split at h<;>(rw [EB] at h;simp only [hb] at h;exact h)
theorem Qn {scope:Scope} {env:Env} {x:Str} {k:NameKind}:(relabel scope env).names.lookup x=some k→∃k0,scope.names.lookup x=some k0∧(k=k0∨(k0=.free∧k=.cell)):=by
 show (scope.names.map _).lookup x=some k→_
 induction scope.names with
 |nil=>intro h;cases h
 |cons p r ih=>
  obtain ⟨n,j⟩:=p
  intro h
  rw [BM] at h
  rw [EB]
  rcases Wb h with ⟨hx,hk⟩ |⟨hx,hr⟩
  ·subst hx
   simp only [beq_self_eq_true]
   exact ⟨j,rfl,hk⟩
  ·have hb:(x==n)=false:=by simpa using hx
   rw [hb]
   exact ih hr
structure Gc (X:Cx) (scope:Scope) (Nc:List Str) (cs:List (Option Nat)):Prop where
 kind:scope.kind=.function
 loc:∀y∈scope.names,y.2=.local→scope.names.lookup y.1=some .local
 free:∀y∈scope.names,y.2=.free→X.env.kindOf y.1=some .cell∨X.env.kindOf y.1=some .free
 nd:(scope.names.map (·.1)).Nodup
 len:cs.length=Nc.length
 out:∀(i:Nat) (x:Str) (j:Nat),Nc[i]?=some x→cs[i]?=some (some j)→X.N[j]?=some x∧scope.names.lookup x=some .free
theorem Wc {a b:Addr} (h:a<b):@LT.lt Nat instLTNat a b:=h
theorem BD {a b:Addr} (h:@LT.lt Nat instLTNat a b):a≠b:=BG h
theorem Fw {a b:Addr} (h:@LT.lt Nat instLTNat a b):b≠a:=Ne.symm (BG h)
section
variable {X:Cx} {pins:List (Addr×Obj)} {σ:L2.St} {H:Hp} {s:Shared}
theorem Qo {scope:Scope} {Nc:List Str} {cs:List (Option Nat)} {fp:List Addr} {cl:List (Str×Addr)} (S:Gc X scope Nc cs) (I:Inv X pins σ H s) (f:∀b∈fp,CQ X pins H b) (ob:∀b∈fp,∃o,s.heap.get? b=some o)
 (hcl:∀x c,(x,c)∈cl→X.env.cells.lookup x=some c∧(x,NameKind.free)∈scope.names) (hcl2:∀y∈scope.names,y.2=.free→∃c,(y.1,c)∈cl) {s3:Shared} (e3:s3={s with heap:=s.heap.push {cls:=.type "list",data:=.seq ([]:List Value).toArray}}):
 Inv (Bf X Nc scope s3.heap.objs.size s.heap.objs.size (cellsFrom (s3.heap.objs.size+1) scope.names cl) fp s3 H pins) [] (Bx cs σ) H
  {s3 with heap:=pushCells (s3.heap.push {cls:=.type "dict",data:=.dict #[]}) scope.names}:=by
 have k3:∀b o,s.heap.get? b=some o→s3.heap.get? b=some o:=fun b o e=>by subst e3;exact AJ _ e
 have Jw:s3.heap.objs.size=s.heap.objs.size+1:=by subst e3;exact Ct ..
 have szd:(s3.heap.push {cls:=.type "dict",data:=.dict #[]}).objs.size=s3.heap.objs.size+1:=Ct ..
 have k34:∀b o,s3.heap.get? b=some o→(pushCells (s3.heap.push {cls:=.type "dict",data:=.dict #[]}) scope.names).get? b=some o:=fun b o e=>pushCells_keeps _ _ b o (AJ _ e)
 have k4:∀b o,s.heap.get? b=some o→(pushCells (s3.heap.push {cls:=.type "dict",data:=.dict #[]}) scope.names).get? b=some o:=fun b o e=>k34 b o (k3 b o e)
 have cllt:∀x c,(x,c)∈cl→c<s.heap.objs.size:=fun x c m=>by
  obtain ⟨v,q⟩:=I.cell x c (hcl x c m).1
  exact q.lt
 have cm:∀x c,(cellsFrom (s3.heap.objs.size+1) scope.names cl).lookup x=some c→(x,c)∈cl∨(s3.heap.objs.size+1≤c∧(x,NameKind.cell)∈scope.names∧(pushCells (s3.heap.push {cls:=.type "dict",data:=.dict #[]}) scope.names).IsCell c none):=fun x c e=>by
  have m:=mem_of_lookup e
  rw [←szd] at m
  have:=M5 scope.names _ cl x c m
  rw [szd] at this
  exact this
 have frs_lt:∀b∈frs X.stack,b<s.heap.objs.size:=fun b hb=>by
  obtain ⟨_,o,ho,_⟩:=I.stack.mem hb
  exact AE ho
 have nfs:∀b,b≠X.env.locals→b∉X.fs→b∉frs X.stack:=fun b h1 h2 hb=>by
  rcases qa7.mp (I.stkSub b hb) with q |q
  ·exact h1 q
  ·exact h2 q
 have ok:(Bf X Nc scope s3.heap.objs.size s.heap.objs.size (cellsFrom (s3.heap.objs.size+1) scope.names cl) fp s3 H pins).Ok:=by
  refine ⟨I.ok.mod,S.kind,I.ok.glob,I.ok.blt,AM _,fun x y c e1 e2=>?_,fun x hx=>?_,fun x c hf e=>?_,I.ok.hd,I.ok.frames,.inl rfl,fun b hb=>?_,fun b o e=>?_,?_,fun b o e hb=>?_,fun b hb=>?_,?_,I.stkFree⟩
  ·have m1:=mem_of_lookup e1
   have m2:=mem_of_lookup e2
   have m1':(x,c)∈cellsFrom (s3.heap.push {cls:=.type "dict",data:=.dict #[]}).objs.size scope.names cl:=by rw [szd];exact m1
   have m2':(y,c)∈cellsFrom (s3.heap.push {cls:=.type "dict",data:=.dict #[]}).objs.size scope.names cl:=by rw [szd];exact m2
   exact M6 scope.names (s3.heap.push {cls:=.type "dict",data:=.dict #[]}) cl (fun x c m=>by rw [szd,Jw];exact AX (cllt x c m) (by omega))
    (fun x y c a b=>I.ok.inj x y c (hcl x c a).1 (hcl y c b).1) x y c m1' m2'
  ·have:∃k,(relabel scope X.env).names.lookup x=some k∧(k=.cell∨k=.free):=by
    rcases hx with q |q
    ·exact ⟨_,q,.inl rfl⟩
    ·exact ⟨_,q,.inr rfl⟩
   obtain ⟨k,e1,hk⟩:=this
   obtain ⟨k0,e0,hk0⟩:=Qn e1
   refine qbN.mp (PySem.W.cellsFrom_some _ _ _ ?_)
   have:k0=.cell∨k0=.free:=by
    rcases hk0 with q |⟨q,_⟩
    ·rw [←q];exact hk
    ·exact .inr q
   rcases this with q |q
   ·subst q;exact .inl e0
   ·subst q
    obtain ⟨c,hc⟩:=hcl2 _ (mem_of_lookup e0) rfl
    refine .inr ?_
    cases hl:cl.lookup x with
    |some c'=>rfl
    |none=>
     exfalso
     have:∀p∈cl,p.1≠x:=fun p hp e=>by
      have h2:=List.lookup_eq_none_iff.mp hl p hp
      rw [e] at h2
      simp at h2
     exact this _ hc rfl
  ·have hk:scope.names.lookup x=some .cell:=by
    have:(scope.names.lookup x==some NameKind.cell)=true:=hf
    simpa using this
   rcases cm x c e with q |⟨q1,_,_⟩
   ·have:=lookup_mem S.nd (hcl x c q).2
    rw [hk] at this
    cases this
   ·exact Nat.le_of_succ_le q1
  ·rcases qa7.mp hb with q |q
   ·subst q
    refine ⟨BD (show _<s3.heap.objs.size by omega),fun x c e=>?_⟩
    rcases cm x c e with q |⟨q1,_,_⟩
    ·exact BG (cllt x c q)
    ·exact Fw (AX (by omega) q1)
   ·obtain ⟨o,ho⟩:=ob b q
    have hlt:=Wc (AE ho)
    refine ⟨BD (show _<s3.heap.objs.size by omega),fun x c e=>?_⟩
    rcases cm x c e with q2 |⟨q1,_,_⟩
    ·exact (f b q).2.2.2.2.1 x c (hcl x c q2).1
    ·exact Fw (AX (by omega) q1)
  ·obtain ⟨h1,h2⟩:=I.bs b o e
   exact ⟨k3 b o h1,h2⟩
  ·show X.base.objs.size≤s3.heap.objs.size
   have:=BA I.ok.bsz I.sz
   omega
  ·obtain ⟨h1,h2⟩:=I.bs b o e
   rcases qa7.mp hb with q |q
   ·exact absurd q (BD (AE h1))
   ·rcases (f b q).2.2.2.1 with z |z
    ·exact I.ok.noex b o e z
    ·exact absurd (AX (AE (I.ok.bs b o e).1) z) (CP _)
  ·rcases qa7.mp hb with q |q
   ·subst q
    intro z
    exact absurd (frs_lt _ z) (CP _)
   ·exact nfs b (f b q).2.1 (f b q).2.2.1
  ·exact I.stack.of_keeps fun b o e _=>⟨o,k3 b o e,rfl⟩
 refine ⟨ok,rfl,?_,?_,?_,fun x c e=>?_,?_,fun x c e=>?_,fun p hp=>?_,I.hok.kept k4,?_⟩
 ·show AllBare s3.gens
  subst e3;exact I.bare
 ·exact Un.kept k34
 ·refine ⟨fun _=>none,(Heap.Ns.new s3.heap (.type "dict")).keeps (pushCells_keeps _ _),fun i x v e1 e2 e3'=>?_⟩
  unfold Bx at e2
  rw [Ca] at e2
  cases ec:cs[i]? with
  |none=>rw [ec] at e2;cases e2
  |some o=>
   rw [ec] at e2
   cases o with
   |none=>cases e2
   |some j=>
    simp only [IV,Option.bind_some,Option.some.injEq] at e2
    have e2':σ[j]?=some (some v):=by
     cases ej:σ[j]? with
     |none=>rw [ej] at e2;cases e2
     |some w=>rw [ej] at e2;simp at e2;rw [e2]
    obtain ⟨hN,hfr⟩:=S.out i x j e1 ec
    have hfm:=mem_of_lookup hfr
    have hkind:=S.free _ hfm rfl
    obtain ⟨m,hn,hl⟩:=I.loc
    obtain ⟨u,r,look⟩:=hl j x v hN e2' (by
     rcases hkind with q |q
     ·exact .inr (.inl q)
     ·exact .inr (.inr q))
    refine ⟨u,r,.inr ?_⟩
    rcases look with ⟨q,_⟩ |⟨_,c,ec',hc⟩
    ·rcases hkind with z |z<;>(rw [q] at z;cases z)
    ·obtain ⟨c',hc'⟩:=hcl2 _ hfm rfl
     have hv:(Bf X Nc scope s3.heap.objs.size s.heap.objs.size (cellsFrom (s3.heap.objs.size+1) scope.names cl) fp s3 H pins).env.kindOf x=some .cell∨(Bf X Nc scope s3.heap.objs.size s.heap.objs.size (cellsFrom (s3.heap.objs.size+1) scope.names cl) fp s3 H pins).env.kindOf x=some .free:=by
      rcases e3' with z |z |z
      ·obtain ⟨k0,a1,a2⟩:=Qn z
       rw [hfr] at a1
       cases a1
       rcases a2 with a2 |⟨_,a2⟩<;>cases a2
      ·exact .inl z
      ·exact .inr z
     refine ⟨hv,c,?_,hc.keeps k4⟩
     obtain ⟨c2,h2⟩:=ok.has x hv
     rw [h2]
     rcases cm x c2 h2 with q |⟨_,q,_⟩
     ·rw [←ec',(hcl x c2 q).1]
     ·have:=lookup_mem S.nd q
      rw [hfr] at this
      cases this
 ·rcases cm x c e with q |⟨_,_,q⟩
  ·obtain ⟨v,z⟩:=I.cell x c (hcl x c q).1
   exact ⟨v,z.keeps k4⟩
  ·exact ⟨none,q⟩
 ·exact I.hok.fresh (show s.heap.objs.size≤s3.heap.objs.size by omega)
 ·rcases cm x c e with q |⟨q,_,_⟩
  ·exact I.freeC x c (hcl x c q).1
  ·exact I.hok.fresh (by omega)
 ·have hp':p∈X.pn++pins:=by
   rcases qb2.mp hp with q |q
   ·exact q
   ·exact absurd q (by simp)
  obtain ⟨a1,a2,a3,a4,a5⟩:=I.pin p hp'
  refine ⟨k4 _ _ a1,a2,?_,nfs p.1 a3 a4,a5⟩
  show p.1≠s3.heap.objs.size
  exact BD (AX (AE a1) (by omega))
 ·show (Bx cs σ).length=Nc.length
  simp [Bx,S.len]
end
section
variable {X:Cx} {elt tg iter:Expr} {ifs:List Expr} {scope:Scope} {pos:Pos} {Nc:List Str} {cs:List (Option Nat)} {wi:TI} {g:TG} {tc:TT} {te:TE}
theorem Qp {pins:List (Addr×Obj)} {σ:L2.St} {H H':Hp} {s s3 s':Shared} {fp:List Addr} {C:Addr} {cells:List (Str×Addr)} {po:List (Addr×Obj)} {σc:L2.St} {acc:List V} {its:List Value} {n:Nat}
 (I:Inv X pins σ H s) (f:∀b∈fp,CQ X pins H b) (e3:s3={s with heap:=s.heap.push {cls:=.type "list",data:=.seq ([]:List Value).toArray}}) (hC:C=s3.heap.objs.size)
 (I':Inv (Bf X Nc scope C s.heap.objs.size cells fp s3 H pins) po σc H' s') (hD:H' s.heap.objs.size=none) (hl:acc.length≤sizeLine) (rv:Vals acc its) (ho:s'.heap.get? s.heap.objs.size=some {cls:=.type "list",data:=.seq its.toArray n})
 {h':Heap} (sb:Heap.SameBut C s'.heap h'):Inv X pins σ (Ak H' s.heap.objs.size (.lst acc)) {s' with heap:=h'}:=by
 have k3:∀b o,s.heap.get? b=some o→s3.heap.get? b=some o:=fun b o e=>by subst e3;exact AJ _ e
 have Jw:s3.heap.objs.size=s.heap.objs.size+1:=by subst e3;exact Ct ..
 have F5:∀b o,s.heap.get? b=some o→b≠s.heap.objs.size:=fun b o e=>BD (AE e)
 have neC:∀b o,s.heap.get? b=some o→b≠C:=fun b o e=>by rw [hC];exact BD (AX (AE e) (by omega))
 have DC:s.heap.objs.size≠C:=by rw [hC];exact BD (by omega)
 have U:Un (frs X.stack) (s.heap.objs.size::fp) H H' s3.heap s'.heap:=I'.base
 have exn:∀b o,s.heap.get? b=some o→b∉fp→b∉s.heap.objs.size::fp:=fun b o e hx hb=>by
  rcases qa7.mp hb with z |z
  ·exact F5 b o e z
  ·exact hx z
 have neT:∀b u,H' b=some u→b≠s.heap.objs.size:=fun b u e=>BB e hD
 have hCn:H' C=none:=I'.free
 refine I.call' (s':={s' with heap:=h'}) (ch:=fp) ?_ ?_ ?_ I'.bare ?_
 ·show s'.os=s.os
  have:=I'.os
  rw [this]
  show s3.os=s.os
  subst e3;rfl
 ·refine ⟨fun b o e nn hb hx=>?_,fun b o e nn hb hx=>?_,fun b o e nn hx=>?_,fun b o e hx=>?_,fun b xs e=>?_,fun b o u e=>?_,fun b ps e=>?_⟩
  ·exact (sb.2 b (neC b o e)).trans (U.keep b o (k3 b o e) nn hb (exn b o e hx))
  ·obtain ⟨sl,z⟩:=U.slot b o (k3 b o e) nn hb (exn b o e hx)
   exact ⟨sl,(sb.2 b (neC b o e)).trans z⟩
  ·rw [Al (F5 b o e)]
   exact U.free b o (k3 b o e) nn (exn b o e hx)
  ·obtain ⟨o',z⟩:=U.there b o (k3 b o e) (exn b o e hx)
   exact ⟨o',(sb.2 b (neC b o e)).trans z⟩
  ·have z:=U.tups b xs e
   rw [Al (neT b _ z)]
   exact z
  ·have z:=U.frzs b o u e
   rw [Al (neT b _ z)]
   exact z
  ·obtain ⟨more,z⟩:=U.tbls b ps e
   exact ⟨more,by rw [Al (neT b _ z)];exact z⟩
 ·intro b u e
  by_cases hb:b=s.heap.objs.size
  ·subst hb
   rw [Bo] at e
   cases e
   exact ⟨hl,its,n,rv,(sb.2 _ DC).trans ho⟩
  ·rw [Al hb] at e
   refine (I'.hok b u e).stay (fun c v hc z=>(sb.2 c ?_).trans z) (fun c z=>by rw [Al (neT c _ z)];exact z) fun c xs z=>by rw [Al (neT c _ z)];exact z
   rcases hc with rfl |hc
   ·exact BB e hCn
   ·exact BB hc hCn
 ·intro b hb
  obtain ⟨_,f1,_,f3,f4,f5⟩:=f b hb
  exact ⟨f3,f1,f4,f5⟩
inductive Qq (W:Nat→Nat→List V→Hp→Prop) (Xc:Cx) (σc:L2.St) (tn:Nat→Heap→Prop) (fp:List Addr) (Da:Addr) (n:Nat) (s':Shared):Prop where
 |mk (i:Nat) (acc:List V) (H':Hp) (its:List Value) (k:Nat) (w:W i n acc H') (ii:Inv Xc [] σc H' s') (st:tn i s'.heap) (fr:∀b∈fp,H' b=none) (hD:H' Da=none) (rv:Vals acc its) (ho:s'.heap.get? Da=some {cls:=.type "list",data:=.seq its.toArray k}):Qq W Xc σc tn fp Da n s'
theorem Qr {use:Option (Value→Sem Unit)} {QQ:Value→Shared→Prop} {ppos:Pos} {pins:List (Addr×Obj)} {s:Shared} {σ:L2.St} {H:Hp} {Q:VK} (hcalm:X.calm=true) (S:Gc X scope Nc cs) (hi:PI X tg iter wi)
 (hb:∀(C D:Addr) (cells:List (Str×Addr)) (fp:List Addr) (s₀:Shared) (H₀:Hp) (pins:List (Addr×Obj)),PG (Bf X Nc scope C D cells fp s₀ H₀ pins) tg g∧Gb (Bf X Nc scope C D cells fp s₀ H₀ pins) ifs tc∧PE (Bf X Nc scope C D cells fp s₀ H₀ pins) elt te)
 (hsf:∀x,foldedSetIterable iter X.env x=pure x) (I:Inv X pins σ H s) (h:KY cs wi g tc te σ H Q)
 (AW:∀(s6:Shared) (C D:Addr) (H7:Hp) (m6:Str→Option Value),s6.heap.Ns C m6→H7 C=none→X.s₀.heap.objs.size≤C→C≠X.env.locals→(∀x c,X.env.cells.lookup x=some c→c≠C)→(∀p∈X.pn++pins,p.1≠C)→
  (∀h',Heap.SameBut C s6.heap h'→Inv X pins σ H7 {s6 with heap:=h'})→Q (.ref D) H7→compPost (model X.prog X.w) X.A X.xe use QQ (.ref D) C (.ok .next) s6):
 wpAny (model X.prog X.w) X.A (comprehension (.ListComp elt [⟨tg,iter,ifs,0⟩] scope pos) scope X.env ppos (newList []) false (eval iter X.env) use) QQ X.xe s:=by
 obtain ⟨cl,hclos,hcl,hcl2⟩:=M4 (scope:=scope) (env:=X.env) fun y hy hf=>I.ok.has y.1 (S.free y hy hf)
 refine wpAny_comprehension_free (use:=use) rfl hsf hclos S.kind S.loc (Aw (hi pins s σ H _ I h) fun xv s1 h1=>Aw h1 fun itv s2 h2=>?_)
 obtain ⟨it,fp,tn,J,H2,e,I2,T,Dk,f2,W,⟨n0,w0⟩,CM⟩:=h2
 subst e
 refine wpAny_newObj_type ?_
 generalize e3:({s2 with heap:=s2.heap.push {cls:=.type "list",data:=.seq ([]:List Value).toArray}}:Shared)=s3
 refine Ql ?_
 have ob2:∀b∈fp,∃o,s2.heap.get? b=some o:=fun b hb=>let ⟨o,e,_⟩:=T.obj _ _ Dk b hb;⟨o,e⟩
 have I4:=Qo (fp:=fp) (cl:=cl) S I2 f2 ob2 hcl hcl2 e3.symm
 generalize e4:({s3 with heap:=pushCells (s3.heap.push {cls:=.type "dict",data:=.dict #[]}) scope.names}:Shared)=s4 at I4
 generalize ecl:cellsFrom (s3.heap.objs.size+1) scope.names cl=cells at I4
 obtain ⟨pg,pt,pe⟩:=hb s3.heap.objs.size s2.heap.objs.size cells fp s3 H2 pins
 generalize eX:Bf X Nc scope s3.heap.objs.size s2.heap.objs.size cells fp s3 H2 pins=Xc at I4 pg pt pe
 have xP:Xc.prog=X.prog:=by subst eX;rfl
 have xw:Xc.w=X.w:=by subst eX;rfl
 have xK:Xc.K=X.K:=by subst eX;rfl
 have xA:Xc.A=X.A:=by subst eX;rfl
 have xE:Xc.env=Qm X.env scope s3.heap.objs.size cells:=by subst eX;rfl
 have xL:Xc.env.locals=s3.heap.objs.size:=by subst eX;rfl
 have xe:Xc.xe=fun _ _=>False:=by subst eX;rfl
 have xc:Xc.calm=true:=by subst eX;exact hcalm
 have xex:Xc.ex=s2.heap.objs.size::fp:=by subst eX;rfl
 have okc:=I4.ok
 have k3:∀b o,s2.heap.get? b=some o→s3.heap.get? b=some o:=fun b o e=>by subst e3;exact AJ _ e
 have Jw:s3.heap.objs.size=s2.heap.objs.size+1:=by subst e3;exact Ct ..
 have k34:∀b o,s3.heap.get? b=some o→s4.heap.get? b=some o:=fun b o e=>by subst e4;exact pushCells_keeps _ _ b o (AJ _ e)
 have hDC:s2.heap.objs.size≠Xc.env.locals:=by rw [xL];exact BD (by omega)
 have hDcell:∀x c,Xc.env.cells.lookup x=some c→c≠s2.heap.objs.size:=fun x c e=>(okc.exf _ (by rw [xex];exact AO)).2 x c e
 have hDpin:∀p∈Xc.pn,p.1≠s2.heap.objs.size:=fun p hp=>by
  have hp':p∈X.pn++pins:=by subst eX;exact hp
  exact BD (AE (I2.pin p hp').1)
 have hDfp:s2.heap.objs.size∉fp:=fun hm=>by
  obtain ⟨o,e⟩:=ob2 _ hm
  exact absurd (AE e) (CP _)
 have hDex:s2.heap.objs.size∈Xc.ex:=by rw [xex];exact AO
 have hDfs:s2.heap.objs.size∉Xc.fs:=okc.exfs _ hDex
 have fpC:∀{po:List (Addr×Obj)} {H':Hp},(∀b∈fp,H' b=none)→(∀p∈po,p.1=s2.heap.objs.size)→∀b∈fp,CQ Xc po H' b:=fun {po H'} hn hp b hb=>by
  have hbx:b∈Xc.ex:=by rw [xex];exact AS _ hb
  refine ⟨hn b hb,(okc.exf b hbx).1,okc.exfs b hbx,.inl hbx,(okc.exf b hbx).2,fun p hpp=>?_⟩
  rcases qb2.mp hpp with z |z
  ·have hp':p∈X.pn++pins:=by subst eX;exact z
   exact (f2 b hb).2.2.2.2.2 p hp'
  ·rw [hp p z]
   intro e
   exact hDfp (e ▸ hb)
 have loop:∀sx,sx=s4→codeAny (model X.prog X.w) X.A (.compLoop (.ListComp elt [⟨tg,iter,ifs,0⟩] scope pos) 0 (.ref it) (.ref s2.heap.objs.size) Xc.env)
  (compPost (model X.prog X.w) X.A X.xe use QQ (.ref s2.heap.objs.size) s3.heap.objs.size) sx:=by
  rintro sx rfl
  refine V8 (Qq W Xc (Bx cs σ) tn fp s2.heap.objs.size) ?_ n0
   ⟨0,[],H2,[],0,w0,I4,?_,fun b hb=>(f2 b hb).1,I2.hok.fresh (AM _),.nil,?_⟩
  ·rintro n s5 ⟨i,acc,H5,its,k,w5,I5,Ez,fr5,hD5,rv5,ho5⟩
   have pin1:Inv Xc [(s2.heap.objs.size,{cls:=.type "list",data:=.seq its.toArray k})] (Bx cs σ) H5 s5:=I5.pins_of fun p hp=>by
    rw [qaD] at hp
    subst hp
    exact ⟨ho5,hD5,hDC,hDfs,fun v z=>by cases z⟩
   have pone:∀p∈[((s2.heap.objs.size:Addr),({cls:=.type "list",data:=.seq its.toArray k}:Obj))],p.1=s2.heap.objs.size:=fun p hp=>by
    rw [qaD] at hp;subst hp;rfl
   rcases CM i n acc H5 w5 with ⟨stop,hlen,qn⟩ |⟨go,hlen,step⟩
   ·have z1:=T.done Xc xP xw xK xc i _ s5 (Bx cs σ) H5 (fun _ _=>False) pin1 (fpC fr5 pone) Ez stop
    rw [xA] at z1
    refine wpAny_mono z1 (fun r s6 z1_=>?_) fun _ _ z=>False.elim z
    obtain ⟨hr,I6⟩:=z1_
    subst hr
    obtain ⟨m6,hn6,_⟩:=I6.loc
    obtain ⟨ho6,hD6,_⟩:=I6.pin _ (Bt _ AO)
    rw [xL] at hn6
    have lt2:∀b,b<s2.heap.objs.size→b≠s3.heap.objs.size:=fun b hb=>BD (AX hb (by omega))
    refine AW s6 s3.heap.objs.size s2.heap.objs.size (Ak H5 s2.heap.objs.size (.lst acc)) m6 hn6 ?_ (BA I2.sz (by omega)) ?_ ?_ ?_ ?_ (qn _ hD6)
    ·rw [Al (Fw (by omega))]
     have:=I6.free
     rw [xL] at this
     exact this
    ·obtain ⟨m2,hn2,_⟩:=I2.loc
     exact Ne.symm (lt2 _ hn2.lt)
    ·intro x c hx
     obtain ⟨v,hv⟩:=I2.cell x c hx
     obtain ⟨o,ho,_⟩:=hv
     exact lt2 _ (AE ho)
    ·intro p hp
     exact lt2 _ (AE (I2.pin p hp).1)
    ·intro h' sb
     subst eX
     exact Qp I2 f2 e3.symm rfl I6 hD6 hlen rv5 ho6 sb
   ·have z1:=T.item Xc xP xw xK xc i _ s5 (Bx cs σ) H5 (fun _ _=>False) pin1 (fpC fr5 pone) Ez go
    rw [xA] at z1
    refine wpAny_mono z1 (fun r s6 z2_=>?_) fun _ _ z=>False.elim z
    obtain ⟨u,hr,h6⟩:=z2_
    subst hr
    refine wpAny_mono h6 (fun _ s7 z3_=>?_) fun _ _ z=>False.elim z
    obtain ⟨x,H7,I7,r7,y7,FO,fr7⟩:=z3_
    have I7':=I7.pinned (fp:=fp) (fpC fr7 pone) (T.obj _ _ FO)
    have z2:=pg _ s7 (Bx cs σ) H7 x u _ I7' r7 (step x H7 y7)
    rw [xP,xw,xA,xe] at z2
    refine wpAny_mono z2 (fun _ s8 z4_=>?_) fun _ _ z=>False.elim z
    obtain ⟨σ8,H8,I8,sub8,q8⟩:=z4_
    have z3:=pt _ s8 σ8 H8 _ I8 q8
    rw [xP,xw,xA,xe] at z3
    refine wpAny_mono z3 (fun ok s9 z5_=>?_) fun _ _ z=>False.elim z
    obtain ⟨H9,I9,q9⟩:=z5_
    have back:∀{sy:Shared} {Hy:Hp},Inv Xc ([(s2.heap.objs.size,{cls:=.type "list",data:=.seq its.toArray k})]++FX fp s7.heap) σ8 Hy sy→
     Inv Xc [] (Bx cs σ) Hy sy∧tn (i+1) sy.heap∧(∀b∈fp,Hy b=none)∧Hy s2.heap.objs.size=none∧sy.heap.get? s2.heap.objs.size=some {cls:=.type "list",data:=.seq its.toArray k}:=fun {sy Hy} Iy=>by
     obtain ⟨ho,hD,_⟩:=Iy.pin _ (Bt _ (Gv _ AO))
     refine ⟨(Iy.pins_of fun p hp=>absurd hp (by simp)).weak (sub8.1) (fun j v z=>sub8.2 j v z),T.keep _ _ _ FO fun b hb o e=>(Iy.pin (b,o) (Bt _ (Bt _ (Jc hb e)))).1,fun b hb=>?_,hD,ho⟩
     obtain ⟨o,e,_⟩:=T.obj _ _ FO b hb
     exact (Iy.pin (b,o) (Bt _ (Bt _ (Jc hb e)))).2.1
    cases ok with
    |false=>
     simp only [CH,if_false] at q9 ⊢
     obtain ⟨n',hn',w'⟩:=q9
     obtain ⟨a1,a2,a3,a4,a5⟩:=back I9
     exact ⟨n',hn',i+1,acc,H9,its,k,w',a1,a2,a3,a4,rv5,a5⟩
    |true=>
     simp only [if_true] at q9 ⊢
     have z4:=pe _ s9 σ8 H9 _ I9 q9
     rw [xP,xw,xA,xe] at z4
     refine wpAny_mono z4 (fun y s10 z6_=>?_) fun _ _ z=>False.elim z
     obtain ⟨yv,H10,I10,r10,n',hn',w'⟩:=z6_
     obtain ⟨a1,a2,a3,a4,a5⟩:=back I10
     have hlen':=rv5.length
     refine wpAny_list_append_plain ⟨k,a5⟩ (fun h' ⟨k',hl'⟩ sb=>?_) (by rw [A5];omega)
     have tu:Inv Xc [] (Bx cs σ) H10 {s10 with heap:=h'}:=a1.turned (t':=s10.toks) (it:=s2.heap.objs.size) (fun b o hb e=>(sb.2 b hb).trans e) a4 hDC (.inl hDex) hDcell (fun p hp=>by
      rcases qb2.mp hp with z |z
      ·exact hDpin p z
      ·exact absurd z (by simp))
     refine ⟨n',hn',i+1,acc++[yv],H10,its++[y],k',w',tu,T.keep _ _ _ a2 (fun b hb o e=>(sb.2 b (fun z=>hDfp (z ▸ hb))).trans e),a3,a4,rv5.append (.cons r10 .nil),?_⟩
     rw [hl']
     simp
  ·exact T.keep _ _ _ Dk fun b hb o e=>k34 b o (k3 b o e)
  ·refine k34 _ _ ?_
   subst e3
   exact Bz _ rfl
 have AW:=loop s4 rfl
 have hst4:tn 0 s4.heap:=T.keep _ _ _ Dk fun b hb o e=>k34 b o (k3 b o e)
 rw [xE] at AW
 have:=codeAny_compStart_list AW (T.self X.A 0 s4 _ _ hst4 AW)
 exact this
theorem Wd (hcalm:X.calm=true) (S:Gc X scope Nc cs) (hi:PI X tg iter wi)
 (hb:∀(C D:Addr) (cells:List (Str×Addr)) (fp:List Addr) (s₀:Shared) (H₀:Hp) (pins:List (Addr×Obj)),PG (Bf X Nc scope C D cells fp s₀ H₀ pins) tg g∧Gb (Bf X Nc scope C D cells fp s₀ H₀ pins) ifs tc∧PE (Bf X Nc scope C D cells fp s₀ H₀ pins) elt te)
 (hsf:∀x,foldedSetIterable iter X.env x=pure x:=by intro _;rfl):PE X (.ListComp elt [⟨tg,iter,ifs,0⟩] scope pos) (KY cs wi g tc te):=by
 intro pins s σ H Q I h
 rw [eval_ListComp]
 exact Qr (use:=none) hcalm S hi hb hsf I h fun s6 C D H7 m6 hn _ _ _ _ _ inv q=>⟨m6,hn,fun h' sb=>⟨.ref D,H7,inv h' sb,rfl,q⟩⟩
end
def noErr {α:Type}:Out α→Out α
 |.ok a h=>.ok a h
 |_=>.stuck
@[simp] theorem Zcn {α:Type} (a:α) (h:HD):noErr (.ok a h)=.ok a h:=rfl
theorem HW {α β γ δ:Type} {K:PySem.W.Frag} {R:List Addr→Hp→α→β→Prop} {R':List Addr→Hp→γ→δ→Prop} {m:List Addr} {H:Hp} {E:XK} {Q:δ→Hp→Prop} {Q':β→Hp→Prop} {o:Out α} {k:α→HD→Out γ}
 (h:Post K R' m H E Q ((noErr o).bind k)) (f:∀a h1 v m1 H1,o=.ok a h1→m <+:m1→Kp H H1→HR K m1 h1 H1→R m1 H1 a v→Post K R' m1 H1 E Q (k a h1)→Q' v H1):Post K R m H E0 Q' o:=by
 cases o with
 |ok a h1=>exact fun v m1 H1 p kk hr r=>f a h1 v m1 H1 rfl p kk hr r (Post.ahead p kk h)
 |err C fs h1=>exact False.elim h
 |stuck=>exact False.elim h
def B5 (cs:List (Option Nat)) (ρ:Ah):Ah:=cs.map fun o=>o.bind fun j=>(ρ[j]?).join
theorem join_some {α:Type} {l:List (Option α)} {j:Nat} {a:α}:(l[j]?).join=some a↔l[j]?=some (some a):=by
 cases h:l[j]? with
 |none=>simp
 |some o=>simp
theorem ER.comp {K:PySem.W.Frag} {m:List Addr} {H:Hp} {ρ:Ah} {σ:L2.St} (cs:List (Option Nat)) (er:ER K m H ρ σ):ER K m H (B5 cs ρ) (Bx cs σ):=by
 refine ⟨by simp [B5,Bx],fun i d e=>?_⟩
 unfold B5 at e
 rw [Ca] at e
 cases ec:cs[i]? with
 |none=>rw [ec] at e;cases e
 |some o=>
  rw [ec] at e
  cases o with
  |none=>cases e
  |some j=>
   simp only [IV,Option.bind_some,Option.some.injEq] at e
   obtain ⟨v,e1,r⟩:=er.2 j d (join_some.mp e)
   refine ⟨v,?_,r⟩
   unfold Bx
   rw [Ca,ec]
   simp only [IV,Option.bind_some,Option.some.injEq]
   exact join_some.mpr e1
theorem Sub.set {cs:List (Option Nat)} {σ:L2.St} {σ':L2.St} {i:Nat} {v:V} (h:cs[i]?=some none) (s:Sub (Bx cs σ) σ'):Sub (Bx cs σ) (σ'.set i (some v)):=by
 refine ⟨by rw [s.1];simp,fun j w e=>?_⟩
 have hj:i≠j:=by
  rintro rfl
  unfold Bx at e
  rw [Ca,h] at e
  cases e
 rw [BU hj]
 exact s.2 j w e
theorem Sub.refl (σ:L2.St):Sub σ σ:=⟨rfl,fun _ _ h=>h⟩
def Jt (K:PySem.W.Frag) (cs:List (Option Nat)) (gg:TG) (sg:MG):Prop:=
 ∀m H d v ρ σ0 ρ' Q,DV K m H d v→ER K m H ρ (Bx cs σ0)→sg d ρ=some ρ'→(∀σ',Sub (Bx cs σ0) σ'→ER K m H ρ' σ'→Q σ' H)→gg v (Bx cs σ0) H Q
theorem Cp {K:PySem.W.Frag} {cs:List (Option Nat)} {i:Nat} (h:cs[i]?=some none):Jt K cs (Cu i) (AG i):=fun m H d v ρ σ0 ρ' Q r er e q=>by
 simp only [AG,Option.some.injEq] at e
 subst e
 exact q _ ((Sub.refl _).set h) (er.set r)
theorem GI {K:PySem.W.Frag} {cs:List (Option Nat)} {i j:Nat} (h:cs[i]?=some none) (h':cs[j]?=some none):Jt K cs (GC K 2 (DN (Cu i) (DN (Cu j) GB))) (BV i j):=fun m H d v ρ σ0 ρ' Q r er e q=>by
 unfold BV at e
 split at e
 ·rename_i a b
  cases e
  simp only [DV,DVs] at r
  obtain ⟨p,vs,rfl,hp,v1,w1,rfl,r1,v2,w2,rfl,r2,rfl⟩:=r
  exact ⟨p,_,rfl,SqT.of hp,rfl,v1,_,rfl,v2,_,rfl,rfl,q _ (((Sub.refl _).set h).set h') ((er.set r1).set r2)⟩
 ·cases e
abbrev HX (X:Cx) (E:XK) (ifs:List Expr) (t:MT):Prop:=Gb X ifs (EN X.K E t)
def AN:MT:=fun _ h=>.ok true h
theorem BE {X:Cx} {E:XK}:HX X E [] AN:=fun pins s σ H Q I z1_=>by obtain ⟨m,ρ,h,hr,er,p⟩:=z1_;exact (V9 pins s σ H Q I (p true m H (AH _) (.refl _) hr rfl))
theorem Qs {X:Cx} {E:XK} {c:Expr} {t:MT} (h:EO X E c t):HX X E [c] t:=Wa h
open Classical in
noncomputable def DG (src:A8) (items:List D) (sg:MG) (t:MT) (f:ME) (ρc:Ah):List D→HD→Out (List D)
 |[],h=>if Bs src items h then .ok [] h else .stuck
 |d::ds,h=>if Bs src items h then match sg d ρc with
   |none=>.stuck
   |some ρ1=>(noErr (t ρ1 h)).bind fun b h1=>if b=true then (noErr (f ρ1 h1)).bind fun y h2=>(DG src items sg t f ρc ds h2).bind fun ys h3=>.ok (y::ys) h3 else DG src items sg t f ρc ds h1
  else .stuck
noncomputable def AB (cs:List (Option Nat)) (it:MI) (sg:MG) (t:MT) (f:ME):ME:=fun ρ h=>(it ρ h).bind fun x h1=>if x.1.length≤sizeLine then (DG x.2 x.1 sg t f (B5 cs ρ) x.1 h1).bind CI else .stuck
theorem Out.bind_assoc {α β γ:Type} (o:Out α) (k:α→HD→Out β) (l:β→HD→Out γ):(o.bind k).bind l=o.bind fun a h=>(k a h).bind l:=by cases o<;>rfl
section
variable {X:Cx} {E:XK} {elt tg iter:Expr} {ifs:List Expr} {scope:Scope} {pos:Pos} {Nc:List Str} {cs:List (Option Nat)} {it:MI} {gg:TG} {sg:MG} {t:MT} {f:ME}
inductive Qt (K:PySem.W.Frag) (E:XK) (Q:VK) (src:A8) (items:List D) (sg:MG) (t:MT) (f:ME) (ρc:Ah) (m1:List Addr) (H1:Hp) (i n:Nat) (acc:List V) (H2:Hp):Prop where
 |mk (e:n=items.length - i) (l:i≤items.length) (a:acc.length≤i) (m2:List Addr) (h2:HD) (dacc:List D) (p:m1 <+:m2) (k:Kp H1 H2) (hr:HR K m2 h2 H2) (da:DVs K m2 H2 dacc acc) (q:Post K (rD K) m2 H2 E Q ((DG src items sg t f ρc (items.drop i) h2).bind fun ys h3=>CI (dacc++ys) h3)):Qt K E Q src items sg t f ρc m1 H1 i n acc H2
theorem Qu (hg:Jt X.K cs gg sg):∀σ H Q,tD X.K E (AB cs it sg t f) σ H Q→KY cs (tM X.K (F8 X.K) E it) gg (EN X.K E0 t) (tD X.K E0 f) σ H Q:=by
 refine ?_
 rintro σ H Q ⟨m,ρ,h,hr,er,p⟩
 refine ⟨m,ρ,h,hr,er,Post.bind p fun x h1 J m1 H1 _ p1 k1 hr1 r1 q1=>?_⟩
 obtain ⟨items,src⟩:=x
 dsimp only at q1
 split at q1
 ·rename_i hz
  have er1:ER X.K m1 H1 (B5 cs ρ) (Bx cs σ):=(er.keep p1 k1).comp cs
  refine ⟨Qt X.K E Q src items sg t f (B5 cs ρ) m1 H1,
   ⟨items.length,rfl,EF _,AM _,m1,h1,[],AH _,.refl _,hr1,.nil,by simpa using q1⟩,?_⟩
  rintro i n acc H2 ⟨rfl,hi',ha,m2,h2,dacc,p2,k2,hr2,da,q2⟩
  by_cases hlt:i<items.length
  ·rw [Kj hlt] at q2
   unfold DG at q2
   split at q2
   ·rename_i hs
    obtain ⟨hgo,hy⟩:=(r1 i m2 h2 H2 p2 k2 hr2 hs).1 hlt
    refine .inr ⟨hgo,by omega,fun y H3 hyl=>?_⟩
    obtain ⟨k3,hr3,d,ed,rd⟩:=hy y H3 hyl
    have ed':d=items[i]:=by rw [Bb hlt] at ed;exact (Option.some.inj ed).symm
    subst ed'
    split at q2
    ·exact q2.elim
    ·rename_i ρ3 es
     have er3:ER X.K m2 H3 (B5 cs ρ) (Bx cs σ):=er1.keep p2 (k2.trans k3)
     refine hg m2 H3 _ y (B5 cs ρ) σ ρ3 _ rd er3 es fun σ4 sub4 er4=>⟨sub4,m2,ρ3,h2,hr3,er4,?_⟩
     rw [Out.bind_assoc] at q2
     refine HW (Post.ahead (AH _) k3 q2) fun b h5 v m5 H5 _ p5 k5 hr5 r5 q5=>?_
     cases r5
     cases b with
     |false=>
      simp only [CH,if_false] at q5 ⊢
      exact ⟨items.length - (i+1),by omega,rfl,hlt,by omega,m5,h5,dacc,p2.trans p5,(k2.trans k3).trans k5,hr5,DVs.keep p5 (k3.trans k5) da,q5⟩
     |true=>
      simp only [if_true] at q5 ⊢
      rw [Out.bind_assoc] at q5
      refine ⟨m5,ρ3,h5,hr5,er4.keep p5 k5,HW q5 fun z h6 w m6 H6 _ p6 k6 hr6 r6 q6=>?_⟩
      refine ⟨items.length - (i+1),by omega,rfl,hlt,by simp;omega,m6,h6,dacc++[z],(p2.trans p5).trans p6,((k2.trans k3).trans k5).trans k6,hr6,(DVs.keep (p5.trans p6) ((k3.trans k5).trans k6) da).app (.cons r6 .nil),?_⟩
      rw [Out.bind_assoc] at q6
      simp only [Out.bind_ok] at q6
      simpa using q6
   ·exact q2.elim
  ·have he:i=items.length:=Nat.le_antisymm hi' (Hx hlt)
   subst he
   rw [List.drop_length] at q2
   unfold DG at q2
   split at q2
   ·rename_i hs
    simp only [Out.bind_ok,ED] at q2
    obtain ⟨z1,z2⟩:=HN hr2 da q2
    exact .inl ⟨(r1 _ m2 h2 H2 p2 k2 hr2 hs).2 rfl,z1,z2⟩
   ·exact q2.elim
 ·exact q1.elim
theorem B6 (hcalm:X.calm=true) (S:Gc X scope Nc cs) (hi:EW X E tg iter it) (hg:Jt X.K cs gg sg)
 (hb:∀(C D:Addr) (cells:List (Str×Addr)) (fp:List Addr) (s₀:Shared) (H₀:Hp) (pins:List (Addr×Obj)),PG (Bf X Nc scope C D cells fp s₀ H₀ pins) tg gg∧HX (Bf X Nc scope C D cells fp s₀ H₀ pins) E0 ifs t∧Ev (Bf X Nc scope C D cells fp s₀ H₀ pins) E0 elt f)
 (hsf:∀x,foldedSetIterable iter X.env x=pure x:=by intro _;rfl):Ev X E (.ListComp elt [⟨tg,iter,ifs,0⟩] scope pos) (AB cs it sg t f):=by
 exact B3 (Wd (g:=gg) (tc:=EN X.K E0 t) (te:=tD X.K E0 f) hcalm S hi hb hsf) (Qu hg)
theorem Ju {i:Nat} {x:Str} {pos' pos2:Pos} (hcalm:X.calm=true) (hN:X.N.Nodup) (hix:X.N[i]?=some x) (hx:FU X.env.scope x) (S:Gc X scope Nc cs) (hi:EW X E tg iter it) (hg:Jt X.K cs gg sg)
 (hb:∀(C D:Addr) (cells:List (Str×Addr)) (fp:List Addr) (s₀:Shared) (H₀:Hp) (pins:List (Addr×Obj)),PG (Bf X Nc scope C D cells fp s₀ H₀ pins) tg gg∧HX (Bf X Nc scope C D cells fp s₀ H₀ pins) E0 ifs t∧Ev (Bf X Nc scope C D cells fp s₀ H₀ pins) E0 elt f)
 (hsf:∀x,foldedSetIterable iter X.env x=pure x:=by intro _;rfl) (hsw:swapsWith (.ListComp elt [⟨tg,iter,ifs,0⟩] scope pos) (some (.Name x pos')) pos2.line X.env=pure true:=by rfl)
 (hf:X.fn x=true∨X.env.scope.names.lookup x=some .local:=by first |exact .inl rfl |exact .inr rfl |assumption):Ex X E (.Assign [.Name x pos'] (.ListComp elt [⟨tg,iter,ifs,0⟩] scope pos) pos2) (Aq i (AB cs it sg t f)):=by
 rintro pins s σ H D I ⟨m,ρ,h,hr,er,p⟩
 have hq:KY cs (tM X.K (F8 X.K) E it) gg (EN X.K E0 t) (tD X.K E0 f) σ H (fun v H1=>D.nx (σ.set i (some v)) H1):=Qu hg σ H _ ⟨m,ρ,h,hr,er,PostS.bind p fun y h1 v m1 H1 _ p1 k1 hr1 r1 q1=>(q1.here hr1) _ ((er.keep p1 k1).set r1)⟩
 rw [exec_Assign_Name_used _ _ _ _ hsw]
 refine wpAny_bind (wpAny_standAt (wpAny_bind ?_))
 show wpAny _ X.A (do let _ ←comprehension (.ListComp elt [⟨tg,iter,ifs,0⟩] scope pos) scope X.env _ (newList []) false (eval iter X.env) (some (assign (.Name x pos') X.env))) _ _ s
 refine wpAny_bind (wpAny_mono (Qr (QQ:=fun _ s'=>SP X pins D .next s') hcalm S hi hb hsf I hq fun s6 C Dd H7 m6 hn hC h0 hL hc hp inv q=>?_) (fun _ s' z=>wpAny_pure (wpAny_pure z)) fun _ _ z=>z)
 have I6:Inv X pins σ H7 s6:=inv s6.heap ⟨rfl,fun _ _=>rfl⟩
 refine wpAny_assign_Name (IY I6 hN hix hx (v:=.ref Dd) rfl (fun s7 I7 z3_=>?_) hf)
 obtain ⟨a,sb7,ha⟩:=z3_
 have nCa:C≠a:=by
  rcases ha with z |z
  ·rw [z];exact hL
  ·exact Ne.symm (hc x a z)
 obtain ⟨o,es,ep,e1,e2⟩:=hn
 refine ⟨m6,⟨o,es,ep,(sb7.2 C nCa).trans e1,e2⟩,fun h' sb=>?_⟩
 exact ⟨_,H7,I7.turned (t':=s7.toks) (it:=C) (fun b o hb e=>(sb.2 b hb).trans e) hC hL (.inr h0) hc hp,q⟩
end
section
variable {X:Cx} {E:XK}
def Ef:D→HD→Option String
 |.non,_=>some "NoneType"
 |.bl _,_=>some "bool"
 |.int _,_=>some "int"
 |.str _,_=>some "str"
 |.tup _,_=>some "tuple"
 |.loc l,h=>match h[l]? with
  |some (.lst _)=>some "list"
  |_=>none
 |_,_=>none
theorem Wf {m:List Addr} {H:Hp} {h:HD} {d:D} {v:V} {t:String} (hr:HR X.K m h H) (r:DV X.K m H d v) (e:Ef d h=some t):EI X.K H v (.type t):=by
 cases d with
 |non=>simp only [Ef,Option.some.injEq,DV] at e r;subst e r;exact .non
 |bl b=>simp only [Ef,Option.some.injEq,DV] at e r;subst e r;exact .bl _
 |int i=>simp only [Ef,Option.some.injEq,DV] at e r;subst e r;exact .int _
 |str x=>simp only [Ef,Option.some.injEq,DV] at e r;subst e r;exact .str _
 |tup ds=>simp only [Ef,Option.some.injEq,DV] at e r;subst e;obtain ⟨a,vs,rfl,ha,_⟩:=r;exact .tup ha
 |loc l=>
  simp only [DV] at r
  obtain ⟨a,rfl,ha⟩:=r
  simp only [Ef] at e
  split at e
  ·rename_i ds el
   cases e
   obtain ⟨vs,hv,_⟩:=hr.cells l _ a el ha
   exact .lst hv
  ·cases e
 |_=>simp [Ef] at e
def subL:List (String×String×Bool):=[("NoneType","int",false),("bool","int",true),("int","int",true),("str","int",false),("tuple","int",false),("list","int",false),("NoneType","bool",false),("bool","bool",true),("int","bool",false),("str","bool",false),("tuple","bool",false),("list","bool",false),("NoneType","tuple",false),("bool","tuple",false),("int","tuple",false),("str","tuple",false),("tuple","tuple",true),("list","tuple",false),("NoneType","str",false),("bool","str",false),("int","str",false),("str","str",true),("tuple","str",false),("list","str",false),("NoneType","list",false),("bool","list",false),("int","list",false),("str","list",false),("tuple","list",false),("list","list",true),("dict","int",false),("dict","bool",false),("dict","tuple",false),("dict","str",false),("dict","list",false)]
def KZ (t c:String):Option Bool:=(subL.find? fun p=>p.1==t&&p.2.1==c).map fun p=>p.2.2
theorem Wg {K:PySem.W.Frag}:∀p∈subL,PySem.W.kitOne K (.type p.1) (.type p.2.1)=some p.2.2:=by
 unfold subL
 simp only [List.forall_mem_cons]
 exact ⟨rfl,rfl,rfl,rfl,rfl,rfl,rfl,rfl,rfl,rfl,rfl,rfl,rfl,rfl,rfl,rfl,rfl,rfl,rfl,rfl,rfl,rfl,rfl,rfl,rfl,rfl,rfl,rfl,rfl,rfl,rfl,rfl,rfl,rfl,rfl,fun _ h=>nomatch h⟩
theorem Qv {K:PySem.W.Frag} {t c:String} {b:Bool} (h:KZ t c=some b):PySem.W.kitOne K (.type t) (.type c)=some b:=by
 unfold KZ at h
 rw [qaR] at h
 obtain ⟨p,hp,rfl⟩:=h
 have e:=List.find?_some hp
 rw [CN,beq_iff_eq,beq_iff_eq] at e
 rw [←e.1,←e.2]
 exact Wg p (List.mem_of_find?_eq_some hp)
def BJ:D→D→HD→Out D:=fun x y h=>match y,Ef x h with
 |.ty T,some t=>match KZ t T with
  |some b=>.ok (.bl b) h
  |none=>.stuck
 |_,_=>.stuck
theorem K0 {x:Str} {T:String} {pos:Pos} (hg:Gl X x) (hm:X.mg x=none) (hv:bootBuiltins x=some (.type T)) (hn:x≠"__name__":=by decide) (hd:(x==("__debug__":Str))=false:=by decide):Ev X E (.Name x pos) (mC (.ty T)):=
 HK (Ue (v:=.ty T) hg hm hv rfl hn hd) fun _ _=>by simp [DV]
theorem M7 (ns:List Int):∀j,j≤ns.length→preSum (fun i=>ns.getD i 0) j=(ns.take j).sum
 |0,_=>by simp [preSum]
 |j+1,h=>by
  rw [preSum,M7 ns j (by omega),List.take_succ_eq_append_getElem (by omega),FR]
  simp [EA,Bb (show j<ns.length by omega)]
theorem M8 {h h2 h':Heap} {it:Addr} (k:∀b o,h.get? b=some o→h2.get? b=some o) (hit:h.objs.size≤it) (hk:∀b o,b∉[it]→h2.get? b=some o→h'.get? b=some o):∀b o,h.get? b=some o→h'.get? b=some o:=fun b o e=>
 hk b o (by rw [qaD];exact BD (AX (AE e) hit)) (k b o e)
theorem Qw {ns:List Int} {its:List Value} (r:Vals (ns.map V.int) its) {i:Nat} {v:Value} (e:its.toArray[i]?=some v):∃t,v=.int (ns.getD i 0) t:=by
 have e':its[i]?=some v:=by simpa using e
 have hi:i<its.length:=(qa5.mp e').1
 have hl:ns.length=its.length:=by have:=r.length;simpa using this
 have hn:(ns.map V.int)[i]?=some (V.int (ns.getD i 0)):=by
  rw [Ca,Bb (by omega)]
  simp [EA,Bb (show i<ns.length by omega)]
 obtain ⟨u,h1,t,h2⟩:=r.get hn
 rw [e'] at h1
 cases h1
 exact ⟨t,h2⟩
theorem Wh (hc:X.calm=true):Dm X (.builtin "sum") (fun xs H Q=>∃(p:Addr) (ns:List Int),xs=[.ref p]∧(SqL X.K H p (ns.map V.int)∨SqT X.K H p (ns.map V.int))∧Q (.int ns.sum) H):=by
 intro pins s σ H xs us Q I r h
 obtain ⟨p,ns,rfl,hs,q⟩:=h
 obtain ⟨u,rfl,rx⟩:=EH r
 cases rx
 have hh:X.A.in1.handled=none:=I.ok.hd hc
 rcases hs with hs |hs
 ·obtain ⟨its,rv,pl,hz⟩:=I.list hs
  have hl:=rv.length
  rw [Cm] at hl
  have hlt:p<s.heap.objs.size:=by obtain ⟨_,e,_⟩:=pl.isList;exact AE e
  refine call_sum_walkG (wpAny_pyIter_list pl.isList ?_)
  refine ⟨s.heap.objs.size,[s.heap.objs.size,p],[s.heap.objs.size],its.toArray.size,_,_,fun i=>ns.getD i 0,rfl,Walks.list (A:=X.A.in1) hh _ p (BD hlt) its.toArray,⟨⟨_,Bz _ rfl,rfl,rfl⟩,pl.isList.push _⟩,fun b hb=>?_,fun i v e=>Qw rv e,fun h' tk t' hk=>?_⟩
  ·show b<(s.heap.push _).objs.size
   rw [Ct]
   rcases qa7.mp hb with z |z
   ·rw [z];exact Nat.lt_succ_self _
   ·rw [qaD.mp z];exact Hw hlt
  ·have e:preSum (fun i=>ns.getD i 0) its.toArray.size=ns.sum:=by
    rw [A5,←hl,M7 ns _ (AM _),List.take_length]
   rw [e]
   exact ⟨.int ns.sum,H,I.kept (M8 (fun b o e=>AJ _ e) (AM _) hk),⟨t',rfl⟩,q⟩
 ·obtain ⟨its,rv,pl,hz⟩:=I.tuple hs
  have hl:=rv.length
  rw [Cm] at hl
  have hT:s.heap.IsTuple p its.toArray:=pl
  have hlt:p<s.heap.objs.size:=pl.lt
  refine call_sum_walkG (wpAny_pyIter_tuple hT ?_)
  refine ⟨s.heap.objs.size,[s.heap.objs.size,p],[s.heap.objs.size],its.toArray.size,_,_,fun i=>ns.getD i 0,rfl,Walks.tuple (A:=X.A.in1) hh _ p (BD hlt) its.toArray,⟨⟨_,Bz _ rfl,rfl,rfl⟩,hT.push _⟩,fun b hb=>?_,fun i v e=>Qw rv e,fun h' tk t' hk=>?_⟩
  ·show b<(s.heap.push _).objs.size
   rw [Ct]
   rcases qa7.mp hb with z |z
   ·rw [z];exact Nat.lt_succ_self _
   ·rw [qaD.mp z];exact Hw hlt
  ·have e:preSum (fun i=>ns.getD i 0) its.toArray.size=ns.sum:=by
    rw [A5,←hl,M7 ns _ (AM _),List.take_length]
   rw [e]
   exact ⟨.int ns.sum,H,I.kept (M8 (fun b o e=>AJ _ e) (AM _) hk),⟨t',rfl⟩,q⟩
def Fy:D→Option Int
 |.int i=>some i
 |_=>none
def Du:D→HD→Out D:=fun x h=>match BC x h with
 |some ds=>match A0 (ds.map Fy) with
  |some ns=>.ok (.int ns.sum) h
  |none=>.stuck
 |none=>.stuck
theorem K1 {m:List Addr} {H:Hp}:∀{ds:List D} {vs:List V} {ns:List Int},DVs X.K m H ds vs→A0 (ds.map Fy)=some ns→vs=ns.map V.int
 |[],vs,ns,r,e=>by
  simp only [DVs] at r
  simp [A0] at e
  subst r e
  rfl
 |d::ds,vs,ns,r,e=>by
  simp only [DVs] at r
  obtain ⟨v,w,rfl,rv,rw'⟩:=r
  rw [BM] at e
  cases d with
  |int i=>
   simp only [Fy,A0,qaR] at e
   obtain ⟨ns',e1,rfl⟩:=e
   simp only [DV] at rv
   subst rv
   rw [K1 rw' e1]
   rfl
  |_=>simp [Fy,A0] at e
theorem K2 (hc:X.calm=true):CJ X (.builtin "sum") (An Du):=by
 refine ⟨_,Wh hc,fun m H h E ds vs Q hr r q=>Fv r q fun d v ev rv q=>?_⟩
 unfold Du at q
 split at q
 ·rename_i xs e
  split at q
  ·rename_i ns en
   obtain ⟨p,ws,rfl,hs,dv⟩:=KS hr rv e
   have:=K1 dv en
   subst this
   exact ⟨p,ns,ev,hs,Bj hr q (by simp [DV])⟩
  ·exact q.elim
 ·exact q.elim
theorem Wi (hc:X.calm=true):Dm X (.builtin "all") (fun xs H Q=>∃(p:Addr) (bs:List Bool),xs=[.ref p]∧SqL X.K H p (bs.map V.bl)∧Q (.bl (bs.all id)) H):=by
 intro pins s σ H xs us Q I r h
 obtain ⟨p,bs,rfl,hs,q⟩:=h
 obtain ⟨u,rfl,rx⟩:=EH r
 cases rx
 have hh:X.A.in1.handled=none:=I.ok.hd hc
 obtain ⟨its,rv,pl,hz⟩:=I.list hs
 have hl:=rv.length
 rw [Cm] at hl
 have hlt:p<s.heap.objs.size:=by obtain ⟨_,e,_⟩:=pl.isList;exact AE e
 have item:∀(i:Nat) (v:Value),its.toArray[i]?=some v→v=.bool (bs.getD i true):=fun i v e=>by
  have e':its[i]?=some v:=by simpa using e
  have hi:i<its.length:=(qa5.mp e').1
  have hn:(bs.map V.bl)[i]?=some (V.bl (bs.getD i true)):=by
   rw [Ca,Bb (by omega)]
   simp [EA,Bb (show i<bs.length by omega)]
  obtain ⟨u,h1,h2⟩:=rv.get hn
  rw [e'] at h1
  cases h1
  exact h2
 refine call_all_walk (wpAny_pyIter_list pl.isList ?_)
 refine ⟨s.heap.objs.size,[s.heap.objs.size,p],[s.heap.objs.size],its.toArray.size,_,_,fun i=>bs.getD i true,rfl,Walks.list (A:=X.A.in1) hh _ p (BD hlt) its.toArray,⟨⟨_,Bz _ rfl,rfl,rfl⟩,pl.isList.push _⟩,fun i v s' Q' E' e hQ=>?_,fun h' tk hk=>?_⟩
 ·rw [item i v e]
  exact wpAny_truthy_bool hQ
 ·have e:(List.range its.toArray.size).all (fun i=>bs.getD i true)=bs.all id:=by
   rw [A5,←hl]
   apply qbT.mpr
   simp only [qaN,qb1,id]
   constructor
   ·intro h b hb
    obtain ⟨i,hi,rfl⟩:=IT hb
    have:=h i hi
    simpa [EA,Bb hi] using this
   ·intro h i hi
    have:=h bs[i] (Hz hi)
    simpa [EA,Bb hi] using this
  rw [e]
  exact ⟨.bl _,H,I.kept (M8 (fun b o e=>AJ _ e) (AM _) hk),rfl,q⟩
def HY:D→Option Bool
 |.bl b=>some b
 |_=>none
def Eg:D→HD→Out D:=fun x h=>match x with
 |.loc l=>match h[l]? with
  |some (.lst ds)=>match A0 (ds.map HY) with
   |some bs=>.ok (.bl (bs.all id)) h
   |none=>.stuck
  |_=>.stuck
 |_=>.stuck
theorem Qx {m:List Addr} {H:Hp}:∀{ds:List D} {vs:List V} {bs:List Bool},DVs X.K m H ds vs→A0 (ds.map HY)=some bs→vs=bs.map V.bl
 |[],vs,ns,r,e=>by
  simp only [DVs] at r
  simp [A0] at e
  subst r e
  rfl
 |d::ds,vs,ns,r,e=>by
  simp only [DVs] at r
  obtain ⟨v,w,rfl,rv,rw'⟩:=r
  rw [BM] at e
  cases d with
  |bl i=>
   simp only [HY,A0,qaR] at e
   obtain ⟨ns',e1,rfl⟩:=e
   simp only [DV] at rv
   subst rv
   rw [Qx rw' e1]
   rfl
  |_=>simp [HY,A0] at e
theorem M9 (hc:X.calm=true):CJ X (.builtin "all") (An Eg):=by
 refine ⟨_,Wi hc,fun m H h E ds vs Q hr r q=>Fv r q fun d v ev rv q=>?_⟩
 unfold Eg at q
 split at q
 ·rename_i l
  split at q
  ·rename_i xs el
   split at q
   ·rename_i bs eb
    simp only [DV] at rv
    obtain ⟨a,rfl,ha⟩:=rv
    obtain ⟨ws,hv,dv⟩:=hr.cells _ _ a el ha
    have:=Qx dv eb
    subst this
    exact ⟨a,bs,ev,SqL.of hv,Bj hr q (by simp [DV])⟩
   ·exact q.elim
  ·exact q.elim
 ·exact q.elim
def HZ:D→D→HD→Out D:=fun x y h=>match x with
 |.loc l=>match h[l]? with
  |some (.lst ds)=>if ds.length<sizeLine then .ok .non (h.set l (.lst (ds++[y]))) else .stuck
  |_=>.stuck
 |_=>.stuck
def BW:D→HD→Out D:=fun x h=>match x with
 |.loc l=>match h[l]? with
  |some (.lst _)=>.ok x h
  |_=>.stuck
 |_=>.stuck
def Fz (f g:ME):ME:=fun ρ h=>((f ρ h).bind BW).bind fun x h1=>(g ρ h1).bind fun y h2=>HZ x y h2
theorem Na {o e:Expr} {f g:ME} {apos cpos:Pos} (ho:Ev X E o f) (he:Ev X E e g)
 (hbase:attributeBase o "append" X.env (eval o X.env)=eval o X.env:=by rfl)
 (hfew:((backTo cpos (starEach [e] X.env)).all (fun x=>!x.1)&&(backToKw cpos (keywordEach [] X.env)).all (fun x=>x.1.isSome)
  &&decide ([e].length+([]:List Keyword).length+(if ([]:List Keyword).isEmpty then 0 else 1)<30))=true:=by rfl)
 (hline:(apos.endLine==cpos.line)=true:=by rfl) (hs:starEach [e] X.env=(false,eval e X.env)::starEach [] X.env:=by rfl) (hplain:(backTo cpos (starEach [] X.env)).any (·.1)=false:=by rfl):
 Ev X E (.Call (.Attribute o "append" apos) [e] [] cpos) (Fz f g):=
 B3 (PL PySem.F.plainAttrs_list PySem.F.slot_list_append PySem.F.type_list_append VE ho (Ad he Af hs) hbase hfew hline hs hplain) fun σ H Q z1_=>by
  obtain ⟨m,ρ,h,hr,er,p⟩:=z1_
  refine ⟨m,ρ,h,hr,er,?_⟩
  unfold Fz at p
  rw [Out.bind_assoc] at p
  refine Post.bind p fun x h1 v m1 H1 eo p1 k1 hr1 r1 q1=>?_
  clear eo
  unfold BW at q1
  split at q1
  ·rename_i l
   split at q1
   ·rename_i ds el
    simp only [Out.bind_ok] at q1
    have r1':=r1
    simp only [rD,DV] at r1'
    obtain ⟨a,rfl,ha⟩:=r1'
    obtain ⟨ws,hv,dv⟩:=hr1.cells l _ a el ha
    refine ⟨.inl ⟨rfl,ws,SqL.of hv⟩,m1,ρ,h1,hr1,er.keep p1 k1,?_⟩
    have q2:Post X.K (rD X.K) m1 H1 E Q ((Aa g Ac ρ h1).bind fun ys h2=>match ys with
     |[y]=>HZ (.loc l) y h2
     |_=>.stuck):=by
     unfold Aa Ac
     rw [Out.bind_assoc]
     exact q1
    refine Post.bind q2 fun ys h2 vs m2 H2 eo p2 k2 hr2 r2 q3=>?_
    clear eo
    split at q3
    ·rename_i y
     simp only [DP,DVs] at r2
     obtain ⟨yv,w,rfl,ry,rfl⟩:=r2
     unfold HZ at q3
     simp only at q3
     split at q3
     ·rename_i ds2 el2
      split at q3
      ·rename_i hz
       have ha2:=HH p2 ha
       obtain ⟨ws2,hv2,dv2⟩:=hr2.cells l _ a el2 ha2
       refine ⟨a,ws2,yv,rfl,rfl,hv2,by rw [←dv2.len];exact hz,?_⟩
       refine q3 .non m2 _ (AH _) (.set hv2 rfl) (hr2.setCell ha2 hv2 rfl ⟨_,Bo,?_⟩) (by simp [rD,DV])
       exact (dv2.app (.cons ry .nil)).keep (AH _) (.set hv2 rfl)
      ·exact q3.elim
     ·exact q3.elim
    ·exact q3.elim
   ·exact q1.elim
  ·exact q1.elim
def H0:D→D→D→HD→Out (Fl×Ah)→Out (Fl×Ah):=fun o i v h k=>match o,i with
 |.loc l,.int n=>match h[l]? with
  |some (.lst ds)=>match DO ds.length n with
   |some j=>match k with
    |.ok a _=>.ok a (h.set l (.lst (ds.set j v)))
    |_=>.stuck
   |none=>.stuck
  |_=>.stuck
 |_,_=>.stuck
def K3 (fo fi fv:ME):MS:=fun ρ h=>(fv ρ h).bind fun v h1=>(fo ρ h1).bind fun o h2=>(fi ρ h2).bind fun i h3=>H0 o i v h3 (.ok (.nx,ρ) h3)
theorem Wj {o i e:Expr} {fo fi fv:ME} {pos pos':Pos} (ho:Ev X E o fo) (hi:Ev X E i fi) (he:Ev X E e fv)
 (ha:∀v,assign (.Subscript o i pos') X.env v=(do
  let ov ←holding [v] (eval o X.env)
  let iv ←holding [v,ov] (eval i X.env)
  standAt pos'
  holding [v,ov,iv] (setItem ov iv v)
  release [v,ov,iv] []):=by intro _;rfl)
 (hs:swapsWithSole [.Subscript o i pos'] e pos.line X.env=pure false:=by rfl) (hw:swappedStores [.Subscript o i pos'] e X.env=pure none:=by rfl)
 (h1:(assignEach [.Subscript o i pos'] X.env).map (·.2)=[assign (.Subscript o i pos') X.env]:=by rfl):Ex X E (.Assign [.Subscript o i pos'] e pos) (K3 fo fi fv):=
 GF (Pj he (UD ho hi Vx ha) hs hw h1) fun Dn σ H ⟨m,ρ,h,hr,er,p⟩=>⟨m,ρ,h,hr,er,PostS.bind p fun v h1 vv m1 H1 eo1 p1 k1 hr1 r1 q1=>by
  refine ⟨m1,ρ,h1,hr1,er.keep p1 k1,PostS.bind q1 fun ov h2 vo m2 H2 eo2 p2 k2 hr2 r2 q2=>?_⟩
  refine ⟨m2,ρ,h2,hr2,(er.keep p1 k1).keep p2 k2,PostS.bind q2 fun iv h3 vi m3 H3 eo3 p3 k3 hr3 r3 q3=>?_⟩
  clear eo1 eo2 eo3
  unfold H0 at q3
  split at q3
  ·rename_i l n
   split at q3
   ·rename_i ds el
    split at q3
    ·rename_i j ej
     have ro:=DV.keep p3 k3 r2
     simp only [DV] at ro
     obtain ⟨a,rfl,ha⟩:=ro
     have ri:=r3
     simp only [rD,DV] at ri
     subst ri
     obtain ⟨ws,hv,dv⟩:=hr3.cells l _ a el ha
     refine ⟨a,ws,n,j,rfl,rfl,hv,by rw [←dv.len];exact ej,?_⟩
     have rvv:=DV.keep p3 k3 (DV.keep p2 k2 r1)
     have hr4:HR X.K m3 (h3.set l (.lst (ds.set j v))) (Ak H3 a (.lst (ws.set j vv))):=hr3.setCell ha hv rfl ⟨_,Bo,(dv.set j rvv).keep (AH _) (.set hv rfl)⟩
     exact q3 m3 _ (AH _) (.set hv rfl) hr4 σ ((((er.keep p1 k1).keep p2 k2).keep p3 k3).keep (AH _) (.set hv rfl))
    ·exact q3.elim
   ·exact q3.elim
  ·exact q3.elim⟩
end
def Am (n:Nat) (g:MS):List D→HD→Out D:=fun ds h=>(g (ds.map some++List.replicate (n - ds.length) none) h).bind fun x h1=>match x with
 |(.nx,_)=>.ok .non h1
 |(.rt d,_)=>.ok d h1
 |_=>.stuck
open AutoSeq1 (wpAny_loadPart')
section
variable {prog:Program} {w:World} {A:Around} {E:Value→Shared→Prop} {s:Shared}
theorem Wk {it l:Addr} {i:Nat} {items:Array Value} {x:Value} {Q:Value→Shared→Prop} (hit:s.heap.IsTupleIter it l i)
 (hl:s.heap.IsTuple l items) (hx:items[i]?=some x)
 (hQ:∀h',h'.IsTupleIter it l (i+1)→Heap.SameBut it s.heap h'→Q x {s with heap:=h'}):
 wpAny (model prog w) A (Builtin.SmallTypes.nextOf (.ref it)) Q E s:=by
 obtain ⟨o,ho,hc,hd⟩:=id hit
 obtain ⟨ol,hol,_,nl,hdl⟩:=hl
 unfold Builtin.SmallTypes.nextOf
 refine wpAny_bind (wpAny_callSpecial?_slot (name:=Str.ofString "__next__") hit.typeIs F.slot_tuple_iterator_next
  (wpAny_call_entry F.slot_tuple_iterator_next hit.typeIs F.entry_tuple_iterator_next ?_ (F.args_tuple_iterator_next_1 _)))
 show wpAny _ _ (field (.ref it) 0 >>=_) _ _ s
 refine wpAny_bind (wpAny_field ho hd (x:=.ref l) rfl ?_)
 show wpAny _ _ (if (Value.ref l==Value.none)=true then _ else _) _ _ s
 rw [if_neg (show ¬((Value.ref l==Value.none)=true) from BL)]
 show wpAny _ _ (field (.ref it) 1 >>=_) _ _ s
 refine wpAny_bind (wpAny_field ho hd (x:=.int i 0) rfl ?_)
 show wpAny _ _ (seqItems? (.ref l) >>=_) _ _ s
 refine wpAny_bind (wpAny_seqItems hol hdl ?_)
 simp only [Int.toNat_natCast,hx]
 refine wpAny_bind (wpAny_setField ho hd (by simp) (wpAny_pure ⟨x,rfl,wpAny_pure (hQ _ ?_ (Heap.SameBut.update ..))⟩))
 exact ⟨_,IS _ ho (Obj.isFreed_of_fields (Obj.data_mapFields hd _)),(Obj.cls_mapFields ..).trans hc,by
  rw [Obj.data_mapFields hd];simp [rawInt]⟩
theorem Wl {it l:Addr} {i:Nat} {items:Array Value} {Q:Value→Shared→Prop} (hh:A.handled=none)
 (hit:s.heap.IsTupleIter it l i) (hl:s.heap.IsTuple l items) (hx:items[i]?=none)
 (hE:∀h' e,Heap.ExtBut it s.heap h'→(∃o,h'.get? e=some o∧o.cls=.type "StopIteration")→E (.ref e) {s with heap:=h'}):
 wpAny (model prog w) A (Builtin.SmallTypes.nextOf (.ref it)) Q E s:=by
 obtain ⟨o,ho,hc,hd⟩:=id hit
 obtain ⟨ol,hol,_,nl,hdl⟩:=hl
 unfold Builtin.SmallTypes.nextOf
 refine wpAny_bind (wpAny_callSpecial?_slot (name:=Str.ofString "__next__") hit.typeIs F.slot_tuple_iterator_next
  (wpAny_call_entry F.slot_tuple_iterator_next hit.typeIs F.entry_tuple_iterator_next ?_ (F.args_tuple_iterator_next_1 _)))
 show wpAny _ _ (field (.ref it) 0 >>=_) _ _ s
 refine wpAny_bind (wpAny_field ho hd (x:=.ref l) rfl ?_)
 show wpAny _ _ (if (Value.ref l==Value.none)=true then _ else _) _ _ s
 rw [if_neg (show ¬((Value.ref l==Value.none)=true) from BL)]
 show wpAny _ _ (field (.ref it) 1 >>=_) _ _ s
 refine wpAny_bind (wpAny_field ho hd (x:=.int i 0) rfl ?_)
 show wpAny _ _ (seqItems? (.ref l) >>=_) _ _ s
 refine wpAny_bind (wpAny_seqItems hol hdl ?_)
 simp only [Int.toNat_natCast,hx]
 refine wpAny_bind (wpAny_rule (wpAny_bind (wpAny_setField ho hd (by simp) ?_)))
 show wpAny _ _ (newExc (.type "StopIteration") [] >>=_) _ _ _
 refine wpAny_bind ?_
 simp only [newExc,newTuple]
 refine wpAny_bind (wpAny_newObj_type ?_ (by size_fits))
 refine wpAny_bind (m:=firstArgMember _ _) (wpAny_of_eq (a:=Value.none) (by first |rfl |(simp only [firstArgMember];rfl)) ?_)
 refine wpAny_newObj_type ?_ (by size_fits)
 simp only [raiseNew]
 refine wpAny_bind (wpAny_handled ?_)
 first |rw [show A.in1.handled=none from hh] |rw [hh]
 refine wpAny_bind (wpAny_pure (wpAny_throw ?_))
 exact hE _ _ (((Heap.SameBut.update ..).extBut.push _).push _) ⟨_,Bz _ rfl,rfl⟩
end
theorem Nb {prog:Program} {w:World} {A:Around} (hh:A.handled=none) (it l:Addr) (hne:l≠it) (items:Array Value):
 Draws prog w A it [it,l] items.size (fun i v=>items[i]?=some v) (fun i h=>h.IsTupleIter it l i∧h.IsTuple l items) where
 live:=fun _ _ st=>let ⟨o,ho,_⟩:=st.1;⟨o,ho⟩
 frame:=fun _ _ _ st hk=>⟨st.1.at fun o e=>hk it (by simp) o e,st.2.at fun o e=>hk l (by simp) o e⟩
 item:=fun i s Q E hi st hQ=>by
  refine Wk st.1 st.2 (x:=items[i]) (by simp [hi]) fun h' hit' hs'=>?_
  exact hQ _ h' s.toks (by simp [hi]) ⟨hit',st.2.extBut hs'.extBut hne⟩ hs'
 done:=fun s Q E st hE=>Wl hh st.1 st.2 (by simp) hE
theorem Wm (l:Addr) (items:Array Value) (n:Nat) (dct:Option Addr) (sl:Array (Option Value)):
 Meets (Builtin.«enumerate.__new__» ⟨[.type "enumerate",.ref l],[]⟩) (fun _ R s=>s.heap.get? l=some {cls:=.type "tuple",dict:=dct,data:=.seq items n,slots:=sl}∧
  R (.ok (.ret (.ref (s.heap.push {cls:=.type "tuple_iterator",data:=.fields #[.ref l,.int 0 0]}).objs.size)))
    {s with heap:=(s.heap.push {cls:=.type "tuple_iterator",data:=.fields #[.ref l,.int 0 0]}).push {cls:=.type "enumerate",data:=.fields #[.none,.bool false,.ref s.heap.objs.size,rawInt 0,.none,.none]}}):=
 .of_wp fun prog w A R s h=>by
  obtain ⟨hp,g,d,tk,os⟩:=s;obtain ⟨hl,h⟩:=h
  have hsub:=sub_enumerate
  have hL:Heap.IsTuple (Shared.heap ⟨hp,g,d,tk,os⟩) l items:=⟨_,hl,rfl,n,rfl⟩
  wp_walk using wpAny_loadPart' hl
  refine wpAny_stack_any fun st=>wpAny_pure ?_
  split
  ·rename_i c _ _ _ _ _
   cases (c==Value.type "enumerate")
   ·wp_walk using wpAny_loadPart' hl,wpAny_pyIter_tuple hL
    exact ⟨_,rfl,h⟩
   ·wp_walk using wpAny_loadPart' hl,wpAny_pyIter_tuple hL
    exact ⟨_,rfl,h⟩
  ·wp_walk using wpAny_loadPart' hl,wpAny_pyIter_tuple hL
   exact ⟨_,rfl,h⟩
section
variable {prog:Program} {w:World} {A:Around} {E:Value→Shared→Prop} {s:Shared}
theorem Wn {l:Addr} {items:Array Value} {Q:Value→Shared→Prop} (hL:s.heap.IsTuple l items)
 (h:∀h',IsEnum h' (s.heap.objs.size+1) s.heap.objs.size 0 .none→h'.IsTupleIter s.heap.objs.size l 0→h'.objs.size=s.heap.objs.size+2→
  (∀b o,s.heap.get? b=some o→h'.get? b=some o)→Q (.ref (s.heap.objs.size+1)) {s with heap:=h'}):
 wpAny (model prog w) A (call (.type "enumerate") [.ref l]) Q E s:=by
 obtain ⟨⟨c,dct,dt,sl⟩,hl,hc,n,hd⟩:=hL
 replace hc:c=.type "tuple":=hc
 replace hd:dt=.seq items n:=hd
 subst hc hd
 refine callType_new F.called_enumerate (by decide) (F.typeCall_enumerate_1 _) (F.newCall_enumerate_1 _) (fun obj=>F.args_object_init_2 obj _) F.entry_enumerate_new
  (Wm l items n dct sl) ⟨hl,?_⟩
 have hz:(s.heap.push {cls:=.type "tuple_iterator",data:=.fields #[.ref l,.int 0 0]}).objs.size=s.heap.objs.size+1:=Ct ..
 show _∧_
 rw [hz]
 have he:IsEnum ((s.heap.push {cls:=.type "tuple_iterator",data:=.fields #[.ref l,.int 0 0]}).push
  {cls:=.type "enumerate",data:=.fields #[.none,.bool false,.ref s.heap.objs.size,rawInt 0,.none,.none]}) (s.heap.objs.size+1) s.heap.objs.size 0 .none:=by
  have:=Bz (s.heap.push {cls:=.type "tuple_iterator",data:=.fields #[.ref l,.int 0 0]})
   (o:={cls:=.type "enumerate",data:=.fields #[.none,.bool false,.ref s.heap.objs.size,rawInt 0,.none,.none]}) rfl
  rw [hz] at this;exact this
 refine ⟨⟨_,he,rfl⟩,h _ he ⟨_,AJ _ (Bz _ rfl),rfl,rfl⟩ (by rw [Ct,hz]) fun b o x=>AJ _ (AJ _ x)⟩
end
def Qy (K:PySem.W.Frag) (t:Addr) (xs:List V):It:=⟨fun i H=>i<xs.length∧SqT K H t xs,fun i H x H'=>∃p v,H p=none∧x=.ref p∧xs[i]?=some v∧H'=Ak H p (.tup [.int i,v]),fun i H=>i=xs.length∧SqT K H t xs⟩
theorem Wo {P:Program} {w:World} {K:PySem.W.Frag} {elts:List Expr} {kt:Nat} {tpos:Pos} (e it t:Addr) (hei:e≠it) (hte:t≠e) (hti:t≠it) (xs:List V):
 FW P w K (.Tuple elts kt tpos) (Qy K t xs) [e,it] e (fun i h=>(∃old,IsEnum h e it i old)∧h.IsTupleIter it t i) where
 mem:=by simp
 obj:=fun i h st b hb=>by
  obtain ⟨⟨old,h1⟩,o,h2,hc,hd⟩:=st
  rcases qa7.mp hb with z |z
  ·subst z;exact ⟨_,h1,fun v z=>by cases z⟩
  ·rw [qaD] at z
   subst z
   exact ⟨o,h2,fun v z=>by rw [hd] at z;cases z⟩
 keep:=fun i h h' st k=>by
  obtain ⟨⟨old,h1⟩,h2⟩:=st
  exact ⟨⟨old,k e (by simp) _ h1⟩,h2.at fun o z=>k it (by simp) o z⟩
 item:=by
  intro X hP hw hK hc i pins s σ H E I hf st hg
  subst hP hw hK
  obtain ⟨⟨old,he⟩,hit⟩:=st
  obtain ⟨hi,hq⟩:=hg
  obtain ⟨its,rv,p,hz⟩:=I.tuple hq
  have hT:s.heap.IsTuple t its.toArray:=p
  have hl:=rv.length
  obtain ⟨e0,e1,e2,e3,e4,e5⟩:=hf e (by simp)
  obtain ⟨i0,i1,i2,i3,i4,i5⟩:=hf it (by simp)
  have hx:xs[i]?=some xs[i]:=Bb hi
  refine wpAny_pyNext_enum_itemD (Nb (A:=X.A.in1) (I.ok.hd hc) it t hti its.toArray) he ⟨hit,hT⟩ (by rw [A5];omega) hei (by simp [hei,Ne.symm hte]) fun x h1 tk hPx ho hs1 hTup hsz hk=>?_
  obtain ⟨u,hu,ru⟩:=rv.get hx
  have hux:u=x:=by
   have:its[i]?=some x:=by simpa using hPx
   rw [hu] at this
   exact Option.some.inj this
  subst hux
  refine ⟨.ref s.heap.objs.size,rfl,wpAny_letOwnedTupleGo_enum ho fun h2 he2 sb=>?_⟩
  have hfr:H s.heap.objs.size=none:=I.hok.fresh (AM _)
  have kk:∀b o,b∉[e,it]→s.heap.get? b=some o→h2.get? b=some o:=fun b o hb z=>by
   have n1:b≠e:=fun q=>hb (by simp [q])
   have n2:b≠it:=fun q=>hb (by simp [q])
   exact (sb.2 b n1).trans (hk b o n1 n2 z)
  have na:s.heap.objs.size≠e:=Fw (AE he)
  have hnew:h2.get? s.heap.objs.size=some {cls:=.type "tuple",data:=.seq #[.int i tk,u]}:=(sb.2 _ na).trans hTup
  have ntr:∀b w,H b=some w→b∉[e,it]:=fun b w z hb=>by
   rcases qa7.mp hb with q |q
   ·rw [q,e0] at z;cases z
   ·rw [qaD.mp q,i0] at z;cases z
  have nal:∀b o,s.heap.get? b=some o→b≠s.heap.objs.size:=fun b o z=>BD (AE z)
  have it2:h2.IsTupleIter it t (i+1):=by
   obtain ⟨o,q,r⟩:=hs1.1
   exact ⟨o,(sb.2 it (Ne.symm hei)).trans q,r⟩
  refine ⟨.ref s.heap.objs.size,Ak H s.heap.objs.size (.tup [.int i,xs[i]]),?_,rfl,⟨s.heap.objs.size,xs[i],hfr,rfl,hx,rfl⟩,⟨⟨u,he2⟩,it2⟩,fun b hb=>?_⟩
  ·show Inv X pins σ _ {s with heap:=h2,gens:=s.gens,drawn:=s.drawn,toks:=tk+1}
   refine I.step (g':=s.gens) (d':=s.drawn) (t':=tk+1) (h':=h2) (ch:=[e,it]) (fun b hb=>?_) (fun b o _ _ hc z _=>kk b o hc z) (fun b o _ _ hc z _=>⟨o.slots,kk b o hc z⟩) (fun b o _ z n=>by rw [Al (nal b o z)];exact n)
    (fun b o hc z=>⟨o,kk b o hc z⟩) (fun b ys z=>by rw [Al (BB z hfr)];exact z) (fun b o u z=>by rw [Al (BB z hfr)];exact z) (fun b ps z=>⟨#[],by rw [Al (BB z hfr),z];simp⟩) (fun m hm=>?_) (fun b w z=>?_) I.bare
   ·rcases qa7.mp hb with q |q
    ·subst q;exact ⟨e3,e1,e4,e5⟩
    ·rw [qaD] at q;subst q;exact ⟨i3,i1,i4,i5⟩
   ·obtain ⟨o,es,ep,q,r⟩:=hm
    exact ⟨o,es,ep,kk _ o (by simp [Ne.symm e1,Ne.symm i1]) q,r⟩
   ·by_cases hb:b=s.heap.objs.size
    ·subst hb
     rw [Bo] at z
     cases z
     exact ⟨by simp only [FQ,HB];rw [sizeLine_eq];decide,[.int i tk,u],.cons ⟨tk,rfl⟩ (.cons ru .nil),⟨_,hnew,rfl,0,rfl⟩,fun o e=>by rw [hnew] at e;cases e;rfl⟩
    ·rw [Al hb] at z
     refine (I.hok b w z).stay (fun c v hc q=>kk c v ?_ q) (fun c q=>by rw [Al (BB q hfr)];exact q) fun c ys q=>by rw [Al (BB q hfr)];exact q
     rcases hc with rfl |hc
     ·exact ntr c _ z
     ·exact ntr c _ hc
  ·have nb:b≠s.heap.objs.size:=by
    rcases qa7.mp hb with q |q
    ·rw [q];exact na.symm
    ·rw [qaD.mp q]
     obtain ⟨o,z,_⟩:=hit
     exact nal _ _ z
   rw [Al nb]
   exact (hf b hb).1
 done:=by
  intro X hP hw hK hc i pins s σ H E I hf st hg
  subst hP hw hK
  obtain ⟨⟨old,he⟩,hit⟩:=st
  obtain ⟨hi,hq⟩:=hg
  obtain ⟨its,rv,p,hz⟩:=I.tuple hq
  have hT:s.heap.IsTuple t its.toArray:=p
  have hl:=rv.length
  obtain ⟨i0,i1,i2,i3,i4,i5⟩:=hf it (by simp)
  have hin:i=its.toArray.size:=by rw [A5];omega
  refine wpAny_pyNext_enum_endD (Nb (A:=X.A.in1) (I.ok.hd hc) it t hti its.toArray) he (hin ▸ ⟨hit,hT⟩) fun h' eb=>⟨rfl,I.turned (t':=s.toks) (fun b o hb z=>eb b o hb z) i0 i1 i3 i4 i5⟩
 self:=fun A i s Q E st h=>by
  obtain ⟨⟨old,he⟩,_⟩:=st
  exact wpAny_pyIter_enum he h
section
variable {X:Cx} {E:XK}
def Eh (ds:List D):List D:=ds.mapIdx fun i d=>.tup [.int (i:Nat),d]
def Qz:List D→HD→Out (List D×A8):=fun ds h=>match ds with
 |[.tup xs]=>.ok (Eh xs,[]) h
 |_=>.stuck
def QC (fa:MA):MI:=fun ρ h=>(fa ρ h).bind Qz
end
end LS
namespace LS
open PySem PySem.Spec PyProof.Rows L2
section
variable {prog:Program} {w:World} {A:Around} {E:Value→Shared→Prop} {s:Shared}
end
section
variable {X:Cx} {E:XK} {e:Expr} {f:ME}
def Nd:D→HD→Out D:=fun x h=>match x with
 |.tup [a,b]=>.ok (.tup [b,a]) h
 |_=>.stuck
def QE (f:ME):ME:=fun ρ h=>(f ρ h).bind Nd
end
structure CSc (X:Cx) (scope:Scope) (Nc:List Str) (cs:List (Option Nat)):Prop where
 kind:scope.kind=.function
 loc:(scope.names.all fun y=>y.2 != .local||scope.names.lookup y.1==some .local)=true
 free:(scope.names.all fun y=>y.2 != .free||(X.env.kindOf y.1==some .cell||X.env.kindOf y.1==some .free))=true
 nd:(scope.names.map (·.1)).Nodup
 len:cs.length=Nc.length
 out:((Nc.zip cs).all fun p=>match p.2 with
  |none=>true
  |some j=>X.N[j]?==some p.1&&scope.names.lookup p.1==some .free)=true
theorem CSc.ok {X:Cx} {scope:Scope} {Nc:List Str} {cs:List (Option Nat)} (S:CSc X scope Nc cs):Gc X scope Nc cs:=by
 refine ⟨S.kind,fun y hy e=>?_,fun y hy e=>?_,S.nd,S.len,fun i x j h1 h2=>?_⟩
 ·have:=qaN.mp S.loc y hy
  rw [e] at this
  simpa using this
 ·have:=qaN.mp S.free y hy
  rw [e] at this
  simpa using this
 ·have hz:(Nc.zip cs)[i]?=some (x,some j):=by
   rw [List.getElem?_zip_eq_some]
   exact ⟨h1,h2⟩
  have:=qaN.mp S.out (x,some j) (Gw hz)
  simpa using this
structure Dn (K:PySem.W.Frag) (mg:Str→Option Value) (x:Str) (ps:List Str) (st:Stmt) (f:Addr) (fd:FuncData):Prop where
 fn:Fun K x x st f fd
 bd:Binds K fd ps []
 mg:mg x=some (.ref f)
section
variable {X:Cx} {E:XK}
theorem Wq {a:Expr} {f:ME} {pos:Pos} (ha:Ev X E a f):Ev X E (.UnaryOp .USub a pos) (fun ρ h=>(f ρ h).bind fun x h1=>match x with
 |.int i=>.ok (.int (-i)) h1
 |_=>.stuck):=
 B3 (UR UY ha) fun σ H Q z1_=>by obtain ⟨m,ρ,h,hr,er,p⟩:=z1_;exact (⟨m,ρ,h,hr,er,Post.bind p fun x h1 v m1 H1 eo p1 k1 hr1 r1 q1=>by
  clear eo
  split at q1
  ·simp only [rD,DV] at r1
   subst r1
   exact ⟨_,rfl,Bj hr1 q1 (by simp [DV])⟩
  ·exact q1.elim⟩)
def K4 (f:ME):ME:=fun ρ h=>(f ρ h).bind fun x h1=>match x with
    |.int i=>.ok (.int (-i)) h1
    |_=>.stuck
theorem Ei {i j:Nat} {x y:Str} {px py tp:Pos} {kt:Nat} (hc:X.calm=true) (h1:PG X (.Name x px) (Cu i)) (h2:PG X (.Name y py) (Cu j)):PG X (.Tuple [.Name x px,.Name y py] kt tp) (GC X.K 2 (DN (Cu i) (DN (Cu j) GB))):=
 Ph hc (Kt h1 (Kt h2 Pg))
end
def CMl (i j:Int):Prop:=CMul i j∨(Builtin.Int.intBits i≤16777216∧Builtin.Int.intBits j≤16777216)
instance (i j:Int):Decidable (CMl i j):=by unfold CMl;infer_instance
theorem CMl.ok {i j:Int} (h:CMl i j):IntMulOk i j:=by
 rcases h with h |⟨h1,h2⟩
 ·exact h.ok
 ·unfold IntMulOk
  intro z
  simp only [CN,decide_eq_true_eq] at z
  have:=z.2
  unfold Builtin.Int.intTooBig at this
  simp only [decide_eq_true_eq] at this
  have hb:(bitsLine:Int)=134217728:=by first |rfl |decide
  omega
variable {X:Cx}
theorem op_mul':OpR X (binaryOp .Mult) (rI CMl fun i j=>.int (i*j)):=Jd fun _ _ _ _ _ _ _ hc q=>mul_int q hc.ok
def Ej:D→D→HD→Out D
 |.int i,.int j,h=>if CMl i j then .ok (.int (i*j)) h else .stuck
 |.loc l,.int k,h=>match h[l]? with
  |some (.lst xs)=>if -(2^63)≤k∧k<2^63 then CI (List.replicate k.toNat xs).flatten h else .stuck
  |_=>.stuck
 |_,_,_=>.stuck
theorem Wr:BO X (binaryOp .Mult) Ej:=by
 refine ⟨_,op_mul'.or VJ,fun m H h E x y v u Q hr rx ry q=>?_⟩
 unfold Ej at q
 split at q
 ·simp only [DV] at rx ry
  subst rx ry
  split at q
  ·rename_i hc
   exact .inl ⟨_,_,rfl,rfl,hc,Bj hr q (by simp [DV])⟩
  ·exact q.elim
 ·simp only [DV] at rx ry
  obtain ⟨a,rfl,ha⟩:=rx
  subst ry
  split at q
  ·rename_i k _ xs e
   split at q
   ·rename_i hk
    obtain ⟨vs,h1,d1⟩:=hr.cells _ _ a e ha
    obtain ⟨z,q'⟩:=HN hr (d1.rep k.toNat) q
    refine .inr ⟨a,k,vs,rfl,rfl,h1,hk.1,hk.2,?_,q'⟩
    rw [KA] at z
    rw [FS];exact z
   ·exact q.elim
  ·exact q.elim
 ·exact q.elim
end LS
namespace Att
open PySem PySem.W PySem.Calls PyProof.Rows
theorem Ws {ns:List Int} (h:WData.layable (.list (ns.map WData.int))=true):∀n∈ns,Builtin.Int.intBits n≤2^20:=by
 have hw:WData.weight (.list (ns.map WData.int))≤2^20:=(layableW_iff.mp h).2.2
 have key:∀(ns:List Int) (b:Nat),WData.weightAll (ns.map WData.int)≤b→∀n∈ns,Builtin.Int.intBits n≤b:=by
  intro ns
  induction ns with
  |nil=>intro b _ n hn;cases hn
  |cons m r ih=>
   intro b hb n hn
   have e:WData.weightAll ((m::r).map WData.int)=Builtin.Int.intBits m+1+WData.weightAll (r.map WData.int):=by
    simp only [BM,WData.weightAll,WData.weight]
    rfl
   rw [e] at hb
   rcases qa7.mp hn with z |z
   ·subst z;omega
   ·exact ih b (by omega) n z
 exact key ns _ (by simpa only [WData.weight] using hw)
theorem attach_bits {l:OpenLaw} {n:Nat} {q:Program} {loose:List Str} {XP:(Str→Option Value)→Heap→Prop} {YP:World→Heap→Prop} {d:DefRec}
 (hn:l.most=some n) (hdf:d.params.defaults=[])
 (call:∀(w:World) (s₀ s₁:Shared) (mg mb:Str→Option Value) (fa:Addr) (o:Obj) (pm cd doc:Value) (a:Addr) (vs:List Value) (ns:List Int),(∀n∈ns,Builtin.Int.intBits n≤2^20)→
  Ground q loose [] XP w s₀ mg mb s₁.heap→YP w s₁.heap→
  s₁.heap.get? fa=some o→o.data=.func (docDef d.name d.params d.body d.scope pm cd doc)→s₁.heap.CodeRec cd d.name→mg d.name=some (.ref fa)→
  s₁.heap.get? a=some {cls:=.type "list",data:=.seq vs.toArray}→IntsAre vs ns→ns.length≤n→s₁.gens=#[]→
  codeAny (model l.prog w) callerA (.call (.ref fa) ⟨[.ref a],[]⟩) (fun r s'=>r=.ok (.ret (.bool true))∧OldK s₁.heap s'.heap∧s'.os=s₁.os∧AllBare s'.gens) s₁):
 WalkO q loose XP YP l.row.toRowW d [] (fun f vs=>PySem.call f vs):=by
 intro w s₀ s₁ mg mb G Y fa o pm cd doc dV kV ho hd hcd hD hmg hg args vals as hpre hlay hrd hwl hlo
 obtain rfl:dV=.none:=Dflts.none hD hdf
 obtain rfl:kV=.none:=Dflts.noKw hD
 obtain ⟨a,vs,ns,rfl,rfl,hobj,hints,hlen⟩:=VM hn hpre hwl
 have hb:=Ws (layableW_arg hlay _ AO)
 refine enter_call (codeAny_mono (call w s₀ s₁ mg mb fa o pm cd doc a vs ns hb G Y ho (fd_plain hd) hcd hmg hobj hints hlen hg) fun r s' hq=>?_)
 obtain ⟨rfl,h2,h3,h4⟩:=hq
 exact ⟨.inl ⟨.bool true,.bool true,[],rfl,fun _=>rfl,.bool true,VN l _,fun _=>⟨List.Pairwise.nil,fun _ hm=>(nomatch hm)⟩⟩,h2,h3,h4⟩
end Att
namespace LS
open PySem PySem.Spec PyProof.Rows L2
def Wp {α:Type} (o:Out α) (Q:α→HD→Prop):Prop:=match o with
 |.ok a h=>Q a h
 |_=>False
section
variable {α β:Type} {o:Out α} {Q Q':α→HD→Prop}
@[simp] theorem Bh (a:α) (h:HD):Wp (.ok a h) Q=Q a h:=rfl
@[simp] theorem Zco:Wp .stuck Q=False:=rfl
theorem Au {o':Out α} (e:o=o') (h:Wp o' Q):Wp o Q:=e ▸ h
theorem Az {k:α→HD→Out β} {Q:β→HD→Prop}:Wp (o.bind k) Q=Wp o fun a h=>Wp (k a h) Q:=by cases o<;>rfl
theorem Wp.mono (h:Wp o Q) (f:∀a h,Q a h→Q' a h):Wp o Q':=by
 cases o with
 |ok a h'=>exact f _ _ h
 |_=>exact h.elim
theorem Wp.ex (h:Wp o Q):∃a h',o=.ok a h'∧Q a h':=by
 cases o with
 |ok a h'=>exact ⟨a,h',rfl,h⟩
 |_=>exact h.elim
end
def Sm (h h':HD):Prop:=∀(l:Nat) (c:Cell),h[l]?=some c→h'[l]?=some c
theorem Sm.refl (h:HD):Sm h h:=fun _ _ e=>e
theorem Sm.trans {h h1 h2:HD} (a:Sm h h1) (b:Sm h1 h2):Sm h h2:=fun l c e=>b l c (a l c e)
theorem Sm.app (h t:HD):Sm h (h++t):=fun l c e=>by
 rw [FP (qa5.mp e).1];exact e
def Pu {α:Type} (o:Out α) (h:HD) (a:α):Prop:=Wp o fun x h'=>x=a∧Sm h h'
section
variable {α β:Type} {o:Out α} {h:HD} {a:α}
theorem Pu.wp {Q:α→HD→Prop} (p:Pu o h a) (k:∀h',Sm h h'→Q a h'):Wp o Q:=Wp.mono p fun x h' z1_=>by obtain ⟨e,s⟩:=z1_;subst e;exact k h' s
theorem Pu.ok:Pu (.ok a h) h a:=⟨rfl,.refl _⟩
theorem Pu.bind {k:α→HD→Out β} {b:β} (p:Pu o h a) (q:∀h',Sm h h'→Pu (k a h') h' b):Pu (o.bind k) h b:=by
 unfold Pu
 rw [Az]
 exact p.wp fun h' s=>Wp.mono (q h' s) fun x h2 z2_=>by obtain ⟨e,s2⟩:=z2_;exact (⟨e,s.trans s2⟩)
theorem Pu.noErr (p:Pu o h a):Pu (noErr o) h a:=by
 obtain ⟨x,h',e,q⟩:=Wp.ex p
 rw [e];exact q
end
def QF (i j:Nat) (ρ:Ah) (ds:List D) (h:HD):Out (Fl×Ah):=match ds with
 |[x,y]=>.ok (.nx,(ρ.set i (some x)).set j (some y)) h
 |_=>.stuck
def QG (o:Option Ah) (h:HD):Out (Fl×Ah):=match o with
 |some ρ1=>.ok (.nx,ρ1) h
 |none=>.stuck
def K5 (g:HD→Out D) (x:D) (h:HD):Out D:=match x with
 |.bl true=>g h
 |.bl false=>.ok (.bl false) h
 |_=>.stuck
def Nf (g:HD→Out D) (x:D) (h:HD):Out D:=match x with
 |.bl true=>.ok (.bl true) h
 |.bl false=>g h
 |_=>.stuck
def QH (x:D) (h:HD):Out D:=match x with
 |.bl b=>.ok (.bl (!b)) h
 |_=>.stuck
def QJ (x:D) (h:HD):Out D:=match x with
 |.int i=>.ok (.int (-i)) h
 |_=>.stuck
@[simp] theorem Zcp {i j:Nat} {ρ:Ah} {x y:D} {h:HD} {Q:Fl×Ah→HD→Prop}:Wp (QF i j ρ [x,y] h) Q=Q (.nx,(ρ.set i (some x)).set j (some y)) h:=rfl
@[simp] theorem Zcq {ρ:Ah} {h:HD} {Q:Fl×Ah→HD→Prop}:Wp (QG (some ρ) h) Q=Q (.nx,ρ) h:=rfl
@[simp] theorem Zcr {g:HD→Out D} {h:HD}:K5 g (.bl true) h=g h:=rfl
@[simp] theorem Zcs {g:HD→Out D} {h:HD}:K5 g (.bl false) h=.ok (.bl false) h:=rfl
@[simp] theorem Zct {g:HD→Out D} {h:HD}:Nf g (.bl true) h=.ok (.bl true) h:=rfl
@[simp] theorem Zcu {g:HD→Out D} {h:HD}:Nf g (.bl false) h=g h:=rfl
@[simp] theorem Zcv {b:Bool} {h:HD}:QH (.bl b) h=.ok (.bl (!b)) h:=rfl
@[simp] theorem Zcw {i:Int} {h:HD}:QJ (.int i) h=.ok (.int (-i)) h:=rfl
def Ng (g:MS) (Q:Fl×Ah→HD→Prop):Fl×Ah→HD→Prop
 |(.nx,ρ),h=>Wp (g ρ h) Q
 |y,h=>Q y h
def Jv (Q:D→HD→Prop):Fl×Ah→HD→Prop
 |(.nx,_),h=>Q .non h
 |(.rt d,_),h=>Q d h
 |_,_=>False
section
variable {ρ:Ah} {h:HD} {Q:Fl×Ah→HD→Prop} {QB:D→HD→Prop} {g g1 g2:MS} {f:ME} {t:MT}
@[simp] theorem Ao:Ng g Q (.nx,ρ) h=Wp (g ρ h) Q:=rfl
@[simp] theorem Zcx {d:D}:Ng g Q (.rt d,ρ) h=Q (.rt d,ρ) h:=rfl
@[simp] theorem Zcy:Jv QB (.nx,ρ) h=QB .non h:=rfl
@[simp] theorem Zcz {d:D}:Jv QB (.rt d,ρ) h=QB d h:=rfl
@[simp] theorem Bd:Wp (Aj g1 g2 ρ h) Q=Wp (g1 ρ h) (Ng g2 Q):=by
  unfold Aj
  rw [Az]
  congr 1
  funext x h'
  obtain ⟨fl,ρ1⟩:=x
  cases fl<;>rfl
theorem A9 {n:Nat} {ds:List D}:Wp (Am n g ds h) QB=Wp (g (ds.map some++List.replicate (n - ds.length) none) h) (Jv QB):=by
 unfold Am
 rw [Az]
 congr 1
 funext x h'
 obtain ⟨fl,ρ1⟩:=x
 cases fl<;>rfl
@[simp] theorem ZcA:Wp (BH ρ h) Q=Q (.nx,ρ) h:=rfl
@[simp] theorem ZcB:Wp (Ce f ρ h) Q=Wp (f ρ h) fun _ h1=>Q (.nx,ρ) h1:=by unfold Ce;rw [Az];rfl
@[simp] theorem ZcC:Wp (AL f ρ h) Q=Wp (f ρ h) fun d h1=>Q (.rt d,ρ) h1:=by unfold AL;rw [Az];rfl
@[simp] theorem FA {i:Nat}:Wp (Aq i f ρ h) Q=Wp (f ρ h) fun d h1=>Q (.nx,ρ.set i (some d)) h1:=by unfold Aq;rw [Az];rfl
@[simp] theorem Wt:Wp (Bv t g1 g2 ρ h) Q=Wp (t ρ h) fun b h1=>Wp (if b=true then g1 ρ h1 else g2 ρ h1) Q:=by unfold Bv;rw [Az]
@[simp] theorem ZcD {i j:Nat} {fa:MA}:Wp (Qf i j fa ρ h) Q=Wp (fa ρ h) fun ds h1=>Wp (QF i j ρ ds h1) Q:=by unfold Qf;rw [Az];rfl
@[simp] theorem ZcE {sg:MG}:Wp (F7 sg f ρ h) Q=Wp (f ρ h) fun d h1=>Wp (QG (sg d ρ) h1) Q:=by unfold F7;rw [Az];rfl
@[simp] theorem ZcF {fo fi fv:ME}:Wp (K3 fo fi fv ρ h) Q=Wp (fv ρ h) fun v h1=>Wp (fo ρ h1) fun o h2=>Wp (fi ρ h2) fun i h3=>Wp (H0 o i v h3 (.ok (.nx,ρ) h3)) Q:=by
  unfold K3;simp only [Az]
end
section
variable {ρ:Ah} {h:HD} {Q:D→HD→Prop} {QB:Bool→HD→Prop} {QA:List D→HD→Prop} {f g k:ME} {t u:MT} {fa:MA} {op op':D→D→HD→Out D} {F:List D→HD→Out D}
@[simp] theorem DS {d:D} {r:Ah}:Wp (Ab 0 (some d::r) h) Q=Q d h:=rfl
@[simp] theorem Ek {i:Nat} {x:Option D} {r:Ah}:Wp (Ab (i+1) (x::r) h) Q=Wp (Ab i r h) Q:=rfl
@[simp] theorem Nh {d:D}:Wp (mC d ρ h) Q=Q d h:=rfl
@[simp] theorem Ia:Wp (Ai op f g ρ h) Q=Wp (f ρ h) fun x h1=>Wp (g ρ h1) fun y h2=>Wp (op x y h2) Q:=by unfold Ai;simp only [Az]
@[simp] theorem GJ:Wp (Ag F fa ρ h) Q=Wp (fa ρ h) fun ds h1=>Wp (F ds h1) Q:=by unfold Ag;rw [Az]
@[simp] theorem E1:Wp (Ac ρ h) QA=QA [] h:=rfl
@[simp] theorem E2:Wp (Aa f fa ρ h) QA=Wp (f ρ h) fun x h1=>Wp (fa ρ h1) fun xs h2=>QA (x::xs) h2:=by unfold Aa;simp only [Az];rfl
@[simp] theorem ZcG:Wp (A1 fa ρ h) Q=Wp (fa ρ h) fun xs h1=>Wp (if xs.length≤sizeLine then .ok (.tup xs) h1 else .stuck) Q:=by unfold A1;simp only [Az]
@[simp] theorem QK:Wp (AZ fa ρ h) Q=Wp (fa ρ h) fun xs h1=>Wp (CI xs h1) Q:=by unfold AZ;simp only [Az]
@[simp] theorem Ni:Wp (Bu f ρ h) QB=Wp (f ρ h) fun x h1=>Wp (Jf x h1) QB:=by unfold Bu;rw [Az]
@[simp] theorem ZcH:Wp (Ed f ρ h) QB=Wp (f ρ h) fun x h1=>Wp (ES x h1) QB:=by unfold Ed;rw [Az]
@[simp] theorem ZcI:Wp (EU t ρ h) QB=Wp (t ρ h) fun b h1=>QB (!b) h1:=by unfold EU;rw [Az];rfl
@[simp] theorem ZcJ:Wp (KG t u ρ h) QB=Wp (t ρ h) fun b h1=>Wp (if b=true then u ρ h1 else .ok false h1) QB:=by unfold KG;rw [Az]
@[simp] theorem ZcK:Wp (GG t u ρ h) QB=Wp (t ρ h) fun b h1=>Wp (if b=true then .ok true h1 else u ρ h1) QB:=by unfold GG;rw [Az]
@[simp] theorem ZcL:Wp (FZ f g ρ h) Q=Wp (f ρ h) fun x h1=>Wp (K5 (g ρ) x h1) Q:=by unfold FZ;rw [Az];rfl
@[simp] theorem ZcM:Wp (P6 f g ρ h) Q=Wp (f ρ h) fun x h1=>Wp (Nf (g ρ) x h1) Q:=by unfold P6;rw [Az];rfl
@[simp] theorem ZcN:Wp (KI f ρ h) Q=Wp (f ρ h) fun x h1=>Wp (QH x h1) Q:=by unfold KI;rw [Az];rfl
@[simp] theorem ZcO:Wp (K4 f ρ h) Q=Wp (f ρ h) fun x h1=>Wp (QJ x h1) Q:=by unfold K4;rw [Az];rfl
@[simp] theorem ZcP:Wp (KM t f g ρ h) Q=Wp (t ρ h) fun b h1=>Wp (if b=true then f ρ h1 else g ρ h1) Q:=by unfold KM;rw [Az]
@[simp] theorem ZcQ:Wp (HM op op' f g k ρ h) Q=Wp (f ρ h) fun x h1=>Wp (g ρ h1) fun y h2=>Wp (op x y h2) fun z h3=>Wp (K5 (fun h=>(k ρ h).bind fun w h4=>op' y w h4) z h3) Q:=by unfold HM;simp only [Az];rfl
@[simp] theorem ZcR:Wp (QE f ρ h) Q=Wp (f ρ h) fun x h1=>Wp (Nd x h1) Q:=by unfold QE;rw [Az]
@[simp] theorem ZcS:Wp (Fz f g ρ h) Q=Wp (f ρ h) fun x h1=>Wp (BW x h1) fun x h1=>Wp (g ρ h1) fun y h2=>Wp (HZ x y h2) Q:=by unfold Fz;simp only [Az]
@[simp] theorem ZcT:Wp (AN ρ h) QB=QB true h:=rfl
theorem A7 {xs:List D} (hn:xs.length≤sizeLine) (q:∀l h',Sm h h'→h'[l]?=some (.lst xs)→l=h.length→h'=h++[.lst xs]→Q (.loc l) h'):Wp (CI xs h) Q:=by
 unfold CI
 rw [if_pos hn]
 exact q h.length _ (.app _ _) (by simp) rfl rfl
end
section
variable {ρ:Ah} {h:HD} {QI:(List D×A8)→HD→Prop} {f:ME} {fa:MA}
@[simp] theorem QL:Wp (AR f ρ h) QI=Wp (f ρ h) fun d h1=>Wp (EX d h1) QI:=by unfold AR;rw [Az]
@[simp] theorem QM:Wp (CY fa ρ h) QI=Wp (fa ρ h) fun d h1=>Wp (HV d h1) QI:=by unfold CY;rw [Az]
@[simp] theorem ZcU:Wp (EY fa ρ h) QI=Wp (fa ρ h) fun d h1=>Wp (Jr d h1) QI:=by unfold EY;rw [Az]
@[simp] theorem ZcV:Wp (QC fa ρ h) QI=Wp (fa ρ h) fun d h1=>Wp (Qz d h1) QI:=by unfold QC;rw [Az]
theorem Gd {n:Nat} (hn:n≤1000):HV [.int (n:Int)] h=.ok ((List.range n).map fun k=>D.int ((k:Nat):Int),[]) h:=by
 have:(-(2^62):Int)≤(n:Int)∧(n:Int)<2^62:=by omega
 unfold HV
 simp only
 rw [if_pos this]
 simp [F9]
end
theorem Nj {α:Type} {src:A8} {items:List D} {sg:MG} {t:MT} {f:ME} {ρc:Ah} (φ:α→D) (g:α→Bool) (e:α→D) (ρ1:α→Ah):
 ∀(xs:List α) (h:HD),(∀h',Sm h h'→Bs src items h')→(∀x∈xs,sg (φ x) ρc=some (ρ1 x))→(∀x∈xs,∀h',Sm h h'→Pu (t (ρ1 x) h') h' (g x))→(∀x∈xs,g x=true→∀h',Sm h h'→Pu (f (ρ1 x) h') h' (e x))→
  Pu (DG src items sg t f ρc (xs.map φ) h) h ((xs.filter g).map e)
 |[],h,hs,_,_,_=>by
  simp only [FT,List.filter_nil,DG]
  rw [if_pos (hs h (.refl _))]
  exact .ok
 |x::xs,h,hs,hg,ht,hf=>by
  simp only [BM,DG]
  rw [if_pos (hs h (.refl _)),hg x AO]
  simp only
  refine Pu.bind (ht x AO h (.refl _)).noErr fun h1 s1=>?_
  have ih:∀h2,Sm h h2→Pu (DG src items sg t f ρc (xs.map φ) h2) h2 ((xs.filter g).map e):=fun h2 s2=>Nj φ g e ρ1 xs h2 (fun h' s'=>hs h' (s2.trans s'))
   (fun y hy=>hg y (AS _ hy)) (fun y hy h' s'=>ht y (AS _ hy) h' (s2.trans s')) (fun y hy gy h' s'=>hf y (AS _ hy) gy h' (s2.trans s'))
  cases hgx:g x with
  |false=>
   rw [if_neg BL,List.filter_cons_of_neg (by simp [hgx])]
   exact ih h1 s1
  |true=>
   rw [if_pos rfl,List.filter_cons_of_pos hgx]
   refine Pu.bind (hf x AO hgx h1 s1).noErr fun h2 s2=>?_
   exact Pu.bind (ih h2 (s1.trans s2)) fun h3 _=>.ok
theorem B7 {α:Type} {xs:List α}:xs.filter (fun _=>true)=xs:=List.filter_eq_self.mpr fun _ _=>rfl
section
variable {α:Type} {cs:List (Option Nat)} {it:MI} {sg:MG} {t:MT} {f:ME} {ρ:Ah} {h:HD} {src:A8} {xs:List α} {φ:α→D}
theorem Dv {Q:D→HD→Prop} (g:α→Bool) (e:α→D) (ρ1:α→Ah) (hi:Wp (it ρ h) fun x h'=>x=(xs.map φ,src)∧Sm h h'∧∀h2,Sm h' h2→Bs src (xs.map φ) h2) (hn:xs.length≤sizeLine)
 (hg:∀x∈xs,sg (φ x) (B5 cs ρ)=some (ρ1 x)) (ht:∀x∈xs,∀h',Sm h h'→Pu (t (ρ1 x) h') h' (g x)) (hf:∀x∈xs,g x=true→∀h',Sm h h'→Pu (f (ρ1 x) h') h' (e x))
 (q:∀l h',Sm h h'→h'[l]?=some (.lst ((xs.filter g).map e))→Q (.loc l) h'):Wp (AB cs it sg t f ρ h) Q:=by
 unfold AB
 rw [Az]
 refine Wp.mono hi fun x h1 z4_=>?_
 obtain ⟨ex,s1,hs⟩:=z4_
 subst ex
 rw [if_pos (by simpa using hn),Az]
 refine (Nj φ g e ρ1 xs h1 hs hg (fun x hx h' s'=>ht x hx h' (s1.trans s')) (fun x hx gx h' s'=>hf x hx gx h' (s1.trans s'))).wp fun h2 s2=>?_
 refine A7 ?_ fun l h3 s3 e3 _ _=>q l h3 ((s1.trans s2).trans s3) e3
 rw [Cm]
 exact BA (Kk _ _) hn
theorem Wu (g:α→Bool) (e:α→D) (ρ1:α→Ah) (hi:Wp (it ρ h) fun x h'=>x=(xs.map φ,src)∧Sm h h'∧∀h2,Sm h' h2→Bs src (xs.map φ) h2) (hn:xs.length≤sizeLine)
 (hg:∀x∈xs,sg (φ x) (B5 cs ρ)=some (ρ1 x)) (ht:∀x∈xs,∀h',Sm h h'→Pu (t (ρ1 x) h') h' (g x)) (hf:∀x∈xs,g x=true→∀h',Sm h h'→Pu (f (ρ1 x) h') h' (e x)):
 Pu (Ag (An Ds) (Aa (AB cs it sg t f) Ac) ρ h) h (.tup ((xs.filter g).map e)):=by
 unfold Pu
 rw [GJ,E2]
 refine Dv g e ρ1 hi hn hg ht hf fun l h' s' e'=>?_
 rw [E1]
 simp only [An,Ds,e']
 exact ⟨rfl,s'⟩
theorem Wv (e:α→D) (ρ1:α→Ah) (hi:Wp (it ρ h) fun x h'=>x=(xs.map φ,src)∧Sm h h'∧∀h2,Sm h' h2→Bs src (xs.map φ) h2) (hn:xs.length≤sizeLine)
 (hg:∀x∈xs,sg (φ x) (B5 cs ρ)=some (ρ1 x)) (hf:∀x∈xs,∀h',Sm h h'→Pu (f (ρ1 x) h') h' (e x)):
 Pu (Ag (An Ds) (Aa (AB cs it sg AN f) Ac) ρ h) h (.tup (xs.map e)):=by
 have:=Wu (t:=AN) (f:=f) (fun _=>true) e ρ1 hi hn hg (fun x hx h' s'=>(.ok:Pu (.ok true h') h' true)) (fun x hx _ h' s'=>hf x hx h' s')
 rw [B7] at this
 exact this
theorem GK {β γ:Type} {f:β→Option γ} {g:β→γ}:∀{xs:List β},(∀x∈xs,f x=some (g x))→A0 (xs.map f)=some (xs.map g)
 |[],_=>rfl
 |x::xs,hf=>by
  simp only [BM,hf x AO,A0,GK (fun y hy=>hf y (AS _ hy)),IV]
theorem Ww (b:α→Bool) (ρ1:α→Ah) (hi:Wp (it ρ h) fun x h'=>x=(xs.map φ,src)∧Sm h h'∧∀h2,Sm h' h2→Bs src (xs.map φ) h2) (hn:xs.length≤sizeLine)
 (hg:∀x∈xs,sg (φ x) (B5 cs ρ)=some (ρ1 x)) (hf:∀x∈xs,∀h',Sm h h'→Pu (f (ρ1 x) h') h' (.bl (b x))):
 Pu (Ag (An Eg) (Aa (AB cs it sg AN f) Ac) ρ h) h (.bl (xs.all b)):=by
 unfold Pu
 rw [GJ,E2]
 refine Dv (fun _=>true) (fun x=>.bl (b x)) ρ1 hi hn hg (fun x hx h' s'=>(.ok:Pu (.ok true h') h' true)) (fun x hx _ h' s'=>hf x hx h' s') fun l h' s' e'=>?_
 rw [E1]
 rw [B7] at e'
 simp only [An,Eg,e',DL]
 rw [GK (f:=HY∘fun x=>D.bl (b x)) (g:=b) (fun x _=>rfl)]
 refine ⟨?_,s'⟩
 simp [List.all_map]
end
def El (I:Ah→HD→Prop) (Q:Fl×Ah→HD→Prop):Fl×Ah→HD→Prop
 |(.nx,ρ),h=>I ρ h
 |(.ct,ρ),h=>I ρ h
 |(.bk,ρ),h=>Q (.nx,ρ) h
 |(.rt d,ρ),h=>Q (.rt d,ρ) h
theorem K6 {α:Type} {src:A8} {items:List D} {sg:MG} {body:MS} {Q:Fl×Ah→HD→Prop} (φ:α→D) (I:List α→Ah→HD→Prop) (ho:∀xs ρ h,I xs ρ h→Bs src items h)
 (step:∀x xs ρ h,I (x::xs) ρ h→∃ρ1,sg (φ x) ρ=some ρ1∧Wp (body ρ1 h) (El (I xs) Q)) (done:∀ρ h,I [] ρ h→Q (.nx,ρ) h):∀(xs:List α) (ρ:Ah) (h:HD),I xs ρ h→Wp (EZ src items sg body (xs.map φ) ρ h) Q
 |[],ρ,h,i=>by
  simp only [FT,EZ]
  rw [if_pos (ho _ _ _ i)]
  exact done ρ h i
 |x::xs,ρ,h,i=>by
  simp only [BM,EZ]
  rw [if_pos (ho _ _ _ i)]
  obtain ⟨ρ1,e,w⟩:=step x xs ρ h i
  rw [e]
  simp only
  rw [Az]
  refine Wp.mono w fun y h' k=>?_
  obtain ⟨fl,ρ2⟩:=y
  cases fl with
  |nx=>exact K6 φ I ho step done xs ρ2 h' k
  |ct=>exact K6 φ I ho step done xs ρ2 h' k
  |bk=>exact k
  |rt d=>exact k
theorem DT {α:Type} {src:A8} {it:MI} {sg:MG} {body:MS} {Q:Fl×Ah→HD→Prop} {ρ:Ah} {h:HD} {xs:List α} (φ:α→D) (I:List α→Ah→HD→Prop) (hi:Wp (it ρ h) fun x h'=>x=(xs.map φ,src)∧I xs ρ h') (ho:∀ys ρ h,I ys ρ h→Bs src (xs.map φ) h)
 (step:∀x xs ρ h,I (x::xs) ρ h→∃ρ1,sg (φ x) ρ=some ρ1∧Wp (body ρ1 h) (El (I xs) Q)) (done:∀ρ h,I [] ρ h→Q (.nx,ρ) h):Wp (Bw it sg body ρ h) Q:=by
 unfold Bw
 rw [Az]
 refine Wp.mono hi fun x h1 z5_=>?_
 obtain ⟨e,i⟩:=z5_
 subst e
 exact K6 φ I ho step done xs ρ h1 i
def Py (d:D) (p:PyData):Prop:=Bk [] 8 d=some p∧SeqAt.shaped p=true
@[simp] theorem sz0:(0≤sizeLine)=True:=eq_true (EF _)
@[simp] theorem sz1:(1≤sizeLine)=True:=eq_true (by unfold sizeLine;omega)
@[simp] theorem sz2:(2≤sizeLine)=True:=eq_true (by unfold sizeLine;omega)
@[simp] theorem Jw:(3≤sizeLine)=True:=eq_true (by unfold sizeLine;omega)
@[simp] theorem sz4:(4≤sizeLine)=True:=eq_true (by unfold sizeLine;omega)
@[simp] theorem sz5:(5≤sizeLine)=True:=eq_true (by unfold sizeLine;omega)
section
variable {h:HD} {a b c:D} {ds es:List D} {i j:Int} {F1:D→HD→Out D} {F2:D→D→HD→Out D} {F3:D→D→D→HD→Out D}
@[simp] theorem QN:An F1 [a] h=F1 a h:=rfl
@[simp] theorem ZcW:Bq F2 [a,b] h=F2 a b h:=rfl
@[simp] theorem ZcX:VV F3 [a,b,c] h=F3 a b c h:=rfl
@[simp] theorem ZcY {b:Bool}:Jf (.bl b) h=.ok b h:=rfl
@[simp] theorem ZcZ {b:Bool}:ES (.bl b) h=.ok b h:=rfl
@[simp] theorem Zc0:ES .non h=.ok false h:=rfl
@[simp] theorem Zc1:ES (.int i) h=.ok (i != 0) h:=rfl
@[simp] theorem Zc2:ES (.tup ds) h=.ok (!ds.isEmpty) h:=rfl
@[simp] theorem Zc3:BJ (.int i) (.ty "int") h=.ok (.bl true) h:=rfl
@[simp] theorem Zc4:BJ (.int i) (.ty "bool") h=.ok (.bl false) h:=rfl
@[simp] theorem Zc5:BJ (.int i) (.ty "tuple") h=.ok (.bl false) h:=rfl
@[simp] theorem Zc6:BJ (.tup ds) (.ty "tuple") h=.ok (.bl true) h:=rfl
@[simp] theorem Zc7:BJ (.tup ds) (.ty "int") h=.ok (.bl false) h:=rfl
@[simp] theorem Zc8:AA (.int i) (.int j) h=.ok (.int (i+j)) h:=rfl
@[simp] theorem Wx {f:Int→Int→D}:F0 f (.int i) (.int j) h=.ok (f i j) h:=rfl
@[simp] theorem Zc9 {b c:Bool}:VX (.bl b) (.bl c) h=.ok (.bl (b==c)) h:=rfl
@[simp] theorem Zda {b c:Bool}:VY (.bl b) (.bl c) h=.ok (.bl (!(b==c))) h:=rfl
@[simp] theorem Zdb:Bm (.tup ds) h=.ok (.int ds.length) h:=rfl
@[simp] theorem Zdc {ns:List Int}:Bm (.scr ns) h=.ok (.int ns.length) h:=by simp [Bm,BC]
@[simp] theorem Zdd:EX (.tup ds) h=.ok (ds,[]) h:=rfl
@[simp] theorem Zde:Ds (.tup ds) h=.ok (.tup ds) h:=rfl
@[simp] theorem Zdf:Nd (.tup [a,b]) h=.ok (.tup [b,a]) h:=rfl
@[simp] theorem Zdg:Jo (.int i) (.int j) h=.ok (.int (if j>i then j else i)) h:=rfl
@[simp] theorem Zdh:F6 (.int i) (.int j) h=.ok (.int (if j<i then j else i)) h:=rfl
@[simp] theorem Zdi {b:Bool}:Qe (.bl b) h=.ok (.int (if b then 1 else 0)) h:=rfl
@[simp] theorem Zdj:Qe (.int i) h=.ok (.int i) h:=rfl
@[simp] theorem Zdk {ρ:Ah} {k:Nat}:AG k a ρ=some (ρ.set k (some a)):=rfl
@[simp] theorem Zdl {ρ:Ah} {k l:Nat}:BV k l (.tup [a,b]) ρ=some ((ρ.set k (some a)).set l (some b)):=rfl
@[simp] theorem Zdm {b c:Bool}:Jl (.bl b) (.bl c) h=.ok (.bl (b==c)) h:=rfl
@[simp] theorem Zdn {b c:Bool}:F5 (.bl b) (.bl c) h=.ok (.bl (!(b==c))) h:=rfl
@[simp] theorem Zdo:Jl (.int i) (.int j) h=.ok (.bl (i==j)) h:=rfl
@[simp] theorem Zdp:F5 (.int i) (.int j) h=.ok (.bl (!(i==j))) h:=rfl
theorem FC {l:Nat} (e:h[l]?=some (.lst ds)):BW (.loc l) h=.ok (.loc l) h:=by simp only [BW,e]
theorem Nk {l:Nat} (e:h[l]?=some (.lst ds)) (hn:ds.length<sizeLine):HZ (.loc l) a h=.ok .non (h.set l (.lst (ds++[a]))):=by simp only [HZ,e];rw [if_pos hn]
theorem ix_tup {k:Nat} (e:ds[k]?=some a):AY (.tup ds) (.int (k:Nat)) h=.ok a h:=by
 have hk:k<ds.length:=(qa5.mp e).1
 have e1:Do ds ((k:Nat):Int)=some a:=by
  unfold Do DO
  rw [if_pos (by omega),if_pos (by omega)]
  simpa using e
 simp only [AY,BC,e1]
theorem K7 {n k:Nat} {e:Nat→D} (hk:k<n):AY (.tup ((List.range n).map e)) (.int (k:Nat)) h=.ok (e k) h:=ix_tup (by simp [Ht,hk])
theorem Wy {n:Nat} {e:Nat→D} (hk:0<n):AY (.tup ((List.range n).map e)) (.int 0) h=.ok (e 0) h:=K7 (k:=0) hk
@[simp] theorem Zdq:AY (.tup [a,b]) (.int 0) h=.ok a h:=rfl
@[simp] theorem Zdr:AY (.tup [a,b]) (.int 1) h=.ok b h:=rfl
theorem Wz {ns:List Int} {k:Nat} (e:ns[k]?=some i):AY (.scr ns) (.int (k:Nat)) h=.ok (.int i) h:=by
 have hk:k<ns.length:=(qa5.mp e).1
 have e1:Do (ns.map D.int) ((k:Nat):Int)=some (.int i):=by
  unfold Do DO
  rw [if_pos (by omega),if_pos (by simpa using hk)]
  simp [e]
 simp only [AY,BC,e1]
theorem B8 {l k:Nat} (el:h[l]?=some (.lst ds)) (e:ds[k]?=some a):AY (.loc l) (.int (k:Nat)) h=.ok a h:=by
 have hk:k<ds.length:=(qa5.mp e).1
 have e1:Do ds ((k:Nat):Int)=some a:=by
  unfold Do DO
  rw [if_pos (by omega),if_pos (by omega)]
  simpa using e
 simp only [AY,BC,el,e1]
theorem WA {l k:Nat} {ρ:Ah} (el:h[l]?=some (.lst ds)) (hk:k<ds.length):H0 (.loc l) (.int (k:Nat)) a h (.ok (.nx,ρ) h)=.ok (.nx,ρ) (h.set l (.lst (ds.set k a))):=by
 have:DO ds.length ((k:Nat):Int)=some k:=by
  unfold DO
  rw [if_pos (by omega),if_pos (by omega)]
  simp
 simp only [H0,el,this]
end
noncomputable def QP (cs:List (Option Nat)) (it:MI) (sg:MG) (t:MT) (f:ME):ME:=Ag (An Ds) (Aa (AB cs it sg t f) Ac)
noncomputable def QR (cs:List (Option Nat)) (it:MI) (sg:MG) (t:MT) (f:ME):ME:=Ag (An Eg) (Aa (AB cs it sg t f) Ac)
section
variable {α:Type} {cs:List (Option Nat)} {it:MI} {sg:MG} {t:MT} {f:ME} {ρ:Ah} {h:HD} {src:A8} {xs:List α} {φ:α→D}
@[simp] theorem Zds:Ag (An Ds) (Aa (AB cs it sg t f) Ac) ρ h=QP cs it sg t f ρ h:=rfl
@[simp] theorem Zdt:Ag (An Eg) (Aa (AB cs it sg t f) Ac) ρ h=QR cs it sg t f ρ h:=rfl
def BX (o:Out (List D×A8)) (h:HD) (ds:List D) (src:A8):Prop:=Wp o fun x h'=>x=(ds,src)∧Sm h h'∧∀h2,Sm h' h2→Bs src ds h2
theorem K8 (e:α→D) (ρ1:α→Ah) (hi:BX (it ρ h) h (xs.map φ) src) (hg:∀x∈xs,sg (φ x) (B5 cs ρ)=some (ρ1 x)) (hf:∀x∈xs,∀h',Sm h h'→Pu (f (ρ1 x) h') h' (e x)) (hn:xs.length≤sizeLine):
 Pu (QP cs it sg AN f ρ h) h (.tup (xs.map e)):=Wv e ρ1 hi hn hg hf
theorem Nl (b:α→Bool) (ρ1:α→Ah) (hi:BX (it ρ h) h (xs.map φ) src) (hg:∀x∈xs,sg (φ x) (B5 cs ρ)=some (ρ1 x)) (hf:∀x∈xs,∀h',Sm h h'→Pu (f (ρ1 x) h') h' (.bl (b x))) (hn:xs.length≤sizeLine):
 Pu (QR cs it sg AN f ρ h) h (.bl (xs.all b)):=Ww b ρ1 hi hn hg hf
theorem Jx {ds:List D}:BX (AR (Ab 0) (some (.tup ds)::ρ) h) h ds []:=by
 simp [BX,Sm.refl,Bs]
end
theorem WB {α:Type} {xs:List α} {n:α→Int} {h:HD}:Du (.tup (xs.map fun x=>.int (n x))) h=.ok (.int (xs.map n).sum) h:=by
 simp only [Du,BC,DL]
 rw [GK (f:=Fy∘fun x=>D.int (n x)) (g:=n) (fun x _=>rfl)]
section
variable {h:HD} {i j:Int}
theorem QT (h1:-18446744073709551616<j) (h2:j<18446744073709551616):Ej (.int i) (.int j) h=.ok (.int (i*j)) h:=by
 have:CMl i j:=.inl (.inr ⟨by omega,by omega⟩)
 simp only [Ej];rw [if_pos this]
theorem Ge (h1:-18446744073709551616<i) (h2:i<18446744073709551616):Ej (.int i) (.int j) h=.ok (.int (i*j)) h:=by
 have:CMl i j:=.inl (.inl ⟨by omega,by omega⟩)
 simp only [Ej];rw [if_pos this]
theorem WC (h1:Builtin.Int.intBits i≤16777216) (h2:Builtin.Int.intBits j≤16777216):Ej (.int i) (.int j) h=.ok (.int (i*j)) h:=by
 have:CMl i j:=.inr ⟨h1,h2⟩
 simp only [Ej];rw [if_pos this]
theorem K9 (h1:0<j):GH (.int i) (.int j) h=.ok (.int (i % j)) h:=by
 simp only [GH,intD];rw [if_pos h1]
theorem QU (h1:0<j) (h2:j<18446744073709551616):Jn (.int i) (.int j) h=.ok (.int (i / j)) h:=by
 have:CDv i j:=⟨h1,h2⟩
 simp only [Jn,intD];rw [if_pos this]
theorem WD (h1:0<j) (h2:j<18446744073709551616):Jm (.int i) (.int j) h=.ok (.tup [.int (i / j),.int (i % j)]) h:=by
 have:CDv i j:=⟨h1,h2⟩
 simp only [Jm];rw [if_pos this]
end
theorem QV {α:Type} {o:Out α} {Q:α→HD→Prop}:Wp (noErr o) Q=Wp o Q:=by cases o<;>rfl
structure PyN (n:Nat) (d:D) (p:PyData):Prop where
 rd:∀k,n≤k→Bk [] k d=some p
 ly:p.canLay0=true
 dp:p.depth≤n
theorem PyN.py {n:Nat} {d:D} {p:PyData} (h:PyN n d p) (hn:n≤8):Py d p:=⟨h.rd 8 hn,by
 unfold SeqAt.shaped
 rw [h.ly]
 have:=h.dp
 simp
 omega⟩
def KD {α:Type}:Sem α→Prop
 |.pure _=>True
 |.raise _=>True
 |.unsupported _=>True
 |.finish _=>True
 |.rule _ k=>KD (k ())
 |.at _ k=>KD (k ())
 |.load _ _ k=>∀o,KD (k o)
 |.update _ _ f k=>(∀o,(f o).dict=o.dict∧(o.isFreed=false→(f o).isFreed=false))∧KD (k ())
 |.loadIfAlive _ k=>∀o,KD (k o)
 |.point _ k=>KD (k ())
 |.register _ _=>True
 |.alloc _ k=>∀a,KD (k a)
 |.fresh k=>∀a,KD (k a)
 |.ask k=>∀a,KD (k a)
 |.choose _ _ k=>∀a,KD (k a)
 |.os _ _ k=>∀a,KD (k a)
 |.call ..=>False
 |.handled _ k=>∀a,KD (k a)
 |.genState _ k=>∀a,KD (k a)
 |.newGen _ k=>∀a,KD (k a)
 |.resume ..=>False
 |.yield ..=>True
 |.stack k=>∀a,KD (k a)
 |.fork ..=>True
 |.thread k=>∀a,KD (k a)
 |.await ..=>True
def Dicts (h h':Heap):Prop:=∀b o,h.get? b=some o→∃o',h'.get? b=some o'∧o'.dict=o.dict
theorem Dicts.refl (h:Heap):Dicts h h:=fun _ o e=>⟨o,e,rfl⟩
theorem Dicts.trans {h h1 h2:Heap} (a:Dicts h h1) (b:Dicts h1 h2):Dicts h h2:=fun c o e=>by
 obtain ⟨o1,e1,d1⟩:=a c o e
 obtain ⟨o2,e2,d2⟩:=b c o1 e1
 exact ⟨o2,e2,d2.trans d1⟩
theorem WE {α:Type} {M:Model} {Γ:PySem.Ctx} {Q:α→Pos→Shared→Prop} {E:Value→Pos→Shared→Prop}:∀(t:Sem α) (p:Pos) (s:Shared),KD t→Sem.wp M Γ t Q E p s→Sem.wp M Γ t (fun a p s'=>Q a p s'∧Dicts s.heap s'.heap) (fun a p s'=>E a p s'∧Dicts s.heap s'.heap) p s:=by
 have lift:∀(t:Sem α) (p:Pos) (h0:Heap) (s:Shared),Dicts h0 s.heap→Sem.wp M Γ t (fun a p s'=>Q a p s'∧Dicts s.heap s'.heap) (fun a p s'=>E a p s'∧Dicts s.heap s'.heap) p s→Sem.wp M Γ t (fun a p s'=>Q a p s'∧Dicts h0 s'.heap) (fun a p s'=>E a p s'∧Dicts h0 s'.heap) p s:=
  fun t p h0 s d w=>Sem.wp_mono M Γ t (fun a p s' z=>⟨z.1,d.trans z.2⟩) (fun a p s' z=>⟨z.1,d.trans z.2⟩) p s w
 intro t
 induction t with
 |pure a=>exact fun p s _ w=>⟨w,.refl _⟩
 |raise e=>exact fun p s _ w=>⟨w,.refl _⟩
 |unsupported w=>exact fun p s _ w=>w.elim
 |finish w=>exact fun p s _ w=>w.elim
 |rule t k ih=>exact fun p s kd w=>ih () p s kd w
 |«at» t k ih=>exact fun p s kd w=>ih () t s kd w
 |load a x k ih=>exact fun p s kd ⟨o,e,w⟩=>⟨o,e,ih o p s (kd o) w⟩
 |update a x f k ih=>
  refine fun p s kd ⟨e,w⟩=>⟨e,lift _ p s.heap {s with heap:=s.heap.update a f} (fun b o eb=>?_) (ih () p _ kd.2 w)⟩
  by_cases hb:b=a
  ·subst hb
   obtain ⟨d1,d2⟩:=kd.1 o
   exact ⟨f o,IS f eb (d2 (Heap.get?_some_iff.mp eb).2),d1⟩
  ·exact ⟨o,(IR s.heap f (Ne.symm hb)).trans eb,rfl⟩
 |alloc o k ih=>exact fun p s kd w=>lift _ p s.heap {s with heap:=s.heap.push o} (fun b ob eb=>⟨ob,AJ _ eb,rfl⟩) (ih _ p {s with heap:=s.heap.push o} (kd _) w)
 |loadIfAlive a k ih=>exact fun p s kd w=>ih _ p s (kd _) w
 |point l k ih=>exact fun p s kd w=>ih () p s kd w
 |register a k ih=>exact fun p s kd w=>w.elim
 |fresh k ih=>exact fun p s kd w=>ih _ p {s with toks:=s.toks+1} (kd _) w
 |ask k ih=>exact fun p s kd w=>ih _ p s (kd _) w
 |choose src n k ih=>exact fun p s kd ⟨z,w⟩=>⟨z,ih _ p {s with drawn:=s.drawn.bump src} (kd _) w⟩
 |os q l k ih=>exact fun p s kd w=>ih _ p {s with os:=(Os.step s.os q).1} (kd _) w
 |call c h g l k ih=>exact fun p s kd w=>kd.elim
 |handled o k ih=>exact fun p s kd w=>ih _ p s (kd _) w
 |newGen c k ih=>exact fun p s kd w=>ih _ p {s with gens:=s.gens.push (.fresh c)} (kd _) w
 |genState g k ih=>exact fun p s kd ⟨st,e,w⟩=>⟨st,e,ih _ p s (kd _) w⟩
 |resume g r l k ih=>exact fun p s kd w=>kd.elim
 |yield v g l k ih=>exact fun p s kd w=>w.elim
 |stack k ih=>exact fun p s kd w=>ih _ p s (kd _) w
 |fork c k ih=>exact fun p s kd w=>w.elim
 |thread k ih=>exact fun p s kd w=>ih _ p s (kd _) w
 |await a t b l k ih=>exact fun p s kd w=>w.elim
theorem Jy {α:Type} {M:Model} {A:Around} {t:Sem α} {Q:α→Shared→Prop} {E:Value→Shared→Prop} {s:Shared} (kd:KD t) (h:wpAny M A t Q E s):wpAny M A t (fun a s'=>Q a s'∧Dicts s.heap s'.heap) (fun a s'=>E a s'∧Dicts s.heap s'.heap) s:=
 fun Γ p hΓ=>WE t p s kd (h Γ p hΓ)
theorem KD.bind {α β:Type} {f:α→Sem β}:∀{t:Sem α},KD t→(∀a,KD (f a))→KD (t >>=f):=by
 intro t
 induction t with
 |pure a=>exact fun _ h=>h a
 |raise e=>exact fun _ _=>True.intro
 |unsupported w=>exact fun _ _=>True.intro
 |finish w=>exact fun _ _=>True.intro
 |rule t k ih=>exact fun kd h=>ih () kd h
 |«at» t k ih=>exact fun kd h=>ih () kd h
 |load a x k ih=>exact fun kd h o=>ih o (kd o) h
 |update a x g k ih=>exact fun kd h=>⟨kd.1,ih () kd.2 h⟩
 |alloc o k ih=>exact fun kd h a=>ih a (kd a) h
 |loadIfAlive a k ih=>exact fun kd h a=>ih a (kd a) h
 |point l k ih=>exact fun kd h=>ih () kd h
 |register a k ih=>exact fun kd h=>True.intro
 |fresh k ih=>exact fun kd h a=>ih a (kd a) h
 |ask k ih=>exact fun kd h a=>ih a (kd a) h
 |choose src n k ih=>exact fun kd h a=>ih a (kd a) h
 |os q l k ih=>exact fun kd h a=>ih a (kd a) h
 |call c h g l k ih=>exact fun kd h=>kd.elim
 |handled o k ih=>exact fun kd h a=>ih a (kd a) h
 |newGen c k ih=>exact fun kd h a=>ih a (kd a) h
 |genState g k ih=>exact fun kd h a=>ih a (kd a) h
 |resume g r l k ih=>exact fun kd h=>kd.elim
 |yield v g l k ih=>exact fun kd h=>True.intro
 |stack k ih=>exact fun kd h a=>ih a (kd a) h
 |fork c k ih=>exact fun kd h=>True.intro
 |thread k ih=>exact fun kd h a=>ih a (kd a) h
 |await a t b l k ih=>exact fun kd h=>True.intro
theorem Gf {α:Type} {c:Prop} [Decidable c] {a b:Sem α} (ha:KD a) (hb:KD b):KD (if c then a else b):=by split<;>assumption
theorem Nm {a:Addr}:KD (load a):=fun _=>True.intro
theorem WG {f:Array Value→Array Value} (o:Obj):(Obj.mapFields f o).dict=o.dict∧(o.isFreed=false→(Obj.mapFields f o).isFreed=false):=by
 obtain ⟨c,d,dt,sl⟩:=o
 cases dt<;>exact ⟨rfl,fun h=>h⟩
theorem WH {v:Value}:KD (fieldsOf v):=by
 unfold fieldsOf
 split
 ·exact KD.bind Nm fun o=>by split<;>exact True.intro
 ·exact True.intro
theorem La {v:Value} {i:Nat}:KD (field v i):=by
 unfold field
 exact KD.bind WH fun o=>by split<;>exact True.intro
theorem Nn {v x:Value} {i:Nat}:KD (setField v i x):=by
 unfold setField
 split
 ·unfold updateField
  refine KD.bind Nm fun o=>?_
  split
  ·exact Gf ⟨WG,True.intro⟩ True.intro
  ·exact True.intro
 ·exact True.intro
theorem Np {v:Value} {o:Option Addr}:KD (setFlight v o):=by
 unfold setFlight
 exact KD.bind La fun o=>Gf Nn True.intro
theorem WI {n:String} {vs:List Value}:KD (newFields n vs):=by
 unfold newFields newObj
 unfold newObjAsIs
 dsimp only
 split
 ·exact True.intro
 ·exact fun a=>True.intro
theorem QW:∀{l:List Env},KD (readyFrames l)
 |[]=>True.intro
 |env::outer=>by
  unfold readyFrames
  split
  ·refine KD.bind Nm fun o=>Gf True.intro (KD.bind ?_ fun b=>KD.bind ?_ fun v=>KD.bind ⟨fun o=>⟨rfl,fun h=>?_⟩,True.intro⟩ fun _=>QW)
   ·unfold behindIsImport
    exact Gf True.intro (Gf True.intro (KD.bind La fun _=>True.intro))
   ·unfold keptBack
    split
    ·exact Gf True.intro fun _=>True.intro
    ·exact True.intro
   ·obtain ⟨c,d,dt,sl⟩:=o
    cases dt<;>exact h
  ·exact True.intro
theorem WJ {env:Env}:KD (PySem.frameOf env):=by
 unfold PySem.frameOf
 refine KD.bind (fun _=>True.intro) fun l=>KD.bind ?_ fun o=>?_
 ·unfold frameObject
  split
  ·exact True.intro
  ·exact KD.bind QW fun _=>True.intro
 ·split<;>exact True.intro
theorem WK {f:Addr} {b:Bool}:KD (entryPlaceOf f b):=by
 unfold entryPlaceOf
 intro l
 show KD (match l.find? _ with |some (_,pos)=>_ |none=>_)
 split<;>exact True.intro
theorem QX {e:Value} {env:Env}:KD (noteFrame e env):=by
 unfold noteFrame
 split
 ·refine KD.bind La fun hd=>?_
  have AW:∀f:Addr,KD (do setField e 1 (←EntryCells.newEntry hd (←PySem.frameOf env) .none (rawInt f) .none (←entryPlaceOf f (hd != .none)))):=fun f=>
   KD.bind WJ fun _=>KD.bind WK fun _=>KD.bind WI fun _=>Nn
  refine Gf (KD.bind La fun x=>Gf True.intro (KD.bind Nn fun _=>?_)) ?_
  ·exact AW _
  ·exact AW _
 ·exact True.intro
theorem QY {e:Value} {env:Env}:KD (leaving env e):=by
 unfold leaving
 exact KD.bind QX fun _=>Np
open Classical in
noncomputable def blank (p:Addr→Prop) (h:Heap):Heap:=⟨h.objs.mapIdx fun i o=>if p i then {o with data:=.freed} else o,h.life⟩
theorem GL {p:Addr→Prop} {h:Heap} {b:Addr} (hp:p b):(blank p h).get? b=none:=by
 unfold blank Heap.get?
 simp only [Array.getElem?_mapIdx]
 cases e:h.objs[b]? with
 |none=>rfl
 |some o=>simp [hp]
theorem GM {p:Addr→Prop} {h:Heap} {b:Addr} (hp:¬p b):(blank p h).get? b=h.get? b:=by
 unfold blank Heap.get?
 simp only [Array.getElem?_mapIdx]
 cases e:h.objs[b]? with
 |none=>rfl
 |some o=>simp [hp]
theorem Nq {p:Addr→Prop} {h:Heap}:(blank p h).StaysIn h:=fun b o e=>by
 by_cases hp:p b
 ·rw [GL hp] at e;cases e
 ·rw [GM hp] at e;exact e
inductive Lb (h0 h:Heap) (H:Hp) (a:Addr) (C:Value) (da:Option Addr):Prop where
 |mk (new:h0.get? a=none) (no:H a=none) (oe:Obj) (vs:Array Value) (a0:Value) (T:Addr) (oT:Obj) (ts:Array Value) (e1:h.get? a=some oe) (e2:oe.cls=C∧vs[0]?=some a0) (e3:oe.data=.fields vs) (e4:vs[1]?=some (.ref T)) (e5:h0.get? T=none) (e6:H T=none) (e7:T≠a) (e8:h.get? T=some oT) (e9:oT.data=.fields ts) (e10:ts[3]?=some .none) (e11:oe.dict=da):Lb h0 h H a C da
abbrev DU (n:Str):Value:=.str n 0
inductive As (P:Program) (w:World) (K:PySem.W.Frag) (outer:List Env) (H:Hp) (s:Shared) (E:XK) (e:Value) (s':Shared):Prop where
 |mk (a C:Addr) (n:Str) (da:Option Addr) (H':Hp) (ee:e=.ref a) (os:s'.os=s.os) (bare:AllBare s'.gens) (un:Un (frs outer) [] H H' s.heap s'.heap) (hok:HOk P w H' s'.heap) (fly:Lb s.heap s'.heap H' a (.ref C) da) (nm:PySem.W.nsIn K mainGlobals n=some (some (.ref C))) (q:E (DU n) da H'):As P w K outer H s E e s'
theorem Lc {h base:Heap} {p:Addr→Prop}:∀{l:List Env},h.FunFrames base l→(∀b∈frs l,p b)→h.FunFrames (blank p h) l
 |[],_,_=>trivial
 |env::rest,⟨k,⟨L,o,hf,_,ho,hd⟩,r⟩,hp=>⟨k,⟨L,o,hf,GL (hp L (by unfold frs;rw [Hs,hf];exact AO)),ho,hd⟩,
  Lc r fun b hb=>hp b (by
   unfold frs at hb ⊢
   rw [Hs,hf]
   exact AS _ hb)⟩
theorem Ld {P:Program} {w:World} {H:Hp} {h:Heap} {a:Addr} {o:HO} (x:ObjOk P w H h a o):∃ob,h.get? a=some ob:=by
 cases o with
 |lst xs=>obtain ⟨_,_,_,_,e⟩:=x;exact ⟨_,e⟩
 |tup xs=>obtain ⟨_,_,_,⟨_,e,_⟩,_⟩:=x;exact ⟨_,e⟩
 |own y=>exact x
 |xd fs=>obtain ⟨_,⟨_,_,_,e,_⟩,_⟩:=x;exact ⟨_,e⟩
 |frz ob u=>obtain ⟨e,_⟩:=x;exact ⟨_,e⟩
 |tbl ps=>exact ⟨_,x⟩
 |ext φ=>exact x.2.1
 |mex φ=>exact x.2.1
structure Lv (X:Cx) (E:XK):Prop where
 xe:∀e s',wpAny (model X.prog X.w) X.A (leaving X.env e) (fun _ s''=>As X.prog X.w X.K X.outer X.H₀ X.s₀ E e s'') (fun e' s''=>As X.prog X.w X.K X.outer X.H₀ X.s₀ E e' s'') s'→X.xe e s'
 stk:X.stack=X.env::X.outer
 fr:X.env.frame=some X.env.locals
 ex:X.ex=[]
theorem Ib {P:Program} {w:World} {K:PySem.W.Frag} {mg:Str→Option Value} {base:Heap} {N:List Str} {qual:Str} {scope:Scope} {f:Addr} {cd:Value} {A:Around} {outer:List Env} {s:Shared} {H:Hp} {E:XK}:Lv (AI (As P w K) P w K mg base N qual scope f cd A outer s H E) E:=
 ⟨fun _ _ h=>h,rfl,rfl,rfl⟩
section
variable {X:Cx} {E:XK}
theorem Lv.frs (lv:Lv X E):L2.frs X.stack=X.env.locals::X.fs:=by
 rw [lv.stk];unfold L2.frs;rw [Hs,lv.fr];rfl
theorem QZ {pins:List (Addr×Obj)} {σ:L2.St} {H':Hp} {s':Shared} {h':Heap} {a T:Addr} {C:Value} (lv:Lv X E)
 (I:Inv X pins σ H' s')
 (na:X.s₀.heap.get? a=none) (nT:X.s₀.heap.get? T=none) (ha:H' a=none) (hT:H' T=none) {a0:Value}
 (L:Heap.LeftW (blank (fun b=>b=a∨b=T∨b∈frs X.stack) s'.heap) X.stack a C a0 s'.heap h') {da:Option Addr} {oa:Obj} (ea:s'.heap.get? a=some oa) (ed:oa.dict=da) (dd:Dicts s'.heap h'):
 Un X.fs [] X.H₀ H' X.s₀.heap h'∧HOk X.prog X.w H' h'∧Lb X.s₀.heap h' H' a C da:=by
 obtain ⟨stay,ff,⟨oe,vs,T2,oT,ts,e1,e2,e3,e4,e5,e6,e7,e8,e9⟩,ups⟩:=L
 have e11:oe.dict=da:=by
  obtain ⟨o',q1,q2⟩:=dd a oa ea
  rw [e1] at q1
  cases q1
  exact q2.trans ed
 have B:Un X.fs [] X.H₀ H' X.s₀.heap s'.heap:=by have:=I.base;rw [lv.ex] at this;exact this
 have stk:=I.stack
 have frNone:∀b∈frs X.stack,H' b=none:=fun b hb=>I.stkFree b hb
 have keepOf:∀b o,¬(b=a∨b=T∨b∈frs X.stack)→s'.heap.get? b=some o→h'.get? b=some o:=fun b o hb e=>stay b o (by rw [GM hb];exact e)
 have notL:∀b o,X.s₀.heap.get? b=some o→b∉X.fs→b∉frs X.stack:=fun b o e hb z=>by
  rw [lv.frs] at z
  rcases qa7.mp z with z |z
  ·have:=AE e
   rw [z] at this
   exact absurd (AX this I.ok.above) (CP _)
  ·exact hb z
 have old:∀b o,X.s₀.heap.get? b=some o→b≠a∧b≠T:=fun b o e=>⟨fun z=>(by rw [z,na] at e;cases e),fun z=>(by rw [z,nT] at e;cases e)⟩
 have noFields:∀b,b∈frs X.stack→∃o,s'.heap.get? b=some o∧∀vs,o.data≠.fields vs:=fun b hb=>(stk.mem hb).2
 have any:∀b o,X.s₀.heap.get? b=some o→s'.heap.get? b≠none→∃o',h'.get? b=some o':=fun b o e hn=>by
  cases e':s'.heap.get? b with
  |none=>exact absurd e' hn
  |some o'=>
   by_cases hb:b∈frs X.stack
   ·obtain ⟨o2,h2,d2⟩:=noFields b hb
    obtain ⟨sl,h3⟩:=ups b o2 h2 d2
    exact ⟨_,h3⟩
   ·exact ⟨o',keepOf b o' (fun z=>by rcases z with z |z |z;exact (old b o e).1 z;exact (old b o e).2 z;exact hb z) e'⟩
 refine ⟨⟨fun b o e n hb hx=>?_,fun b o e n hb hx=>?_,B.free,fun b o e hx=>?_,B.tups,B.frzs,B.tbls⟩,fun b o e=>?_,na,ha,oe,vs,a0,T2,oT,ts,e1,e2,e3,e4,?_,?_,e6,e7,e8,e9,e11⟩
 ·exact keepOf b o (fun z=>by rcases z with z |z |z;exact (old b o e).1 z;exact (old b o e).2 z;exact notL b o e hb z) (B.keep b o e n hb hx)
 ·obtain ⟨sl,h1⟩:=B.slot b o e n hb hx
  have hb':b∈frs X.stack:=by rw [lv.frs];exact AS _ hb
  obtain ⟨o2,h2,d2⟩:=noFields b hb'
  rw [h1] at h2
  cases h2
  obtain ⟨sl2,h3⟩:=ups b _ h1 d2
  exact ⟨sl2,h3⟩
 ·obtain ⟨o',h1⟩:=B.there b o e hx
  exact any b o e (by rw [h1];simp)
 ·refine (I.hok b o e).stay (fun c u hc q=>keepOf c u (fun z=>?_) q) (fun _ q=>q) fun _ _ q=>q
  have hc':H' c≠none:=by
   rcases hc with rfl |hc
   ·rw [e];simp
   ·rw [hc];simp
  rcases z with z |z |z
  ·exact hc' (z ▸ ha)
  ·exact hc' (z ▸ hT)
  ·exact hc' (frNone c z)
 ·cases q:X.s₀.heap.get? T2 with
  |none=>rfl
  |some o=>
   exfalso
   obtain ⟨o',h1⟩:=B.there T2 o q (by simp)
   by_cases hb:T2∈frs X.stack
   ·obtain ⟨o2,h2,d2⟩:=noFields T2 hb
    obtain ⟨sl,h3⟩:=ups T2 o2 h2 d2
    rw [h3] at e7
    cases e7
    exact d2 _ e8
   ·rw [GM (fun z=>by rcases z with z |z |z;exact (old T2 o q).1 z;exact (old T2 o q).2 z;exact hb z),h1] at e5
    cases e5
 ·cases q:H' T2 with
  |none=>rfl
  |some o=>
   exfalso
   by_cases hb:T2=a∨T2=T∨T2∈frs X.stack
   ·rcases hb with z |z |z
    ·rw [z,ha] at q;cases q
    ·rw [z,hT] at q;cases q
    ·rw [frNone T2 z] at q;cases q
   ·rw [GM hb] at e5
    obtain ⟨ob,eb⟩:=Ld (I.hok T2 o q)
    rw [eb] at e5
    cases e5
theorem Lv.older (lv:Lv X E) {pins:List (Addr×Obj)} {σ:L2.St} {H1:Hp} {s1:Shared} (I:Inv X pins σ H1 s1):∀b,s1.heap.get? b=none→X.s₀.heap.get? b=none:=fun b hb=>by
 cases q:X.s₀.heap.get? b with
 |none=>rfl
 |some o=>
  obtain ⟨o',h1⟩:=I.base.there b o q (by rw [lv.ex];simp)
  rw [hb] at h1;cases h1
theorem Nr (lv:Lv X E):EJ (As X.prog X.w X.K) X E:=by
 rintro pins σ H1 s1 e s' I ⟨a,C,n,da,H',ee,os,bare,un,hok,fly,nm,q⟩
 subst ee
 have I':Inv X pins σ H' s':=I.call' os un hok bare (fun b hb=>absurd hb (by simp))
 obtain ⟨fnew,fno,oe,vs,a0,T,oT,ts,e1,e2,e3,e4,e5,e6,e7,e8,e9,e10,e11⟩:=fly
 have fro:X.A.frames=some (X.env::X.outer):=by rw [←lv.stk];exact I'.ok.frames
 have stk:s'.heap.FunFrames X.base (X.env::X.outer):=by have:=I'.stack;rw [lv.stk] at this;exact this
 have run:=Jy QY (wpAny_leaving_nextW (M:=model X.prog X.w) (E:=fun _ _=>False) (Q:=fun _ s''=>∃h',s''={s' with heap:=h'}∧Heap.LeftW (blank (fun b=>b=a∨b=T∨b∈frs X.stack) s'.heap) (X.env::X.outer) a (.ref C) a0 s'.heap h') (base:=blank (fun b=>b=a∨b=T∨b∈frs X.stack) s'.heap) (cls:=.ref C) (a0:=a0) fro (Lc stk fun b hb=>.inr (.inr (by rw [lv.stk];exact hb))) lv.fr
  ⟨oe,vs,T,oT,ts,e1,e2,e3,e4,GL (.inr (.inl rfl)),e7,e8,e9,e10⟩ Nq (GL (.inl rfl)) fun h' L=>⟨h',rfl,L⟩)
 refine lv.xe _ _ (wpAny_mono run (fun _ s'' z=>?_) fun _ _ z=>z.1.elim)
 obtain ⟨⟨h',rfl,L⟩,D⟩:=z
 obtain ⟨u1,u2,u3⟩:=QZ lv I' (lv.older I a fnew) (lv.older I T e5) fno e6 (by rw [lv.stk] at *;exact L) e1 e11 D
 exact ⟨a,C,n,da,H',rfl,I'.os,bare,u1,u2,u3,nm,q⟩
theorem Q0 (lv:Lv X E) {pins:List (Addr×Obj)} {σ:L2.St} {H1:Hp} {s1:Shared} {a C:Addr} {n:Str} {da:Option Addr} {oe:Obj} {vs:Array Value} {a0:Value} (I':Inv X pins σ H1 s1)
 (e1:s1.heap.get? a=some oe) (ec:oe.cls=.ref C) (e3:oe.data=.fields vs) (v0:vs[0]?=some a0) (v1:vs[1]?=some .none) (ed:oe.dict=da) (new:X.s₀.heap.get? a=none) (fresh:H1 a=none) (nm:PySem.W.nsIn X.K mainGlobals n=some (some (.ref C))) (q:E (DU n) da H1):X.xe (.ref a) s1:=by
 have fro:X.A.frames=some (X.env::X.outer):=by rw [←lv.stk];exact I'.ok.frames
 have stk:s1.heap.FunFrames X.base (X.env::X.outer):=by have:=I'.stack;rw [lv.stk] at this;exact this
 have run:=Jy QY (wpAny_leaving_firstW (M:=model X.prog X.w) (E:=fun _ _=>False) (Q:=fun _ s''=>∃h',s''={s1 with heap:=h'}∧Heap.LeftW (blank (fun b=>b=a∨b=a∨b∈frs X.stack) s1.heap) (X.env::X.outer) a oe.cls a0 s1.heap h') (base:=blank (fun b=>b=a∨b=a∨b∈frs X.stack) s1.heap) (a0:=a0) fro (Lc stk fun b hb=>.inr (.inr (by rw [lv.stk];exact hb))) lv.fr
  e1 Nq (GL (.inl rfl)) e3 v1 v0 fun h2 L=>⟨h2,rfl,L⟩)
 refine lv.xe _ _ (wpAny_mono run (fun _ s'' z=>?_) fun _ _ z=>z.1.elim)
 obtain ⟨⟨h',rfl,L⟩,D⟩:=z
 obtain ⟨u1,u2,u3⟩:=QZ lv I' new new fresh fresh (by rw [lv.stk] at *;exact L) e1 ed D
 rw [ec] at u3
 exact ⟨a,C,n,da,H1,rfl,I'.os,I'.bare,u1,u2,u3,nm,q⟩
theorem WL (lv:Lv X E) {pins:List (Addr×Obj)} {σ:L2.St} {H1:Hp} {s1:Shared} {h':Heap} {a C:Addr} {n:Str} {vs:List Value} (I:Inv X pins σ H1 s1)
 (m:Heap.MadeExcOf s1.heap h' a (.ref C) vs) (nm:PySem.W.nsIn X.K mainGlobals n=some (some (.ref C))) (q:E (DU n) none H1):X.xe (.ref a) {s1 with heap:=h'}:=by
 have I':Inv X pins σ H1 {s1 with heap:=h'}:=I.kept m.keeps
 obtain ⟨t,e1,e2,e3⟩:=m.there
 have fresh:H1 a=none:=by
  cases q:H1 a with
  |none=>rfl
  |some o=>
   obtain ⟨ob,eb⟩:=Ld (I.hok a o q)
   rw [m.new] at eb;cases eb
 exact Q0 lv I' e1 rfl rfl rfl rfl rfl (lv.older I a m.new) fresh nm q
end
section
variable {P:Program} {w:World} {K:PySem.W.Frag} {mg:Str→Option Value} {base:Heap} {N:List Str} {qual:Str} {scope:Scope} {f:Addr} {cd:Value} {A:Around} {outer:List Env} {s:Shared} {H:Hp} {E:XK}
theorem Ba:EJ (As P w K) (AI (As P w K) P w K mg base N qual scope f cd A outer s H E) E:=Nr Ib
theorem WM {pins:List (Addr×Obj)} {σ:L2.St} {H1:Hp} {s1:Shared} {h':Heap} {a C:Addr} {n:Str} {vs:List Value} (I:Inv (AI (As P w K) P w K mg base N qual scope f cd A outer s H E) pins σ H1 s1)
 (m:Heap.MadeExcOf s1.heap h' a (.ref C) vs) (nm:PySem.W.nsIn K mainGlobals n=some (some (.ref C))) (q:E (DU n) none H1):(AI (As P w K) P w K mg base N qual scope f cd A outer s H E).xe (.ref a) {s1 with heap:=h'}:=WL Ib I m nm q
end
inductive Q1 (h:Heap) (C:Addr) (bmB:List Value) (newId:String):Prop where
 |mk (bm:List Value) (N:Addr) (nm q:Str) (bs:List Value) (hdct:Bool) (sn:List Str) (sub:List Value) (ab:Bool) (col:Option Bool) (dd:Option Addr) (k0 k1 k2 k3 k5:Option Value) (mN:Str→Option Value)
  (hC:h.get? C=some (excClassObj nm q C N bs bm hdct sn sub ab col dd k0 k1 k2 k3 k5 newId)) (hN:h.Ns N mN) (hni:mN "__init__"=none) (T:OwnTail h bmB bm):Q1 h C bmB newId
def Nt (K:PySem.W.Frag) (C:Addr) (bmB:List Value) (newId:String):Prop:=∀h:Heap,K.In h→Q1 h C bmB newId
def clsOf:Data→Option ClassData
 |.cls c=>some c
 |_=>none
theorem Nu {d:Data} {c:ClassData} (h:clsOf d=some c):d=.cls c:=by
 cases d<;>first |(cases h;rfl) |cases h
inductive Q2 {α:Type} (l:List α):Prop where
 |mk (a b c d e f:α) (q:l=[a,b,c,d,e,f]):Q2 l
theorem Q3 {α:Type} {l:List α} (h:l.length=6):Q2 l:=by
 cases l with
 |nil=>cases h
 |cons a l=>cases l with
  |nil=>cases h
  |cons b l=>cases l with
   |nil=>cases h
   |cons c l=>cases l with
    |nil=>cases h
    |cons d l=>cases l with
     |nil=>cases h
     |cons e l=>cases l with
      |nil=>cases h
      |cons f l=>cases l with
       |nil=>exact ⟨a,b,c,d,e,f,rfl⟩
       |cons g l=>cases h
def Le (K:PySem.W.Frag) (C:Addr) (bmB:List Value) (newId:String) (o:Obj) (cd:ClassData):Bool:=
 decide (o.cls=.type "type")&&(decide (cd.mro=.ref C::cd.mro.tail)&&(!cd.hasDel&&(PySem.W.tailIn K bmB cd.mro.tail&&(PySem.W.nsOkIn K cd.ns&&(PySem.W.nsIn K cd.ns "__init__"==some none&&(decide (o.slots.toList.length=6)&&decide (o.slots.toList[4]?=some (some (.builtin newId)))))))))
def Nv (K:PySem.W.Frag) (C:Addr) (bmB:List Value) (newId:String):Bool:=match K.lookup C with
 |some o=>(match clsOf o.data with
  |some cd=>Le K C bmB newId o cd
  |none=>false)
 |none=>false
theorem WN {K:PySem.W.Frag} {C:Addr} {bmB:List Value} {newId:String} (q:Nv K C bmB newId=true):Nt K C bmB newId:=by
 intro h X
 unfold Nv at q
 cases lk:K.lookup C with
 |none=>rw [lk] at q;cases q
 |some o=>
  rw [lk] at q
  replace q:(match clsOf o.data with |some cd=>Le K C bmB newId o cd |none=>false)=true:=q
  cases ec:clsOf o.data with
  |none=>rw [ec] at q;cases q
  |some cd=>
   rw [ec] at q
   replace q:Le K C bmB newId o cd=true:=q
   unfold Le at q
   simp only [CN,decide_eq_true_eq,Bool.not_eq_true',beq_iff_eq] at q
   obtain ⟨e1,e2,e3,e4,e5,e6,e7,e8⟩:=q
   obtain ⟨cls,od,dt,⟨sl⟩⟩:=o
   obtain ⟨nm,bs,mro,ns,qn,hd,sn,sub,ab,col,del⟩:=cd
   replace ec:=Nu ec
   simp only at ec e1 e2 e3 e4 e5 e6 e7 e8
   obtain ⟨k0,k1,k2,k3,k4,k5,rfl⟩:=Q3 e7
   cases mro with
   |nil=>cases e2
   |cons c bm=>
    cases e2
    cases Option.some.inj e8
    subst ec e1 e3
    exact ⟨_,_,_,_,_,_,_,_,_,_,_,_,_,_,_,_,h.nsMap ns,X _ _ lk,.of_isNs (PySem.W.isNs_of_in X e5),PySem.W.nsMap_none_of_in X e5 e6,PySem.W.tail_of_in X e4⟩
abbrev Jz:List Value:=[.type "ValueError",.type "Exception",.type "BaseException",.type "object"]
def Nw (X:Cx) (E:XK):Prop:=∀(pins:List (Addr×Obj)) (σ:L2.St) (H1:Hp) (s1:Shared) (h':Heap) (a C:Addr) (n:Str) (vs:List Value),Inv X pins σ H1 s1→Heap.MadeExcOf s1.heap h' a (.ref C) vs→PySem.W.nsIn X.K mainGlobals n=some (some (.ref C))→E (DU n) none H1→X.xe (.ref a) {s1 with heap:=h'}
theorem Q4 {P:Program} {w:World} {K:PySem.W.Frag} {mg:Str→Option Value} {base:Heap} {N:List Str} {qual:Str} {scope:Scope} {f:Addr} {cd:Value} {A:Around} {outer:List Env} {s:Shared} {H:Hp} {E:XK}:
 Nw (AI (As P w K) P w K mg base N qual scope f cd A outer s H E) E:=fun pins σ H1 s1 h' a C n vs I m nm q=>WM I m nm q
section
variable {X:Cx} {E:XK}
def Ic (n:Str) (fa:MA):MS:=fun ρ h=>(fa ρ h).bind fun xs h1=>if xs.length≤sizeLine then .err (DU n) [] h1 else .stuck
theorem WO {x:Str} {C:Addr} {e:Expr} {es:List Expr} {fa:MA} {np cpos pos:Pos} (O:Nt X.K C Jz "ValueError.__new__") (nmC:PySem.W.nsIn X.K mainGlobals x=some (some (.ref C))) (hg:Gl X x) (hc:X.calm=true) (th:Nw X E) (ha:Cb X E (e::es) fa)
 (hdb:(x==("__debug__":Str))=false:=by decide) (he:starEach (e::es) X.env=(false,eval e X.env)::starEach es X.env:=by rfl) (hpl:(backTo cpos (starEach (e::es) X.env)).any (·.1)=false:=by rfl):
 Ex X E (.Raise (some (.Call (.Name x np) (e::es) [] cpos)) none pos) (Ic x fa):=by
 rintro pins s σ H D I ⟨m,ρ,h,hr,er,p⟩
 have hm:X.mg x=some (.ref C):=PySem.W.mg_of I.mod.kin I.mod.glob nmC
 obtain ⟨bm,NN,nm,q,bs,hdct,sn,sub,ab,col,dd,k0,k1,k2,k3,k5,mN,hC,hN,hni,T⟩:=O X.base I.mod.kin
 refine wpAny_Raise_call_subT (C:=C) (nm:=nm) (q:=q) (N:=NN) (bs:=bs) (bm:=bm) (hdct:=hdct) (sn:=sn) (sub:=sub) (ab:=ab) (col:=col) (dd:=dd) (k0:=k0) (k1:=k1) (k2:=k2) (k3:=k3) (k5:=k5)
  PySem.F.excBase_ValueError (mN:=mN) (T.hasType PySem.F.excBase_ValueError.hasBase) (I.ok.hd hc) hpl hni (Ft I hg hm ⟨rfl,?_⟩ hdb)
 have hh:=ha cpos pins s σ H (fun vs H1=>vs.length≤sizeLine∧E (DU x) none H1) I ⟨m,ρ,h,hr,er,PostS.bind p fun xs h1 vs m1 H1 _ p1 k1 hr1 r1 q1=>by
  split at q1
  ·rename_i hz
   exact ⟨by rw [←DVs.len r1];exact hz,q1 none m1 H1 (AH _) (.refl _) hr1 (fun f d z=>by cases z)⟩
  ·exact q1.elim⟩
 rw [he] at hh ⊢
 exact Calls.evalArgs_plain (Aw hh fun us s1 z1_=>by obtain ⟨vs,H1,I1,r,hl,q1⟩:=z1_;exact (⟨rfl,by rw [←r.length];exact hl,I1.bk _ _ hC,hN.keeps I1.bk,T.keeps I1.bk,fun h' a z=>th pins σ H1 s1 h' a C x us I1 z nmC q1⟩))
inductive Em (K:PySem.W.Frag) (F:List D→HD→Out D) (vs:List V) (H:Hp) (Q:VK) (E:XK):Prop where
 |mk (m:List Addr) (ds:List D) (h:HD) (hr:HR K m h H) (r:DVs K m H ds vs) (p:Post K (rD K) m H E Q (F ds h)):Em K F vs H Q E
theorem Ie {P:Program} {w:World} {K:PySem.W.Frag} {X:Cx}:EJ (As P w K) X E0:=fun _ _ _ _ _ _ _ z2_=>by obtain ⟨_,_,_,_,_,_,_,_,_,_,_,_,q⟩:=z2_;exact (q.elim)
theorem Lf {K:PySem.W.Frag} {n:Nat} {F:List D→HD→Out D} (ar:Ar n F) {vs:List V} {H:Hp} {Q:VK} {E':XK} (h:Em K F vs H Q E'):vs.length=n:=by
 obtain ⟨m,ds,hd,hr,r,p⟩:=h
 rw [←r.len]
 by_cases e:ds.length=n
 ·exact e
 ·rw [ar ds hd e] at p;exact p.elim
structure CaE (P:Program) (w:World) (K:PySem.W.Frag) (mg:Str→Option Value) (base:Heap) (x:Str) (k:Nat) (F:List D→HD→Out D):Prop where
 ex:∃(f:Addr) (fd:FuncData) (ps:List Str),FnOk P w K mg base (As P w K) k f fd ps (Em K F)∧Binds K fd ps []∧mg x=some (.ref f)∧PySem.W.keepIn K (.ref f)=true
theorem A2 {k k':Nat} {F:List D→HD→Out D} {fa:MA} {x:Str} {p pos:Pos} {e:Expr} {es:List Expr} (C:CaE X.prog X.w X.K X.mg X.base x k F) (hr:Room k' X.A) (hx:EJ (As X.prog X.w X.K) X E) (ha:Cb X E (e::es) fa) (hk:k≤k':=by decide) (hg:Gl X x:=by rfl)
 (hdb:(x==("__debug__":Str))=false:=by decide) (he:starEach (e::es) X.env=(false,eval e X.env)::starEach es X.env:=by rfl) (hpl:(backTo pos (starEach es X.env)).any (·.1)=false:=by rfl):
 Ev X E (.Call (.Name x p) (e::es) [] pos) (Ag F fa):=by
 obtain ⟨f,fd,ps,G,hb,hm,hkp⟩:=C.ex
 exact B3 (Vn (E:=E) G (hr.mono hk) hg hm hkp hb .nil hx ha hdb he hpl) fun σ H Q z3_=>by obtain ⟨m,ρ,hd,hr,er,p⟩:=z3_;exact (⟨m,ρ,hd,hr,er,Post.bind p fun xs h1 vs m1 H1 e1 p1 k1 hr1 r1 q1=>by
  rw [ED]
  exact ⟨m1,xs,h1,hr1,r1,q1⟩⟩)
theorem Bn {P:Program} {w:World} {K:PySem.W.Frag} {mg:Str→Option Value} {base:Heap} {x qual:Str} {st:Stmt} {f:Addr} {fd:FuncData} {N ps:List Str} {k:Nat} {F:List D→HD→Out D} {g:MS} (Fn:Fun K x qual st f fd) (S:AV N ps (defScope st)) (ar:Ar ps.length F)
 (hg:∀ds h,ds.length=ps.length→F ds h=Am N.length g ds h)
 (hbody:∀(cdv:Value) (A:Around) (outer:List Env) (s:Shared) (H:Hp) (E:XK),Room k (A.deeper (envOfC qual (defScope st) s.heap.objs.size f cdv))→AQ (AI (As P w K) P w K mg base N qual (defScope st) f cdv A outer s H E) E (defBody st) g):FnOk P w K mg base (As P w K) (k+1) f fd ps (Em K F):=by
 obtain ⟨oc,od,kV,doc,pm,an,cdv,ct,osl,rfl,lk,hcd⟩:=Fn.ex
 refine ML lk hcd S (fun vs H Q E h=>Lf ar h) fun A outer s H vs Q E hr h=>?_
 refine ⟨_,hbody cdv A outer s H E hr,?_⟩
 have hl:=Lf ar h
 obtain ⟨m,ds,hd,hr1,r,p⟩:=h
 have hld:ds.length=ps.length:=by rw [r.len];exact hl
 refine ⟨m,ds.map some++List.replicate (N.length - ds.length) none,hd,hr1,ER.start r,?_⟩
 rw [hg ds hd hld] at p
 unfold Am at p
 cases o:g (ds.map some++List.replicate (N.length - ds.length) none) hd with
 |stuck=>rw [o] at p;exact p
 |err C fs h1=>rw [o] at p;exact p
 |ok a h1=>
  rw [o] at p
  obtain ⟨fl,ρ1⟩:=a
  intro m1 H1 p1 k1 hr1
  cases fl with
  |nx=>exact fun σ er=>p .non m1 H1 p1 k1 hr1 (by simp [rD,DV])
  |bk=>exact False.elim p
  |ct=>exact False.elim p
  |rt d=>exact fun v rv=>p v m1 H1 p1 k1 hr1 rv
end
theorem Dw {P:Program} {w:World} {K:PySem.W.Frag} {mg:Str→Option Value} {base:Heap} {N:List Str} {qual:Str} {scope:Scope} {f:Addr} {cd:Value} {A:Around} {outer:List Env} {s:Shared} {H:Hp} {E:XK}:
 PassesOwn (model P w) (AI (As P w K) P w K mg base N qual scope f cd A outer s H E).A (AI (As P w K) P w K mg base N qual scope f cd A outer s H E).env (AI (As P w K) P w K mg base N qual scope f cd A outer s H E).xe:=by
 passes_own
section
variable {X:Cx} {E:XK}
abbrev MO:=Ah→HD→Out (Option Int)
abbrev EvO (X:Cx) (E:XK) (e:Option Expr) (f:MO):Prop:=PO X e (tM X.K (fun _ _ a b=>a=b) E f)
def WQ:MO:=fun _ h=>.ok none h
def Q5 (f:ME):MO:=fun ρ h=>(f ρ h).bind fun x h1=>match x with
 |.int i=>.ok (some i) h1
 |_=>.stuck
def Lg (xs:List D) (lo hi:Option Int):List D:=(xs.drop (HT.sIx xs.length 0 lo)).take (HT.sIx xs.length xs.length hi - HT.sIx xs.length 0 lo)
def Q6 (x:D) (lo hi:Option Int) (h:HD):Out D:=match x with
 |.tup xs=>if HT.sIx xs.length 0 lo=0∧HT.sIx xs.length xs.length hi=xs.length then .stuck else .ok (.tup (Lg xs lo hi)) h
 |_=>.stuck
def Q7 (f:ME) (lo hi:MO):ME:=fun ρ h=>(f ρ h).bind fun x h1=>(lo ρ h1).bind fun l h2=>(hi ρ h2).bind fun u h3=>Q6 x l u h3
theorem DVs.cut {K:PySem.W.Frag} {m:List Addr} {H:Hp} {ds:List D} {vs:List V} (r:DVs K m H ds vs) (lo hi:Option Int):DVs K m H (Lg ds lo hi) (MM vs lo hi):=by
 unfold Lg MM
 rw [r.len]
 exact (r.drop _).take _
def Q8 (o i x y:D) (ρ:Ah) (h:HD):Out (Fl×Ah):=match x,y with
 |.int a,.int b=>H0 o i (.int (a+b)) h (.ok (.nx,ρ) h)
 |_,_=>.stuck
def Q9 (o i:D) (h:HD):Out D:=match o,i with
 |.loc l,.int n=>if 0≤n then (match h[l]? with
  |some (.lst ds)=>(match ds[n.toNat]? with
   |some d=>.ok d h
   |none=>.stuck)
  |_=>.stuck) else .stuck
 |_,_=>.stuck
def Ra (fo fi fv:ME):MS:=fun ρ h=>(fo ρ h).bind fun o h1=>(fi ρ h1).bind fun i h2=>(Q9 o i h2).bind fun x h3=>(fv ρ h3).bind fun y h4=>Q8 o i x y ρ h4
end
theorem vals_ints:∀{ns:List Int} {its:List Value},Vals (ns.map V.int) its→∃ys:List (Int×Tok),its=ys.map (fun p=>Value.int p.1 p.2)∧ys.map (·.1)=ns
 |[],its,r=>by cases r;exact ⟨[],rfl,rfl⟩
 |n::ns,its,r=>by
  cases r with
  |cons r1 r2=>
   obtain ⟨t,rfl⟩:=r1
   obtain ⟨ys,rfl,e⟩:=vals_ints r2
   exact ⟨(n,t)::ys,rfl,by simp [e]⟩
section
variable {X:Cx}
theorem WR (hc:X.calm=true):Dm X (.builtin "min") (fun xs H Q=>∃(p:Addr) (ns:List Int),xs=[.ref p]∧SqL X.K H p (ns.map V.int)∧ns≠[]∧∀M,M∈ns→(∀a∈ns,M≤a)→Q (.int M) H):=by
 intro pins s σ H xs us Q I r h
 obtain ⟨p,ns,rfl,hs,hne,q⟩:=h
 obtain ⟨u,rfl,rx⟩:=EH r
 cases rx
 obtain ⟨its,rv,pl,hz⟩:=I.list hs
 obtain ⟨ys,rfl,en⟩:=vals_ints rv
 have hlen:ys.length=ns.length:=by rw [←en];simp
 have hpos:0<ys.length:=by rw [hlen];exact List.length_pos_iff.mpr hne
 have hl:s.heap.IsList p (intItems ys.toArray):=by
  have:=pl.isList
  simpa [intItems] using this
 refine min_intList (I.ok.hd hc) hl (by simpa using hpos) fun v h' tk hv hk=>?_
 obtain ⟨t,rfl⟩:=intItems_at hv
 obtain ⟨h1,h2⟩:=argBest_lt (numAt ys.toArray) (ys.toArray.size - 1)
 have hsz:ys.toArray.size=ys.length:=by simp
 have at':∀j,j<ys.length→numAt ys.toArray j∈ns:=fun j hj=>by
  rw [numAt_eq]
  simp only [EA]
  rw [←en,Bb (by simpa using hj)]
  simp only [Option.getD_some]
  exact Hz _
 refine ⟨.int (numAt ys.toArray (argBest _ (ys.toArray.size - 1))),H,I.kept hk,⟨t,rfl⟩,q _ (at' _ (by omega)) fun a ha=>?_⟩
 rw [←en] at ha
 obtain ⟨j,hj,rfl⟩:=IT ha
 have hj':j<ys.length:=by simpa using hj
 have:=h2 j (by omega)
 rw [numAt_eq ys.toArray j] at this
 simpa [EA,Bb hj'] using this
theorem WS (hc:X.calm=true):Dm X (.builtin "max") (fun xs H Q=>∃(p:Addr) (ns:List Int),xs=[.ref p]∧SqL X.K H p (ns.map V.int)∧ns≠[]∧∀M,M∈ns→(∀a∈ns,a≤M)→Q (.int M) H):=by
 intro pins s σ H xs us Q I r h
 obtain ⟨p,ns,rfl,hs,hne,q⟩:=h
 obtain ⟨u,rfl,rx⟩:=EH r
 cases rx
 obtain ⟨its,rv,pl,hz⟩:=I.list hs
 obtain ⟨ys,rfl,en⟩:=vals_ints rv
 have hlen:ys.length=ns.length:=by rw [←en];simp
 have hpos:0<ys.length:=by rw [hlen];exact List.length_pos_iff.mpr hne
 have hl:s.heap.IsList p (intItems ys.toArray):=by
  have:=pl.isList
  simpa [intItems] using this
 refine max_intList (I.ok.hd hc) hl (by simpa using hpos) fun v h' tk hv hk=>?_
 obtain ⟨t,rfl⟩:=intItems_at hv
 obtain ⟨h1,h2⟩:=argBest_gt (numAt ys.toArray) (ys.toArray.size - 1)
 have hsz:ys.toArray.size=ys.length:=by simp
 have at':∀j,j<ys.length→numAt ys.toArray j∈ns:=fun j hj=>by
  rw [numAt_eq]
  simp only [EA]
  rw [←en,Bb (by simpa using hj)]
  simp only [Option.getD_some]
  exact Hz _
 refine ⟨.int (numAt ys.toArray (argBest _ (ys.toArray.size - 1))),H,I.kept hk,⟨t,rfl⟩,q _ (at' _ (by omega)) fun a ha=>?_⟩
 rw [←en] at ha
 obtain ⟨j,hj,rfl⟩:=IT ha
 have hj':j<ys.length:=by simpa using hj
 have:=h2 j (by omega)
 rw [numAt_eq ys.toArray j] at this
 simpa [EA,Bb hj'] using this
def En:List Int→Int
 |[]=>0
 |n::ns=>ns.foldl min n
def Eo:List Int→Int
 |[]=>0
 |n::ns=>ns.foldl max n
theorem Nx:∀(ns:List Int) (n:Int),(ns.foldl min n∈n::ns)∧∀a∈n::ns,ns.foldl min n≤a
 |[],n=>by simp
 |m::ns,n=>by
  obtain ⟨h1,h2⟩:=Nx ns (min n m)
  rw [List.foldl_cons]
  refine ⟨?_,fun a ha=>?_⟩
  ·rcases qa7.mp h1 with z |z
   ·rw [z]
    rcases Int.le_total n m with q |q
    ·rw [Int.min_eq_left q];simp
    ·rw [Int.min_eq_right q];simp
   ·exact AS _ (AS _ z)
  ·have h0:=h2 (min n m) AO
   rcases qa7.mp ha with z |z
   ·subst z;omega
   ·rcases qa7.mp z with z |z
    ·subst z;omega
    ·exact h2 a (AS _ z)
theorem Ny:∀(ns:List Int) (n:Int),(ns.foldl max n∈n::ns)∧∀a∈n::ns,a≤ns.foldl max n
 |[],n=>by simp
 |m::ns,n=>by
  obtain ⟨h1,h2⟩:=Ny ns (max n m)
  rw [List.foldl_cons]
  refine ⟨?_,fun a ha=>?_⟩
  ·rcases qa7.mp h1 with z |z
   ·rw [z]
    rcases Int.le_total n m with q |q
    ·rw [Int.max_eq_right q];simp
    ·rw [Int.max_eq_left q];simp
   ·exact AS _ (AS _ z)
  ·have h0:=h2 (max n m) AO
   rcases qa7.mp ha with z |z
   ·subst z;omega
   ·rcases qa7.mp z with z |z
    ·subst z;omega
    ·exact h2 a (AS _ z)
theorem Nz {ns:List Int} (h:ns≠[]):En ns∈ns:=by
 cases ns with
 |nil=>exact absurd rfl h
 |cons n ns=>exact (Nx ns n).1
theorem NA {ns:List Int} {a:Int} (h:a∈ns):En ns≤a:=by
 cases ns with
 |nil=>cases h
 |cons n ns=>exact (Nx ns n).2 a h
theorem Rb {ns:List Int} (h:ns≠[]):Eo ns∈ns:=by
 cases ns with
 |nil=>exact absurd rfl h
 |cons n ns=>exact (Ny ns n).1
theorem WT {ns:List Int} {a:Int} (h:a∈ns):a≤Eo ns:=by
 cases ns with
 |nil=>cases h
 |cons n ns=>exact (Ny ns n).2 a h
def Cw (f:List Int→Int):D→HD→Out D:=fun x h=>match x with
 |.loc l=>match h[l]? with
  |some (.lst ds)=>match A0 (ds.map Fy) with
   |some ns=>if ns=[] then .stuck else .ok (.int (f ns)) h
   |none=>.stuck
  |_=>.stuck
 |_=>.stuck
theorem Rc (hc:X.calm=true):CJ X (.builtin "min") (An (Cw En)):=by
 refine ⟨_,WR hc,fun m H h E ds vs Q hr r q=>Fv r q fun d v ev rv q=>?_⟩
 unfold Cw at q
 split at q
 ·rename_i l
  split at q
  ·rename_i ds el
   split at q
   ·rename_i ns en
    split at q
    ·exact q.elim
    ·rename_i hne
     simp only [DV] at rv
     obtain ⟨a,rfl,ha⟩:=rv
     obtain ⟨ws,hv,dv⟩:=hr.cells l _ a el ha
     have ew:=K1 dv en
     subst ew
     refine ⟨a,ns,ev,SqL.of hv,hne,fun M h1 h2=>?_⟩
     have:M=En ns:=Kn (h2 _ (Nz hne)) (NA h1)
     subst this
     exact Bj hr q (by simp [DV])
   ·exact q.elim
  ·exact q.elim
 ·exact q.elim
theorem Lh (hc:X.calm=true):CJ X (.builtin "max") (An (Cw Eo)):=by
 refine ⟨_,WS hc,fun m H h E ds vs Q hr r q=>Fv r q fun d v ev rv q=>?_⟩
 unfold Cw at q
 split at q
 ·rename_i l
  split at q
  ·rename_i ds el
   split at q
   ·rename_i ns en
    split at q
    ·exact q.elim
    ·rename_i hne
     simp only [DV] at rv
     obtain ⟨a,rfl,ha⟩:=rv
     obtain ⟨ws,hv,dv⟩:=hr.cells l _ a el ha
     have ew:=K1 dv en
     subst ew
     refine ⟨a,ns,ev,SqL.of hv,hne,fun M h1 h2=>?_⟩
     have:M=Eo ns:=Kn (WT h1) (h2 _ (Rb hne))
     subst this
     exact Bj hr q (by simp [DV])
   ·exact q.elim
  ·exact q.elim
 ·exact q.elim
end
def Re (K:PySem.W.Frag) (t:Addr):It:=⟨fun i H=>∃xs,SqL K H t xs∧i<xs.length,fun i H x H'=>∃p v,H p=none∧x=.ref p∧(∀xs:List V,SqL K H t xs→xs[i]?=some v)∧H'=Ak H p (.tup [.int i,v]),fun i H=>∃xs,SqL K H t xs∧i=xs.length⟩
theorem WU {P:Program} {w:World} {K:PySem.W.Frag} {elts:List Expr} {kt:Nat} {tpos:Pos} (e it t:Addr) (hei:e≠it) (hte:t≠e) (hti:t≠it):
 FW P w K (.Tuple elts kt tpos) (Re K t) [e,it] e (fun i h=>(∃old,IsEnum h e it i old)∧h.IsListIter it t i) where
 mem:=by simp
 obj:=fun i h st b hb=>by
  obtain ⟨⟨old,h1⟩,o,h2,hc,hd⟩:=st
  rcases qa7.mp hb with z |z
  ·subst z;exact ⟨_,h1,fun v z=>by cases z⟩
  ·rw [qaD] at z
   subst z
   exact ⟨o,h2,fun v z=>by rw [hd] at z;cases z⟩
 keep:=fun i h h' st k=>by
  obtain ⟨⟨old,h1⟩,h2⟩:=st
  exact ⟨⟨old,k e (by simp) _ h1⟩,h2.at fun o z=>k it (by simp) o z⟩
 item:=by
  intro X hP hw hK hc i pins s σ H E I hf st hg
  subst hP hw hK
  obtain ⟨⟨old,he⟩,hit⟩:=st
  obtain ⟨xs,hq,hi⟩:=hg
  obtain ⟨its,rv,p,hz⟩:=I.list hq
  have hT:s.heap.IsList t its.toArray:=p.isList
  have hl:=rv.length
  obtain ⟨e0,e1,e2,e3,e4,e5⟩:=hf e (by simp)
  obtain ⟨i0,i1,i2,i3,i4,i5⟩:=hf it (by simp)
  have hx:xs[i]?=some xs[i]:=Bb hi
  refine wpAny_pyNext_enum_itemD (Draws.list (A:=X.A.in1) (I.ok.hd hc) it t hti its.toArray) he ⟨hit,hT⟩ (by rw [A5];omega) hei (by simp [hei,Ne.symm hte]) fun x h1 tk hPx ho hs1 hTup hsz hk=>?_
  obtain ⟨u,hu,ru⟩:=rv.get hx
  have hux:u=x:=by
   have:its[i]?=some x:=by simpa using hPx
   rw [hu] at this
   exact Option.some.inj this
  subst hux
  refine ⟨.ref s.heap.objs.size,rfl,wpAny_letOwnedTupleGo_enum ho fun h2 he2 sb=>?_⟩
  have hfr:H s.heap.objs.size=none:=I.hok.fresh (AM _)
  have kk:∀b o,b∉[e,it]→s.heap.get? b=some o→h2.get? b=some o:=fun b o hb z=>by
   have n1:b≠e:=fun q=>hb (by simp [q])
   have n2:b≠it:=fun q=>hb (by simp [q])
   exact (sb.2 b n1).trans (hk b o n1 n2 z)
  have na:s.heap.objs.size≠e:=Fw (AE he)
  have hnew:h2.get? s.heap.objs.size=some {cls:=.type "tuple",data:=.seq #[.int i tk,u]}:=(sb.2 _ na).trans hTup
  have ntr:∀b w,H b=some w→b∉[e,it]:=fun b w z hb=>by
   rcases qa7.mp hb with q |q
   ·rw [q,e0] at z;cases z
   ·rw [qaD.mp q,i0] at z;cases z
  have nal:∀b o,s.heap.get? b=some o→b≠s.heap.objs.size:=fun b o z=>BD (AE z)
  have it2:h2.IsListIter it t (i+1):=by
   obtain ⟨o,q,r⟩:=hs1.1
   exact ⟨o,(sb.2 it (Ne.symm hei)).trans q,r⟩
  refine ⟨.ref s.heap.objs.size,Ak H s.heap.objs.size (.tup [.int i,xs[i]]),?_,rfl,⟨s.heap.objs.size,xs[i],hfr,rfl,fun ys hy=>by rw [I.list_inj hy hq];exact hx,rfl⟩,⟨⟨u,he2⟩,it2⟩,fun b hb=>?_⟩
  ·show Inv X pins σ _ {s with heap:=h2,gens:=s.gens,drawn:=s.drawn,toks:=tk+1}
   refine I.step (g':=s.gens) (d':=s.drawn) (t':=tk+1) (h':=h2) (ch:=[e,it]) (fun b hb=>?_) (fun b o _ _ hc z _=>kk b o hc z) (fun b o _ _ hc z _=>⟨o.slots,kk b o hc z⟩) (fun b o _ z n=>by rw [Al (nal b o z)];exact n)
    (fun b o hc z=>⟨o,kk b o hc z⟩) (fun b ys z=>by rw [Al (BB z hfr)];exact z) (fun b o u z=>by rw [Al (BB z hfr)];exact z) (fun b ps z=>⟨#[],by rw [Al (BB z hfr),z];simp⟩) (fun m hm=>?_) (fun b w z=>?_) I.bare
   ·rcases qa7.mp hb with q |q
    ·subst q;exact ⟨e3,e1,e4,e5⟩
    ·rw [qaD] at q;subst q;exact ⟨i3,i1,i4,i5⟩
   ·obtain ⟨o,es,ep,q,r⟩:=hm
    exact ⟨o,es,ep,kk _ o (by simp [Ne.symm e1,Ne.symm i1]) q,r⟩
   ·by_cases hb:b=s.heap.objs.size
    ·subst hb
     rw [Bo] at z
     cases z
     exact ⟨by simp only [FQ,HB];rw [sizeLine_eq];decide,[.int i tk,u],.cons ⟨tk,rfl⟩ (.cons ru .nil),⟨_,hnew,rfl,0,rfl⟩,fun o e=>by rw [hnew] at e;cases e;rfl⟩
    ·rw [Al hb] at z
     refine (I.hok b w z).stay (fun c v hc q=>kk c v ?_ q) (fun c q=>by rw [Al (BB q hfr)];exact q) fun c ys q=>by rw [Al (BB q hfr)];exact q
     rcases hc with rfl |hc
     ·exact ntr c _ z
     ·exact ntr c _ hc
  ·have nb:b≠s.heap.objs.size:=by
    rcases qa7.mp hb with q |q
    ·rw [q];exact na.symm
    ·rw [qaD.mp q]
     obtain ⟨o,z,_⟩:=hit
     exact nal _ _ z
   rw [Al nb]
   exact (hf b hb).1
 done:=by
  intro X hP hw hK hc i pins s σ H E I hf st hg
  subst hP hw hK
  obtain ⟨⟨old,he⟩,hit⟩:=st
  obtain ⟨xs,hq,hi⟩:=hg
  obtain ⟨its,rv,p,hz⟩:=I.list hq
  have hT:s.heap.IsList t its.toArray:=p.isList
  have hl:=rv.length
  obtain ⟨i0,i1,i2,i3,i4,i5⟩:=hf it (by simp)
  have hin:i=its.toArray.size:=by rw [A5];omega
  refine wpAny_pyNext_enum_endD (Draws.list (A:=X.A.in1) (I.ok.hd hc) it t hti its.toArray) he (hin ▸ ⟨hit,hT⟩) fun h' eb=>⟨rfl,I.turned (t':=s.toks) (fun b o hb z=>eb b o hb z) i0 i1 i3 i4 i5⟩
 self:=fun A i s Q E st h=>by
  obtain ⟨⟨old,he⟩,_⟩:=st
  exact wpAny_pyIter_enum he h
section
variable {X:Cx} {E:XK}
theorem WV {elts:List Expr} {kt:Nat} {tpos p pos:Pos} {a:Expr} {ta:TA} (hg:Gl X "enumerate") (hm:X.mg "enumerate"=none) (ha:PA X [a] ta) (hs:starEach [a] X.env=[(false,eval a X.env)]:=by rfl):
 PI X (.Tuple elts kt tpos) (.Call (.Name "enumerate" p) [a] [] pos) (fun σ H R=>ta σ H fun vs H1=>(∃t xs,vs=[.ref t]∧SqT X.K H1 t xs∧R (Qy X.K t xs) H1)∨∃t xs,vs=[.ref t]∧SqL X.K H1 t xs∧R (Re X.K t) H1):=by
 intro pins s σ H R I h
 refine Call_ (GA I hg hm boot_enumerate (PyProof.Rows.callWith_type1 (Aw (ha pos pins s σ H _ I h) fun us s1 z1_=>?_) hs rfl))
 obtain ⟨vs,H1,I1,r1,q1⟩:=z1_
 rcases q1 with ⟨t,xs,e,hq,q⟩ |⟨t,xs,e,hq,q⟩
 ·subst e
  cases r1 with
  |cons r rr=>
   cases rr
   cases r
   obtain ⟨its,rv,p,hz⟩:=I1.tuple hq
   have hT:s1.heap.IsTuple t its.toArray:=p
   have hlt:t<s1.heap.objs.size:=p.lt
   refine Wn hT fun h' he hit hsz hk=>wpAny_pyIter_enum (s:={s1 with heap:=h'}) he ?_
   have I2:Inv X pins σ H1 {s1 with heap:=h'}:=I1.kept (t':=s1.toks) hk
   refine ⟨s1.heap.objs.size+1,[s1.heap.objs.size+1,s1.heap.objs.size],_,_,H1,rfl,I2,Wo (s1.heap.objs.size+1) s1.heap.objs.size t (Nat.succ_ne_self _) (BD (Hw hlt)) (BD hlt) xs,⟨⟨.none,he⟩,hit⟩,fun b hb=>?_,q⟩
   rcases qa7.mp hb with z |z
   ·subst z;exact I1.fpOk (HF _) (I1.hok.fresh (HF _))
   ·rw [qaD] at z;subst z;exact I1.fpOk (AM _) (I1.hok.fresh (AM _))
 ·subst e
  cases r1 with
  |cons r rr=>
   cases rr
   cases r
   obtain ⟨its,rv,p,hz⟩:=I1.list hq
   have hT:s1.heap.IsList t its.toArray:=p.isList
   have hlt:t<s1.heap.objs.size:=by obtain ⟨_,z,_⟩:=hT;exact AE z
   refine call_enumerate_list hT fun h' he hit hsz hk=>wpAny_pyIter_enum (s:={s1 with heap:=h'}) he ?_
   have I2:Inv X pins σ H1 {s1 with heap:=h'}:=I1.kept (t':=s1.toks) hk
   refine ⟨s1.heap.objs.size+1,[s1.heap.objs.size+1,s1.heap.objs.size],_,_,H1,rfl,I2,WU (s1.heap.objs.size+1) s1.heap.objs.size t (Nat.succ_ne_self _) (BD (Hw hlt)) (BD hlt),⟨⟨.none,he⟩,hit⟩,fun b hb=>?_,q⟩
   rcases qa7.mp hb with z |z
   ·subst z;exact I1.fpOk (HF _) (I1.hok.fresh (HF _))
   ·rw [qaD] at z;subst z;exact I1.fpOk (AM _) (I1.hok.fresh (AM _))
def JA:List D→HD→Out (List D×A8):=fun ds h=>match ds with
 |[.tup xs]=>.ok (Eh xs,[]) h
 |[.loc l]=>match h[l]? with
  |some (.lst xs)=>.ok (Eh xs,[(l,xs)]) h
  |_=>.stuck
 |_=>.stuck
def JB (fa:MA):MI:=fun ρ h=>(fa ρ h).bind JA
theorem WW {elts:List Expr} {kt:Nat} {tpos p pos:Pos} {a:Expr} {fa:MA} (hg:Gl X "enumerate") (hm:X.mg "enumerate"=none) (ha:Cb X E [a] fa) (hs:starEach [a] X.env=[(false,eval a X.env)]:=by rfl):
 EW X E (.Tuple elts kt tpos) (.Call (.Name "enumerate" p) [a] [] pos) (JB fa):=
 Jq (WV hg hm ha hs) fun σ H R ⟨m,ρ,h,hr,er,p⟩=>⟨m,ρ,h,hr,er,Post.bind p fun x h1 v m1 H1 eo p1 k1 hr1 r1 q1=>by
  clear eo
  unfold JA at q1
  split at q1
  ·rename_i xs
   simp only [DP,DVs,DV] at r1
   obtain ⟨v,w,rfl,⟨a,vs,rfl,ha,dv⟩,rfl⟩:=r1
   refine .inl ⟨a,vs,rfl,SqT.of ha,q1 _ m1 H1 (AH _) (.refl _) hr1 fun i m2 h2 H2 p2 k2 hr2 _=>⟨fun hi=>?_,fun hi=>?_⟩⟩
   ·have hi':i<xs.length:=by simpa [Eh] using hi
    refine ⟨⟨by rw [←dv.len];exact hi',SqT.of (k2 _ _ ha rfl)⟩,fun y H3 ⟨pp,vv,hp,ey,ev,eH⟩=>?_⟩
    subst ey eH
    have hd:xs[i]?=some xs[i]:=Bb hi'
    obtain ⟨v2,e2,r2⟩:=dv.get hd
    rw [ev] at e2
    cases e2
    refine ⟨.new hp,hr2.new hp,.tup [.int i,xs[i]],?_,?_⟩
    ·simp [Eh,hd]
    ·simp only [DV]
     exact ⟨pp,_,rfl,Bo,.cons (by simp [DV]) (.cons (DV.keep p2 (k2.trans (.new hp)) r2) .nil)⟩
   ·exact ⟨by rw [←dv.len];simpa [Eh] using hi,SqT.of (k2 _ _ ha rfl)⟩
  ·rename_i l
   split at q1
   ·rename_i xs el
    simp only [DP,DVs,DV] at r1
    obtain ⟨v,w,rfl,⟨a,rfl,ha⟩,rfl⟩:=r1
    obtain ⟨vs,hv,dv⟩:=hr1.cells l _ a el ha
    refine .inr ⟨a,vs,rfl,SqL.of hv,q1 _ m1 H1 (AH _) (.refl _) hr1 fun i m2 h2 H2 p2 k2 hr2 hsr=>?_⟩
    obtain ⟨ws,hw,dw⟩:=hr2.cells l _ a (hsr _ AO) (HH p2 ha)
    refine ⟨fun hi=>?_,fun hi=>⟨ws,SqL.of hw,by rw [←dw.len];simpa [Eh] using hi⟩⟩
    have hi':i<xs.length:=by simpa [Eh] using hi
    refine ⟨⟨ws,SqL.of hw,by rw [←dw.len];exact hi'⟩,fun y H3 ⟨pp,vv,hp,ey,ev,eH⟩=>?_⟩
    subst ey eH
    have hd:xs[i]?=some xs[i]:=Bb hi'
    obtain ⟨v2,e2,r2⟩:=dw.get hd
    rw [ev ws (SqL.of hw)] at e2
    cases e2
    refine ⟨.new hp,hr2.new hp,.tup [.int i,xs[i]],?_,?_⟩
    ·simp [Eh,hd]
    ·simp only [DV]
     exact ⟨pp,_,rfl,Bo,.cons (by simp [DV]) (.cons (DV.keep (AH _) (.new hp) r2) .nil)⟩
   ·exact q1.elim
  ·exact q1.elim⟩
end
structure Ig (z TI TO p q:Addr) (f g:List Addr):Prop where
 a1:TI≠z
 a2:TO≠z
 a3:p≠z
 a4:q≠z
 a5:TI≠TO
 a6:TI≠p
 a7:TI≠q
 a8:TO≠p
 a9:TO≠q
 b1:p≠q
 b2:z∉f
 b3:z∉g
 b4:TO∉f
 b5:TO∉g
 b6:p∉g
 b7:q∉f
section
variable {prog:Program} {w:World} {A:Around} {E:Value→Shared→Prop} {s:Shared} {z TI TO p q:Addr} {f g:List Addr} {n1 n2 k:Nat} {P1 P2:Nat→Value→Prop} {S1 S2:Nat→Heap→Prop} {a b:Value}
theorem WX {Q:Value→Shared→Prop} (D1:Draws prog w A p f n1 P1 S1) (D2:Draws prog w A q g n2 P2 S2) (ap:Ig z TI TO p q f g)
 (zz:IsZip s.heap z TI TO .none) (zi:IsPair s.heap TI (.ref p) (.ref q)) (zo:IsPair s.heap TO a b) (s1:S1 k s.heap) (s2:S2 k s.heap) (l1:k<n1) (l2:k<n2)
 (hQ:∀h' tk x y,P1 k x→P2 k y→IsZip h' z TI TO (rawInt s.heap.objs.size)→IsPair h' TO x y→S1 (k+1) h'→S2 (k+1) h'→IsPair h' s.heap.objs.size x y→
  (∀c o,c≠z→c≠TO→c≠p→c≠q→s.heap.get? c=some o→h'.get? c=some o)→Q (.ref s.heap.objs.size) {s with heap:=h',toks:=tk}):
 wpAny (model prog w) A (Builtin.«zip.__next__» ⟨[.ref z],[]⟩) (fun AW s'=>∃v,AW=.done (.ret v)∧Q v s') E s:=by
 show wpAny _ _ (field (.ref z) 2 >>=_) _ _ _
 refine wpAny_bind (wpAny_field zz rfl (x:=.bool false) rfl ?_)
 show wpAny _ _ (field (.ref z) 3 >>=_) _ _ _
 refine wpAny_bind (wpAny_field zz rfl (x:=.ref TI) rfl ?_)
 refine wpAny_bind (wpAny_seqItems zi rfl ?_)
 show wpAny _ _ (Builtin.SmallTypes.ownedTupleIsFree (.ref z) >>=_) _ _ _
 refine wpAny_bind ?_
 unfold Builtin.SmallTypes.ownedTupleIsFree
 refine wpAny_bind (wpAny_field zz rfl (x:=.none) rfl (wpAny_pure ?_))
 simp only [if_true]
 refine wpAny_bind (wpAny_rule ?_)
 refine wpAny_bind (wpAny_field zz rfl (x:=.ref TO) rfl ?_)
 refine wpAny_bind (wpAny_setField_rec zz (by simp) fun m1 zz1 t1=>?_)
 replace zz1:IsZip m1 z TI TO .ellipsis:=zz1
 refine wpAny_bind ?_
 simp only [List.zipIdx_cons,List.zipIdx_nil,List.forIn_cons,List.forIn_nil]
 refine wpAny_bind (wpAny_bind (wpAny_onRaise ?_))
 show wpAny _ _ (Builtin.SmallTypes.nextOf (.ref p) >>=_) _ _ _
 refine wpAny_bind (D1.item k _ _ _ l1 (D1.frame k _ _ s1 fun c hc o e=>t1.extBut _ _ (fun y=>ap.b2 (y ▸ hc)) e) fun x m2 tk2 px s12 t2=>wpAny_pure ?_)
 have zo2:IsPair m2 TO a b:=t2.extBut _ _ ap.a8 (t1.extBut _ _ ap.a2 zo)
 refine wpAny_bind (wpAny_seqItems zo2 rfl ?_)
 refine wpAny_bind (wpAny_updateSeq_pair zo2 fun m3 zo3 t3=>?_)
 replace zo3:IsPair m3 TO x b:=zo3
 refine wpAny_bind (wpAny_letGo (wpAny_pure ?_))
 refine wpAny_bind (wpAny_bind (wpAny_onRaise ?_))
 show wpAny _ _ (Builtin.SmallTypes.nextOf (.ref q) >>=_) _ _ _
 have s23:S2 k m3:=D2.frame k _ _ s2 fun c hc o e=>t3.extBut _ _ (fun y=>ap.b5 (y ▸ hc)) (t2.extBut _ _ (fun y=>ap.b6 (y ▸ hc)) (t1.extBut _ _ (fun y=>ap.b3 (y ▸ hc)) e))
 refine wpAny_bind (D2.item k _ _ _ l2 s23 fun y m4 tk4 py s24 t4=>wpAny_pure ?_)
 have zo4:IsPair m4 TO x b:=t4.extBut _ _ ap.a9 zo3
 refine wpAny_bind (wpAny_seqItems zo4 rfl ?_)
 refine wpAny_bind (wpAny_updateSeq_pair zo4 fun m5 zo5 t5=>?_)
 replace zo5:IsPair m5 TO x y:=zo5
 refine wpAny_bind (wpAny_letGo (wpAny_pure (wpAny_pure ?_)))
 refine wpAny_bind (wpAny_seqItems zo5 rfl ?_)
 refine wpAny_bind (wpAny_newTuple ?_)
 have sz:m5.objs.size=s.heap.objs.size:=by rw [t5.1,t4.1,t3.1,t2.1,t1.1]
 have zz5:IsZip m5 z TI TO .ellipsis:=t5.extBut _ _ ap.a2.symm (t4.extBut _ _ ap.a4.symm (t3.extBut _ _ ap.a2.symm (t2.extBut _ _ ap.a3.symm zz1)))
 have kp:∀c o,c≠z→c≠TO→c≠p→c≠q→s.heap.get? c=some o→m5.get? c=some o:=fun c o c1 c2 c3 c4 e=>t5.extBut _ _ c2 (t4.extBut _ _ c4 (t3.extBut _ _ c2 (t2.extBut _ _ c3 (t1.extBut _ _ c1 e))))
 have zlt:z<m5.objs.size:=AE zz5
 show wpAny _ _ (Builtin.SmallTypes.ownedTupleHandOut (.ref z) (.ref m5.objs.size) >>=_) _ _ _
 refine wpAny_bind ?_
 unfold Builtin.SmallTypes.ownedTupleHandOut
 have zz6:IsZip (m5.push {cls:=.type "tuple",data:=.seq #[x,y]}) z TI TO .ellipsis:=AJ _ zz5
 refine wpAny_bind (wpAny_setField_rec zz6 (by simp) fun m7 zz7 t7=>?_)
 replace zz7:IsZip m7 z TI TO (rawInt m5.objs.size):=zz7
 refine wpAny_setField_rec zz7 (by simp) fun m8 zz8 t8=>?_
 replace zz8:IsZip m8 z TI TO (rawInt m5.objs.size):=zz8
 have up:∀c o,c≠z→m5.get? c=some o→m8.get? c=some o:=fun c o c1 e=>t8.extBut _ _ c1 (t7.extBut _ _ c1 (AJ _ e))
 have nw:IsPair m8 m5.objs.size x y:=t8.extBut _ _ (Cn zlt) (t7.extBut _ _ (Cn zlt) (Bz _ rfl))
 rw [sz] at zz8 nw
 refine wpAny_pure ⟨_,rfl,?_⟩
 show Q (.ref m5.objs.size) _
 rw [sz]
 refine hQ m8 tk4 x y px py zz8 (up _ _ ap.a2 zo5) (D1.frame _ m2 m8 s12 fun c hc o e=>?_) (D2.frame _ m4 m8 s24 fun c hc o e=>?_) nw fun c o c1 c2 c3 c4 e=>up c o c1 (kp c o c1 c2 c3 c4 e)
 ·have n1:c≠TO:=fun y=>ap.b4 (y ▸ hc)
  exact up c o (fun y=>ap.b2 (y ▸ hc)) (t5.extBut _ _ n1 (t4.extBut _ _ (fun y=>ap.b7 (y ▸ hc)) (t3.extBut _ _ n1 e)))
 ·exact up c o (fun y=>ap.b3 (y ▸ hc)) (t5.extBut _ _ (fun y=>ap.b5 (y ▸ hc)) e)
theorem WY {Q:Fin→Shared→Prop} (D1:Draws prog w A p f n1 P1 S1) (D2:Draws prog w A q g n2 P2 S2) (ap:Ig z TI TO p q f g)
 (zz:IsZip s.heap z TI TO .none) (zi:IsPair s.heap TI (.ref p) (.ref q)) (zo:IsPair s.heap TO a b) (s1:S1 k s.heap) (s2:S2 k s.heap) (hk:k=n1∨(k<n1∧k=n2))
 (hE:∀h' tk e,(∀c o,c≠z→c≠TO→c≠p→c≠q→s.heap.get? c=some o→h'.get? c=some o)→(∃o,h'.get? e=some o∧o.cls=.type "StopIteration")→E (.ref e) {s with heap:=h',toks:=tk}):
 wpAny (model prog w) A (Builtin.«zip.__next__» ⟨[.ref z],[]⟩) Q E s:=by
 show wpAny _ _ (field (.ref z) 2 >>=_) _ _ _
 refine wpAny_bind (wpAny_field zz rfl (x:=.bool false) rfl ?_)
 show wpAny _ _ (field (.ref z) 3 >>=_) _ _ _
 refine wpAny_bind (wpAny_field zz rfl (x:=.ref TI) rfl ?_)
 refine wpAny_bind (wpAny_seqItems zi rfl ?_)
 show wpAny _ _ (Builtin.SmallTypes.ownedTupleIsFree (.ref z) >>=_) _ _ _
 refine wpAny_bind ?_
 unfold Builtin.SmallTypes.ownedTupleIsFree
 refine wpAny_bind (wpAny_field zz rfl (x:=.none) rfl (wpAny_pure ?_))
 simp only [if_true]
 refine wpAny_bind (wpAny_rule ?_)
 refine wpAny_bind (wpAny_field zz rfl (x:=.ref TO) rfl ?_)
 refine wpAny_bind (wpAny_setField_rec zz (by simp) fun m1 zz1 t1=>?_)
 replace zz1:IsZip m1 z TI TO .ellipsis:=zz1
 refine wpAny_bind ?_
 simp only [List.zipIdx_cons,List.zipIdx_nil,List.forIn_cons,List.forIn_nil]
 refine wpAny_bind (wpAny_bind (wpAny_onRaise ?_))
 show wpAny _ _ (Builtin.SmallTypes.nextOf (.ref p) >>=_) _ _ _
 have s11:=D1.frame k _ m1 s1 fun c hc o e=>t1.extBut _ _ (fun y=>ap.b2 (y ▸ hc)) e
 rcases hk with hk |⟨hk,hk2⟩
 ·subst hk
  refine wpAny_bind (D1.done _ _ _ s11 fun m2 e t2 he=>?_)
  obtain ⟨oe,e1,e2⟩:=he
  have zz2:IsZip m2 z TI TO .ellipsis:=t2 _ _ ap.a3.symm zz1
  have ne:e≠z:=fun y=>by subst y;rw [zz2] at e1;cases e1;simp at e2
  exact wpAny_setField_rec zz2 (by simp) fun m3 _ t3=>hE m3 _ e (fun c o c1 _ c3 _ y=>t3.extBut _ _ c1 (t2 _ _ c3 (t1.extBut _ _ c1 y))) ⟨oe,t3.extBut _ _ ne e1,e2⟩
 ·subst hk2
  refine wpAny_bind (D1.item k _ _ _ hk s11 fun x m2 tk2 px s12 t2=>wpAny_pure ?_)
  have zo2:IsPair m2 TO a b:=t2.extBut _ _ ap.a8 (t1.extBut _ _ ap.a2 zo)
  refine wpAny_bind (wpAny_seqItems zo2 rfl ?_)
  refine wpAny_bind (wpAny_updateSeq_pair zo2 fun m3 zo3 t3=>?_)
  refine wpAny_bind (wpAny_letGo (wpAny_pure ?_))
  refine wpAny_bind (wpAny_bind (wpAny_onRaise ?_))
  show wpAny _ _ (Builtin.SmallTypes.nextOf (.ref q) >>=_) _ _ _
  have s23:S2 k m3:=D2.frame k _ _ s2 fun c hc o e=>t3.extBut _ _ (fun y=>ap.b5 (y ▸ hc)) (t2.extBut _ _ (fun y=>ap.b6 (y ▸ hc)) (t1.extBut _ _ (fun y=>ap.b3 (y ▸ hc)) e))
  refine wpAny_bind (D2.done _ _ _ s23 fun m4 e t4 he=>?_)
  obtain ⟨oe,e1,e2⟩:=he
  have zz4:IsZip m4 z TI TO .ellipsis:=t4 _ _ ap.a4.symm (t3.extBut _ _ ap.a2.symm (t2.extBut _ _ ap.a3.symm zz1))
  have ne:e≠z:=fun y=>by subst y;rw [zz4] at e1;cases e1;simp at e2
  exact wpAny_setField_rec zz4 (by simp) fun m5 _ t5=>hE m5 _ e (fun c o c1 c2 c3 c4 y=>t5.extBut _ _ c1 (t4 _ _ c4 (t3.extBut _ _ c2 (t2.extBut _ _ c3 (t1.extBut _ _ c1 y))))) ⟨oe,t5.extBut _ _ ne e1,e2⟩
theorem WZ {Q:Option Value→Shared→Prop} (D1:Draws prog w A.in1 p f n1 P1 S1) (D2:Draws prog w A.in1 q g n2 P2 S2) (ap:Ig z TI TO p q f g)
 (zz:IsZip s.heap z TI TO .none) (zi:IsPair s.heap TI (.ref p) (.ref q)) (zo:IsPair s.heap TO a b) (s1:S1 k s.heap) (s2:S2 k s.heap) (l1:k<n1) (l2:k<n2)
 (hQ:∀h' tk x y,P1 k x→P2 k y→IsZip h' z TI TO (rawInt s.heap.objs.size)→IsPair h' TO x y→S1 (k+1) h'→S2 (k+1) h'→IsPair h' s.heap.objs.size x y→
  (∀c o,c≠z→c≠TO→c≠p→c≠q→s.heap.get? c=some o→h'.get? c=some o)→Q (some (.ref s.heap.objs.size)) {s with heap:=h',toks:=tk}):
 wpAny (model prog w) A (pyNext (.ref z)) Q E s:=by
 have hT:s.TypeIs (.ref z) "zip":=⟨_,zz,rfl⟩
 unfold pyNext
 exact wpAny_bind (wpAny_attempt (wpAny_callSpecial?_slot (name:=Str.ofString "__next__") hT F.slot_zip_next (wpAny_call_entry F.slot_zip_next hT F.entry_zip_next
  (WX D1 D2 ap zz zi zo s1 s2 l1 l2 fun h' tk x y c1 c2 c3 c4 c5 c6 c7 c8=>wpAny_pure (hQ h' tk x y c1 c2 c3 c4 c5 c6 c7 c8)) (F.args_zip_next_1 _))))
theorem W0 {Q:Option Value→Shared→Prop} (D1:Draws prog w A.in1 p f n1 P1 S1) (D2:Draws prog w A.in1 q g n2 P2 S2) (ap:Ig z TI TO p q f g)
 (zz:IsZip s.heap z TI TO .none) (zi:IsPair s.heap TI (.ref p) (.ref q)) (zo:IsPair s.heap TO a b) (s1:S1 k s.heap) (s2:S2 k s.heap) (hk:k=n1∨(k<n1∧k=n2))
 (hQ:∀h' tk,(∀c o,c≠z→c≠TO→c≠p→c≠q→s.heap.get? c=some o→h'.get? c=some o)→Q none {s with heap:=h',toks:=tk}):wpAny (model prog w) A (pyNext (.ref z)) Q E s:=by
 have hT:s.TypeIs (.ref z) "zip":=⟨_,zz,rfl⟩
 unfold pyNext
 refine wpAny_bind (wpAny_attempt (wpAny_callSpecial?_slot (name:=Str.ofString "__next__") hT F.slot_zip_next (wpAny_call_entry F.slot_zip_next hT F.entry_zip_next
  (WY D1 D2 ap zz zi zo s1 s2 hk fun h' tk e kp he=>?_) (F.args_zip_next_1 _))))
 obtain ⟨o,ho,hc⟩:=he
 refine wpAny_bind (wpAny_isInstance (T:="StopIteration") (b:=true) ⟨o,ho,hc⟩ isSubtype_stop ?_)
 exact wpAny_pure (hQ _ _ kp)
end
open AutoSeq1 (wpAny_loadPart')
def ItAt:Bool→Heap→Addr→Addr→Nat→Prop
 |true,h,it,l,i=>h.IsTupleIter it l i
 |false,h,it,l,i=>h.IsListIter it l i
def SqA:Bool→Heap→Addr→Array Value→Prop
 |true,h,l,xs=>h.IsTuple l xs
 |false,h,l,xs=>h.IsList l xs
def DW:Bool→PySem.W.Frag→Hp→Addr→List V→Prop
 |true,K,H,a,xs=>SqT K H a xs
 |false,K,H,a,xs=>SqL K H a xs
def GN (k:Bool) (l:Addr):Obj:={cls:=.type (if k then "tuple_iterator" else "list_iterator"),data:=.fields #[.ref l,.int 0 0]}
theorem Li {prog:Program} {w:World} {A:Around} (k:Bool) (hh:A.handled=none) (it l:Addr) (hne:l≠it) (items:Array Value):
 Draws prog w A it [it,l] items.size (fun i v=>items[i]?=some v) (fun i h=>ItAt k h it l i∧SqA k h l items):=by
 cases k
 ·exact Draws.list hh it l hne items
 ·exact Nb hh it l hne items
theorem ItAt.obj {k:Bool} {h:Heap} {it l:Addr} {i:Nat} (x:ItAt k h it l i):∃o,h.get? it=some o∧∀v,o.data≠.cell v:=by
 cases k
 ·obtain ⟨o,e,c,d⟩:=x
  exact ⟨o,e,fun v z=>by rw [d] at z;cases z⟩
 ·obtain ⟨o,e,c,d⟩:=x
  exact ⟨o,e,fun v z=>by rw [d] at z;cases z⟩
theorem ItAt.at {k:Bool} {h h':Heap} {it l:Addr} {i:Nat} (x:ItAt k h it l i) (f:∀o,h.get? it=some o→h'.get? it=some o):ItAt k h' it l i:=by
 cases k
 ·exact Heap.IsListIter.at x f
 ·exact Heap.IsTupleIter.at x f
section
variable {X:Cx} {pins:List (Addr×Obj)} {σ:L2.St} {H:Hp} {s:Shared}
theorem Ih {k:Bool} {a:Addr} {xs:List V} (I:Inv X pins σ H s) (h:DW k X.K H a xs):∃its:List Value,Vals xs its∧SqA k s.heap a its.toArray∧a<s.heap.objs.size:=by
 cases k
 ·obtain ⟨its,r,p,_⟩:=I.list h
  have q:=p.isList
  exact ⟨its,r,q,by obtain ⟨_,e,_⟩:=q;exact AE e⟩
 ·obtain ⟨its,r,p,_⟩:=I.tuple h
  exact ⟨its,r,p,p.lt⟩
theorem Rf {k:Bool} {a:Addr} {xs ys:List V} (I:Inv X pins σ H s) (h:DW k X.K H a xs) (h':DW k X.K H a ys):xs=ys:=by
 cases k
 ·exact I.list_inj h h'
 ·exact I.tuple_inj h h'
end
def Rg (K:PySem.W.Frag) (k1 k2:Bool) (t u:Addr):It:=⟨fun i H=>∃xs ys,DW k1 K H t xs∧DW k2 K H u ys∧i<xs.length∧i<ys.length,
 fun i H x H'=>∃p v v',H p=none∧x=.ref p∧(∀xs:List V,DW k1 K H t xs→xs[i]?=some v)∧(∀ys:List V,DW k2 K H u ys→ys[i]?=some v')∧H'=Ak H p (.tup [v,v']),
 fun i H=>∃xs ys,DW k1 K H t xs∧DW k2 K H u ys∧(i=xs.length∨(i<xs.length∧i=ys.length))⟩
inductive Rh (k1 k2:Bool) (z TI TO p q t u:Addr) (i:Nat) (h:Heap):Prop where
 |mk (zz:IsZip h z TI TO .none) (zi:IsPair h TI (.ref p) (.ref q)) (zo:∃a b,IsPair h TO a b) (x1:ItAt k1 h p t i) (x2:ItAt k2 h q u i):Rh k1 k2 z TI TO p q t u i h
theorem W1 {P:Program} {w:World} {K:PySem.W.Frag} {elts:List Expr} {kt:Nat} {tpos:Pos} (k1 k2:Bool) (z TI TO p q t u:Addr) (ap:Ig z TI TO p q [p,t] [q,u]) (n1:t≠p) (n2:u≠q):
 FW P w K (.Tuple elts kt tpos) (Rg K k1 k2 t u) [z,TI,TO,p,q] z (Rh k1 k2 z TI TO p q t u) where
 mem:=by simp
 obj:=fun i h st c hc=>by
  obtain ⟨zz,zi,⟨a,b,zo⟩,x1,x2⟩:=st
  simp only [qa7,DK,or_false] at hc
  rcases hc with rfl |rfl |rfl |rfl |rfl
  ·exact ⟨_,zz,fun v y=>by cases y⟩
  ·exact ⟨_,zi,fun v y=>by cases y⟩
  ·exact ⟨_,zo,fun v y=>by cases y⟩
  ·exact x1.obj
  ·exact x2.obj
 keep:=fun i h h' st kp=>by
  obtain ⟨zz,zi,⟨a,b,zo⟩,x1,x2⟩:=st
  exact ⟨kp z (by simp) _ zz,kp TI (by simp) _ zi,⟨a,b,kp TO (by simp) _ zo⟩,x1.at fun o e=>kp p (by simp) o e,x2.at fun o e=>kp q (by simp) o e⟩
 item:=by
  intro X hP hw hK hc i pins s σ H E I hf st hg
  subst hP hw hK
  obtain ⟨zz,zi,⟨a,b,zo⟩,x1,x2⟩:=st
  obtain ⟨xs,ys,hq1,hq2,l1,l2⟩:=hg
  obtain ⟨it1,rv1,sq1,lt1⟩:=Ih I hq1
  obtain ⟨it2,rv2,sq2,lt2⟩:=Ih I hq2
  have e1:=rv1.length
  have e2:=rv2.length
  have hh:X.A.in1.handled=none:=I.ok.hd hc
  refine WZ (Li k1 hh p t n1 it1.toArray) (Li k2 hh q u n2 it2.toArray) ap zz zi zo ⟨x1,sq1⟩ ⟨x2,sq2⟩ (by rw [A5];omega) (by rw [A5];omega) fun h1 tk x y px py zz1 zo1 O7 Dk nw kp=>?_
  refine ⟨.ref s.heap.objs.size,rfl,wpAny_letOwnedTupleGo_zip zz1 fun h2 zz2 sb=>?_⟩
  have hx:xs[i]?=some xs[i]:=Bb l1
  have hy:ys[i]?=some ys[i]:=Bb l2
  obtain ⟨u1,hu1,ru1⟩:=rv1.get hx
  obtain ⟨u2,hu2,ru2⟩:=rv2.get hy
  have hux:u1=x:=by
   have:it1[i]?=some x:=by simpa using px
   rw [hu1] at this
   exact Option.some.inj this
  have huy:u2=y:=by
   have:it2[i]?=some y:=by simpa using py
   rw [hu2] at this
   exact Option.some.inj this
  subst hux huy
  have hfr:H s.heap.objs.size=none:=I.hok.fresh (AM _)
  have kk:∀c o,c∉[z,TI,TO,p,q]→s.heap.get? c=some o→h2.get? c=some o:=fun c o hc e=>by
   simp only [qa7,DK,or_false,not_or] at hc
   exact (sb.2 c hc.1).trans (kp c o hc.1 hc.2.2.1 hc.2.2.2.1 hc.2.2.2.2 e)
  have nal:∀c o,s.heap.get? c=some o→c≠s.heap.objs.size:=fun c o e=>BD (AE e)
  have na:s.heap.objs.size≠z:=Ne.symm (nal z _ zz)
  have hnew:h2.get? s.heap.objs.size=some {cls:=.type "tuple",data:=.seq #[u1,u2]}:=(sb.2 _ na).trans nw
  have ntr:∀c o,H c=some o→c∉[z,TI,TO,p,q]:=fun c o e hc=>by
   rw [(hf c hc).1] at e;cases e
  refine ⟨.ref s.heap.objs.size,Ak H s.heap.objs.size (.tup [xs[i],ys[i]]),?_,rfl,⟨s.heap.objs.size,xs[i],ys[i],hfr,rfl,fun zs hz=>by rw [Rf I hz hq1];exact hx,fun zs hz=>by rw [Rf I hz hq2];exact hy,rfl⟩,
   ⟨zz2,(sb.2 TI ap.a1).trans (kp TI _ ap.a1 ap.a5 ap.a6 ap.a7 zi),⟨u1,u2,(sb.2 TO ap.a2).trans zo1⟩,O7.1.at fun o e=>(sb.2 p ap.a3).trans e,Dk.1.at fun o e=>(sb.2 q ap.a4).trans e⟩,fun c hc=>?_⟩
  ·show Inv X pins σ _ {s with heap:=h2,gens:=s.gens,drawn:=s.drawn,toks:=tk}
   refine I.step (g':=s.gens) (d':=s.drawn) (t':=tk) (h':=h2) (ch:=[z,TI,TO,p,q]) (fun c hc=>?_) (fun c o _ _ hc e _=>kk c o hc e) (fun c o _ _ hc e _=>⟨o.slots,kk c o hc e⟩) (fun c o _ e n=>by rw [Al (nal c o e)];exact n)
    (fun c o hc e=>⟨o,kk c o hc e⟩) (fun c zs e=>by rw [Al (BB e hfr)];exact e) (fun c o v e=>by rw [Al (BB e hfr)];exact e) (fun c ps e=>⟨#[],by rw [Al (BB e hfr),e];simp⟩) (fun m hm=>?_) (fun c o e=>?_) I.bare
   ·obtain ⟨_,c1,_,c3,c4,c5⟩:=hf c hc
    exact ⟨c3,c1,c4,c5⟩
   ·obtain ⟨o,es,ep,e,r⟩:=hm
    exact ⟨o,es,ep,kk _ o (fun hc=>(hf _ hc).2.1 rfl) e,r⟩
   ·by_cases hb:c=s.heap.objs.size
    ·subst hb
     rw [Bo] at e
     cases e
     exact ⟨by simp only [FQ,HB];rw [sizeLine_eq];decide,[u1,u2],.cons ru1 (.cons ru2 .nil),⟨_,hnew,rfl,0,rfl⟩,fun o e=>by rw [hnew] at e;cases e;rfl⟩
    ·rw [Al hb] at e
     refine (I.hok c o e).stay (fun d v hd e'=>kk d v ?_ e') (fun d e'=>by rw [Al (BB e' hfr)];exact e') fun d zs e'=>by rw [Al (BB e' hfr)];exact e'
     rcases hd with rfl |hd
     ·exact ntr d _ e
     ·exact ntr d _ hd
  ·have nc:c≠s.heap.objs.size:=by
    simp only [qa7,DK,or_false] at hc
    rcases hc with rfl |rfl |rfl |rfl |rfl
    ·exact nal _ _ zz
    ·exact nal _ _ zi
    ·exact nal _ _ zo
    ·obtain ⟨o,e,_⟩:=x1.obj;exact nal _ _ e
    ·obtain ⟨o,e,_⟩:=x2.obj;exact nal _ _ e
   rw [Al nc]
   exact (hf c hc).1
 done:=by
  intro X hP hw hK hc i pins s σ H E I hf st hg
  subst hP hw hK
  obtain ⟨zz,zi,⟨a,b,zo⟩,x1,x2⟩:=st
  obtain ⟨xs,ys,hq1,hq2,hl⟩:=hg
  obtain ⟨it1,rv1,sq1,lt1⟩:=Ih I hq1
  obtain ⟨it2,rv2,sq2,lt2⟩:=Ih I hq2
  have e1:=rv1.length
  have e2:=rv2.length
  have hh:X.A.in1.handled=none:=I.ok.hd hc
  refine W0 (Li k1 hh p t n1 it1.toArray) (Li k2 hh q u n2 it2.toArray) ap zz zi zo ⟨x1,sq1⟩ ⟨x2,sq2⟩ (by simp only [A5];omega) fun h' tk kp=>⟨rfl,?_⟩
  have kk:∀c o,c∉[z,TI,TO,p,q]→s.heap.get? c=some o→h'.get? c=some o:=fun c o hc e=>by
   simp only [qa7,DK,or_false,not_or] at hc
   exact kp c o hc.1 hc.2.2.1 hc.2.2.2.1 hc.2.2.2.2 e
  have ntr:∀c o,H c=some o→c∉[z,TI,TO,p,q]:=fun c o e hc=>by
   rw [(hf c hc).1] at e;cases e
  show Inv X pins σ _ {s with heap:=h',gens:=s.gens,drawn:=s.drawn,toks:=tk}
  refine I.step (g':=s.gens) (d':=s.drawn) (t':=tk) (h':=h') (ch:=[z,TI,TO,p,q]) (fun c hc=>?_) (fun c o _ _ hc e _=>kk c o hc e) (fun c o _ _ hc e _=>⟨o.slots,kk c o hc e⟩) (fun c o _ e n=>n)
   (fun c o hc e=>⟨o,kk c o hc e⟩) (fun c zs e=>e) (fun c o v e=>e) (fun c ps e=>⟨#[],by rw [e];simp⟩) (fun m hm=>?_) (fun c o e=>?_) I.bare
  ·obtain ⟨_,c1,_,c3,c4,c5⟩:=hf c hc
   exact ⟨c3,c1,c4,c5⟩
  ·obtain ⟨o,es,ep,e,r⟩:=hm
   exact ⟨o,es,ep,kk _ o (fun hc=>(hf _ hc).2.1 rfl) e,r⟩
  ·refine (I.hok c o e).stay (fun d v hd e'=>kk d v ?_ e') (fun d e'=>e') fun d zs e'=>e'
   rcases hd with rfl |hd
   ·exact ntr d _ e
   ·exact ntr d _ hd
 self:=fun A i s Q E st h=>by cases st with |mk zz zi zo x1 x2=>exact wpAny_pyIter_zip zz h
abbrev zA (h:Heap) (k1:Bool) (t:Addr):Heap:=h.push (GN k1 t)
abbrev zB (h:Heap) (k1 k2:Bool) (t u:Addr):Heap:=(zA h k1 t).push (GN k2 u)
abbrev zC (h:Heap) (k1 k2:Bool) (t u:Addr):Heap:=(zB h k1 k2 t u).push {cls:=.type "tuple",data:=.seq #[.ref h.objs.size,.ref (zA h k1 t).objs.size]}
abbrev zD (h:Heap) (k1 k2:Bool) (t u:Addr):Heap:=(zC h k1 k2 t u).push {cls:=.type "tuple",data:=.seq #[.none,.none]}
abbrev zE (h:Heap) (k1 k2:Bool) (t u:Addr):Heap:=(zD h k1 k2 t u).push {cls:=.type "zip",data:=.fields #[.none,.bool false,.bool false,.ref (zB h k1 k2 t u).objs.size,.ref (zC h k1 k2 t u).objs.size]}
theorem SqA.push {k:Bool} {h:Heap} {l:Addr} {xs:Array Value} (x:SqA k h l xs) (o:Obj):SqA k (h.push o) l xs:=by
 cases k
 ·exact Heap.IsList.push x o
 ·exact Heap.IsTuple.push x o
theorem Ri {prog:Program} {w:World} {A:Around} {E:Value→Shared→Prop} {s:Shared} {k:Bool} {l:Addr} {xs:Array Value} {Q:Value→Shared→Prop} (x:SqA k s.heap l xs) (hQ:Q (.ref s.heap.objs.size) {s with heap:=s.heap.push (GN k l)}):
 wpAny (model prog w) A (pyIter (.ref l)) Q E s:=by
 cases k
 ·exact wpAny_pyIter_list x hQ
 ·exact wpAny_pyIter_tuple x hQ
theorem W2 (k1 k2:Bool) (t u:Addr) (xs ys:Array Value):
 Meets (Builtin.«zip.__new__» ⟨[.type "zip",.ref t,.ref u],[]⟩) (fun _ R s=>SqA k1 s.heap t xs∧SqA k2 s.heap u ys∧
  R (.ok (.ret (.ref (zD s.heap k1 k2 t u).objs.size))) {s with heap:=zE s.heap k1 k2 t u}):=
 .of_wp fun prog w A R s h=>by
  obtain ⟨hp,g,d,tk,os⟩:=s;obtain ⟨hl1,hl2,h⟩:=h
  have hsub:=sub_zip
  have hL1:SqA k1 (Shared.heap ⟨hp,g,d,tk,os⟩) t xs:=hl1
  have hL2:SqA k2 (Shared.heap ⟨hp.push (GN k1 t),g,d,tk,os⟩) u ys:=SqA.push hl2 _
  wp_walk using Ri hL1,Ri hL2
  exact ⟨_,rfl,h⟩
theorem ItAt.new {k:Bool} {h:Heap} {it l:Addr} (e:h.get? it=some (GN k l)):ItAt k h it l 0:=by
 cases k
 ·exact ⟨_,e,rfl,rfl⟩
 ·exact ⟨_,e,rfl,rfl⟩
theorem W3 {prog:Program} {w:World} {A:Around} {E:Value→Shared→Prop} {s:Shared} {k1 k2:Bool} {t u:Addr} {xs ys:Array Value} {Q:Value→Shared→Prop} (h1:SqA k1 s.heap t xs) (h2:SqA k2 s.heap u ys)
 (h:∀h',IsZip h' (s.heap.objs.size+4) (s.heap.objs.size+2) (s.heap.objs.size+3) .none→IsPair h' (s.heap.objs.size+2) (.ref s.heap.objs.size) (.ref (s.heap.objs.size+1))→
  IsPair h' (s.heap.objs.size+3) .none .none→ItAt k1 h' s.heap.objs.size t 0→ItAt k2 h' (s.heap.objs.size+1) u 0→(∀c o,s.heap.get? c=some o→h'.get? c=some o)→Q (.ref (s.heap.objs.size+4)) {s with heap:=h'}):
 wpAny (model prog w) A (call (.type "zip") [.ref t,.ref u]) Q E s:=by
 refine callType_new F.called_zip (by decide) (F.typeCall_zip_2 _ _) (F.newCall_zip_2 _ _) (fun obj=>F.args_object_init_3 obj _ _) F.entry_zip_new
  (W2 k1 k2 t u xs ys) ⟨h1,h2,?_⟩
 have y1:(zA s.heap k1 t).objs.size=s.heap.objs.size+1:=Ct ..
 have y2:(zB s.heap k1 k2 t u).objs.size=s.heap.objs.size+2:=by rw [Ct,y1]
 have y3:(zC s.heap k1 k2 t u).objs.size=s.heap.objs.size+3:=by rw [Ct,y2]
 have y4:(zD s.heap k1 k2 t u).objs.size=s.heap.objs.size+4:=by rw [Ct,y3]
 have g5:(zE s.heap k1 k2 t u).get? (zD s.heap k1 k2 t u).objs.size=some _:=Bz _ rfl
 have g4:(zE s.heap k1 k2 t u).get? (zC s.heap k1 k2 t u).objs.size=some _:=AJ _ (Bz _ rfl)
 have g3:(zE s.heap k1 k2 t u).get? (zB s.heap k1 k2 t u).objs.size=some _:=AJ _ (AJ _ (Bz _ rfl))
 have g2:(zE s.heap k1 k2 t u).get? (zA s.heap k1 t).objs.size=some (GN k2 u):=AJ _ (AJ _ (AJ _ (Bz _ rfl)))
 have g1:(zE s.heap k1 k2 t u).get? s.heap.objs.size=some (GN k1 t):=AJ _ (AJ _ (AJ _ (AJ _ (Bz _ rfl))))
 show _∧_
 rw [y2,y3,y4] at g5
 rw [y1,y2] at g3
 rw [y3] at g4
 rw [y1] at g2
 rw [y4]
 exact ⟨⟨_,g5,rfl⟩,h _ g5 g3 g4 (.new g1) (.new g2) fun c o x=>AJ _ (AJ _ (AJ _ (AJ _ (AJ _ x))))⟩
section
variable {X:Cx} {E:XK}
theorem W4 {elts:List Expr} {kt:Nat} {tpos p pos:Pos} {a b:Expr} {ta:TA} (hg:Gl X "zip") (hm:X.mg "zip"=none) (ha:PA X [a,b] ta) (hs:starEach [a,b] X.env=[(false,eval a X.env),(false,eval b X.env)]:=by rfl) (hs2:starEach [b] X.env=[(false,eval b X.env)]:=by rfl):
 PI X (.Tuple elts kt tpos) (.Call (.Name "zip" p) [a,b] [] pos) (fun σ H R=>ta σ H fun vs H1=>∃k1 k2 t u xs ys,vs=[.ref t,.ref u]∧DW k1 X.K H1 t xs∧DW k2 X.K H1 u ys∧R (Rg X.K k1 k2 t u) H1):=by
 intro pins s σ H R I h
 refine Call_ (GA I hg hm PyProof.Rows.boot_zip (PyProof.Rows.callWith_type1 (Aw (ha pos pins s σ H _ I h) fun us s1 ⟨vs,H1,I1,r1,q1⟩=>?_) (by rw [hs,hs2]) (by rw [hs2];rfl)))
 obtain ⟨k1,k2,t,u,xs,ys,e,hq1,hq2,q⟩:=q1
 subst e
 cases r1 with
 |cons r rr=>
  cases rr with
  |cons r' rr=>
   cases rr
   cases r
   cases r'
   obtain ⟨it1,rv1,sq1,lt1⟩:=Ih I1 hq1
   obtain ⟨it2,rv2,sq2,lt2⟩:=Ih I1 hq2
   refine W3 sq1 sq2 fun h' zz zi zo x1 x2 kp=>wpAny_pyIter_zip (s:={s1 with heap:=h'}) zz ?_
   have I2:Inv X pins σ H1 {s1 with heap:=h'}:=I1.kept (t':=s1.toks) kp
   have fr:∀c,s1.heap.objs.size≤c→CQ X pins H1 c:=fun c hc=>I1.fpOk hc (I1.hok.fresh hc)
   have m0:s1.heap.objs.size≠s1.heap.objs.size+4:=BG (by omega)
   have ap:Ig (s1.heap.objs.size+4) (s1.heap.objs.size+2) (s1.heap.objs.size+3) s1.heap.objs.size (s1.heap.objs.size+1) [s1.heap.objs.size,t] [s1.heap.objs.size+1,u]:=by
    generalize s1.heap.objs.size=n at lt1 lt2
    exact ⟨BG (by omega),BG (by omega),BG (by omega),BG (by omega),BG (by omega),Cn (by omega),Cn (by omega),Cn (by omega),Cn (by omega),BG (by omega),
     fun z=>by simp only [qa7,DK,or_false] at z;rcases z with z |z;exact absurd z (Cn (by omega));exact absurd z (Cn (AX lt1 (Fs _ _))),
     fun z=>by simp only [qa7,DK,or_false] at z;rcases z with z |z;exact absurd z (Cn (by omega));exact absurd z (Cn (AX lt2 (Fs _ _))),
     fun z=>by simp only [qa7,DK,or_false] at z;rcases z with z |z;exact absurd z (Cn (by omega));exact absurd z (Cn (AX lt1 (Fs _ _))),
     fun z=>by simp only [qa7,DK,or_false] at z;rcases z with z |z;exact absurd z (Cn (by omega));exact absurd z (Cn (AX lt2 (Fs _ _))),
     fun z=>by simp only [qa7,DK,or_false] at z;rcases z with z |z;exact absurd z (BG (by omega));exact absurd z (Cn lt2),
     fun z=>by simp only [qa7,DK,or_false] at z;rcases z with z |z;exact absurd z (Cn (by omega));exact absurd z (Cn (AX lt1 (Fs _ _)))⟩
   refine ⟨s1.heap.objs.size+4,[s1.heap.objs.size+4,s1.heap.objs.size+2,s1.heap.objs.size+3,s1.heap.objs.size,s1.heap.objs.size+1],_,_,H1,rfl,I2,W1 k1 k2 _ _ _ _ _ t u ap (BD lt1) (BD (Hw lt2)),⟨zz,zi,⟨_,_,zo⟩,x1,x2⟩,fun c hc=>?_,q⟩
   simp only [qa7,DK,or_false] at hc
   rcases hc with rfl |rfl |rfl |rfl |rfl
   ·exact fr _ (Fs _ _)
   ·exact fr _ (Fs _ _)
   ·exact fr _ (Fs _ _)
   ·exact fr _ (AM _)
   ·exact fr _ (Fs _ _)
def Gg (xs ys:List D):List D:=List.zipWith (fun a b=>.tup [a,b]) xs ys
def CZ:D→HD→Option (List D×A8)
 |.tup xs,_=>some (xs,[])
 |.loc l,h=>match h[l]? with
  |some (.lst xs)=>some (xs,[(l,xs)])
  |_=>none
 |_,_=>none
def FD:List D→HD→Out (List D×A8):=fun ds h=>match ds with
 |[x,y]=>match CZ x h,CZ y h with
  |some (xs,s1),some (ys,s2)=>.ok (Gg xs ys,s1++s2) h
  |_,_=>.stuck
 |_=>.stuck
def GO (fa:MA):MI:=fun ρ h=>(fa ρ h).bind FD
theorem Rj {m:List Addr} {h:HD} {d:D} {v:V} {H:Hp} {xs:List D} {sr:A8} (hr:HR X.K m h H) (r:DV X.K m H d v) (e:CZ d h=some (xs,sr)):
 ∃k t,v=.ref t∧∀m2 h2 H2,m <+:m2→Kp H H2→HR X.K m2 h2 H2→(∀p∈sr,h2[p.1]?=some (.lst p.2))→∃vs,DW k X.K H2 t vs∧DVs X.K m2 H2 xs vs:=by
 cases d with
 |tup zs=>
  simp only [CZ,Option.some.injEq,Prod.mk.injEq] at e
  obtain ⟨rfl,rfl⟩:=e
  simp only [DV] at r
  obtain ⟨a,vs,rfl,ha,dv⟩:=r
  exact ⟨true,a,rfl,fun m2 h2 H2 p2 k2 hr2 _=>⟨vs,SqT.of (k2 _ _ ha rfl),dv.keep p2 k2⟩⟩
 |loc l=>
  simp only [CZ] at e
  split at e
  ·rename_i zs el
   simp only [Option.some.injEq,Prod.mk.injEq] at e
   obtain ⟨rfl,rfl⟩:=e
   simp only [DV] at r
   obtain ⟨a,rfl,ha⟩:=r
   refine ⟨false,a,rfl,fun m2 h2 H2 p2 k2 hr2 hs=>?_⟩
   obtain ⟨ws,hw,dw⟩:=hr2.cells l _ a (hs _ AO) (HH p2 ha)
   exact ⟨ws,SqL.of hw,dw⟩
  ·cases e
 |_=>simp [CZ] at e
theorem Rk {h:HD} {d:D} {xs:List D} {sr:A8} (e:CZ d h=some (xs,sr)):∀p∈sr,h[p.1]?=some (.lst p.2):=by
 cases d with
 |tup zs=>
  simp only [CZ,Option.some.injEq,Prod.mk.injEq] at e
  obtain ⟨rfl,rfl⟩:=e
  exact fun p hp=>nomatch hp
 |loc l=>
  simp only [CZ] at e
  split at e
  ·rename_i zs el
   simp only [Option.some.injEq,Prod.mk.injEq] at e
   obtain ⟨rfl,rfl⟩:=e
   intro p hp
   rw [qaD] at hp
   subst hp
   exact el
  ·cases e
 |_=>simp [CZ] at e
theorem NB {elts:List Expr} {kt:Nat} {tpos p pos:Pos} {a b:Expr} {fa:MA} (hg:Gl X "zip") (hm:X.mg "zip"=none) (ha:Cb X E [a,b] fa) (hs:starEach [a,b] X.env=[(false,eval a X.env),(false,eval b X.env)]:=by rfl) (hs2:starEach [b] X.env=[(false,eval b X.env)]:=by rfl):
 EW X E (.Tuple elts kt tpos) (.Call (.Name "zip" p) [a,b] [] pos) (GO fa):=
 Jq (W4 hg hm ha hs hs2) fun σ H R ⟨m,ρ,h,hr,er,p⟩=>⟨m,ρ,h,hr,er,Post.bind p fun x h1 v m1 H1 eo p1 k1 hr1 r1 q1=>by
  clear eo
  unfold FD at q1
  split at q1
  ·rename_i d1 d2
   split at q1
   ·rename_i xs s1 ys s2 e1 e2
    simp only [DP,DVs] at r1
    obtain ⟨v1,w1,rfl,rv1,v2,w2,rfl,rv2,rfl⟩:=r1
    obtain ⟨kd1,t,rfl,f1⟩:=Rj hr1 rv1 e1
    obtain ⟨kd2,u,rfl,f2⟩:=Rj hr1 rv2 e2
    obtain ⟨vs1,sq1,_⟩:=f1 m1 h1 H1 (AH _) (.refl _) hr1 (Rk e1)
    obtain ⟨vs2,sq2,_⟩:=f2 m1 h1 H1 (AH _) (.refl _) hr1 (Rk e2)
    refine ⟨kd1,kd2,t,u,vs1,vs2,rfl,sq1,sq2,q1 _ m1 H1 (AH _) (.refl _) hr1 fun i m2 h2 H2 p2 k2 hr2 hsr=>?_⟩
    obtain ⟨ws1,sw1,dw1⟩:=f1 m2 h2 H2 p2 k2 hr2 fun p hp=>hsr p (Gv _ hp)
    obtain ⟨ws2,sw2,dw2⟩:=f2 m2 h2 H2 p2 k2 hr2 fun p hp=>hsr p (Bt _ hp)
    have n1:=dw1.len
    have n2:=dw2.len
    have nl:(Gg xs ys).length=min xs.length ys.length:=by simp [Gg]
    refine ⟨fun hi=>?_,fun hi=>⟨ws1,ws2,sw1,sw2,by dsimp only at hi;omega⟩⟩
    dsimp only at hi
    have i1:i<xs.length:=by omega
    have i2:i<ys.length:=by omega
    refine ⟨⟨ws1,ws2,sw1,sw2,by omega,by omega⟩,fun y H3 z3_=>?_⟩
    obtain ⟨pp,vv,vv',hp,ey,ev,ev',eH⟩:=z3_
    subst ey eH
    have g1:xs[i]?=some xs[i]:=Bb i1
    have g2:ys[i]?=some ys[i]:=Bb i2
    obtain ⟨c1,z1,r1'⟩:=dw1.get g1
    obtain ⟨c2,z2,r2'⟩:=dw2.get g2
    rw [ev ws1 sw1] at z1
    rw [ev' ws2 sw2] at z2
    cases z1
    cases z2
    refine ⟨.new hp,hr2.new hp,.tup [xs[i],ys[i]],?_,?_⟩
    ·simp [Gg,List.getElem?_zipWith,g1,g2]
    ·simp only [DV]
     exact ⟨pp,_,rfl,Bo,.cons (DV.keep (AH _) (.new hp) r1') (.cons (DV.keep (AH _) (.new hp) r2') .nil)⟩
   ·exact q1.elim
  ·exact q1.elim⟩
end
end LS
namespace LS
open PySem PySem.Spec PyProof.Rows L2
section
variable {ρ:Ah} {h:HD} {QI:(List D×A8)→HD→Prop} {Q:D→HD→Prop} {QO:Option Int→HD→Prop} {QS:Fl×Ah→HD→Prop} {f fo fi fv:ME} {lo hi:MO} {fa:MA}
@[simp] theorem Zdu:Wp (JB fa ρ h) QI=Wp (fa ρ h) fun d h1=>Wp (JA d h1) QI:=by unfold JB;rw [Az]
@[simp] theorem Rl:Wp (GO fa ρ h) QI=Wp (fa ρ h) fun d h1=>Wp (FD d h1) QI:=by unfold GO;rw [Az]
@[simp] theorem Zdv:Wp (Q7 f lo hi ρ h) Q=Wp (f ρ h) fun x h1=>Wp (lo ρ h1) fun l h2=>Wp (hi ρ h2) fun u h3=>Wp (Q6 x l u h3) Q:=by unfold Q7;simp only [Az]
@[simp] theorem Zdw:Wp (WQ ρ h) QO=QO none h:=id rfl
@[simp] theorem Zdx:Wp (Q5 f ρ h) QO=Wp (f ρ h) fun x h1=>Wp (match x with
  |.int i=>(.ok (some i) h1:Out (Option Int))
  |_=>.stuck) QO:=by unfold Q5;rw [Az]<;>rfl
@[simp] theorem Zdy:Wp (Ra fo fi fv ρ h) QS=Wp (fo ρ h) fun o h1=>Wp (fi ρ h1) fun i h2=>Wp (Q9 o i h2) fun x h3=>Wp (fv ρ h3) fun y h4=>Wp (Q8 o i x y ρ h4) QS:=by unfold Ra;simp only [Az]
theorem W5 {n:Nat} {e:Nat→D}:Eh ((List.range n).map e)=(List.range n).map fun k=>D.tup [.int ((k:Nat):Int),e k]:=by
 unfold Eh
 apply List.ext_getElem
 ·simp
 ·intro i h1 h2;simp
theorem W6 {n l:Nat} {e:Nat→D} (he:h[l]?=some (.lst ((List.range n).map e))):JA [.loc l] h=.ok ((List.range n).map fun k=>D.tup [.int ((k:Nat):Int),e k],[(l,(List.range n).map e)]) h:=by
 simp only [JA,he,W5]
theorem W7 {n:Nat} {e e':Nat→D}:Gg ((List.range n).map e) ((List.range n).map e')=(List.range n).map fun k=>D.tup [e k,e' k]:=by
 unfold Gg
 apply List.ext_getElem
 ·simp
 ·intro i h1 h2;simp
theorem W8 {n:Nat} {e e':Nat→D} {x y:D} {s1 s2:A8} (hx:CZ x h=some ((List.range n).map e,s1)) (hy:CZ y h=some ((List.range n).map e',s2)):
 FD [x,y] h=.ok ((List.range n).map fun k=>D.tup [e k,e' k],s1++s2) h:=by
 simp only [FD,hx,hy,W7]
theorem Rm {ds:List D}:CZ (.tup ds) h=some (ds,[]):=rfl
theorem Lj {l:Nat} {ds:List D} (e:h[l]?=some (.lst ds)):CZ (.loc l) h=some (ds,[(l,ds)]):=by simp only [CZ,e]
theorem Lk {l:Nat} {F:List Int→Int} {ns:List Int} (e:h[l]?=some (.lst (ns.map D.int))) (hn:ns≠[]):Cw F (.loc l) h=.ok (.int (F ns)) h:=by
 simp only [Cw,e,DL]
 rw [GK (f:=Fy∘D.int) (g:=id) (fun x _=>rfl)]
 simp only [List.map_id,if_neg hn]
theorem Dc {l:Nat} {ds:List D} (e:h[l]?=some (.lst ds)):EX (.loc l) h=.ok (ds,[(l,ds)]) h:=by
 simp only [EX,BC,e,Qg]
theorem W9 {l k:Nat} {xs ys:List D} (e:h[l]?=some (.lst xs)) (e':h[k]?=some (.lst ys)):AA (.loc l) (.loc k) h=CI (xs++ys) h:=by
 simp only [AA,e,e']
theorem Xa {xs ys:List D} (hn:xs.length+ys.length≤sizeLine):AA (.tup xs) (.tup ys) h=.ok (.tup (xs++ys)) h:=by
 simp only [AA];rw [if_pos hn]
theorem Xb {l:Nat} {ds:List D} (e:h[l]?=some (.lst ds)):Bm (.loc l) h=.ok (.int ds.length) h:=by
 simp only [Bm,BC,e]
end
noncomputable def NC (cs:List (Option Nat)) (it:MI) (sg:MG) (t:MT) (f:ME):ME:=Ag (An Du) (Aa (AB cs it sg t f) Ac)
noncomputable def ND (F:List Int→Int) (cs:List (Option Nat)) (it:MI) (sg:MG) (t:MT) (f:ME):ME:=Ag (An (Cw F)) (Aa (AB cs it sg t f) Ac)
section
variable {α:Type} {cs:List (Option Nat)} {it:MI} {sg:MG} {t:MT} {f:ME} {ρ:Ah} {h:HD} {src:A8} {xs:List α} {φ:α→D} {F:List Int→Int}
@[simp] theorem Zdz:Ag (An Du) (Aa (AB cs it sg t f) Ac) ρ h=NC cs it sg t f ρ h:=rfl
@[simp] theorem ZdA:Ag (An (Cw F)) (Aa (AB cs it sg t f) Ac) ρ h=ND F cs it sg t f ρ h:=rfl
theorem NF (n:α→Int) (ρ1:α→Ah) (hi:BX (it ρ h) h (xs.map φ) src) (hg:∀x∈xs,sg (φ x) (B5 cs ρ)=some (ρ1 x)) (hf:∀x∈xs,∀h',Sm h h'→Pu (f (ρ1 x) h') h' (.int (n x))) (hn:xs.length≤sizeLine):
 Pu (NC cs it sg AN f ρ h) h (.int (xs.map n).sum):=by
 unfold Pu NC
 rw [GJ,E2]
 refine Dv (fun _=>true) (fun x=>.int (n x)) ρ1 hi hn hg (fun x hx h' s'=>(.ok:Pu (.ok true h') h' true)) (fun x hx _ h' s'=>hf x hx h' s') fun l h' s' e'=>?_
 rw [B7] at e'
 rw [E1]
 simp only [An,Du,BC,e',DL]
 rw [GK (f:=Fy∘fun x=>D.int (n x)) (g:=n) (fun x _=>rfl)]
 exact ⟨rfl,s'⟩
theorem Xd (n:α→Int) (ρ1:α→Ah) (hi:BX (it ρ h) h (xs.map φ) src) (hg:∀x∈xs,sg (φ x) (B5 cs ρ)=some (ρ1 x)) (hf:∀x∈xs,∀h',Sm h h'→Pu (f (ρ1 x) h') h' (.int (n x))) (hn:xs.length≤sizeLine) (hne:xs≠[]):
 Pu (ND F cs it sg AN f ρ h) h (.int (F (xs.map n))):=by
 unfold Pu ND
 rw [GJ,E2]
 refine Dv (fun _=>true) (fun x=>.int (n x)) ρ1 hi hn hg (fun x hx h' s'=>(.ok:Pu (.ok true h') h' true)) (fun x hx _ h' s'=>hf x hx h' s') fun l h' s' e'=>?_
 rw [B7] at e'
 rw [E1,QN,Lk (ns:=xs.map n) (by rw [e',DL];rfl) (by simpa using hne)]
 exact ⟨rfl,s'⟩
theorem NG {l:Nat} {ds:List D} {o:Out D} {h1:HD} (e:o=.ok (.loc l) h1) (s:Sm h h1) (el:h1[l]?=some (.lst ds)):BX (o.bind EX) h ds [(l,ds)]:=by
 subst e
 simp only [Out.bind_ok,Dc el,BX,Bh]
 exact ⟨trivial,s,fun h2 s2=>CW (s2 _ _ el)⟩
end
section
variable {X:Cx} {E:XK}
end
section
variable {X:Cx}
def Rn:D→HD→Out D:=fun x h=>match x with
 |.loc l=>match h[l]? with
  |some (.lst ds)=>match A0 (ds.map HY) with
   |some bs=>.ok (.bl (bs.any id)) h
   |none=>.stuck
  |_=>.stuck
 |_=>.stuck
end
noncomputable def Xe (cs:List (Option Nat)) (it:MI) (sg:MG) (t:MT) (f:ME):ME:=Ag (An Rn) (Aa (AB cs it sg t f) Ac)
section
variable {α:Type} {cs:List (Option Nat)} {it:MI} {sg:MG} {t:MT} {f:ME} {ρ:Ah} {h:HD} {src:A8} {xs:List α} {φ:α→D}
@[simp] theorem ZdB:Ag (An Rn) (Aa (AB cs it sg t f) Ac) ρ h=Xe cs it sg t f ρ h:=rfl
end
end LS
namespace LK
open LS
def Bi (n:Nat) (r:Nat→Bool):Int:=((List.range n).map fun j=>if r j then (1:Int) else 0).sum
theorem NH {α:Type} {f g:α→Int}:∀{xs:List α},(xs.map fun x=>f x+g x).sum=(xs.map f).sum+(xs.map g).sum
 |[]=>rfl
 |x::xs=>by simp only [BM,IW,NH (xs:=xs)];omega
theorem Ro {α:Type}:∀{xs:List α},(xs.map fun _=>(0:Int)).sum=0
 |[]=>rfl
 |x::xs=>by simp only [BM,IW,Ro (xs:=xs)];rfl
theorem Rq {α β:Type} {f:α→β→Int} {ys:List β}:∀{xs:List α},(xs.map fun x=>(ys.map fun y=>f x y).sum).sum=(ys.map fun y=>(xs.map fun x=>f x y).sum).sum
 |[]=>by simp [Ro]
 |x::xs=>by
  simp only [BM,IW,Rq (xs:=xs)]
  rw [←NH]
theorem Rr {α:Type} {f g:α→Int}:∀{xs:List α},(∀x∈xs,f x≤g x)→(xs.map f).sum≤(xs.map g).sum
 |[],_=>Int.le_refl _
 |x::xs,h=>by
  simp only [BM,IW]
  have:=h x AO
  have:=Rr (xs:=xs) fun y hy=>h y (AS _ hy)
  omega
theorem Gh {α:Type} {f g:α→Int} {xs:List α} (h:∀x∈xs,f x=g x):(xs.map f).sum=(xs.map g).sum:=by
 rw [Hu h]
theorem GP {n:Nat} {r r':Nat→Bool} (h:∀i,i<n→r i=r' i):Bi n r=Bi n r':=
 Gh fun i hi=>by rw [h i (by simpa using hi)]
theorem Rt {n:Nat} {r:Nat→Bool}:Bi n (fun i=>!r i)=n - Bi n r:=by
 have:Bi n (fun i=>!r i)+Bi n r=n:=by
  unfold Bi
  rw [←NH]
  have:∀m:Nat,((List.range m).map fun i=>(if (!r i)=true then (1:Int) else 0)+if r i=true then 1 else 0).sum=m:=fun m=>by
   induction m with
   |zero=>rfl
   |succ m ih=>
    rw [Dl,CO,FR,ih]
    cases e:r m<;>simp [e]
  exact this n
 omega
theorem Xf {n:Nat} {r:Nat→Bool}:0≤Bi n r∧Bi n r≤n:=by
 unfold Bi
 induction n with
 |zero=>simp
 |succ n ih=>
  rw [Dl,CO,FR]
  cases r n<;>simp<;>omega
def cc (H:Nat) (f:Nat→Nat→Bool) (R:Nat→Bool) (j:Nat):Int:=Bi H fun i=>Bool.xor (f i j) (R i)
def NI (W:Nat) (H:Int) (c:Nat→Int) (C:Nat→Bool):Int:=((List.range W).map fun j=>if C j then H - c j else c j).sum
def Cf (W:Nat) (H:Int) (c:Nat→Int):Int:=((List.range W).map fun j=>if H - c j<c j then H - c j else c j).sum
def TT (H W:Nat) (f:Nat→Nat→Bool) (R C:Nat→Bool):Int:=NI W H (cc H f R) C
theorem Ru {H:Nat} {f:Nat→Nat→Bool} {R R':Nat→Bool} {j:Nat} (h:∀i,i<H→R i=R' i):cc H f R j=cc H f R' j:=GP fun i hi=>by rw [h i hi]
theorem Xg {H W:Nat} {f:Nat→Nat→Bool} {R R' C C':Nat→Bool} (h:∀i,i<H→R i=R' i) (h':∀j,j<W→C j=C' j):TT H W f R C=TT H W f R' C':=
 Gh fun j hj=>by rw [Ru h,h' j (by simpa using hj)]
theorem Ll {H W:Nat} {f:Nat→Nat→Bool} {R C:Nat→Bool}:TT H W f R C=((List.range W).map fun j=>Bi H fun i=>Bool.xor (f i j) (Bool.xor (R i) (C j))).sum:=by
 refine Gh fun j _=>?_
 cases C j
 ·simp only [CH,if_false,Bool.xor_false];rfl
 ·simp only [if_true,cc]
  rw [←Rt]
  exact GP fun i _=>by cases f i j<;>cases R i<;>rfl
theorem Rv {H W:Nat} {f:Nat→Nat→Bool} {R C:Nat→Bool}:((List.range H).map fun i=>Bi W fun j=>Bool.xor (f i j) (Bool.xor (R i) (C j))).sum=TT H W f R C:=by
 rw [Ll];exact Rq
theorem Rw {H W:Nat} {f:Nat→Nat→Bool} {R C:Nat→Bool}:TT W H (fun i j=>f j i) C R=TT H W f R C:=by
 rw [Ll,←Rv]
 exact Gh fun i _=>GP fun j _=>by cases f i j<;>cases R i<;>cases C j<;>rfl
theorem Xh {H W:Nat} {f:Nat→Nat→Bool} {R C:Nat→Bool}:TT H W f (fun i=>!R i) (fun j=>!C j)=TT H W f R C:=by
 rw [Ll,Ll]
 exact Gh fun j _=>GP fun i _=>by cases f i j<;>cases R i<;>cases C j<;>rfl
theorem Xi {W:Nat} {H:Int} {c:Nat→Int} {C:Nat→Bool}:Cf W H c≤NI W H c C:=
 Rr fun j _=>by split<;>split<;>omega
def NJ (H:Int) (c:Nat→Int) (j:Nat):Bool:=decide (H<2*c j)
theorem Rx {W:Nat} {H:Int} {c:Nat→Int}:NI W H c (NJ H c)=Cf W H c:=
 Gh fun j _=>by
  unfold NJ
  by_cases h:H<2*c j
  ·rw [if_pos (by simpa using h),if_pos (by omega)]
  ·rw [if_neg (by simpa using h),if_neg (by omega)]
def ext (n:Nat) (R:Nat→Bool):Nat→Bool:=fun i=>if i=n then true else R i
def LL (s:Nat):Nat→List (Nat→Bool)
 |0=>[fun _=>false]
 |k+1=>LL s k++(LL s k).map (ext (s+k))
theorem Ii {s:Nat}:∀{k:Nat} {R:Nat→Bool},R∈LL s k→∀i,i<s∨s+k≤i→R i=false
 |0,R,h,i,_=>by
  simp only [LL,qaD] at h
  subst h;rfl
 |k+1,R,h,i,hi=>by
  rcases qb2.mp h with z |z
  ·exact Ii z i (by omega)
  ·obtain ⟨R',z1,rfl⟩:=qaW.mp z
   unfold ext
   rw [if_neg (by omega)]
   exact Ii z1 i (by omega)
theorem Ry {s:Nat} (R:Nat→Bool):∀k:Nat,∃R'∈LL s k,∀i,s≤i→i<s+k→R' i=R i
 |0=>⟨_,AO,fun i h1 h2=>by omega⟩
 |k+1=>by
  obtain ⟨R',h1,h2⟩:=Ry R k
  cases e:R (s+k) with
  |false=>
   refine ⟨R',Gv _ h1,fun i hi hi2=>?_⟩
   by_cases hz:i=s+k
   ·rw [hz,e];exact Ii h1 _ (by omega)
   ·exact h2 i hi (by omega)
  |true=>
   refine ⟨ext (s+k) R',Bt _ (qaW.mpr ⟨R',h1,rfl⟩),fun i hi hi2=>?_⟩
   unfold ext
   by_cases hz:i=s+k
   ·rw [if_pos hz,hz,e]
   ·rw [if_neg hz];exact h2 i hi (by omega)
theorem NK {s:Nat}:∀k,(LL s k).length=2^k
 |0=>rfl
 |k+1=>by simp only [LL,CG,Cm,NK k];omega
def A4 (H W:Nat) (f:Nat→Nat→Bool):Int:=En ((LL 1 (H - 1)).map fun R=>Cf W H (cc H f R))
theorem Rz {s k:Nat}:LL s k≠[]:=fun h=>by
 have:=NK (s:=s) k
 rw [h] at this
 have:0<2^k:=Nat.two_pow_pos k
 simp_all
theorem RA {H W:Nat} {f:Nat→Nat→Bool}:∃R∈LL 1 (H - 1),Cf W H (cc H f R)=A4 H W f:=by
 have:=Nz (ns:=(LL 1 (H - 1)).map fun R=>Cf W H (cc H f R)) (by simp [Rz])
 obtain ⟨R,h,e⟩:=qaW.mp this
 exact ⟨R,h,e⟩
theorem Xj {H W:Nat} {f:Nat→Nat→Bool} {R:Nat→Bool} (h:R∈LL 1 (H - 1)):A4 H W f≤Cf W H (cc H f R):=NA (qaW.mpr ⟨R,h,rfl⟩)
theorem NL {H W:Nat} {f:Nat→Nat→Bool} (hH:1≤H) (R C:Nat→Bool):A4 H W f≤TT H W f R C:=by
 have key:∀R C:Nat→Bool,R 0=false→A4 H W f≤TT H W f R C:=fun R C h0=>by
  obtain ⟨R',h1,h2⟩:=Ry (s:=1) R (H - 1)
  have:∀i,i<H→R i=R' i:=fun i hi=>by
   by_cases hz:i=0
   ·rw [hz,h0];exact (Ii h1 0 (by omega)).symm
   ·exact (h2 i (by omega) (by omega)).symm
  rw [Xg this (fun _ _=>rfl)]
  exact Int.le_trans (Xj h1) Xi
 cases h:R 0 with
 |false=>exact key R C h
 |true=>
  rw [←Xh]
  exact key _ _ (by simp [h])
theorem NM {H W:Nat} (f:Nat→Nat→Bool):∃R C,TT H W f R C=A4 H W f:=by
 obtain ⟨R,_,e⟩:=RA (H:=H) (W:=W) (f:=f)
 exact ⟨R,NJ H (cc H f R),by rw [←e];exact Rx⟩
theorem NO {H W:Nat} {f:Nat→Nat→Bool} (hH:1≤H) (hW:1≤W):A4 W H (fun i j=>f j i)=A4 H W f:=by
 refine Kn ?_ ?_
 ·obtain ⟨R,C,e⟩:=NM (H:=H) (W:=W) f
  rw [←e,←Rw]
  exact NL hW _ _
 ·obtain ⟨C,R,e⟩:=NM (H:=W) (W:=H) (fun i j=>f j i)
  rw [←e,Rw]
  exact NL hH _ _
end LK
namespace LS
open PySem PySem.Spec PyProof.Rows L2 PySem.W
structure EC (K:Frag) (C:Addr):Prop where
 ga:findIn K (.ref C) "__getattribute__"=some (some (.builtin "BaseException.__getattribute__"))
 gt:findIn K (.ref C) "__getattr__"=some none
 cl:(clsIn K C).isSome=true
 ac:findIn K (.ref C) "__class__"=some (some (.builtin "object.__class__"))
 sg:specialIn K (.builtin "object.__class__") "__get__"=some (some (.builtin "getset_descriptor.__get__"))
 tk:takesIn K (.builtin "object.__class__")=some true
 mo:mroIn K C (.type "object")=some true
 mb:mroIn K C (.type "BaseException")=some true
section
variable {prog:Program} {w:World} {A:Around} {E:Value→Shared→Prop} {s:Shared} {K:Frag} {x C:Addr} {ox:Obj} {od:Option Obj}
def TyAt (x C:Addr) (h:Heap):Prop:=∃o,h.get? x=some o∧o.cls=.ref C
theorem TyAt.type {M:Model} {h:Heap} (t:TyAt x C h):Looks M h (typeOf (.ref x)) (.ref C):=by
 obtain ⟨o,h1,h2⟩:=t
 exact h2 ▸ (Looks.ld h1).andThen .now
theorem Xk {M:Model} {h:Heap} (c:EC K C) (X:K.In h):Looks M h (Builtin.ObjectAttr.find (.ref x) (.ref C) "__class__") (.bind (.builtin "getset_descriptor.__get__") (.builtin "object.__class__")):=by
 have L1:=looks_findIn (M:=M) X c.ac
 have L2:Looks M h (Builtin.ObjectAttr.getOf (some (.builtin "object.__class__"))) (some (.builtin "getset_descriptor.__get__")):=looks_specialIn X c.sg
 have L3:=looks_takesIn (M:=M) X c.tk
 refine L1.andThen (L2.andThen ?_)
 exact (show Looks M h (Builtin.ObjectAttr.dataDescriptor? (some (.builtin "object.__class__")) (some (.builtin "getset_descriptor.__get__"))) (some (.builtin "getset_descriptor.__get__",.builtin "object.__class__")) from L3.andThen .now).andThen (Looks.tag .now)
theorem Xl {R:Result→Shared→Prop} {tp:Value} (X:K.In s.heap) (I:TyAt x C s.heap) (hm:mroIn K C (.type "object")=some true)
 (h:R (.ok (.ret (.ref C))) s):codeAny (model prog w) A (.call (.builtin "getset_descriptor.__get__") ⟨[.builtin "object.__class__",.ref x,tp],[]⟩) R s:=by
 obtain ⟨hh,g,dr,t,os⟩:=s
 have L0:=I.type (M:=model prog w)
 have L1:=looks_mroIn (M:=model prog w) X hm
 refine codeAny_call_builtin KF.slot_gs.plain KF.entry_gs (KF.slot_gs.check _ _ _ _ _ _ _ _ KF.type_class (KF.args_gs _ _ _) ?_)
 unfold Builtin.«getset_descriptor.__get__» Builtin.Getset_descriptor.descrGet
 rw [dga_obj]
 refine wpAny_bind (wpAny_pure ?_)
 unfold Builtin.Getset_descriptor.descrGetter Builtin.Getset_descriptor.descrCheckInstance Builtin.Getset_descriptor.descrNameAndClass isInstance
 simp only [KF.owner_class]
 repeat lk
 refine ⟨Code.quiet_builtin _ (by decide +kernel),codeAny_builtin KF.entry_class ?_⟩
 unfold Builtin.«object.__class__» shownTypeOf
 repeat lk
 exact h
theorem Xm {Q:Option Value→Shared→Prop} (c:EC K C) (X:K.In s.heap) (I:TyAt x C s.heap) (h:Q (some (.ref C)) {s with toks:=s.toks+1}):wpAny (model prog w) A (getAttr? (.ref x) "__class__") Q E s:=by
 obtain ⟨hh,g,d,t,os⟩:=s
 have L0:=I.type (M:=model prog w)
 have L1:=looks_findIn (M:=model prog w) X c.ga
 have L2:=looks_findIn (M:=model prog w) X c.gt
 have LF:=Xk (M:=model prog w) (x:=x) c X
 have LB:=looks_mroIn (M:=model prog w) X c.mb
 have ha:=F.args_bexc_ga (.ref x) (.str "__class__" t)
 have hk:builtinKind "BaseException.__getattribute__"=some .slot:=by decide +kernel
 have hsplit:splitId "BaseException.__getattribute__"=some ("BaseException","__getattribute__"):=by decide +kernel
 have hx2:(Value.builtin "BaseException.__getattribute__"==Value.builtin "object.__getattribute__")=false:=by decide +kernel
 have hx1:(onTheHeap (Value.ref C)&&Value.builtin "BaseException.__getattribute__"==Value.builtin "object.__getattribute__")=false:=by rw [hx2];rfl
 unfold getAttr? getAttrBy? getAttrBy
 refine wpAny_bind (wpAny_mkText (wpAny_bind (wpAny_attempt (wpAny_holding (wpAny_bind (L0.at (wpAny_bind (L1.at ?_))))))))
 dsimp only
 rw [hx1]
 simp only [CH,if_false]
 unfold getAttrByItsOwn hookBefore
 refine wpAny_bind ?_
 show wpAny _ _ (typeLookup (.ref C) "__getattr__") _ _ _
 refine L2.at ?_
 refine wpAny_bind (wpAny_attempt (wpAny_holding ?_))
 unfold callGetattribute boundAndCalled
 simp only [Bool.false_and,CH,if_false]
 rw [PySem.F.attr_ValueError.ga.bind (.ref x)]
 refine wpAny_bind (wpAny_pure (wpAny_call (codeAny_call_builtin PySem.F.attr_ValueError.ga.plain F.entry_bexc_ga ?_)))
 simp only [checkBuiltinCall,hk,hsplit]
 refine wpAny_bind ?_
 unfold isInstance
 refine wpAny_bind (L0.at (LB.at ?_))
 wp_step
 unfold Builtin.«object.__getattribute__»
 repeat lk
 refine wpAny_run (Xl (s:=⟨hh,g,d,t+1,os⟩) X I c.mo ?_) (by intro z;cases z)
 refine wpAny_pure (wpAny_pure ?_)
 exact handed_on rfl (wpAny_pure h)
theorem Xn (c:EC K C):KitX K (.ref x) (.ref C) (TyAt x C) where
 ty:=fun _ _ _ I=>I.type
 it:=fun _ _ X _=>by
  obtain ⟨cdD,hcD⟩:=qbN.mp c.cl
  unfold clsIn at hcD
  split at hcD
  ·rename_i c' d' cd' sl' ho
   intro A' Q' E' s' k q
   unfold isType loadHead
   exact wpAny_bind (wpAny_loadPart (k _ _ (X _ _ ho)) (wpAny_pure q))
  ·cases hcD
 ne:=fun h tp dd its n sl X htp=>by
  obtain ⟨cdD,hcD⟩:=qbN.mp c.cl
  refine Bool.eq_false_iff.mpr fun q=>?_
  have e:C=tp:=Value.ref.inj (beq_iff_eq.mp q)
  subst e
  unfold clsIn at hcD
  split at hcD
  ·rename_i c' d' cd' sl' ho
   have z:=(X _ _ ho).symm.trans htp
   cases z
  ·cases hcD
 ca:=fun X I k=>Xm c X I k
end
def excNames:List Str:=["NoBoard","NoLine","NoSwitching","NoNumber","Unlike","NoNet","NoPlace","NoText","NoRow","TooMany","SwitchError"]
def Bc (n n':Str):Bool:=n==n'||n'=="SwitchError"
def NP (K:Frag) (C:Addr):Bool:=
 findIn K (.ref C) "__getattribute__"==some (some (.builtin "BaseException.__getattribute__"))&&findIn K (.ref C) "__getattr__"==some none&&(clsIn K C).isSome&&
 findIn K (.ref C) "__class__"==some (some (.builtin "object.__class__"))&&specialIn K (.builtin "object.__class__") "__get__"==some (some (.builtin "getset_descriptor.__get__"))&&
 takesIn K (.builtin "object.__class__")==some true&&mroIn K C (.type "object")==some true&&mroIn K C (.type "BaseException")==some true
theorem Xo {K:Frag} {C:Addr} (h:NP K C=true):EC K C:=by
 unfold NP at h
 simp only [CN,beq_iff_eq] at h
 obtain ⟨⟨⟨⟨⟨⟨⟨h1,h2⟩,h3⟩,h4⟩,h5⟩,h6⟩,h7⟩,h8⟩:=h
 exact ⟨h1,h2,h3,h4,h5,h6,h7,h8⟩
def E3 (K:Frag) (n:Str):Option Addr:=match nsIn K mainGlobals n with
 |some (some (.ref C))=>some C
 |_=>none
theorem RB {K:Frag} {n:Str} {C:Addr} (h:E3 K n=some C):nsIn K mainGlobals n=some (some (.ref C)):=by
 unfold E3 at h
 split at h
 ·rename_i e;cases h;exact e
 ·cases h
def NQ (K:Frag) (n:Str) (C S:Addr):Bool:=
 NP K C&&kitOne K (.ref C) (.type "ValueError")==some true&&(n=="TooMany"||Nv K C Jz "ValueError.__new__")&&exmOne K (.ref C) (.ref S)==some true&&
  excNames.all fun n'=>match E3 K n' with
   |some C'=>kitOne K (.ref C) (.ref C')==some (Bc n n')
   |none=>false
def etOk (K:Frag):Bool:=match E3 K "SwitchError" with
 |some S=>excNames.all fun n=>match E3 K n with
  |some C=>NQ K n C S
  |none=>false
 |none=>false
structure ET (K:Frag) (n:Str) (C:Addr):Prop where
 ec:EC K C
 ve:kitOne K (.ref C) (.type "ValueError")=some true
 at_:n≠"TooMany"→Nt K C Jz "ValueError.__new__"
 sw:∀S,nsIn K mainGlobals "SwitchError"=some (some (.ref S))→exmOne K (.ref C) (.ref S)=some true
 sub:∀n' C',n'∈excNames→nsIn K mainGlobals n'=some (some (.ref C'))→kitOne K (.ref C) (.ref C')=some (Bc n n')
theorem Lm {K:Frag} (h:etOk K=true) {n:Str} {C:Addr} (hn:n∈excNames) (hC:nsIn K mainGlobals n=some (some (.ref C))):ET K n C:=by
 unfold etOk at h
 split at h
 ·rename_i S hS
  have h1:=qaN.mp h n hn
  have e:E3 K n=some C:=by unfold E3;rw [hC]
  rw [e] at h1
  have h1:NQ K n C S=true:=h1
  unfold NQ at h1
  simp only [CN,beq_iff_eq,Bool.or_eq_true] at h1
  obtain ⟨⟨⟨⟨a1,a2⟩,a3⟩,a4⟩,a5⟩:=h1
  refine ⟨Xo a1,a2,fun z=>WN (a3.resolve_left z),fun S' hS'=>?_,fun n' C' hn' hC'=>?_⟩
  ·have:=RB hS
   rw [this] at hS'
   cases hS'
   exact a4
  ·have z:=qaN.mp a5 n' hn'
   have e':E3 K n'=some C':=by unfold E3;rw [hC']
   rw [e'] at z
   exact beq_iff_eq.mp z
 ·cases h
section
variable {X:Cx} {E:XK}
theorem RC {x:Str} {a:Addr} {pos:Pos} (hg:Gl X x) (hn:nsIn X.K mainGlobals x=some (some (.ref a))) (hd:(x==("__debug__":Str))=false:=by decide):Ev X E (.Name x pos) (mC (.glo x)):=
 fun pins s σ H Q I z1_=>by obtain ⟨m,ρ,h,hr,er,p⟩:=z1_;exact (Ft I hg (mg_of I.mod.kin I.mod.glob hn) ⟨.ref a,H,I,rfl,p (.ref a) m H (AH _) (.refl _) hr (by simp only [rD,DV];exact ⟨a,rfl,hn⟩)⟩ hd)
def Ij {α:Type}:Out α→Prop
 |.err _ _ _=>False
 |_=>True
theorem Post.noE {α β:Type} {K:Frag} {R:List Addr→Hp→α→β→Prop} {m:List Addr} {H:Hp} {E E':XK} {Q:β→Hp→Prop} {o:Out α} (n:Ij o) (h:Post K R m H E Q o):Post K R m H E' Q o:=by
 cases o with
 |ok a h1=>exact h
 |err C fs h1=>exact False.elim n
 |stuck=>exact h
theorem RD {f:Value} {F:List D→HD→Out D} (hF:∀ds h,Ij (F ds h))
 (hc:∀(pins:List (Addr×Obj)) (s:Shared) (σ:L2.St) (H:Hp) (m:List Addr) (h:HD) (ds:List D) (vs:List V) (us:List Value) (Q:VK),Inv X pins σ H s→HR X.K m h H→DVs X.K m H ds vs→Vals vs us→Post X.K (rD X.K) m H E0 Q (F ds h)→
  wpAny (model X.prog X.w) X.A (call f us) (EP X pins σ Q) X.xe s):CJ X f F:=
 ⟨fun vs H Q=>∃m h ds,HR X.K m h H∧DVs X.K m H ds vs∧Post X.K (rD X.K) m H E0 Q (F ds h),fun pins s σ H vs us Q I r z2_=>by obtain ⟨m,h,ds,hr,rd,q⟩:=z2_;exact (hc pins s σ H m h ds vs us Q I hr rd r q),fun m H h E ds vs Q hr rd q=>⟨m,h,ds,hr,rd,Post.noE (hF ds h) q⟩⟩
def AC:D→D→HD→Out D:=fun x y h=>match x with
 |.exc n _=>(match y with
  |.glo n'=>if n∈excNames∧n'∈excNames then .ok (.bl (Bc n n')) h else .stuck
  |.ty T=>if n∈excNames∧T="ValueError" then .ok (.bl true) h else .stuck
  |_=>.stuck)
 |.edic=>(match y with
  |.ty T=>(match KZ "dict" T with
   |some b=>.ok (.bl b) h
   |none=>.stuck)
  |_=>.stuck)
 |_=>BJ x y h
theorem Xp (pins:List (Addr×Obj)) (s:Shared) (σ:L2.St) (H:Hp) (m:List Addr) (h:HD) (x y:D) (v v':V) (u u':Value) (Q:VK) (I:Inv X pins σ H s) (hr:HR X.K m h H) (rx:DV X.K m H x v) (ry:DV X.K m H y v') (r:RelV v u) (r':RelV v' u')
 (q:Post X.K (rD X.K) m H E0 Q (BJ x y h)):wpAny (model X.prog X.w) X.A (call (.builtin "isinstance") [u,u']) (EP X pins σ Q) X.xe s:=by
 unfold BJ at q
 split at q
 ·rename_i T t et
  split at q
  ·rename_i b eb
   simp only [DV] at ry
   subst ry
   cases (show u'=Value.type T from r')
   exact Vd I r (Wf hr rx et) (Qv eb) fun tk=>⟨.bl b,H,I.tok _,rfl,Bj hr q (by simp [DV])⟩
  ·exact q.elim
 ·exact q.elim
theorem Dx (et:etOk X.K=true):CJ X (.builtin "isinstance") (Bq AC):=by
 refine RD (fun ds h=>?_) fun pins s σ H m h ds vs us Q I hr rd r q=>KU rd q fun x y v v' ev rx ry q=>?_
 ·unfold Bq AC BJ
  repeat' split
  all_goals trivial
 ·subst ev
  obtain ⟨u,u',rfl,r1,r2⟩:=Kw r
  unfold AC at q
  split at q
  ·rename_i n fs
   simp only [DV] at rx
   obtain ⟨a,C,da,rfl,hC,ha,_⟩:=rx
   cases (show u=Value.ref a from r1)
   obtain ⟨⟨o,ws,ho,hcl,hdi,hdat⟩,_⟩:=(show ObjOk X.prog X.w H s.heap a (.ext (EL C da a)) from I.hok a _ ha)
   have key:∀(c:Value) (b:Bool),EC X.K C→kitOne X.K (.ref C) c=some b→Q (.bl b) H→wpAny (model X.prog X.w) X.A (call (.builtin "isinstance") [.ref a,c]) (EP X pins σ Q) X.xe s:=by
    intro c b ec e q
    exact kia_one (Xn ec) I.kIn ⟨o,ho,hcl⟩ e (fun z=>nomatch z) fun tk=>⟨.bl b,H,I.tok _,rfl,q⟩
   split at q
   ·rename_i n'
    split at q
    ·rename_i hn
     simp only [DV] at ry
     obtain ⟨C',rfl,hC'⟩:=ry
     cases (show u'=Value.ref C' from r2)
     have t:=Lm et hn.1 hC
     exact key _ _ t.ec (t.sub n' C' hn.2 hC') (Bj hr q (by simp [DV]))
    ·exact q.elim
   ·rename_i T
    split at q
    ·rename_i hn
     simp only [DV] at ry
     subst ry
     cases (show u'=Value.type T from r2)
     obtain ⟨hn,rfl⟩:=hn
     have t:=Lm et hn hC
     exact key _ _ t.ec t.ve (Bj hr q (by simp [DV]))
    ·exact q.elim
   ·exact q.elim
  ·split at q
   ·rename_i T
    split at q
    ·rename_i b eb
     simp only [DV] at rx ry
     obtain ⟨a,rfl,ha⟩:=rx
     subst ry
     cases (show u=Value.ref a from r1)
     cases (show u'=Value.type T from r2)
     obtain ⟨⟨_,o,ep,ho,hx,hd⟩,_⟩:=(show ObjOk X.prog X.w H s.heap a (.ext (PR a)) from I.hok a _ ha)
     exact kia_one kitx_dict I.kIn ⟨o,ho,hx.1⟩ (Qv eb) (fun z=>nomatch z) fun tk=>⟨.bl b,H,I.tok _,rfl,Bj hr q (by simp [DV])⟩
    ·exact q.elim
   ·exact q.elim
  ·exact Xp pins s σ H m h x y v v' u u' Q I hr rx ry r1 r2 q
end
section
variable {X:Cx} {E:XK}
def FE (chk:D→HD→Out D) (op:D→D→HD→Out D) (f g:ME):ME:=fun ρ h=>((f ρ h).bind chk).bind fun x h1=>(g ρ h1).bind fun y h2=>op x y h2
def RE (X:Cx) (T:String) (x:V) (H:Hp):Prop:=∀(pins:List (Addr×Obj)) (σ:L2.St) (s:Shared) (u:Value),Inv X pins σ H s→RelV x u→s.TypeIs u T∧∀a,u=.ref a→∃ob,s.heap.get? a=some ob∧ob.dict=none
def Xq (X:Cx) (T:String) (r:V→List V→Hp→VK→Prop) (to:TE) (t:TA):TE:=fun σ H Q=>to σ H fun x H1=>RE X T x H1∧t σ H1 fun xs H2=>r x xs H2 Q
theorem Xr {o e:Expr} {es:List Expr} {to:TE} {t:TA} {name:Str} {apos cpos:Pos} {T id:String} {r:V→List V→Hp→VK→Prop} (pa:PlainAttrs T) (slot:Slot T name id) (hty:typeOf (.builtin id)=pure (.type "method_descriptor")) (hm:MN X id r) (ho:PE X o to) (ha:PA X (e::es) t)
 (hbase:attributeBase o name X.env (eval o X.env)=eval o X.env:=by rfl)
 (hfew:((backTo cpos (starEach (e::es) X.env)).all (fun x=>!x.1)&&(backToKw cpos (keywordEach [] X.env)).all (fun x=>x.1.isSome)
  &&decide ((e::es).length+([]:List Keyword).length+(if ([]:List Keyword).isEmpty then 0 else 1)<30))=true:=by rfl)
 (hline:(apos.endLine==cpos.line)=true:=by rfl) (hs:starEach (e::es) X.env=(false,eval e X.env)::starEach es X.env:=by rfl) (hplain:(backTo cpos (starEach es X.env)).any (·.1)=false:=by rfl):
 PE X (.Call (.Attribute o name apos) (e::es) [] cpos) (Xq X T r to t):=by
 intro pins s σ H Q I h
 refine wpAny_Call_method_late hbase hfew hline rfl (Aw (ho pins s σ H _ I h) fun v s1 z1_=>?_)
 obtain ⟨x,H1,I1,r1,ty,q1⟩:=z1_
 obtain ⟨h1,h2⟩:=ty pins σ s1 v I1 r1
 refine ⟨T,id,pa,slot,hty,h1,h2,?_⟩
 have hA:=ha cpos pins s1 σ H1 _ I1 q1
 rw [hs] at hA ⊢
 refine Calls.callWith_builtin (by show (false||(backTo cpos (starEach es X.env)).any (·.1))=false;rw [hplain]<;>rfl) (Calls.evalArgs_plain ?_)
 exact Aw hA fun us s2 z2_=>by obtain ⟨vs,H2,I2,r2,q2⟩:=z2_;exact (hm pins s2 σ H2 x vs v us Q I2 r1 r2 q2)
structure RF (X:Cx) (T:String) (chk:D→HD→Out D):Prop where
 two:∀x h,chk x h=.ok x h∨chk x h=.stuck
 ty:∀m H h x v,HR X.K m h H→DV X.K m H x v→chk x h=.ok x h→RE X T v H
def NR (X:Cx) (id:String) (op:D→D→HD→Out D):Prop:=
 ∀(pins:List (Addr×Obj)) (s:Shared) (σ:L2.St) (H:Hp) (m:List Addr) (h:HD) (x y:D) (v yv:V) (u uy:Value) (Q:VK),Inv X pins σ H s→HR X.K m h H→DV X.K m H x v→DV X.K m H y yv→RelV v u→RelV yv uy→Post X.K (rD X.K) m H E0 Q (op x y h)→
  wpAny (model X.prog X.w) X.A (call (.builtin id) [u,uy]) (EP X pins σ Q) X.xe s
theorem Ln {o e:Expr} {f g:ME} {name:Str} {T id:String} {chk:D→HD→Out D} {op:D→D→HD→Out D} {apos cpos:Pos} (pa:PlainAttrs T) (slot:Slot T name id) (hty:typeOf (.builtin id)=pure (.type "method_descriptor"))
 (hc:RF X T chk) (hn:∀x y h,Ij (op x y h)) (hm:NR X id op) (ho:Ev X E o f) (he:Ev X E e g)
 (hbase:attributeBase o name X.env (eval o X.env)=eval o X.env:=by rfl)
 (hfew:((backTo cpos (starEach [e] X.env)).all (fun x=>!x.1)&&(backToKw cpos (keywordEach [] X.env)).all (fun x=>x.1.isSome)
  &&decide ([e].length+([]:List Keyword).length+(if ([]:List Keyword).isEmpty then 0 else 1)<30))=true:=by rfl)
 (hline:(apos.endLine==cpos.line)=true:=by rfl) (hs:starEach [e] X.env=(false,eval e X.env)::starEach [] X.env:=by rfl) (hplain:(backTo cpos (starEach [] X.env)).any (·.1)=false:=by rfl):
 Ev X E (.Call (.Attribute o name apos) [e] [] cpos) (FE chk op f g):=by
 have hr:MN X id (fun v vs H Q=>∃m h x y yv,vs=[yv]∧HR X.K m h H∧DV X.K m H x v∧DV X.K m H y yv∧Post X.K (rD X.K) m H E0 Q (op x y h)):=by
  rintro pins s σ H v vs u us Q I r rs ⟨m,h,x,y,yv,ev,hr,rx,ry,q⟩
  subst ev
  obtain ⟨uy,rfl,r2⟩:=EH rs
  exact hm pins s σ H m h x y v yv u uy Q I hr rx ry r r2 q
 refine B3 (Xr pa slot hty hr ho (Ad he Af hs) hbase hfew hline hs hplain) fun σ H Q z3_=>?_
 obtain ⟨m,ρ,h,hr,er,p⟩:=z3_
 refine ⟨m,ρ,h,hr,er,?_⟩
 unfold FE at p
 rw [Out.bind_assoc] at p
 refine Post.bind p fun x h1 v m1 H1 eo p1 k1 hr1 r1 q1=>?_
 clear eo
 rcases hc.two x h1 with ec |ec
 ·rw [ec] at q1
  simp only [Out.bind_ok] at q1
  refine ⟨hc.ty m1 H1 h1 x v hr1 r1 ec,m1,ρ,h1,hr1,er.keep p1 k1,?_⟩
  have q2:Post X.K (rD X.K) m1 H1 E Q ((Aa g Ac ρ h1).bind fun ys h2=>match ys with
   |[y]=>op x y h2
   |_=>.stuck):=by
   unfold Aa Ac
   rw [Out.bind_assoc]
   exact q1
  refine Post.bind q2 fun ys h2 vs m2 H2 eo p2 k2 hr2 r2 q3=>?_
  clear eo
  split at q3
  ·rename_i y
   simp only [DP,DVs] at r2
   obtain ⟨yv,w,rfl,ry,rfl⟩:=r2
   exact ⟨m2,h2,x,y,yv,rfl,hr2,DV.keep p2 k2 r1,ry,Post.noE (hn x y h2) q3⟩
  ·exact q3.elim
 ·rw [ec] at q1
  exact q1.elim
theorem JC:RF X "list" BW where
 two:=fun x h=>by
  unfold BW
  split
  ·split
   ·exact .inl rfl
   ·exact .inr rfl
  ·exact .inr rfl
 ty:=fun m H h x v hr r e=>by
  unfold BW at e
  split at e
  ·rename_i l
   split at e
   ·rename_i ds el
    simp only [DV] at r
    obtain ⟨a,rfl,ha⟩:=r
    obtain ⟨ws,hv,dv⟩:=hr.cells l _ a el ha
    exact fun pins σ s u I ru=>PK I ru (.inl ⟨rfl,ws,SqL.of hv⟩)
   ·cases e
  ·cases e
def FG (x:V) (xs:List V):Nat:=xs.countP fun y=>EK y x
theorem RG {x:V}:∀{xs:List V} {us:List Value},Vals xs us→xs.all Eb=true→us.countP (GE x)=FG x xs
 |_,_,.nil,_=>rfl
 |y::xs,u::us,.cons r t,f=>by
  rw [List.all_cons,CN] at f
  unfold FG
  rw [List.countP_cons,List.countP_cons,MP r f.1,RG t f.2]
  rfl
def Ik:D→D→HD→Out D:=fun x y h=>match BC x h with
 |none=>.stuck
 |some ds=>match Dq y,A0 (ds.map Dq) with
  |some v,some vs=>.ok (.int (FG v vs)) h
  |_,_=>.stuck
theorem Xs (x y:D) (h:HD):Ij (Ik x y h):=by
 unfold Ik
 repeat' split
 all_goals trivial
def E4:D→D→HD→Out D:=fun x y h=>(BW x h).bind fun _ _=>Ik x y h
theorem NS:NR X "list.count" E4:=by
 intro pins s σ H m h x y v yv u uy Q I hr rx ry r r2 q
 unfold E4 at q
 rcases (JC (X:=X)).two x h with ec |ec
 ·rw [ec] at q
  simp only [Out.bind_ok] at q
  unfold BW at ec
  split at ec
  ·rename_i l
   split at ec
   ·rename_i ds el
    unfold Ik BC at q
    simp only [el] at q
    split at q
    ·rename_i w ws e1 e2
     simp only [DV] at rx
     obtain ⟨a,rfl,ha⟩:=rx
     cases (show u=Value.ref a from r)
     obtain ⟨vs,hv,dv⟩:=hr.cells l _ a el ha
     obtain ⟨h1,h2⟩:=MY ry e1
     obtain ⟨h3,h4⟩:=MZ dv e2
     subst h1 h3
     obtain ⟨z,its,n,rr,hl,e⟩:=I.lstM hv
     refine call_meets F.slot_list_count ⟨_,e,rfl⟩ F.entry_list_count (F.args_list_count_2 _ _) (PySem.SeqAt.list_countAt a its.toArray n none #[] uy (GE yv)) ⟨e,fun w hw=>MQ r2 h2 rr h4 w (by simpa using hw),?_⟩
     refine ⟨.int _,H,I.tok _,⟨_,rfl⟩,?_⟩
     rw [show (its.toArray.toList.countP (GE yv))=FG yv vs by rw [←RG rr h4]]
     exact Bj hr q (by simp [DV])
    ·exact q.elim
   ·cases ec
  ·cases ec
 ·rw [ec] at q;exact q.elim
def Lo (x:V) (xs:List V):Option Nat:=xs.findIdx? fun y=>EK y x
def GQ:D→D→HD→Out D:=fun x y h=>match x with
 |.loc l=>(match h[l]? with
  |some (.lst ds)=>(match Dq y,A0 (ds.map Dq) with
   |some v,some vs=>(match Lo v vs with
    |some j=>.ok (.int j) h
    |none=>.stuck)
   |_,_=>.stuck)
  |_=>.stuck)
 |_=>.stuck
theorem Xu (x y:D) (h:HD):Ij (GQ x y h):=by
 unfold GQ
 repeat' split
 all_goals trivial
theorem NT (x y:D) (h:HD):Ij (E4 x y h):=by
 unfold E4
 rcases (show BW x h=.ok x h∨BW x h=.stuck by
  unfold BW
  split
  ·split
   ·exact .inl rfl
   ·exact .inr rfl
  ·exact .inr rfl) with e |e
 ·rw [e];exact Xs x y h
 ·rw [e];trivial
theorem RH {xs:List V} {us:List Value} (r:Vals xs us) {x:V} (f:xs.all Eb=true) {j:Nat} (hj:j<us.length):GE x us[j]=EK (xs[j]'(by rw [r.length];exact hj)) x:=by
 have hx:j<xs.length:=by rw [r.length];exact hj
 obtain ⟨u,e,ru⟩:=r.get (Bb hx)
 rw [Bb hj] at e
 cases e
 exact MP ru (qaN.mp f _ (Hz hx))
theorem Xv:NR X "list.index" GQ:=by
 intro pins s σ H m h x y v yv u uy Q I hr rx ry r r2 q
 unfold GQ at q
 split at q
 ·rename_i l
  split at q
  ·rename_i ds el
   split at q
   ·rename_i w ws e1 e2
    split at q
    ·rename_i j ej
     simp only [DV] at rx
     obtain ⟨a,rfl,ha⟩:=rx
     cases (show u=Value.ref a from r)
     obtain ⟨vs,hv,dv⟩:=hr.cells l _ a el ha
     obtain ⟨h1,h2⟩:=MY ry e1
     obtain ⟨h3,h4⟩:=MZ dv e2
     subst h1 h3
     obtain ⟨z,its,n,rr,hl,e⟩:=I.lstM hv
     unfold Lo at ej
     rw [List.findIdx?_eq_some_iff_getElem] at ej
     obtain ⟨hj,hit,hno⟩:=ej
     have hji:j<its.length:=by rw [←hl];exact hj
     have hsl:(j:Int)<2^63 - 1:=by have:=HG;omega
     refine call_meets F.slot_list_index ⟨_,e,rfl⟩ F.entry_list_index (F.args_list_index_2 _ _) (PySem.SeqAt.list_indexAt a its.toArray n none #[] uy (GE yv) j (by simpa using hji) hsl ?_ ?_) ⟨e,fun w hw=>MQ r2 h2 rr h4 w (by simpa using hw),?_⟩
     ·have:=RH rr h4 (x:=yv) hji
      simp only [List.getElem_toArray]
      rw [this];exact hit
     ·intro k hk hkj
      have hk':k<its.length:=by simpa using hk
      have:=RH rr h4 (x:=yv) hk'
      simp only [List.getElem_toArray]
      rw [this]
      simpa using hno k hkj
     ·exact ⟨.int _,H,I.tok _,⟨_,rfl⟩,Bj hr q (by simp [DV])⟩
    ·exact q.elim
   ·exact q.elim
  ·exact q.elim
 ·exact q.elim
end
theorem Xw {pos:Pos} {l r:List Value} {cv:Value} (_:TriplesOk l) (e:codeAmong pos l=some cv):codeAmong pos (l++r)=some cv:=by
 rename_i ht
 clear ht
 fun_induction codeAmong pos l with
 |case1 line t col u c rest h=>rw [Gy,Gy,Gy,codeAmong,if_pos h];exact e
 |case2 line t col u c rest h ih=>rw [Gy,Gy,Gy,codeAmong,if_neg h];exact ih e
 |case3=>cases e
theorem RI {pos p2:Pos} {c cv:Value}:∀{l:List Value},TriplesOk l→codeAmong p2 (l++[rawInt pos.line,rawInt pos.col,c])=some cv→codeAmong p2 l=some cv∨cv=c
 |[],_,e=>by
  simp only [HA,rawInt,codeAmong] at e
  split at e
  ·exact .inr (Option.some.inj e).symm
  ·cases e
 |.int i t::.int j u::c'::l,h,e=>by
  simp only [codeAmong,Gy] at e ⊢
  split at e
  ·rename_i z
   rw [if_pos z];exact .inl e
  ·rename_i z
   rw [if_neg z];exact RI (by simpa [TriplesOk] using h) e
theorem HR.tab {K:Frag} {m:List Addr} {h:HD} {H H':Hp} {P:Addr} (r:HR K m h H) (k:Kp H H') (s:∀b,b≠P→H b≠none→H' b=H b) (t:TabIs K H' P) (tt:TabIs K H P):HR K m h H':=by
 refine ⟨r.len,r.nd,fun l c a e q=>?_⟩
 have hm:a∈m:=Gw q
 have hn:H a≠none:=r.mem hm
 have:=r.cells l c a e q
 cases c with
 |lst ds=>
  obtain ⟨vs,e1,e2⟩:=this
  have ha:a≠P:=by
   rintro rfl
   obtain ⟨_,ps,z,_⟩:=tt
   rw [z] at e1;cases e1
  exact ⟨vs,by rw [s a ha hn];exact e1,e2.keep (AH _) k⟩
 |tab=>
  by_cases ha:a=P
  ·subst ha;exact t
  ·exact TabIs.keep this k (s a ha hn)
structure LamX (X:Cx) (c P:Addr):Prop where
 code:X.env.code=.ref c
 tp:tabP X.K=some (c,P)
 hd:codeHdIn X.K c P=true
 qual:X.env.qual="law.<locals>."
 bm:∃bm o,X.mg "__builtins__"=some (.ref bm)∧bm≠builtinsNs∧X.base.get? bm=some o∧o.cls=.type "module"∧o.dict=some builtinsNs∧o.data=.plain
section
variable {X:Cx} {E:Value→Shared→Prop} {c P:Addr} {pins:List (Addr×Obj)} {σ:L2.St} {H:Hp} {s:Shared}
theorem LamX.builtins (L:LamX X c P) (I:Inv X pins σ H s) (t:TabIs X.K H P):s.heap.BuiltinsAt X.mg P:=by
 obtain ⟨bm,o,h1,h2,h3,h4,h5,h6⟩:=L.bm
 obtain ⟨e,n⟩:=I.bs bm o h3
 refine ⟨bm,o,h1,h2,fun z=>?_,fun z=>?_,e,h4,h5,h6⟩
 ·obtain ⟨og,es,ep,e1,e2,_⟩:=I.mod.glob
  rw [z,e1] at h3
  cases h3
  rw [e2] at h6;cases h6
 ·obtain ⟨_,ps,q,_⟩:=t
  rw [z,q] at n;cases n
abbrev By:Str:="law.<locals>.<lambda>"
theorem Xx {params:Arguments} {body:Expr} {scope:Scope} {pos:Pos} {clos:List (Str×Addr)} {Q:Value→Shared→Prop} {A:Around} (L:LamX X c P) (I:Inv X pins σ H s) (t:TabIs X.K H P) (hdef:defaultsOf params X.env=([],[])) (hcl:closureFor scope X.env=pure clos)
 (k:∀(f' c':Addr) (ctv pm:Value) (h':Heap) (tk:Nat) (H':Hp),Inv X pins σ H' {s with heap:=h',toks:=tk}→Kp H H'→TabIs X.K H' P→(∀b,b≠P→H b≠none→H' b=H b)→(∀b o,b≠P→s.heap.get? b=some o→h'.get? b=some o)→s.heap.objs.size≤f'→
  H' f'=none→h'.get? f'=some (kla_obj "<lambda>" By params body scope clos pm c' ctv)→(∃ps,H' P=some (.tbl ps)∧codeAmong pos ps.toList=some (.ref c'))→Q (.ref f') {s with heap:=h',toks:=tk}):
 wpAny (model X.prog X.w) A (eval (.Lambda params body scope pos) X.env) Q E s:=by
 have hB:=L.builtins I t
 have hg:s.heap.Ns mainGlobals X.mg:=I.mod.glob.keeps I.bk
 have hCd:CodeHd s.heap c P:=codeHd_of_K I.kIn L.hd
 obtain ⟨ht1,ps,hps,htr,hcs⟩:=id t
 have hP:s.heap.get? P=some (tabObj ps):=I.hok P _ hps
 have hgP:mainGlobals≠P:=fun z=>by
  obtain ⟨og,es,ep,e1,e2,_⟩:=I.mod.glob
  have:=(I.bs _ _ e1).2
  rw [z,hps] at this;cases this
 have hq:X.env.qual++"<lambda>"=By:=by rw [L.qual];decide +kernel
 refine kla_eval hdef ?_
 rw [hq]
 cases hc:codeAmong pos ps.toList with
 |some cv=>
  obtain ⟨c',rfl,hx⟩:=hcs pos cv hc
  refine kla_makeFunctionHit (mg:=X.mg) hcl I.ok.glob hg L.code hCd hP htr hc hB fun ctv h' tk hk hsz=>?_
  have hk2:∀b o,s.heap.get? b=some o→(h'.push (kla_obj "<lambda>" By params body scope clos ((X.mg "__name__").getD .none) c' ctv)).get? b=some o:=fun b o e=>AJ _ (hk b o e)
  exact k _ c' ctv _ _ tk H (I.kept hk2) (.refl _) t (fun _ _ _=>rfl) (fun b o _ e=>hk2 b o e) hsz (I.hok.fresh hsz) (Bz _ rfl) ⟨ps,hps,hc⟩
 |none=>
  refine kla_makeFunction (mg:=X.mg) hcl I.ok.glob hg L.code hCd hP htr hc hgP hB fun c' ctv h' tk hx hge hlt hrec htb=>?_
  generalize ho:kla_obj "<lambda>" By params body scope clos ((X.mg "__name__").getD .none) c' ctv=fo
  have hk2:∀b o,b≠P→s.heap.get? b=some o→(h'.push fo).get? b=some o:=fun b o hb e=>AJ _ (hx b o hb e)
  have hPs:P<s.heap.objs.size:=AE hP
  have hc'P:c'≠P:=Fw (AX hPs hge)
  have hc'n:H c'=none:=I.hok.fresh hge
  generalize hps':ps++#[rawInt pos.line,rawInt pos.col,.ref c']=ps' at htb
  have tl:ps'.toList=ps.toList++[rawInt pos.line,rawInt pos.col,.ref c']:=by rw [←hps'];simp
  have hH:∀b,b≠P→H b≠none→Ak (Ak H P (.tbl ps')) c' (.ext (HI By c')) b=H b:=fun b hb hn=>by
   have:b≠c':=fun z=>hn (z ▸ hc'n)
   rw [Al this,Al hb]
  have hHP:Ak (Ak H P (.tbl ps')) c' (.ext (HI By c')) P=some (.tbl ps'):=by rw [Al (Ne.symm hc'P),Bo]
  have kp:Kp H (Ak (Ak H P (.tbl ps')) c' (.ext (HI By c'))):=fun b o e i=>by
   have:b≠P:=fun z=>by rw [z,hps] at e;cases e;cases i
   rw [hH b this (by rw [e];simp)];exact e
  have lt':∀b o,s.heap.get? b=some o→b≠c':=fun b o e=>BD (AX (AE e) hge)
  have un:Un X.fs [] H (Ak (Ak H P (.tbl ps')) c' (.ext (HI By c'))) s.heap (h'.push fo):=by
   have neP:∀{b},H b=none→b≠P:=fun {b} n z=>by rw [z,hps] at n;cases n
   refine ⟨fun b o e n _ _=>hk2 b o (neP n) e,fun b o e n _ _=>⟨o.slots,hk2 b o (neP n) e⟩,fun b o e n _=>?_,fun b o e _=>?_,fun b xs e=>?_,fun b o u e=>?_,fun b qs e=>?_⟩
   ·rw [Al (lt' b o e),Al (neP n)];exact n
   ·by_cases hb:b=P
    ·subst hb;exact ⟨_,AJ _ htb⟩
    ·exact ⟨o,hk2 b o hb e⟩
   ·rw [hH b (fun z=>by rw [z,hps] at e;cases e) (by rw [e];simp)];exact e
   ·rw [hH b (fun z=>by rw [z,hps] at e;cases e) (by rw [e];simp)];exact e
   ·by_cases hb:b=P
    ·subst hb
     rw [hps] at e;cases e
     exact ⟨_,by rw [hHP,←hps']⟩
    ·exact ⟨#[],by rw [hH b hb (by rw [e];simp),e];simp⟩
  have hok:HOk X.prog X.w (Ak (Ak H P (.tbl ps')) c' (.ext (HI By c'))) (h'.push fo):=by
   intro b o e
   by_cases hb:b=c'
   ·subst hb
    rw [Bo] at e
    cases e
    have r1:(h'.push fo).CodeRec (.ref b) By:=hrec.keeps fun b o e=>AJ _ e
    refine ⟨r1,?_,fun h1 h2 z1 z2=>?_⟩
    ·obtain ⟨c2,oc,vs,t2,e1,e2,_⟩:=r1
     cases e1
     exact ⟨oc,e2⟩
    ·obtain ⟨c2,oc,vs,t2,e1,e2,e3⟩:=z1
     cases e1
     exact ⟨_,oc,vs,t2,rfl,z2 _ e2,e3⟩
   ·by_cases hbP:b=P
    ·subst hbP
     rw [hHP] at e
     cases e
     exact AJ _ htb
    ·rw [Al hb,Al hbP] at e
     refine (I.hok b o e).stay (fun d u hd q=>hk2 d u ?_ q) (fun d q=>?_) fun d xs q=>?_
     ·rcases hd with rfl |hd
      ·exact hbP
      ·exact fun z=>by rw [z,hps] at hd;cases hd
     ·rw [hH d (fun z=>by rw [z,hps] at q;cases q) (by rw [q];simp)];exact q
     ·rw [hH d (fun z=>by rw [z,hps] at q;cases q) (by rw [q];simp)];exact q
  have hsz:s.heap.objs.size≤h'.objs.size:=HC (Nat.lt_of_le_of_lt hge hlt)
  refine k _ c' ctv ((X.mg "__name__").getD .none) _ tk _ (I.un un hok) kp ⟨ht1,ps',hHP,?_,fun p2 cv e=>?_⟩ hH hk2 hsz ?_ (by rw [←ho];exact Bz _ rfl) ⟨ps',hHP,?_⟩
  ·rw [tl];exact TriplesOk_snoc _ _ _ _ htr
  ·rw [tl] at e
   rcases RI htr e with z |z
   ·obtain ⟨c2,z1,z2⟩:=hcs p2 cv z
    exact ⟨c2,z1,kp _ _ z2 rfl⟩
   ·exact ⟨c',z,Bo⟩
  ·have n1:h'.objs.size≠c':=Fw hlt
   have n2:h'.objs.size≠P:=Fw (AX hPs hsz)
   rw [Al n1,Al n2];exact I.hok.fresh hsz
  ·rw [tl];exact codeAmong_snoc _ htr hc
end
def FH (P:Program) (w:World) (K:Frag) (mg:Str→Option Value) (base:Heap) (N:List Str) (scope:Scope) (a:Addr) (cd:Value) (cl:List (Str×Addr)) (A:Around) (outer:List Env) (s:Shared) (H:Hp) (E:XK):Cx where
 prog:=P
 w:=w
 K:=K
 mg:=mg
 base:=base
 A:=A.deeper (envX By scope s.heap.objs.size a cd cl)
 N:=N
 s₀:=s
 H₀:=H
 env:=envX By scope s.heap.objs.size a cd cl
 outer:=outer
 stack:=envX By scope s.heap.objs.size a cd cl::outer
 ex:=[]
 calm:=true
 fn:=fun _=>false
 pn:=[]
 xe:=fun e s'=>wpAny (model P w) (A.deeper (envX By scope s.heap.objs.size a cd cl)) (leaving (envX By scope s.heap.objs.size a cd cl) e) (fun _ s''=>As P w K outer H s E e s'') (fun e' s''=>As P w K outer H s E e' s'') s'
theorem Xy {P:Program} {w:World} {K:Frag} {mg:Str→Option Value} {base:Heap} {N:List Str} {scope:Scope} {a:Addr} {cd:Value} {cl:List (Str×Addr)} {A:Around} {outer:List Env} {s:Shared} {H:Hp} {E:XK}:
 Lv (FH P w K mg base N scope a cd cl A outer s H E) E:=⟨fun _ _ h=>h,rfl,rfl,rfl⟩
theorem RJ {P:Program} {w:World} {K:Frag} {mg:Str→Option Value} {base:Heap} {N:List Str} {scope:Scope} {a:Addr} {cd:Value} {cl:List (Str×Addr)} {A:Around} {outer:List Env} {s:Shared} {H:Hp} {E:XK}:
 EJ (As P w K) (FH P w K mg base N scope a cd cl A outer s H E) E:=Nr Xy
structure JD (h:Heap) (H:Hp) (outer:List Env) (N:List Str) (scope:Scope) (cl:List (Str×Addr)) (vs:List V):Prop where
 len:vs.length=N.length
 inj:∀x y c,cl.lookup x=some c→cl.lookup y=some c→x=y
 has:∀x,scope.names.lookup x=some .free→∃c,cl.lookup x=some c
 cell:∀x c,cl.lookup x=some c→(∃v,h.IsCell c v)∧H c=none∧c∉frs outer
 val:∀(i:Nat) (x:Str) (v:V),N[i]?=some x→vs[i]?=some v→scope.names.lookup x=some .free∧∃c u,cl.lookup x=some c∧h.IsCell c (some u)∧RelV v u
structure LamSc (scope:Scope):Prop where
 kind:scope.kind=.function
 co:scope.isCoroutine=false
 gen:scope.isGenerator=false
 only:(scope.names.all fun y=>y.2 != .cell)=true
theorem LamSc.nocell {scope:Scope} (S:LamSc scope):∀x∈scope.names,x.2≠.cell:=fun x hx e=>by
 have:=qaN.mp S.only x hx
 rw [e] at this
 simp at this
section
variable {P:Program} {w:World} {K:Frag} {mg:Str→Option Value} {base:Heap} {N:List Str} {scope:Scope} {a c':Addr} {pm ctv:Value} {params:Arguments} {body:Expr} {cl:List (Str×Addr)} {A:Around} {outer:List Env} {s:Shared} {H:Hp} {E:XK} {vs:List V}
theorem Xz {cd:Value} {h1:Heap} {t1:Nat} (S:LamSc scope) (hd:A.handled=none) (e0:Env0 P w K mg base A outer s H) (C:JD s.heap H outer N scope cl vs) (ns:h1.Ns s.heap.objs.size (fun _=>none)) (hk:∀b o,s.heap.get? b=some o→h1.get? b=some o):
 Inv (FH P w K mg base N scope a cd cl A outer s H E) [] (vs.map some) H {s with heap:=h1,toks:=t1}:=by
 have noA:∀b:Addr,b∉(FH P w K mg base N scope a cd cl A outer s H E).ex:=fun b z=>absurd (show b∈([]:List Addr) from z) (by simp)
 refine ⟨⟨e0.mod,S.kind,rfl,rfl,AM _,C.inj,fun x hx=>?_,fun x c hf=>(by cases hf),fun _=>hd,Around.frames_deeper e0.frames,.inr ⟨rfl,rfl⟩,fun b z=>absurd z (noA b),e0.bs,e0.bsz,fun b _ _=>noA b,fun b z=>absurd z (noA b),e0.funs,e0.frf⟩,
  rfl,e0.bare,Un.kept hk,⟨_,ns,fun i x v e1 e2 _=>?_⟩,fun x c e=>?_,e0.hok.fresh (AM _),fun x c e=>(C.cell x c e).2.1,fun p hp=>absurd (show p∈([]:List (Addr×Obj)) from hp) (by simp),e0.hok.kept hk,?_⟩
 ·have hx':scope.names.lookup x=some .cell∨scope.names.lookup x=some .free:=hx
  rcases hx' with z |z
  ·exact absurd rfl (S.nocell _ (mem_of_lookup z))
  ·exact C.has x z
 ·rw [Ca] at e2
  cases ev:vs[i]? with
  |none=>rw [ev] at e2;cases e2
  |some v'=>
   rw [ev] at e2
   cases e2
   obtain ⟨hf,c,u,e3,e4,r⟩:=C.val i x v e1 ev
   exact ⟨u,r,.inr ⟨.inr hf,c,e3,e4.keeps hk⟩⟩
 ·obtain ⟨⟨v,q⟩,_⟩:=C.cell x c e
  exact ⟨v,q.keeps hk⟩
 ·show (vs.map some).length=N.length
  rw [Cm];exact C.len
theorem XA {k:Nat} {f:ME} {Q:VK} (S:LamSc scope) (hr:Room (k+1) A) (e0:Env0 P w K mg base A outer s H) (C:JD s.heap H outer N scope cl vs) (ho:s.heap.get? a=some (kla_obj "<lambda>" By params body scope cl pm c' ctv)) (hcd:s.heap.CodeRec (.ref c') By)
 (hbind:bindArgs (kla_fn "<lambda>" By params body scope cl pm (.ref c') ctv) ⟨[],[]⟩=pure [])
 (hb:Room k (A.deeper (envX By scope s.heap.objs.size a (.ref c') cl))→Ev (FH P w K mg base N scope a (.ref c') cl A outer s H E) E body f)
 (q:∃m ds h,HR K m h H∧DVs K m H ds vs∧Post K (rD K) m H E Q (f (ds.map some) h)):codeAny (model P w) A (.call (.ref a) ⟨[],[]⟩) (CR (As P w K) outer P w H s Q E) s:=by
 refine kla_callFunE hr.depth ho rfl S.co S.gen rfl hcd ?_
 rw [hbind]
 have lim:s.heap.NoLimit:=e0.mod.nolimit.keeps fun b o e=>(e0.bs b o e).1
 refine wpAny_pure (wpAny_newFunctionEnv S.nocell (fun y hy=>by cases hy) (fun h₁ hns hsb=>⟨lim.fresh _ hsb,?_⟩) S.kind)
 have hk₁:∀b o,s.heap.get? b=some o→h₁.get? b=some o:=fun b o e=>hsb.extBut b o (BG (AE e)) (AJ _ e)
 have I:Inv (FH P w K mg base N scope a (.ref c') cl A outer s H E) [] (vs.map some) H {s with heap:=h₁,toks:=s.toks+0}:=Xz S hr.hd e0 C hns hk₁
 obtain ⟨m,ds,h,hr1,r,p⟩:=q
 have er:ER K m H (ds.map some) (vs.map some):=by
  refine ⟨by simp [r.len],fun i d e=>?_⟩
  rw [Ca] at e
  cases ed:ds[i]? with
  |none=>rw [ed] at e;cases e
  |some d'=>
   rw [ed] at e
   cases e
   obtain ⟨v,e1,r1⟩:=r.get ed
   exact ⟨v,by rw [Ca,e1];rfl,r1⟩
 refine kla_codeExpr (wpAny_mono (hb (hr.deeper _) [] _ _ H Q I ⟨m,ds.map some,h,hr1,er,p⟩) (fun u s' hs=>?_) fun e s' hs=>hs)
 obtain ⟨v,H',J,rv,qv⟩:=hs
 exact ⟨v,H',J.os,J.bare,J.base,J.hok,rv,qv⟩
end
structure RoomM (k:Nat) (A:Around):Prop where
 dp:A.depth+3*k+5<recursionLimit
 un:A.units+16*k+200<cLine
 gd:A.guards=some []
theorem RoomM.deeper {k:Nat} {A:Around} (r:RoomM (k+1) A) (env:Env):RoomM k (A.deeper env):=
 ⟨by have:=r.dp;show A.depth+1+3*k+5<_;omega,by have:=r.un;show A.units+3+16*k+200<_;omega,r.gd⟩
theorem RoomM.units {k:Nat} {A:Around} (r:RoomM k A):A.units+64<cLine:=by have:=r.un;omega
theorem RoomM.mono {j k:Nat} {A:Around} (r:RoomM k A) (h:j≤k):RoomM j A:=⟨by have:=r.dp;omega,by have:=r.un;omega,r.gd⟩
theorem RoomM.of {k:Nat} {A:Around} (r:Room k A) (e:Option Value):RoomM k (A.mark e):=⟨r.dp,r.un,r.gd⟩
def Il (P:Program) (w:World) (K:Frag) (mg:Str→Option Value) (base:Heap) (N:List Str) (qual:Str) (scope:Scope) (f:Addr) (cd:Value) (A:Around) (outer:List Env) (s:Shared) (H:Hp):Cx:=
 {AI PP P w K mg base N qual scope f cd A outer s H E0 with calm:=false,xe:=fun _ _=>False}
theorem XB {P:Program} {w:World} {K:Frag} {mg:Str→Option Value} {base:Heap} {N ps:List Str} {qual:Str} {scope:Scope} {f:Addr} {cd:Value} {A:Around} {outer:List Env} {s s1:Shared} {H:Hp} {us:List Value} {vs:List V}
 (S:AV N ps scope) (e0:Env0 P w K mg base A outer s H) (hl:vs.length=ps.length) (r:Vals vs us)
 (x:InCallC s s.heap.objs.size (bindL (envOfC qual scope s.heap.objs.size f cd).kindOf (ps.zip us) fun _=>none) (cellsFrom (s.heap.objs.size+1) scope.names []) (bindC (envOfC qual scope s.heap.objs.size f cd).kindOf (ps.zip us) fun _=>none) s1):
 Inv (Il P w K mg base N qual scope f cd A outer s H) [] (start N vs) H s1:=by
 have hpl:ps.length≤N.length:=by have:=congrArg List.length S.pre;rw [List.length_take] at this;omega
 obtain ⟨h1,tk,rfl,hk⟩:=x.done
 have noA:∀b:Addr,b∉(Il P w K mg base N qual scope f cd A outer s H).ex:=fun b z=>absurd (show b∈([]:List Addr) from z) (by simp)
 refine ⟨⟨e0.mod,S.kind,rfl,rfl,AM _,fun y z c h1 h2=>?_,fun y hy=>?_,fun y c _ h=>?_,fun z=>(nomatch z),Around.frames_deeper e0.frames,.inr ⟨rfl,rfl⟩,fun b z=>absurd z (noA b),e0.bs,e0.bsz,fun b _ _=>noA b,fun b z=>absurd z (noA b),e0.funs,e0.frf⟩,
  rfl,e0.bare,Un.kept hk,⟨_,x.toInCall.ns,fun i y v h1 h2 h3=>?_⟩,fun y c h=>⟨_,x.cell y c h⟩,e0.hok.fresh (AM _),fun y c h=>?_,fun p hp=>absurd (show p∈([]:List (Addr×Obj)) from hp) (by simp),e0.hok.kept hk,?_⟩
 ·exact name_of_addr x.apart (PySem.mem_of_lookup h1) (PySem.mem_of_lookup h2)
 ·have hy:scope.names.lookup y=some .cell∨scope.names.lookup y=some .free:=hy
  rcases hy with hy |hy
  ·exact Kx hy
  ·exact absurd rfl (S.nofree _ (PySem.mem_of_lookup hy))
 ·exact HC (x.above y c (PySem.mem_of_lookup h))
 ·have hi:i<vs.length:=by
   unfold L2.start at h2
   by_cases hi:i<vs.length
   ·exact hi
   ·rw [IQ (by simpa using hi)] at h2
    rw [Mn] at h2
    split at h2<;>cases h2
  have ha:vs[i]?=some v:=by
   unfold L2.start at h2
   rw [FP (by simpa using hi),Ca] at h2
   cases e:vs[i]? with
   |none=>rw [e] at h2;cases h2
   |some a=>rw [e] at h2;cases h2;rfl
  obtain ⟨u,hu,rv⟩:=r.get ha
  have hp:ps[i]?=some y:=by
   rw [←S.pre,List.getElem?_take_of_lt (by omega)];exact h1
  have ndP:ps.Nodup:=by rw [←S.pre];exact S.nd.sublist (List.take_sublist _ _)
  refine ⟨u,rv,?_⟩
  rcases S.par y (Gw hp) with k |k
  ·exact .inl ⟨k,MH ndP hp hu k⟩
  ·obtain ⟨c,e⟩:=Kx (n:=s.heap.objs.size+1) k
   refine .inr ⟨.inl k,c,e,?_⟩
   have q:=x.cell y c e
   rw [MK ndP hp hu (by show scope.names.lookup y≠_;rw [k];decide)] at q
   exact q
 ·exact e0.hok.fresh (HC (x.above y c (PySem.mem_of_lookup h)))
 ·unfold L2.start
  show _=N.length
  rw [CG,Cm,List.length_replicate]
  omega
structure RK (P:Program) (w:World) (K:Frag) (mg:Str→Option Value) (base:Heap) (k:Nat) (f:Addr) (fd:FuncData) (ps:List Str) (F:List D→HD→Out D):Prop where
 run:∀(A:Around) (outer:List Env) (s:Shared) (H:Hp) (args:Args) (us:List Value) (vs:List V) (Q:VK),RoomM k A→Env0 P w K mg base A outer s H→BindsTo s fd args (ps.zip us)→Vals vs us→KN K F vs H Q E0→
  codeAny (model P w) A (.call (.ref f) args) (CR PP outer P w H s Q E0) s
theorem XC {P:Program} {w:World} {K:Frag} {mg:Str→Option Value} {base:Heap} {x qual:Str} {st:Stmt} {f:Addr} {fd:FuncData} {N ps:List Str} {k:Nat} {F:List D→HD→Out D} {g:MS} (Fn:Fun K x qual st f fd) (S:AV N ps (defScope st)) (ar:Ar ps.length F)
 (hg:∀ds h,ds.length=ps.length→F ds h=Am N.length g ds h)
 (hbody:∀(cdv:Value) (A:Around) (outer:List Env) (s:Shared) (H:Hp),RoomM k (A.deeper (envOfC qual (defScope st) s.heap.objs.size f cdv))→AQ (Il P w K mg base N qual (defScope st) f cdv A outer s H) E0 (defBody st) g):RK P w K mg base (k+1) f fd ps F:=by
 obtain ⟨oc,od,kV,doc,pm,an,cdv,ct,osl,rfl,lk,hcd⟩:=Fn.ex
 refine ⟨fun A outer s H args us vs Q hr e0 hb r hsp=>?_⟩
 have hl:vs.length=ps.length:=ar.len hsp
 have KX:K.In s.heap:=e0.mod.kin.keeps fun b o e=>(e0.bs b o e).1
 have lim:s.heap.NoLimit:=e0.mod.nolimit.keeps fun b o e=>(e0.bs b o e).1
 have hkind:∀y∈ps.zip us,(defScope st).names.lookup y.1=some .local∨((defScope st).names.lookup y.1=some .cell∧((cellsFrom (s.heap.objs.size+1) (defScope st).names []).lookup y.1).isSome=true):=fun z1_ hy=>by
  obtain ⟨n,v⟩:=z1_
  rcases S.par n (Km hy).1 with q |q
  ·exact .inl q
  ·exact .inr ⟨q,PySem.W.cellsFrom_some _ _ _ (.inl q)⟩
 refine codeAny_call_function (by have:=hr.dp;omega) (KX _ _ lk) rfl S.co S.gen rfl (PySem.W.codeRec_of KX hcd) (hb _ _ _ _ ?_)
 refine wpAny_newFunctionEnv_cells S.kind hkind fun env he s1 x=>?_
 subst he
 refine ⟨lim.keeps x.toInCall.keep,codeAny_func ?_⟩
 have I:Inv (Il P w K mg base N qual (defScope st) f cdv A outer s H) [] (start N vs) H s1:=XB S e0 hl r x
 have AW:∀{σ':L2.St} {H':Hp} {v:V} {u:Value} {s':Shared},Inv (Il P w K mg base N qual (defScope st) f cdv A outer s H) [] σ' H' s'→RelV v u→Q v H'→CE outer P w H s Q u s':=
  fun {σ' H' v u s'} J rv q=>⟨v,H',J.os,J.bare,J.base,J.hok,rv,q⟩
 have post:HJ K E0 g {nx:=fun _ H'=>Q .non H',rt:=Q} (start N vs) H:=by
  obtain ⟨m,ds,hd,hr1,r,p⟩:=hsp
  have hld:ds.length=ps.length:=by rw [r.len];exact hl
  refine ⟨m,ds.map some++List.replicate (N.length - ds.length) none,hd,hr1,ER.start r,?_⟩
  rw [hg ds hd hld] at p
  unfold Am at p
  cases o:g (ds.map some++List.replicate (N.length - ds.length) none) hd with
  |stuck=>rw [o] at p;exact p
  |err C fs h1=>rw [o] at p;exact p
  |ok a h1=>
   rw [o] at p
   obtain ⟨fl,ρ1⟩:=a
   intro m1 H1 p1 k1 hr1
   cases fl with
   |nx=>exact fun σ er=>p .non m1 H1 p1 k1 hr1 (by simp [rD,DV])
   |bk=>exact False.elim p
   |ct=>exact False.elim p
   |rt d=>exact fun v rv=>p v m1 H1 p1 k1 hr1 rv
 refine wpAny_mono (hbody cdv A outer s H (hr.deeper _) [] s1 (start N vs) H _ I post) (fun fl s' hs=>?_) fun e s' hs=>hs.elim
 cases fl with
 |ret u=>
  obtain ⟨v,σ',H',J,rv,q⟩:=hs
  exact AW J rv q
 |next=>
  obtain ⟨σ',H',J,q⟩:=hs
  exact AW (v:=V.non) (u:=Value.none) J rfl q
 |brk=>
  obtain ⟨_,_,_,q⟩:=hs
  exact False.elim q
 |cont=>
  obtain ⟨_,_,_,q⟩:=hs
  exact False.elim q
structure CaM (P:Program) (w:World) (K:Frag) (mg:Str→Option Value) (base:Heap) (x:Str) (k:Nat) (F:List D→HD→Out D):Prop where
 ex:∃(f:Addr) (fd:FuncData) (ps:List Str),RK P w K mg base k f fd ps F∧Binds K fd ps []∧mg x=some (.ref f)∧PySem.W.keepIn K (.ref f)=true∧Ar ps.length F
section
variable {X:Cx} {E:XK}
theorem XE {k k':Nat} {F:List D→HD→Out D} {fa:MA} {x:Str} {p pos:Pos} {e:Expr} {es:List Expr} (C:CaM X.prog X.w X.K X.mg X.base x k F) (hr:RoomM k' X.A) (ha:Cb X E0 (e::es) fa) (hk:k≤k':=by decide) (hg:Gl X x:=by rfl)
 (hdb:(x==("__debug__":Str))=false:=by decide) (he:starEach (e::es) X.env=(false,eval e X.env)::starEach es X.env:=by rfl) (hpl:(backTo pos (starEach es X.env)).any (·.1)=false:=by rfl):
 Ev X E0 (.Call (.Name x p) (e::es) [] pos) (Ag F fa):=by
 obtain ⟨f,fd,ps,G,hb,hm,hkp,ar⟩:=C.ex
 rintro pins s σ H Q I ⟨m,ρ,hd,hr1,er,pp⟩
 refine wpAny_Call_Name_kw (Ft I hg hm ?_ hdb)
 have post:PU X.K E0 fa σ H (fun vs H1=>KN X.K F vs H1 Q E0):=⟨m,ρ,hd,hr1,er,Post.bind pp fun xs h1 vs m1 H1 e1 p1 k1 hr1 r1 q1=>⟨m1,xs,h1,hr1,r1,q1⟩⟩
 refine PySem.W.callWith_K (h₀:=X.base) I.ok.mod.kin hkp (Aw (ha pos pins s σ H _ I post) ?_) he hpl
 rintro us s1 ⟨vs,H1,I1,r,q⟩
 refine ⟨I1.kIn,?_⟩
 have hl:us.length=ps.length:=by rw [←r.length];exact ar.len q
 have hb':=hb s1 us I1.kIn (by rw [ED];exact hl)
 rw [ED] at hb'
 refine wpAny_call (codeAny_mono (G.run X.A X.stack s1 H1 ⟨us,[]⟩ us vs Q (hr.mono hk) I1.env0 hb' r q) fun r s' hq=>?_)
 cases r with
 |error e=>exact False.elim hq
 |ok fl=>
  cases fl with
  |ret u=>exact I1.after hq
  |next=>exact False.elim hq
  |brk=>exact False.elim hq
  |cont=>exact False.elim hq
end
theorem RL {P:Program} {w:World} {fs:List Addr} {H H':Hp} {h0 h h':Heap} {a T:Addr} {C a0:Value} (B:Un fs [] H H' h0 h) (hok:HOk P w H' h) (na:h0.get? a=none) (nT:h0.get? T=none) (ha:H' a=none) (hT:H' T=none)
 (frNone:∀b∈fs,H' b=none) (noFields:∀b∈fs,∃o,h.get? b=some o∧∀vs,o.data≠.fields vs) (stay:(blank (fun b=>b=a∨b=T∨b∈fs) h).StaysIn h') (ups:∀b o,h.get? b=some o→(∀vs,o.data≠.fields vs)→∃sl,h'.get? b=some {o with slots:=sl})
 (tr:h'.TracedW (blank (fun b=>b=a∨b=T∨b∈fs) h) a C a0) {da:Option Addr} {oa:Obj} (ea:h.get? a=some oa) (ed:oa.dict=da) (dd:Dicts h h'):Un fs [] H H' h0 h'∧HOk P w H' h'∧Lb h0 h' H' a C da:=by
 obtain ⟨oe,vs,T2,oT,ts,e1,e2,e3,e4,e5,e6,e7,e8,e9⟩:=tr
 have e11:oe.dict=da:=by
  obtain ⟨o',q1,q2⟩:=dd a oa ea
  rw [e1] at q1
  cases q1
  exact q2.trans ed
 have keepOf:∀b o,¬(b=a∨b=T∨b∈fs)→h.get? b=some o→h'.get? b=some o:=fun b o hb e=>stay b o (by rw [GM hb];exact e)
 have old:∀b o,h0.get? b=some o→b≠a∧b≠T:=fun b o e=>⟨fun z=>(by rw [z,na] at e;cases e),fun z=>(by rw [z,nT] at e;cases e)⟩
 have any:∀b o,h0.get? b=some o→h.get? b≠none→∃o',h'.get? b=some o':=fun b o e hn=>by
  cases e':h.get? b with
  |none=>exact absurd e' hn
  |some o'=>
   by_cases hb:b∈fs
   ·obtain ⟨o2,h2,d2⟩:=noFields b hb
    obtain ⟨sl,h3⟩:=ups b o2 h2 d2
    exact ⟨_,h3⟩
   ·exact ⟨o',keepOf b o' (fun z=>by rcases z with z |z |z;exact (old b o e).1 z;exact (old b o e).2 z;exact hb z) e'⟩
 refine ⟨⟨fun b o e n hb hx=>?_,fun b o e n hb hx=>?_,B.free,fun b o e hx=>?_,B.tups,B.frzs,B.tbls⟩,fun b o e=>?_,na,ha,oe,vs,a0,T2,oT,ts,e1,e2,e3,e4,?_,?_,e6,e7,e8,e9,e11⟩
 ·exact keepOf b o (fun z=>by rcases z with z |z |z;exact (old b o e).1 z;exact (old b o e).2 z;exact hb z) (B.keep b o e n hb hx)
 ·obtain ⟨sl,h1⟩:=B.slot b o e n hb hx
  obtain ⟨o2,h2,d2⟩:=noFields b hb
  rw [h1] at h2
  cases h2
  obtain ⟨sl2,h3⟩:=ups b _ h1 d2
  exact ⟨sl2,h3⟩
 ·obtain ⟨o',h1⟩:=B.there b o e hx
  exact any b o e (by rw [h1];simp)
 ·refine (hok b o e).stay (fun c u hc q=>keepOf c u (fun z=>?_) q) (fun _ q=>q) fun _ _ q=>q
  have hc':H' c≠none:=by
   rcases hc with rfl |hc
   ·rw [e];simp
   ·rw [hc];simp
  rcases z with z |z |z
  ·exact hc' (z ▸ ha)
  ·exact hc' (z ▸ hT)
  ·exact hc' (frNone c z)
 ·cases q:h0.get? T2 with
  |none=>rfl
  |some o=>
   exfalso
   obtain ⟨o',h1⟩:=B.there T2 o q (by simp)
   by_cases hb:T2∈fs
   ·obtain ⟨o2,h2,d2⟩:=noFields T2 hb
    obtain ⟨sl,h3⟩:=ups T2 o2 h2 d2
    rw [h3] at e7
    cases e7
    exact d2 _ e8
   ·rw [GM (fun z=>by rcases z with z |z |z;exact (old T2 o q).1 z;exact (old T2 o q).2 z;exact hb z),h1] at e5
    cases e5
 ·cases q:H' T2 with
  |none=>rfl
  |some o=>
   exfalso
   by_cases hb:T2=a∨T2=T∨T2∈fs
   ·rcases hb with z |z |z
    ·rw [z,ha] at q;cases q
    ·rw [z,hT] at q;cases q
    ·rw [frNone T2 z] at q;cases q
   ·rw [GM hb] at e5
    obtain ⟨ob,eb⟩:=Ld (hok T2 o q)
    rw [eb] at e5
    cases e5
theorem XF {M:Model} {A:Around} {E:Value→Shared→Prop} {s:Shared} {base:Heap} {env:Env} {outer:List Env} {L e:Addr} {C a0:Value} {Q:Unit→Shared→Prop} (fr:A.frames=some (env::outer)) (lo:env.frame=some L) (fl:Heap.FlyingW base (env::outer) e C a0 s.heap)
 (q:∀h',Heap.HeldW base (env::outer) e C a0 L h'→s.heap.UpToSlots h'→Dicts s.heap h'→Q () {s with heap:=h'}):wpAny M A (noteFrame (.ref e) env) Q E s:=by
 refine wpAny_mono (Jy QX (wpAny_looks_onW (M:=M) (A:=A) (E:=fun _ _=>False) (Q:=fun _ s'=>∃h',s'={s with heap:=h'}∧Heap.HeldW base (env::outer) e C a0 L h'∧s.heap.UpToSlots h') fr lo fl fun h' z1 z2=>⟨h',rfl,z1,z2⟩)) (fun _ s' z=>?_) fun _ _ z=>z.1.elim
 obtain ⟨⟨h',rfl,z1,z2⟩,D⟩:=z
 exact q h' z1 z2 D
theorem XG {M:Model} {A:Around} {E:Value→Shared→Prop} {s:Shared} {base:Heap} {l:List Env} {e L:Addr} {C a0:Value} {Q:Unit→Shared→Prop} (held:Heap.HeldW base l e C a0 L s.heap)
 (q:∀h',Heap.FlyingW base l e C a0 h'→s.heap.UpToSlots h'→Dicts s.heap h'→Q () {s with heap:=h'}):wpAny M A (setFlight (.ref e) none) Q E s:=by
 refine wpAny_mono (Jy Np (wpAny_landsW (M:=M) (A:=A) (E:=fun _ _=>False) (Q:=fun _ s'=>∃h',s'={s with heap:=h'}∧Heap.FlyingW base l e C a0 h'∧s.heap.UpToSlots h') held fun h' z1 z2=>⟨h',rfl,z1,z2⟩)) (fun _ s' z=>?_) fun _ _ z=>z.1.elim
 obtain ⟨⟨h',rfl,z1,z2⟩,D⟩:=z
 exact q h' z1 z2 D
theorem XH {M:Model} {A:Around} {E:Value→Shared→Prop} {s:Shared} {base:Heap} {l:List Env} {e:Addr} {C a0:Value} {Q:Unit→Shared→Prop} (held:Heap.FlyingW base l e C a0 s.heap)
 (q:∀h',Heap.FlyingW base l e C a0 h'→s.heap.UpToSlots h'→Dicts s.heap h'→Q () {s with heap:=h'}):wpAny M A (setFlight (.ref e) none) Q E s:=by
 refine wpAny_mono (Jy Np (lands_againW (M:=M) (A:=A) (E:=fun _ _=>False) (Q:=fun _ s'=>∃h',s'={s with heap:=h'}∧Heap.FlyingW base l e C a0 h'∧s.heap.UpToSlots h') held fun h' z1 z2=>⟨h',rfl,z1,z2⟩)) (fun _ s' z=>?_) fun _ _ z=>z.1.elim
 obtain ⟨⟨h',rfl,z1,z2⟩,D⟩:=z
 exact q h' z1 z2 D
section
variable {X:Cx} {pins:List (Addr×Obj)} {σ:L2.St} {H:Hp} {s:Shared}
theorem Inv.track {a:Addr} {o:HO} (I:Inv X pins σ H s) (new:X.s₀.heap.get? a=none) (no:H a=none) (hL:a≠X.env.locals) (hc:∀x c,X.env.cells.lookup x=some c→c≠a) (hp:∀p∈X.pn++pins,p.1≠a) (ok:ObjOk X.prog X.w (Ak H a o) s.heap a o):
 Inv X pins σ (Ak H a o) s:=by
 have ne:∀b u,H b=some u→b≠a:=fun b u e=>BB e no
 refine ⟨I.ok,I.os,I.bare,⟨I.base.keep,I.base.slot,fun b ob e n hx=>?_,I.base.there,fun b xs e=>?_,fun b ob u e=>?_,fun b ps e=>?_⟩,I.loc,I.cell,?_,fun x c e=>?_,fun p hp'=>?_,fun b u e=>?_,I.len⟩
 ·rw [Al (fun z=>by rw [z,new] at e;cases e)];exact I.base.free b ob e n hx
 ·have:=I.base.tups b xs e
  rw [Al (ne _ _ this)];exact this
 ·have:=I.base.frzs b ob u e
  rw [Al (ne _ _ this)];exact this
 ·obtain ⟨more,this⟩:=I.base.tbls b ps e
  exact ⟨more,by rw [Al (ne _ _ this)];exact this⟩
 ·rw [Al (Ne.symm hL)];exact I.free
 ·rw [Al (hc x c e)];exact I.freeC x c e
 ·obtain ⟨a1,a2,a3⟩:=I.pin p hp'
  exact ⟨a1,by rw [Al (hp p hp')];exact a2,a3⟩
 ·by_cases hb:b=a
  ·subst hb
   rw [Bo] at e
   cases e
   exact ok
  ·rw [Al hb] at e
   exact (I.hok b u e).stay (fun _ _ _ q=>q) (fun c q=>by rw [Al (ne _ _ q)];exact q) fun c xs q=>by rw [Al (ne _ _ q)];exact q
theorem Inv.locals {σ':L2.St} {h':Heap} {m':Str→Option Value} {t':Nat} (I:Inv X pins σ H s) (hn':h'.Ns X.env.locals m') (hs:Heap.SameBut X.env.locals s.heap h')
 (hl:∀(i:Nat) (x:Str) (v:V),X.N[i]?=some x→σ'[i]?=some (some v)→D8 X.env.scope x→∃u,RelV v u∧Pb X.env h' m' x u) (len:σ'.length=σ.length):Inv X pins σ' H {s with heap:=h',toks:=t'}:=by
 obtain ⟨m,hn,_⟩:=id I.loc
 obtain ⟨oL,_,_,hoL,_⟩:=id hn
 have neL:∀b o,X.s₀.heap.get? b=some o→b≠X.env.locals:=fun b o e=>BG (AX (AE e) I.ok.above)
 refine ⟨I.ok,I.os,I.bare,⟨fun b o e n hb hx=>?_,fun b o e n hb hx=>?_,I.base.free,fun b o e hx=>?_,I.base.tups,I.base.frzs,I.base.tbls⟩,⟨_,hn',hl⟩,fun y c e=>?_,I.free,I.freeC,fun p hp=>?_,fun b ob e=>?_,len.trans I.len⟩
 ·exact (hs.2 b (neL b o e)).trans (I.base.keep b o e n hb hx)
 ·obtain ⟨sl,e1⟩:=I.base.slot b o e n hb hx
  exact ⟨sl,(hs.2 b (neL b o e)).trans e1⟩
 ·obtain ⟨o',e1⟩:=I.base.there b o e hx
  exact ⟨o',(hs.2 b (neL b o e)).trans e1⟩
 ·obtain ⟨v,z⟩:=I.cell y c e
  exact ⟨v,z.sameBut hs (I.cne y c e)⟩
 ·obtain ⟨a1,a2,a3,a4⟩:=I.pin p hp
  exact ⟨(hs.2 _ a3).trans a1,a2,a3,a4⟩
 ·refine (I.hok b ob e).stay (fun c w' hc q=>(hs.2 c ?_).trans q) (fun _ q=>q) fun _ _ q=>q
  rintro rfl
  have hfree:=I.free
  rcases hc with rfl |hc
  ·rw [hfree] at e;cases e
  ·rw [hfree] at hc;cases hc
theorem XI {M:Model} {A:Around} {E:Value→Shared→Prop} {n:Str} {pos:Pos} {i:Nat} {Q:Unit→Shared→Prop} (I:Inv X pins σ H s) (hN:X.N.Nodup) (hi:X.N[i]?=some n) (hl:X.env.kindOf n=some .local)
 (h:∀s',Inv X pins (σ.set i none) H s'→Q () s'):wpAny M A (do bindName X.env n .none;unbindBehindTheSuite X.env n pos) Q E s:=by
 have hp:(X.env.scope.kind==.class||(X.env.scope.kind==.module&&X.env.locals != X.env.globals))=false:=by rw [I.ok.kind];rfl
 refine wpAny_bind (wpAny_bindName (IY (v:=.non) I hN hi (.inl hl) rfl (fun s1 I1 _=>?_) (.inr hl)))
 unfold unbindBehindTheSuite
 refine wpAny_onRaise ?_
 unfold unbindName
 refine wpAny_bind (wpAny_point (wpAny_bind ?_))
 unfold deleteName
 simp only [hl,hp]
 rw [if_neg (by decide)]
 obtain ⟨m1,hn1,hl1⟩:=I1.loc
 have hin:(m1 n).isSome=true:=by
  have hiσ:i < σ.length:=by rw [I.len];exact (qa5.mp hi).1
  obtain ⟨u,_,lk⟩:=hl1 i n .non hi (by rw [CF hiσ]) (.inl hl)
  rcases lk with ⟨_,z⟩ |⟨z,_⟩
  ·rw [z];rfl
  ·rcases z with z |z<;>(rw [hl] at z;cases z)
 refine wpAny_bind (wpAny_nsDel_keeps hn1 fun h2 v hn2 hs2=>?_)
 simp only [hin,if_true,Bool.not_true,CH,if_false]
 refine wpAny_pure (wpAny_point (h _ (Inv.locals (t':=s1.toks) (I1.weak (σ':=σ.set i none) (by simp) fun j v' e=>?_) hn2 hs2 (fun j x v' e1 e2 e3=>?_) rfl)))
 ·by_cases hj:i=j
  ·subst hj
   have hiσ:i < σ.length:=by rw [I.len];exact (qa5.mp hi).1
   rw [CF hiσ] at e;cases e
  ·rw [BU hj] at e ⊢;exact e
 ·have hj:i≠j:=by
   rintro rfl
   have hiσ:i < σ.length:=by rw [I.len];exact (qa5.mp hi).1
   rw [CF hiσ] at e2;cases e2
  rw [BU hj] at e2
  obtain ⟨u,r,lk⟩:=hl1 j x v' e1 (by rw [BU hj];exact e2) e3
  have hx:x≠n:=fun z=>hj (Mr hN hi (z ▸ e1))
  refine ⟨u,r,?_⟩
  rcases lk with ⟨k1,k2⟩ |⟨k1,c,k2,k3⟩
  ·exact .inl ⟨k1,(if_neg hx).trans k2⟩
  ·exact .inr ⟨k1,c,k2,k3.sameBut hs2 (I1.cne x c k2)⟩
end
def FI:List (Str×D)→Option (List (Str×Int))
 |[]=>some []
 |(f,.int i)::r=>(FI r).map fun l=>(f,i)::l
 |_=>none
theorem RM:∀{fs:List (Str×D)} {is:List (Str×Int)} {f:Str} {i:Int},FI fs=some is→is.lookup f=some i→fs.lookup f=some (.int i)
 |[],is,f,i,e,l=>by cases e;cases l
 |(g,d)::r,is,f,i,e,l=>by
  cases d with
  |int j=>
   simp only [FI] at e
   cases er:FI r with
   |none=>rw [er] at e;cases e
   |some l2=>
    rw [er] at e
    cases e
    rw [EB] at l ⊢
    cases hb:f==g with
    |true=>rw [hb] at l;cases l;rfl
    |false=>rw [hb] at l;exact RM er l
  |_=>cases e
open Classical in
noncomputable def Lp (a:Addr) (vs:List V) (Fk:List D→HD→Out D) (f:ME):MS:=fun ρ h=>match (ρ[0]?:Option (Option D)),(h[0]?:Option Cell) with
 |some (some (.clo a' vs' ds)),some .tab=>if a'=a∧vs'=vs then (match f (ds.map some) h with
  |.ok _ h1=>.ok (.nx,ρ) h1
  |.err (.str n _) fs h1=>if n∈excNames then (match FI fs with
   |some is=>(match Fk [.exc n is] h1 with
    |.ok d h2=>.ok (.nx,(ρ.set 1 (some d)).set 2 none) h2
    |_=>.stuck)
   |none=>.stuck) else .stuck
  |_=>.stuck) else .stuck
 |_,_=>.stuck
structure SaidX (X:Cx) (P a c':Addr) (lpos:Pos) (Nc:List Str) (params:Arguments) (body:Expr) (scope:Scope) (cl:List (Str×Addr)) (pm ctv:Value) (vs:List V):Prop where
 N:X.N=(["_law_call","_law_word","_law_e"]:List Str)
 k0:X.env.kindOf "_law_call"=some .local
 k1:X.env.kindOf "_law_word"=some .local
 k2:X.env.kindOf "_law_e"=some .local
 tp:∃c,tabP X.K=some (c,P)
 tb:∃ps,X.H₀ P=some (.tbl ps)∧TriplesOk ps.toList∧codeAmong lpos ps.toList=some (.ref c')
 ob:X.s₀.heap.get? a=some (kla_obj "<lambda>" By params body scope cl pm c' ctv)
 no:X.H₀ a=none
 nf:a∉X.fs
 clo:JD X.s₀.heap X.H₀ X.outer Nc scope cl vs
section
variable {X:Cx} {E:XK} {P a c':Addr} {lpos:Pos} {Nc:List Str} {params:Arguments} {body:Expr} {scope:Scope} {cl:List (Str×Addr)} {pm ctv:Value} {vs:List V}
theorem XJ {M:Model} {A:Around} {E:Value→Shared→Prop} {s:Shared} {a:Addr} {o:Obj} {fd:FuncData} {Q:Value→Shared→Prop} {env:Env} {pos:Pos} (h0:s.heap.get? a=some o) (hd:o.data=.func fd) (h:wpAny M A (call (.ref a) []) Q E s):
 wpAny M A (callWith pos (.ref a) [] (backTo pos (starEach [] env)) []) Q E s:=
 callWith_of (P:=fun h=>h.get? a=some o) rfl (fun h e=>⟨.frame,.inl rfl,(Looks.ld (part:=none) e).andThen (by rw [hd];exact .now)⟩) (evalArgs_nil3 ⟨h0,h⟩)
theorem SaidX.cloNow (S:SaidX X P a c' lpos Nc params body scope cl pm ctv vs) (lv:Lv X E) {pins:List (Addr×Obj)} {σ:L2.St} {H:Hp} {s:Shared} (I:Inv X pins σ H s):JD s.heap H X.stack Nc scope cl vs∧s.heap.get? a=some (kla_obj "<lambda>" By params body scope cl pm c' ctv):=by
 have B:Un X.fs [] X.H₀ H X.s₀.heap s.heap:=by have:=I.base;rw [lv.ex] at this;exact this
 have keep:∀c v,X.s₀.heap.IsCell c v→X.H₀ c=none→c∉X.fs→s.heap.IsCell c v:=fun c v z1_ n f=>by obtain ⟨o,e,d⟩:=z1_;exact (⟨o,B.keep c o e n f (by simp),d⟩)
 refine ⟨⟨S.clo.len,S.clo.inj,S.clo.has,fun x c e=>?_,fun i x v e1 e2=>?_⟩,B.keep a _ S.ob S.no S.nf (by simp)⟩
 ·obtain ⟨⟨v,q⟩,n,f⟩:=S.clo.cell x c e
  obtain ⟨o,e1,d⟩:=id q
  refine ⟨⟨v,keep c v q n f⟩,B.free c o e1 n (by simp),fun z=>?_⟩
  rw [lv.frs] at z
  rcases qa7.mp z with z |z
  ·exact absurd (AX (AE e1) I.ok.above) (by rw [z];exact CP _)
  ·exact f z
 ·obtain ⟨hf,c,u,e3,e4,r⟩:=S.clo.val i x v e1 e2
  obtain ⟨_,n,f⟩:=S.clo.cell x c e3
  exact ⟨hf,c,u,e3,keep c _ e4 n f,r⟩
def Gi (X:Cx) (e:Addr):Cx:={X with A:=X.A.mark (some (.ref e)),calm:=false,xe:=fun _ _=>False}
theorem Inv.marked {pins:List (Addr×Obj)} {σ:L2.St} {H:Hp} {s:Shared} {e:Addr} (I:Inv X pins σ H s):Inv (Gi X e) pins σ H s:=
 ⟨⟨I.ok.mod,I.ok.kind,I.ok.glob,I.ok.blt,I.ok.above,I.ok.inj,I.ok.has,I.ok.cab,fun z=>(nomatch z),I.ok.frames,I.ok.stk,I.ok.exf,I.ok.bs,I.ok.bsz,I.ok.noex,I.ok.exfs,I.ok.funs,I.ok.frf⟩,I.os,I.bare,I.base,I.loc,I.cell,I.free,I.freeC,I.pin,I.hok,I.len⟩
theorem Inv.unmarked {pins:List (Addr×Obj)} {σ:L2.St} {H:Hp} {s:Shared} {e:Addr} (ok:X.Ok) (I:Inv (Gi X e) pins σ H s):Inv X pins σ H s:=
 ⟨ok,I.os,I.bare,I.base,I.loc,I.cell,I.free,I.freeC,I.pin,I.hok,I.len⟩
theorem XM {k:Nat} {Fk:List D→HD→Out D} {f:ME} {p4 p5 p6 p7 p8 p9 p10 p11 p12 p13 p14:Pos} (lv:Lv X E) (S:SaidX X P a c' lpos Nc params body scope cl pm ctv vs) (hr:Room (k+1) X.A) (et:etOk X.K=true) (hsw:∃Sw,nsIn X.K mainGlobals "SwitchError"=some (some (.ref Sw)))
 (hgS:X.env.kindOf "SwitchError"=some .globalImplicit) (hgK:X.env.kindOf "_law_kind"=some .globalImplicit)
 (hkind:CaM X.prog X.w X.K X.mg X.base "_law_kind" k Fk) (hL:LamSc scope) (hbind:bindArgs (kla_fn "<lambda>" By params body scope cl pm (.ref c') ctv) ⟨[],[]⟩=pure [])
 (hb:∀(s:Shared) (H:Hp) (E':XK),Room k (X.A.deeper (envX By scope s.heap.objs.size a (.ref c') cl))→Ev (FH X.prog X.w X.K X.mg X.base Nc scope a (.ref c') cl X.A X.stack s H E') E' body f):
 Ex X E (.Try [.Expr (.Call (.Name "_law_call" p4) [] [] p5) p6] [.ExceptHandler (some (.Name "SwitchError" p7)) (some "_law_e") [.Assign [.Name "_law_word" p8] (.Call (.Name "_law_kind" p9) [.Name "_law_e" p10] [] p11) p12] p13] [] [] p14) (Lp a vs Fk f):=by
 rintro pins s σ H Dn I ⟨m,ρ,h,hr1,er,p⟩
 refine Classical.byContradiction fun nG=>?_
 have hN0:X.N[0]?=some ("_law_call":Str):=by rw [S.N];rfl
 have hN1:X.N[1]?=some ("_law_word":Str):=by rw [S.N];rfl
 have hN2:X.N[2]?=some ("_law_e":Str):=by rw [S.N];rfl
 have nd:X.N.Nodup:=by rw [S.N];decide +kernel
 obtain ⟨Sw,hSw⟩:=hsw
 unfold Lp at p
 split at p
 ·rename_i a' vs' ds e0 et0
  split at p
  ·rename_i hav
   obtain ⟨rfl,rfl⟩:=hav
   obtain ⟨C,ob⟩:=S.cloNow lv I
   obtain ⟨v0,hv0,rv0⟩:=er.2 0 _ e0
   simp only [DV] at rv0
   obtain ⟨rfl,rds⟩:=rv0
   obtain ⟨aP,haP,tab⟩:=hr1.at et0
   obtain ⟨⟨cc,htp⟩,ps2,hps2,htr2,hcs2⟩:=tab
   obtain ⟨cc',htp'⟩:=S.tp
   rw [htp'] at htp
   cases htp
   obtain ⟨ps,hps,htr,hca⟩:=S.tb
   obtain ⟨more,hmore⟩:=I.base.tbls P ps hps
   have hca2:codeAmong lpos ps2.toList=some (.ref c'):=by
    have e:=hmore.symm.trans hps2
    cases e
    rw [Array.toList_append]
    exact Xw htr hca
   obtain ⟨c2,e2,hx2⟩:=hcs2 lpos _ hca2
   cases e2
   have hcd:s.heap.CodeRec (.ref c') By:=(I.hok c' _ hx2).1
   have run:∀(Q:VK) (E':XK),Post X.K (rD X.K) m H E' Q (f (ds.map some) h)→codeAny (model X.prog X.w) X.A (.call (.ref a') ⟨[],[]⟩) (CR (As X.prog X.w X.K) X.stack X.prog X.w H s Q E') s:=fun Q E' q=>
    XA hL hr I.env0 C ob hcd hbind (hb s H E') ⟨m,ds,h,hr1,rds,q⟩
   have start:∀{Q:Flow→Shared→Prop} {EE:Value→Shared→Prop},codeAny (model X.prog X.w) X.A (.call (.ref a') ⟨[],[]⟩) (fun r s'=>match r with |.ok (.ret u)=>Q .next s' |.error e=>EE e s' |_=>False) s→
    wpAny (model X.prog X.w) X.A (execs [.Expr (.Call (.Name "_law_call" p4) [] [] p5) p6] X.env) Q EE s:=fun {Q EE} hc=>by
    refine wpAny_execs_cons (wpAny_Expr_any (wpAny_Call_Name_kw ?_) I.quiet rfl)
    obtain ⟨m0,hn0,hl0⟩:=I.loc
    obtain ⟨u,ru,lk⟩:=hl0 0 "_law_call" (.ref a') hN0 hv0 (.inl S.k0)
    cases (show u=Value.ref a' from ru)
    rcases lk with ⟨hk,hm⟩ |⟨z,_⟩
    ·refine wpAny_Name (wpAny_loadName_local I.ok.kind hk hn0 hm (XJ ob rfl (wpAny_call (codeAny_mono hc fun r s' hq=>?_)))) (by decide)
     cases r with
     |error e=>exact hq
     |ok fl=>
      cases fl with
      |ret u=>exact wpAny_execs_nil hq
      |next=>exact hq.elim
      |brk=>exact hq.elim
      |cont=>exact hq.elim
    ·rcases z with z |z<;>(rw [S.k0] at z;cases z)
   refine nG (wpAny_Try_except (start ?_))
   clear nG
   refine Classical.byContradiction fun nG=>?_
   cases ho:f (ds.map some) h with
   |stuck=>rw [ho] at p;exact p.elim
   |ok d h1=>
    rw [ho] at p
    refine nG (codeAny_mono (run (fun v H'=>∃m',m <+:m'∧Kp H H'∧HR X.K m' h1 H') E0 (by rw [ho];exact fun v m' H' p1 k1 hr' _=>⟨m',p1,k1,hr'⟩)) fun r s' hq=>?_)
    cases r with
    |error e=>
     obtain ⟨_,_,_,_,_,_,_,_,_,_,_,_,q⟩:=hq
     exact q.elim
    |ok fl=>
     cases fl with
     |ret u=>
      obtain ⟨v,H',os,bare,un,hok,_,m',p1,k1,hr'⟩:=hq
      exact wpAny_execs_nil ⟨σ,H',I.call' os un hok bare (fun b hb=>absurd hb (by simp)),p m' H' p1 k1 hr' σ (er.keep p1 k1)⟩
     |next=>exact hq.elim
     |brk=>exact hq.elim
     |cont=>exact hq.elim
   |err Cv fs h1=>
    rw [ho] at p
    cases Cv with
    |str n t=>
     simp only at p
     split at p
     ·rename_i hn
      refine nG (codeAny_mono (run (fun _ _=>False) (fun C' da H'=>C'=.str n t∧∃m',m <+:m'∧Kp H H'∧HR X.K m' h1 H'∧XD X.K m' H' fs da) (by rw [ho];exact fun da m' H' p1 k1 hr' xd=>⟨rfl,m',p1,k1,hr',xd⟩)) fun r s1 hq=>?_)
      clear nG
      cases r with
      |ok fl=>
       cases fl with
       |ret u=>obtain ⟨_,_,_,_,_,_,_,z⟩:=hq;exact z.elim
       |next=>exact hq.elim
       |brk=>exact hq.elim
       |cont=>exact hq.elim
      |error e=>
       obtain ⟨ae,Cc,n',da,H',rfl,os,bare,un,hok,fly,nm,hE,m',p1,k1,hr',xd⟩:=hq
       refine Classical.byContradiction fun nG=>?_
       have hnn:n'=n:=by cases hE;rfl
       subst hnn
       have I1:Inv X pins σ H' s1:=I.call' os un hok bare (fun b hb=>absurd hb (by simp))
       obtain ⟨fnew,fno,oe,ws,a0,T,oT,ts,e1,e2,e3,e4,e5,e6,e7,e8,e9,e10,e11⟩:=fly
       have fro:X.A.frames=some (X.env::X.outer):=by rw [←lv.stk];exact I1.ok.frames
       have stk:s1.heap.FunFrames X.base (X.env::X.outer):=by have:=I1.stack;rw [lv.stk] at this;exact this
       have frN:∀b∈frs X.stack,H' b=none:=fun b hb=>I1.stkFree b hb
       have frO:∀b∈frs X.stack,∃o,s1.heap.get? b=some o∧∀vs,o.data≠.fields vs:=fun b hb=>(I1.stack.mem hb).2
       have fly0:Heap.FlyingW (blank (fun b=>b=ae∨b=T∨b∈frs X.stack) s1.heap) (X.env::X.outer) ae (.ref Cc) a0 s1.heap:=
        ⟨Nq,GL (.inl rfl),Lc stk fun b hb=>.inr (.inr (by rw [lv.stk];exact hb)),oe,ws,T,oT,ts,e1,e2,e3,e4,GL (.inr (.inl rfl)),e7,e8,e9,e10⟩
       refine nG (XF fro lv.fr fly0 fun h4 held4 sm4 D4=>?_)
       clear nG
       refine XG held4 fun h5 held5 sm5 D5=>?_
       refine Classical.byContradiction fun nG=>?_
       obtain ⟨un5,hok5,fly5⟩:=RL un hok fnew e5 fno e6 frN frO held5.1 (sm4.trans sm5) held5.2.2.2 e1 e11 (D4.trans D5)
       have I5:Inv X pins σ H' {s1 with heap:=h5}:=I.call' (s':={s1 with heap:=h5}) os un5 hok5 bare (fun b hb=>absurd hb (by simp))
       have hmS:X.mg "SwitchError"=some (.ref Sw):=mg_of I.mod.kin I.mod.glob hSw
       have T5:=Lm et hn nm
       obtain ⟨_,_,oe5,ws5,_,_,_,_,f1,f2,f3,_⟩:=id fly5
       refine nG (wpAny_handleBy_cons (codeAny_handlers_test ?_) (by intro q;cases q))
       clear nG
       refine Calls.Name_function_global I5.ok.kind hgS (Calls.loadGlobal_global (by rw [I5.ok.glob];exact I5.mod.glob.keeps I5.bk) hmS ?_) (by decide)
       refine (exm_one (M:=model X.prog X.w) I5.kIn (TyAt.type ⟨oe5,f1,f2.1⟩) (T5.sw Sw hSw)).here ?_
       simp only [if_true]
       refine codeAny_handlers_suite_as (XH held5 fun h6 held6 sm6 D6=>?_)
       obtain ⟨un6,hok6,fly6⟩:=RL un hok fnew e5 fno e6 frN frO held6.1 ((sm4.trans sm5).trans sm6) held6.2.2.2 e1 e11 ((D4.trans D5).trans D6)
       have I6:Inv X pins σ H' {s1 with heap:=h6}:=I.call' (s':={s1 with heap:=h6}) os un6 hok6 bare (fun b hb=>absurd hb (by simp))
       obtain ⟨_,_,oe6,ws6,_,_,_,_,g1,g2,g3,_,_,_,_,_,_,_,g11⟩:=id fly6
       have older:∀b,s.heap.get? b=none→X.s₀.heap.get? b=none:=lv.older I
       have xok:ObjOk X.prog X.w (Ak H' ae (.ext (EL Cc da ae))) h6 ae (.ext (EL Cc da ae)):=
        ⟨⟨oe6,ws6,g1,g2.1,fun d z=>g11.trans z,g3⟩,⟨oe6,g1⟩,fun ha hb' z2_ k'=>by obtain ⟨o,w',z1,z2,z3,z4⟩:=z2_;exact (⟨o,w',k' o z1,z2,z3,z4⟩)⟩
       have neL:ae≠X.env.locals:=fun z=>by
        obtain ⟨mL,⟨oL,_,_,hoL,_⟩,_⟩:=I.loc
        rw [←z,fnew] at hoL;cases hoL
       have neC:∀x c,X.env.cells.lookup x=some c→c≠ae:=fun x c ex z=>by
        obtain ⟨v,o,hoc,_⟩:=I.cell x c ex
        rw [z,fnew] at hoc;cases hoc
       have neP:∀q∈X.pn++pins,q.1≠ae:=fun q hq z=>by
        have:=(I.pin q hq).1
        rw [z,fnew] at this;cases this
       have I6':=LS.Inv.track I6 (older ae fnew) fno neL neC neP xok
       have kx:Kp H' (Ak H' ae (.ext (EL Cc da ae))):=.new fno
       refine IY (v:=.ref ae) I6' nd hN2 (.inl S.k2) rfl (fun s7 I7 _=>?_) (.inr S.k2)
       split at p
       rename_i is his
       split at p
       ·rename_i d h2 hk2
        have hr7:HR X.K m' h1 (Ak H' ae (.ext (EL Cc da ae))):=hr'.new fno
        have er7:ER X.K m' (Ak H' ae (.ext (EL Cc da ae))) (ρ.set 2 (some (.exc n' is))) (σ.set 2 (some (.ref ae))):=
         ((er.keep p1 k1).keep (AH _) kx).set (by simp only [DV];exact ⟨ae,Cc,da,rfl,nm,Bo,fun f i z=>by
           obtain ⟨b,fv,v,q1,q2,q3,q4⟩:=xd f _ (RM his z)
           simp only [DV] at q4
           exact ⟨b,fv,q1,by rw [Al (BB q2 fno)];exact q2,by rw [q3,q4]⟩⟩)
        have hρ:2 < ρ.length:=by rw [er.1,I.len,S.N];decide
        have sx:AQ (Gi X ae) E0 [.Assign [.Name "_law_word" p8] (.Call (.Name "_law_kind" p9) [.Name "_law_e" p10] [] p11) p12] (Aq 1 (Ag Fk (Aa (Ab 2) Ac))):=
         Ax (A6 (X:=Gi X ae) (i:=1) nd hN1 (Or.inl S.k1) (XE (X:=Gi X ae) hkind (RoomM.of hr _) (Ad (Ae (X:=Gi X ae) (Gz (X:=Gi X ae) hN2 (.inl S.k2))) Af) (HF _) hgK) (hf:=.inr S.k1))
        have post:HJ (Gi X ae).K E0 (Aq 1 (Ag Fk (Aa (Ab 2) Ac))) {nx:=fun σ' H''=>Dn.nx (σ'.set 2 none) H'',rt:=fun _ _=>False} (σ.set 2 (some (.ref ae))) (Ak H' ae (.ext (EL Cc da ae))):=by
         refine ⟨m',ρ.set 2 (some (.exc n' is)),h1,hr7,er7,?_⟩
         have ev:Aq 1 (Ag Fk (Aa (Ab 2) Ac)) (ρ.set 2 (some (.exc n' is))) h1=.ok (.nx,(ρ.set 2 (some (.exc n' is))).set 1 (some d)) h2:=by
          unfold Aq Ag Aa Ac Ab
          rw [CF hρ]
          simp only [Out.bind_ok]
          rw [hk2]
          rfl
         rw [ev]
         intro m2 H2 p2 k2 hr2 σ' er2
         refine p m2 H2 (p1.trans p2) ((k1.trans kx).trans k2) hr2 _ ⟨by simp [er2.1.symm],fun i di e=>?_⟩
         by_cases hi:2=i
         ·subst hi
          rw [CF (by simpa using hρ)] at e
          cases e
         ·rw [BU hi] at e
          obtain ⟨v,z1,z2⟩:=er2.2 i di (by
           by_cases h1i:1=i
           ·subst h1i
            rw [CF (by omega)] at e
            rw [CF (by simp;omega)];exact e
           ·rw [BU h1i] at e
            rw [BU h1i,BU hi];exact e)
          exact ⟨v,by rw [BU hi];exact z1,z2⟩
        refine wpAny_mono (sx pins s7 _ _ _ (Inv.marked I7) post) (fun fl s8 h8=>?_) fun _ _ z=>False.elim z
        cases fl with
        |next=>
         obtain ⟨σ',H'',I8,q8⟩:=h8
         exact XI (Inv.unmarked I.ok I8) nd hN2 S.k2 fun s9 I9=>⟨_,H'',I9,q8⟩
        |ret u=>obtain ⟨_,_,_,_,_,z⟩:=h8;exact False.elim z
        |brk=>obtain ⟨_,_,_,z⟩:=h8;exact False.elim z
        |cont=>obtain ⟨_,_,_,z⟩:=h8;exact False.elim z
       ·exact p.elim
       ·exact p.elim
     ·exact p.elim
    |_=>exact p.elim
  ·exact p.elim
 ·exact p.elim
end
noncomputable def NU (Fk:List D→HD→Out D):Out D→Out D
 |.ok _ h1=>.ok (.str "told") h1
 |.err (.str n _) fs h1=>if n∈excNames then (match FI fs with
  |some is=>(match Fk [.exc n is] h1 with
   |.ok d h2=>.ok d h2
   |_=>.stuck)
  |none=>.stuck) else .stuck
 |_=>.stuck
noncomputable def E5 (cs:List Nat) (Fk:List D→HD→Out D) (f:ME):ME:=fun ρ h=>match (h[0]?:Option Cell),A0 (cs.map fun j=>(ρ[j]?).join) with
 |some .tab,some ds=>NU Fk (f (ds.map some) h)
 |_,_=>.stuck
structure LSc (X:Cx) (scope:Scope) (Nc:List Str) (cs:List Nat):Prop where
 lam:LamSc scope
 nd:(scope.names.map (·.1)).Nodup
 free:(scope.names.all fun y=>y.2 != .free||(X.env.kindOf y.1==some .cell||X.env.kindOf y.1==some .free))=true
 len:cs.length=Nc.length
 out:((Nc.zip cs).all fun p=>X.N[p.2]?==some p.1&&scope.names.lookup p.1==some .free)=true
theorem LSc.at_ {X:Cx} {scope:Scope} {Nc:List Str} {cs:List Nat} (S:LSc X scope Nc cs) {i j:Nat} {x:Str} (h1:Nc[i]?=some x) (h2:cs[i]?=some j):X.N[j]?=some x∧scope.names.lookup x=some .free:=by
 have hz:(Nc.zip cs)[i]?=some (x,j):=by
  rw [List.getElem?_zip_eq_some]
  exact ⟨h1,h2⟩
 have:=qaN.mp S.out (x,j) (Gw hz)
 simpa using this
theorem LSc.fr {X:Cx} {scope:Scope} {Nc:List Str} {cs:List Nat} (S:LSc X scope Nc cs):∀y∈scope.names,y.2=.free→X.env.kindOf y.1=some .cell∨X.env.kindOf y.1=some .free:=fun y hy e=>by
 have:=qaN.mp S.free y hy
 rw [e] at this
 simpa using this
theorem RN {K:Frag} {m:List Addr} {H:Hp} {ρ:Ah} {σ:L2.St} (er:ER K m H ρ σ):∀{cs:List Nat} {ds:List D},A0 (cs.map fun j=>(ρ[j]?).join)=some ds→∃vs,DVs K m H ds vs∧vs.length=cs.length∧∀(i:Nat) (v:V),vs[i]?=some v→∃j,cs[i]?=some j∧σ[j]?=some (some v)
 |[],ds,e=>by
  simp [A0] at e
  subst e
  exact ⟨[],.nil,rfl,fun i v z=>by simp at z⟩
 |j::cs,ds,e=>by
  rw [BM] at e
  cases ed:(ρ[j]?).join with
  |none=>rw [ed] at e;simp [A0] at e
  |some d=>
   rw [ed] at e
   simp only [A0,qaR] at e
   obtain ⟨ds',e1,rfl⟩:=e
   obtain ⟨vs,h1,h2,h3⟩:=RN er e1
   obtain ⟨v,e2,r⟩:=er.2 j d (join_some.mp ed)
   refine ⟨v::vs,.cons r h1,by simp [h2],fun i v' z=>?_⟩
   cases i with
   |zero=>simp at z;subst z;exact ⟨j,rfl,e2⟩
   |succ i=>simpa using h3 i v' (by simpa using z)
section
variable {X:Cx} {E:XK} {c P:Addr} {Nc:List Str} {cs:List Nat} {params:Arguments} {body:Expr} {scope:Scope}
theorem XN {α:Type} {l:List (Str×α)} {x:Str} {v:α} (h:(x,v)∈l):∃w,l.lookup x=some w:=by
 cases e:l.lookup x with
 |some w=>exact ⟨w,rfl⟩
 |none=>
  have:=List.lookup_eq_none_iff.mp e _ h
  simp at this
theorem XO {k:Nat} {Fk:List D→HD→Out D} {f:ME} {fs:Addr} {fd:FuncData} {st:Stmt} {lpos p pos p1 p2 p3 p4 p5 p6 p7 p8 p9 p10 p11 p12 p13 p14 p15 p16:Pos} {j1:Nat} (L:LamX X c P) (fna:∀x,X.fn x=true) (hr:Room (k+2) X.A) (lv:Lv X E) (et:etOk X.K=true)
 (hsw:∃Sw,nsIn X.K mainGlobals "SwitchError"=some (some (.ref Sw)))
 (Fn:Fun X.K "_law_said" "_law_said" st fs fd) (hbd:Binds X.K fd ["_law_call"] []) (hm:X.mg "_law_said"=some (.ref fs)) (hkp:keepIn X.K (.ref fs)=true)
 (Sf:AV ["_law_call","_law_word","_law_e"] ["_law_call"] (defScope st)) (hk0:(defScope st).names.lookup ("_law_call":Str)=some .local) (hk1:(defScope st).names.lookup ("_law_word":Str)=some .local) (hk2:(defScope st).names.lookup ("_law_e":Str)=some .local)
 (hgS:∀L' cd,(envOfC "_law_said" (defScope st) L' fs cd).kindOf "SwitchError"=some .globalImplicit) (hgK:∀L' cd,(envOfC "_law_said" (defScope st) L' fs cd).kindOf "_law_kind"=some .globalImplicit)
 (hst:defBody st=[.Assign [.Name "_law_word" p1] (.Constant (.str "told") j1 p2) p3,.Try [.Expr (.Call (.Name "_law_call" p4) [] [] p5) p6] [.ExceptHandler (some (.Name "SwitchError" p7)) (some "_law_e") [.Assign [.Name "_law_word" p8] (.Call (.Name "_law_kind" p9) [.Name "_law_e" p10] [] p11) p12] p13] [] [] p14,.Return (some (.Name "_law_word" p15)) p16])
 (hkind:CaM X.prog X.w X.K X.mg X.base "_law_kind" k Fk) (hg:Gl X "_law_said") (S:LSc X scope Nc cs) (hdef:defaultsOf params X.env=([],[]))
 (hbind:∀(cl:List (Str×Addr)) (pm cv ctv:Value),bindArgs (kla_fn "<lambda>" By params body scope cl pm cv ctv) ⟨[],[]⟩=pure [])
 (hb:∀(a:Addr) (cd:Value) (cl:List (Str×Addr)) (A:Around) (outer:List Env) (s:Shared) (H:Hp) (E':XK),Room k (A.deeper (envX By scope s.heap.objs.size a cd cl))→Ev (FH X.prog X.w X.K X.mg X.base Nc scope a cd cl A outer s H E') E' body f)
 (he:starEach [.Lambda params body scope lpos] X.env=(false,eval (.Lambda params body scope lpos) X.env)::starEach [] X.env:=by rfl) (hpl:(backTo pos (starEach [] X.env)).any (·.1)=false:=by rfl):
 Ev X E (.Call (.Name "_law_said" p) [.Lambda params body scope lpos] [] pos) (E5 cs Fk f):=by
 rintro pins s σ H Q I ⟨m,ρ,h,hr1,er,pp⟩
 unfold E5 at pp
 split at pp
 ·rename_i ds et0 eds
  obtain ⟨aP,haP,tab⟩:=hr1.at et0
  obtain ⟨⟨cc,htp⟩,tabr⟩:=id tab
  rw [L.tp] at htp
  cases htp
  obtain ⟨vs,dvs,vlen,vat⟩:=RN er eds
  obtain ⟨cl,hclos,hcl,hcl2⟩:=M4 (scope:=scope) (env:=X.env) fun y hy hf=>I.ok.has y.1 (S.fr y hy hf)
  refine wpAny_Call_Name_kw (Ft I hg hm ?_ (by decide))
  refine PySem.W.callWith_K (h₀:=X.base) I.ok.mod.kin hkp ?_ he hpl
  rw [he]
  show wpAny _ _ (spliced ((false,eval (.Lambda params body scope lpos) X.env)::[])) _ _ s
  refine Calls.spliced_cons (Xx L I tab hdef hclos fun a c' ctv pm h' tk H' I' kp tab' same keep hsz no ob code=>?_)
  refine wpAny_pure ⟨I'.kIn,wpAny_call ?_⟩
  generalize hs1:({s with heap:=h',toks:=tk}:Shared)=s1 at I'
  have hh1:s1.heap=h':=by rw [←hs1]
  have hrN:HR X.K m h H':=hr1.tab kp same tab' tab
  have frLt:∀b∈frs X.stack,b<s.heap.objs.size:=fun b hb=>by
   obtain ⟨_,o,ho,_⟩:=I.stack.mem hb
   exact AE ho
  have cof:∀x c,cl.lookup x=some c→X.env.cells.lookup x=some c:=fun x c e=>(hcl x c (mem_of_lookup e)).1
  have hasC:∀x,scope.names.lookup x=some .free→∃c,cl.lookup x=some c:=fun x e=>by
   obtain ⟨c,hc⟩:=hcl2 _ (mem_of_lookup e) rfl
   exact XN hc
  have C1:JD s1.heap H' X.stack Nc scope cl vs:=by
   refine ⟨by rw [vlen,S.len],fun x y c e1 e2=>I.ok.inj x y c (cof x c e1) (cof y c e2),hasC,fun x c e=>?_,fun i x v e1 e2=>?_⟩
   ·refine ⟨I'.cell x c (cof x c e),I'.freeC x c (cof x c e),fun z=>?_⟩
    rcases qa7.mp (I.stkSub c z) with z |z
    ·exact I.cne x c (cof x c e) z
    ·obtain ⟨_,o,ho,_⟩:=I.ok.funs.mem z
     exact absurd (AX (AE ho) (I.ok.cab x c (fna x) (cof x c e))) (CP _)
   ·obtain ⟨j,ej,sj⟩:=vat i v e2
    obtain ⟨hN,hf⟩:=S.at_ e1 ej
    have hk:=S.fr _ (mem_of_lookup hf) rfl
    obtain ⟨m0,hn0,hl0⟩:=I'.loc
    obtain ⟨u,r,lk⟩:=hl0 j x v hN sj (by rcases hk with z |z;exact .inr (.inl z);exact .inr (.inr z))
    refine ⟨hf,?_⟩
    rcases lk with ⟨z,_⟩ |⟨_,c,e3,e4⟩
    ·rcases hk with y |y<;>(rw [z] at y;cases y)
    ·obtain ⟨c2,e5⟩:=hasC x hf
     have:=cof x c2 e5
     rw [e3] at this
     cases this
     exact ⟨c,u,e5,e4,r⟩
  obtain ⟨oc,od,kV,doc,pm2,an,cdv,ct,osl,rfl,lk,hcd⟩:=Fn.ex
  have e0:=I'.env0
  have KX:X.K.In s1.heap:=I'.kIn
  have lim:s1.heap.NoLimit:=I'.nolimit
  have hkind2:∀y∈(["_law_call"]:List Str).zip [Value.ref a],(defScope st).names.lookup y.1=some .local∨((defScope st).names.lookup y.1=some .cell∧((cellsFrom (s1.heap.objs.size+1) (defScope st).names []).lookup y.1).isSome=true):=fun y hy=>by
   have:y=(("_law_call":Str),Value.ref a):=by simpa using hy
   subst this
   exact .inl hk0
  have bt:=hbd s1 [.ref a] I'.kIn rfl
  rw [ED] at bt
  refine codeAny_mono (R:=CR (As X.prog X.w X.K) X.stack X.prog X.w H' s1 Q E) ?_ fun r s' hq=>?_
  ·refine codeAny_call_function hr.depth (KX _ _ lk) rfl Sf.co Sf.gen rfl (PySem.W.codeRec_of KX hcd) (bt _ _ _ _ ?_)
   refine wpAny_newFunctionEnv_cells Sf.kind hkind2 fun env he2 s2 x=>?_
   subst he2
   refine ⟨lim.keeps x.toInCall.keep,codeAny_func ?_⟩
   have I2:Inv (AI (As X.prog X.w X.K) X.prog X.w X.K X.mg X.base ["_law_call","_law_word","_law_e"] "_law_said" (defScope st) fs cdv X.A X.stack s1 H' E) [] (L2.start ["_law_call","_law_word","_law_e"] [.ref a]) H' s2:=
    PB Sf hr.hd e0 rfl (.cons rfl .nil) x
   obtain ⟨ps,hps,hca⟩:=code
   have tri:TriplesOk ps.toList:=by
    obtain ⟨_,ps',z1,z2,_⟩:=tab'
    rw [hps] at z1;cases z1;exact z2
   have SX:SaidX (AI (As X.prog X.w X.K) X.prog X.w X.K X.mg X.base ["_law_call","_law_word","_law_e"] "_law_said" (defScope st) fs cdv X.A X.stack s1 H' E) P a c' lpos Nc params body scope cl pm ctv vs:=
    ⟨rfl,hk0,hk1,hk2,⟨c,L.tp⟩,⟨ps,hps,tri,hca⟩,by show s1.heap.get? a=_;rw [hh1];exact ob,no,fun z=>absurd (AX (frLt a z) hsz) (CP _),C1⟩
   have hrS:Room (k+1) (AI (As X.prog X.w X.K) X.prog X.w X.K X.mg X.base ["_law_call","_law_word","_law_e"] "_law_said" (defScope st) fs cdv X.A X.stack s1 H' E).A:=hr.deeper _
   have bx:=Av (A6 (X:=AI (As X.prog X.w X.K) X.prog X.w X.K X.mg X.base ["_law_call","_law_word","_law_e"] "_law_said" (defScope st) fs cdv X.A X.stack s1 H' E) (E:=E) (i:=1) (pos:=p3) (pos':=p1) Sf.nd rfl (Or.inl hk1) (Cd (x:="told") (j:=j1) (pos:=p2)))
    (Av (XM (p4:=p4) (p5:=p5) (p6:=p6) (p7:=p7) (p8:=p8) (p9:=p9) (p10:=p10) (p11:=p11) (p12:=p12) (p13:=p13) (p14:=p14) Ib SX hrS et hsw (hgS _ _) (hgK _ _) hkind S.lam (hbind cl pm (.ref c') ctv) (fun s H E'=>hb a (.ref c') cl _ _ s H E'))
     (Ax (A3 (pos:=p16) (Ae (Gz (i:=1) (x:="_law_word") (pos:=p15) rfl (.inl hk1))))))
   rw [←hst] at bx
   have post:HJ X.K E (Aj (Aq 1 (mC (.str "told"))) (Aj (Lp a vs Fk f) (AL (Ab 1)))) {nx:=fun _ H''=>Q .non H'',rt:=Q} (L2.start ["_law_call","_law_word","_law_e"] [.ref a]) H':=by
    refine ⟨m,[some (.clo a vs ds),none,none],h,hrN,?_,?_⟩
    ·refine ⟨rfl,fun i d e=>?_⟩
     match i,e with
     |0,e=>cases e;exact ⟨.ref a,rfl,by unfold DV;exact ⟨rfl,DVs.keep (AH _) kp dvs⟩⟩
     |1,e=>cases e
     |2,e=>cases e
     |i+3,e=>cases e
    ·have p2:=Post.ahead (AH m) kp pp
     unfold Aj Aq mC
     simp only [Out.bind_ok]
     unfold Lp
     simp only [List.set_cons_succ,List.set_cons_zero,List.getElem?_cons_zero,et0,and_self,if_true]
     unfold NU at p2
     cases ho:f (ds.map some) h with
     |stuck=>rw [ho] at p2;exact p2.elim
     |ok d h1=>
      rw [ho] at p2
      exact fun m' H'' p1 k1 hr' v rv=>p2 v m' H'' p1 k1 hr' rv
     |err Cv fs h1=>
      rw [ho] at p2
      cases Cv with
      |str n t=>
       simp only at p2 ⊢
       split at p2
       ·rename_i hn
        simp only [hn,if_true]
        cases hi:FI fs with
        |none=>rw [hi] at p2;exact p2.elim
        |some is=>
         rw [hi] at p2
         simp only at p2 ⊢
         cases hk:Fk [.exc n is] h1 with
         |stuck=>rw [hk] at p2;exact p2.elim
         |err _ _ _=>rw [hk] at p2;exact p2.elim
         |ok d h2=>
          rw [hk] at p2
          exact fun m' H'' p1 k1 hr' v rv=>p2 v m' H'' p1 k1 hr' rv
       ·exact p2.elim
      |_=>exact p2.elim
   refine wpAny_mono (bx [] s2 _ H' _ I2 post) (fun fl s' hs=>?_) fun e s' hs=>hs
   cases fl with
   |ret u=>
    obtain ⟨v,σ',H'',J,rv,q⟩:=hs
    exact ⟨v,H'',J.os,J.bare,J.base,J.hok,rv,q⟩
   |next=>
    obtain ⟨σ',H'',J,q⟩:=hs
    exact ⟨V.non,H'',J.os,J.bare,J.base,J.hok,rfl,q⟩
   |brk=>
    obtain ⟨_,_,_,q⟩:=hs
    exact False.elim q
   |cont=>
    obtain ⟨_,_,_,q⟩:=hs
    exact False.elim q
  ·cases r with
   |error e=>exact Nr lv pins σ H' s1 e s' I' hq
   |ok fl=>
    cases fl with
    |ret u=>exact I'.after hq
    |next=>exact False.elim hq
    |brk=>exact False.elim hq
    |cont=>exact False.elim hq
 ·exact pp.elim
end
def Im (mg:Str→Option Value) (base:Heap):Prop:=∃bm o,mg "__builtins__"=some (.ref bm)∧bm≠builtinsNs∧base.get? bm=some o∧o.cls=.type "module"∧o.dict=some builtinsNs∧o.data=.plain
theorem XQ {P:Program} {w:World} {K:Frag} {mg mb:Str→Option Value} {k:Nat} {fa a c T:Addr} {fd:FuncData} {x:Str} {F:List D→HD→Out D} {s₁:Shared} {vs:List Value} {ns:List Int}
 (KX:K.In s₁.heap) (hns:s₁.heap.Ns mainGlobals mg) (hb:s₁.heap.Ns builtinsNs mb) (hbb:∀x:Str,x≠"__name__"→mb x=bootBuiltins x) (hlim:s₁.heap.NoLimit) (hg:s₁.gens=#[]) (hbm:Im mg s₁.heap)
 (ha:s₁.heap.get? a=some {cls:=.type "list",data:=.seq vs.toArray}) (hi:IntsAre vs ns) (hl:ns.length≤sizeLine) (hr:Room k callerA)
 (htp:tabP K=some (c,T)) (hcd:codeHdIn K c T=true) (hT:s₁.heap.get? T=some (tabObj #[])) (hKT:K.lookup T=none)
 (FF:∀base:Heap,K.In base→base.Ns mainGlobals mg→Im mg base→FnOk P w K mg base (As P w K) k fa fd [x] (Em K F)) (hbind:∀(s:Shared) (u:Value),BindsTo s fd ⟨[u],[]⟩ [(x,u)])
 (hF:∃h',F [.scr ns] [.tab]=.ok (.bl true) h'):
 codeAny (model P w) callerA (.call (.ref fa) ⟨[.ref a],[]⟩) (fun r s'=>r=.ok (.ret (.bool true))∧OldK s₁.heap s'.heap∧s'.os=s₁.os∧AllBare s'.gens) s₁:=by
 have rv:=L2.vals_ints hi
 have lenV:=hi.length
 have aT:a≠T:=fun z=>by rw [z,hT] at ha;cases ha
 have core:∀H:Hp,(∀b,b=T∨H b=none∨∃o xs,H b=some (.frz o (.lst xs)))→H T=some (.tbl #[])→FzL K H a (ns.map V.int)→HOk P w H s₁.heap→(∀b,H b≠none→b=a∨b=T)→(H a≠none→K.lookup a=none)→
  codeAny (model P w) callerA (.call (.ref fa) ⟨[.ref a],[]⟩) (fun r s'=>r=.ok (.ret (.bool true))∧OldK s₁.heap s'.heap∧s'.os=s₁.os∧AllBare s'.gens) s₁:=by
  intro H hO hHT hS hok hA hK
  have base_of:∀{b:Addr} {o:Obj},s₁.heap.get? b=some o→H b=none→(EG s₁.heap H).get? b=some o:=fun e n=>T6 e n
  have noA:∀{b:Addr} {o:Obj},s₁.heap.get? b=some o→(∀its n,o.data≠.seq its n)→(∀ws,o.data≠.fields ws)→H b=none:=fun {b o} e d1 d2=>by
   cases q:H b with
   |none=>rfl
   |some u=>
    rcases hA b (by rw [q];simp) with e' |e'
    ·subst e'
     rw [ha] at e;cases e
     exact absurd rfl (d1 _ _)
    ·subst e'
     rw [hT] at e;cases e
     exact absurd rfl (d2 _)
  have nsK:∀{b:Addr} {m:Str→Option Value},s₁.heap.Ns b m→(EG s₁.heap H).Ns b m:=fun {b m} ⟨o,es,ep,e,d,r⟩=>⟨o,es,ep,base_of e (noA e (fun _ _ z=>by rw [d] at z;cases z) (fun _ z=>by rw [d] at z;cases z)),d,r⟩
  have hKb:K.In (EG s₁.heap H):=fun b o e=>base_of (KX b o e) (by
   cases q:H b with
   |none=>rfl
   |some u=>
    rcases hA b (by rw [q];simp) with e' |e'
    ·subst e'
     rw [hK (by rw [q];simp)] at e;cases e
    ·subst e'
     rw [hKT] at e;cases e)
  have hM:Mod K mg (EG s₁.heap H):=⟨hKb,nsK hns,⟨mb,nsK hb,hbb⟩,let ⟨mc,h1,h2⟩:=hlim;⟨mc,nsK h1,h2⟩⟩
  have e0:Env0 P w K mg (EG s₁.heap H) callerA [] s₁ H:=⟨rfl,hM,fun b o e=>T7 e,Nat.le_of_eq (T4 _ _),trivial,fun b hb=>absurd (show b∈([]:List Addr) from hb) (by simp),hok,.of_eq hg⟩
  have hBM:Im mg (EG s₁.heap H):=by
   obtain ⟨bm,o,h1,h2,h3,h4,h5,h6⟩:=hbm
   exact ⟨bm,o,h1,h2,base_of h3 (noA h3 (fun _ _ z=>by rw [h6] at z;cases z) (fun _ z=>by rw [h6] at z;cases z)),h4,h5,h6⟩
  have hsp:Em K F [.ref a] H (fun v _=>v=.bl true) fun _ _ _=>False:=by
   obtain ⟨h',e⟩:=hF
   refine ⟨[T],[.scr ns],[.tab],⟨rfl,by simp,fun l cc b e1 e2=>?_⟩,.cons (by simp only [DV];exact ⟨a,rfl,hS⟩) .nil,?_⟩
   ·cases l with
    |zero=>
     simp at e1 e2
     subst e1 e2
     exact ⟨⟨c,htp⟩,#[],hHT,trivial,fun pos cv z=>by simp [codeAmong] at z⟩
    |succ l=>simp at e1
   ·rw [e]
    intro v m' H' _ _ _ r
    simpa [rD,DV] using r
  refine codeAny_mono ((FF _ hKb (nsK hns) hBM).run callerA [] s₁ H ⟨[.ref a],[]⟩ [.ref a] [.ref a] _ _ hr e0 (hbind s₁ (.ref a)) (.cons rfl .nil) hsp) fun r s' h=>?_
  cases r with
  |error e=>
   obtain ⟨_,_,_,_,_,_,_,_,_,_,_,_,q⟩:=h
   exact q.elim
  |ok fl=>
   cases fl with
   |next=>exact False.elim h
   |brk=>exact False.elim h
   |cont=>exact False.elim h
   |ret u=>
    obtain ⟨v,H',os,bare,un,hok',r',q⟩:=h
    have q':v=.bl true:=q
    subst q'
    obtain rfl:u=Value.bool true:=r'
    obtain ⟨more,hT'⟩:=un.tbls T _ hHT
    have hT2:s'.heap.get? T=some (tabObj (#[]++more)):=hok' T _ hT'
    have keepO:∀b o,b≠T→s₁.heap.get? b=some o→s'.heap.get? b=some o:=fun b o hbT e=>by
     cases q:H b with
     |none=>exact un.keep b o e q (by intro z;exact absurd (show b∈([]:List Addr) from z) (by simp)) (by simp)
     |some u=>
      rcases hO b with z |z |⟨ob,xs,z⟩
      ·exact absurd z hbT
      ·rw [q] at z;cases z
      ·have z2:=un.frzs b ob _ z
       obtain ⟨e1,_⟩:=hok b _ z
       obtain ⟨e2,_⟩:=hok' b _ z2
       rw [e] at e1;cases e1
       exact e2
    have hC:=codeHd_of_K KX hcd
    refine ⟨rfl,⟨fun b o e=>?_,fun b o e=>?_⟩,os,bare⟩
    ·by_cases hbT:b=T
     ·subst hbT
      rw [hT] at e
      cases e
      exact .inr (.inl ⟨(hC.tab hT).isCodeTable,rfl,#[],more,rfl,hT2⟩)
     ·exact .inl (keepO b o hbT e)
    ·by_cases hbT:b=T
     ·subst hbT;exact ⟨_,hT2⟩
     ·exact ⟨o,keepO b o hbT e⟩
 cases hk:K.lookup a with
 |some o=>
  have e:=KX a o hk
  rw [ha] at e
  cases e
  refine core (fun b=>if b=T then some (.tbl #[]) else none) (fun b=>?_) (if_pos rfl) (.inr (.inr ⟨_,vs.toArray,_,hk,rfl,rfl,rfl,by rw [A5,lenV];exact hl,by simpa using rv⟩)) (fun b u z=>?_) (fun b z=>?_) fun z=>absurd (if_neg aT) z
  ·by_cases hb:b=T
   ·exact .inl hb
   ·exact .inr (.inl (if_neg hb))
  ·by_cases hb:b=T
   ·have z':=(if_pos hb).symm.trans z
    cases z'
    subst hb
    exact hT
   ·have z':=(if_neg hb).symm.trans z
    cases z'
  ·by_cases hb:b=T
   ·exact .inr hb
   ·exact absurd (if_neg hb) z
 |none=>
  refine core (fun b=>if b=T then some (.tbl #[]) else if b=a then some (.frz {cls:=.type "list",data:=.seq vs.toArray} (.lst (ns.map V.int))) else none) (fun b=>?_) (if_pos rfl) (.inl ⟨{cls:=.type "list",data:=.seq vs.toArray},(if_neg aT).trans (if_pos rfl)⟩) (fun b u z=>?_) (fun b z=>?_) fun _=>hk
  ·by_cases hb:b=T
   ·exact .inl hb
   ·by_cases hba:b=a
    ·exact .inr (.inr ⟨_,_,(if_neg hb).trans (if_pos hba)⟩)
    ·exact .inr (.inl ((if_neg hb).trans (if_neg hba)))
  ·by_cases hb:b=T
   ·have z':=(if_pos hb).symm.trans z
    cases z'
    subst hb
    exact hT
   ·have z1:=(if_neg hb).symm.trans z
    by_cases hba:b=a
    ·have z':=(if_pos hba).symm.trans z1
     cases z'
     subst hba
     exact ⟨ha,by rw [Cm];exact hl,vs,_,rv,ha⟩
    ·have z':=(if_neg hba).symm.trans z1
     cases z'
  ·by_cases hb:b=T
   ·exact .inr hb
   ·by_cases hba:b=a
    ·exact .inl hba
    ·exact absurd ((if_neg hb).trans (if_neg hba)) z
open AutoSeq1 (wpAny_loadPart')
theorem XR:fillsNumberSlot (.type "tuple") "mul"=pure false:=by
 first |exact noFill_tuple_mul' |(unfold fillsNumberSlot;kernel_rfl)
theorem XS:seqRepeat? (.type "tuple")=pure (some (.builtin "tuple.__mul__")):=by
 unfold seqRepeat?
 rw [PySem.seqSlot_of (T:="tuple") (name:="__mul__") (id:="tuple.__mul__") F.slot_tuple_mul.lookup (by decide +kernel),PySem.seqSlot_of (T:="tuple") (name:="__rmul__") (id:="tuple.__rmul__") (by rw [typeLookup_type,builtinLookup_eq_fast];kernel_rfl) (by decide +kernel)]
 rfl
theorem XT (a:Int) (t:Tok) (l:Addr) (items:Array Value) (n:Nat) (dd:Option Addr) (sl:Array (Option Value)):
 Meets (Builtin.«int.__rmul__» ⟨[.int a t,.ref l],[]⟩) (fun _ R s=>s.heap.get? l=some {cls:=.type "tuple",dict:=dd,data:=.seq items n,slots:=sl}∧R (.ok (.ret Value.notImplemented)) s):=
 .of_wp fun prog w A R s h=>by
  obtain ⟨hp,g,d,tk,os⟩:=s;obtain ⟨hl,h⟩:=h
  wp_walk;exact ⟨_,rfl,h⟩
theorem XU (l:Addr) (items:Array Value) (n:Nat) (dd:Option Addr) (sl:Array (Option Value)) (x:Int) (u:Tok) (h1:1<x) (h2:x<2^63) (hne:items.isEmpty=false) (hz:items.size*x.toNat≤sizeLine):
 Meets (Builtin.«tuple.__mul__» ⟨[.ref l,.int x u],[]⟩) (fun _ R s=>s.heap.get? l=some {cls:=.type "tuple",dict:=dd,data:=.seq items n,slots:=sl}∧R (.ok (.ret (Value.ref s.heap.objs.size))) {s with heap:=s.heap.push {cls:=Value.type "tuple",data:=Data.seq (List.foldl (fun x1 x2=>x1++x2) #[] (List.replicate x.toNat items))}}):=
 .of_wp fun prog w A R s h=>by
  obtain ⟨hp,g,d,tk,os⟩:=s;obtain ⟨hl,h⟩:=h
  have c1:(decide (x < -2^63)||decide (x≥2^63))=false:=by simp;omega
  have c2:(items.isEmpty||x==1)=false:=by
   rw [hne,Bool.false_or]
   exact beq_eq_false_iff_ne.mpr (by omega)
  have c3:(decide (x≤0)||items.isEmpty)=false:=by
   rw [hne,Bool.or_false]
   exact decide_eq_false (by omega)
  have hx:(x.toNat:Int)=x:=Int.toNat_of_nonneg (by omega)
  have hz':(items.size:Int)*x≤sizeLine:=by rw [←hx];exact_mod_cast hz
  have c4:¬((items.size:Int)*x>(2^63 - 1) / 8):=by
   have:(sizeLine:Int)≤(2^63 - 1) / 8:=by decide
   omega
  have c5:Builtin.Tuple.tupleTooMany ((items.size:Int)*x)=false:=by
   unfold Builtin.Tuple.tupleTooMany
   exact decide_eq_false (by omega)
  have c6:(List.foldl (fun x1 x2=>x1++x2) #[] (List.replicate x.toNat items)).size≤sizeLine:=by
   have f0:=Kz items.toList x.toNat []
   rw [HA] at f0
   have:List.foldl (fun x1 x2=>x1++x2) #[] (List.replicate x.toNat items)=(List.replicate x.toNat items.toList).flatten.toArray:=by simpa using f0
   rw [this,A5,KA,FS]
   simpa using hz
  wp_walk using wpAny_loadPart' hl
  rw [c1]
  simp only [CH,if_false]
  refine wpAny_bind ?_
  unfold Builtin.Tuple.tupleItemsOf
  wp_walk using wpAny_loadPart' hl
  rw [c2]
  simp only [CH,if_false]
  rw [c3]
  simp only [CH,if_false]
  rw [if_neg c4,c5]
  simp only [CH,if_false]
  refine wpAny_bind (wpAny_newObj_type (wpAny_pure ⟨_,rfl,h⟩) c6)
theorem XW (l:Addr) (items:Array Value) (n:Nat) (dd:Option Addr) (sl:Array (Option Value)) (u:Tok):
 Meets (Builtin.«tuple.__mul__» ⟨[.ref l,.int 1 u],[]⟩) (fun _ R s=>s.heap.get? l=some {cls:=.type "tuple",dict:=dd,data:=.seq items n,slots:=sl}∧R (.ok (.ret (Value.ref l))) s):=
 .of_wp fun prog w A R s h=>by
  obtain ⟨hp,g,d,tk,os⟩:=s;obtain ⟨hl,h⟩:=h
  have c1:(decide ((1:Int) < -2^63)||decide ((1:Int)≥2^63))=false:=by decide
  have c2:(items.isEmpty||(1:Int)==1)=true:=by simp
  wp_walk using wpAny_loadPart' hl
  exact ⟨_,rfl,h⟩
theorem XX (l:Addr) (items:Array Value) (n:Nat) (dd:Option Addr) (sl:Array (Option Value)) (x:Int) (u:Tok) (h1:-(2^63)≤x) (h2:x≤0) (hne:items.isEmpty=false):
 Meets (Builtin.«tuple.__mul__» ⟨[.ref l,.int x u],[]⟩) (fun _ R s=>s.heap.get? l=some {cls:=.type "tuple",dict:=dd,data:=.seq items n,slots:=sl}∧R (.ok (.ret (Value.ref s.heap.objs.size))) {s with heap:=s.heap.push {cls:=Value.type "tuple",data:=Data.seq #[]}}):=
 .of_wp fun prog w A R s h=>by
  obtain ⟨hp,g,d,tk,os⟩:=s;obtain ⟨hl,h⟩:=h
  have c1:(decide (x < -2^63)||decide (x≥2^63))=false:=by simp;omega
  have c2:(items.isEmpty||x==1)=false:=by
   rw [hne,Bool.false_or]
   exact beq_eq_false_iff_ne.mpr (by omega)
  have c3:(decide (x≤0)||items.isEmpty)=true:=by
   rw [hne,Bool.or_false]
   exact decide_eq_true h2
  wp_walk using wpAny_loadPart' hl
  rw [c1]
  simp only [CH,if_false]
  refine wpAny_bind ?_
  unfold Builtin.Tuple.tupleItemsOf
  wp_walk using wpAny_loadPart' hl
  rw [c2]
  simp only [CH,if_false]
  rw [c3]
  simp only [if_true]
  refine wpAny_bind (wpAny_newObj_type (wpAny_pure ⟨_,rfl,h⟩) (by show (#[]:Array Value).size≤sizeLine;simp))
section
variable {X:Cx} {E:XK}
def XY (K:Frag):R2:=fun x y H Q=>∃l k xs,x=.ref l∧y=.int k∧H l=some (.tup xs)∧xs≠[]∧-(2^63)≤k∧k<2^63∧xs.length*k.toNat≤sizeLine∧(k=1→Q (.ref l) H)∧
 ∀p,H p=none→Q (.ref p) (Ak H p (.tup (List.replicate k.toNat xs).flatten))
theorem Inv.tnew {pins:List (Addr×Obj)} {σ:L2.St} {H:Hp} {s:Shared} {ys:List V} {its:List Value} {t':Nat} (I:Inv X pins σ H s) (hv:Vals ys its) (hz:ys.length≤sizeLine):
 Inv X pins σ (Ak H s.heap.objs.size (.tup ys)) {s with heap:=s.heap.push {cls:=.type "tuple",data:=.seq its.toArray},toks:=t'}:=
 I.laid (fun _ _ q=>AJ _ q) (AM _) ⟨hz,its,hv,⟨_,Bz _ rfl,rfl,0,rfl⟩,NoDict.new⟩
theorem op_repT:OpR X (binaryOp .Mult) (XY X.K):=by
 intro pins s σ H x y v u Q I rx ry h
 obtain ⟨l,k,xs,rfl,rfl,hH,hne,h1,h2,hz,q1,q⟩:=h
 cases rx
 obtain ⟨t,rfl⟩:=ry
 obtain ⟨z,its,r,⟨o,ho,hc,n,hd⟩,_⟩:=(show ObjOk X.prog X.w H s.heap l (.tup xs) from I.hok l _ hH)
 obtain ⟨oc,dd,dat,sl⟩:=o
 simp only at hc hd
 subst hc hd
 have hl:=r.length
 have hine:its.toArray.isEmpty=false:=by
  cases its with
  |nil=>exfalso;cases xs with
   |nil=>exact hne rfl
   |cons _ _=>simp at hl
  |cons a b=>simp
 have mul:∀{Q':Value→Shared→Prop},wpAny (model X.prog X.w) X.A (call (.builtin "tuple.__mul__") [.ref l,.int k t]) Q' X.xe s→wpAny (model X.prog X.w) X.A (binaryOp .Mult (.ref l) (.int k t)) Q' X.xe s:=fun {Q'} hq=>
  wpAny_binaryOp_repeat_ref (T:="tuple") (U:="int") (by decide) ⟨_,ho,rfl⟩ (fun s'=>typeIs_int s' k t) XR F.fills_int_mul F.slot_int_rmul XS F.slot_int_index.lookup
   (call_meets F.slot_int_rmul (typeIs_int s k t) F.entry_int_rmul (F.args_int_rmul_2 _ _) (XT k t l its.toArray n dd sl) ⟨ho,rfl,⟨_,ho,rfl⟩,hq⟩)
 refine mul ?_
 rcases Int.lt_trichotomy k 1 with hk |hk |hk
 ·refine call_meets F.slot_tuple_mul ⟨_,ho,rfl⟩ F.entry_tuple_mul (F.args_tuple_mul_2 _ _) (XX l its.toArray n dd sl k t h1 (by omega) hine) ⟨ho,?_⟩
  have e:(List.replicate k.toNat xs).flatten=[]:=by
   have:k.toNat=0:=by omega
   rw [this];rfl
  have:=q _ I.fresh
  rw [e] at this
  exact ⟨.ref _,_,LS.Inv.tnew (its:=[]) (t':=s.toks) I .nil (EF _),rfl,this⟩
 ·subst hk
  refine call_meets F.slot_tuple_mul ⟨_,ho,rfl⟩ F.entry_tuple_mul (F.args_tuple_mul_2 _ _) (XW l its.toArray n dd sl t) ⟨ho,?_⟩
  exact ⟨.ref l,H,I,rfl,q1 rfl⟩
 ·refine call_meets F.slot_tuple_mul ⟨_,ho,rfl⟩ F.entry_tuple_mul (F.args_tuple_mul_2 _ _) (XU l its.toArray n dd sl k t hk h2 hine (by rw [A5,←hl];exact hz)) ⟨ho,?_⟩
  have f0:=Kz its k.toNat []
  rw [HA] at f0
  have f1:List.foldl (fun x1 x2=>x1++x2) #[] (List.replicate k.toNat its.toArray)=(List.replicate k.toNat its).flatten.toArray:=f0
  rw [f1]
  exact ⟨.ref _,_,LS.Inv.tnew (t':=s.toks) I (r.rep k.toNat) (by rw [KA,FS];exact hz),rfl,q _ I.fresh⟩
noncomputable def BY:D→D→HD→Out D:=fun x y h=>match x,y with
 |.tup xs,.int k=>@ite _ (xs≠[]∧-(2^63)≤k∧k<2^63∧xs.length*k.toNat≤sizeLine) (Classical.propDecidable _) (.ok (.tup (List.replicate k.toNat xs).flatten) h) .stuck
 |_,_=>Ej x y h
theorem DX:BO X (binaryOp .Mult) BY:=by
 obtain ⟨r0,hr0,i0⟩:=Wr (X:=X)
 refine ⟨_,op_repT.or hr0,fun m H h E x y v u Q hr rx ry q=>?_⟩
 unfold BY at q
 split at q
 ·rename_i xs k
  split at q
  ·rename_i hc
   obtain ⟨hne,h1,h2,hz⟩:=hc
   simp only [DV] at rx ry
   obtain ⟨a,vs,rfl,ha,dv⟩:=rx
   subst ry
   refine .inl ⟨a,k,vs,rfl,rfl,ha,?_,h1,h2,by rw [←dv.len];exact hz,fun e=>?_,?_⟩
   ·intro e;have:=dv.len;rw [e] at this;exact hne (qc4.mp this)
   ·subst e
    refine Bj hr q ?_
    simp only [DV]
    exact ⟨a,vs,rfl,ha,by simpa using dv⟩
   ·exact Jh hr (DVs.rep dv k.toNat) q
  ·exact q.elim
 ·exact .inr (i0 m H h E x y v u Q hr rx ry q)
end
end LS
namespace LS
open PySem PySem.Spec PyProof.Rows L2 PySem.W
section
variable {X:Cx} {E:XK}
abbrev MJ:=Str→Ah→HD→Out Str
def Io (X:Cx) (E:XK) (parts:List Expr) (fj:MJ):Prop:=
 ∀(pins:List (Addr×Obj)) (s:Shared) (σ:L2.St) (H:Hp) (acc:Str) (Q:Str→Hp→Prop),Inv X pins σ H s→(∃m ρ h,HR X.K m h H∧ER X.K m H ρ σ∧Post X.K (fun _ _ (a b:Str)=>a=b) m H E Q (fj acc ρ h))→
  wpAny (model X.prog X.w) X.A (joinParts acc (evalEach parts X.env)) (fun v s'=>∃out t H',v=.str out t∧Inv X pins σ H' s'∧Q out H') X.xe s
def GR:MJ:=fun acc _ h=>if acc.length≤sizeLine then .ok acc h else .stuck
def FJ (y:Str) (r:MJ):MJ:=fun acc ρ h=>if (acc++y).length≤sizeLine then r (acc++y) ρ h else .stuck
def Gj (f:ME) (r:MJ):MJ:=fun acc ρ h=>(f ρ h).bind fun d h1=>match d with
 |.int i=>if i.natAbs.log2<1920∧(acc++(toString i:Str)).length≤sizeLine then r (acc++(toString i:Str)) ρ h1 else .stuck
 |_=>.stuck
theorem RO:Io X E [] GR:=fun pins s σ H acc Q I z1_=>by
 obtain ⟨m,ρ,h,hr,er,p⟩:=z1_
 unfold GR at p
 split at p
 ·rename_i hz
  exact joinParts_nil ⟨acc,_,H,rfl,I.tok _,p acc m H (AH _) (.refl _) hr rfl⟩ hz
 ·exact p.elim
theorem Lq {y:Str} {j:Nat} {pos:Pos} {parts:List Expr} {r:MJ} (hp:Io X E parts r):Io X E (.Constant (.str y) j pos::parts) (FJ y r):=fun pins s σ H acc Q I z2_=>by
 obtain ⟨m,ρ,h,hr,er,p⟩:=z2_
 unfold FJ at p
 split at p
 ·rename_i hz
  exact joinParts_cons (Calls.Constant_str ⟨hz,hp pins _ σ H _ Q (I.tok _) ⟨m,ρ,h,hr,er,p⟩⟩)
 ·exact p.elim
theorem Lr {e:Expr} {pos:Pos} {parts:List Expr} {f:ME} {r:MJ} (he:Ev X E e f) (hp:Io X E parts r):Io X E (.FormattedValue e (-1) none pos::parts) (Gj f r):=fun pins s σ H acc Q I z3_=>by
 obtain ⟨m,ρ,h,hr,er,p⟩:=z3_
 have post:tD X.K E f σ H (fun v H1=>∃i,v=.int i∧i.natAbs.log2<1920∧(acc++(toString i:Str)).length≤sizeLine∧∃m1 h1,HR X.K m1 h1 H1∧ER X.K m1 H1 ρ σ∧Post X.K (fun _ _ (a b:Str)=>a=b) m1 H1 E Q (r (acc++(toString i:Str)) ρ h1)):=by
  refine ⟨m,ρ,h,hr,er,Post.bind p fun d h1 v m1 H1 eo p1 k1 hr1 r1 q1=>?_⟩
  clear eo
  split at q1
  ·rename_i i
   split at q1
   ·rename_i hz
    simp only [rD,DV] at r1
    exact ⟨i,r1,hz.1,hz.2,m1,h1,hr1,er.keep p1 k1,q1⟩
   ·exact q1.elim
  ·exact q1.elim
 refine joinParts_cons (FormattedValue_plain (Aw (he pins s σ H _ I post) fun u s1 z4_=>?_))
 obtain ⟨v,H1,I1,rv,i,ev,hd,hz,m1,h1,hr1,er1,q1⟩:=z4_
 subst ev
 obtain ⟨t,rfl⟩:=rv
 exact formatField_int_small hd ⟨hz,hp pins _ σ H1 _ Q (I1.tok _) ⟨m1,ρ,h1,hr1,er1,q1⟩⟩
def Ip (fj:MJ):ME:=fun ρ h=>(fj Str.empty ρ h).bind fun x h1=>.ok (.str x) h1
theorem RP {v1 v2:Expr} {rest:List Expr} {pos:Pos} {fj:MJ} (hj:Io X E (v1::v2::rest) fj):Ev X E (.JoinedStr (v1::v2::rest) pos) (Ip fj):=fun pins s σ H Q I z5_=>by
 obtain ⟨m,ρ,h,hr,er,p⟩:=z5_
 refine JoinedStr_many (Aw (hj pins s σ H Str.empty (fun out H1=>Q (.str out) H1) I ⟨m,ρ,h,hr,er,Post.bind p fun a h1 b m1 H1 _ p1 k1 hr1 r1 q1=>?_⟩) fun v s1 z6_=>by obtain ⟨out,t,H1,ev,I1,q⟩:=z6_;exact (⟨.str out,H1,I1,⟨t,ev⟩,q⟩))
 cases r1
 exact Bj hr1 q1 (by simp [DV])
def BN:D→HD→Out D:=fun x h=>match Bk h 8 x with
 |some p=>if p.showable=true∧p.hasDict=false∧p.depth≤40∧p.shown.length≤sizeLine then .ok (.str p.shown) h else .stuck
 |none=>.stuck
theorem Gk (hu:X.A.units+64<cLine) (hg:X.A.guards=some []):CJ X (.builtin "repr") (An BN):=by
 refine RD (fun ds h=>?_) fun pins s σ H m h ds vs us Q I hr rd r q=>Fv rd q fun x v ev rx q=>?_
 ·unfold An BN
  repeat' split
  all_goals trivial
 ·subst ev
  obtain ⟨u,rfl,ru⟩:=EH r
  unfold BN at q
  split at q
  ·rename_i p e
   split at q
   ·rename_i hc
    obtain ⟨h1,h2,h3,h4⟩:=hc
    obtain ⟨as,hd⟩:=MX I.hok hr 8 x v u p rx ru e
    have AW:∀(h':Heap) (t tk:Tok),(∀b o,s.heap.get? b=some o→h'.get? b=some o)→EP X pins σ Q (.str p.shown t) {s with heap:=h',toks:=tk}:=fun h' t tk hk=>⟨.str p.shown,H,I.kept hk,⟨t,rfl⟩,Bj hr q (by simp [DV])⟩
    cases hd with
    |list a1 a2 a3 a4=>exact repr_of_reads' (.list a1 a2 a3 a4) h1 (fun z=>by rw [h2] at z;cases z) hg (by omega) (fun _ _ e=>e) AW h4
    |tuple a1 a2 a3 a4=>exact repr_of_reads' (.tuple a1 a2 a3 a4) h1 (fun z=>by rw [h2] at z;cases z) hg (by omega) (fun _ _ e=>e) AW h4
    |dict a1 a2 a3 a4 a5=>cases h2
    |int i t=>
     have h1':i.natAbs.log2<1920:=by simpa [PyData.showable] using h1
     exact PySem.P.repr_of_int h1' (AW s.heap _ _ fun _ _ e=>e)
    |none=>exact PySem.P.repr_of_none (AW s.heap _ _ fun _ _ e=>e)
    |bool b=>exact PySem.P.repr_of_bool (AW s.heap _ _ fun _ _ e=>e)
    |str x t=>exact PySem.P.repr_of_str (AW s.heap _ _ fun _ _ e=>e) (by simpa [PyData.shown] using h4)
   ·exact q.elim
  ·exact q.elim
def DY:D→D→HD→Out D:=fun x y h=>match x,y with
 |.str a,.str b=>.ok (.bl (a==b)) h
 |_,_=>Jl x y h
def Cy:D→D→HD→Out D:=fun x y h=>match x,y with
 |.str a,.str b=>.ok (.bl (!(a==b))) h
 |_,_=>F5 x y h
theorem Ls (hu:X.A.units+64<cLine):BO X (compareOp .Eq) DY:=by
 obtain ⟨r0,hr0,i0⟩:=VZ (X:=X) hu
 refine ⟨_,op_eq.or hr0,fun m H h E x y v u Q hr rx ry q=>?_⟩
 unfold DY at q
 split at q
 ·simp only [DV] at rx ry
  subst rx ry
  exact .inl ⟨rfl,by rw [Kv];exact Bj hr q (by simp [DV])⟩
 ·exact .inr (i0 m H h E x y v u Q hr rx ry q)
theorem Iq (hu:X.A.units+64<cLine):BO X (compareOp .NotEq) Cy:=by
 obtain ⟨r0,hr0,i0⟩:=V0 (X:=X) hu
 refine ⟨_,op_ne.or hr0,fun m H h E x y v u Q hr rx ry q=>?_⟩
 unfold Cy at q
 split at q
 ·simp only [DV] at rx ry
  subst rx ry
  exact .inl ⟨rfl,by rw [Kv];exact Bj hr q (by simp [DV])⟩
 ·exact .inr (i0 m H h E x y v u Q hr rx ry q)
def Lu:List Nat→List D→Ah→Option Ah
 |[],[],ρ=>some ρ
 |i::is,d::ds,ρ=>Lu is ds (ρ.set i (some d))
 |_,_,_=>none
def JE (is:List Nat):MG:=fun d ρ=>match d with
 |.tup ds=>Lu is ds ρ
 |_=>none
def NV:List Nat→FV
 |[]=>GB
 |i::is=>DN (Cu i) (NV is)
theorem RQ:∀{is:List Nat} {ds:List D} {ρ ρ':Ah},Lu is ds ρ=some ρ'→ds.length=is.length
 |[],[],_,_,_=>rfl
 |[],_::_,_,_,e=>by cases e
 |_::_,[],_,_,e=>by cases e
 |_::is,_::ds,_,_,e=>by simpa using RQ (is:=is) (ds:=ds) e
theorem RS {K:Frag} {m:List Addr} {H:Hp}:∀{is:List Nat} {ds:List D} {vs:List V} {ρ ρ':Ah} {σ:L2.St} {Q:L2.St→Hp→Prop},DVs K m H ds vs→ER K m H ρ σ→Lu is ds ρ=some ρ'→(∀σ',ER K m H ρ' σ'→Q σ' H)→NV is vs σ H Q
 |[],[],vs,ρ,ρ',σ,Q,r,er,e,q=>by
  simp only [DVs] at r
  subst r
  cases e
  exact ⟨rfl,q σ er⟩
 |[],_::_,_,_,_,_,_,_,_,e,_=>by cases e
 |_::_,[],_,_,_,_,_,_,_,e,_=>by cases e
 |i::is,d::ds,vs,ρ,ρ',σ,Q,r,er,e,q=>by
  simp only [DVs] at r
  obtain ⟨v,w,rfl,rv,rw'⟩:=r
  exact ⟨v,w,rfl,RS rw' (er.set rv) e q⟩
theorem XZ {es:List Expr} {is:List Nat} {kt:Nat} {pos:Pos} (h:PG X (.Tuple es kt pos) (GC X.K is.length (NV is))):Jp X (.Tuple es kt pos) (JE is):=⟨_,h,fun m H d v ρ σ ρ' Q r er e q=>by
 unfold JE at e
 split at e
 ·rename_i ds
  simp only [DV] at r
  obtain ⟨p,vs,rfl,hp,dv⟩:=r
  exact ⟨p,vs,rfl,SqT.of hp,by rw [←dv.len];exact RQ e,RS dv er e q⟩
 ·cases e⟩
end
theorem NW {K:Frag} (h:etOk K=true) {n:Str} (hn:n∈excNames):∃C,nsIn K mainGlobals n=some (some (.ref C)):=by
 unfold etOk at h
 split at h
 ·rename_i S hS
  have h1:=qaN.mp h n hn
  cases e:E3 K n with
  |none=>rw [e] at h1;cases h1
  |some C=>exact ⟨C,RB e⟩
 ·cases h
section
variable {X:Cx} {E:XK}
theorem E6 {x:Str} {pos:Pos} (et:etOk X.K=true) (hn:x∈excNames) (hg:Gl X x:=by rfl) (hd:(x==("__debug__":Str))=false:=by decide):Ev X E (.Name x pos) (mC (.glo x)):=by
 obtain ⟨a,h⟩:=NW et hn
 exact RC hg h hd
theorem RT {x:Str} {e:Expr} {es:List Expr} {fa:MA} {np cpos pos:Pos} (et:etOk X.K=true) (hn:x∈excNames) (hne:x≠"TooMany") (hg:Gl X x) (hc:X.calm=true) (th:Nw X E) (ha:Cb X E (e::es) fa)
 (hdb:(x==("__debug__":Str))=false:=by decide) (he:starEach (e::es) X.env=(false,eval e X.env)::starEach es X.env:=by rfl) (hpl:(backTo cpos (starEach (e::es) X.env)).any (·.1)=false:=by rfl):
 Ex X E (.Raise (some (.Call (.Name x np) (e::es) [] cpos)) none pos) (Ic x fa):=by
 obtain ⟨C,h⟩:=NW et hn
 exact WO ((Lm et hn h).at_ hne) h hg hc th ha hdb he hpl
end
theorem CaM.mono {P:Program} {w:World} {K:Frag} {mg:Str→Option Value} {base:Heap} {x:Str} {j k:Nat} {F:List D→HD→Out D} (C:CaM P w K mg base x j F) (h:j≤k):CaM P w K mg base x k F:=by
 obtain ⟨f,fd,ps,G,r⟩:=C.ex
 exact ⟨f,fd,ps,⟨fun A outer s H args us vs Q hr=>G.run A outer s H args us vs Q (hr.mono h)⟩,r⟩
structure SaidD (K:Frag) (mg:Str→Option Value) (st:Stmt) (fs:Addr) (fd:FuncData):Prop where
 fn:Fun K "_law_said" "_law_said" st fs fd
 bd:Binds K fd ["_law_call"] []
 mg:mg "_law_said"=some (.ref fs)
structure RU (st:Stmt):Prop where
 sc:AV ["_law_call","_law_word","_law_e"] ["_law_call"] (defScope st)
 k0:(defScope st).names.lookup ("_law_call":Str)=some .local
 k1:(defScope st).names.lookup ("_law_word":Str)=some .local
 k2:(defScope st).names.lookup ("_law_e":Str)=some .local
 gS:(defScope st).names.lookup ("SwitchError":Str)=some .globalImplicit
 gK:(defScope st).names.lookup ("_law_kind":Str)=some .globalImplicit
 tx:∃p1 j1 p2 p3 p4 p5 p6 p7 p8 p9 p10 p11 p12 p13 p14 p15 p16,defBody st=[.Assign [.Name "_law_word" p1] (.Constant (.str "told") j1 p2) p3,.Try [.Expr (.Call (.Name "_law_call" p4) [] [] p5) p6] [.ExceptHandler (some (.Name "SwitchError" p7)) (some "_law_e") [.Assign [.Name "_law_word" p8] (.Call (.Name "_law_kind" p9) [.Name "_law_e" p10] [] p11) p12] p13] [] [] p14,.Return (some (.Name "_law_word" p15)) p16]
theorem RV {X:Cx} {E:XK} {c P:Addr} {Nc:List Str} {cs:List Nat} {params:Arguments} {body:Expr} {scope:Scope} {k kk:Nat} {Fk:List D→HD→Out D} {f:ME} {fs:Addr} {fd:FuncData} {st:Stmt} {lpos p pos:Pos}
 (L:LamX X c P) (fna:∀x,X.fn x=true) (hr:Room kk X.A) (lv:Lv X E) (et:etOk X.K=true) (Sd:SaidD X.K X.mg st fs fd) (St:RU st) (hkind:CaM X.prog X.w X.K X.mg X.base "_law_kind" k Fk) (S:LSc X scope Nc cs)
 (hb:∀(a:Addr) (cd:Value) (cl:List (Str×Addr)) (A:Around) (outer:List Env) (s:Shared) (H:Hp) (E':XK),Room k (A.deeper (envX By scope s.heap.objs.size a cd cl))→Ev (FH X.prog X.w X.K X.mg X.base Nc scope a cd cl A outer s H E') E' body f)
 (hg:Gl X "_law_said") (hkk:k+2≤kk:=by decide) (hdef:defaultsOf params X.env=([],[]):=by rfl)
 (hbind:∀(cl:List (Str×Addr)) (pm cv ctv:Value),bindArgs (kla_fn "<lambda>" By params body scope cl pm cv ctv) ⟨[],[]⟩=pure []:=by exact fun _ _ _ _=>rfl)
 (he:starEach [.Lambda params body scope lpos] X.env=(false,eval (.Lambda params body scope lpos) X.env)::starEach [] X.env:=by rfl) (hpl:(backTo pos (starEach [] X.env)).any (·.1)=false:=by rfl):
 Ev X E (.Call (.Name "_law_said" p) [.Lambda params body scope lpos] [] pos) (E5 cs Fk f):=by
 obtain ⟨p1,j1,p2,p3,p4,p5,p6,p7,p8,p9,p10,p11,p12,p13,p14,p15,p16,hst⟩:=St.tx
 exact XO L fna (hr.mono hkk) lv et (NW et (by decide +kernel)) Sd.fn Sd.bd Sd.mg Sd.fn.kp St.sc St.k0 St.k1 St.k2 (fun _ _=>St.gS) (fun _ _=>St.gK) hst hkind hg S hdef hbind hb he hpl
theorem X0 {P:Program} {w:World} {K:Frag} {mg:Str→Option Value} {base:Heap} {x qual:Str} {st:Stmt} {f:Addr} {kV doc pm cdv ct oc:Value} {an od:Option Addr} {osl:Array (Option Value)} {N ps:List Str} {k:Nat} {F:List D→HD→Out D} {g:MS}
 (lk:K.lookup f=some ⟨oc,od,.func (PySem.W.fnOf x qual (defArgs st) (defBody st) (defScope st) .none kV doc pm an cdv ct),osl⟩) (hcd:PySem.W.codeIn K cdv qual=true) (S:AV N ps (defScope st)) (ar:Ar ps.length F)
 (hg:∀ds h,ds.length=ps.length→F ds h=Am N.length g ds h)
 (hbody:∀(A:Around) (outer:List Env) (s:Shared) (H:Hp) (E:XK),Room k (A.deeper (envOfC qual (defScope st) s.heap.objs.size f cdv))→AQ (AI (As P w K) P w K mg base N qual (defScope st) f cdv A outer s H E) E (defBody st) g):
 FnOk P w K mg base (As P w K) (k+1) f (PySem.W.fnOf x qual (defArgs st) (defBody st) (defScope st) .none kV doc pm an cdv ct) ps (Em K F):=by
 refine ML lk hcd S (fun vs H Q E h=>Lf ar h) fun A outer s H vs Q E hr h=>?_
 refine ⟨_,hbody A outer s H E hr,?_⟩
 have hl:=Lf ar h
 obtain ⟨m,ds,hd,hr1,r,p⟩:=h
 have hld:ds.length=ps.length:=by rw [r.len];exact hl
 refine ⟨m,ds.map some++List.replicate (N.length - ds.length) none,hd,hr1,ER.start r,?_⟩
 rw [hg ds hd hld] at p
 unfold Am at p
 cases o:g (ds.map some++List.replicate (N.length - ds.length) none) hd with
 |stuck=>rw [o] at p;exact p
 |err C fs h1=>rw [o] at p;exact p
 |ok a h1=>
  rw [o] at p
  obtain ⟨fl,ρ1⟩:=a
  intro m1 H1 p1 k1 hr1
  cases fl with
  |nx=>exact fun σ er=>p .non m1 H1 p1 k1 hr1 (by simp [rD,DV])
  |bk=>exact False.elim p
  |ct=>exact False.elim p
  |rt d=>exact fun v rv=>p v m1 H1 p1 k1 hr1 rv
def ZdC (K:Frag) (T:Addr):Bool:=match tabP K with
 |some (c,T')=>T'==T&&codeHdIn K c T
 |none=>false
end LS
namespace LS
open PySem PySem.Spec PyProof.Rows L2
def We {α:Type} (o:Out α) (Q:α→HD→Prop) (R:Str→List (Str×D)→HD→Prop):Prop:=match o with
 |.ok a h=>Q a h
 |.err (.str n _) fs h=>R n fs h
 |_=>False
section
variable {α β:Type} {o:Out α} {Q Q':α→HD→Prop} {R R':Str→List (Str×D)→HD→Prop}
@[simp] theorem ZdD (a:α) (h:HD):We (.ok a h) Q R=Q a h:=rfl
@[simp] theorem ZdE (n:Str) (t:Tok) (fs:List (Str×D)) (h:HD):We (.err (.str n t) fs h:Out α) Q R=R n fs h:=rfl
@[simp] theorem ZdF:We .stuck Q R=False:=rfl
theorem Cz {k:α→HD→Out β} {Q:β→HD→Prop}:We (o.bind k) Q R=We o (fun a h=>We (k a h) Q R) R:=by
 cases o with
 |ok a h=>rfl
 |err C fs h=>cases C<;>rfl
 |stuck=>rfl
theorem Wp.we (h:Wp o Q):We o Q R:=by
 cases o with
 |ok a h'=>exact h
 |_=>exact h.elim
theorem We.mono (h:We o Q R) (f:∀a h,Q a h→Q' a h) (g:∀n fs h,R n fs h→R' n fs h):We o Q' R':=by
 cases o with
 |ok a h'=>exact f _ _ h
 |err C fs h'=>cases C<;>first |exact g _ _ _ h |exact h.elim
 |stuck=>exact h
theorem Pu.we {h:HD} {a:α} (p:Pu o h a) (k:∀h',Sm h h'→Q a h'):We o Q R:=Wp.we (p.wp k)
end
def Er {α:Type} (o:Out α) (h:HD) (n:Str):Prop:=We o (fun _ _=>False) fun n' fs h'=>n'=n∧fs=[]∧Sm h h'
theorem Er.we {α:Type} {o:Out α} {h:HD} {n:Str} {Q:α→HD→Prop} {R:Str→List (Str×D)→HD→Prop} (e:Er o h n) (k:∀h',Sm h h'→R n [] h'):We o Q R:=We.mono e (fun _ _ z=>z.elim) fun n' fs h' z1_=>by obtain ⟨rfl,rfl,s⟩:=z1_;exact k h' s
theorem DZ {N:Nat} {g:MS} {ds:List D} {h:HD} {Q:D→HD→Prop} {R:Str→List (Str×D)→HD→Prop}:We (Am N g ds h) Q R=We (g (ds.map some++List.replicate (N - ds.length) none) h) (Jv Q) R:=by
 unfold Am
 cases o:g (ds.map some++List.replicate (N - ds.length) none) h with
 |ok a h1=>
  obtain ⟨fl,ρ⟩:=a
  cases fl<;>rfl
 |err C fs h1=>cases C<;>rfl
 |stuck=>rfl
section
variable {ρ:Ah} {h:HD} {Q:Fl×Ah→HD→Prop} {QD:D→HD→Prop} {QB:Bool→HD→Prop} {R:Str→List (Str×D)→HD→Prop} {g g1 g2:MS} {f:ME} {t:MT} {fa:MA} {F:List D→HD→Out D}
def NX (g2:MS) (Q:Fl×Ah→HD→Prop) (R:Str→List (Str×D)→HD→Prop):Fl×Ah→HD→Prop
 |(.nx,ρ),h=>We (g2 ρ h) Q R
 |y,h=>Q y h
@[simp] theorem ZdG:NX g2 Q R (.nx,ρ) h=We (g2 ρ h) Q R:=rfl
@[simp] theorem ZdH {d:D}:NX g2 Q R (.rt d,ρ) h=Q (.rt d,ρ) h:=rfl
@[simp] theorem ZdI:We (Aj g1 g2 ρ h) Q R=We (g1 ρ h) (NX g2 Q R) R:=by
  unfold Aj
  rw [Cz]
  congr 1
  funext x h1
  obtain ⟨fl,ρ1⟩:=x
  cases fl<;>rfl
@[simp] theorem ZdJ:We (BH ρ h) Q R=Q (.nx,ρ) h:=rfl
@[simp] theorem ZdK:We (Ce f ρ h) Q R=We (f ρ h) (fun _ h1=>Q (.nx,ρ) h1) R:=by unfold Ce;rw [Cz];rfl
@[simp] theorem ZdL:We (AL f ρ h) Q R=We (f ρ h) (fun d h1=>Q (.rt d,ρ) h1) R:=by unfold AL;rw [Cz];rfl
@[simp] theorem ZdM {i:Nat}:We (Aq i f ρ h) Q R=We (f ρ h) (fun d h1=>Q (.nx,ρ.set i (some d)) h1) R:=by unfold Aq;rw [Cz];rfl
@[simp] theorem ZdN:We (Bv t g1 g2 ρ h) Q R=We (t ρ h) (fun b h1=>We (if b=true then g1 ρ h1 else g2 ρ h1) Q R) R:=by unfold Bv;rw [Cz]
@[simp] theorem ZdO:We (Ag F fa ρ h) QD R=We (fa ρ h) (fun ds h1=>We (F ds h1) QD R) R:=by unfold Ag;rw [Cz]
@[simp] theorem ZdP {n:Str}:We (Ic n fa ρ h) Q R=We (fa ρ h) (fun xs h1=>We (if xs.length≤sizeLine then (.err (DU n) [] h1:Out (Fl×Ah)) else .stuck) Q R) R:=by unfold Ic;rw [Cz]
@[simp] theorem ZdQ:We (EU t ρ h) QB R=We (t ρ h) (fun b h1=>QB (!b) h1) R:=by unfold EU;rw [Cz];rfl
@[simp] theorem ZdR {u:MT}:We (KG t u ρ h) QB R=We (t ρ h) (fun b h1=>We (if b=true then u ρ h1 else .ok false h1) QB R) R:=by unfold KG;rw [Cz]
@[simp] theorem ZdS {u:MT}:We (GG t u ρ h) QB R=We (t ρ h) (fun b h1=>We (if b=true then .ok true h1 else u ρ h1) QB R) R:=by unfold GG;rw [Cz]
@[simp] theorem ZdT:We (Ed f ρ h) QB R=We (f ρ h) (fun x h1=>We (ES x h1) QB R) R:=by unfold Ed;rw [Cz]
@[simp] theorem ZdU:We (Bu f ρ h) QB R=We (f ρ h) (fun x h1=>We (Jf x h1) QB R) R:=by unfold Bu;rw [Cz]
@[simp] theorem ZdV {QA:List D→HD→Prop}:We (Ac ρ h) QA R=QA [] h:=rfl
@[simp] theorem ZdW {QA:List D→HD→Prop}:We (Aa f fa ρ h) QA R=We (f ρ h) (fun x h1=>We (fa ρ h1) (fun xs h2=>QA (x::xs) h2) R) R:=by
  unfold Aa;simp only [Cz];rfl
@[simp] theorem ZdX {d:D} {r:Ah}:We (Ab 0 (some d::r) h) QD R=QD d h:=rfl
@[simp] theorem ZdY {i:Nat} {x:Option D} {r:Ah}:We (Ab (i+1) (x::r) h) QD R=We (Ab i r h) QD R:=rfl
@[simp] theorem ZdZ {d:D}:We (mC d ρ h) QD R=QD d h:=rfl
@[simp] theorem Zd0 {op:D→D→HD→Out D} {f':ME}:We (Ai op f f' ρ h) QD R=We (f ρ h) (fun x h1=>We (f' ρ h1) (fun y h2=>We (op x y h2) QD R) R) R:=by unfold Ai;simp only [Cz]
@[simp] theorem Zd1 {fj:MJ}:We (Ip fj ρ h) QD R=We (fj Str.empty ρ h) (fun x h1=>QD (.str x) h1) R:=by unfold Ip;rw [Cz];rfl
end
def Et {α:Type} (o:Out α) (h:HD) (n:Str) (fs:List (Str×D)):Prop:=We o (fun _ _=>False) fun n' fs' h'=>n'=n∧fs'=fs∧Sm h h'
theorem Et.we {α:Type} {o:Out α} {h:HD} {n:Str} {fs:List (Str×D)} {Q:α→HD→Prop} {R:Str→List (Str×D)→HD→Prop} (e:Et o h n fs) (k:∀h',Sm h h'→R n fs h'):We o Q R:=We.mono e (fun _ _ z=>z.elim) fun n' fs h' z1_=>by obtain ⟨rfl,rfl,s⟩:=z1_;exact k h' s
theorem RW {cs:List Nat} {Fk:List D→HD→Out D} {f:ME} {ρ:Ah} {h:HD} {ds:List D} {Q:D→HD→Prop} (ht:h[0]?=some .tab) (hd:A0 (cs.map fun j=>(ρ[j]?).join)=some ds)
 (q:We (f (ds.map some) h) (fun _ h1=>Q (.str "told") h1) fun n fs h1=>n∈excNames∧∃is,FI fs=some is∧Wp (Fk [.exc n is] h1) Q):Wp (E5 cs Fk f ρ h) Q:=by
 unfold E5
 rw [ht,hd]
 simp only
 unfold NU
 cases o:f (ds.map some) h with
 |ok a h1=>rw [o] at q;exact q
 |stuck=>rw [o] at q;exact q.elim
 |err C fs h1=>
  rw [o] at q
  cases C with
  |str n t=>
   obtain ⟨hn,is,hi,hk⟩:=(show n∈excNames∧∃is,FI fs=some is∧Wp (Fk [.exc n is] h1) Q from q)
   simp only [hn,if_true,hi]
   cases e:Fk [.exc n is] h1 with
   |ok d h2=>rw [e] at hk;exact hk
   |_=>rw [e] at hk;exact hk.elim
  |_=>exact q.elim
def Rp (n L:Nat) (d:D):Prop:=∃p:PyData,(∀(h:HD) (m:Nat),Bk h (n+m) d=some p)∧p.showable=true∧p.hasDict=false∧p.depth≤n∧p.shown.length≤L
theorem NY {n L:Nat}:∀{ds:List D},(∀d∈ds,Rp n L d)→∃ps:List PyData,(∀(h:HD) (m:Nat),A0 (ds.map (Bk h (n+m)))=some ps)∧PyData.showableAll ps=true∧PyData.hasDictAll ps=false∧PyData.depthAll ps≤n∧ps.length=ds.length∧∀t∈PyData.shownAll ps,t.length≤L
 |[],_=>⟨[],fun _ _=>rfl,rfl,rfl,EF _,rfl,fun t ht=>by cases ht⟩
 |d::ds,hd=>by
  obtain ⟨p,a1,a2,a3,a4,a5⟩:=hd d AO
  obtain ⟨ps,b1,b2,b3,b4,b5,b6⟩:=NY (fun x hx=>hd x (AS _ hx))
  refine ⟨p::ps,fun h m=>?_,by simp [PyData.showableAll,a2,b2],by simp [PyData.hasDictAll,a3,b3],by simp only [PyData.depthAll];omega,by simp [b5],fun t ht=>?_⟩
  ·rw [BM,a1 h m]
   simp only [A0,b1 h m]
   rfl
  ·simp only [PyData.shownAll] at ht
   rcases qa7.mp ht with e |e
   ·rw [e];exact a5
   ·exact b6 t e
theorem RX {L:Nat}:∀{ts:List Str},(∀t∈ts,t.length≤L)→piled ts≤ts.length*(L+2)
 |[],_=>by simp [piled]
 |t::ts,h=>by
  have h1:=h t AO
  have h2:=RX (fun x hx=>h x (AS _ hx)) (ts:=ts) (L:=L)
  simp only [piled] at *
  simp [IX]
  omega
theorem NZ:∀{ps:List PyData},(PyData.shownAll ps).length=ps.length
 |[]=>rfl
 |p::ps=>by simp [PyData.shownAll,NZ (ps:=ps)]
theorem RY {n L k:Nat} {ds:List D} (h:∀d∈ds,Rp n L d) (hk:ds.length≤k):Rp (n+1) (k*(L+2)+3) (.tup ds):=by
 obtain ⟨ps,b1,b2,b3,b4,b5,b6⟩:=NY h
 refine ⟨.tuple ps,fun h m=>?_,by simpa [PyData.showable] using b2,by simpa [PyData.hasDict] using b3,by simp only [PyData.depth];omega,?_⟩
 ·rw [show n+1+m=(n+m)+1 by omega]
  simp only [Bk,b1 h m]
  rfl
 ·simp only [PyData.shown,tupleText]
  have hl:(PyData.shownAll ps).length=ds.length:=by rw [NZ,b5]
  have hj:(Str.join ", " (PyData.shownAll ps)).length≤k*(L+2):=by
   by_cases he:PyData.shownAll ps=[]
   ·rw [he];exact EF _
   ·have h1:=join_length_add _ he
    have h2:=RX b6
    have h3:(PyData.shownAll ps).length*(L+2)≤k*(L+2):=Nat.mul_le_mul_right _ (by rw [hl];exact hk)
    omega
  rw [strLen_append,strLen_append]
  have e1:((("(":String):Str)).length=1:=rfl
  have e2:(((if (PyData.shownAll ps).length==1 then ",)" else ")":String):Str)).length≤2:=by split<;>decide
  omega
section
variable {h:HD} {i j:Int} {ds:List D} {a b:D} {l:Nat} {x y:Str}
@[simp] theorem Zd2:Cy (.str x) (.str y) h=.ok (.bl (!(x==y))) h:=rfl
@[simp] theorem Zd3:DY (.str x) (.str y) h=.ok (.bl (x==y)) h:=rfl
@[simp] theorem Zd4:Cy (.int i) (.int j) h=.ok (.bl (!(i==j))) h:=rfl
@[simp] theorem Zd5:DY (.int i) (.int j) h=.ok (.bl (i==j)) h:=rfl
@[simp] theorem Zd6 {c d:Bool}:Cy (.bl c) (.bl d) h=.ok (.bl (!(c==d))) h:=rfl
@[simp] theorem Zd7 {c d:Bool}:DY (.bl c) (.bl d) h=.ok (.bl (c==d)) h:=rfl
@[simp] theorem Zd8 {es:List D}:Cy (.tup ds) (.tup es) h=F5 (.tup ds) (.tup es) h:=rfl
@[simp] theorem Zd9 {es:List D}:DY (.tup ds) (.tup es) h=Jl (.tup ds) (.tup es) h:=rfl
@[simp] theorem Zea:BY (.int i) (.int j) h=Ej (.int i) (.int j) h:=rfl
@[simp] theorem Zeb:BY (.loc l) b h=Ej (.loc l) b h:=rfl
@[simp] theorem Zec:AC (.int i) b h=BJ (.int i) b h:=rfl
@[simp] theorem Zed {c:Bool}:AC (.bl c) b h=BJ (.bl c) b h:=rfl
@[simp] theorem Zee:AC .non b h=BJ .non b h:=rfl
@[simp] theorem Zef:AC (.str x) b h=BJ (.str x) b h:=rfl
@[simp] theorem Zeg:AC (.tup ds) b h=BJ (.tup ds) b h:=rfl
@[simp] theorem X1:AC (.loc l) b h=BJ (.loc l) b h:=rfl
@[simp] theorem Zeh {c:Bool}:BJ (.bl c) (.ty "int") h=.ok (.bl true) h:=rfl
@[simp] theorem Zei {c:Bool}:BJ (.bl c) (.ty "bool") h=.ok (.bl true) h:=rfl
@[simp] theorem Zej {c:Bool}:BJ (.bl c) (.ty "tuple") h=.ok (.bl false) h:=rfl
@[simp] theorem Zek:BJ .non (.ty "int") h=.ok (.bl false) h:=rfl
@[simp] theorem Zel:BJ .non (.ty "tuple") h=.ok (.bl false) h:=rfl
@[simp] theorem Zem:BJ (.str x) (.ty "int") h=.ok (.bl false) h:=rfl
@[simp] theorem Zen:BJ (.str x) (.ty "tuple") h=.ok (.bl false) h:=rfl
theorem RZ (e:h[l]?=some (.lst ds)):BJ (.loc l) (.ty "int") h=.ok (.bl false) h:=by
 simp only [BJ,Ef,e];rfl
theorem X2 (e:h[l]?=some (.lst ds)):BJ (.loc l) (.ty "tuple") h=.ok (.bl false) h:=by
 simp only [BJ,Ef,e];rfl
@[simp] theorem Zeo:AC .edic (.ty "int") h=.ok (.bl false) h:=rfl
@[simp] theorem Zep:AC .edic (.ty "tuple") h=.ok (.bl false) h:=rfl
theorem B9 {n n':Str} {fs:List (Str×Int)} (h1:n∈excNames) (h2:n'∈excNames):AC (.exc n fs) (.glo n') h=.ok (.bl (Bc n n')) h:=if_pos ⟨h1,h2⟩
theorem R0 {n:Str} {fs:List (Str×Int)} (h1:n∈excNames):AC (.exc n fs) (.ty "ValueError") h=.ok (.bl true) h:=if_pos ⟨h1,rfl⟩
@[simp] theorem Zeq {ρ:Ah} {c d:D} {i j k l:Nat}:JE [i,j,k,l] (.tup [a,b,c,d]) ρ=some ((((ρ.set i (some a)).set j (some b)).set k (some c)).set l (some d)):=rfl
theorem Ir (hz:x.length+y.length≤1000):AA (.str x) (.str y) h=.ok (.str (x++y)) h:=by
 simp only [AA]
 rw [if_pos (by unfold sizeLine;omega)]
theorem Iu {xs ys:List D} {k:Nat} (e1:h[l]?=some (.lst xs)) (e2:h[k]?=some (.lst ys)):AA (.loc l) (.loc k) h=CI (xs++ys) h:=by simp only [AA,e1,e2]
theorem Lw {vs:List V} {w:V} (e:h[l]?=some (.lst ds)) (e1:A0 (ds.map Dq)=some vs) (e2:Dq a=some w):E4 (.loc l) a h=.ok (.int (FG w vs)) h:=by
 simp only [E4,BW,e,Out.bind_ok,Ik,BC,e1,e2]
theorem X3 {vs:List V} {w:V} {j:Nat} (e:h[l]?=some (.lst ds)) (e1:A0 (ds.map Dq)=some vs) (e2:Dq a=some w) (e3:Lo w vs=some j):GQ (.loc l) a h=.ok (.int j) h:=by
 simp only [GQ,e,e1,e2,e3]
@[simp] theorem Zer {chk:D→HD→Out D} {op:D→D→HD→Out D} {f g:ME} {ρ:Ah} {Q:D→HD→Prop}:Wp (FE chk op f g ρ h) Q=Wp (f ρ h) fun x h1=>Wp (chk x h1) fun x h2=>Wp (g ρ h2) fun y h3=>Wp (op x y h3) Q:=by unfold FE;simp only [Az]
@[simp] theorem sz6:(6≤sizeLine)=True:=eq_true (by unfold sizeLine;omega)
@[simp] theorem sz7:(7≤sizeLine)=True:=eq_true (by unfold sizeLine;omega)
@[simp] theorem sz8:(8≤sizeLine)=True:=eq_true (by unfold sizeLine;omega)
@[simp] theorem sz9:(9≤sizeLine)=True:=eq_true (by unfold sizeLine;omega)
@[simp] theorem Zes:(10≤sizeLine)=True:=eq_true (by unfold sizeLine;omega)
end
section
variable {ρ:Ah} {h:HD} {Q:Str→HD→Prop} {R:Str→List (Str×D)→HD→Prop} {acc y:Str} {r:MJ} {f:ME} {n:Nat} {i:Int}
theorem X4 (h1:0≤i) (h2:i<10):i.natAbs.log2<1920∧((toString i:String):Str).length≤2:=by
 obtain ⟨k,rfl⟩:∃k:Nat,i=(k:Int):=⟨i.toNat,by omega⟩
 have hk:k<10:=by omega
 match k,hk with
 |0,_=>decide
 |1,_=>decide
 |2,_=>decide
 |3,_=>decide
 |4,_=>decide
 |5,_=>decide
 |6,_=>decide
 |7,_=>decide
 |8,_=>decide
 |9,_=>decide
theorem N0 (ha:acc.length≤n) (hn:n+y.length≤1000) (k:∀acc':Str,acc'.length≤n+y.length→We (r acc' ρ h) Q R):We (FJ y r acc ρ h) Q R:=by
 unfold FJ
 have:(acc++y).length≤n+y.length:=by rw [strLen_append];omega
 rw [if_pos (by unfold sizeLine;omega)]
 exact k _ this
theorem R1 (hf:f ρ h=.ok (.int i) h) (h1:0≤i) (h2:i<10) (ha:acc.length≤n) (hn:n+2≤1000) (k:∀acc':Str,acc'.length≤n+2→We (r acc' ρ h) Q R):We (Gj f r acc ρ h) Q R:=by
 obtain ⟨d1,d2⟩:=X4 h1 h2
 unfold Gj
 rw [hf]
 have:(acc++((toString i:String):Str)).length≤n+2:=by rw [strLen_append];omega
 simp only [Out.bind_ok]
 rw [if_pos ⟨d1,by unfold sizeLine;omega⟩]
 exact k _ this
theorem X5 (ha:acc.length≤n) (hn:n≤1000) (q:Q acc h):We (GR acc ρ h) Q R:=by
 unfold GR
 rw [if_pos (by unfold sizeLine;omega)]
 exact q
end
end LS
namespace LS
open PySem PySem.Spec PyProof.Rows L2 PySem.W
section
variable {X:Cx} {E:XK}
def listOfD:D→HD→Out D:=fun x h=>match BC x h with
 |some ds=>CI ds h
 |none=>.stuck
theorem X6:CJ X (.type "list") (An listOfD):=by
 refine ⟨_,VA,fun m H h E ds vs Q hr r q=>Fv r q fun d v ev rv q=>?_⟩
 unfold listOfD at q
 split at q
 ·rename_i ds' e
  obtain ⟨p,ws,rfl,hs,dv⟩:=KS hr rv e
  exact ⟨p,ws,ev,hs,(HN hr dv q).2⟩
 ·exact q.elim
def DH (T:List (Str×(List D→HD→Out D))) (fv:ME) (fa:MA):ME:=fun ρ h=>(fv ρ h).bind fun d h1=>match d with
 |.glo n=>(match T.lookup n with
  |some F=>(fa ρ h1).bind F
  |none=>.stuck)
 |_=>.stuck
def Lx (P:Program) (w:World) (K:Frag) (mg:Str→Option Value) (base:Heap) (k:Nat) (T:List (Str×(List D→HD→Out D))):Prop:=∀n F,T.lookup n=some F→CaE P w K mg base n k F
theorem CaE.mono {P:Program} {w:World} {K:Frag} {mg:Str→Option Value} {base:Heap} {x:Str} {j k:Nat} {F:List D→HD→Out D} (C:CaE P w K mg base x j F) (h:j≤k):CaE P w K mg base x k F:=by
 obtain ⟨f,fd,ps,G,r⟩:=C.ex
 exact ⟨f,fd,ps,G.mono h,r⟩
theorem N1 {P:Program} {w:World} {K:Frag} {mg:Str→Option Value} {base:Heap} {k:Nat}:Lx P w K mg base k []:=fun n F e=>by cases e
theorem FK {P:Program} {w:World} {K:Frag} {mg:Str→Option Value} {base:Heap} {k j:Nat} {T:List (Str×(List D→HD→Out D))} {x:Str} {F:List D→HD→Out D} (c:CaE P w K mg base x j F) (h:Lx P w K mg base k T) (hj:j≤k:=by decide):Lx P w K mg base k ((x,F)::T):=fun n G e=>by
 rw [EB] at e
 split at e
 ·rename_i z
  cases e
  have:n=x:=by simpa using z
  subst this
  exact c.mono hj
 ·exact h n G e
theorem N2 {k k':Nat} {T:List (Str×(List D→HD→Out D))} {fv:ME} {fa:MA} {x:Str} {p pos:Pos} {e:Expr} {es:List Expr} (C:Lx X.prog X.w X.K X.mg X.base k T) (hr:Room k' X.A) (hx:EJ (As X.prog X.w X.K) X E) (hv:Ev X E (.Name x p) fv) (ha:Cb X E (e::es) fa) (hk:k≤k':=by decide)
 (he:starEach (e::es) X.env=(false,eval e X.env)::starEach es X.env:=by rfl) (hpl:(backTo pos (starEach es X.env)).any (·.1)=false:=by rfl):
 Ev X E (.Call (.Name x p) (e::es) [] pos) (DH T fv fa):=by
 rintro pins s σ H Q I ⟨m,ρ,hd,hr1,er,pp⟩
 have post:tD X.K E fv σ H (fun v H1=>∃n F a,v=.ref a∧nsIn X.K mainGlobals n=some (some (.ref a))∧T.lookup n=some F∧∃m1 h1,HR X.K m1 h1 H1∧ER X.K m1 H1 ρ σ∧Post X.K (rD X.K) m1 H1 E Q ((fa ρ h1).bind F)):=by
  refine ⟨m,ρ,hd,hr1,er,Post.bind pp fun d h1 v m1 H1 eo p1 k1 hr1 r1 q1=>?_⟩
  clear eo
  split at q1
  ·rename_i n
   split at q1
   ·rename_i F eF
    simp only [rD,DV] at r1
    obtain ⟨a,rfl,ha⟩:=r1
    exact ⟨n,F,a,rfl,ha,eF,m1,h1,hr1,er.keep p1 k1,q1⟩
   ·exact q1.elim
  ·exact q1.elim
 refine wpAny_Call_Name_kw (Aw (hv pins s σ H _ I post) fun u s1 z3_=>?_)
 obtain ⟨v,H1,I1,rv,n,F,a,ev,hn,eF,m1,h1,hr1,er1,q1⟩:=z3_
 subst ev
 cases (show u=Value.ref a from rv)
 obtain ⟨f,fd,ps,G,hb,hm,hkp⟩:=(C n F eF).ex
 have:a=f:=by
  have:=mg_of I1.mod.kin I1.mod.glob hn
  rw [hm] at this
  cases this;rfl
 subst this
 refine PySem.W.callWith_K (h₀:=X.base) I1.ok.mod.kin hkp (Aw (ha pos pins s1 σ H1 (fun vs H2=>Em X.K F vs H2 Q E) I1 ⟨m1,ρ,h1,hr1,er1,Post.bind q1 fun xs h2 vs m2 H2 _ p2 k2 hr2 r2 q2=>⟨m2,xs,h2,hr2,r2,q2⟩⟩) ?_) he hpl
 rintro us s2 ⟨vs,H2,I2,r,q⟩
 refine ⟨I2.kIn,?_⟩
 exact MF G (hr.mono hk) hb (dvs:=[]) .nil hx I2 r (by rw [ED];exact q)
theorem JF {x:Str} {a:Addr} {pos:Pos} (hn:nsIn X.K mainGlobals x=some (some (.ref a))) (hg:Gl X x:=by rfl) (hd:(x==("__debug__":Str))=false:=by decide):Ev X E (.Name x pos) (mC (.glo x)):=RC hg hn hd
end
def Zet (K:Frag) (c:Addr):Bool:=match tabP K with
 |some (c',T)=>c'==c&&codeHdIn K c T
 |none=>false
section
variable {prog:Program} {w:World} {A:Around} {E:Str→Value→Shared→Prop}
end
section
variable {X:Cx} {E:XK}
def Zeu (K:PySem.W.Frag):V→Option Int→Option Int→Hp→VK→Prop:=fun x lo hi H Q=>∃a xs,x=.ref a∧SqT K H a xs∧HT.sIx xs.length 0 lo=0∧HT.sIx xs.length xs.length hi=xs.length∧Q (.ref a) H
def R3 (x:D) (lo hi:Option Int) (h:HD):Out D:=match x with
 |.tup xs=>.ok (.tup (Lg xs lo hi)) h
 |_=>.stuck
def R4 (f:ME) (lo hi:MO):ME:=fun ρ h=>(f ρ h).bind fun x h1=>(lo ρ h1).bind fun l h2=>(hi ρ h2).bind fun u h3=>R3 x l u h3
end
section
variable {f:ME} {lo hi:MO} {ρ:Ah} {h:HD} {Q:D→HD→Prop}
@[simp] theorem Zev:Wp (R4 f lo hi ρ h) Q=Wp (f ρ h) fun x h1=>Wp (lo ρ h1) fun l h2=>Wp (hi ρ h2) fun u h3=>Wp (R3 x l u h3) Q:=by unfold R4;simp only [Az]
end
section
variable {K:Frag} {mg:Str→Option Value} {h:Heap}
theorem X7 {us:List Value} (h:us.length=0):us=[]:=qc4.mp h
theorem R5 {us:List Value} (h:us.length=1):∃v0,us=[v0]:=by
 cases us with
 |nil=>cases h
 |cons v t=>
  obtain rfl:=X7 (Nat.succ.inj h)
  exact ⟨v,rfl⟩
theorem R6 {us:List Value} (h:us.length=2):∃v0 v1,us=[v0,v1]:=by
 cases us with
 |nil=>cases h
 |cons v t=>
  obtain ⟨w0,rfl⟩:=R5 (Nat.succ.inj h)
  exact ⟨v,w0,rfl⟩
theorem X8 {us:List Value} (h:us.length=3):∃v0 v1 v2,us=[v0,v1,v2]:=by
 cases us with
 |nil=>cases h
 |cons v t=>
  obtain ⟨w0,w1,rfl⟩:=R6 (Nat.succ.inj h)
  exact ⟨v,w0,w1,rfl⟩
theorem Dy {x p0:Str} {st:Stmt} {f:Addr} {oc:Value} {od an:Option Addr} {osl:Array (Option Value)} {kV doc pm cdv ct:Value} (X:K.In h) (G:h.Ns mainGlobals mg) (l:K.lookup f=some ⟨oc,od,.func (fnOf x x (defArgs st) (defBody st) (defScope st) .none kV doc pm an cdv ct),osl⟩) (c:codeIn K cdv x=true) (k:keepIn K (.ref f)=true) (a:nsIn K mainGlobals x=some (some (.ref f)))
 (b:∀(kV doc pm:Value) (an:Option Addr) (cdv ct v0:Value),bindArgs (fnOf x x (defArgs st) (defBody st) (defScope st) .none kV doc pm an cdv ct) ⟨[v0],[]⟩=pure (([p0]:List Str).zip [v0])):Dn K mg x [p0] st f (fnOf x x (defArgs st) (defBody st) (defScope st) .none kV doc pm an cdv ct):=
 ⟨FY l c k,(FY l c k).binds (fun kV doc pm an cdv ct us hl=>by obtain ⟨v0,rfl⟩:=R5 hl;exact b kV doc pm an cdv ct v0),mg_of X G a⟩
theorem CK {x p0 p1:Str} {st:Stmt} {f:Addr} {oc:Value} {od an:Option Addr} {osl:Array (Option Value)} {kV doc pm cdv ct:Value} (X:K.In h) (G:h.Ns mainGlobals mg) (l:K.lookup f=some ⟨oc,od,.func (fnOf x x (defArgs st) (defBody st) (defScope st) .none kV doc pm an cdv ct),osl⟩) (c:codeIn K cdv x=true) (k:keepIn K (.ref f)=true) (a:nsIn K mainGlobals x=some (some (.ref f)))
 (b:∀(kV doc pm:Value) (an:Option Addr) (cdv ct v0 v1:Value),bindArgs (fnOf x x (defArgs st) (defBody st) (defScope st) .none kV doc pm an cdv ct) ⟨[v0,v1],[]⟩=pure (([p0,p1]:List Str).zip [v0,v1])):Dn K mg x [p0,p1] st f (fnOf x x (defArgs st) (defBody st) (defScope st) .none kV doc pm an cdv ct):=
 ⟨FY l c k,(FY l c k).binds (fun kV doc pm an cdv ct us hl=>by obtain ⟨v0,v1,rfl⟩:=R6 hl;exact b kV doc pm an cdv ct v0 v1),mg_of X G a⟩
theorem R7 {x p0 p1 p2:Str} {st:Stmt} {f:Addr} {oc:Value} {od an:Option Addr} {osl:Array (Option Value)} {kV doc pm cdv ct:Value} (X:K.In h) (G:h.Ns mainGlobals mg) (l:K.lookup f=some ⟨oc,od,.func (fnOf x x (defArgs st) (defBody st) (defScope st) .none kV doc pm an cdv ct),osl⟩) (c:codeIn K cdv x=true) (k:keepIn K (.ref f)=true) (a:nsIn K mainGlobals x=some (some (.ref f)))
 (b:∀(kV doc pm:Value) (an:Option Addr) (cdv ct v0 v1 v2:Value),bindArgs (fnOf x x (defArgs st) (defBody st) (defScope st) .none kV doc pm an cdv ct) ⟨[v0,v1,v2],[]⟩=pure (([p0,p1,p2]:List Str).zip [v0,v1,v2])):Dn K mg x [p0,p1,p2] st f (fnOf x x (defArgs st) (defBody st) (defScope st) .none kV doc pm an cdv ct):=
 ⟨FY l c k,(FY l c k).binds (fun kV doc pm an cdv ct us hl=>by obtain ⟨v0,v1,v2,rfl⟩:=X8 hl;exact b kV doc pm an cdv ct v0 v1 v2),mg_of X G a⟩
theorem SaidD.of {st:Stmt} {f:Addr} {fd:FuncData} (d:Dn K mg "_law_said" ["_law_call"] st f fd):SaidD K mg st f fd:=⟨d.fn,d.bd,d.mg⟩
end
open AutoSeq1 (wpAny_loadPart')
section
variable {prog:Program} {w:World} {A:Around} {E:Value→Shared→Prop} {s:Shared}
end
def R8 (r:Addr) (n:Nat) (h:Heap):Prop:=∃t u v,IsRange h r 0 (n:Int) 1 t u v
section
variable {X:Cx} {E:XK}
inductive X9 (vs:List V) (H:Hp) (Q:VK):Prop where
 |mk (n:Nat) (e:vs=[.int (n:Int)]) (hn:n≤1000) (q:∀p,H p=none→Q (.ref p) (Ak H p (.ext (R8 p n)))):X9 vs H Q
inductive Yb (vs:List V) (H:Hp) (Q:VK):Prop where
 |mk (r:Addr) (n:Nat) (e:vs=[.ref r]) (hr:H r=some (.ext (R8 r n))) (hn:n≤1000) (q:∀p,H p=none→Q (.ref p) (Ak H p (.tup ((List.range n).map fun i=>V.int ((i:Nat):Int))))):Yb vs H Q
noncomputable def Yc:D→HD→Out D:=fun d h=>match d with
 |.int i=>@ite _ (0≤i∧i≤1000) (Classical.propDecidable _) (.ok (.tup ((List.range i.toNat).map fun k=>D.int ((k:Nat):Int))) h) .stuck
 |_=>.stuck
noncomputable def Zew (f:ME):ME:=fun ρ h=>(f ρ h).bind Yc
end
end LS
namespace LS
open PySem PySem.Spec PyProof.Rows L2 PySem.W
section
variable {X:Cx} {E:XK}
def Yd:D→HD→Out D:=fun x h=>match x with
 |.tup _=>.ok x h
 |_=>.stuck
def Zex:D→D→HD→Out D:=fun x y h=>(Yd x h).bind fun _ _=>Ik x y h
mutual
def N3:PyData→Bool
 |.list _=>false
 |.tuple xs=>N4 xs
 |_=>true
def N4:List PyData→Bool
 |[]=>true
 |x::xs=>N3 x&&N4 xs
end
def N5 (h:HD):Nat→D→Option PyData
 |_,.non=>some .none
 |_,.bl b=>some (.bool b)
 |_,.int i=>some (.int i)
 |_,.str x=>some (.str x)
 |_,.edic=>some (.dict [])
 |n+1,.tup ds=>(A0 (ds.map (N5 h n))).map .tuple
 |n+1,.loc l=>match h[l]? with
  |some (.lst ds)=>(A0 (ds.map (N5 h n))).map .list
  |_=>none
 |_,_=>none
inductive Ye (h:Heap) (u:Value) (p:PyData):Prop where
 |mk (as:List Addr) (f1:Reads h u p as) (f2:N3 p=true→sysModules∉as):Ye h u p
inductive Yg (h:Heap) (us:List Value) (ps:List PyData):Prop where
 |mk (as:List Addr) (f1:ReadsAll h us ps as) (f2:N4 ps=true→sysModules∉as):Yg h us ps
variable {pins:List (Addr×Obj)} {σ:L2.St} {H:Hp} {s:Shared} {m:List Addr} {h:HD}
def Zey:D→HD→Out D:=fun x h=>match N5 h 8 x with
 |some p=>if p.showable=true∧(p.hasDict=false∨N3 p=true)∧p.depth≤40∧p.shown.length≤sizeLine then .ok (.str p.shown) h else .stuck
 |none=>.stuck
end
end LS
namespace HT
open PySem PyProof.Rows
def lexLe:List Int→List Int→Bool
 |[],[]=>true
 |[],_::_=>true
 |_::_,[]=>false
 |x::xs,y::ys=>if x=y then lexLe xs ys else decide (x≤y)
section
open PySem.SeqAt
open PySem.AutoSeq1 (wpAny_loadPart')
open PySem.MeetsSeq PySem.MeetsSeq2 PySem.MeetsSeq3
end
section
variable {prog:Program} {w:World} {A:Around} {E:Value→Shared→Prop} {s:Shared}
end
end HT
namespace L2
open PySem PySem.Spec PyProof.Rows
section
variable {X:Cx}
def Zez (K:PySem.W.Frag):R2:=fun x y H Q=>∃a b ns ms,x=.ref a∧y=.ref b∧SqT K H a (ns.map V.int)∧SqT K H b (ms.map V.int)∧Q (.bl (HT.lexLe ns ms)) H
end
end L2
namespace LS
open PySem PySem.Spec PyProof.Rows L2
section
variable {X:Cx} {E:XK}
def R9:D→Option (List Int)
 |.tup ds=>A0 (ds.map Fy)
 |_=>none
def ZeA (f:List Int→List Int→Bool):D→D→HD→Out D:=fun x y h=>match R9 x,R9 y with
 |some ns,some ms=>.ok (.bl (f ns ms)) h
 |_,_=>.stuck
end
section
variable {prog:Program} {w:World} {A:Around} {E:Value→Shared→Prop} {s:Shared}
end
section
variable {X:Cx} {E:XK} {e:Expr} {f:ME}
def Yh:D→HD→Out D:=fun x h=>match x with
 |.tup ds=>.ok (.tup ds.reverse) h
 |_=>.stuck
def ZeB (f:ME):ME:=fun ρ h=>(f ρ h).bind Yh
end
end LS
namespace LS
open PySem
section
variable {prog:Program} {w:World} {A:Around} {E:Value→Shared→Prop} {h:Heap} {g:Array GenState} {d:Drawn} {t:Nat} {os:OsState}
variable {nm q:Str} {C N:Addr} {bs bm bmB:List Value} {hdct:Bool} {sn:List Str} {sub:List Value} {ab:Bool} {col:Option Bool} {dd:Option Addr} {k0 k1 k2 k3 k5:Option Value} {B newId initId:String}
theorem Yi (F:ExcBaseFacts B newId initId bmB) (T:OwnTail h bmB bm) {mN:Str→Option Value} {rest:List Value} {fI:Addr} {oI:Obj} {Q:Fin→Shared→Prop}
 (hC:h.get? C=some (excClassObj nm q C N bs bm hdct sn sub ab col dd k0 k1 k2 k3 k5 newId)) (hn:h.Ns N mN) (hi:mN "__init__"=some (.ref fI)) (hfI:h.get? fI=some oI) (hfc:oI.cls=.type "function")
 (hq:∀h' e,Heap.MadeExcOf h h' e (.ref C) rest→wpAny (model prog w) A (call (.ref fI) (.ref e::rest)) (fun r s'=>r=.none∧Q (.done (.ret (.ref e))) s') E ⟨h',g,d,t,os⟩) (hrest:rest.length≤sizeLine):
 wpAny (model prog w) A (Builtin.«type.__call__» ⟨.ref C::rest,[]⟩) Q E ⟨h,g,d,t,os⟩:=by
 repeat (first |with_reducible refine wpAny_loadPart_at hC ?_ |with_reducible refine wpAny_madeBy_exc hC ?_ |wp_step)
 refine codeAny_call_builtin_code (Code.quiet_builtin _ F.quiet) (wpAny_check_new_subT F T hC ?_)
 refine codeAny_exc_new_subT F T hC ?_ hrest
 generalize eT:({cls:=.type "tuple",data:=.seq rest.toArray}:Obj)=oT
 generalize eE:({cls:=.ref C,data:=.fields #[.ref h.objs.size,.none,.none,.none,.bool false,.none]}:Obj)=oE
 have up:∀b o,h.get? b=some o→((h.push oT).push oE).get? b=some o:=fun b o e=>AJ _ (AJ _ e)
 have hC₁:=up _ _ hC
 have hn₁:((h.push oT).push oE).Ns N mN:=hn.keeps up
 have hget:((h.push oT).push oE).get? (h.objs.size+1)=some oE:=Heap.get?_push_at (by rw [Ct]) (by rw [←eE];rfl)
 have T₁:=T.keeps up
 have hcC:(Value.ref C::bm).contains (.ref C)=true:=by simp
 subst eT eE
 have hgetE:=hget
 show wpAny _ _ _ _ _ _
 unfold isInstance
 repeat (first |with_reducible refine wpAny_loadPart_at hgetE ?_ |(with_reducible refine wpAny_isSubtype_exc hC₁ ?_;rw [hcC]) |wp_step)
 show wpAny _ _ (typeLookup (.ref C) _) _ _ _
 refine wpAny_typeLookup_tail hC₁ hn₁ T₁ F.mroIs F.init.lookup ?_
 rw [hi]
 refine wpAny_holding (wpAny_bind ?_)
 unfold bindSpecial
 refine wpAny_bind (wpAny_typeOf (T:="function") ⟨_,up _ _ hfI,hfc⟩ ?_)
 rw [if_pos (by decide)]
 have mk:Heap.MadeExcOf h ((h.push {cls:=.type "tuple",data:=.seq rest.toArray}).push {cls:=.ref C,data:=.fields #[.ref h.objs.size,.none,.none,.none,.bool false,.none]}) (h.objs.size+1) (.ref C) rest:=⟨up,Mo (HF _),h.objs.size,hgetE,Mo (AM _),AJ _ (Heap.get?_push_at rfl rfl)⟩
 refine wpAny_pure (wpAny_bind (wpAny_mono (hq _ _ mk) (fun r s' hr=>?_) fun _ _ x=>x))
 obtain ⟨rfl,hQ⟩:=hr
 wp_walk
 exact hQ
theorem Yj (F:ExcBaseFacts B newId initId bmB) (T:OwnTail h bmB bm) {mN:Str→Option Value} {rest:List Value} {fI:Addr} {oI:Obj} {Q:Value→Shared→Prop}
 (hC:h.get? C=some (excClassObj nm q C N bs bm hdct sn sub ab col dd k0 k1 k2 k3 k5 newId)) (hn:h.Ns N mN) (hi:mN "__init__"=some (.ref fI)) (hfI:h.get? fI=some oI) (hfc:oI.cls=.type "function")
 (hq:∀h' e,Heap.MadeExcOf h h' e (.ref C) rest→wpAny (model prog w) (A.under (.builtin "type.__call__" ⟨.ref C::rest,[]⟩)) (call (.ref fI) (.ref e::rest)) (fun r s'=>r=.none∧Q (.ref e) s') E ⟨h',g,d,t,os⟩) (hrest:rest.length≤sizeLine):
 wpAny (model prog w) A (call (.ref C) rest) Q E ⟨h,g,d,t,os⟩:=by
 have f1:=tc_lookup
 have f2:=tc_bind (.ref C)
 have hT:(⟨h,g,d,t,os⟩:Shared).TypeIs (.ref C) "type":=⟨_,hC,rfl⟩
 refine wpAny_call (codeAny_of_tree ?_)
 show wpAny _ _ (callAny (.ref C) _) _ _ _
 repeat (any_goals (first |assumption |with_reducible refine wpAny_loadPart_at hC ?_ |wp_step))
 refine ⟨rfl,?_⟩
 exact codeAny_call_builtin_at (Code.quiet_builtin _ (by decide +kernel)) entry_typeCall (wpAny_check_type_call_sub hC (Yi (hrest:=hrest) F T hC hn hi hfI hfc fun h' e hm=>hq h' e hm))
theorem Yk (F:ExcBaseFacts B newId initId bmB) (T:OwnTail h bmB bm) {rest:List Value} {e t0:Addr} {Q:Value→Shared→Prop}
 (hC:h.get? C=some (excClassObj nm q C N bs bm hdct sn sub ab col dd k0 k1 k2 k3 k5 newId)) (hget:h.get? e=some {cls:=.ref C,data:=.fields #[.ref t0,.none,.none,.none,.bool false,.none]}) (hrest:rest.length≤sizeLine)
 (hq:∀h',h'.objs.size=h.objs.size+1→(∀b o,b≠e→h.get? b=some o→h'.get? b=some o)→h'.get? e=some {cls:=.ref C,data:=.fields #[.ref h.objs.size,.none,.none,.none,.bool false,.none]}→h'.get? h.objs.size=some {cls:=.type "tuple",data:=.seq rest.toArray}→Q .none ⟨h',g,d,t,os⟩):
 wpAny (model prog w) A (call (.builtin initId) (.ref e::rest)) Q E ⟨h,g,d,t,os⟩:=by
 have he:=AE hget
 refine wpAny_call (codeAny_call_builtin F.init.plain F.initEntry (wpAny_check_init_subT F T hC hget rfl ?_))
 wp_walk
 refine hq _ ?_ (fun b o hb eb=>?_) ?_ ?_
 ·simp
 ·rw [IR _ _ (Ne.symm hb)]
  exact AJ _ eb
 ·rw [IS _ (AJ _ hget) rfl]
  rfl
 ·rw [IR _ _ (BG he)]
  exact Bz _ rfl
end
end LS
namespace LS
open PySem PySem.Spec PyProof.Rows L2
def ZeC (i j k:Nat):MG:=fun d ρ=>match d with
 |.tup [x,.tup [y,z]]=>some (((ρ.set i (some x)).set j (some y)).set k (some z))
 |_=>none
abbrev ZeD (K:PySem.W.Frag) (i j k:Nat):TG:=GC K 2 (DN (Cu i) (DN (GC K 2 (DN (Cu j) (DN (Cu k) GB))) GB))
def Dz (elt:Expr) (gens:List Comprehension) (scope:Scope) (pos:Pos) (d:Nat) (acc:Value) (env:Env):Sem Unit:=match gens[d+1]? with
 |some g=>eval g.iter env >>=fun x=>standAt g.iter.pos >>=fun _=>foldedSetIterable g.iter env x >>=fun y=>holding [y] (pyIter y) >>=fun it=>
  runOwn (.compStart (.ListComp elt gens scope pos) (d+1) it acc env) env >>=fun _=>pure ()
 |none=>eval elt env >>=fun x=>call (.builtin "list.append") [acc,x] >>=fun _=>pure ()
theorem Yl {elt tg iter:Expr} {gens:List Comprehension} {ifs:List Expr} {scope:Scope} {pos:Pos} {d:Nat} {it acc:Value} {env:Env} (hg:gens[d]?=some ⟨tg,iter,ifs,0⟩) (ha:∀g,gens[d+1]?=some g→g.is_async=0):
 compTurn (.ListComp elt gens scope pos) d it acc env=standAt iter.pos >>=fun _=>pyNext it >>=fun r=>match r with
  |none=>pure (.done .next)
  |some v=>letOwnedTupleGo tg it v >>=fun _=>assign tg env v >>=fun _=>(forIn ifs true fun c r=>if r=true then do let ok ←isTrue c env (eval c env);pure (ForInStep.yield ok) else pure (ForInStep.yield r)) >>=fun ok=>
   if ok=true then Dz elt gens scope pos d acc env >>=fun _=>again (.compLoop (.ListComp elt gens scope pos) d it acc env) else again (.compLoop (.ListComp elt gens scope pos) d it acc env):=by
 unfold compTurn Dz
 simp only [hg]
 cases e:gens[d+1]? with
 |none=>rfl
 |some g=>
  obtain ⟨a,b,c,k⟩:=g
  have:k=0:=ha _ e
  subst this
  simp only [bind_assoc,pure_bind]
  rfl
section
variable {prog:Program} {w:World} {A:Around} {R:Result→Shared→Prop} {s:Shared} {elt tg iter:Expr} {gens:List Comprehension} {ifs:List Expr} {scope:Scope} {pos:Pos} {d:Nat} {it acc:Value} {env:Env}
theorem Ym (hg:gens[d]?=some ⟨tg,iter,ifs,0⟩) (ha:∀g,gens[d+1]?=some g→g.is_async=0) (I:Nat→Shared→Prop)
 (CM:∀n s,I n s→wpAny (model prog w) A (pyNext it) (fun r s₁=>match r with
  |none=>R (.ok .next) s₁
  |some v=>wpAny (model prog w) A (letOwnedTupleGo tg it v) (fun _ s₁'=>wpAny (model prog w) A (assign tg env v) (fun _ s₂=>
   wpAny (model prog w) A (forIn ifs true fun c r=>if r=true then do let ok ←isTrue c env (eval c env);pure (ForInStep.yield ok) else pure (ForInStep.yield r)) (fun ok s₃=>
    if ok=true then wpAny (model prog w) A (Dz elt gens scope pos d acc env) (fun _ s₅=>∃m,m<n∧I m s₅) (fun _ _=>False) s₃ else ∃m,m<n∧I m s₃) (fun _ _=>False) s₂) (fun _ _=>False) s₁') (fun _ _=>False) s₁) (fun _ _=>False) s)
 (n:Nat) (h:I n s):codeAny (model prog w) A (.compLoop (.ListComp elt gens scope pos) d it acc env) R s:=by
 refine codeAny_loop rfl I (fun n s hI=>?_) n h
 show wpAny _ A ((compTurn (.ListComp elt gens scope pos) d it acc env).onRaise (fun x=>do noteFrame x env;theTreesLotGoes x)) _ _ s
 refine wpAny_noted ?_
 rw [Yl hg ha]
 refine wpAny_bind (wpAny_standAt (wpAny_bind (wpAny_mono (CM n s hI) (fun r s₁ h₁=>?_) fun _ _ h'=>h'.elim)))
 cases r with
 |none=>exact wpAny_pure h₁
 |some v=>
  refine wpAny_bind (wpAny_mono h₁ (fun _ s₁' h₁'=>?_) fun _ _ h'=>h'.elim)
  refine wpAny_bind (wpAny_mono h₁' (fun _ s₂ h₂=>wpAny_bind (wpAny_mono h₂ (fun ok s₃ h₃=>?_) fun _ _ h'=>h'.elim)) fun _ _ h'=>h'.elim)
  cases ok with
  |false=>exact wpAny_pure ⟨rfl,h₃⟩
  |true=>exact wpAny_bind (wpAny_mono h₃ (fun _ s₅ h₅=>wpAny_pure ⟨rfl,h₅⟩) fun _ _ h'=>h'.elim)
theorem Sa (hg:gens[d]?=some ⟨tg,iter,ifs,0⟩)
 (h0:codeAny (model prog w) A (.compLoop (.ListComp elt gens scope pos) d it acc env) R s)
 (h:wpAny (model prog w) A (pyIter it) (fun it' s'=>codeAny (model prog w) A (.compLoop (.ListComp elt gens scope pos) d it' acc env) R s') (fun _ _=>False) s):
 codeAny (model prog w) A (.compStart (.ListComp elt gens scope pos) d it acc env) R s:=by
 refine codeAny_of_tree ?_
 show wpAny _ _ ((compStart (.ListComp elt gens scope pos) d it acc env).onRaise (fun x=>do noteFrame x env;standAt theWindowsPlace)) _ _ s
 refine wpAny_notedAt ?_
 have hc:(clausesOf (.ListComp elt gens scope pos))[d]?=some ⟨tg,iter,ifs,0⟩:=hg
 unfold compStart
 rw [hc]
 show wpAny _ _ (ask >>=_) _ _ s
 refine wpAny_bind (wpAny_askSetting (wpAny_ite ?_))
 split
 ·first
   |exact wpAny_bind (wpAny_pure (wpAny_pure ⟨rfl,h0⟩))
   |exact wpAny_pure ⟨rfl,h0⟩
 ·refine wpAny_bind (wpAny_rule ?_)
  show wpAny _ _ (standAt iter.pos >>=_) _ _ s
  exact wpAny_bind (wpAny_standAt (wpAny_bind (wpAny_mono h (fun it' s' h'=>wpAny_pure ⟨rfl,h'⟩) fun _ _ x=>x.elim)))
end
abbrev CA (its:List Value) (k:Nat):Obj:={cls:=.type "list",data:=.seq its.toArray k}
structure Iv (X:Cx) (D:Addr):Prop where
 lo:D≠X.env.locals
 ce:∀x c,X.env.cells.lookup x=some c→c≠D
 pn:∀p∈X.pn,p.1≠D
 ex:D∈X.ex
 fs:D∉X.fs
section
variable {X:Cx} {D:Addr} {its its':List Value} {k k':Nat} {rest:List (Addr×Obj)} {σ:L2.St} {H:Hp} {s:Shared} {h':Heap}
theorem Inv.repin (ao:Iv X D) (I:Inv X ((D,CA its k)::rest) σ H s) (hr:∀p∈rest,p.1≠D) (sb:Heap.SameBut D s.heap h') (e:h'.get? D=some (CA its' k')):Inv X ((D,CA its' k')::rest) σ H {s with heap:=h'}:=by
 have hD:=(I.pin _ (Bt _ AO)).2.1
 have I1:Inv X rest σ H s:=I.pins_of fun p hp=>I.pin p (Bt _ (AS _ hp))
 have I2:Inv X rest σ H {s with heap:=h'}:=I1.turned (t':=s.toks) (it:=D) (fun b o hb e=>(sb.2 b hb).trans e) hD ao.lo (.inl ao.ex) ao.ce fun p hp=>by
  rcases qb2.mp hp with z |z
  ·exact ao.pn p z
  ·exact hr p z
 refine I2.pins_of fun p hp=>?_
 rcases qa7.mp hp with rfl |z
 ·exact ⟨e,hD,ao.lo,ao.fs,fun v z=>by cases z⟩
 ·exact I2.pin p (Bt _ z)
def EM (X:Cx) (D:Addr) (em:Sem Unit) (te:L2.St→Hp→List V→(List V→Hp→Prop)→Prop):Prop:=
 ∀(rest:List (Addr×Obj)) (its:List Value) (k:Nat) (acc:List V) (σ:L2.St) (H:Hp) (s:Shared) (Q:List V→Hp→Prop),Inv X ((D,CA its k)::rest) σ H s→(∀p∈rest,p.1≠D)→Vals acc its→te σ H acc Q→
  wpAny (model X.prog X.w) X.A em (fun _ s'=>∃its' k' acc' H',Inv X ((D,CA its' k')::rest) σ H' s'∧Vals acc' its'∧Q acc' H') (fun _ _=>False) s
def Sb (te:TE):L2.St→Hp→List V→(List V→Hp→Prop)→Prop:=fun σ H acc Q=>acc.length<sizeLine∧te σ H fun y H'=>Q (acc++[y]) H'
theorem Yn {elt:Expr} {gens:List Comprehension} {scope:Scope} {pos:Pos} {d:Nat} {te:TE} (ao:Iv X D) (xe:X.xe=fun _ _=>False) (hl:gens[d+1]?=none) (pe:PE X elt te):EM X D (Dz elt gens scope pos d (.ref D) X.env) (Sb te):=by
 rintro rest its k acc σ H s Q I hr rv ⟨hz,h⟩
 unfold Dz
 rw [hl]
 have z:=pe _ s σ H _ I h
 rw [xe] at z
 refine wpAny_bind (wpAny_mono z (fun y s1 z1=>?_) fun _ _ z=>z.elim)
 obtain ⟨yv,H1,I1,r1,q1⟩:=z1
 obtain ⟨ho,hD,_⟩:=I1.pin _ (Bt _ AO)
 have hlen:=rv.length
 refine wpAny_bind (wpAny_list_append_plain ⟨k,ho⟩ (fun h' z2 sb=>?_) (by rw [A5];omega))
 obtain ⟨k',hl'⟩:=z2
 refine wpAny_pure ⟨its++[y],k',acc++[yv],H1,Inv.repin ao I1 hr sb (by rw [hl'];simp [CA]),rv.append (.cons r1 .nil),q1⟩
theorem Yo {o o':Obj} {H':Hp} {b:Addr} (f:CQ X ((D,o)::rest) H b) (n:H' b=none):CQ X ((D,o')::rest) H' b:=by
 obtain ⟨_,f1,f2,f3,f4,f5⟩:=f
 refine ⟨n,f1,f2,f3,f4,fun p hp=>?_⟩
 rcases qb2.mp hp with z |z
 ·exact f5 p (Gv _ z)
 ·rcases qa7.mp z with rfl |z
  ·exact f5 (D,o) (Bt _ AO)
  ·exact f5 p (Bt _ (AS _ z))
def Se (wi:TI) (g:TG) (tc:TT) (te:L2.St→Hp→List V→(List V→Hp→Prop)→Prop):L2.St→Hp→List V→(List V→Hp→Prop)→Prop:=fun σ H acc Q=>wi σ H fun J H1=>∃W:Nat→Nat→List V→Hp→Prop,(∃n,W 0 n acc H1)∧∀i n acc H,W i n acc H→
 (J.stop i H∧Q acc H)∨
 (J.go i H∧∀x H',J.yld i H x H'→g x σ H' fun σ2 H2=>Sub σ σ2∧tc σ2 H2 fun b H3=>if b=true then te σ2 H3 acc fun acc' H4=>∃n',n' < n∧W (i+1) n' acc' H4 else ∃n',n' < n∧W (i+1) n' acc H3)
inductive N6 (X:Cx) (D:Addr) (rest:List (Addr×Obj)) (σ:L2.St) (W:Nat→Nat→List V→Hp→Prop) (tn:Nat→Heap→Prop) (fp:List Addr) (n:Nat) (s':Shared):Prop where
 |mk (i:Nat) (acc:List V) (H':Hp) (its:List Value) (k:Nat) (w:W i n acc H') (ii:Inv X ((D,CA its k)::rest) σ H' s') (st:tn i s'.heap) (fr:∀b∈fp,H' b=none) (rv:Vals acc its):N6 X D rest σ W tn fp n s'
theorem Sg {elt tg iter:Expr} {gens:List Comprehension} {ifs:List Expr} {scope:Scope} {pos:Pos} {d:Nat} {g:TG} {tc:TT} {te:L2.St→Hp→List V→(List V→Hp→Prop)→Prop} {R:Result→Shared→Prop} {it:Addr} {fp:List Addr} {tn:Nat→Heap→Prop} {J:It} {W:Nat→Nat→List V→Hp→Prop} {QQ:List V→Hp→Prop}
 (xe:X.xe=fun _ _=>False) (xc:X.calm=true) (hg:gens[d]?=some ⟨tg,iter,ifs,0⟩) (ha:∀g,gens[d+1]?=some g→g.is_async=0) (pg:PG X tg g) (pt:Gb X ifs tc) (em:EM X D (Dz elt gens scope pos d (.ref D) X.env) te)
 (T:FW X.prog X.w X.K tg J fp it tn) (f:∀b∈fp,∀o H',H' b=none→CQ X ((D,o)::rest) H' b) (hr:∀p∈rest,p.1≠D)
 (CM:∀i n acc H,W i n acc H→(J.stop i H∧QQ acc H)∨
  (J.go i H∧∀x H',J.yld i H x H'→g x σ H' fun σ2 H2=>Sub σ σ2∧tc σ2 H2 fun b H3=>if b=true then te σ2 H3 acc fun acc' H4=>∃n',n' < n∧W (i+1) n' acc' H4 else ∃n',n' < n∧W (i+1) n' acc H3))
 (AW:∀its k acc H' s',Inv X ((D,CA its k)::rest) σ H' s'→Vals acc its→QQ acc H'→R (.ok .next) s') (n:Nat) (h:N6 X D rest σ W tn fp n s):
 codeAny (model X.prog X.w) X.A (.compLoop (.ListComp elt gens scope pos) d (.ref it) (.ref D) X.env) R s:=by
 refine Ym hg ha (N6 X D rest σ W tn fp) ?_ n h
 rintro n s5 ⟨i,acc,H5,its,k,w5,I5,Ez,fr5,rv5⟩
 have fk:∀{H':Hp},(∀b∈fp,H' b=none)→∀b∈fp,CQ X ((D,CA its k)::rest) H' b:=fun hn b hb=>f b hb _ _ (hn b hb)
 rcases CM i n acc H5 w5 with ⟨stop,qn⟩ |⟨go,step⟩
 ·refine wpAny_mono (T.done X rfl rfl rfl xc i _ s5 σ H5 (fun _ _=>False) I5 (fk fr5) Ez stop) (fun r s6 z=>?_) fun _ _ z=>z
  obtain ⟨rfl,I6⟩:=z
  exact AW its k acc H5 s6 I6 rv5 qn
 ·refine wpAny_mono (T.item X rfl rfl rfl xc i _ s5 σ H5 (fun _ _=>False) I5 (fk fr5) Ez go) (fun r s6 z=>?_) fun _ _ z=>z
  obtain ⟨u,rfl,h6⟩:=z
  refine wpAny_mono h6 (fun _ s7 z=>?_) fun _ _ z=>z
  obtain ⟨x,H7,I7,r7,y7,FO,fr7⟩:=z
  have I7':Inv X ((D,CA its k)::(rest++FX fp s7.heap)) σ H7 s7:=I7.pinned (fp:=fp) (fk fr7) (T.obj _ _ FO)
  have hr':∀p∈rest++FX fp s7.heap,p.1≠D:=fun p hp=>by
   rcases qb2.mp hp with z |z
   ·exact hr p z
   ·obtain ⟨hb,_⟩:=Pl z
    exact Ne.symm ((f p.1 hb (CA its k) H7 (fr7 p.1 hb)).2.2.2.2.2 (D,CA its k) (Bt _ AO))
  have z2:=pg _ s7 σ H7 x u _ I7' r7 (step x H7 y7)
  rw [xe] at z2
  refine wpAny_mono z2 (fun _ s8 z=>?_) fun _ _ z=>z
  obtain ⟨σ8,H8,I8,sub8,q8⟩:=z
  have z3:=pt _ s8 σ8 H8 _ I8 q8
  rw [xe] at z3
  refine wpAny_mono z3 (fun ok s9 z=>?_) fun _ _ z=>z
  obtain ⟨H9,I9,q9⟩:=z
  have back:∀{sy:Shared} {Hy:Hp} {its':List Value} {k':Nat},Inv X ((D,CA its' k')::(rest++FX fp s7.heap)) σ8 Hy sy→
   Inv X ((D,CA its' k')::rest) σ Hy sy∧tn (i+1) sy.heap∧∀b∈fp,Hy b=none:=fun {sy Hy its' k'} Iy=>by
   have at_:∀b∈fp,∀o,s7.heap.get? b=some o→sy.heap.get? b=some o∧Hy b=none:=fun b hb o e=>by
    obtain ⟨z1,z2,_⟩:=Iy.pin (b,o) (Bt _ (AS _ (Bt _ (Jc hb e))))
    exact ⟨z1,z2⟩
   refine ⟨(Iy.pins_of fun p hp=>Iy.pin p (Bt _ ?_)).weak sub8.1 fun j v z=>sub8.2 j v z,T.keep _ _ _ FO fun b hb o e=>(at_ b hb o e).1,fun b hb=>?_⟩
   ·rcases qa7.mp hp with rfl |z
    ·exact AO
    ·exact AS _ (Gv _ z)
   ·obtain ⟨o,e,_⟩:=T.obj _ _ FO b hb
    exact (at_ b hb o e).2
  cases ok with
  |false=>
   simp only [CH,if_false] at q9 ⊢
   obtain ⟨n',hn',w'⟩:=q9
   obtain ⟨a1,a2,a3⟩:=back I9
   exact ⟨n',hn',i+1,acc,H9,its,k,w',a1,a2,a3,rv5⟩
  |true=>
   simp only [if_true] at q9 ⊢
   refine wpAny_mono (em _ its k acc σ8 H9 s9 _ I9 hr' rv5 q9) (fun _ s10 z=>?_) fun _ _ z=>z
   obtain ⟨its',k',acc',H10,I10,rv10,n',hn',w'⟩:=z
   obtain ⟨a1,a2,a3⟩:=back I10
   exact ⟨n',hn',i+1,acc',H10,its',k',w',a1,a2,a3,rv10⟩
theorem Yp {elt tg iter:Expr} {gens:List Comprehension} {ifs:List Expr} {scope:Scope} {pos:Pos} {d:Nat} {wi:TI} {g:TG} {tc:TT} {te:L2.St→Hp→List V→(List V→Hp→Prop)→Prop}
 (xe:X.xe=fun _ _=>False) (xc:X.calm=true) (hg:gens[d+1]?=some ⟨tg,iter,ifs,0⟩) (ha:∀g,gens[d+1+1]?=some g→g.is_async=0) (hi:PI X tg iter wi) (pg:PG X tg g) (pt:Gb X ifs tc) (em:EM X D (Dz elt gens scope pos (d+1) (.ref D) X.env) te)
 (hsf:∀x,foldedSetIterable iter X.env x=pure x):EM X D (Dz elt gens scope pos d (.ref D) X.env) (Se wi g tc te):=by
 rintro rest its k acc σ H s Q I hr rv h
 unfold Dz
 rw [hg]
 have z:=hi _ s σ H _ I h
 rw [xe] at z
 refine wpAny_bind (wpAny_mono z (fun xv s1 h1=>?_) fun _ _ z=>z)
 refine wpAny_bind (wpAny_standAt (wpAny_bind (wpAny_of_eq (hsf xv) ?_)))
 refine wpAny_bind (wpAny_holding (wpAny_mono h1 (fun itv s2 h2=>?_) fun _ _ z=>z))
 obtain ⟨it,fp,tn,J,H2,e,I2,T,Dk,f2,W,⟨n0,w0⟩,CM⟩:=h2
 subst e
 refine wpAny_bind (wpAny_runOwn ?_)
 rw [Around.mark_none]
 have loop:=Sg (R:=fun r s'=>match r with |.ok f=>wpAny (model X.prog X.w) X.A (pure ()) (fun _ s'=>∃its' k' acc' H',Inv X ((D,CA its' k')::rest) σ H' s'∧Vals acc' its'∧Q acc' H') (fun _ _=>False) s' |.error e=>cameBackBy (model X.prog X.w) X.A X.env (fun _ _=>False) e s')
  xe xc hg ha pg pt em T (fun b hb o H' hn=>Yo (f2 b hb) hn) hr CM (fun its' k' acc' H' s' I' rv' q'=>wpAny_pure ⟨its',k',acc',H',I',rv',q'⟩) n0 ⟨0,acc,H2,its,k,w0,I2,Dk,fun b hb=>(f2 b hb).1,rv⟩
 exact Sa hg loop (T.self X.A 0 s2 _ _ Dk loop)
end
def N7 (cs:List (Option Nat)) (wi:TI) (g:TG) (tc:TT) (te:L2.St→Hp→List V→(List V→Hp→Prop)→Prop):TE:=fun σ H Q=>wi σ H fun J H1=>∃W:Nat→Nat→List V→Hp→Prop,(∃n,W 0 n [] H1)∧∀i n acc H,W i n acc H→
 (J.stop i H∧acc.length≤sizeLine∧∀p,H p=none→Q (.ref p) (Ak H p (.lst acc)))∨
 (J.go i H∧∀x H',J.yld i H x H'→g x (Bx cs σ) H' fun σ2 H2=>Sub (Bx cs σ) σ2∧tc σ2 H2 fun b H3=>if b=true then te σ2 H3 acc fun acc' H4=>∃n',n' < n∧W (i+1) n' acc' H4 else ∃n',n' < n∧W (i+1) n' acc H3)
section
variable {X:Cx} {elt tg iter:Expr} {ifs:List Expr} {gs:List Comprehension} {scope:Scope} {pos:Pos} {Nc:List Str} {cs:List (Option Nat)} {wi:TI} {g:TG} {tc:TT} {te:L2.St→Hp→List V→(List V→Hp→Prop)→Prop}
theorem Yq {use:Option (Value→Sem Unit)} {QQ:Value→Shared→Prop} {ppos:Pos} {pins:List (Addr×Obj)} {s:Shared} {σ:L2.St} {H:Hp} {Q:VK} (hcalm:X.calm=true) (S:Gc X scope Nc cs) (hi:PI X tg iter wi) (ha:∀g,gs[0]?=some g→g.is_async=0)
 (hb:∀(C D:Addr) (cells:List (Str×Addr)) (fp:List Addr) (s₀:Shared) (H₀:Hp) (pins:List (Addr×Obj)),Iv (Bf X Nc scope C D cells fp s₀ H₀ pins) D→PG (Bf X Nc scope C D cells fp s₀ H₀ pins) tg g∧Gb (Bf X Nc scope C D cells fp s₀ H₀ pins) ifs tc∧
  EM (Bf X Nc scope C D cells fp s₀ H₀ pins) D (Dz elt (⟨tg,iter,ifs,0⟩::gs) scope pos 0 (.ref D) (Bf X Nc scope C D cells fp s₀ H₀ pins).env) te)
 (hsf:∀x,foldedSetIterable iter X.env x=pure x) (I:Inv X pins σ H s) (h:N7 cs wi g tc te σ H Q)
 (AW:∀(s6:Shared) (C D:Addr) (H7:Hp) (m6:Str→Option Value),s6.heap.Ns C m6→H7 C=none→X.s₀.heap.objs.size≤C→C≠X.env.locals→(∀x c,X.env.cells.lookup x=some c→c≠C)→(∀p∈X.pn++pins,p.1≠C)→
  (∀h',Heap.SameBut C s6.heap h'→Inv X pins σ H7 {s6 with heap:=h'})→Q (.ref D) H7→compPost (model X.prog X.w) X.A X.xe use QQ (.ref D) C (.ok .next) s6):
 wpAny (model X.prog X.w) X.A (comprehension (.ListComp elt (⟨tg,iter,ifs,0⟩::gs) scope pos) scope X.env ppos (newList []) false (eval iter X.env) use) QQ X.xe s:=by
 obtain ⟨cl,hclos,hcl,hcl2⟩:=M4 (scope:=scope) (env:=X.env) fun y hy hf=>I.ok.has y.1 (S.free y hy hf)
 refine wpAny_comprehension_free (use:=use) rfl hsf hclos S.kind S.loc (Aw (hi pins s σ H _ I h) fun xv s1 h1=>Aw h1 fun itv s2 h2=>?_)
 obtain ⟨it,fp,tn,J,H2,e,I2,T,Dk,f2,W,⟨n0,w0⟩,CM⟩:=h2
 subst e
 refine wpAny_newObj_type ?_
 generalize e3:({s2 with heap:=s2.heap.push {cls:=.type "list",data:=.seq ([]:List Value).toArray}}:Shared)=s3
 refine Ql ?_
 have ob2:∀b∈fp,∃o,s2.heap.get? b=some o:=fun b hb=>let ⟨o,e,_⟩:=T.obj _ _ Dk b hb;⟨o,e⟩
 have I4:=Qo (fp:=fp) (cl:=cl) S I2 f2 ob2 hcl hcl2 e3.symm
 generalize e4:({s3 with heap:=pushCells (s3.heap.push {cls:=.type "dict",data:=.dict #[]}) scope.names}:Shared)=s4 at I4
 generalize ecl:cellsFrom (s3.heap.objs.size+1) scope.names cl=cells at I4
 have okc:=I4.ok
 have k3:∀b o,s2.heap.get? b=some o→s3.heap.get? b=some o:=fun b o e=>by subst e3;exact AJ _ e
 have Jw:s3.heap.objs.size=s2.heap.objs.size+1:=by subst e3;exact Ct ..
 have k34:∀b o,s3.heap.get? b=some o→s4.heap.get? b=some o:=fun b o e=>by subst e4;exact pushCells_keeps _ _ b o (AJ _ e)
 have hDfp:s2.heap.objs.size∉fp:=fun hm=>by
  obtain ⟨o,e⟩:=ob2 _ hm
  exact absurd (AE e) (CP _)
 have hDex:s2.heap.objs.size∈(Bf X Nc scope s3.heap.objs.size s2.heap.objs.size cells fp s3 H2 pins).ex:=AO
 have ao:Iv (Bf X Nc scope s3.heap.objs.size s2.heap.objs.size cells fp s3 H2 pins) s2.heap.objs.size:=
  ⟨show s2.heap.objs.size≠s3.heap.objs.size from BD (by omega),fun x c e=>(okc.exf _ hDex).2 x c e,fun p hp=>BD (AE (I2.pin p hp).1),hDex,okc.exfs _ hDex⟩
 obtain ⟨pg,pt,em⟩:=hb s3.heap.objs.size s2.heap.objs.size cells fp s3 H2 pins ao
 have hD4:s4.heap.get? s2.heap.objs.size=some (CA [] 0):=by
  refine k34 _ _ ?_
  subst e3
  exact Bz _ rfl
 have fC:∀b∈fp,∀(o:Obj) (H':Hp),H' b=none→CQ (Bf X Nc scope s3.heap.objs.size s2.heap.objs.size cells fp s3 H2 pins) ((s2.heap.objs.size,o)::[]) H' b:=fun b hb o H' hn=>by
  have hbx:b∈(Bf X Nc scope s3.heap.objs.size s2.heap.objs.size cells fp s3 H2 pins).ex:=AS _ hb
  refine ⟨hn,(okc.exf b hbx).1,okc.exfs b hbx,.inl hbx,(okc.exf b hbx).2,fun p hpp=>?_⟩
  rcases qb2.mp hpp with z |z
  ·exact (f2 b hb).2.2.2.2.2 p z
  ·rw [qaD] at z
   subst z
   intro e
   exact hDfp ((show s2.heap.objs.size=b from e) ▸ hb)
 have I4':Inv (Bf X Nc scope s3.heap.objs.size s2.heap.objs.size cells fp s3 H2 pins) ((s2.heap.objs.size,CA [] 0)::[]) (Bx cs σ) H2 s4:=I4.pins_of fun p hp=>by
  rw [qaD] at hp
  subst hp
  exact ⟨hD4,I2.hok.fresh (AM _),ao.lo,ao.fs,fun v z=>by cases z⟩
 have Ml:tn 0 s4.heap:=T.keep _ _ _ Dk fun b hb o e=>k34 b o (k3 b o e)
 have loop:=Sg (X:=Bf X Nc scope s3.heap.objs.size s2.heap.objs.size cells fp s3 H2 pins) (QQ:=fun acc H5=>acc.length≤sizeLine∧∀p,H5 p=none→Q (.ref p) (Ak H5 p (.lst acc)))
  (R:=compPost (model X.prog X.w) X.A X.xe use QQ (.ref s2.heap.objs.size) s3.heap.objs.size) rfl hcalm (d:=0) (gens:=⟨tg,iter,ifs,0⟩::gs) rfl ha pg pt em T fC (fun p hp=>(nomatch hp)) CM (fun its k acc H5 s6 I6 rv5 qn=>?_) n0
   ⟨0,[],H2,[],0,w0,I4',Ml,fun b hb=>(f2 b hb).1,.nil⟩
 ·exact Sa (d:=0) rfl loop (T.self X.A 0 s4 _ _ Ml loop)
 ·obtain ⟨m6,hn6,_⟩:=I6.loc
  obtain ⟨ho6,hD6,_⟩:=I6.pin _ (Bt _ AO)
  have lt2:∀b,b<s2.heap.objs.size→b≠s3.heap.objs.size:=fun b hb=>BD (AX hb (by omega))
  refine AW s6 s3.heap.objs.size s2.heap.objs.size (Ak H5 s2.heap.objs.size (.lst acc)) m6 hn6 ?_ (BA I2.sz (by omega)) ?_ ?_ ?_ ?_ (qn.2 _ hD6)
  ·rw [Al (Fw (by omega))]
   exact I6.free
  ·obtain ⟨m2,hn2,_⟩:=I2.loc
   exact Ne.symm (lt2 _ hn2.lt)
  ·intro x c hx
   obtain ⟨v,hv⟩:=I2.cell x c hx
   obtain ⟨o,ho,_⟩:=hv
   exact lt2 _ (AE ho)
  ·intro p hp
   exact lt2 _ (AE (I2.pin p hp).1)
  ·intro h' sb
   exact Qp I2 f2 e3.symm rfl I6 hD6 qn.1 rv5 ho6 sb
end
abbrev De:=Ah→HD→List D→Out (List D)
abbrev Sh:=L2.St→Hp→List V→(List V→Hp→Prop)→Prop
def Frs (js:List Nat) (σ:L2.St):Prop:=∀j∈js,σ[j]?=some none
def Iw (K:PySem.W.Frag) (is js:List Nat) (gg:TG) (sg:MG):Prop:=
 ∀m H d v ρ σ ρ' Q,DV K m H d v→ER K m H ρ σ→Frs (is++js) σ→sg d ρ=some ρ'→(∀σ',Sub σ σ'→Frs js σ'→ER K m H ρ' σ'→Q σ' H)→gg v σ H Q
theorem Yr {σ σ':L2.St} {i:Nat} {v:V} (h:σ[i]?=some none) (s:Sub σ σ'):Sub σ (σ'.set i (some v)):=by
 refine ⟨by rw [s.1];simp,fun j w e=>?_⟩
 have hj:i≠j:=by
  rintro rfl
  rw [h] at e
  cases e
 rw [BU hj]
 exact s.2 j w e
theorem Frs.set {js:List Nat} {σ:L2.St} {i:Nat} {v:Option V} (h:Frs js σ) (n:i∉js):Frs js (σ.set i v):=fun j hj=>by
 have hn:i≠j:=by
  rintro rfl
  exact n hj
 rw [BU hn]
 exact h j hj
theorem Ly {K:PySem.W.Frag} {i:Nat} {js:List Nat} (n:i∉js):Iw K [i] js (Cu i) (AG i):=fun m H d v ρ σ ρ' Q r er f e q=>by
 simp only [AG,Option.some.injEq] at e
 subst e
 exact q _ (Yr (f i AO) (.refl _)) (Frs.set (fun j hj=>f j (AS _ hj)) n) (er.set r)
noncomputable def FL (f:ME):De:=fun ρ h acc=>if acc.length<sizeLine then (noErr (f ρ h)).bind fun y h2=>.ok (acc++[y]) h2 else .stuck
open Classical in
noncomputable def D0 (src:A8) (items:List D) (sg:MG) (t:MT) (e:De) (ρ:Ah):List D→HD→List D→Out (List D)
 |[],h,acc=>if Bs src items h then .ok acc h else .stuck
 |d::ds,h,acc=>if Bs src items h then match sg d ρ with
   |none=>.stuck
   |some ρ1=>(noErr (t ρ1 h)).bind fun b h1=>if b=true then (noErr (e ρ1 h1 acc)).bind fun acc2 h2=>D0 src items sg t e ρ ds h2 acc2 else D0 src items sg t e ρ ds h1 acc
  else .stuck
noncomputable def Gm (it:MI) (sg:MG) (t:MT) (e:De):De:=fun ρ h acc=>(noErr (it ρ h)).bind fun x h1=>D0 x.2 x.1 sg t e ρ x.1 h1 acc
noncomputable def E7 (cs:List (Option Nat)) (it:MI) (sg:MG) (t:MT) (e:De):ME:=fun ρ h=>(it ρ h).bind fun x h1=>(D0 x.2 x.1 sg t e (B5 cs ρ) x.1 h1 []).bind CI
def E8 (K:PySem.W.Frag) (js:List Nat) (e:De):Sh:=fun σ H acc Q=>∃m ρ h dacc,HR K m h H∧ER K m H ρ σ∧DVs K m H dacc acc∧Frs js σ∧Post K (DP K) m H E0 Q (e ρ h dacc)
theorem EM.imp {X:Cx} {D:Addr} {em:Sem Unit} {te te':Sh} (h:EM X D em te) (f:∀σ H acc Q,te' σ H acc Q→te σ H acc Q):EM X D em te':=
 fun rest its k acc σ H s Q I hr rv z=>h rest its k acc σ H s Q I hr rv (f _ _ _ _ z)
theorem Ys {K:PySem.W.Frag} {js:List Nat} {f:ME} (σ:L2.St) (H:Hp) (acc:List V) (Q:List V→Hp→Prop):E8 K js (FL f) σ H acc Q→Sb (tD K E0 f) σ H acc Q:=by
 rintro ⟨m,ρ,h,dacc,hr,er,da,_,p⟩
 unfold FL at p
 split at p
 ·rename_i hz
  refine ⟨by rw [←DVs.len da];exact hz,m,ρ,h,hr,er,HW p fun y h1 v m1 H1 _ p1 k1 hr1 r1 q1=>?_⟩
  exact q1 _ m1 H1 (AH _) (.refl _) hr1 ((DVs.keep p1 k1 da).app (.cons r1 .nil))
 ·exact p.elim
inductive Si {β:Type} (K:PySem.W.Frag) (E:XK) (α:Type) (R:List Addr→Hp→α→β→Prop) (Q:β→Hp→Prop) (kk:List D→HD→Out α) (src:A8) (items:List D) (sg:MG) (t:MT) (e:De) (ρ:Ah) (m1:List Addr) (H1:Hp) (i n:Nat) (acc:List V) (H2:Hp):Prop where
 |mk (en:n=items.length - i) (l:i≤items.length) (m2:List Addr) (h2:HD) (dacc:List D) (p:m1 <+:m2) (k:Kp H1 H2) (hr:HR K m2 h2 H2) (da:DVs K m2 H2 dacc acc) (q:Post K R m2 H2 E Q ((D0 src items sg t e ρ (items.drop i) h2 dacc).bind kk)):Si K E α R Q kk src items sg t e ρ m1 H1 i n acc H2
theorem Sj {K:PySem.W.Frag} {E:XK} {α β:Type} {R:List Addr→Hp→α→β→Prop} {Q:β→Hp→Prop} {kk:List D→HD→Out α} {is js:List Nat} {gg:TG} {sg:MG} {t:MT} {e:De} {src:A8} {items:List D} {J:It} {ρ:Ah} {σ:L2.St} {m1:List Addr} {h1:HD} {H1:Hp} {dacc:List D} {acc:List V} {QQ:List V→Hp→Prop}
 (hg:Iw K is js gg sg) (fr:Frs (is++js) σ) (er:ER K m1 H1 ρ σ) (r1:F8 K m1 H1 (items,src) J) (hr1:HR K m1 h1 H1) (da:DVs K m1 H1 dacc acc) (q:Post K R m1 H1 E Q ((D0 src items sg t e ρ items h1 dacc).bind kk))
 (AW:∀m h H dacc acc,m1 <+:m→Kp H1 H→HR K m h H→DVs K m H dacc acc→Post K R m H E Q (kk dacc h)→QQ acc H):
 ∃W:Nat→Nat→List V→Hp→Prop,(∃n,W 0 n acc H1)∧∀i n acc H,W i n acc H→(J.stop i H∧QQ acc H)∨
  (J.go i H∧∀x H',J.yld i H x H'→gg x σ H' fun σ2 H2=>Sub σ σ2∧EN K E0 t σ2 H2 fun b H3=>if b=true then E8 K js e σ2 H3 acc fun acc' H4=>∃n',n' < n∧W (i+1) n' acc' H4 else ∃n',n' < n∧W (i+1) n' acc H3):=by
 refine ⟨Si K E α R Q kk src items sg t e ρ m1 H1,⟨items.length,rfl,EF _,m1,h1,dacc,AH _,.refl _,hr1,da,q⟩,?_⟩
 rintro i n acc H2 ⟨rfl,hi',m2,h2,dacc,p2,k2,hr2,da,q2⟩
 by_cases hlt:i<items.length
 ·rw [Kj hlt] at q2
  unfold D0 at q2
  split at q2
  ·rename_i hs
   obtain ⟨hgo,hy⟩:=(r1 i m2 h2 H2 p2 k2 hr2 hs).1 hlt
   refine .inr ⟨hgo,fun y H3 hyl=>?_⟩
   obtain ⟨k3,hr3,d,ed,rd⟩:=hy y H3 hyl
   have ed':d=items[i]:=by rw [Bb hlt] at ed;exact (Option.some.inj ed).symm
   subst ed'
   split at q2
   ·exact q2.elim
   ·rename_i ρ3 es
    refine hg m2 H3 _ y ρ σ ρ3 _ rd (er.keep p2 (k2.trans k3)) fr es fun σ4 sub4 fr4 er4=>⟨sub4,m2,ρ3,h2,hr3,er4,?_⟩
    rw [Out.bind_assoc] at q2
    refine HW (Post.ahead (AH _) k3 q2) fun b h5 v m5 H5 _ p5 k5 hr5 r5 q5=>?_
    cases r5
    cases b with
    |false=>
     simp only [CH,if_false] at q5 ⊢
     exact ⟨items.length - (i+1),by omega,rfl,hlt,m5,h5,dacc,p2.trans p5,(k2.trans k3).trans k5,hr5,DVs.keep p5 (k3.trans k5) da,q5⟩
    |true=>
     simp only [if_true] at q5 ⊢
     rw [Out.bind_assoc] at q5
     refine ⟨m5,ρ3,h5,dacc,hr5,er4.keep p5 k5,DVs.keep p5 (k3.trans k5) da,fr4,HW q5 fun z h6 w m6 H6 _ p6 k6 hr6 r6 q6=>?_⟩
     exact ⟨items.length - (i+1),by omega,rfl,hlt,m6,h6,z,(p2.trans p5).trans p6,((k2.trans k3).trans k5).trans k6,hr6,r6,q6⟩
  ·exact q2.elim
 ·have he:i=items.length:=Nat.le_antisymm hi' (Hx hlt)
  subst he
  rw [List.drop_length] at q2
  unfold D0 at q2
  split at q2
  ·rename_i hs
   exact .inl ⟨(r1 _ m2 h2 H2 p2 k2 hr2 hs).2 rfl,AW m2 h2 H2 dacc acc p2 k2 hr2 da q2⟩
  ·exact q2.elim
theorem Yt {K:PySem.W.Frag} {is js:List Nat} {it:MI} {gg:TG} {sg:MG} {t:MT} {e:De} (hg:Iw K is js gg sg) (σ:L2.St) (H:Hp) (acc:List V) (Q:List V→Hp→Prop):E8 K (is++js) (Gm it sg t e) σ H acc Q→Se (tM K (F8 K) E0 it) gg (EN K E0 t) (E8 K js e) σ H acc Q:=by
 rintro ⟨m,ρ,h,dacc,hr,er,da,fr,p⟩
 unfold Gm at p
 refine ⟨m,ρ,h,hr,er,HW p fun x h1 J m1 H1 _ p1 k1 hr1 r1 q1=>?_⟩
 refine Sj (E:=E0) (kk:=fun a h=>.ok a h) hg fr (er.keep p1 k1) r1 hr1 (DVs.keep p1 k1 da) ?_ fun m2 h2 H2 dacc2 acc2 p2 k2 hr2 da2 q2=>q2 _ m2 H2 (AH _) (.refl _) hr2 da2
 have:∀o:Out (List D),(o.bind fun a h=>.ok a h)=o:=fun o=>by cases o<;>rfl
 rw [this]
 exact q1
section
variable {X:Cx} {E:XK} {D:Addr} {elt tg iter:Expr} {ifs:List Expr} {gs gens:List Comprehension} {scope:Scope} {pos:Pos} {Nc:List Str} {cs:List (Option Nat)} {it:MI} {gg:TG} {sg:MG} {t:MT} {f:ME} {e:De} {d:Nat} {is js:List Nat}
theorem Sk (ao:Iv X D) (xe:X.xe=fun _ _=>False) (hl:gens[d+1]?=none) (pe:Ev X E0 elt f):EM X D (Dz elt gens scope pos d (.ref D) X.env) (E8 X.K js (FL f)):=(Yn ao xe hl pe).imp Ys
theorem Sl (xe:X.xe=fun _ _=>False) (xc:X.calm=true) (hg:gens[d+1]?=some ⟨tg,iter,ifs,0⟩) (ha:∀g,gens[d+1+1]?=some g→g.is_async=0) (hi:EW X E0 tg iter it) (pg:PG X tg gg) (gk:Iw X.K is js gg sg) (pt:HX X E0 ifs t) (em:EM X D (Dz elt gens scope pos (d+1) (.ref D) X.env) (E8 X.K js e))
 (hsf:∀x,foldedSetIterable iter X.env x=pure x:=by intro _;rfl):EM X D (Dz elt gens scope pos d (.ref D) X.env) (E8 X.K (is++js) (Gm it sg t e)):=(Yp xe xc hg ha hi pg pt em hsf).imp (Yt gk)
theorem Yu (hc:∀j∈is++js,cs[j]?=some none) (hg:Iw X.K is js gg sg):∀σ H Q,tD X.K E (E7 cs it sg t e) σ H Q→N7 cs (tM X.K (F8 X.K) E it) gg (EN X.K E0 t) (E8 X.K js e) σ H Q:=by
 rintro σ H Q ⟨m,ρ,h,hr,er,p⟩
 refine ⟨m,ρ,h,hr,er,Post.bind p fun x h1 J m1 H1 _ p1 k1 hr1 r1 q1=>?_⟩
 exact Sj (QQ:=fun acc H=>acc.length≤sizeLine∧∀p,H p=none→Q (.ref p) (Ak H p (.lst acc))) hg (fun j hj=>by unfold Bx;rw [Ca,hc j hj];rfl) ((er.keep p1 k1).comp cs) r1 hr1 .nil q1 fun m2 h2 H2 dacc2 acc2 p2 k2 hr2 da2 q2=>HN (X:=X) hr2 da2 q2
end
theorem N8 {α:Type} {src:A8} {items:List D} {sg:MG} {t:MT} {e:De} {ρ:Ah} (φ:α→D) (g:α→Bool) (es:α→List D) (ρ1:α→Ah):
 ∀(xs:List α) (h:HD) (acc:List D),(∀h',Sm h h'→Bs src items h')→(∀x∈xs,sg (φ x) ρ=some (ρ1 x))→(∀x∈xs,∀h',Sm h h'→Pu (t (ρ1 x) h') h' (g x))→(∀x∈xs,g x=true→∀h' acc,Sm h h'→acc.length+(es x).length≤sizeLine→Pu (e (ρ1 x) h' acc) h' (acc++es x))→
  acc.length+((xs.filter g).flatMap es).length≤sizeLine→Pu (D0 src items sg t e ρ (xs.map φ) h acc) h (acc++(xs.filter g).flatMap es)
 |[],h,acc,hs,_,_,_,_=>by
  simp only [FT,List.filter_nil,D0]
  rw [if_pos (hs h (.refl _))]
  simpa using (.ok:Pu (.ok acc h) h acc)
 |x::xs,h,acc,hs,hg,ht,hf,hz=>by
  simp only [BM,D0]
  rw [if_pos (hs h (.refl _)),hg x AO]
  simp only
  refine Pu.bind (ht x AO h (.refl _)).noErr fun h1 s1=>?_
  have ih:∀h2 acc,Sm h h2→acc.length+((xs.filter g).flatMap es).length≤sizeLine→Pu (D0 src items sg t e ρ (xs.map φ) h2 acc) h2 (acc++(xs.filter g).flatMap es):=fun h2 acc s2 z2=>N8 φ g es ρ1 xs h2 acc (fun h' s'=>hs h' (s2.trans s'))
   (fun y hy=>hg y (AS _ hy)) (fun y hy h' s'=>ht y (AS _ hy) h' (s2.trans s')) (fun y hy gy h' a s' z'=>hf y (AS _ hy) gy h' a (s2.trans s') z') z2
  cases hgx:g x with
  |false=>
   rw [List.filter_cons_of_neg (by simp [hgx])] at hz ⊢
   rw [if_neg BL]
   exact ih h1 acc s1 hz
  |true=>
   rw [List.filter_cons_of_pos hgx,IU] at hz ⊢
   rw [CG] at hz
   rw [if_pos rfl]
   refine Pu.bind (hf x AO hgx h1 acc s1 (by omega)).noErr fun h2 s2=>?_
   have:=ih h2 (acc++es x) (s1.trans s2) (by rw [CG];omega)
   rwa [List.append_assoc] at this
theorem Yv {f:ME} {ρ:Ah} {h:HD} {acc:List D} {y:D} (hf:Pu (f ρ h) h y) (hz:acc.length+1≤sizeLine):Pu (FL f ρ h acc) h (acc++[y]):=by
 unfold FL
 rw [if_pos (by omega)]
 exact Pu.bind hf.noErr fun h2 s2=>.ok
theorem N9 {α β:Type} {y:α→β}:∀{xs:List α},xs.flatMap (fun x=>[y x])=xs.map y
 |[]=>rfl
 |x::xs=>by rw [IU,N9,BM];rfl
section
variable {α β:Type} {cs:List (Option Nat)} {it:MI} {sg:MG} {t:MT} {f:ME} {e:De} {ρ:Ah} {h:HD} {src:A8} {xs:List α} {φ:α→D} {acc:List D}
theorem Yw (g:α→Bool) (es:α→List D) (ρ1:α→Ah) (hi:BX (it ρ h) h (xs.map φ) src) (hg:∀x∈xs,sg (φ x) ρ=some (ρ1 x)) (ht:∀x∈xs,∀h',Sm h h'→Pu (t (ρ1 x) h') h' (g x)) (hf:∀x∈xs,g x=true→∀h' acc,Sm h h'→acc.length+(es x).length≤sizeLine→Pu (e (ρ1 x) h' acc) h' (acc++es x))
 (hz:acc.length+((xs.filter g).flatMap es).length≤sizeLine):Pu (Gm it sg t e ρ h acc) h (acc++(xs.filter g).flatMap es):=by
 unfold Gm Pu
 have:Wp (noErr (it ρ h)) fun x h'=>x=(xs.map φ,src)∧Sm h h'∧∀h2,Sm h' h2→Bs src (xs.map φ) h2:=by
  unfold BX at hi
  cases eo:it ρ h with
  |ok a h1=>rw [eo] at hi;exact hi
  |err C fs h1=>rw [eo] at hi;exact hi
  |stuck=>rw [eo] at hi;exact hi
 rw [Az]
 refine Wp.mono this fun x h1 z=>?_
 obtain ⟨rfl,s1,hs⟩:=z
 exact (N8 φ g es ρ1 xs h1 acc hs hg (fun x hx h' s'=>ht x hx h' (s1.trans s')) (fun x hx gx h' a s' z'=>hf x hx gx h' a (s1.trans s') z') hz).wp fun h2 s2=>⟨rfl,s1.trans s2⟩
theorem Sn (y:α→D) (ρ1:α→Ah) (hi:BX (it ρ h) h (xs.map φ) src) (hg:∀x∈xs,sg (φ x) ρ=some (ρ1 x)) (hf:∀x∈xs,∀h',Sm h h'→Pu (f (ρ1 x) h') h' (y x)) (hz:acc.length+(xs.map y).length≤sizeLine):
 Pu (Gm it sg AN (FL f) ρ h acc) h (acc++xs.map y):=by
 have:=Yw (t:=AN) (e:=FL f) (acc:=acc) (fun _=>true) (fun x=>[y x]) ρ1 hi hg (fun x hx h' s'=>(.ok:Pu (.ok true h') h' true)) (fun x hx _ h' acc s' z'=>Yv (hf x hx h' s') z') (by rw [B7,N9];exact hz)
 rwa [B7,N9] at this
theorem So {Q:D→HD→Prop} (g:α→Bool) (es:α→List D) (ρ1:α→Ah) (hi:BX (it ρ h) h (xs.map φ) src) (hg:∀x∈xs,sg (φ x) (B5 cs ρ)=some (ρ1 x)) (ht:∀x∈xs,∀h',Sm h h'→Pu (t (ρ1 x) h') h' (g x)) (hf:∀x∈xs,g x=true→∀h' acc,Sm h h'→acc.length+(es x).length≤sizeLine→Pu (e (ρ1 x) h' acc) h' (acc++es x))
 (hz:((xs.filter g).flatMap es).length≤sizeLine) (q:∀l h',Sm h h'→h'[l]?=some (.lst ((xs.filter g).flatMap es))→Q (.loc l) h'):Wp (E7 cs it sg t e ρ h) Q:=by
 unfold E7
 rw [Az]
 refine Wp.mono hi fun x h1 z=>?_
 obtain ⟨rfl,s1,hs⟩:=z
 rw [Az]
 refine (N8 φ g es ρ1 xs h1 [] hs hg (fun x hx h' s'=>ht x hx h' (s1.trans s')) (fun x hx gx h' a s' z'=>hf x hx gx h' a (s1.trans s') z') (by simpa using hz)).wp fun h2 s2=>?_
 rw [HA]
 exact A7 hz fun l h3 s3 e3 _ _=>q l h3 ((s1.trans s2).trans s3) e3
noncomputable def Yx (cs:List (Option Nat)) (it:MI) (sg:MG) (t:MT) (e:De):ME:=Ag (An Ds) (Aa (E7 cs it sg t e) Ac)
noncomputable def Yy (cs:List (Option Nat)) (it:MI) (sg:MG) (t:MT) (e:De):ME:=Ag (An Eg) (Aa (E7 cs it sg t e) Ac)
@[simp] theorem ZeE:Ag (An Ds) (Aa (E7 cs it sg t e) Ac) ρ h=Yx cs it sg t e ρ h:=rfl
@[simp] theorem ZeF:Ag (An Eg) (Aa (E7 cs it sg t e) Ac) ρ h=Yy cs it sg t e ρ h:=rfl
end
end LS
namespace LS
open PySem
inductive TlN (h:Heap) (ns:List Str) (bB:List Value):List Value→Prop
 |base:TlN h ns bB bB
 |own {a:Addr} {c0:Value} {dd:Option Addr} {cd:ClassData} {sl:Array (Option Value)} {m:Str→Option Value} {tl:List Value} (ha:h.get? a=some {cls:=c0,dict:=dd,data:=.cls cd,slots:=sl}) (hm:h.Ns cd.ns m) (no:∀n∈ns,m n=none) (r:TlN h ns bB tl):TlN h ns bB (.ref a::tl)
theorem TlN.keeps {h h':Heap} {ns:List Str} {bB tl:List Value} (T:TlN h ns bB tl) (k:∀b o,h.get? b=some o→h'.get? b=some o):TlN h' ns bB tl:=by
 induction T with
 |base=>exact .base
 |own ha hm no _ ih=>exact .own (k _ _ ha) (hm.keeps k) no ih
theorem TlN.has {h:Heap} {ns:List Str} {bB tl:List Value} {v:Value} (T:TlN h ns bB tl) (hv:bB.contains v=true):tl.contains v=true:=by
 induction T with
 |base=>exact hv
 |own ha hm no _ ih=>rw [Kl,ih,Bool.or_true]
theorem TlN.refuse {h:Heap} {ns:List Str} {bB tl:List Value} {self:Value} {what:Str} (T:TlN h ns bB tl):refuseLoop self what tl=refuseLoop self what bB:=by
 induction T with
 |base=>rfl
 |own ha hm no _ ih=>rw [refuseLoop_ref,ih]
section
variable {M:Model} {A:Around} {E:Value→Shared→Prop} {h:Heap} {g:Array GenState} {d:Drawn} {t:Nat} {os:OsState}
theorem TlN.look {ns:List Str} {bB tl:List Value} {n:Str} {y:Option Value} {Q:Option Value→Shared→Prop} (T:TlN h ns bB tl) (hn:n∈ns) (e:lookupAlong bB n=pure y) (q:Q y ⟨h,g,d,t,os⟩):wpAny M A (lookupAlong tl n) Q E ⟨h,g,d,t,os⟩:=by
 induction T with
 |base=>rw [e];exact wpAny_pure q
 |own ha hm no _ ih=>
  rw [lookupAlong_cons];refine wpAny_bind (wpAny_classOwn_cls ha hm ?_);rw [no n hn]
  exact ih
variable {nm q:Str} {C N x:Addr} {bs bm bB:List Value} {hd:Bool} {sn:List Str} {sub:List Value} {ab:Bool} {col:Option Bool} {dd:Option Addr} {k0 k1 k2 k3 k5:Option Value} {B newId sa owner:String} {ns:List Str} {mN mA:Str→Option Value} {name:Str} {v:Value}
theorem JG {n:Str} {y:Option Value} {Q:Option Value→Shared→Prop} (hC:h.get? C=some (excClassObj nm q C N bs bm hd sn sub ab col dd k0 k1 k2 k3 k5 newId)) (hN:h.Ns N mN) (T:TlN h ns bB bm) (hn:n∈ns) (hb:mroOf (.type B)=pure bB) (e:typeLookup (.type B) n=pure y)
 (q:Q (match mN n with |some v=>some v |none=>y) ⟨h,g,d,t,os⟩):wpAny M A (typeLookup (.ref C) n) Q E ⟨h,g,d,t,os⟩:=by
 have e2:lookupAlong bB n=pure y:=by rw [typeLookup_eq,hb] at e;exact e
 rw [typeLookup_eq];refine wpAny_bind (wpAny_mroOf_exc hC ?_);rw [lookupAlong_cons];refine wpAny_bind (wpAny_classOwn_exc hC hN ?_)
 cases hv:mN n with
 |some v=>rw [hv] at q;exact wpAny_pure q
 |none=>rw [hv] at q;exact T.look hn e2 q
end
section
variable {prog:Program} {w:World} {A:Around} {E:Value→Shared→Prop} {h:Heap} {g:Array GenState} {d:Drawn} {t:Nat} {os:OsState}
variable {nm q:Str} {C N x:Addr} {bs bm bB:List Value} {sn:List Str} {sub:List Value} {ab:Bool} {col:Option Bool} {dd:Option Addr} {k0 k1 k2 k3 k5:Option Value} {B newId sa owner:String} {ns:List Str} {mN mA:Str→Option Value} {name:Str} {v:Value}
structure Sq (h h':Heap) (x C:Addr) (name:Str) (v:Value) (mA:Str→Option Value):Prop where
 inst:h'.Inst x C (fun y=>if y=name then some v else mA y)
 keep:∀b o,b≠x→(∀o0 dx,h.get? x=some o0→o0.dict=some dx→b≠dx)→h.get? b=some o→h'.get? b=some o
 new:∀o0,h.get? x=some o0→o0.dict=none→∃o1,h'.get? x=some o1∧o1.dict=some h.objs.size
 same:∀o0,h.get? x=some o0→∃o1,h'.get? x=some o1∧o1.cls=o0.cls∧o1.data=o0.data∧o1.slots=o0.slots∧∀dx,o0.dict=some dx→o1.dict=some dx
theorem Yz {tk:Tok} {Q:Fin→Shared→Prop} {fs:List Str} (SF:StoreFacts B bB sa owner) (hC:h.get? C=some (excClassObj nm q C N bs bm true sn sub ab col dd k0 k1 k2 k3 k5 newId)) (hN:h.Ns N mN) (T:TlN h ns bB bm) (hin:name∈ns) (hna:mN name=none)
 (hB:typeLookup (.type B) name=pure none) (I:h.Inst x C mA) (hq:∀h' tk',Sq h h' x C name v mA→Q (.done (.ret .none)) ⟨h',g,d,tk',os⟩) (hw:Within mA fs) (hsz:fs.length+1≤sizeLine):
 wpAny (model prog w) A (Builtin.«object.__setattr__» ⟨[.ref x,.str name tk,v],[]⟩) Q E ⟨h,g,d,t,os⟩:=by
 obtain ⟨o,hx,hc,hnc,hdd⟩:=I
 have hpass:refuseLoop (.ref x) "__setattr__" bm=pure ():=T.refuse.trans (SF.passes (.ref x))
 unfold Builtin.«object.__setattr__»
 repeat (first |rw [refuse_eq] |(rw [refuseLoop_ref,hpass]) |(with_reducible refine wpAny_loadPart_at hx ?_;rw [hc]) |with_reducible refine wpAny_mroOf_exc hC ?_ |(with_reducible refine JG hC hN T hin SF.mro hB ?_;rw [hna]) |wp_step)
 rcases hdd with ⟨hdn,hmA⟩ |⟨dx,hdx,hne,hns⟩
 ·rw [hdn,if_neg (by simp [typeHasDict])]
  split
  ·rename_i z;cases z
  split
  ·rename_i c z;exact absurd z (hnc c)
  ·have hx1:(h.push {cls:=.type "dict",data:=.dict #[]}).get? x=some o:=AJ _ hx
   have hxs:x≠h.objs.size:=BG (AE hx)
   refine wpAny_bind (wpAny_alloc' (wpAny_bind (wpAny_update' hx1 (wpAny_pure ?_))))
   generalize eh:((h.push {cls:=.type "dict",data:=.dict #[]}).update x fun o=>{cls:=o.cls,dict:=some h.objs.size,data:=o.data,slots:=o.slots})=hp
   have hgd:hp.get? h.objs.size=some {cls:=.type "dict",data:=.dict #[]}:=by rw [←eh];exact (Heap.get?_update_ne _ _ _ _ hxs.symm).trans (Heap.get?_push_at rfl rfl)
   have hnd:hp.Ns h.objs.size (fun _=>none):=⟨_,#[],_,hgd,rfl,fun e he=>absurd he (by simp),fun _=>rfl⟩
   have hx2:hp.get? x=some {cls:=o.cls,dict:=some h.objs.size,data:=o.data,slots:=o.slots}:=by
    rw [←eh];refine IS _ hx1 ?_
    have fr:=(Heap.get?_some_iff.mp hx).2
    obtain ⟨oc,od,odt,osl⟩:=o
    cases odt<;>first |rfl |exact fr
   have kp:∀b ob,b≠x→h.get? b=some ob→hp.get? b=some ob:=fun b ob hb e=>by rw [←eh];exact (Heap.get?_update_ne _ _ _ _ hb).trans (AJ _ e)
   show wpAny _ _ (Builtin.ObjectAttr.storeInDict h.objs.size (.str name tk) name v) _ _ _
   unfold Builtin.ObjectAttr.storeInDict Builtin.ObjectAttr.newKeyGuard
   refine wpAny_bind (wpAny_pure (wpAny_bind (wpAny_nsSet1 (Heap.Ns1.of_empty hnd) fun h' hn' hs=>?_)))
   obtain ⟨oD,esD,epD,hoD,hdD,hcD⟩:=hn'.count (Within.cons name v Within.nil)
   refine wpAny_bind (wpAny_lookBehind hoD (by rw [hdD];exact pastItsLine_dict (BA hcD (by rw [FQ,HB];omega))) ?_)
   wp_walk
   have hx3:h'.get? x=_:=(hs.2 x hxs).trans hx2
   refine hq h' _ ⟨⟨_,hx3,hc,hnc,.inr ⟨h.objs.size,rfl,hxs.symm,?_⟩⟩,fun b ob hb _ e=>(hs.2 b (BG (AE e))).trans (kp b ob hb e),fun o0 e0 _=>⟨_,hx3,rfl⟩,fun o0 e0=>?_⟩
   ·obtain ⟨o',es,ep,e1,e2,e3,eu,e4⟩:=hn'
    exact ⟨o',es,ep,e1,e2,e3,eu,fun y=>by rw [e4 y];by_cases hy:y=name<;>simp [hy,hmA]⟩
   ·obtain rfl:o=o0:=Option.some.inj (hx.symm.trans e0)
    exact ⟨_,hx3,rfl,rfl,rfl,fun dx e=>by rw [hdn] at e;cases e⟩
 ·rw [hdx]
  refine wpAny_pure ?_
  show wpAny _ _ (Builtin.ObjectAttr.storeInDict dx (.str name tk) name v) _ _ _
  unfold Builtin.ObjectAttr.storeInDict Builtin.ObjectAttr.newKeyGuard
  refine wpAny_bind (wpAny_pure (wpAny_bind (wpAny_nsSet1 hns fun h' hn' hs=>?_)))
  obtain ⟨oD,esD,epD,hoD,hdD,hcD⟩:=hn'.count (Within.cons name v hw)
  refine wpAny_bind (wpAny_lookBehind hoD (by rw [hdD];exact pastItsLine_dict (BA hcD (by rw [FQ];omega))) ?_)
  wp_walk
  have hx3:h'.get? x=some o:=(hs.2 x hne.symm).trans hx
  exact hq h' _ ⟨⟨o,hx3,hc,hnc,.inr ⟨dx,hdx,hne,hn'⟩⟩,fun b ob _ hb e=>(hs.2 b (hb o dx hx hdx)).trans e,fun o0 e0 z=>(by rw [hx] at e0;cases e0;rw [hdx] at z;cases z),fun o0 e0=>⟨o0,(hs.2 x hne.symm).trans e0,rfl,rfl,rfl,fun _ e=>e⟩⟩
theorem YA {M:Model} {o:Obj} {nameV:Value} {Q:Unit→Shared→Prop} (SF:StoreFacts B bB sa owner) (hC:h.get? C=some (excClassObj nm q C N bs bm true sn sub ab col dd k0 k1 k2 k3 k5 newId)) (own:(Value.ref C::bm).contains (.type owner)=true) (hx:h.get? x=some o) (hc:o.cls=.ref C) (hq:Q () ⟨h,g,d,t,os⟩):
 wpAny M A (checkBuiltinCall sa ⟨[.ref x,nameV,v],[]⟩) Q E ⟨h,g,d,t,os⟩:=by
 have ha:=SF.args (.ref x) nameV v
 simp only [checkBuiltinCall,SF.kind,SF.split]
 refine wpAny_bind ?_
 unfold isInstance
 repeat (first |(with_reducible refine wpAny_loadPart_at hx ?_;rw [hc]) |(with_reducible refine wpAny_isSubtype_exc hC ?_;rw [own]) |wp_step)
 cases hs:Manifest.signature? sa with
 |none=>exact wpAny_pure hq
 |some sig=>
  simp only [argsOk,hs] at ha
  show wpAny M A (Bind.checkArgs sa sig ⟨[.ref x,nameV,v],[]⟩) Q E _
  rw [show Bind.checkArgs sa sig ⟨[.ref x,nameV,v],[]⟩=pure () from ha];exact wpAny_pure hq
theorem Sr {Q:Unit→Shared→Prop} {fs:List Str} (SF:StoreFacts B bB sa owner) (hC:h.get? C=some (excClassObj nm q C N bs bm true sn sub ab col dd k0 k1 k2 k3 k5 newId)) (hN:h.Ns N mN) (T:TlN h ns bB bm) (hin:name∈ns) (hin2:("__setattr__":Str)∈ns) (hna:mN name=none) (hns:mN "__setattr__"=none)
 (hB:typeLookup (.type B) name=pure none) (I:h.Inst x C mA) (hq:∀h' tk',Sq h h' x C name v mA→Q () ⟨h',g,d,tk',os⟩) (hw:Within mA fs) (hsz:fs.length+1≤sizeLine):
 wpAny (model prog w) A (setAttr (.ref x) name v) Q E ⟨h,g,d,t,os⟩:=by
 obtain ⟨o,hx,hc,_⟩:=id I
 have f3:=SF.slot.bind (.ref x)
 have own:(Value.ref C::bm).contains (.type owner)=true:=by rw [Kl,T.has SF.hasOwner,Bool.or_true]
 unfold setAttr callSpecial? specialOf
 repeat (any_goals (first |assumption |(with_reducible refine wpAny_loadPart_at hx ?_;rw [hc]) |(with_reducible refine JG hC hN T hin2 SF.mro SF.slot.lookup ?_;rw [hns]) |wp_step))
 refine codeAny_call_builtin SF.slot.plain SF.entry (YA SF hC own hx hc (Yz SF hC hN T hin hna hB I (fun h' tk' st=>?_) hw hsz))
 repeat (any_goals (first |assumption |wp_step))
 exact hq h' tk' st
end
section
variable {prog:Program} {w:World} {A:Around} {E:Value→Shared→Prop} {h:Heap} {g:Array GenState} {d:Drawn} {t:Nat} {os:OsState}
variable {nm q:Str} {C N x:Addr} {bs bm bB:List Value} {sn:List Str} {sub:List Value} {ab:Bool} {col:Option Bool} {dd:Option Addr} {k0 k1 k2 k3 k5:Option Value} {B newId:String} {ns:List Str} {mN mA:Str→Option Value} {name:Str} {v:Value}
theorem YB {tk:Tok} {Q:Fin→Shared→Prop} (FB:ExcAttrBase B bB) (hC:h.get? C=some (excClassObj nm q C N bs bm true sn sub ab col dd k0 k1 k2 k3 k5 newId)) (hN:h.Ns N mN) (T:TlN h ns bB bm) (hin:name∈ns) (hna:mN name=none)
 (hB:typeLookup (.type B) name=pure none) (I:h.Inst x C mA) (hv:mA name=some v) (hq:Q (.done (.ret v)) ⟨h,g,d,t,os⟩):wpAny (model prog w) A (Builtin.«object.__getattribute__» ⟨[.ref x,.str name tk],[]⟩) Q E ⟨h,g,d,t,os⟩:=by
 obtain ⟨o,hx,hc,hnc,hdd⟩:=I
 rcases hdd with ⟨_,hmA⟩ |⟨dx,hdx,hne,hns⟩
 ·rw [hmA name] at hv;cases hv
 repeat (any_goals (first |assumption |(with_reducible refine wpAny_loadPart_at hx ?_;rw [hc]) |(with_reducible refine JG hC hN T hin FB.mro hB ?_;rw [hna]) |wp_step))
 split
 ·rename_i c z;exact absurd z (hnc c)
 unfold instanceDict
 repeat (first |(with_reducible refine wpAny_loadPart_at hx ?_;rw [hc]) |with_reducible refine wpAny_loadPart_at hC ?_ |wp_step)
 rw [hdx]
 repeat (first |(with_reducible refine wpAny_nsGet hns.ns ?_;rw [hv]) |wp_step)
 exact hq
theorem YC {M:Model} {o:Obj} {nameV:Value} {Q:Unit→Shared→Prop} (hC:h.get? C=some (excClassObj nm q C N bs bm true sn sub ab col dd k0 k1 k2 k3 k5 newId)) (own:(Value.ref C::bm).contains (.type "BaseException")=true) (hx:h.get? x=some o) (hc:o.cls=.ref C) (hq:Q () ⟨h,g,d,t,os⟩):
 wpAny M A (checkBuiltinCall "BaseException.__getattribute__" ⟨[.ref x,nameV],[]⟩) Q E ⟨h,g,d,t,os⟩:=by
 have e1:builtinKind "BaseException.__getattribute__"=some .slot:=by decide +kernel
 have e2:splitId "BaseException.__getattribute__"=some ("BaseException","__getattribute__"):=by decide +kernel
 have ha:=F.args_bexc_ga (.ref x) nameV
 simp only [checkBuiltinCall,e1,e2]
 refine wpAny_bind ?_
 unfold isInstance
 repeat (first |(with_reducible refine wpAny_loadPart_at hx ?_;rw [hc]) |(with_reducible refine wpAny_isSubtype_exc hC ?_;rw [own]) |wp_step)
 exact hq
theorem YD {expr:Bool} {Q:Value→Shared→Prop} (FB:ExcAttrBase B bB) (hC:h.get? C=some (excClassObj nm q C N bs bm true sn sub ab col dd k0 k1 k2 k3 k5 newId)) (hN:h.Ns N mN) (T:TlN h ns bB bm) (hin:name∈ns) (hin2:("__getattribute__":Str)∈ns) (hin3:("__getattr__":Str)∈ns) (hna:mN name=none) (hn2:mN "__getattribute__"=none) (hn3:mN "__getattr__"=none)
 (hB:typeLookup (.type B) name=pure none) (I:h.Inst x C mA) (hv:mA name=some v) (hh:handedOut v=pure v) (hq:Q v ⟨h,g,d,t+1,os⟩):wpAny (model prog w) A (getAttr (.ref x) name expr) Q E ⟨h,g,d,t,os⟩:=by
 obtain ⟨o,hx,hc,_⟩:=id I
 have own:(Value.ref C::bm).contains (.type "BaseException")=true:=by rw [Kl,T.has FB.hasBase,Bool.or_true]
 have f3:=FB.ga.bind (.ref x)
 have hx0:(expr&&onTheHeap (Value.builtin "BaseException.__getattribute__"))=false:=by cases expr<;>rfl
 have hx2:(Value.builtin "BaseException.__getattribute__"==Value.builtin "object.__getattribute__")=false:=by decide +kernel
 have hx1:(onTheHeap (Value.ref C)&&Value.builtin "BaseException.__getattribute__"==Value.builtin "object.__getattribute__")=false:=by rw [hx2];rfl
 unfold getAttr getAttrBy
 repeat (any_goals (first |assumption |(with_reducible refine wpAny_loadPart_at hx ?_;rw [hc]) |(with_reducible refine JG hC hN T hin2 FB.mro FB.ga.lookup ?_;rw [hn2]) |(with_reducible refine JG hC hN T hin3 FB.mro FB.noGetattr ?_;rw [hn3]) |wp_step))
 refine codeAny_call_builtin FB.ga.plain F.entry_bexc_ga (YC hC own hx hc (YB FB hC hN T hin hna hB I hv ?_))
 show wpAny _ _ (handedOut v) _ _ _
 rw [hh];exact wpAny_pure hq
end
end LS
namespace LS
open PySem PySem.Spec PyProof.Rows L2
def tmNames:List Str:=["__init__","__setattr__","__getattribute__","__getattr__","many","most"]
def Lz (K:PySem.W.Frag) (ns:List Str) (bB:List Value):List Value→Bool
 |[]=>bB==[]
 |v::r=>(v::r)==bB||match v with
  |.ref a=>(match K.lookup a with
   |some o=>(match clsOf o.data with
    |some cd=>PySem.W.nsOkIn K cd.ns&&(ns.all (fun n=>PySem.W.nsIn K cd.ns n==some none)&&Lz K ns bB r)
    |none=>false)
   |none=>false)
  |_=>false
theorem Ss {K:PySem.W.Frag} {h:Heap} {ns:List Str} {bB:List Value} (X:K.In h):∀{l:List Value},Lz K ns bB l=true→TlN h ns bB l
 |[],e=>by rw [←beq_iff_eq.mp e];exact .base
 |v::r,e=>by
  unfold Lz at e
  rcases Bool.or_eq_true_iff.mp e with q |q
  ·rw [beq_iff_eq.mp q];exact .base
  ·cases v with
   |ref a=>
    simp only at q
    cases lk:K.lookup a with
    |none=>rw [lk] at q;cases q
    |some o=>
     rw [lk] at q
     simp only at q
     cases ec:clsOf o.data with
     |none=>rw [ec] at q;cases q
     |some cd=>
      rw [ec] at q
      simp only [CN] at q
      obtain ⟨q1,q2,q3⟩:=q
      obtain ⟨cls,od,dt,sl⟩:=o
      replace ec:=Nu ec
      simp only at ec
      subst ec
      exact .own (X _ _ lk) (.of_isNs (PySem.W.isNs_of_in X q1)) (fun n hn=>PySem.W.nsMap_none_of_in X q1 (beq_iff_eq.mp (qaN.mp q2 n hn))) (Ss X q3)
   |_=>cases q
theorem TlN.tail {h:Heap} {ns:List Str} {bB tl:List Value} (T:TlN h ns bB tl) (hi:("__init__":Str)∈ns):OwnTail h bB tl:=by
 induction T with
 |base=>exact .base
 |own ha hm no _ ih=>exact .own ha hm (no _ hi) ih
theorem YE {K:PySem.W.Frag} {h:Heap} {N:Addr} {m:Str→Option Value} {n:Str} {v:Value} (X:K.In h) (G:h.Ns N m) (e:PySem.W.nsIn K N n=some (some v)):m n=some v:=by
 obtain ⟨o,es,ep,ho,hd,_,hf⟩:=G
 unfold PySem.W.nsIn at e
 split at e
 ·rename_i lk
  have z:=(X _ _ lk).symm.trans ho
  cases z
  cases hd
  split at e
  ·rename_i en he
   cases e
   rw [←hf];unfold nsFind findBy;first |(rw [he];rfl) |(rw [←Array.find?_toList,he];rfl)
  ·split at e<;>cases e
 ·cases e
inductive Su (h:Heap) (C fI:Addr):Prop where
 |mk (bm:List Value) (N:Addr) (nm q:Str) (bs:List Value) (sn:List Str) (sub:List Value) (ab:Bool) (col:Option Bool) (dd:Option Addr) (k0 k1 k2 k3 k5:Option Value) (mN:Str→Option Value)
  (hC:h.get? C=some (excClassObj nm q C N bs bm true sn sub ab col dd k0 k1 k2 k3 k5 "ValueError.__new__")) (hN:h.Ns N mN) (hi:mN "__init__"=some (.ref fI)) (no:∀n∈tmNames.tail,mN n=none) (T:TlN h tmNames Jz bm):Su h C fI
def LA (K:PySem.W.Frag) (C fI:Addr) (o:Obj) (cd:ClassData):Bool:=
 decide (o.cls=.type "type")&&(decide (cd.mro=.ref C::cd.mro.tail)&&(!cd.hasDel&&(Lz K tmNames Jz cd.mro.tail&&(PySem.W.nsOkIn K cd.ns&&(PySem.W.nsIn K cd.ns "__init__"==some (some (.ref fI))&&(tmNames.tail.all (fun n=>PySem.W.nsIn K cd.ns n==some none)&&(decide (o.slots.toList.length=6)&&(decide (o.slots.toList[4]?=some (some (.builtin "ValueError.__new__")))&&cd.hasDict))))))))
def tmX (K:PySem.W.Frag) (C fI:Addr):Bool:=match K.lookup C with
 |some o=>(match clsOf o.data with
  |some cd=>LA K C fI o cd
  |none=>false)
 |none=>false
theorem JH {K:PySem.W.Frag} {C fI:Addr} (q:tmX K C fI=true) {h:Heap} (X:K.In h):Su h C fI:=by
 unfold tmX at q
 cases lk:K.lookup C with
 |none=>rw [lk] at q;cases q
 |some o=>
  rw [lk] at q
  replace q:(match clsOf o.data with |some cd=>LA K C fI o cd |none=>false)=true:=q
  cases ec:clsOf o.data with
  |none=>rw [ec] at q;cases q
  |some cd=>
   rw [ec] at q
   replace q:LA K C fI o cd=true:=q
   unfold LA at q
   simp only [CN,decide_eq_true_eq,Bool.not_eq_true',beq_iff_eq] at q
   obtain ⟨e1,e2,e3,e4,e5,e6,e6b,e7,e8,e9⟩:=q
   obtain ⟨cls,od,dt,⟨sl⟩⟩:=o
   obtain ⟨nm,bs,mro,ns,qn,hd,sn,sub,ab,col,del⟩:=cd
   replace ec:=Nu ec
   simp only at ec e1 e2 e3 e4 e5 e6 e6b e7 e8 e9
   obtain ⟨k0,k1,k2,k3,k4,k5,rfl⟩:=Q3 e7
   cases mro with
   |nil=>cases e2
   |cons c bm=>
    cases e2
    cases Option.some.inj e8
    subst ec e1 e3 e9
    have hNs:h.Ns ns (h.nsMap ns):=.of_isNs (PySem.W.isNs_of_in X e5)
    exact ⟨bm,ns,nm,qn,bs,sn,sub,ab,col,od,k0,k1,k2,k3,k5,h.nsMap ns,X _ _ lk,hNs,YE X hNs e6,fun n hn=>PySem.W.nsMap_none_of_in X e5 (beq_iff_eq.mp (qaN.mp e6b n hn)),Ss X e4⟩
def FM (C t0:Addr) (da:Option Addr):Obj:={cls:=.ref C,dict:=da,data:=.fields #[.ref t0,.none,.none,.none,.bool false,.none]}
def BK (C e:Addr) (da:Option Addr) (h:Heap):Prop:=∃t0,h.get? e=some (FM C t0 da)
def Gn (d:Addr) (m:Str→Option Value) (h:Heap):Prop:=h.Ns1 d m
def one (n:Str) (u:Value):Str→Option Value:=fun y=>if y=n then some u else none
theorem LC {P:Program} {w:World} {H:Hp} {h:Heap} {C e:Addr} {da:Option Addr} (x:BK C e da h):ObjOk P w H h e (.mex (BK C e da)):=
 ⟨x,let ⟨_,q⟩:=x;⟨_,q⟩,fun h1 h2 ⟨t0,q⟩ k=>⟨t0,k _ q⟩⟩
theorem YF {P:Program} {w:World} {H:Hp} {h:Heap} {d:Addr} {m:Str→Option Value} (x:Gn d m h):ObjOk P w H h d (.mex (Gn d m)):=
 ⟨x,let ⟨o,_,_,q,_⟩:=x;⟨o,q⟩,fun h1 h2 q k=>Heap.Ns1.at q k⟩
section
variable {X:Cx} {pins:List (Addr×Obj)} {σ:L2.St} {H:Hp} {s:Shared} {E:Value→Shared→Prop} {A:Around} {C fI e da:Addr} {n:Str} {u:Value}
def del (H:Hp) (a:Addr):Hp:=fun b=>if b=a then none else H b
theorem Sv {H:Hp} {a:Addr}:del H a a=none:=by unfold del;rw [if_pos rfl]
theorem Gp {H:Hp} {a b:Addr} (h:b≠a):del H a b=H b:=by unfold del;rw [if_neg h]
theorem YG {H:Hp} {a:Addr} {o:HO} (h:H a=none):del (Ak H a o) a=H:=by
 funext b;unfold del Ak;split
 ·rename_i z;rw [z,h]
 ·rfl
theorem Kp.del {H:Hp} {a:Addr} {φ:Heap→Prop} (h:H a=some (.mex φ)):Kp H (LS.del H a):=fun b o e i=>by
 rw [Gp]
 ·exact e
 ·intro z
  rw [z,h] at e;cases e;cases i
theorem HR.del {K:PySem.W.Frag} {m:List Addr} {h:HD} {H:Hp} {a:Addr} {φ:Heap→Prop} (r:HR K m h H) (e:H a=some (.mex φ)):HR K m h (LS.del H a):=r.same (.del e) fun b hb=>Gp fun z=>by
 subst z
 obtain ⟨l,hl,el⟩:=IT hb
 have hl':l<h.length:=by rw [←r.len];exact hl
 have c:=r.cells l h[l] m[l] (Bb hl') (Bb hl)
 rw [el] at c
 cases hc:h[l] with
 |lst ds=>rw [hc] at c;obtain ⟨vs,q,_⟩:=c;rw [e] at q;cases q
 |tab=>rw [hc] at c;obtain ⟨_,ps,q,_⟩:=c;rw [e] at q;cases q
theorem Inv.untrack {φ:Heap→Prop} (I:Inv X pins σ H s) (h:H e=some (.mex φ)):Inv X pins σ (del H e) s:=by
 have ne:∀b u,H b=some u→(∀ψ,u≠.mex ψ)→b≠e:=fun b u q nn z=>by rw [z,h] at q;cases q;exact nn _ rfl
 have no:∀b,H b=none→del H e b=none:=fun b q=>by
  unfold del;split
  ·rfl
  ·exact q
 refine ⟨I.ok,I.os,I.bare,⟨I.base.keep,I.base.slot,fun b o q n x=>no b (I.base.free b o q n x),I.base.there,fun b xs q=>?_,fun b o u q=>?_,fun b ps q=>?_⟩,I.loc,I.cell,no _ I.free,fun x c q=>no _ (I.freeC x c q),fun p hp=>?_,fun b u q=>?_,I.len⟩
 ·have z:=I.base.tups b xs q
  rw [Gp (ne b _ z fun ψ y=>by cases y)];exact z
 ·have z:=I.base.frzs b o u q
  rw [Gp (ne b _ z fun ψ y=>by cases y)];exact z
 ·obtain ⟨more,z⟩:=I.base.tbls b ps q
  exact ⟨more,by rw [Gp (ne b _ z fun ψ y=>by cases y)];exact z⟩
 ·obtain ⟨a1,a2,a3⟩:=I.pin p hp
  exact ⟨a1,no _ a2,a3⟩
 ·by_cases z:b=e
  ·rw [z,Sv] at q;cases q
  ·rw [Gp z] at q
   exact (I.hok b u q).stay (fun _ _ _ y=>y) (fun c y=>by rw [Gp (ne c _ y fun ψ w=>by cases w)];exact y) fun c xs y=>by rw [Gp (ne c _ y fun ψ w=>by cases w)];exact y
theorem Inv.retrack {o:HO} (I:Inv X pins σ H s) (old:X.H₀ e≠none) (no:H e=none) (hL:e≠X.env.locals) (hc:∀x c,X.env.cells.lookup x=some c→c≠e) (hp:∀p∈X.pn++pins,p.1≠e) (ok:ObjOk X.prog X.w (Ak H e o) s.heap e o):Inv X pins σ (Ak H e o) s:=by
 have ne:∀b u,H b=some u→b≠e:=fun b u q=>BB q no
 refine ⟨I.ok,I.os,I.bare,⟨I.base.keep,I.base.slot,fun b ob q n hx=>?_,I.base.there,fun b xs q=>?_,fun b ob u q=>?_,fun b ps q=>?_⟩,I.loc,I.cell,?_,fun x c q=>?_,fun p hp'=>?_,fun b u q=>?_,I.len⟩
 ·rw [Al (fun z=>by rw [z] at n;exact old n)];exact I.base.free b ob q n hx
 ·have z:=I.base.tups b xs q
  rw [Al (ne _ _ z)];exact z
 ·have z:=I.base.frzs b ob u q
  rw [Al (ne _ _ z)];exact z
 ·obtain ⟨more,z⟩:=I.base.tbls b ps q
  exact ⟨more,by rw [Al (ne _ _ z)];exact z⟩
 ·rw [Al (Ne.symm hL)];exact I.free
 ·rw [Al (hc x c q)];exact I.freeC x c q
 ·obtain ⟨a1,a2,a3⟩:=I.pin p hp'
  exact ⟨a1,by rw [Al (hp p hp')];exact a2,a3⟩
 ·by_cases hb:b=e
  ·subst hb
   rw [Bo] at q
   cases q
   exact ok
  ·rw [Al hb] at q
   exact (I.hok b u q).stay (fun _ _ _ y=>y) (fun c y=>by rw [Al (ne _ _ y)];exact y) fun c xs y=>by rw [Al (ne _ _ y)];exact y
theorem YH {Q:Unit→Shared→Prop} (I:Inv X pins σ H s) (tm:tmX X.K C fI=true) (hin:n∈tmNames.tail) (hB:typeLookup (.type "ValueError") n=pure none) (hH:H e=some (.mex (BK C e none)))
 (q:∀(da:Addr) (s':Shared),H da=none→da≠e→Inv X pins σ (Ak (Ak H e (.mex (BK C e (some da)))) da (.mex (Gn da (one n u)))) s'→Q () s'):wpAny (model X.prog X.w) A (setAttr (.ref e) n u) Q E s:=by
 obtain ⟨bm,N,nm,qn,bs,sn,sub,ab,col,dd,k0,k1,k2,k3,k5,mN,hC,hN,hi,no,T⟩:=JH tm I.kIn
 obtain ⟨⟨t0,he⟩,_,_⟩:=(show ObjOk X.prog X.w H s.heap e (.mex (BK C e none)) from I.hok e _ hH)
 have II:s.heap.Inst e C (fun _=>none):=⟨_,he,rfl,fun c z=>(by cases z),.inl ⟨rfl,fun _=>rfl⟩⟩
 refine Sr (fs:=[]) PySem.F.store_ValueError hC hN T (Mp hin) (by decide) (no n hin) (no _ (by decide)) hB II (fun h' tk' st=>?_) Within.nil (by unfold sizeLine;decide)
 obtain ⟨o1,a1,a2⟩:=st.new _ he rfl
 obtain ⟨o2,b1,b2,b3,b4,_⟩:=st.same _ he
 rw [a1] at b1
 cases b1
 have fresh:H s.heap.objs.size=none:=I.fresh
 have ne:s.heap.objs.size≠e:=fun z=>by rw [z,hH] at fresh;cases fresh
 have eo:o1=FM C t0 (some s.heap.objs.size):=by
  obtain ⟨c1,d1,dt1,sl1⟩:=o1
  simp only [FM] at b2 b3 b4 a2
  subst b2 b3 b4 a2
  rfl
 subst eo
 have hd:Gn s.heap.objs.size (one n u) h':=by
  obtain ⟨o,x1,_,_,z⟩:=st.inst
  rw [a1] at x1
  cases x1
  rcases z with ⟨z,_⟩ |⟨d',z,_,z2⟩
  ·cases z
  ·cases z
   exact z2
 have keep:∀b o,b≠e→s.heap.get? b=some o→h'.get? b=some o:=fun b o hb eb=>st.keep b o hb (fun o0 dx x1 x2=>by rw [he] at x1;cases x1;cases x2) eb
 have nse:∀b w',H b=some w'→(∀φ,w'≠.mex φ)→b≠e∧b≠s.heap.objs.size:=fun b w' hb nn=>⟨fun z=>(by rw [z,hH] at hb;cases hb;exact nn _ rfl),fun z=>(by rw [z,fresh] at hb;cases hb)⟩
 refine q s.heap.objs.size _ fresh ne (I.un (t':=tk') (h':=h') ⟨fun b o eb nb _ _=>keep b o (fun z=>by rw [z,hH] at nb;cases nb) eb,fun b o eb nb _ _=>⟨o.slots,keep b o (fun z=>by rw [z,hH] at nb;cases nb) eb⟩,fun b o eb nb _=>?_,fun b o eb _=>?_,fun b xs eb=>?_,fun b o w' eb=>?_,fun b ps eb=>?_⟩ fun b w' eb=>?_)
 ·rw [Al (BG (AE eb)),Al (fun z=>by rw [z,hH] at nb;cases nb)];exact nb
 ·by_cases z:b=e
  ·subst z;exact ⟨_,a1⟩
  ·exact ⟨o,keep b o z eb⟩
 ·obtain ⟨z1,z2⟩:=nse b _ eb (fun φ z=>by cases z)
  rw [Al z2,Al z1];exact eb
 ·obtain ⟨z1,z2⟩:=nse b _ eb (fun φ z=>by cases z)
  rw [Al z2,Al z1];exact eb
 ·obtain ⟨z1,z2⟩:=nse b _ eb (fun φ z=>by cases z)
  exact ⟨#[],by rw [Al z2,Al z1,eb];simp⟩
 ·by_cases z2:b=s.heap.objs.size
  ·subst z2
   rw [Bo] at eb
   cases eb
   exact YF hd
  ·rw [Al z2] at eb
   by_cases z1:b=e
   ·subst z1
    rw [Bo] at eb
    cases eb
    exact LC ⟨t0,a1⟩
   ·rw [Al z1] at eb
    refine (I.hok b w' eb).stay (fun c o hc ec=>keep c o (fun z=>?_) ec) (fun c hc=>?_) fun c xs hc=>?_
    ·rcases hc with hc |hc
     ·exact z1 (hc.symm.trans z)
     ·rw [z,hH] at hc;cases hc
    ·obtain ⟨y1,y2⟩:=nse c _ hc (fun φ z=>by cases z)
     rw [Al y2,Al y1];exact hc
    ·obtain ⟨y1,y2⟩:=nse c _ hc (fun φ z=>by cases z)
     rw [Al y2,Al y1];exact hc
theorem YI {Q:Unit→Shared→Prop} {n2:Str} {u2:Value} {fs:List (Str×V)} (I:Inv X pins σ H s) (tm:tmX X.K C fI=true) (hin:n2∈tmNames.tail) (hB:typeLookup (.type "ValueError") n2=pure none) (hH:H e=some (.mex (BK C e (some da)))) (hD:H da=some (.mex (Gn da (one n u)))) (ne:da≠e)
 (rel:∀f,RelO (fs.lookup f) (if f=n2 then some u2 else one n u f)) (q:∀s':Shared,Inv X pins σ (Ak H da (.xd fs)) s'→Q () s'):wpAny (model X.prog X.w) A (setAttr (.ref e) n2 u2) Q E s:=by
 obtain ⟨bm,N,nm,qn,bs,sn,sub,ab,col,dd,k0,k1,k2,k3,k5,mN,hC,hN,hi,no,T⟩:=JH tm I.kIn
 obtain ⟨⟨t0,he⟩,_,_⟩:=(show ObjOk X.prog X.w H s.heap e (.mex (BK C e (some da))) from I.hok e _ hH)
 obtain ⟨hd,_,_⟩:=(show ObjOk X.prog X.w H s.heap da (.mex (Gn da (one n u))) from I.hok da _ hD)
 have II:s.heap.Inst e C (one n u):=⟨_,he,rfl,fun c z=>(by cases z),.inr ⟨da,rfl,ne,hd⟩⟩
 refine Sr (fs:=[n]) PySem.F.store_ValueError hC hN T (Mp hin) (by decide) (no n2 hin) (no _ (by decide)) hB II (fun h' tk' st=>?_) (Within.cons n u Within.nil) (by show 2≤sizeLine;unfold sizeLine;decide)
 obtain ⟨o2,b1,b2,b3,b4,b5⟩:=st.same _ he
 have eo:o2=FM C t0 (some da):=by
  obtain ⟨c1,d1,dt1,sl1⟩:=o2
  have b6:=b5 da rfl
  simp only [FM] at b2 b3 b4 b6
  subst b2 b3 b4 b6
  rfl
 subst eo
 have hd2:h'.Ns1 da (fun y=>if y=n2 then some u2 else one n u y):=by
  obtain ⟨o,x1,_,_,z⟩:=st.inst
  rw [b1] at x1
  cases x1
  rcases z with ⟨z,_⟩ |⟨d',z,_,z2⟩
  ·cases z
  ·cases z
   exact z2
 refine q _ (Inv.write (x:=da) (e:=da) (t':=tk') (h':=h') I (by rw [hD];trivial) (.inl rfl) (fun b o hb eb=>?_) ?_ ⟨_,hd2,rel⟩)
 ·by_cases z:b=e
  ·subst z
   rw [he] at eb
   cases eb
   exact b1
  ·exact st.keep b o z (fun o0 dx x1 x2=>by rw [he] at x1;cases x1;cases x2;exact hb) eb
 ·obtain ⟨o,_,_,x1,_⟩:=hd2
  exact ⟨o,x1⟩
end
end LS
namespace LS
open PySem PySem.Spec PyProof.Rows L2 PySem.Calls PySem.W
def swX (K:PySem.W.Frag) (S:Addr):Bool:=PySem.W.readsIn K S (.type "type")&&(match PySem.W.findCls K (.ref S) (.type "type") "__init__" with
 |some (.val (.builtin b))=>b=="ValueError.__init__"
 |_=>false)
theorem YJ {prog:Program} {w:World} {A:Around} {E:Value→Shared→Prop} {s:Shared} {K:PySem.W.Frag} {S:Addr} {pl:Sem Bool} {Q:Value×List Value→Shared→Prop} (X:K.In s.heap) (q:swX K S=true)
 (h:Q (.builtin "ValueError.__init__",[]) {s with toks:=s.toks+1}):wpAny (model prog w) A (getMethod (.ref S) "__init__" pl) Q E s:=by
 unfold swX at q
 rw [CN] at q
 obtain ⟨hr,q⟩:=q
 split at q
 ·rename_i b e
  rw [beq_iff_eq] at q
  subst q
  have hr':=hr
  simp only [PySem.W.readsIn,CN,beq_iff_eq] at hr'
  obtain ⟨⟨⟨⟨_,ty⟩,hg⟩,_⟩,_⟩:=hr'
  have L0:Looks (model prog w) s.heap (typeOf (.ref S)) (.type "type"):=PySem.W.looks_typeIn X ty
  unfold getMethod specialOf
  refine wpAny_bind (wpAny_bind (L0.here ((PySem.W.looks_findIn X hg).here ?_)))
  dsimp only
  rw [if_pos PySem.W.canon_tga]
  refine wpAny_bind (wpAny_mono (Q:=fun v=>Q (v,[])) (E:=E) ?_ (fun _ _ z=>wpAny_pure z) fun _ _ z=>z)
  refine PySem.W.cls_read X hr e (wpAny_pure ?_)
  show wpAny _ _ (handedOut (.builtin "ValueError.__init__")) _ _ _
  rw [PySem.W.handedOut_of (by decide +kernel)];exact wpAny_pure h
 ·cases q
theorem YK {M:Model} {A:Around} {E:Value→Shared→Prop} {s:Shared} {env:Env} {pos:Pos} {b:String} {first:List Value} {Q:Value→Shared→Prop} {e:Expr} {rest:List Expr} (h:wpAny M A (spliced (backTo pos (starEach (e::rest) env))) (fun vs s1=>wpAny M A (call (.builtin b) (first++vs)) Q E s1) E s)
 (he:starEach (e::rest) env=(false,eval e env)::starEach rest env) (hpl:(backTo pos (starEach rest env)).any (·.1)=false):wpAny M A (callWith pos (.builtin b) first (backTo pos (starEach (e::rest) env)) []) Q E s:=by
 rw [he] at h ⊢
 exact callWith_of (P:=fun _=>True) (by show ((false||(backTo pos (starEach rest env)).any (·.1))||false)=false;rw [hpl];rfl) (fun _ _=>⟨.machine,.inr (.inl rfl),.now⟩) (evalArgs_plain (wpAny_mono h (fun _ _ z=>⟨trivial,z⟩) fun _ _ z=>z))
def YL (H₀:Hp) (C:Addr) (ta:TA):TE:=fun σ H Q=>∃e,H₀ e≠none∧H e=some (.mex (BK C e none))∧ta σ (del H e) fun vs H1=>∃x,vs=[.ref e,.str x]∧(H1 e=none→Q .non (Ak H1 e (.mex (BK C e none))))
section
variable {X:Cx} {C fI S:Addr} {ta:TA} {a1 a2:Expr} {p1 p2 p5:Pos}
theorem YM (tm:tmX X.K C fI=true) (sw:swX X.K S=true) (hg:Gl X "SwitchError") (hS:PySem.W.nsIn X.K mainGlobals "SwitchError"=some (some (.ref S))) (ha:PA X [a1,a2] ta)
 (he:∀pl:Sem Bool,pl=(do return (←importBound (.Name "SwitchError" p1) X.env).getD true)→eval (.Call (.Attribute (.Name "SwitchError" p1) "__init__" p2) [a1,a2] [] p5) X.env=(do
  let ov ←eval (.Name "SwitchError" p1) X.env
  standAt p2.atName
  let (f,first) ←holding [ov] (getMethod ov "__init__" pl)
  callWith p5 f first (backTo p5 (starEach [a1,a2] X.env)) (backToKw p5 (keywordEach [] X.env)))) (hs:starEach [a1,a2] X.env=(false,eval a1 X.env)::starEach [a2] X.env:=by rfl) (hpl:(backTo p5 (starEach [a2] X.env)).any (·.1)=false:=by rfl):
 PE X (.Call (.Attribute (.Name "SwitchError" p1) "__init__" p2) [a1,a2] [] p5) (YL X.H₀ C ta):=by
 rintro pins s σ H Q I ⟨e,old,hH,h⟩
 refine PySem.W.methodCall_KW (Ft I hg (PySem.W.mg_of I.mod.kin I.mod.glob hS) ?_) (he _ rfl)
 refine YJ I.kIn sw ?_
 obtain ⟨⟨t0,ho0⟩,_,_⟩:=(show ObjOk X.prog X.w H s.heap e (.mex (BK C e none)) from I.hok e _ hH)
 have neL:e≠X.env.locals:=fun z=>by have:=I.free;rw [←z,hH] at this;cases this
 have neF:e∉X.fs:=fun z=>old (I.ok.frf e z)
 have neC:∀x c,X.env.cells.lookup x=some c→c≠e:=fun x c q z=>by have:=I.freeC x c q;rw [z,hH] at this;cases this
 have neP:∀p∈X.pn++pins,p.1≠e:=fun p hp z=>by have:=(I.pin p hp).2.1;rw [z,hH] at this;cases this
 have I0:L2.Inv X ((e,FM C t0 none)::pins) σ (del H e) {s with toks:=s.toks+1}:=((LS.Inv.untrack I hH).tok (s.toks+1)).pins_of fun p hp=>by
  rcases qa7.mp hp with rfl |hp
  ·exact ⟨ho0,Sv,neL,neF,fun v z=>by cases z⟩
  ·exact (LS.Inv.untrack I hH).pin p (Bt _ hp)
 refine YK (Aw (ha p5 _ _ σ (del H e) _ I0 h) ?_) hs hpl
 rintro us s1 ⟨vs,H1,I2,r,x,rfl,q⟩
 obtain ⟨bm,N,nm,qn,bs,sn,sub,ab,col,dd,k0,k1,k2,k3,k5,mN,hC,hN,hi,no,T⟩:=JH tm I2.kIn
 obtain ⟨ho,no1,_⟩:=I2.pin _ (Bt _ AO)
 have I3:Inv X pins σ (Ak H1 e (.mex (BK C e none))) s1:=LS.Inv.retrack (I2.pins_of fun p hp=>I2.pin p (Bt _ (AS _ hp))) old no1 neL neC neP (LC ⟨t0,ho⟩)
 cases r with
 |cons r1 r2=>
  cases r2 with
  |cons r2 r3=>
   cases r3
   cases (show _=Value.ref e from r1)
   refine Yk (rest:=[_]) PySem.F.excBase_ValueError (T.tail (by decide)) hC ho (by simp [sizeLine]) fun h' sz kp e1 e2=>?_
   have I4:Inv X pins σ (Ak (Ak H1 e (.mex (BK C e none))) e (.mex (BK C e none))) {s1 with heap:=h'}:=Inv.write (x:=e) (e:=e) (t':=s1.toks) I3 (by rw [Bo];trivial) (.inl rfl) (fun b o hb eb=>kp b o hb eb) ⟨_,e1⟩ (LC ⟨_,e1⟩)
   rw [Mq] at I4
   exact ⟨.non,_,I4,rfl,q no1⟩
end
end LS
namespace LS
open PySem PySem.Spec PyProof.Rows L2 PySem.Calls
section
variable {X:Cx} {C fI S:Addr}
theorem YN {p1 p2 p3 p4:Pos} (tm:tmX X.K C fI=true) (h0:X.N[0]?=some ("self":Str)) (v0:D8 X.env.scope "self") (h1:X.N[1]?=some ("many":Str)) (v1:D8 X.env.scope "many") (hs:swapsWith (.Name "many" p3) (some (.Attribute (.Name "self" p1) "many" p2)) p4.line X.env=pure false:=by rfl):
 PS X (.Assign [.Attribute (.Name "self" p1) "many" p2] (.Name "many" p3) p4) (fun D σ H=>∃e a,σ[0]?=some (some (.ref e))∧σ[1]?=some (some (.int a))∧H e=some (.mex (BK C e none))∧
  ∀da u,RelV (.int a) u→H da=none→da≠e→D.nx σ (Ak (Ak H e (.mex (BK C e (some da)))) da (.mex (Gn da (one "many" u))))):=by
 rintro pins s σ H D I ⟨e,a,s0,s1,hH,q⟩
 refine plainObj_wpAny_Assign_Attribute (Aw ((Gz (pos:=p3) h1 v1:PE X _ _) pins s σ H (fun v H1=>v=.int a∧H1=H) I ⟨_,s1,rfl,rfl⟩) fun u t1 z=>?_) hs
 obtain ⟨v,H1,I1,r1,rfl,rfl⟩:=z
 refine Aw ((Gz (pos:=p1) h0 v0:PE X _ _) pins t1 σ H1 (fun v H2=>v=.ref e∧H2=H1) I1 ⟨_,s0,rfl,rfl⟩) fun ou t2 z=>?_
 obtain ⟨v,H2,I2,r2,rfl,rfl⟩:=z
 cases (show ou=Value.ref e from r2)
 exact YH I2 tm (by decide) (by rw [typeLookup_type,builtinLookup_eq_fast];kernel_rfl) hH fun da s' n1 n2 I3=>⟨σ,_,I3,q da u r1 n1 n2⟩
theorem YO {p1 p2 p3 p4:Pos} (tm:tmX X.K C fI=true) (h0:X.N[0]?=some ("self":Str)) (v0:D8 X.env.scope "self") (h1:X.N[2]?=some ("most":Str)) (v1:D8 X.env.scope "most") (hs:swapsWith (.Name "most" p3) (some (.Attribute (.Name "self" p1) "most" p2)) p4.line X.env=pure false:=by rfl):
 PS X (.Assign [.Attribute (.Name "self" p1) "most" p2] (.Name "most" p3) p4) (fun D σ H=>∃e da a b u,σ[0]?=some (some (.ref e))∧σ[2]?=some (some (.int b))∧RelV (.int a) u∧H e=some (.mex (BK C e (some da)))∧H da=some (.mex (Gn da (one "many" u)))∧da≠e∧
  D.nx σ (Ak H da (.xd [("many",.int a),("most",.int b)]))):=by
 rintro pins s σ H D I ⟨e,da,a,b,u,s0,s1,ru,hH,hD,ne,q⟩
 refine plainObj_wpAny_Assign_Attribute (Aw ((Gz (pos:=p3) h1 v1:PE X _ _) pins s σ H (fun v H1=>v=.int b∧H1=H) I ⟨_,s1,rfl,rfl⟩) fun u2 t1 z=>?_) hs
 obtain ⟨v,H1,I1,r1,rfl,rfl⟩:=z
 refine Aw ((Gz (pos:=p1) h0 v0:PE X _ _) pins t1 σ H1 (fun v H2=>v=.ref e∧H2=H1) I1 ⟨_,s0,rfl,rfl⟩) fun ou t2 z=>?_
 obtain ⟨v,H2,I2,r2,rfl,rfl⟩:=z
 cases (show ou=Value.ref e from r2)
 refine YI I2 tm (by decide) (by rw [typeLookup_type,builtinLookup_eq_fast];kernel_rfl) hH hD ne (fun f=>?_) fun s' I3=>⟨σ,_,I3,q⟩
 by_cases f1:f="most"
 ·subst f1
  exact r1
 ·by_cases f2:f="many"
  ·subst f2
   exact ru
  ·have e1:(f=="many")=false:=by simp [f2]
   have e2:(f=="most")=false:=by simp [f1]
   simp only [EB,e1,e2,one,if_neg f1,if_neg f2]
   trivial
end
noncomputable abbrev Ep:ME:=Ip (Gj (Ab 1) (FJ " are more than " (Gj (Ab 2) GR)))
inductive LD (K:PySem.W.Frag) (C:Addr) (vs:List V) (H:Hp) (Q:VK) (E:XK):Prop
 |mk (e:Addr) (a b:Int) (m:List Addr) (h h2:HD) (x:Str) (ev:vs=[.ref e,.int a,.int b]) (hr:HR K m h H) (hH:H e=some (.mex (BK C e none))) (hj:Ep [none,some (.int a),some (.int b)] h=.ok (.str x) h2)
  (q:∀m1 H1 da,m <+:m1→Kp (del H e) H1→HR K m1 h2 H1→H1 e=none→H1 da=none→da≠e→Q .non (Ak (Ak H1 e (.mex (BK C e (some da)))) da (.xd [("many",.int a),("most",.int b)]))):LD K C vs H Q E
section
variable {P:Program} {w:World} {K:PySem.W.Frag} {mg:Str→Option Value} {base:Heap} {C f S:Addr} {k:Nat} {qual:Str} {scope:Scope} {p1 p2 p3 p4 p5 p6 q1 q2 q3 q4 r1 r2 r3 r4:Pos} {js:Expr}
abbrev Sx (js:Expr) (p1 p2 p3 p5 p6 q1 q2 q3 q4 r1 r2 r3 r4:Pos):List Stmt:=[.Expr (.Call (.Attribute (.Name "SwitchError" p1) "__init__" p2) [.Name "self" p3,js] [] p5) p6,.Assign [.Attribute (.Name "self" q1) "many" q2] (.Name "many" q3) q4,.Assign [.Attribute (.Name "self" r1) "most" r2] (.Name "most" r3) r4]
theorem YQ {name:Str} {params:Arguments} {dV kV doc pm cdv ct oc:Value} {an od:Option Addr} {osl:Array (Option Value)}
 (lk:K.lookup f=some ⟨oc,od,.func (PySem.W.fnOf name qual params (Sx js p1 p2 p3 p5 p6 q1 q2 q3 q4 r1 r2 r3 r4) scope dV kV doc pm an cdv ct),osl⟩) (hcd:PySem.W.codeIn K cdv qual=true) (Sc:AV ["self","many","most"] ["self","many","most"] scope)
 (tm:tmX K C f=true) (sw:swX K S=true) (hS:PySem.W.nsIn K mainGlobals "SwitchError"=some (some (.ref S)))
 (hg:∀A outer s H E,Gl (AI (As P w K) P w K mg base ["self","many","most"] qual scope f cdv A outer s H E) "SwitchError")
 (ha:∀A outer s H E,Cb (AI (As P w K) P w K mg base ["self","many","most"] qual scope f cdv A outer s H E) E [.Name "self" p3,js] (Aa (Ab 0) (Aa Ep Ac)))
 (he:∀(env:Env) (pl:Sem Bool),pl=(do return (←importBound (.Name "SwitchError" p1) env).getD true)→eval (.Call (.Attribute (.Name "SwitchError" p1) "__init__" p2) [.Name "self" p3,js] [] p5) env=(do
  let ov ←eval (.Name "SwitchError" p1) env
  standAt p2.atName
  let (f,first) ←holding [ov] (getMethod ov "__init__" pl)
  callWith p5 f first (backTo p5 (starEach [.Name "self" p3,js] env)) (backToKw p5 (keywordEach [] env))))
 (hst:∀env:Env,starEach [.Name "self" p3,js] env=(false,eval (.Name "self" p3) env)::starEach [js] env) (hpl:∀env:Env,(backTo p5 (starEach [js] env)).any (·.1)=false)
 (hsw1:∀env:Env,swapsWith (.Call (.Attribute (.Name "SwitchError" p1) "__init__" p2) [.Name "self" p3,js] [] p5) none p6.line env=pure false) (hsw2:∀env:Env,swapsWith (.Name "many" q3) (some (.Attribute (.Name "self" q1) "many" q2)) q4.line env=pure false) (hsw3:∀env:Env,swapsWith (.Name "most" r3) (some (.Attribute (.Name "self" r1) "most" r2)) r4.line env=pure false)
 (v0:D8 scope "self") (v1:D8 scope "many") (v2:D8 scope "most"):
 FnOk P w K mg base (As P w K) (k+1) f (PySem.W.fnOf name qual params (Sx js p1 p2 p3 p5 p6 q1 q2 q3 q4 r1 r2 r3 r4) scope dV kV doc pm an cdv ct) ["self","many","most"] (LD K C):=by
 refine ML lk hcd Sc (fun vs H Q E z=>by obtain ⟨e,a,b,_,_,_,_,rfl,_⟩:=z;rfl) fun A outer s H vs Q E hr z=>?_
 obtain ⟨e,a,b,m,h,h2,x,rfl,hr1,hH,hj,q⟩:=z
 refine ⟨_,Mt (Pe (YM (fI:=f) tm sw (hg A outer s H E) hS (ha A outer s H E) (he _) (hst _) (hpl _)) (hsw1 _)) (Mt (YN (fI:=f) tm rfl v0 rfl v1 (hsw2 _)) (Pd (YO (fI:=f) tm rfl v0 rfl v2 (hsw3 _)))),?_⟩
 refine ⟨e,by show H e≠none;rw [hH];simp,hH,m,[some (.adr e),some (.int a),some (.int b)],h,HR.del hr1 hH,?_,?_⟩
 ·refine ⟨rfl,fun i d ed=>?_⟩
  match i,ed with
  |0,ed=>cases ed;exact ⟨.ref e,rfl,by simp [DV]⟩
  |1,ed=>cases ed;exact ⟨.int a,rfl,by simp [DV]⟩
  |2,ed=>cases ed;exact ⟨.int b,rfl,by simp [DV]⟩
  |i+3,ed=>cases ed
 ·have ev:Aa (Ab 0) (Aa Ep Ac) [some (.adr e),some (.int a),some (.int b)] h=.ok [.adr e,.str x] h2:=by
   unfold Aa Ac
   show (Out.ok (D.adr e) h).bind _=_
   simp only [Out.bind_ok]
   rw [show Ep [some (.adr e),some (.int a),some (.int b)] h=Ep [none,some (.int a),some (.int b)] h from rfl,hj]
   rfl
  rw [ev]
  intro vs m1 H1 p1 k1 hr2 r
  simp only [DP,DVs,DV] at r
  obtain ⟨v1,w1,rfl,rfl,v2,w2,rfl,rfl,rfl⟩:=r
  refine ⟨x,rfl,fun ne=>⟨e,a,rfl,rfl,Bo,fun da u ru n1 n2=>⟨e,da,a,b,u,rfl,rfl,ru,?_,Bo,n2,?_⟩⟩⟩
  ·rw [Al (Ne.symm n2)];exact Bo
  ·rw [Mq,Mq]
   exact q m1 H1 da p1 k1 hr2 ne (by rw [Al n2] at n1;exact n1) n2
end
theorem YR {M:Model} {A:Around} {E:Value→Shared→Prop} {s:Shared} {env:Env} {x:Sem Value} {Q:Flow→Shared→Prop} {nm q:Str} {C N:Addr} {bs bm:List Value} {hd:Bool} {sn:List Str} {sub:List Value} {ab:Bool} {col:Option Bool} {dd:Option Addr} {k0 k1 k2 k3 k5:Option Value} {newId:String}
 (hb:(Value.ref C::bm).contains (.type "BaseException")=true) (hh:A.handled=none) (h:wpAny M A x (fun v s1=>∃e t da,v=.ref e∧s1.heap.get? C=some (excClassObj nm q C N bs bm hd sn sub ab col dd k0 k1 k2 k3 k5 newId)∧s1.heap.get? e=some (FM C t da)∧E (.ref e) s1) E s):
 wpAny M A (raiseStmt env (some x) none) Q E s:=by
 unfold raiseStmt
 refine wpAny_bind (wpAny_mono h (fun v s1 z=>?_) fun _ _ z=>z)
 obtain ⟨e,t,da,rfl,hC,he,hE⟩:=z
 unfold FM at he
 obtain ⟨hp,g,d,tk,os⟩:=s1
 repeat (first |with_reducible refine wpAny_loadPart_at he ?_ |with_reducible refine wpAny_loadPart_at hC ?_ |(with_reducible refine wpAny_isSubtype_exc hC ?_;rw [hb]) |wp_step)
 exact wpAny_raiseNew_none hh hE
noncomputable def Iz (fa:MA):MS:=fun ρ h=>(fa ρ h).bind fun xs h1=>match xs with
 |[.int a,.int b]=>(match Ep [none,some (.int a),some (.int b)] h1 with
  |.ok (.str _) h2=>.err (DU "TooMany") [("many",.int a),("most",.int b)] h2
  |_=>.stuck)
 |_=>.stuck
section
variable {X:Cx} {E:XK} {C fI:Addr} {fd:FuncData} {k:Nat}
theorem YS {e1 e2:Expr} {fa:MA} {np cpos pos:Pos} {oI:Obj} (lv:Lv X E) (tm:tmX X.K C fI=true) (F:FnOk X.prog X.w X.K X.mg X.base (As X.prog X.w X.K) k fI fd ["self","many","most"] (LD X.K C)) (hb:Binds X.K fd ["self","many","most"] []) (hr:Room (k+1) X.A)
 (lI:X.K.lookup fI=some oI) (cI:oI.cls=.type "function") (kp:PySem.W.keepIn X.K (.ref C)=true) (nmC:PySem.W.nsIn X.K mainGlobals "TooMany"=some (some (.ref C))) (hg:Gl X "TooMany") (hc:X.calm=true) (ha:Cb X E [e1,e2] fa)
 (hs:starEach [e1,e2] X.env=(false,eval e1 X.env)::starEach [e2] X.env:=by rfl) (hpl:(backTo cpos (starEach [e2] X.env)).any (·.1)=false:=by rfl):Ex X E (.Raise (some (.Call (.Name "TooMany" np) [e1,e2] [] cpos)) none pos) (Iz fa):=by
 rintro pins s σ H D I ⟨m,ρ,h,hr0,er,p⟩
 obtain ⟨bm,N,nm,qn,bs,sn,sub,ab,col,dd,k0,k1,k2,k3,k5,mN,hC,hN,hi,no,T⟩:=JH tm I.mod.kin
 have base:(Value.ref C::bm).contains (.type "BaseException")=true:=by rw [Kl,T.has (by decide),Bool.or_true]
 rw [arm_exec_Raise]
 refine wpAny_bind (wpAny_standAt ?_)
 show wpAny _ _ (raiseStmt X.env (some (do let v ←eval (.Call (.Name "TooMany" np) [e1,e2] [] cpos) X.env;standAt pos;pure v)) none) _ _ s
 refine YR base (I.ok.hd hc) (nm:=nm) (q:=qn) (N:=N) (bs:=bs) (hd:=true) (sn:=sn) (sub:=sub) (ab:=ab) (col:=col) (dd:=dd) (k0:=k0) (k1:=k1) (k2:=k2) (k3:=k3) (k5:=k5) (newId:="ValueError.__new__") ?_
 refine wpAny_bind (wpAny_mono (Q:=fun v s1=>∃e t da,v=.ref e∧s1.heap.get? C=some (excClassObj nm qn C N bs bm true sn sub ab col dd k0 k1 k2 k3 k5 "ValueError.__new__")∧s1.heap.get? e=some (FM C t da)∧X.xe (.ref e) s1) ?_ (fun v s1 z=>wpAny_bind (wpAny_standAt (wpAny_pure z))) fun _ _ z=>z)
 refine wpAny_Call_Name_kw (Ft I hg (PySem.W.mg_of I.mod.kin I.mod.glob nmC) ?_)
 refine PySem.W.callWith_K (h₀:=X.base) I.ok.mod.kin kp (Aw (ha cpos pins s σ H (fun vs H1=>∃a b m1 h1 h2 x,vs=[.int a,.int b]∧m <+:m1∧Kp H H1∧HR X.K m1 h1 H1∧Ep [none,some (.int a),some (.int b)] h1=.ok (.str x) h2∧Post X.K (rD X.K) m1 H1 E (fun _ _=>True) (.err (DU "TooMany") [("many",.int a),("most",.int b)] h2:Out LS.D)) I ⟨m,ρ,h,hr0,er,?_⟩) ?_) hs hpl
 ·unfold Iz at p
  refine PostS.bind p fun xs h1 vs m1 H1 _ p1 k1 hr1 r1 q1=>?_
  split at q1
  ·rename_i a b _
   split at q1
   ·rename_i x h2 hx
    simp only [DP,DVs,DV] at r1
    obtain ⟨v1,w1,rfl,rfl,v2,w2,rfl,rfl,rfl⟩:=r1
    exact ⟨a,b,m1,h1,h2,x,rfl,p1,k1,hr1,hx,fun da m' H' y1 y2 y3 y4=>q1 da m' H' y1 y2 y3 y4⟩
   ·exact q1.elim
  ·exact q1.elim
 ·rintro us s1 ⟨vs,H1,I1,r,a,b,m1,h1,h2,x,rfl,p1,kk1,hr1,hj,pq⟩
  refine ⟨I1.kIn,?_⟩
  obtain ⟨hp,g,d,tk,os⟩:=s1
  refine Yj PySem.F.excBase_ValueError ((T.keeps I1.bk).tail (by decide)) (I1.bk _ _ hC) (hN.keeps I1.bk) hi (I1.kIn _ _ lI) cI (fun h' e mk=>?_) (by rw [HA,←r.length];simp [sizeLine])
  have I2:Inv X pins σ H1 ⟨h',g,d,tk,os⟩:=I1.kept (t':=tk) mk.keeps
  obtain ⟨t0,x1,x2,x3⟩:=mk.there
  have new:X.s₀.heap.get? e=none:=lv.older I1 e mk.new
  have no1:H1 e=none:=by
   cases q:H1 e with
   |none=>rfl
   |some o=>
    obtain ⟨ob,eb⟩:=Ld (I1.hok e o q)
    rw [show hp.get? e=none from mk.new] at eb;cases eb
  have neL:e≠X.env.locals:=fun z=>by
   obtain ⟨mL,⟨oL,_,_,hoL,_⟩,_⟩:=I1.loc
   rw [←z,show hp.get? e=none from mk.new] at hoL;cases hoL
  have neC:∀x c,X.env.cells.lookup x=some c→c≠e:=fun x c ex z=>by
   obtain ⟨v,o,hoc,_⟩:=I1.cell x c ex
   rw [z,show hp.get? e=none from mk.new] at hoc;cases hoc
  have neP:∀q∈X.pn++pins,q.1≠e:=fun q hq z=>by
   have:=(I1.pin q hq).1
   rw [z,show hp.get? e=none from mk.new] at this;cases this
  have I3:=LS.Inv.track I2 (o:=.mex (BK C e none)) new no1 neL neC neP (LC ⟨t0,x1⟩)
  have hr3:HR X.K m1 h1 (Ak H1 e (.mex (BK C e none))):=hr1.new no1
  have rv:Vals [.ref e,.int a,.int b] (.ref e::us):=.cons rfl r
  refine wpAny_call (codeAny_mono (F.run (X.A.under (.builtin "type.__call__" ⟨.ref C::us,[]⟩)) X.stack ⟨h',g,d,tk,os⟩ (Ak H1 e (.mex (BK C e none))) ⟨.ref e::us,[]⟩ (.ref e::us) [.ref e,.int a,.int b]
   (fun v H4=>v=.non∧∃m4 H3 da,m1 <+:m4∧Kp H1 H3∧HR X.K m4 h2 H3∧H3 e=none∧H3 da=none∧da≠e∧H4=Ak (Ak H3 e (.mex (BK C e (some da)))) da (.xd [("many",.int a),("most",.int b)])) E0 (hr.make C us []) (I3.env0.make C us []) ?_ rv
   ⟨e,a,b,m1,h1,h2,x,rfl,hr3,Bo,hj,fun m4 H3 da y1 y2 y3 y0 y4 y5=>⟨rfl,m4,H3,da,y1,by rw [YG no1] at y2;exact y2,y3,y0,y4,y5,rfl⟩⟩) fun res s4 hq=>?_)
  ·have:=hb ⟨h',g,d,tk,os⟩ (.ref e::us) I3.kIn (by rw [ED,←rv.length];rfl)
   rwa [ED] at this
  ·cases res with
   |error z=>obtain ⟨_,_,_,_,_,_,_,_,_,_,_,_,z⟩:=hq;exact z.elim
   |ok fl=>
    cases fl with
    |ret u=>
     obtain ⟨v,H4,os4,bare,un,hok,rr,rfl,m4,H3,da,y1,y2,y3,y0,y4,y5,rfl⟩:=hq
     have I4:Inv X pins σ _ s4:=I3.call' os4 un hok bare (fun b hb=>absurd hb (by simp))
     have he4:(Ak (Ak H3 e (.mex (BK C e (some da)))) da (.xd [("many",.int a),("most",.int b)])) e=some (.mex (BK C e (some da))):=by rw [Al (Ne.symm y5)];exact Bo
     obtain ⟨⟨t4,o4⟩,_,_⟩:=(show ObjOk X.prog X.w _ s4.heap e (.mex (BK C e (some da))) from I4.hok e _ he4)
     refine ⟨rr,e,t4,some da,rfl,I4.bk _ _ hC,o4,?_⟩
     have e5:del (Ak (Ak H3 e (.mex (BK C e (some da)))) da (.xd [("many",.int a),("most",.int b)])) e=Ak H3 da (.xd [("many",.int a),("most",.int b)]):=by
      funext c;unfold del Ak
      by_cases z:c=e
      ·subst z;rw [if_pos rfl,if_neg (Ne.symm y5),y0]
      ·rw [if_neg z]
       split
       ·rfl
       ·first |rfl |rw [if_neg z]
     have I5:=LS.Inv.untrack I4 he4
     rw [e5] at I5
     refine Q0 lv I5 o4 rfl rfl rfl rfl rfl new (by rw [Al (Ne.symm y5)];exact y0) nmC (pq (some da) m4 _ y1 (y2.trans (.new y4)) (y3.new y4) fun f v z=>?_)
     by_cases f1:f="many"
     ·subst f1
      cases z
      exact ⟨da,_,.int a,rfl,Bo,rfl,by simp [DV]⟩
     ·by_cases f2:f="most"
      ·subst f2
       cases z
       exact ⟨da,_,.int b,rfl,Bo,rfl,by simp [DV]⟩
      ·have g1:(f=="many")=false:=by simp [f1]
       have g2:(f=="most")=false:=by simp [f2]
       simp only [EB,g1,g2] at z
       cases z
    |next=>exact hq.elim
    |brk=>exact hq.elim
    |cont=>exact hq.elim
end
def Oa (nm:Str):D→HD→Out D
 |.exc n fs,h=>if n="TooMany" then (match fs.lookup nm with
  |some i=>.ok (.int i) h
  |none=>.stuck) else .stuck
 |_,_=>.stuck
noncomputable def JI (f:ME) (nm:Str):ME:=fun ρ h=>(f ρ h).bind fun d h1=>Oa nm d h1
section
variable {X:Cx} {E:XK} {C fI:Addr}
theorem Sy {o:Expr} {f:ME} {nm:Str} {pos:Pos} (tm:tmX X.K C fI=true) (nmC:PySem.W.nsIn X.K mainGlobals "TooMany"=some (some (.ref C))) (hin:nm="many"∨nm="most") (ho:Ev X E o f)
 (he:eval (.Attribute o nm pos) X.env=(eval o X.env >>=fun v=>standAt pos.atName >>=fun _=>holding [v] (getAttr v nm true) >>=fun r=>pure r):=by rfl):Ev X E (.Attribute o nm pos) (JI f nm):=by
 rintro pins s σ H Q I ⟨m,ρ,h,hr,er,p⟩
 have hB:typeLookup (.type "ValueError") nm=pure none:=by rcases hin with rfl |rfl<;>(rw [typeLookup_type,builtinLookup_eq_fast];kernel_rfl)
 have hin2:nm∈tmNames.tail:=by rcases hin with rfl |rfl<;>decide
 rw [he]
 refine wpAny_bind (wpAny_mono (ho pins s σ H (fun v H1=>∃a i C' da d fv,v=.ref a∧C'=C∧H1 a=some (.ext (EL C' da a))∧da=some d∧H1 d=some (.xd fv)∧fv.lookup nm=some (.int i)∧Q (.int i) H1) I ⟨m,ρ,h,hr,er,Post.bind p fun d h1 v m1 H1 _ p1 k1 hr1 r1 q1=>?_⟩) (fun u s1 z=>?_) fun _ _ z=>z)
 ·unfold Oa at q1
  split at q1
  ·rename_i n fs
   split at q1
   ·rename_i hn
    subst hn
    split at q1
    ·rename_i i hi
     simp only [rD,DV] at r1
     obtain ⟨a,C',da,rfl,c1,c2,c3⟩:=r1
     rw [nmC] at c1
     cases c1
     obtain ⟨d,fv,z1,z2,z3⟩:=c3 nm i hi
     exact ⟨a,i,C,da,d,fv,rfl,rfl,c2,z1,z2,z3,q1 (.int i) m1 H1 (AH _) (.refl _) hr1 (by simp [rD,DV])⟩
    ·exact q1.elim
   ·exact q1.elim
  ·exact q1.elim
 ·obtain ⟨v,H1,I1,r,a,i,C',da,d,fv,rfl,rfl,ha,rfl,hd,hf,q⟩:=z
  cases (show u=Value.ref a from r)
  refine wpAny_bind (wpAny_standAt (wpAny_bind (wpAny_holding ?_)))
  obtain ⟨bm,N,nn,qn,bs,sn,sub,ab,col,dd,k0,k1,k2,k3,k5,mN,hC,hN,hi,no,T⟩:=JH tm I1.kIn
  obtain ⟨⟨oe,vs,x1,x2,x3,x4⟩,_,_⟩:=(show ObjOk X.prog X.w H1 s1.heap a (.ext (EL C' (some d) a)) from I1.hok a _ ha)
  obtain ⟨mA,n1,rel⟩:=(show ObjOk X.prog X.w H1 s1.heap d (.xd fv) from I1.hok d _ hd)
  have rl:=rel nm
  rw [hf] at rl
  obtain ⟨w,ew,rw1⟩:=RelO.some_of rl
  have ne:d≠a:=T3 hd ha (by intro z;cases z)
  have II:s1.heap.Inst a C' mA:=⟨oe,x1,x2,fun c z=>(by rw [x4] at z;cases z),.inr ⟨d,x3 d rfl,ne,n1⟩⟩
  obtain ⟨hp,g,dr,tk,os⟩:=s1
  obtain ⟨t1,rfl⟩:∃t1,w=.int i t1:=rw1
  refine YD PySem.F.attrBase_ValueError hC hN T (Mp hin2) (by decide) (by decide) (no nm hin2) (no _ (by decide)) (no _ (by decide)) hB II ew (by rfl) ?_
  exact wpAny_pure ⟨.int i,H1,I1.tok (tk+1),⟨t1,rfl⟩,q⟩
end
end LS
namespace Tp
open PySem PySem.W PySem.Spec PySem.Calls PyProof.Rows
section
variable {α β:Type}
noncomputable def fN (n:Nat) (k:Nat→α):α:=@Nat.rec (fun _=>α) (k 0) (fun m _=>k (Nat.succ m)) n
theorem LG (n:Nat) (k:Nat→α):fN n k=k n:=by cases n<;>rfl
noncomputable def fL (l:List β):(List β→α)→α:=@List.rec β (fun _=>(List β→α)→α) (fun k=>k []) (fun a _ ih k=>ih fun l'=>k (a::l')) l
theorem JJ:∀(l:List β) (k:List β→α),fL l k=k l
 |[],_=>rfl
 |a::l,k=>JJ l fun l'=>k (a::l')
noncomputable def fE (l:List DictEntry):(List DictEntry→α)→α:=@List.rec DictEntry (fun _=>(List DictEntry→α)→α) (fun k=>k []) (fun a _ ih k=>ih fun l'=>@DictEntry.rec (fun _=>α) (fun x y z=>k (⟨x,y,z⟩::l')) a) l
theorem Sz:∀(l:List DictEntry) (k:List DictEntry→α),fE l k=k l
 |[],_=>rfl
 |⟨_,_,_⟩::l,k=>Sz l fun l'=>k (_::l')
noncomputable def fD (d:Data) (k:Data→α):α:=@Data.rec (fun _=>α) (k .plain) (fun v=>k (.prim v)) (fun x n=>@Array.rec Value (fun _=>α) (fun l=>fL l fun l=>fN n fun n=>k (.seq ⟨l⟩ n)) x)
 (fun x n=>@Array.rec DictEntry (fun _=>α) (fun l=>fE l fun l=>fN n fun n=>k (.dict ⟨l⟩ n)) x) (fun x n t=>k (.set x n t)) (fun b n=>k (.bytearray b n)) (fun v=>k (.cell v)) (fun f=>k (.func f)) (fun c=>k (.cls c))
 (fun x=>@Array.rec Value (fun _=>α) (fun l=>fL l fun l=>k (.fields ⟨l⟩)) x) (k .freed) d
theorem YT (d:Data) (k:Data→α):fD d k=k d:=by
 cases d with
 |seq x n=>cases x;simp only [fD,JJ,LG]
 |dict x n=>cases x;simp only [fD,Sz,LG]
 |fields x=>cases x;simp only [fD,JJ]
 |_=>rfl
noncomputable def fO (o:Obj) (k:Obj→α):α:=@Obj.rec (fun _=>α) (fun c d da sl=>fD da fun da=>k ⟨c,d,da,sl⟩) o
theorem SA (o:Obj) (k:Obj→α):fO o k=k o:=by cases o;simp only [fO,YT]
noncomputable def fT (t:BT):(BT→α)→α:=@BT.rec (fun _=>(BT→α)→α) (fun k=>k .nil) (fun v _ _ il ir k=>fO v fun v=>il fun l=>ir fun r=>k (.node v l r)) t
theorem Ob:∀(t:BT) (k:BT→α),fT t k=k t
 |.nil,_=>rfl
 |.node v l r,k=>by
  show fO v (fun v=>fT l fun l=>fT r fun r=>k (.node v l r))=_
  rw [SA,Ob l,Ob r]
noncomputable def fS (s:SharedT) (k:SharedT→α):α:=@SharedT.rec (fun _=>α) (fun t n li g d tk os=>fT t fun t=>fN n fun n=>fN tk fun tk=>@Drawn.rec (fun _=>α) (fun a b c e=>@Array.rec GenState (fun _=>α) (fun g=>fL g fun g=>k ⟨t,n,li,⟨g⟩,⟨a,b,c,e⟩,tk,os⟩) g) d) s
theorem Oc (s:SharedT) (k:SharedT→α):fS s k=k s:=by
 obtain ⟨t,n,li,⟨g⟩,⟨a,b,c,e⟩,tk,os⟩:=s
 simp only [fS,Ob,LG,JJ]
noncomputable def fP (p:Pos) (k:Pos→α):α:=@Pos.rec (fun _=>α) (fun a b c d=>fN a fun a=>fN b fun b=>fN c fun c=>fN d fun d=>k ⟨a,b,c,d⟩) p
theorem Od (p:Pos) (k:Pos→α):fP p k=k p:=by cases p;simp only [fP,LG]
end
section
variable (stp:SharedT→Thread→Option (SharedT×Thread)) (ok:Thread→Bool) (seg:Nat→SharedT→Thread→Option (Flow×SharedT×Code×Pos))
noncomputable def IA (env:Env) (c:Code) (f:Nat):List (List Stmt)→SharedT→Pos→List Code→Option (SharedT×Pos×List Code)
 |[],s,pos,cs=>some (s,pos,cs)
 |l::ls,s,pos,cs=>match seg f s (piecesOf l env c pos [topFrame ⟨0,0,0,0⟩]) with
  |some (.next,s',c',pos')=>fS s' fun s'=>fP pos' fun pos'=>IA env c f ls s' pos' (c'::cs)
  |_=>none
def LH:Nat→SharedT→Thread→Option (SharedT×Thread)
 |0,s,t=>some (s,t)
 |n+1,s,t=>match through t with
  |true=>none
  |false=>match ok t with
   |false=>none
   |true=>match stp s t with
    |some (s',t')=>LH n s' t'
    |none=>none
def LI:Nat→SharedT→Thread→Option SharedT
 |0,_,_=>none
 |n+1,s,t=>match through t with
  |true=>some s
  |false=>match ok t with
   |false=>none
   |true=>match stp s t with
    |some (s',t')=>LI n s' t'
    |none=>none
def cut:Nat→List Stmt→List (List Stmt)
 |0,l=>[l]
 |n+1,l=>match l with
  |[]=>[]
  |x::l=>[x]::cut n l
theorem SB:∀(n:Nat) (l:List Stmt),(cut n l).flatten=l
 |0,l=>by simp [cut]
 |_+1,[]=>rfl
 |n+1,x::l=>by simp [cut,SB n l]
theorem SC:∀(n:Nat) (l:List Stmt),(cut n l).length≤n+1
 |0,l=>AM _
 |_+1,[]=>EF _
 |n+1,x::l=>Nat.succ_le_succ (SC n l)
def Oe (p:Program):Env:={scope:=p.main.scope,locals:=mainNs,globals:=mainNs,cells:=[],code:=.ref 13,frame:=some 14}
def GS (p:Program):Code:=.body (behindTheImports p) (Oe p)
noncomputable def E9 (p:Program) (S0:SharedT):Option (Thread×List Code×SharedT):=match LH stp ok 12 S0 (topStub p) with
 |some (sa,ta)=>match seg 1 sa (blockOf (behindTheImports p) (Oe p) (GS p) ⟨0,0,0,0⟩ [topFrame ⟨0,0,0,0⟩]) with
  |some (.next,sb,cb,pb)=>fS sb fun sb=>fP pb fun pb=>match IA seg (Oe p) (GS p) 2000 (cut 400 (behindTheImports p)) sb pb [cb] with
   |some (sf,pf,cs)=>match LI stp ok 2 sf ⟨doneF .next,GS p,pf,[topFrame ⟨0,0,0,0⟩]⟩ with
    |some sg=>some (ta,cs,sg)
    |none=>none
   |none=>none
  |_=>none
 |none=>none
end
noncomputable def SD (P:Params) (os:OsState):SharedT:=⟨((boot_heap P).objs.toList.foldl (fun (x:BT×Nat) o=>(x.1.ins x.2 o,x.2+1)) (.nil,0)).1,11,(boot_heap P).life,⟨[]⟩,boot_drawn,boot_toks,os⟩
theorem YU (P:Params) (os:OsState):(SD P os).abs=⟨boot_heap P,⟨[]⟩,boot_drawn,boot_toks,os⟩:=by kernel_rfl
section
variable {α:Type}
noncomputable def Of (l:List Obj):(List Obj→α)→α:=@List.rec Obj (fun _=>(List Obj→α)→α) (fun k=>k []) (fun a _ ih k=>fO a fun a=>ih fun l'=>k (a::l')) l
theorem SE:∀(l:List Obj) (k:List Obj→α),Of l k=k l
 |[],_=>rfl
 |a::l,k=>by show fO a (fun a=>Of l fun l'=>k (a::l'))=_;rw [SA,SE]
noncomputable def AW (s:SharedT) (k:Shared→α):α:=Of (s.tree.list s.n) fun l=>k ⟨⟨⟨l⟩,s.life⟩,s.gens,s.drawn,s.toks,s.os⟩
theorem YV (s:SharedT) (k:Shared→α):AW s k=k s.abs:=SE _ _
end
section
variable {tb:String→Option Builtin} {p:Program} {w:World} {m0:Nat} {ann:Option Value}
theorem SG:∀{n:Nat} {s s':SharedT} {t t':Thread},LH (stepT (denote tb) p w) (stepOk m0 ann) n s t=some (s',t')→topGo tb p w m0 ann n s.abs t=some (s'.abs,t')
 |0,_,_,_,_,h=>by cases h;rfl
 |n+1,s,s',t,t',h=>by
  unfold LH at h
  unfold topGo
  cases he:through t with
  |true=>rw [he] at h;cases h
  |false=>
   rw [he] at h
   cases hk:stepOk m0 ann t with
   |false=>rw [hk] at h;cases h
   |true=>
    rw [hk] at h
    cases hs:stepT (denote tb) p w s t with
    |none=>rw [hs] at h;cases h
    |some r=>obtain ⟨s₂,t₂⟩:=r;rw [hs] at h;rw [stepT_spec hs];exact SG h
theorem SH:∀{n:Nat} {s s':SharedT} {t:Thread},LI (stepT (denote tb) p w) (stepOk m0 ann) n s t=some s'→topRun tb p w m0 ann n s.abs t=some s'.abs
 |0,_,_,_,h=>by cases h
 |n+1,s,s',t,h=>by
  unfold LI at h
  unfold topRun
  cases he:through t with
  |true=>rw [he] at h;cases h;rfl
  |false=>
   rw [he] at h
   cases hk:stepOk m0 ann t with
   |false=>rw [hk] at h;cases h
   |true=>
    rw [hk] at h
    cases hs:stepT (denote tb) p w s t with
    |none=>rw [hs] at h;cases h
    |some r=>obtain ⟨s₂,t₂⟩:=r;rw [hs] at h;rw [stepT_spec hs];exact SH h
theorem Og {seg:Nat→SharedT→Thread→Option (Flow×SharedT×Code×Pos)} {env:Env} {c:Code} {f:Nat}:∀{ls:List (List Stmt)} {s sf:SharedT} {pos pf:Pos} {c0 cs:List Code},IA seg env c f ls s pos c0=some (sf,pf,cs)→∀x∈c0,x∈cs
 |[],_,_,_,_,_,_,h,x,hx=>by cases h;exact hx
 |l::ls,s,sf,pos,pf,c0,cs,h,x,hx=>by
  unfold IA at h
  split at h
  ·rw [Oc,Od] at h;exact Og h x (.tail _ hx)
  ·cases h
theorem SI {env:Env} {c:Code} {f:Nat}:∀{ls:List (List Stmt)} {s sf:SharedT} {pos pf:Pos} {c0 cs:List Code},IA (segRunT tb p w m0 ann 1) env c f ls s pos c0=some (sf,pf,cs)→(∀x∈cs,x=c)→∀{N:Nat} {r:Shared},
 topRun tb p w m0 ann N sf.abs ⟨doneF .next,c,pf,[topFrame ⟨0,0,0,0⟩]⟩=some r→topRun tb p w m0 ann (ls.length*f+N) s.abs (restOf ls.flatten env c pos [topFrame ⟨0,0,0,0⟩])=some r
 |[],s,sf,pos,pf,c0,cs,h,hc,N,r,k=>by
  cases h
  rw [HB,Nat.zero_mul,Nat.zero_add]
  exact piece_nil k
 |l::ls,s,sf,pos,pf,c0,cs,h,hc,N,r,k=>by
  unfold IA at h
  split at h
  ·rename_i s' c' pos' e
   rw [Oc,Od] at h
   have e1:=segRun_of e
   rw [hc c' (Og h c' (.head _))] at e1
   have:=piece_app (rest:=ls.flatten) e1 (SI h hc k)
   rw [FQ,IX,HE (ls.length*f) f,Nat.add_assoc]
   exact this
  ·cases h
end
noncomputable def YW {α:Type} (OS:Program→List Str→List Str→(Shared→Bool)→Bool→Shared→_) (IM:List Stmt→List Str) (p q:Program) (loose:List Str) (Yf:Shared→α) (H₀:Heap) (s:Shared):=
 ((staticsOk (IM p.main.body) H₀ s.heap&&namesBound p s.heap&&gensDone s&&laidKept H₀ s.heap),(OS q loose (IM p.main.body) (fun _=>true) true s:type_of% (openSeen q loose [] (fun _=>true) true s)),Yf s)
theorem left_of {p q:Program} {loose:List Str} {α:Type} {Yf:Shared→α} {Ya:World→α} {n:Nat} (e:opening p=plainProg p.main.scope.names) (fm:∀s,fenceModules? p s=some s)
 (size:∀w:World,((boot_heap w.params).isNs mainGlobals&&(Array.mk ([]:List GenState)).size==0,(boot_heap w.params).objs.size,(boot_heap w.params).nsMap mainGlobals "__annotations__")=(true,11,some (.ref 6)))
 (h:∀(w:World) (os:OsState),(E9 (stepT (denote treeTable) p w) (stepOk 11 (some (.ref 6))) (segRunT treeTable p w 11 (some (.ref 6)) 1) p (SD w.params os)).map (fun r=>(r.1,r.2.1,AW r.2.2 (YW openSeen importedModules p q loose Yf (boot_heap w.params))))=
  some (⟨denote treeTable (GS p),GS p,⟨0,0,0,0⟩,[topFrame ⟨0,0,0,0⟩]⟩,List.replicate n (GS p),(true,openGood q loose,Ya w))):
 LeftO p q loose (fun _=>true) Yf Ya 1000000:=fun w=>by
 obtain ⟨⟨hp,gs,d,k,os⟩,e0,e'⟩:=qaR.mp (boot_open (N:=1000000) e rfl fm w)
 obtain ⟨rfl,rfl,rfl,rfl⟩:hp=boot_heap w.params∧gs=Array.mk []∧d=boot_drawn∧k=boot_toks:=by simpa using e'
 obtain ⟨z1,z2,z3⟩:_∧_∧_:=by simpa only [Prod.mk.injEq] using size w
 obtain ⟨⟨ta,cs,sg⟩,h1,h2⟩:=qaR.mp (h w os)
 dsimp only at h2
 rw [YV] at h2
 obtain ⟨h3,h4⟩:=Prod.mk.inj h2
 obtain ⟨h5,h6⟩:=Prod.mk.inj h4
 obtain ⟨l1,h7⟩:=Prod.mk.inj h6
 obtain ⟨l2,l3⟩:=Prod.mk.inj h7
 have hcs:∀x∈cs,x=GS p:=fun x hx=>by rw [h5] at hx;exact List.eq_of_mem_replicate hx
 have run:topRun treeTable p w 11 (some (.ref 6)) 1000000 ⟨boot_heap w.params,Array.mk [],boot_drawn,boot_toks,os⟩ (topStub p)=some sg.abs:=by
  rw [←YU]
  unfold E9 at h1
  split at h1
  ·rename_i sa ta' ea
   split at h1
   ·rename_i sb cb pb eb
    rw [Oc,Od] at h1
    split at h1
    ·rename_i sf pf cs' ec
     split at h1
     ·rename_i sg' eg
      cases h1
      have hb:=segRun_of eb
      rw [hcs cb (Og ec cb (.head _))] at hb
      have c1:=SI ec hcs (SH eg)
      rw [SB] at c1
      have c2:=piece_block hb c1
      have c3:=SG ea
      rw [h3] at c3
      have c4:=go_top c3 c2
      have hl:=SC 400 (behindTheImports p)
      have:=topRun_mono (1000000 - (12+(1+((cut 400 (behindTheImports p)).length*2000+2)))) _ _ _ _ c4
      rwa [show 12+(1+((cut 400 (behindTheImports p)).length*2000+2))+(1000000 - (12+(1+((cut 400 (behindTheImports p)).length*2000+2))))=1000000 by omega] at this
     ·cases h1
    ·cases h1
   ·cases h1
  ·cases h1
 have t:topFrom treeTable p w 1000000 ⟨boot_heap w.params,Array.mk [],boot_drawn,boot_toks,os⟩=some sg.abs:=by
  unfold topFrom
  dsimp only
  rw [z1,z2,z3,run]
  show (match staticsOk (importedModules p.main.body) (boot_heap w.params) sg.abs.heap&&namesBound p sg.abs.heap&&gensDone sg.abs&&laidKept (boot_heap w.params) sg.abs.heap with |true=>_ |false=>_)=_
  rw [l1]
 unfold openEnds
 rw [e0]
 show (topFrom treeTable p w 1000000 _).map _=_
 rw [t]
 exact congrArg some (Prod.ext l2 l3)
def SJ (h:Heap) (a:Addr):Option (Addr×Obj):=match h.get? a with
 |some o=>(match o.cls,a==mainNs||a==cStatics with
  |.none,false=>none
  |_,_=>some (a,o))
 |none=>none
def LJ (h:Heap):Frag:=(List.range h.objs.size).filterMap (SJ h)
theorem lookup_mem {a:Addr} {o:Obj}:∀{l:Frag},l.lookup a=some o→(a,o)∈l
 |[],h=>by cases h
 |(b,o')::l,h=>by
  rw [EB] at h
  split at h
  ·rename_i q
   cases h
   rw [beq_iff_eq.mp q]
   exact .head _
  ·exact .tail _ (lookup_mem h)
theorem YX (h:Heap):(LJ h).In h:=fun a o e=>by
 obtain ⟨b,_,hb⟩:=List.mem_filterMap.mp (lookup_mem e)
 unfold SJ at hb
 split at hb
 ·rename_i o' e'
  split at hb
  ·cases hb
  ·cases hb;exact e'
 ·cases hb
def blank (fd:FuncData):FuncData:={fd with kwdefaults:=.none,doc:=.none,pyModule:=.none,annotations:=none,code:=.none,closureTuple:=.none}
def JK (K:Frag) (n:Str):Option (FuncData×Bool×Bool):=match nsIn K mainGlobals n with
 |some (some (.ref f))=>(match K.lookup f with
  |some ⟨_,_,.func fd,_⟩=>some (blank fd,codeIn K fd.code n,keepIn K (.ref f))
  |_=>none)
 |_=>none
abbrev LM (n:Str) (st:Stmt):FuncData:=fnOf n n (L2.defArgs st) (L2.defBody st) (L2.defScope st) .none .none .none .none none .none .none
inductive LN (K:Frag) (n:Str) (st:Stmt):Prop where
 |mk (f:Addr) (od an:Option Addr) (sl:Array (Option Value)) (oc kV dc pm cd ct:Value) (a:nsIn K mainGlobals n=some (some (.ref f)))
  (l:K.lookup f=some ⟨oc,od,.func (fnOf n n (L2.defArgs st) (L2.defBody st) (L2.defScope st) .none kV dc pm an cd ct),sl⟩) (c:codeIn K cd n=true) (k:keepIn K (.ref f)=true):LN K n st
theorem YY {K:Frag} {n:Str} {st:Stmt} (e:JK K n=some (LM n st,true,true)):LN K n st:=by
 unfold JK at e
 split at e
 ·rename_i f hf
  split at e
  ·rename_i oc od fd sl hl
   obtain ⟨e1,e2⟩:=Prod.mk.inj (Option.some.inj e)
   obtain ⟨e3,e4⟩:=Prod.mk.inj e2
   obtain ⟨x1,x2,x3,x4,x5,x6,x7,x8,x9,x10,x11,x12,x13,x14,x15⟩:=fd
   replace e1:FuncData.mk x1 x2 x3 x4 x5 x6 x7 x8 .none .none .none none .none .none x15=LM n st:=e1
   injection e1 with y1 y2 y3 y4 y5 y6 y7 y8 y9 y10 y11 y12 y13 y14 y15
   subst x1 x2 x3 x4 x5 x6 x7 x8 x15
   exact ⟨f,od,x12,sl,oc,x9,x10,x11,x13,x14,hf,hl,e3,e4⟩
  ·cases e
 ·cases e
def JL (K:Frag) (x:Str):Option Int:=match nsIn K mainGlobals x with
 |some (some (.int v _))=>some v
 |_=>none
theorem YZ {K:Frag} {x:Str} {v:Int} (e:JL K x=some v):∃t,nsIn K mainGlobals x=some (some (.int v t)):=by
 unfold JL at e
 split at e
 ·rename_i t h;cases e;exact ⟨t,h⟩
 ·cases e
def Oh (K:Frag) (h:Heap):Option (Option Obj×Bool×Bool):=match LS.tabP K with
 |some (c,T)=>some (h.get? T,codeHdIn K c T,(K.lookup T).isNone)
 |none=>none
structure Want where
 fs:List (Str×Stmt)
 cs:List (Str×Int)
 bs:List Str
abbrev LO:=List (Option (FuncData×Bool×Bool))×List (Option Int)×List (Option (Option Value))×Bool×Option (Option Obj×Bool×Bool)
noncomputable def ZeG (W:Want) (s:Shared):LO:=fL (LJ s.heap) fun K=>
 (W.fs.map fun x=>JK K x.1,W.cs.map fun x=>JL K x.1,W.bs.map (nsIn K mainGlobals),LS.etOk K,Oh K s.heap)
def SK (W:Want):LO:=(W.fs.map fun x=>some (LM x.1 x.2,true,true),W.cs.map fun x=>some x.2,W.bs.map fun _=>some none,true,some (some (tabObj #[]),true,true))
inductive Has (W:Want) (K:Frag) (c T:Addr):Prop where
 |mk (fs:∀(i:Nat) n st,W.fs[i]?=some (n,st)→LN K n st) (cs:∀(i:Nat) n v,W.cs[i]?=some (n,v)→∃t,nsIn K mainGlobals n=some (some (.int v t))) (bs:∀(i:Nat) n,W.bs[i]?=some n→nsIn K mainGlobals n=some none)
  (et:LS.etOk K=true) (tb:LS.tabP K=some (c,T)) (hd:codeHdIn K c T=true) (no:K.lookup T=none):Has W K c T
def Says (W:Want) (_:World) (h:Heap):Prop:=∃(K:Frag) (c T:Addr),K.In h∧Has W K c T∧h.get? T=some (tabObj #[])
theorem Says.keeps {W:Want} (w:World) (h h':Heap) (x:Says W w h) (k:∀b o,h.get? b=some o→h'.get? b=some o):Says W w h':=by
 obtain ⟨K,c,T,h1,h2,h3⟩:=x
 exact ⟨K,c,T,h1.keeps k,h2,k _ _ h3⟩
theorem Oi {α β:Type} {f g:α→β} {l:List α} (e:l.map f=l.map g) {i:Nat} {x:α} (h:l[i]?=some x):f x=g x:=by
 have:=congrArg (·[i]?) e
 simp only [Ca,h,IV,Option.some.injEq] at this
 exact this
theorem tab_cd {K:Frag} {c T f:Addr} {oc kV dc pm cd ct:Value} {od an:Option Addr} {sl:Array (Option Value)} {st:Stmt} (h:LS.tabP K=some (c,T)) (a:nsIn K mainGlobals "law"=some (some (.ref f)))
 (l:K.lookup f=some ⟨oc,od,.func (fnOf "law" "law" (L2.defArgs st) (L2.defBody st) (L2.defScope st) .none kV dc pm an cd ct),sl⟩):cd=.ref c:=by
 unfold LS.tabP at h
 rw [a] at h
 dsimp only at h
 rw [l] at h
 dsimp only at h
 split at h
 ·split at h
  ·split at h
   ·cases h;rfl
   ·cases h
  ·cases h
 ·cases h
end Tp
namespace LS
open PySem PySem.W PySem.Spec PySem.Calls PyProof.Rows L2
end LS
namespace Tp
open PySem PySem.W PySem.Spec PySem.Calls PyProof.Rows
def Oj (K:Frag):Option (FuncData×List Bool):=match nsIn K mainGlobals "TooMany",nsIn K mainGlobals "SwitchError" with
 |some (some (.ref C)),some (some (.ref S))=>(match K.lookup C with
  |some o=>(match LS.clsOf o.data with
   |some cd=>(match nsIn K cd.ns "__init__" with
    |some (some (.ref f))=>(match K.lookup f with
     |some ⟨oc,_,.func fd,_⟩=>some (blank fd,[codeIn K fd.code "TooMany.__init__",LS.tmX K C f,LS.swX K S,keepIn K (.ref C),oc==.type "function"])
     |_=>none)
    |_=>none)
   |none=>none)
  |none=>none)
 |_,_=>none
abbrev Ol (st:Stmt):FuncData:=fnOf "__init__" "TooMany.__init__" (L2.defArgs st) (L2.defBody st) (L2.defScope st) .none .none .none .none none .none .none
inductive HasT (K:Frag) (st:Stmt):Prop where
 |mk (C S f:Addr) (od an:Option Addr) (sl:Array (Option Value)) (kV dc pm cd ct:Value) (nC:nsIn K mainGlobals "TooMany"=some (some (.ref C))) (nS:nsIn K mainGlobals "SwitchError"=some (some (.ref S)))
  (l:K.lookup f=some ⟨.type "function",od,.func (fnOf "__init__" "TooMany.__init__" (L2.defArgs st) (L2.defBody st) (L2.defScope st) .none kV dc pm an cd ct),sl⟩) (c:codeIn K cd "TooMany.__init__"=true) (tm:LS.tmX K C f=true) (sw:LS.swX K S=true) (kp:keepIn K (.ref C)=true):HasT K st
theorem Y0 {K:Frag} {st:Stmt} (e:Oj K=some (Ol st,[true,true,true,true,true])):HasT K st:=by
 unfold Oj at e
 split at e
 ·rename_i C S hC hS
  split at e
  ·split at e
   ·rename_i cd _
    split at e
    ·rename_i f hf
     split at e
     ·rename_i oc od fd sl hl
      obtain ⟨e1,e2⟩:=Prod.mk.inj (Option.some.inj e)
      simp only [List.cons.injEq,and_true] at e2
      obtain ⟨e3,e4,e5,e6,e7⟩:=e2
      rw [beq_iff_eq] at e7
      subst e7
      obtain ⟨x1,x2,x3,x4,x5,x6,x7,x8,x9,x10,x11,x12,x13,x14,x15⟩:=fd
      replace e1:FuncData.mk x1 x2 x3 x4 x5 x6 x7 x8 .none .none .none none .none .none x15=Ol st:=e1
      injection e1 with y1 y2 y3 y4 y5 y6 y7 y8 y9 y10 y11 y12 y13 y14 y15
      subst x1 x2 x3 x4 x5 x6 x7 x8 x15
      exact ⟨C,S,f,od,x12,sl,x9,x10,x11,x13,x14,hC,hS,hl,e3,e4,e5,e6⟩
     ·cases e
    ·cases e
   ·cases e
  ·cases e
 ·cases e
noncomputable def obsT (W:Want) (s:Shared):LO×Option (FuncData×List Bool):=fL (LJ s.heap) fun K=>
 ((W.fs.map fun x=>JK K x.1,W.cs.map fun x=>JL K x.1,W.bs.map (nsIn K mainGlobals),LS.etOk K,Oh K s.heap),Oj K)
def valT (W:Want) (st:Stmt):LO×Option (FuncData×List Bool):=(SK W,some (Ol st,[true,true,true,true,true]))
def SaysT (W:Want) (st:Stmt) (_:World) (h:Heap):Prop:=∃(K:Frag) (c T:Addr),K.In h∧(Has W K c T∧HasT K st)∧h.get? T=some (tabObj #[])
theorem SaysT.keeps {W:Want} {st:Stmt} (w:World) (h h':Heap) (x:SaysT W st w h) (k:∀b o,h.get? b=some o→h'.get? b=some o):SaysT W st w h':=by
 obtain ⟨K,c,T,h1,h2,h3⟩:=x
 exact ⟨K,c,T,h1.keeps k,h2,k _ _ h3⟩
theorem says_ofT {W:Want} {st:Stmt} (w:World) (s:Shared) (e:obsT W s=valT W st):SaysT W st w s.heap:=by
 unfold obsT valT SK at e
 rw [JJ] at e
 obtain ⟨e,e6⟩:=Prod.mk.inj e
 obtain ⟨e1,e⟩:=Prod.mk.inj e
 obtain ⟨e2,e⟩:=Prod.mk.inj e
 obtain ⟨e3,e⟩:=Prod.mk.inj e
 obtain ⟨e4,e5⟩:=Prod.mk.inj e
 unfold Oh at e5
 split at e5
 ·rename_i c T hT
  obtain ⟨a1,a2⟩:=Prod.mk.inj (Option.some.inj e5)
  obtain ⟨a2,a3⟩:=Prod.mk.inj a2
  exact ⟨_,c,T,YX _,⟨⟨fun i n st h=>YY (Oi e1 h),fun i n v h=>YZ (Oi e2 h),fun i n h=>Oi e3 h,e4,hT,a2,Option.isNone_iff_eq_none.mp a3⟩,Y0 e6⟩,a1⟩
 ·cases e5
end Tp
namespace LS
open PySem PySem.W PySem.Spec PySem.Calls PyProof.Rows L2
theorem walk_hdT {l:OpenLaw} {n k:Nat} {q:Program} {loose:List Str} {XP:(Str→Option Value)→Heap→Prop} {W:Tp.Want} {st:Stmt} {d:DefRec} {x:Str} {F:List D→HD→Out D}
 (hn:l.most=some n) (hn2:n≤sizeLine) (hdf:d.params.defaults=[]) (hr:Room k callerA)
 (Fn:∀(w:World) (K:Frag) (c T:Addr) (mg:Str→Option Value) (fa:Addr) (h:Heap),Tp.Has W K c T∧Tp.HasT K st→K.In h→h.Ns mainGlobals mg→mg d.name=some (.ref fa)→
  ∃fd:FuncData,(∀(s:Shared) (u:Value),BindsTo s fd ⟨[u],[]⟩ [(x,u)])∧
   ∀base:Heap,K.In base→base.Ns mainGlobals mg→Im mg base→FnOk l.prog w K mg base (As l.prog w K) k fa fd [x] (Em K F))
 (hF:∀ns:List Int,ns.length≤n→(∀i∈ns,Builtin.Int.intBits i≤2^20)→∃h',F [.scr ns] [.tab]=.ok (.bl true) h'):
 WalkO q loose XP (Tp.SaysT W st) l.row.toRowW d [] (fun f vs=>PySem.call f vs):=by
 refine Att.attach_bits hn hdf fun w s₀ s₁ mg mb fa o pm cd doc a vs ns hbits G Y ho hd hcd' hmg hobj hints hlen hg=>?_
 obtain ⟨K,c,T,KX,HS,hT⟩:=Y
 obtain ⟨fd,hb,hF'⟩:=Fn w K c T mg fa _ HS KX G.T.g hmg
 obtain ⟨bm,ob,b1,b2,b3,b4,b5,b6⟩:=G.T.bmain
 obtain ⟨_,_,_,_,h1,h2,h3⟩:=HS.1
 exact XQ KX G.T.g G.T.b G.T.builtins G.T.nolimit hg ⟨bm,ob,b1,b2,b3,b4,b5,b6⟩ hobj hints (BA hlen hn2) hr h1 h2 hT h3 hF' hb (hF ns hlen hbits)
structure SL (P:Program) (w:World) (K:Frag) (mg:Str→Option Value) (base:Heap) (C f:Addr) (fd:FuncData) (oI:Obj):Prop where
 tm:tmX K C f=true
 F:FnOk P w K mg base (As P w K) 1 f fd ["self","many","most"] (LD K C)
 hb:Binds K fd ["self","many","most"] []
 lI:K.lookup f=some oI
 cI:oI.cls=.type "function"
 kp:keepIn K (.ref C)=true
 nC:nsIn K mainGlobals "TooMany"=some (some (.ref C))
end LS
namespace LS
open PySem PySem.Spec PyProof.Rows L2
open Classical in
noncomputable def strOfD:D→HD→Out D
 |.int i,h=>if i.natAbs<4611686018427387904 then .ok (.str (toString i)) h else .stuck
 |_,_=>.stuck
section
variable {X:Cx}
theorem Y1:Dm X (.type "str") (fun xs H Q=>∃i:Int,xs=[.int i]∧i.natAbs<4611686018427387904∧Q (.str (toString i)) H):=by
 intro pins s σ H xs us Q I r h
 obtain ⟨i,rfl,hi,q⟩:=h
 obtain ⟨u,rfl,t,rfl⟩:=EH r
 exact str_of_int_fit (N:=4611686018427387904) (by split<;>omega) (Int.le_refl _) fun _=>⟨.str (toString i),H,I.tok _,⟨_,rfl⟩,q⟩
theorem Y2:CJ X (.type "str") (An strOfD):=by
 refine ⟨_,Y1,fun m H h E ds vs Q hr r q=>Fv r q fun d v ev rv q=>?_⟩
 unfold strOfD at q
 split at q
 ·split at q
  ·rename_i i hi
   simp only [DV] at rv;subst rv
   exact ⟨_,ev,hi,Bj hr q (by simp [DV])⟩
  ·exact q.elim
 ·exact q.elim
def ZeH (i j k:Nat) (ta:TA):TS:=fun Dn σ H=>ta σ H fun vs H1=>∃u v w,vs=[u,v,w]∧Dn.nx (((σ.set i (some u)).set j (some v)).set k (some w)) H1
def Om (i j k:Nat) (ρ:Ah):List D→HD→Out (Fl×Ah)
 |[u,v,w],h=>.ok (.nx,((ρ.set i (some u)).set j (some v)).set k (some w)) h
 |_,_=>.stuck
noncomputable def SM (i j k:Nat) (fa:MA):MS:=fun ρ h=>(fa ρ h).bind fun ds h1=>Om i j k ρ ds h1
end
@[simp] theorem ZeI {i j k:Nat} {fa:MA} {ρ:Ah} {h:HD} {Q:Fl×Ah→HD→Prop}:Wp (SM i j k fa ρ h) Q=Wp (fa ρ h) fun ds h1=>Wp (Om i j k ρ ds h1) Q:=by unfold SM;rw [Az]
@[simp] theorem ZeJ {i j k:Nat} {ρ:Ah} {u v w:D} {h:HD} {Q:Fl×Ah→HD→Prop}:Wp (Om i j k ρ [u,v,w] h) Q=Q (.nx,((ρ.set i (some u)).set j (some v)).set k (some w)) h:=rfl
section
variable {X:Cx}
abbrev On:=F0 fun i j=>.int (Builtin.bitXor i j)
theorem Y3:BO X (binaryOp .BitXor) On:=Ji UW fun _ _ _ _=>by simp [DV]
end
section
variable {X:Cx} {E:XK} {D:Addr} {elt tg iter:Expr} {ifs:List Expr} {gs gens:List Comprehension} {scope:Scope} {pos:Pos} {Nc:List Str} {cs:List (Option Nat)} {it:MI} {gg:TG} {sg:MG} {t:MT} {f:ME} {e:De} {d:Nat} {is js:List Nat}
theorem SO {i:Nat} {x:Str} {pos' pos2:Pos} (hcalm:X.calm=true) (hN:X.N.Nodup) (hix:X.N[i]?=some x) (hx:FU X.env.scope x) (S:Gc X scope Nc cs) (hi:EW X E tg iter it) (ha:∀g,gs[0]?=some g→g.is_async=0) (hc:∀j∈is++js,cs[j]?=some none) (hg:Iw X.K is js gg sg)
 (hb:∀(C D:Addr) (cells:List (Str×Addr)) (fp:List Addr) (s₀:Shared) (H₀:Hp) (pins:List (Addr×Obj)),Iv (Bf X Nc scope C D cells fp s₀ H₀ pins) D→PG (Bf X Nc scope C D cells fp s₀ H₀ pins) tg gg∧HX (Bf X Nc scope C D cells fp s₀ H₀ pins) E0 ifs t∧
  EM (Bf X Nc scope C D cells fp s₀ H₀ pins) D (Dz elt (⟨tg,iter,ifs,0⟩::gs) scope pos 0 (.ref D) (Bf X Nc scope C D cells fp s₀ H₀ pins).env) (E8 X.K js e))
 (hsf:∀x,foldedSetIterable iter X.env x=pure x:=by intro _;rfl) (hsw:swapsWith (.ListComp elt (⟨tg,iter,ifs,0⟩::gs) scope pos) (some (.Name x pos')) pos2.line X.env=pure true:=by rfl)
 (hf:X.fn x=true∨X.env.scope.names.lookup x=some .local:=by first |exact .inl rfl |exact .inr rfl |assumption):Ex X E (.Assign [.Name x pos'] (.ListComp elt (⟨tg,iter,ifs,0⟩::gs) scope pos) pos2) (Aq i (E7 cs it sg t e)):=by
 rintro pins s σ H D I ⟨m,ρ,h,hr,er,p⟩
 have hq:N7 cs (tM X.K (F8 X.K) E it) gg (EN X.K E0 t) (E8 X.K js e) σ H (fun v H1=>D.nx (σ.set i (some v)) H1):=Yu hc hg σ H _ ⟨m,ρ,h,hr,er,PostS.bind p fun y h1 v m1 H1 _ p1 k1 hr1 r1 q1=>(q1.here hr1) _ ((er.keep p1 k1).set r1)⟩
 rw [exec_Assign_Name_used _ _ _ _ hsw]
 refine wpAny_bind (wpAny_standAt (wpAny_bind ?_))
 show wpAny _ X.A (do let _ ←comprehension (.ListComp elt (⟨tg,iter,ifs,0⟩::gs) scope pos) scope X.env _ (newList []) false (eval iter X.env) (some (assign (.Name x pos') X.env))) _ _ s
 refine wpAny_bind (wpAny_mono (Yq (QQ:=fun _ s'=>SP X pins D .next s') hcalm S hi ha hb hsf I hq fun s6 C Dd H7 m6 hn hC h0 hL hc hp inv q=>?_) (fun _ s' z=>wpAny_pure (wpAny_pure z)) fun _ _ z=>z)
 have I6:Inv X pins σ H7 s6:=inv s6.heap ⟨rfl,fun _ _=>rfl⟩
 refine wpAny_assign_Name (IY I6 hN hix hx (v:=.ref Dd) rfl (fun s7 I7 z3_=>?_) hf)
 obtain ⟨a,sb7,ha⟩:=z3_
 have nCa:C≠a:=by
  rcases ha with z |z
  ·rw [z];exact hL
  ·exact Ne.symm (hc x a z)
 obtain ⟨o,es,ep,e1,e2⟩:=hn
 refine ⟨m6,⟨o,es,ep,(sb7.2 C nCa).trans e1,e2⟩,fun h' sb=>?_⟩
 exact ⟨_,H7,I7.turned (t':=s7.toks) (it:=C) (fun b o hb e=>(sb.2 b hb).trans e) hC hL (.inr h0) hc hp,q⟩
end
theorem Y4 {X:Cx} {E:XK} {k k':Nat} {F:List D→HD→Out D} {x:Str} {p pos:Pos} (C:CaE X.prog X.w X.K X.mg X.base x k F) (hr:Room k' X.A) (hx:EJ (As X.prog X.w X.K) X E) (hk:k≤k':=by decide) (hg:Gl X x:=by rfl)
 (hdb:(x==("__debug__":Str))=false:=by decide):Ev X E (.Call (.Name x p) [] [] pos) (Ag F Ac):=by
 obtain ⟨f,fd,ps,G,hb,hm,hkp⟩:=C.ex
 refine B3 (Vo (E:=E) G (hr.mono hk) hg hm hkp hb .nil hx hdb) fun σ H Q z3_=>?_
 obtain ⟨m,ρ,hd,hr,er,p⟩:=z3_
 exact ⟨m,[],hd,hr,.nil,p⟩
def LP:List Expr→Option (List (Int×Int))
 |[]=>some []
 |.Tuple [.Constant (.int a) _ _,.Constant (.int b) _ _] _ _::es=>(LP es).map ((a,b)::·)
 |_=>none
noncomputable def Fb:List (Int×Int)→MA
 |[]=>Ac
 |p::ps=>Aa (A1 (Aa (mC (.int p.1)) (Aa (mC (.int p.2)) Ac))) (Fb ps)
@[simp] theorem ZeK:Fb []=Ac:=rfl
@[simp] theorem ZeL {p:Int×Int} {ps:List (Int×Int)}:Fb (p::ps)=Aa (A1 (Aa (mC (.int p.1)) (Aa (mC (.int p.2)) Ac))) (Fb ps):=rfl
theorem Oo {X:Cx} {E:XK}:∀{es:List Expr} {ps:List (Int×Int)},LP es=some ps→Cb X E es (Fb ps)
 |[],ps,h=>by
  cases h
  exact Af
 |e::es,ps,h=>by
  unfold LP at h
  split at h
  ·rename_i e1;cases e1
  ·rename_i e1
   cases e1
   obtain ⟨qs,hq,rfl⟩:=qaR.mp h
   exact Ad (BP (Ad Ap (Ad Ap Af))) (Oo hq)
  ·cases h
section
variable {X:Cx} {E:XK}
@[irreducible] def IB (X:Cx) (E:XK) (st:Stmt) (g:MS):Prop:=Ex X E st g
theorem Y5 {st:Stmt} {g:MS} (h:Ex X E st g):IB X E st g:=by unfold IB;exact h
theorem Y6 {st:Stmt} {sts:List Stmt} {g1 g2:MS} (h1:IB X E st g1) (h2:AQ X E sts g2):AQ X E (st::sts) (Aj g1 g2):=by
 unfold IB at h1
 exact Av h1 h2
theorem Y7 {i:Nat} {x:Str} {es:List Expr} {ps:List (Int×Int)} {pos pos' lp:Pos} (hN:X.N.Nodup) (hi:X.N[i]?=some x) (hx:FU X.env.scope x) (hp:LP es=some ps) (hf:X.fn x=true∨X.env.scope.names.lookup x=some .local:=by first |exact .inl rfl |exact .inr rfl |assumption):
 IB X E (.Assign [.Name x pos'] (.List es lp) pos) (Aq i (AZ (Fb ps))):=Y5 (A6 hN hi hx (BQ (Oo hp)) rfl hf)
@[irreducible] def JM (X:Cx) (E:XK) (sts:List Stmt) (g:MS):Prop:=AQ X E sts g
theorem Y8 {st:Stmt} {sts:List Stmt} {g1 g2:MS} (h1:IB X E st g1) (h2:AQ X E sts g2):JM X E (st::sts) (Aj g1 g2):=by
 unfold JM
 exact Y6 h1 h2
end
theorem Y9 {P:Program} {w:World} {K:PySem.W.Frag} {mg:Str→Option Value} {base:Heap} {x qual:Str} {st:Stmt} {f:Addr} {kV doc pm cdv ct oc:Value} {an od:Option Addr} {osl:Array (Option Value)} {N ps:List Str} {k:Nat} {F:List D→HD→Out D} {g:MS}
 (lk:K.lookup f=some ⟨oc,od,.func (PySem.W.fnOf x qual (defArgs st) (defBody st) (defScope st) .none kV doc pm an cdv ct),osl⟩) (hcd:PySem.W.codeIn K cdv qual=true) (S:AV N ps (defScope st)) (ar:Ar ps.length F)
 (hg:∀ds h,ds.length=ps.length→F ds h=Am N.length g ds h)
 (hbody:∀(A:Around) (outer:List Env) (s:Shared) (H:Hp) (E:XK),Room k (A.deeper (envOfC qual (defScope st) s.heap.objs.size f cdv))→JM (AI (As P w K) P w K mg base N qual (defScope st) f cdv A outer s H E) E (defBody st) g):
 FnOk P w K mg base (As P w K) (k+1) f (PySem.W.fnOf x qual (defArgs st) (defBody st) (defScope st) .none kV doc pm an cdv ct) ps (Em K F):=
 X0 lk hcd S ar hg fun A outer s H E hr=>by
  have:=hbody A outer s H E hr
  unfold JM at this
  exact this
end LS
namespace LS
open PySem PySem.Spec PySem.W PyProof.Rows L2
theorem Za {K:Frag} {h:Heap} {mg:Str→Option Value} {x:Str} {st:Stmt} {f:Addr} {oc:Value} {od an:Option Addr} {osl:Array (Option Value)} {kV doc pm cdv ct:Value} (X:K.In h) (G:h.Ns mainGlobals mg) (l:K.lookup f=some ⟨oc,od,.func (fnOf x x (defArgs st) (defBody st) (defScope st) .none kV doc pm an cdv ct),osl⟩) (c:codeIn K cdv x=true) (k:keepIn K (.ref f)=true) (a:nsIn K mainGlobals x=some (some (.ref f)))
 (b:∀(kV doc pm:Value) (an:Option Addr) (cdv ct:Value),bindArgs (fnOf x x (defArgs st) (defBody st) (defScope st) .none kV doc pm an cdv ct) ⟨[],[]⟩=pure (([]:List Str).zip [])):Dn K mg x [] st f (fnOf x x (defArgs st) (defBody st) (defScope st) .none kV doc pm an cdv ct):=
 ⟨FY l c k,(FY l c k).binds (fun kV doc pm an cdv ct us hl=>by obtain rfl:=qc4.mp hl;exact b kV doc pm an cdv ct),mg_of X G a⟩
end LS
namespace LS
open PySem PySem.Spec PyProof.Rows L2 PySem.W
end LS
namespace Tp
open PySem PySem.W PySem.Spec PySem.Calls PyProof.Rows
abbrev SQ:=List (Option (FuncData×Bool×Bool))×List (Option Int)×List (Option (Option Value))×Bool
noncomputable def ZeM (W:Want) (s:Shared):SQ:=fL (LJ s.heap) fun K=>
 (W.fs.map fun x=>JK K x.1,W.cs.map fun x=>JL K x.1,W.bs.map (nsIn K mainGlobals),true)
def ZeN (W:Want):SQ:=(W.fs.map fun x=>some (LM x.1 x.2,true,true),W.cs.map fun x=>some x.2,W.bs.map fun _=>some none,true)
inductive SS (W:Want) (K:Frag):Prop where
 |mk (fs:∀(i:Nat) n st,W.fs[i]?=some (n,st)→LN K n st) (cs:∀(i:Nat) n v,W.cs[i]?=some (n,v)→∃t,nsIn K mainGlobals n=some (some (.int v t))) (bs:∀(i:Nat) n,W.bs[i]?=some n→nsIn K mainGlobals n=some none)
  (et:True):SS W K
def Says0 (W:Want) (_:World) (h:Heap):Prop:=∃K:Frag,K.In h∧SS W K
theorem Says0.keeps {W:Want} (w:World) (h h':Heap) (x:Says0 W w h) (k:∀b o,h.get? b=some o→h'.get? b=some o):Says0 W w h':=by
 obtain ⟨K,h1,h2⟩:=x
 exact ⟨K,h1.keeps k,h2⟩
end Tp
namespace LS
open PySem PySem.W PySem.Spec PySem.Calls PyProof.Rows L2
end LS
namespace LS
open PySem PySem.Spec PyProof.Rows L2
def Zb:D→HD→Out D:=fun x h=>match x with
 |.loc l=>(match h[l]? with
  |some (.lst ds)=>CI ds.reverse h
  |_=>.stuck)
 |_=>.stuck
def ZeO (f:ME):ME:=fun ρ h=>(f ρ h).bind Zb
section
variable {X:Cx} {E:XK} {e:Expr} {f:ME}
end
def IC:D→D→HD→Out D:=fun x y h=>match x with
 |.exc _ _=>.stuck
 |.edic=>.stuck
 |_=>AC x y h
section
variable {h:HD} {y:D} {i:Int} {b:Bool} {x:Str} {ds:List D} {l:Nat}
@[simp] theorem ZeP:IC (.int i) y h=AC (.int i) y h:=rfl
@[simp] theorem ZeQ:IC (.bl b) y h=AC (.bl b) y h:=rfl
@[simp] theorem ZeR:IC .non y h=AC .non y h:=rfl
@[simp] theorem ZeS:IC (.str x) y h=AC (.str x) y h:=rfl
@[simp] theorem ZeT:IC (.tup ds) y h=AC (.tup ds) y h:=rfl
@[simp] theorem ZeU:IC (.loc l) y h=AC (.loc l) y h:=rfl
end
end LS
namespace LS
open PySem PySem.Spec PyProof.Rows L2 PySem.W PySem.Calls
def ID:D→D→HD→Out D:=fun x y h=>match x,y with
 |.loc l,.loc k=>(match h[l]?,h[k]? with
  |some (.lst ds),some (.lst es)=>if ds.length+es.length≤sizeLine then .ok .non (h.set l (.lst (ds++es))) else .stuck
  |_,_=>.stuck)
 |_,_=>.stuck
section
variable {X:Cx} {E:XK}
def IE (f g:ME):ME:=fun ρ h=>((f ρ h).bind BW).bind fun x h1=>(g ρ h1).bind fun y h2=>ID x y h2
theorem Zc {o e:Expr} {f g:ME} {apos cpos:Pos} (ho:Ev X E o f) (he:Ev X E e g)
 (hbase:attributeBase o "extend" X.env (eval o X.env)=eval o X.env:=by rfl)
 (hfew:((backTo cpos (starEach [e] X.env)).all (fun x=>!x.1)&&(backToKw cpos (keywordEach [] X.env)).all (fun x=>x.1.isSome)
  &&decide ([e].length+([]:List Keyword).length+(if ([]:List Keyword).isEmpty then 0 else 1)<30))=true:=by rfl)
 (hline:(apos.endLine==cpos.line)=true:=by rfl) (hs:starEach [e] X.env=(false,eval e X.env)::starEach [] X.env:=by rfl) (hplain:(backTo cpos (starEach [] X.env)).any (·.1)=false:=by rfl):
 Ev X E (.Call (.Attribute o "extend" apos) [e] [] cpos) (IE f g):=
 B3 (PL PySem.F.plainAttrs_list PySem.F.slot_list_extend PySem.F.type_list_extend VG ho (Ad he Af hs) hbase hfew hline hs hplain) fun σ H Q z1_=>by
  obtain ⟨m,ρ,h,hr,er,p⟩:=z1_
  refine ⟨m,ρ,h,hr,er,?_⟩
  unfold IE at p
  rw [Out.bind_assoc] at p
  refine Post.bind p fun x h1 v m1 H1 eo p1 k1 hr1 r1 q1=>?_
  clear eo
  unfold BW at q1
  split at q1
  ·rename_i l
   split at q1
   ·rename_i ds el
    simp only [Out.bind_ok] at q1
    have r1':=r1
    simp only [rD,DV] at r1'
    obtain ⟨a,rfl,ha⟩:=r1'
    obtain ⟨ws,hv,dv⟩:=hr1.cells l _ a el ha
    refine ⟨.inl ⟨rfl,ws,SqL.of hv⟩,m1,ρ,h1,hr1,er.keep p1 k1,?_⟩
    have q2:Post X.K (rD X.K) m1 H1 E Q ((Aa g Ac ρ h1).bind fun ys h2=>match ys with
     |[y]=>ID (.loc l) y h2
     |_=>.stuck):=by
     unfold Aa Ac
     rw [Out.bind_assoc]
     exact q1
    refine Post.bind q2 fun ys h2 vs m2 H2 eo p2 k2 hr2 r2 q3=>?_
    clear eo
    split at q3
    ·rename_i y
     simp only [DP,DVs] at r2
     obtain ⟨yv,w,rfl,ry,rfl⟩:=r2
     unfold ID at q3
     split at q3
     ·rename_i l' k el'
      cases el'
      split at q3
      ·rename_i ds2 zs el2 ek2
       split at q3
       ·rename_i hz
        have ha2:=HH p2 ha
        obtain ⟨ws2,hv2,dv2⟩:=hr2.cells _ _ a el2 ha2
        simp only [DV] at ry
        obtain ⟨b,rfl,hb⟩:=ry
        obtain ⟨zs2,hz2,dz2⟩:=hr2.cells _ _ b ek2 hb
        refine ⟨a,b,ws2,zs2,rfl,rfl,hv2,hz2,by rw [←dv2.len,←dz2.len];exact hz,?_⟩
        refine q3 .non m2 _ (AH _) (.set hv2 rfl) (hr2.setCell ha2 hv2 rfl ⟨_,Bo,?_⟩) (by simp [rD,DV])
        exact (dv2.app dz2).keep (AH _) (.set hv2 rfl)
       ·exact q3.elim
      ·exact q3.elim
     ·exact q3.elim
    ·exact q3.elim
   ·exact q1.elim
  ·exact q1.elim
end
section
variable {f g:ME} {ρ:Ah} {h:HD} {Q:D→HD→Prop} {l k:Nat} {ds es:List D}
@[simp] theorem ZeV:Wp (IE f g ρ h) Q=Wp (f ρ h) fun x h1=>Wp (BW x h1) fun x h1=>Wp (g ρ h1) fun y h2=>Wp (ID x y h2) Q:=by unfold IE;simp only [Az]
theorem Zd (e:h[l]?=some (.lst ds)) (e':h[k]?=some (.lst es)) (hn:ds.length+es.length≤sizeLine):ID (.loc l) (.loc k) h=.ok .non (h.set l (.lst (ds++es))):=by
 simp only [ID,e,e']
 rw [if_pos hn]
end
end LS
set_option maxHeartbeats 0
namespace LK
open PySem PySem.Spec PyProof.Rows L2 LS
def Be (i:Nat):Stmt:=PySem.Challenge.pw_lineswitch_k51_worst_boards.main.body.getD i (.Pass ⟨0,0,0,0⟩)
structure Bl (mg:Str→Option Value):Prop where
 n_ValueError:mg "ValueError"=none
 n_all:mg "all"=none
 n_bool:mg "bool"=none
 n_divmod:mg "divmod"=none
 n_enumerate:mg "enumerate"=none
 n_int:mg "int"=none
 n_isinstance:mg "isinstance"=none
 n_len:mg "len"=none
 n_list:mg "list"=none
 n_max:mg "max"=none
 n_min:mg "min"=none
 n_range:mg "range"=none
 n_repr:mg "repr"=none
 n_str:mg "str"=none
 n_sum:mg "sum"=none
 n_tuple:mg "tuple"=none
 n_zip:mg "zip"=none
theorem Ze:bootBuiltins "ValueError"=some (.type "ValueError"):=by decide +kernel
theorem Oq:bootBuiltins "all"=some (.builtin "all"):=by decide +kernel
theorem Zf:bootBuiltins "bool"=some (.type "bool"):=by decide +kernel
theorem Zg:bootBuiltins "divmod"=some (.builtin "divmod"):=by decide +kernel
theorem Zh:bootBuiltins "int"=some (.type "int"):=by decide +kernel
theorem DA:bootBuiltins "isinstance"=some (.builtin "isinstance"):=by decide +kernel
theorem DB:bootBuiltins "len"=some (.builtin "len"):=by decide +kernel
theorem Zi:bootBuiltins "list"=some (.type "list"):=by decide +kernel
theorem JN:bootBuiltins "max"=some (.builtin "max"):=by decide +kernel
theorem JO:bootBuiltins "min"=some (.builtin "min"):=by decide +kernel
theorem Gq:bootBuiltins "repr"=some (.builtin "repr"):=by decide +kernel
theorem Zj:bootBuiltins "str"=some (.type "str"):=by decide +kernel
theorem LQ:bootBuiltins "sum"=some (.builtin "sum"):=by decide +kernel
theorem JP:bootBuiltins "tuple"=some (.type "tuple"):=by decide +kernel
abbrev JQ:Stmt:=Be 47
theorem SU:RU JQ:=⟨⟨rfl,rfl,rfl,by decide +kernel,rfl,by decide +kernel,by decide +kernel⟩,rfl,rfl,rfl,rfl,rfl,⟨_,_,_,_,_,_,_,_,_,_,_,_,_,_,_,_,_,rfl⟩⟩
abbrev D3:Stmt:=match Be 11 with
 |.ClassDef _ _ _ b _ _ _ _ _ _ _=>b.getD 0 (.Pass ⟨0,0,0,0⟩)
 |_=>.Pass ⟨0,0,0,0⟩
theorem Zk:AV ["self","many","most"] ["self","many","most"] (defScope D3):=⟨rfl,rfl,rfl,by decide +kernel,rfl,by decide +kernel,by decide +kernel⟩
theorem Zl {P:Program} {w:World} {K:PySem.W.Frag} {mg:Str→Option Value} {base:Heap} {C S f:Addr} {od an:Option Addr} {sl:Array (Option Value)} {kV dc pm cd ct:Value} (nC:PySem.W.nsIn K mainGlobals "TooMany"=some (some (.ref C))) (nS:PySem.W.nsIn K mainGlobals "SwitchError"=some (some (.ref S)))
 (l:K.lookup f=some ⟨.type "function",od,.func (PySem.W.fnOf "__init__" "TooMany.__init__" (defArgs D3) (defBody D3) (defScope D3) .none kV dc pm an cd ct),sl⟩) (c:PySem.W.codeIn K cd "TooMany.__init__"=true) (tm:tmX K C f=true) (sw:swX K S=true) (kp:PySem.W.keepIn K (.ref C)=true):
 SL P w K mg base C f (PySem.W.fnOf "__init__" "TooMany.__init__" (defArgs D3) (defBody D3) (defScope D3) .none kV dc pm an cd ct) ⟨.type "function",od,.func (PySem.W.fnOf "__init__" "TooMany.__init__" (defArgs D3) (defBody D3) (defScope D3) .none kV dc pm an cd ct),sl⟩:=
 ⟨tm,YQ l c Zk tm sw nS (fun _ _ _ _ _=>rfl) (fun A outer s H E=>Ad (Ae (pv 0)) (Ad (RP (Lr (Ae (pv 1)) (Lq (Lr (Ae (pv 2)) RO)))) Af)) (fun env pl e=>by subst e;rfl) (fun _=>rfl) (fun _=>rfl) (fun _=>rfl) (fun _=>rfl) (fun _=>rfl) (.inl rfl) (.inl rfl) (.inl rfl),
  Binds.all (fun us hl=>by match us,hl with |[a,b,d],_=>rfl),l,rfl,kp,nC⟩
abbrev GT:Stmt:=Be 14
theorem Zm:AV ["thing"] ["thing"] (defScope GT):=⟨rfl,rfl,rfl,by decide +kernel,rfl,by decide +kernel,by decide +kernel⟩
noncomputable abbrev JR:MS:=AL (FZ (Ag (Bq AC) (Aa (Ab 0) (Aa (mC (.ty "int")) (Ac)))) (KI (Ag (Bq AC) (Aa (Ab 0) (Aa (mC (.ty "bool")) (Ac))))))
abbrev GU:Stmt:=Be 17
theorem Zn:AV ["thing"] ["thing"] (defScope GU):=⟨rfl,rfl,rfl,by decide +kernel,rfl,by decide +kernel,by decide +kernel⟩
noncomputable abbrev Ot:MS:=AL (FZ (Ag (Bq AC) (Aa (Ab 0) (Aa (mC (.ty "tuple")) (Ac)))) (HM Jj Jj (mC (.int 1)) (Ag (An Bm) (Aa (Ab 0) (Ac))) (mC (.int 8))))
abbrev GV:Stmt:=Be 27
theorem Zo:AV ["counts","row"] ["counts","row"] (defScope GV):=⟨rfl,rfl,rfl,by decide +kernel,rfl,by decide +kernel,by decide +kernel⟩
noncomputable abbrev Ou:MS:=AL (Ag (An Ds) (Aa (AB [none,none] (GO (Aa (Ab 0) (Aa (Ab 1) (Ac)))) (BV 0 1) (AN) (Ai B4 (Ai AA (Ab 0) (mC (.int 1))) (Ai BY (mC (.int 2)) (Ab 1)))) (Ac)))
abbrev GW:Stmt:=Be 29
theorem Zp:AV ["counts","high"] ["counts","high"] (defScope GW):=⟨rfl,rfl,rfl,by decide +kernel,rfl,by decide +kernel,by decide +kernel⟩
noncomputable abbrev Ov:MS:=AL (Ag (An Du) (Aa (AB [none,some 1] (AR (Ab 0)) (AG 0) (AN) (Ag (Bq F6) (Aa (Ab 0) (Aa (Ai B4 (Ab 1) (Ab 0)) (Ac))))) (Ac)))
abbrev GX:Stmt:=Be 34
theorem sc_rising_rows:AV ["start","many","rows","place"] ["start","many"] (defScope GX):=⟨rfl,rfl,rfl,by decide +kernel,rfl,by decide +kernel,by decide +kernel⟩
noncomputable abbrev Ow:MS:=Aj (Aq 2 (AZ (Aa (Ab 0) (Ac)))) (Aj (Bw (CY (Aa (Ab 1) (Ac))) (AG 3) (Aq 2 (E7 [none,none] (AR (Ab 2)) (AG 0) (AN) (Gm (AR (A1 (Aa (mC (.int 0)) (Aa (mC (.int 1)) (Ac))))) (AG 1) (AN) (FL (Ai AA (Ab 0) (A1 (Aa (Ab 1) (Ac))))))))) (AL (Ab 2)))
abbrev GY:Stmt:=Be 42
theorem Zq:AV ["_law_script","_law_k"] ["_law_script","_law_k"] (defScope GY):=⟨rfl,rfl,rfl,by decide +kernel,rfl,by decide +kernel,by decide +kernel⟩
noncomputable abbrev LR:MS:=Aj (Bv (Bu (Ai KP (Ab 1) (Ag (An Bm) (Aa (Ab 0) (Ac))))) (AL (Ai AY (Ab 0) (Ab 1))) (BH)) (AL (Ai AA (Ai BY (mC (.int 6151)) (Ab 1)) (mC (.int 29))))
abbrev GZ:Stmt:=Be 43
theorem sc__law_mix:AV ["_law_cell_here","_law_k","_law_number"] ["_law_cell_here","_law_k"] (defScope GZ):=⟨rfl,rfl,rfl,by decide +kernel,rfl,by decide +kernel,by decide +kernel⟩
noncomputable abbrev Ox:MS:=Aj (Aq 2 (Ai AA (Ai BY (Ai AA (Ab 0) (mC (.int 1))) (mC (.int 40692))) (Ai BY (mC (.int 104729)) (Ab 1)))) (Aj (Aq 2 (Ai AA (Ai GH (Ai BY (Ab 2) (Ab 2)) (mC (.int 2147483399))) (Ab 1))) (AL (Ai GH (Ai BY (Ab 2) (Ai AA (Ab 2) (mC (.int 31)))) (mC (.int 2147483563)))))
abbrev G0:Stmt:=Be 45
theorem sc__law_take:AV ["_law_box_here","_law_many","_law_left_here","_law_digit"] ["_law_box_here","_law_many"] (defScope G0):=⟨rfl,rfl,rfl,by decide +kernel,rfl,by decide +kernel,by decide +kernel⟩
noncomputable abbrev Oy:MS:=Aj (F7 (BV 2 3) (Ag (Bq Jm) (Aa (Ai AY (Ab 0) (mC (.int 0))) (Aa (Ab 1) (Ac))))) (Aj (K3 (Ab 0) (mC (.int 0)) (Ab 2)) (AL (Ab 3)))
abbrev G1:Stmt:=Be 46
theorem sc__law_kind:AV ["_law_e","_law_kinds","_law_words"] ["_law_e"] (defScope G1):=⟨rfl,rfl,rfl,by decide +kernel,rfl,by decide +kernel,by decide +kernel⟩
noncomputable abbrev LU:MS:=Aj (Aq 1 (AZ (Aa (Ag (Bq AC) (Aa (Ab 0) (Aa (mC (.glo "NoBoard")) (Ac)))) (Aa (Ag (Bq AC) (Aa (Ab 0) (Aa (mC (.glo "NoLine")) (Ac)))) (Aa (Ag (Bq AC) (Aa (Ab 0) (Aa (mC (.glo "NoSwitching")) (Ac)))) (Aa (Ag (Bq AC) (Aa (Ab 0) (Aa (mC (.glo "NoNumber")) (Ac)))) (Ac))))))) (Aj (Aq 1 (Ai AA (Ab 1) (AZ (Aa (Ag (Bq AC) (Aa (Ab 0) (Aa (mC (.glo "Unlike")) (Ac)))) (Aa (Ag (Bq AC) (Aa (Ab 0) (Aa (mC (.glo "NoNet")) (Ac)))) (Aa (Ag (Bq AC) (Aa (Ab 0) (Aa (mC (.glo "NoPlace")) (Ac)))) (Aa (Ag (Bq AC) (Aa (Ab 0) (Aa (mC (.glo "NoText")) (Ac)))) (Ac)))))))) (Aj (Aq 1 (Ai AA (Ab 1) (AZ (Aa (Ag (Bq AC) (Aa (Ab 0) (Aa (mC (.glo "NoRow")) (Ac)))) (Aa (Ag (Bq AC) (Aa (Ab 0) (Aa (mC (.glo "TooMany")) (Ac)))) (Ac)))))) (Aj (Bv (GG (EU (Ed (Ag (Bq AC) (Aa (Ab 0) (Aa (mC (.ty "ValueError")) (Ac)))))) (Bu (Ai Cy (FE BW E4 (Ab 1) (mC (.bl true))) (mC (.int 1))))) (AL (mC (.str "! other"))) (BH)) (Aj (Bv (Ed (Ai AY (Ab 1) (mC (.int 9)))) (AL (Ai AA (Ai AA (Ai AA (mC (.str "! many ")) (Ag (An BN) (Aa (JI (Ab 0) "many") (Ac)))) (mC (.str " "))) (Ag (An BN) (Aa (JI (Ab 0) "most") (Ac))))) (BH)) (Aj (Aq 2 (AZ (Aa (mC (.str "board")) (Aa (mC (.str "line")) (Aa (mC (.str "switching")) (Aa (mC (.str "number")) (Aa (mC (.str "unlike")) (Aa (mC (.str "net")) (Aa (mC (.str "place")) (Aa (mC (.str "text")) (Aa (mC (.str "row")) (Ac)))))))))))) (AL (Ai AA (mC (.str "! ")) (Ai AY (Ab 2) (FE BW GQ (Ab 1) (mC (.bl true)))))))))))
abbrev G2:Stmt:=Be 48
theorem sc__law_ones:AV ["_law_found","_law_number"] [] (defScope G2):=⟨rfl,rfl,rfl,by decide +kernel,rfl,by decide +kernel,by decide +kernel⟩
noncomputable abbrev Oz:MS:=Aj (Aq 0 (AZ (Aa (mC (.int 0)) (Ac)))) (Aj (Bw (EY (Aa (mC (.int 1)) (Aa (mC (.int 256)) (Ac)))) (AG 1) (Ce (Fz (Ab 0) (Ai AA (Ai AY (Ab 0) (Ai Jn (Ab 1) (mC (.int 2)))) (Ai GH (Ab 1) (mC (.int 2))))))) (AL (Ab 0)))
abbrev G3:Stmt:=Be 49
theorem sc__law_forms:AV ["_law_high","_law_wide","_law_lines","_law_place","_law_longer","_law_line","_law_boards","_law_row","_law_board"] ["_law_high","_law_wide"] (defScope G3):=⟨rfl,rfl,rfl,by decide +kernel,rfl,by decide +kernel,by decide +kernel⟩
noncomputable abbrev LV:MS:=Aj (Aq 2 (AZ (Aa (A1 (Aa (mC (.int 0)) (Ac))) (Ac)))) (Aj (Bw (EY (Aa (mC (.int 1)) (Aa (Ab 1) (Ac)))) (AG 3) (Aj (Aq 4 (AZ (Ac))) (Aj (Bw (AR (Ab 2)) (AG 5) (Aq 4 (Ai AA (Ab 4) (AZ (Aa (Ai AA (Ab 5) (A1 (Aa (mC (.int 0)) (Ac)))) (Aa (Ai AA (Ab 5) (A1 (Aa (mC (.int 1)) (Ac)))) (Ac))))))) (Aq 2 (Ab 4))))) (Aj (Aq 6 (AZ (Aa (A1 (Aa (Ai BY (A1 (Aa (mC (.int 0)) (Ac))) (Ab 1)) (Ac))) (Ac)))) (Aj (Bw (EY (Aa (mC (.int 1)) (Aa (Ab 0) (Ac)))) (AG 7) (Aj (Aq 4 (AZ (Ac))) (Aj (Bw (AR (Ab 6)) (AG 8) (Ce (IE (Ab 4) (AB [none,some 8] (AR (Ab 2)) (AG 0) (AN) (Ai AA (Ab 1) (A1 (Aa (Ab 0) (Ac)))))))) (Aq 6 (Ab 4))))) (AL (Ab 6)))))
abbrev G4:Stmt:=Be 50
theorem sc__law_left:AV ["_law_board","_law_ones_here","_law_lines","_law_size","_law_masks","_law_found","_law_lot","_law_counts"] ["_law_board","_law_ones_here"] (defScope G4):=⟨rfl,rfl,rfl,by decide +kernel,rfl,by decide +kernel,by decide +kernel⟩
noncomputable abbrev LW:MS:=Aj (Aq 2 (AB [none] (AR (Ab 0)) (AG 0) (AN) (Ag (An listOfD) (Aa (Ab 0) (Ac))))) (Aj (Bv (Bu (Ai KP (Ag (An Bm) (Aa (Ab 0) (Ac))) (Ag (An Bm) (Aa (Ai AY (Ab 0) (mC (.int 0))) (Ac))))) (Aq 2 (AB [none,some 0] (CY (Aa (Ag (An Bm) (Aa (Ai AY (Ab 0) (mC (.int 0))) (Ac))) (Ac))) (AG 0) (AN) (AB [none,some 0] (AR (Ab 1)) (AG 0) (AN) (Ai AY (Ab 0) (Ab 1))))) (BH)) (Aj (Aq 3 (Ag (An Bm) (Aa (Ai AY (Ab 2) (mC (.int 0))) (Ac)))) (Aj (Aq 4 (AB [none] (AR (Ab 2)) (AG 0) (AN) (Ag (An Du) (Aa (AB [none,none] (JB (Aa (Ab 0) (Ac))) (BV 0 1) (AN) (Ai F4 (Ab 1) (Ab 0))) (Ac))))) (Aj (Aq 5 (AZ (Ac))) (Aj (Bw (CY (Aa (Ai F4 (mC (.int 1)) (Ai B4 (Ab 3) (mC (.int 1)))) (Ac))) (AG 6) (Aj (Aq 7 (AB [none,some 1,some 6] (AR (Ab 4)) (AG 0) (AN) (Ai AY (Ab 1) (Ai On (Ab 0) (Ab 2))))) (Ce (Fz (Ab 5) (Ag (An Du) (Aa (AB [none,some 3] (AR (Ab 7)) (AG 0) (AN) (Ag (Bq F6) (Aa (Ab 0) (Aa (Ai B4 (Ab 1) (Ab 0)) (Ac))))) (Ac))))))) (AL (Ag (An (Cw En)) (Aa (Ab 5) (Ac)))))))))
abbrev G5:Stmt:=Be 15
theorem Zr:AV ["thing","least","most"] ["thing","least","most"] (defScope G5):=⟨rfl,rfl,rfl,by decide +kernel,rfl,by decide +kernel,by decide +kernel⟩
noncomputable abbrev JS (Df:List D→HD→Out D):MS:=AL (FZ (Ag Df (Aa (Ab 0) (Ac))) (HM Jj Jj (Ab 1) (Ab 0) (Ab 2)))
abbrev G6:Stmt:=Be 35
theorem sc_all_forms:AV ["high","wide","rows","forms","number"] ["high","wide"] (defScope G6):=⟨rfl,rfl,rfl,by decide +kernel,rfl,by decide +kernel,by decide +kernel⟩
noncomputable abbrev OA (Fe:List D→HD→Out D):MS:=Aj (Aq 2 (Ag Fe (Aa (A1 (Aa (mC (.int 0)) (Ac))) (Aa (Ai B4 (Ab 1) (mC (.int 1))) (Ac))))) (Aj (Aq 3 (AZ (Aa (A1 (Aa (Ai BY (A1 (Aa (mC (.int 0)) (Ac))) (Ab 1)) (Ac))) (Ac)))) (Aj (Bw (EY (Aa (mC (.int 1)) (Aa (Ab 0) (Ac)))) (AG 4) (Aq 3 (E7 [none,none,some 2] (AR (Ab 3)) (AG 0) (AN) (Gm (AR (Ab 2)) (AG 1) (AN) (FL (Ai AA (Ab 0) (A1 (Aa (Ab 1) (Ac))))))))) (AL (Ab 3))))
abbrev G7:Stmt:=Be 44
theorem sc__law_box:AV ["_law_script","_law_k","_law_here","_law_number","_law_j"] ["_law_script","_law_k"] (defScope G7):=⟨rfl,rfl,rfl,by decide +kernel,rfl,by decide +kernel,by decide +kernel⟩
noncomputable abbrev OB (Ff:List D→HD→Out D) (Fg:List D→HD→Out D):MS:=Aj (Aq 2 (Ag Ff (Aa (Ab 0) (Aa (Ab 1) (Ac))))) (Aj (Bv (Bu (Ai DY (Ai GH (Ab 2) (mC (.int 2))) (mC (.int 0)))) (AL (AZ (Aa (Ai Jn (Ab 2) (mC (.int 2))) (Ac)))) (BH)) (Aj (Aq 3 (mC (.int 0))) (Aj (Bw (CY (Aa (mC (.int 24)) (Ac))) (AG 4) (Aq 3 (Ai AA (Ai BY (Ab 3) (mC (.int 2147483647))) (Ag Fg (Aa (Ab 2) (Aa (Ab 4) (Ac))))))) (AL (AZ (Aa (Ab 3) (Ac)))))))
abbrev G8:Stmt:=Be 16
theorem Zs:AV ["thing"] ["thing"] (defScope G8):=⟨rfl,rfl,rfl,by decide +kernel,rfl,by decide +kernel,by decide +kernel⟩
noncomputable abbrev OC (BZ:List D→HD→Out D):MS:=AL (Ag BZ (Aa (Ab 0) (Aa (mC (.int 0)) (Aa (mC (.int 1)) (Ac)))))
abbrev G9:Stmt:=Be 21
theorem Zt:AV ["thing","least","most"] ["thing","least","most"] (defScope G9):=⟨rfl,rfl,rfl,by decide +kernel,rfl,by decide +kernel,by decide +kernel⟩
noncomputable abbrev JT (BZ:List D→HD→Out D):MS:=Bv (EU (Ed (Ag BZ (Aa (Ab 0) (Aa (Ab 1) (Aa (Ab 2) (Ac))))))) (Ic "NoNumber" (Aa (Ip (FJ "a whole number from " (Gj (Ab 1) (FJ " to " (Gj (Ab 2) (FJ " was wanted" (GR))))))) (Ac))) (BH)
abbrev Ha:Stmt:=Be 18
theorem Zu:AV ["thing"] ["thing"] (defScope Ha):=⟨rfl,rfl,rfl,by decide +kernel,rfl,by decide +kernel,by decide +kernel⟩
noncomputable abbrev OD (Cq:List D→HD→Out D) (Fh:List D→HD→Out D):MS:=AL (FZ (Ag Cq (Aa (Ab 0) (Ac))) (Ag (An Eg) (Aa (AB [none] (AR (Ab 0)) (AG 0) (AN) (Ag Fh (Aa (Ab 0) (Ac)))) (Ac))))
abbrev Hb:Stmt:=Be 22
theorem Zv:AV ["high","wide"] ["high","wide"] (defScope Hb):=⟨rfl,rfl,rfl,by decide +kernel,rfl,by decide +kernel,by decide +kernel⟩
noncomputable abbrev LY (DD:List D→HD→Out D):MS:=Aj (Ce (Ag DD (Aa (Ab 0) (Aa (mC (.int 1)) (Aa (mC (.int 8)) (Ac)))))) (Ce (Ag DD (Aa (Ab 1) (Aa (mC (.int 1)) (Aa (mC (.int 8)) (Ac))))))
abbrev Hc:Stmt:=Be 19
theorem Zw:AV ["thing"] ["thing"] (defScope Hc):=⟨rfl,rfl,rfl,by decide +kernel,rfl,by decide +kernel,by decide +kernel⟩
noncomputable abbrev OE (Cq:List D→HD→Out D) (Fi:List D→HD→Out D):MS:=Aj (Bv (GG (EU (Ed (Ag Cq (Aa (Ab 0) (Ac))))) (EU (Ed (Ag (An Eg) (Aa (AB [none] (AR (Ab 0)) (AG 0) (AN) (Ag Fi (Aa (Ab 0) (Ac)))) (Ac)))))) (AL (mC (.bl false))) (BH)) (AL (Ag (An Eg) (Aa (AB [none,some 0] (AR (Ab 0)) (AG 0) (AN) (Ai DY (Ag (An Bm) (Aa (Ab 0) (Ac))) (Ag (An Bm) (Aa (Ai AY (Ab 1) (mC (.int 0))) (Ac))))) (Ac))))
abbrev Hd:Stmt:=Be 33
theorem sc_need_small_size:AV ["high","wide","free"] ["high","wide"] (defScope Hd):=⟨rfl,rfl,rfl,by decide +kernel,rfl,by decide +kernel,by decide +kernel⟩
noncomputable abbrev IF (Dg:List D→HD→Out D):MS:=Aj (Ce (Ag Dg (Aa (Ab 0) (Aa (Ab 1) (Ac))))) (Aj (Aq 2 (Ai BY (Ai B4 (Ab 0) (mC (.int 1))) (Ai B4 (Ab 1) (mC (.int 1))))) (Bv (Bu (Ai HQ (Ab 2) (mC (.int 9)))) (Iz (Aa (Ab 2) (Aa (mC (.int 9)) (Ac)))) (BH)))
abbrev He:Stmt:=Be 20
theorem Zx:AV ["thing"] ["thing"] (defScope He):=⟨rfl,rfl,rfl,by decide +kernel,rfl,by decide +kernel,by decide +kernel⟩
noncomputable abbrev OF (Fj:List D→HD→Out D):MS:=Bv (EU (Ed (Ag Fj (Aa (Ab 0) (Ac))))) (Ic "NoBoard" (Aa (mC (.str "this is no board")) (Ac))) (BH)
abbrev Hf:Stmt:=Be 23
theorem Zy:AV ["board"] ["board"] (defScope Hf):=⟨rfl,rfl,rfl,by decide +kernel,rfl,by decide +kernel,by decide +kernel⟩
noncomputable abbrev OG (Cg:List D→HD→Out D):MS:=Aj (Ce (Ag Cg (Aa (Ab 0) (Ac)))) (AL (Ag (An Ds) (Aa (AB [none] (AR (Ab 0)) (AG 0) (AN) (Ag (An Du) (Aa (Ab 0) (Ac)))) (Ac))))
abbrev Hg:Stmt:=Be 25
theorem Zz:AV ["board"] ["board"] (defScope Hg):=⟨rfl,rfl,rfl,by decide +kernel,rfl,by decide +kernel,by decide +kernel⟩
noncomputable abbrev OH (Cg:List D→HD→Out D):MS:=Aj (Ce (Ag Cg (Aa (Ab 0) (Ac)))) (AL (Ag (An Ds) (Aa (AB [none,some 0] (CY (Aa (Ag (An Bm) (Aa (Ai AY (Ab 0) (mC (.int 0))) (Ac))) (Ac))) (AG 0) (AN) (Ag (An Ds) (Aa (AB [none,some 0] (AR (Ab 1)) (AG 0) (AN) (Ai AY (Ab 0) (Ab 1))) (Ac)))) (Ac))))
abbrev Hh:Stmt:=Be 24
theorem ZA:AV ["board"] ["board"] (defScope Hh):=⟨rfl,rfl,rfl,by decide +kernel,rfl,by decide +kernel,by decide +kernel⟩
noncomputable abbrev OI (Cr:List D→HD→Out D) (Fo:List D→HD→Out D):MS:=AL (Ag Fo (Aa (Ag Cr (Aa (Ab 0) (Ac))) (Ac)))
abbrev Hi:Stmt:=Be 28
theorem sc_lots_with_counts:AV ["board","found","number"] ["board"] (defScope Hi):=⟨rfl,rfl,rfl,by decide +kernel,rfl,by decide +kernel,by decide +kernel⟩
noncomputable abbrev OJ (Fp:List D→HD→Out D) (Fc:List D→HD→Out D):MS:=Aj (Aq 1 (AZ (Aa (A1 (Aa (A1 (Ac)) (Aa (Ag Fp (Aa (Ab 0) (Ac))) (Ac)))) (Ac)))) (Aj (Bw (EY (Aa (mC (.int 1)) (Aa (Ag (An Bm) (Aa (Ab 0) (Ac))) (Ac)))) (AG 2) (Aq 1 (Ai AA (Ab 1) (AB [none,none,some 2,some 0] (AR (Ab 1)) (BV 0 1) (AN) (A1 (Aa (Ai AA (Ab 0) (A1 (Aa (Ab 2) (Ac)))) (Aa (Ag Fc (Aa (Ab 1) (Aa (Ai AY (Ab 3) (Ab 2)) (Ac)))) (Ac)))))))) (AL (Ab 1)))
abbrev Hj:Stmt:=Be 30
theorem ZC:AV ["board"] ["board"] (defScope Hj):=⟨rfl,rfl,rfl,by decide +kernel,rfl,by decide +kernel,by decide +kernel⟩
noncomputable abbrev OK (Dh:List D→HD→Out D) (Fd:List D→HD→Out D):MS:=AL (Ag (An (Cw En)) (Aa (AB [none,none,some 0] (AR (Ag Dh (Aa (Ab 0) (Ac)))) (BV 0 1) (AN) (Ag Fd (Aa (Ab 1) (Aa (Ag (An Bm) (Aa (Ab 2) (Ac))) (Ac))))) (Ac)))
abbrev Hk:Stmt:=Be 36
theorem ZD:AV ["form"] ["form"] (defScope Hk):=⟨rfl,rfl,rfl,by decide +kernel,rfl,by decide +kernel,by decide +kernel⟩
noncomputable abbrev OL (Cr:List D→HD→Out D) (Fq:List D→HD→Out D):MS:=AL (Ag Fq (Aa (KM (Bu (Ai HQ (Ag (An Bm) (Aa (Ab 0) (Ac))) (Ag (An Bm) (Aa (Ai AY (Ab 0) (mC (.int 0))) (Ac))))) (Ag Cr (Aa (Ab 0) (Ac))) (Ab 0)) (Ac)))
abbrev Hl:Stmt:=Be 37
theorem ZE:AV ["high","wide"] ["high","wide"] (defScope Hl):=⟨rfl,rfl,rfl,by decide +kernel,rfl,by decide +kernel,by decide +kernel⟩
noncomputable abbrev JU (DE:List D→HD→Out D) (BR:List D→HD→Out D) (D7:List D→HD→Out D):MS:=Aj (Ce (Ag DE (Aa (Ab 0) (Aa (Ab 1) (Ac))))) (AL (AB [none] (AR (Ag BR (Aa (Ab 0) (Aa (Ab 1) (Ac))))) (AG 0) (AN) (Ag D7 (Aa (Ab 0) (Ac)))))
abbrev Hm:Stmt:=Be 38
theorem ZF:AV ["high","wide"] ["high","wide"] (defScope Hm):=⟨rfl,rfl,rfl,by decide +kernel,rfl,by decide +kernel,by decide +kernel⟩
noncomputable abbrev JV (Bg:List D→HD→Out D):MS:=AL (Ag (An (Cw Eo)) (Aa (Ag Bg (Aa (Ab 0) (Aa (Ab 1) (Ac)))) (Ac)))
abbrev Hn:Stmt:=Be 39
theorem sc_worst_forms:AV ["high","wide","lefts","worst"] ["high","wide"] (defScope Hn):=⟨rfl,rfl,rfl,by decide +kernel,rfl,by decide +kernel,by decide +kernel⟩
noncomputable abbrev JW (Bg:List D→HD→Out D) (BR:List D→HD→Out D):MS:=Aj (Aq 2 (Ag Bg (Aa (Ab 0) (Aa (Ab 1) (Ac))))) (Aj (Aq 3 (Ag (An (Cw Eo)) (Aa (Ab 2) (Ac)))) (AL (AB [none,none,some 3] (GO (Aa (Ag BR (Aa (Ab 0) (Aa (Ab 1) (Ac)))) (Aa (Ab 2) (Ac)))) (BV 0 1) (Bu (Ai DY (Ab 1) (Ab 2))) (Ab 0))))
abbrev Ho:Stmt:=Be 40
theorem sc_form_counts:AV ["high","wide","lefts"] ["high","wide"] (defScope Ho):=⟨rfl,rfl,rfl,by decide +kernel,rfl,by decide +kernel,by decide +kernel⟩
noncomputable abbrev JX (Bg:List D→HD→Out D):MS:=Aj (Aq 2 (Ag Bg (Aa (Ab 0) (Aa (Ab 1) (Ac))))) (AL (AB [none,some 2] (CY (Aa (Ai AA (Ag (An (Cw Eo)) (Aa (Ab 2) (Ac))) (mC (.int 1))) (Ac))) (AG 0) (AN) (FE BW E4 (Ab 1) (Ab 0))))
abbrev s_law:Stmt:=Be 51
theorem sc_law:AV ["_law_script","_law_sizes","_law_ones_here","_law_k","_law_box_here","_law_high","_law_wide","_law_rows","_law_many","_law_worst","_law_due","_law_call","_law_kept","_law_found","_law_far","_law_more","_law_bad","_law_one","_law_other"] ["_law_script"] (defScope s_law):=⟨rfl,rfl,rfl,by decide +kernel,rfl,by decide +kernel,by decide +kernel⟩
noncomputable abbrev LZ (Es:List D→HD→Out D) (Ew:List D→HD→Out D) (B1:List D→HD→Out D) (DI:List D→HD→Out D) (Eu:List D→HD→Out D) (B0:List D→HD→Out D) (B2:List D→HD→Out D) (BS:List D→HD→Out D) (CL:List D→HD→Out D):MS:=Aj (Aq 1 (AZ (Fb [(4,4),(3,5),(5,3),(2,8),(8,2),(1,8),(8,1),(2,4),(4,3),(3,3),(2,2),(1,1),(4,2)]))) (Aj (Aq 1 (Ai AA (Ab 1) (AZ (Fb [(2,7),(6,2),(3,4),(1,5)])))) (Aj (Aq 2 (Ag Es (Ac))) (Aj (Bw (CY (Aa (Ag (Bq Jo) (Aa (mC (.int 1)) (Aa (Ag (Bq F6) (Aa (Ag (An Bm) (Aa (Ab 0) (Ac))) (Aa (mC (.int 2)) (Ac)))) (Ac)))) (Ac))) (AG 3) (Aj (Aq 4 (Ag Ew (Aa (Ab 0) (Aa (Ab 3) (Ac))))) (Aj (F7 (BV 5 6) (Ai AY (Ab 1) (Ag B1 (Aa (Ab 4) (Aa (mC (.int 17)) (Ac)))))) (Aj (Aq 7 (AB [none,some 2] (AR (Ag DI (Aa (Ab 5) (Aa (Ab 6) (Ac))))) (AG 0) (AN) (A1 (Aa (Ag Eu (Aa (Ab 0) (Aa (Ab 1) (Ac)))) (Aa (Ab 0) (Ac)))))) (Aj (Aq 8 (AB [none,none] (AR (Ab 7)) (BV 0 1) (AN) (Ab 0))) (Aj (Aq 9 (Ag (An (Cw Eo)) (Aa (Ab 8) (Ac)))) (Aj (Bv (Bu (Ai Cy (Ag (An BN) (Aa (Ag B0 (Aa (Ab 5) (Aa (Ab 6) (Ac)))) (Ac))) (Ag (An BN) (Aa (Ab 9) (Ac))))) (AL (mC (.bl false))) (BH)) (Aj (Aq 10 (AZ (Aa (AB [none,none,some 9] (AR (Ab 7)) (BV 0 1) (Bu (Ai DY (Ab 0) (Ab 2))) (Ab 1)) (Aa (AB [none,some 8] (CY (Aa (Ai AA (Ab 9) (mC (.int 1))) (Ac))) (AG 0) (AN) (FE BW E4 (Ab 1) (Ab 0))) (Ac))))) (Aj (Bw (GO (Aa (AZ (Aa (mC (.glo "worst_forms")) (Aa (mC (.glo "form_counts")) (Ac)))) (Aa (Ab 10) (Ac)))) (BV 11 12) (Aj (Aq 13 (DH [("worst_left",B0),("worst_forms",B2),("form_counts",BS)] (Ab 11) (Aa (Ab 5) (Aa (Ab 6) (Ac))))) (Aj (Bv (Bu (Ai Cy (Ag (An BN) (Aa (Ab 13) (Ac))) (Ag (An BN) (Aa (Ab 12) (Ac))))) (AL (mC (.bl false))) (BH)) (Ce (Fz (Ab 13) (mC .non)))))) (Aj (Bv (Bu (Ai Cy (Ag (An BN) (Aa (Ag BS (Aa (Ab 5) (Aa (Ab 6) (Ac)))) (Ac))) (Ag (An BN) (Aa (Ai AY (Ab 10) (mC (.int 1))) (Ac))))) (AL (mC (.bl false))) (BH)) (Aj (F7 (JE [14,15]) (A1 (Aa (Ai AA (mC (.int 2)) (Ag B1 (Aa (Ab 4) (Aa (mC (.int 7)) (Ac))))) (Aa (Ai AA (mC (.int 2)) (Ag B1 (Aa (Ab 4) (Aa (mC (.int 7)) (Ac))))) (Ac))))) (Aj (Aq 16 (Ai AY (AZ (Aa (mC (.int 0)) (Aa (mC (.int 9)) (Aa (K4 (mC (.int 1))) (Aa (mC (.bl true)) (Aa (mC .non) (Aa (mC (.str "3")) (Aa (A1 (Aa (mC (.int 3)) (Ac))) (Aa (Ai Jk (mC (.int 10)) (mC (.int 29))) (Aa (Ai AA (mC (.int 9)) (Ag B1 (Aa (Ab 4) (Aa (mC (.int 99)) (Ac))))) (Aa (AZ (Aa (mC (.int 2)) (Ac))) (Aa (mC (.bl false)) (Ac))))))))))))) (Ag B1 (Aa (Ab 4) (Aa (mC (.int 11)) (Ac)))))) (Bw (AR (AZ (Aa (mC (.glo "worst_left")) (Aa (mC (.glo "worst_forms")) (Aa (mC (.glo "form_counts")) (Ac)))))) (AG 11) (Aj (Bv (Bu (Ai HQ (Ai BY (Ai B4 (Ab 14) (mC (.int 1))) (Ai B4 (Ab 15) (mC (.int 1)))) (mC (.int 9)))) (Bv (Bu (Ai Cy (E5 [11,14,15] CL (DH [("worst_left",B0),("worst_forms",B2),("form_counts",BS)] (Ab 0) (Aa (Ab 1) (Aa (Ab 2) (Ac))))) (Ai AA (Ai AA (mC (.str "! many ")) (Ag (An strOfD) (Aa (Ai BY (Ai B4 (Ab 14) (mC (.int 1))) (Ai B4 (Ab 15) (mC (.int 1)))) (Ac)))) (mC (.str " 9"))))) (AL (mC (.bl false))) (BH)) (BH)) (Bw (AR (AZ (Aa (A1 (Aa (Ab 16) (Aa (mC (.int 8)) (Ac)))) (Aa (A1 (Aa (mC (.int 8)) (Aa (Ab 16) (Ac)))) (Aa (A1 (Aa (Ab 16) (Aa (Ab 16) (Ac)))) (Aa (A1 (Aa (Ab 16) (Aa (Ab 6) (Ac)))) (Ac))))))) (BV 17 18) (Bv (Bu (Ai Cy (E5 [11,17,18] CL (DH [("worst_left",B0),("worst_forms",B2),("form_counts",BS)] (Ab 0) (Aa (Ab 1) (Aa (Ab 2) (Ac))))) (mC (.str "! number")))) (AL (mC (.bl false))) (BH))))))))))))))))) (AL (mC (.bl true))))))
section
variable {P:Program} {w:World} {K:PySem.W.Frag} {mg:Str→Option Value} {base:Heap} (B:Bl mg) (et:etOk K=true) {CT fT:Addr} {fdT:FuncData} {oT:Obj} (TM:SL P w K mg base CT fT fdT oT)
include B et TM
theorem ZG (f:Addr) (cdv:Value) (A:Around) (outer:List Env) (s:Shared) (H:Hp) (E:XK) (hr:Room 0 (A.deeper (envOfC "is_whole" (defScope GT) s.heap.objs.size f cdv))):
 AQ (AI (As P w K) P w K mg base ["thing"] "is_whole" (defScope GT) f cdv A outer s H E) E (defBody GT) (JR):=
 Ax (A3 (KL (AK (Dx et) rfl B.n_isinstance DA (Ad (Ae (pv 0)) (Ad (K0 rfl B.n_int Zh) (Af)))) (KJ (VS (AK (Dx et) rfl B.n_isinstance DA (Ad (Ae (pv 0)) (Ad (K0 rfl B.n_bool Zf) (Af))))))))
theorem ZH {t_MOST_LINES:Tok} (m_MOST_LINES:mg "MOST_LINES"=some (.int 8 t_MOST_LINES)) (f:Addr) (cdv:Value) (A:Around) (outer:List Env) (s:Shared) (H:Hp) (E:XK) (hr:Room 0 (A.deeper (envOfC "is_line_tuple" (defScope GU) s.heap.objs.size f cdv))):
 AQ (AI (As P w K) P w K mg base ["thing"] "is_line_tuple" (defScope GU) f cdv A outer s H E) E (defBody GU) (Ot):=
 Ax (A3 (KL (AK (Dx et) rfl B.n_isinstance DA (Ad (Ae (pv 0)) (Ad (K0 rfl B.n_tuple JP) (Af)))) (KJ (P7 KQ KQ (Ap) (AK Dr rfl B.n_len DB (Ad (Ae (pv 0)) (Af))) (Je rfl m_MOST_LINES)))))
theorem ZJ (f:Addr) (cdv:Value) (A:Around) (outer:List Env) (s:Shared) (H:Hp) (E:XK) (hr:Room 0 (A.deeper (envOfC "counts_with_row" (defScope GV) s.heap.objs.size f cdv))):
 AQ (AI (As P w K) P w K mg base ["counts","row"] "counts_with_row" (defScope GV) f cdv A outer s H E) E (defBody GV) (Ou):=
 Ax (A3 (HP KV rfl B.n_tuple JP (Ad (B6 (Nc:=["count","light"]) (cs:=[none,none]) rfl (CSc.ok ⟨rfl,by decide +kernel,by kernel_rfl,by decide +kernel,rfl,by kernel_rfl⟩) (NB rfl B.n_zip (Ad (Ae (pv 0)) (Ad (Ae (pv 1)) (Af)))) (GI rfl rfl) (fun C D cells fp s₀ H₀ pins=>⟨Ei rfl (AF (i:=0) (show (["count","light"]:List Str).Nodup from by decide +kernel) rfl (by first|exact .inl rfl|exact .inr rfl) (by first|exact .inl rfl|exact .inr rfl)) (AF (i:=1) (show (["count","light"]:List Str).Nodup from by decide +kernel) rfl (by first|exact .inl rfl|exact .inr rfl) (by first|exact .inl rfl|exact .inr rfl)),BE,Ay Ee (Ay Br (Ae (pv 0)) (Ap)) (Ay DX (Ap) (Ae (pv 1)))⟩)) (Af))))
theorem ZK (f:Addr) (cdv:Value) (A:Around) (outer:List Env) (s:Shared) (H:Hp) (E:XK) (hr:Room 0 (A.deeper (envOfC "fewest_lit" (defScope GW) s.heap.objs.size f cdv))):
 AQ (AI (As P w K) P w K mg base ["counts","high"] "fewest_lit" (defScope GW) f cdv A outer s H E) E (defBody GW) (Ov):=
 Ax (A3 (AK (K2 rfl) rfl B.n_sum LQ (Ad (B6 (Nc:=["count","high"]) (cs:=[none,some 1]) rfl (CSc.ok ⟨rfl,by decide +kernel,by kernel_rfl,by decide +kernel,rfl,by kernel_rfl⟩) (BI (Ae (pv 0))) (Cp rfl) (fun C D cells fp s₀ H₀ pins=>⟨AF (i:=0) (show (["count","high"]:List Str).Nodup from by decide +kernel) rfl (by first|exact .inl rfl|exact .inr rfl) (by first|exact .inl rfl|exact .inr rfl),BE,AK (M0 rfl) rfl B.n_min JO (Ad (Ae (pv 0)) (Ad (Ay Ee (Ae (pv 1)) (Ae (pv 0))) (Af)))⟩)) (Af))))
theorem ZL (f:Addr) (cdv:Value) (A:Around) (outer:List Env) (s:Shared) (H:Hp) (E:XK) (hr:Room 0 (A.deeper (envOfC "rising_rows" (defScope GX) s.heap.objs.size f cdv))):
 AQ (AI (As P w K) P w K mg base ["start","many","rows","place"] "rising_rows" (defScope GX) f cdv A outer s H E) E (defBody GX) (Ow):=
 Av (A6 (i:=2) sc_rising_rows.nd rfl (by first|exact .inl rfl|exact .inr rfl) (BQ (Ad (Ae (pv 0)) (Af)))) (Av (Dt Dw rfl (Ga rfl B.n_range (Ad (Ae (pv 1)) (Af))) (DQ (AF (i:=3) (sc_rising_rows.nd) rfl (by first|exact .inl rfl|exact .inr rfl) (by first|exact .inl rfl|exact .inr rfl))) (Ax (SO (i:=2) (Nc:=["row","light"]) (cs:=[none,none]) (is:=[0]) (js:=[1]) rfl sc_rising_rows.nd rfl (by first|exact .inl rfl|exact .inr rfl) (CSc.ok ⟨rfl,by decide +kernel,by kernel_rfl,by decide +kernel,rfl,by kernel_rfl⟩) (BI (Ae (pv 2))) (fun g e=>by cases e<;>rfl) (by decide) (Ly (i:=0) (js:=[1]) (by decide)) (fun C D cells fp s₀ H₀ pins ao=>⟨AF (i:=0) (show (["row","light"]:List Str).Nodup from by decide +kernel) rfl (by first|exact .inl rfl|exact .inr rfl) (by first|exact .inl rfl|exact .inr rfl),BE,Sl (is:=[1]) (js:=[]) rfl rfl rfl (fun g e=>by cases e<;>rfl) (BI (BP (Ad (Ap) (Ad (Ap) (Af))))) (AF (i:=1) (show (["row","light"]:List Str).Nodup from by decide +kernel) rfl (by first|exact .inl rfl|exact .inr rfl) (by first|exact .inl rfl|exact .inr rfl)) (Ly (i:=1) (js:=[]) (by decide)) (BE) (Sk ao rfl rfl (Ay Br (Ae (pv 0)) (BP (Ad (Ae (pv 1)) (Af)))))⟩)))) (Ax (A3 (Ae (pv 2)))))
theorem ZM (f:Addr) (cdv:Value) (A:Around) (outer:List Env) (s:Shared) (H:Hp) (E:XK) (hr:Room 0 (A.deeper (envOfC "_law_cell" (defScope GY) s.heap.objs.size f cdv))):
 AQ (AI (As P w K) P w K mg base ["_law_script","_law_k"] "_law_cell" (defScope GY) f cdv A outer s H E) E (defBody GY) (LR):=
 Av (CV (Dp P8 (Ae (pv 1)) (AK Dr rfl B.n_len DB (Ad (Ae (pv 0)) (Af))) (CS _)) (Ax (A3 (Co (Ae (pv 0)) (Ae (pv 1)) (fun _ _=>rfl)))) (CU)) (Ax (A3 (Ay Br (Ay DX (Ap) (Ae (pv 1))) (Ap))))
theorem ZN (f:Addr) (cdv:Value) (A:Around) (outer:List Env) (s:Shared) (H:Hp) (E:XK) (hr:Room 0 (A.deeper (envOfC "_law_mix" (defScope GZ) s.heap.objs.size f cdv))):
 AQ (AI (As P w K) P w K mg base ["_law_cell_here","_law_k","_law_number"] "_law_mix" (defScope GZ) f cdv A outer s H E) E (defBody GZ) (Ox):=
 Av (A6 (i:=2) sc__law_mix.nd rfl (by first|exact .inl rfl|exact .inr rfl) (Ay Br (Ay DX (Ay Br (Ae (pv 0)) (Ap)) (Ap)) (Ay DX (Ap) (Ae (pv 1))))) (Av (A6 (i:=2) sc__law_mix.nd rfl (by first|exact .inl rfl|exact .inr rfl) (Ay Br (Ay KR (Ay DX (Ae (pv 2)) (Ae (pv 2))) (Ap)) (Ae (pv 1)))) (Ax (A3 (Ay KR (Ay DX (Ae (pv 2)) (Ay Br (Ae (pv 2)) (Ap))) (Ap)))))
theorem ZO (f:Addr) (cdv:Value) (A:Around) (outer:List Env) (s:Shared) (H:Hp) (E:XK) (hr:Room 0 (A.deeper (envOfC "_law_take" (defScope G0) s.heap.objs.size f cdv))):
 AQ (AI (As P w K) P w K mg base ["_law_box_here","_law_many","_law_left_here","_law_digit"] "_law_take" (defScope G0) f cdv A outer s H E) E (defBody G0) (Oy):=
 Av (M1 (AK V3 rfl B.n_divmod Zg (Ad (Co (Ae (pv 0)) (Ap) (fun _ _=>rfl)) (Ad (Ae (pv 1)) (Af)))) (KW (Ei rfl (AF (i:=2) (sc__law_take.nd) rfl (by first|exact .inl rfl|exact .inr rfl) (by first|exact .inl rfl|exact .inr rfl)) (AF (i:=3) (sc__law_take.nd) rfl (by first|exact .inl rfl|exact .inr rfl) (by first|exact .inl rfl|exact .inr rfl))))) (Av (Wj (Ae (pv 0)) (Ap) (Ae (pv 2))) (Ax (A3 (Ae (pv 3)))))
theorem ZP (f:Addr) (cdv:Value) (A:Around) (outer:List Env) (s:Shared) (H:Hp) (hr:RoomM 0 (A.deeper (envOfC "_law_kind" (defScope G1) s.heap.objs.size f cdv))):
 AQ (Il P w K mg base ["_law_e","_law_kinds","_law_words"] "_law_kind" (defScope G1) f cdv A outer s H) E0 (defBody G1) (LU):=
 Av (A6 (i:=1) sc__law_kind.nd rfl (by first|exact .inl rfl|exact .inr rfl) (BQ (Ad (AK (Dx et) rfl B.n_isinstance DA (Ad (Ae (pv 0)) (Ad (E6 et (by decide +kernel)) (Af)))) (Ad (AK (Dx et) rfl B.n_isinstance DA (Ad (Ae (pv 0)) (Ad (E6 et (by decide +kernel)) (Af)))) (Ad (AK (Dx et) rfl B.n_isinstance DA (Ad (Ae (pv 0)) (Ad (E6 et (by decide +kernel)) (Af)))) (Ad (AK (Dx et) rfl B.n_isinstance DA (Ad (Ae (pv 0)) (Ad (E6 et (by decide +kernel)) (Af)))) (Af))))))) (Av (A6 (i:=1) sc__law_kind.nd rfl (by first|exact .inl rfl|exact .inr rfl) (Ay Br (Ae (pv 1)) (BQ (Ad (AK (Dx et) rfl B.n_isinstance DA (Ad (Ae (pv 0)) (Ad (E6 et (by decide +kernel)) (Af)))) (Ad (AK (Dx et) rfl B.n_isinstance DA (Ad (Ae (pv 0)) (Ad (E6 et (by decide +kernel)) (Af)))) (Ad (AK (Dx et) rfl B.n_isinstance DA (Ad (Ae (pv 0)) (Ad (E6 et (by decide +kernel)) (Af)))) (Ad (AK (Dx et) rfl B.n_isinstance DA (Ad (Ae (pv 0)) (Ad (E6 et (by decide +kernel)) (Af)))) (Af)))))))) (Av (A6 (i:=1) sc__law_kind.nd rfl (by first|exact .inl rfl|exact .inr rfl) (Ay Br (Ae (pv 1)) (BQ (Ad (AK (Dx et) rfl B.n_isinstance DA (Ad (Ae (pv 0)) (Ad (E6 et (by decide +kernel)) (Af)))) (Ad (AK (Dx et) rfl B.n_isinstance DA (Ad (Ae (pv 0)) (Ad (E6 et (by decide +kernel)) (Af)))) (Af)))))) (Av (CV (P5 (P4 (Jg (HL (AK (Dx et) rfl B.n_isinstance DA (Ad (Ae (pv 0)) (Ad (K0 rfl B.n_ValueError Ze) (Af)))))) (P3 (Dp (Iq hr.units) (Ln PySem.F.plainAttrs_list PySem.F.slot_list_count PySem.F.type_list_count JC NT NS (Ae (pv 1)) (Ec)) (Ap) (CS _))))) (Ax (A3 (Cd))) (CU)) (Av (CV (HL (Co (Ae (pv 1)) (Ap) (fun _ _=>rfl))) (Ax (A3 (Ay Br (Ay Br (Ay Br (Cd) (AK (Gk hr.units hr.gd) rfl B.n_repr Gq (Ad (Sy TM.tm TM.nC (.inl rfl) (Ae (pv 0))) (Af)))) (Cd)) (AK (Gk hr.units hr.gd) rfl B.n_repr Gq (Ad (Sy TM.tm TM.nC (.inr rfl) (Ae (pv 0))) (Af)))))) (CU)) (Av (A6 (i:=2) sc__law_kind.nd rfl (by first|exact .inl rfl|exact .inr rfl) (BQ (Ad (Cd) (Ad (Cd) (Ad (Cd) (Ad (Cd) (Ad (Cd) (Ad (Cd) (Ad (Cd) (Ad (Cd) (Ad (Cd) (Af)))))))))))) (Ax (A3 (Ay Br (Cd) (Co (Ae (pv 2)) (Ln PySem.F.plainAttrs_list PySem.F.slot_list_index PySem.F.type_list_index JC Xu Xv (Ae (pv 1)) (Ec)) (fun _ _=>rfl))))))))))
theorem ZQ (f:Addr) (cdv:Value) (A:Around) (outer:List Env) (s:Shared) (H:Hp) (E:XK) (hr:Room 0 (A.deeper (envOfC "_law_ones" (defScope G2) s.heap.objs.size f cdv))):
 AQ (AI (As P w K) P w K mg base ["_law_found","_law_number"] "_law_ones" (defScope G2) f cdv A outer s H E) E (defBody G2) (Oz):=
 Av (A6 (i:=0) sc__law_ones.nd rfl (by first|exact .inl rfl|exact .inr rfl) (BQ (Ad (Ap) (Af)))) (Av (Dt Dw rfl (Js rfl B.n_range (Ad (Ap) (Ad (Ap) (Af)))) (DQ (AF (i:=1) (sc__law_ones.nd) rfl (by first|exact .inl rfl|exact .inr rfl) (by first|exact .inl rfl|exact .inr rfl))) (Ax (EV (Na (Ae (pv 0)) (Ay Br (Co (Ae (pv 0)) (Ay Qd (Ae (pv 1)) (Ap)) (fun _ _=>rfl)) (Ay KR (Ae (pv 1)) (Ap))))))) (Ax (A3 (Ae (pv 0)))))
theorem ZR (f:Addr) (cdv:Value) (A:Around) (outer:List Env) (s:Shared) (H:Hp) (E:XK) (hr:Room 0 (A.deeper (envOfC "_law_forms" (defScope G3) s.heap.objs.size f cdv))):
 AQ (AI (As P w K) P w K mg base ["_law_high","_law_wide","_law_lines","_law_place","_law_longer","_law_line","_law_boards","_law_row","_law_board"] "_law_forms" (defScope G3) f cdv A outer s H E) E (defBody G3) (LV):=
 Av (A6 (i:=2) sc__law_forms.nd rfl (by first|exact .inl rfl|exact .inr rfl) (BQ (Ad (BP (Ad (Ap) (Af))) (Af)))) (Av (Dt Dw rfl (Js rfl B.n_range (Ad (Ap) (Ad (Ae (pv 1)) (Af)))) (DQ (AF (i:=3) (sc__law_forms.nd) rfl (by first|exact .inl rfl|exact .inr rfl) (by first|exact .inl rfl|exact .inr rfl))) (Av (A6 (i:=4) sc__law_forms.nd rfl (by first|exact .inl rfl|exact .inr rfl) (BQ (Af))) (Av (Dt Dw rfl (BI (Ae (pv 2))) (DQ (AF (i:=5) (sc__law_forms.nd) rfl (by first|exact .inl rfl|exact .inr rfl) (by first|exact .inl rfl|exact .inr rfl))) (Ax (A6 (i:=4) sc__law_forms.nd rfl (by first|exact .inl rfl|exact .inr rfl) (Ay Br (Ae (pv 4)) (BQ (Ad (Ay Br (Ae (pv 5)) (BP (Ad (Ap) (Af)))) (Ad (Ay Br (Ae (pv 5)) (BP (Ad (Ap) (Af)))) (Af)))))))) (Ax (A6 (i:=2) sc__law_forms.nd rfl (by first|exact .inl rfl|exact .inr rfl) (Ae (pv 4))))))) (Av (A6 (i:=6) sc__law_forms.nd rfl (by first|exact .inl rfl|exact .inr rfl) (BQ (Ad (BP (Ad (Ay DX (BP (Ad (Ap) (Af))) (Ae (pv 1))) (Af))) (Af)))) (Av (Dt Dw rfl (Js rfl B.n_range (Ad (Ap) (Ad (Ae (pv 0)) (Af)))) (DQ (AF (i:=7) (sc__law_forms.nd) rfl (by first|exact .inl rfl|exact .inr rfl) (by first|exact .inl rfl|exact .inr rfl))) (Av (A6 (i:=4) sc__law_forms.nd rfl (by first|exact .inl rfl|exact .inr rfl) (BQ (Af))) (Av (Dt Dw rfl (BI (Ae (pv 6))) (DQ (AF (i:=8) (sc__law_forms.nd) rfl (by first|exact .inl rfl|exact .inr rfl) (by first|exact .inl rfl|exact .inr rfl))) (Ax (EV (Zc (Ae (pv 4)) (B6 (Nc:=["_law_line","_law_board"]) (cs:=[none,some 8]) rfl (CSc.ok ⟨rfl,by decide +kernel,by kernel_rfl,by decide +kernel,rfl,by kernel_rfl⟩) (BI (Ae (pv 2))) (Cp rfl) (fun C D cells fp s₀ H₀ pins=>⟨AF (i:=0) (show (["_law_line","_law_board"]:List Str).Nodup from by decide +kernel) rfl (by first|exact .inl rfl|exact .inr rfl) (by first|exact .inl rfl|exact .inr rfl),BE,Ay Br (Ae (pv 1)) (BP (Ad (Ae (pv 0)) (Af)))⟩)))))) (Ax (A6 (i:=6) sc__law_forms.nd rfl (by first|exact .inl rfl|exact .inr rfl) (Ae (pv 4))))))) (Ax (A3 (Ae (pv 6)))))))
theorem ZS (f:Addr) (cdv:Value) (A:Around) (outer:List Env) (s:Shared) (H:Hp) (E:XK) (hr:Room 0 (A.deeper (envOfC "_law_left" (defScope G4) s.heap.objs.size f cdv))):
 AQ (AI (As P w K) P w K mg base ["_law_board","_law_ones_here","_law_lines","_law_size","_law_masks","_law_found","_law_lot","_law_counts"] "_law_left" (defScope G4) f cdv A outer s H E) E (defBody G4) (LW):=
 Av (Ju (i:=2) (Nc:=["_law_row"]) (cs:=[none]) rfl sc__law_left.nd rfl (by first|exact .inl rfl|exact .inr rfl) (CSc.ok ⟨rfl,by decide +kernel,by kernel_rfl,by decide +kernel,rfl,by kernel_rfl⟩) (BI (Ae (pv 0))) (Cp rfl) (fun C D cells fp s₀ H₀ pins=>⟨AF (i:=0) (show (["_law_row"]:List Str).Nodup from by decide +kernel) rfl (by first|exact .inl rfl|exact .inr rfl) (by first|exact .inl rfl|exact .inr rfl),BE,HP X6 rfl B.n_list Zi (Ad (Ae (pv 0)) (Af))⟩)) (Av (CV (Dp P8 (AK Dr rfl B.n_len DB (Ad (Ae (pv 0)) (Af))) (AK Dr rfl B.n_len DB (Ad (Co (Ae (pv 0)) (Ap) (fun _ _=>rfl)) (Af))) (CS _)) (Ax (Ju (i:=2) (Nc:=["_law_place","_law_board"]) (cs:=[none,some 0]) rfl sc__law_left.nd rfl (by first|exact .inl rfl|exact .inr rfl) (CSc.ok ⟨rfl,by decide +kernel,by kernel_rfl,by decide +kernel,rfl,by kernel_rfl⟩) (Ga rfl B.n_range (Ad (AK Dr rfl B.n_len DB (Ad (Co (Ae (pv 0)) (Ap) (fun _ _=>rfl)) (Af))) (Af))) (Cp rfl) (fun C D cells fp s₀ H₀ pins=>⟨AF (i:=0) (show (["_law_place","_law_board"]:List Str).Nodup from by decide +kernel) rfl (by first|exact .inl rfl|exact .inr rfl) (by first|exact .inl rfl|exact .inr rfl),BE,B6 (Nc:=["_law_row","_law_place"]) (cs:=[none,some 0]) rfl (CSc.ok ⟨rfl,by decide +kernel,by kernel_rfl,by decide +kernel,rfl,by kernel_rfl⟩) (BI (Ae (pv 1))) (Cp rfl) (fun C D cells fp s₀ H₀ pins=>⟨AF (i:=0) (show (["_law_row","_law_place"]:List Str).Nodup from by decide +kernel) rfl (by first|exact .inl rfl|exact .inr rfl) (by first|exact .inl rfl|exact .inr rfl),BE,Co (Ae (pv 0)) (Ae (pv 1)) (fun _ _=>rfl)⟩)⟩))) (CU)) (Av (A6 (i:=3) sc__law_left.nd rfl (by first|exact .inl rfl|exact .inr rfl) (AK Dr rfl B.n_len DB (Ad (Co (Ae (pv 2)) (Ap) (fun _ _=>rfl)) (Af)))) (Av (Ju (i:=4) (Nc:=["_law_line"]) (cs:=[none]) rfl sc__law_left.nd rfl (by first|exact .inl rfl|exact .inr rfl) (CSc.ok ⟨rfl,by decide +kernel,by kernel_rfl,by decide +kernel,rfl,by kernel_rfl⟩) (BI (Ae (pv 2))) (Cp rfl) (fun C D cells fp s₀ H₀ pins=>⟨AF (i:=0) (show (["_law_line"]:List Str).Nodup from by decide +kernel) rfl (by first|exact .inl rfl|exact .inr rfl) (by first|exact .inl rfl|exact .inr rfl),BE,AK (K2 rfl) rfl B.n_sum LQ (Ad (B6 (Nc:=["_law_place","_law_light"]) (cs:=[none,none]) rfl (CSc.ok ⟨rfl,by decide +kernel,by kernel_rfl,by decide +kernel,rfl,by kernel_rfl⟩) (WW rfl B.n_enumerate (Ad (Ae (pv 0)) (Af))) (GI rfl rfl) (fun C D cells fp s₀ H₀ pins=>⟨Ei rfl (AF (i:=0) (show (["_law_place","_law_light"]:List Str).Nodup from by decide +kernel) rfl (by first|exact .inl rfl|exact .inr rfl) (by first|exact .inl rfl|exact .inr rfl)) (AF (i:=1) (show (["_law_place","_law_light"]:List Str).Nodup from by decide +kernel) rfl (by first|exact .inl rfl|exact .inr rfl) (by first|exact .inl rfl|exact .inr rfl)),BE,Ay P9 (Ae (pv 1)) (Ae (pv 0))⟩)) (Af))⟩)) (Av (A6 (i:=5) sc__law_left.nd rfl (by first|exact .inl rfl|exact .inr rfl) (BQ (Af))) (Av (Dt Dw rfl (Ga rfl B.n_range (Ad (Ay P9 (Ap) (Ay Ee (Ae (pv 3)) (Ap))) (Af))) (DQ (AF (i:=6) (sc__law_left.nd) rfl (by first|exact .inl rfl|exact .inr rfl) (by first|exact .inl rfl|exact .inr rfl))) (Av (Ju (i:=7) (Nc:=["_law_mask","_law_ones_here","_law_lot"]) (cs:=[none,some 1,some 6]) rfl sc__law_left.nd rfl (by first|exact .inl rfl|exact .inr rfl) (CSc.ok ⟨rfl,by decide +kernel,by kernel_rfl,by decide +kernel,rfl,by kernel_rfl⟩) (BI (Ae (pv 4))) (Cp rfl) (fun C D cells fp s₀ H₀ pins=>⟨AF (i:=0) (show (["_law_mask","_law_ones_here","_law_lot"]:List Str).Nodup from by decide +kernel) rfl (by first|exact .inl rfl|exact .inr rfl) (by first|exact .inl rfl|exact .inr rfl),BE,Co (Ae (pv 1)) (Ay Y3 (Ae (pv 0)) (Ae (pv 2))) (fun _ _=>rfl)⟩)) (Ax (EV (Na (Ae (pv 5)) (AK (K2 rfl) rfl B.n_sum LQ (Ad (B6 (Nc:=["_law_many","_law_size"]) (cs:=[none,some 3]) rfl (CSc.ok ⟨rfl,by decide +kernel,by kernel_rfl,by decide +kernel,rfl,by kernel_rfl⟩) (BI (Ae (pv 7))) (Cp rfl) (fun C D cells fp s₀ H₀ pins=>⟨AF (i:=0) (show (["_law_many","_law_size"]:List Str).Nodup from by decide +kernel) rfl (by first|exact .inl rfl|exact .inr rfl) (by first|exact .inl rfl|exact .inr rfl),BE,AK (M0 rfl) rfl B.n_min JO (Ad (Ae (pv 0)) (Ad (Ay Ee (Ae (pv 1)) (Ae (pv 0))) (Af)))⟩)) (Af)))))))) (Ax (A3 (AK (Rc rfl) rfl B.n_min JO (Ad (Ae (pv 5)) (Af))))))))))
theorem ZT {Df:List D→HD→Out D} (c_is_whole:CaE P w K mg base "is_whole" 1 Df) (f:Addr) (cdv:Value) (A:Around) (outer:List Env) (s:Shared) (H:Hp) (E:XK) (hr:Room 1 (A.deeper (envOfC "is_between" (defScope G5) s.heap.objs.size f cdv))):
 AQ (AI (As P w K) P w K mg base ["thing","least","most"] "is_between" (defScope G5) f cdv A outer s H E) E (defBody G5) (JS Df):=
 Ax (A3 (KL (A2 c_is_whole hr Ba (Ad (Ae (pv 0)) (Af))) (KJ (P7 KQ KQ (Ae (pv 1)) (Ae (pv 0)) (Ae (pv 2))))))
theorem ZU {Fe:List D→HD→Out D} (c_rising_rows:CaE P w K mg base "rising_rows" 1 Fe) (f:Addr) (cdv:Value) (A:Around) (outer:List Env) (s:Shared) (H:Hp) (E:XK) (hr:Room 1 (A.deeper (envOfC "all_forms" (defScope G6) s.heap.objs.size f cdv))):
 AQ (AI (As P w K) P w K mg base ["high","wide","rows","forms","number"] "all_forms" (defScope G6) f cdv A outer s H E) E (defBody G6) (OA Fe):=
 Av (A6 (i:=2) sc_all_forms.nd rfl (by first|exact .inl rfl|exact .inr rfl) (A2 c_rising_rows hr Ba (Ad (BP (Ad (Ap) (Af))) (Ad (Ay Ee (Ae (pv 1)) (Ap)) (Af))))) (Av (A6 (i:=3) sc_all_forms.nd rfl (by first|exact .inl rfl|exact .inr rfl) (BQ (Ad (BP (Ad (Ay DX (BP (Ad (Ap) (Af))) (Ae (pv 1))) (Af))) (Af)))) (Av (Dt Dw rfl (Js rfl B.n_range (Ad (Ap) (Ad (Ae (pv 0)) (Af)))) (DQ (AF (i:=4) (sc_all_forms.nd) rfl (by first|exact .inl rfl|exact .inr rfl) (by first|exact .inl rfl|exact .inr rfl))) (Ax (SO (i:=3) (Nc:=["form","row","rows"]) (cs:=[none,none,some 2]) (is:=[0]) (js:=[1]) rfl sc_all_forms.nd rfl (by first|exact .inl rfl|exact .inr rfl) (CSc.ok ⟨rfl,by decide +kernel,by kernel_rfl,by decide +kernel,rfl,by kernel_rfl⟩) (BI (Ae (pv 3))) (fun g e=>by cases e<;>rfl) (by decide) (Ly (i:=0) (js:=[1]) (by decide)) (fun C D cells fp s₀ H₀ pins ao=>⟨AF (i:=0) (show (["form","row","rows"]:List Str).Nodup from by decide +kernel) rfl (by first|exact .inl rfl|exact .inr rfl) (by first|exact .inl rfl|exact .inr rfl),BE,Sl (is:=[1]) (js:=[]) rfl rfl rfl (fun g e=>by cases e<;>rfl) (BI (Ae (pv 2))) (AF (i:=1) (show (["form","row","rows"]:List Str).Nodup from by decide +kernel) rfl (by first|exact .inl rfl|exact .inr rfl) (by first|exact .inl rfl|exact .inr rfl)) (Ly (i:=1) (js:=[]) (by decide)) (BE) (Sk ao rfl rfl (Ay Br (Ae (pv 0)) (BP (Ad (Ae (pv 1)) (Af)))))⟩)))) (Ax (A3 (Ae (pv 3))))))
theorem ZV {Ff:List D→HD→Out D} {Fg:List D→HD→Out D} (c__law_cell:CaE P w K mg base "_law_cell" 1 Ff) (c__law_mix:CaE P w K mg base "_law_mix" 1 Fg) (f:Addr) (cdv:Value) (A:Around) (outer:List Env) (s:Shared) (H:Hp) (E:XK) (hr:Room 1 (A.deeper (envOfC "_law_box" (defScope G7) s.heap.objs.size f cdv))):
 AQ (AI (As P w K) P w K mg base ["_law_script","_law_k","_law_here","_law_number","_law_j"] "_law_box" (defScope G7) f cdv A outer s H E) E (defBody G7) (OB Ff Fg):=
 Av (A6 (i:=2) sc__law_box.nd rfl (by first|exact .inl rfl|exact .inr rfl) (A2 c__law_cell hr Ba (Ad (Ae (pv 0)) (Ad (Ae (pv 1)) (Af))))) (Av (CV (Dp (Ls hr.units) (Ay KR (Ae (pv 2)) (Ap)) (Ap) (CS _)) (Ax (A3 (BQ (Ad (Ay Qd (Ae (pv 2)) (Ap)) (Af))))) (CU)) (Av (A6 (i:=3) sc__law_box.nd rfl (by first|exact .inl rfl|exact .inr rfl) (Ap)) (Av (Dt Dw rfl (Ga rfl B.n_range (Ad (Ap) (Af))) (DQ (AF (i:=4) (sc__law_box.nd) rfl (by first|exact .inl rfl|exact .inr rfl) (by first|exact .inl rfl|exact .inr rfl))) (Ax (A6 (i:=3) sc__law_box.nd rfl (by first|exact .inl rfl|exact .inr rfl) (Ay Br (Ay DX (Ae (pv 3)) (Ap)) (A2 c__law_mix hr Ba (Ad (Ae (pv 2)) (Ad (Ae (pv 4)) (Af)))))))) (Ax (A3 (BQ (Ad (Ae (pv 3)) (Af))))))))
theorem ZW {BZ:List D→HD→Out D} (c_is_between:CaE P w K mg base "is_between" 2 BZ) (f:Addr) (cdv:Value) (A:Around) (outer:List Env) (s:Shared) (H:Hp) (E:XK) (hr:Room 2 (A.deeper (envOfC "is_light" (defScope G8) s.heap.objs.size f cdv))):
 AQ (AI (As P w K) P w K mg base ["thing"] "is_light" (defScope G8) f cdv A outer s H E) E (defBody G8) (OC BZ):=
 Ax (A3 (A2 c_is_between hr Ba (Ad (Ae (pv 0)) (Ad (Ap) (Ad (Ap) (Af))))))
theorem ZX {BZ:List D→HD→Out D} (c_is_between:CaE P w K mg base "is_between" 2 BZ) (f:Addr) (cdv:Value) (A:Around) (outer:List Env) (s:Shared) (H:Hp) (E:XK) (hr:Room 2 (A.deeper (envOfC "need_number" (defScope G9) s.heap.objs.size f cdv))):
 AQ (AI (As P w K) P w K mg base ["thing","least","most"] "need_number" (defScope G9) f cdv A outer s H E) E (defBody G9) (JT BZ):=
 Ax (CV (Jg (HL (A2 c_is_between hr Ba (Ad (Ae (pv 0)) (Ad (Ae (pv 1)) (Ad (Ae (pv 2)) (Af))))))) (Ax (RT et (by decide +kernel) (by decide +kernel) rfl rfl Q4 (Ad (RP (Lq (Lr (Ae (pv 1)) (Lq (Lr (Ae (pv 2)) (Lq (RO))))))) (Af)))) (CU))
theorem ZY {Cq:List D→HD→Out D} {Fh:List D→HD→Out D} (c_is_line_tuple:CaE P w K mg base "is_line_tuple" 1 Cq) (c_is_light:CaE P w K mg base "is_light" 3 Fh) (f:Addr) (cdv:Value) (A:Around) (outer:List Env) (s:Shared) (H:Hp) (E:XK) (hr:Room 3 (A.deeper (envOfC "is_row" (defScope Ha) s.heap.objs.size f cdv))):
 AQ (AI (As P w K) P w K mg base ["thing"] "is_row" (defScope Ha) f cdv A outer s H E) E (defBody Ha) (OD Cq Fh):=
 Ax (A3 (KL (A2 c_is_line_tuple hr Ba (Ad (Ae (pv 0)) (Af))) (KJ (AK (M9 rfl) rfl B.n_all Oq (Ad (B6 (Nc:=["light"]) (cs:=[none]) rfl (CSc.ok ⟨rfl,by decide +kernel,by kernel_rfl,by decide +kernel,rfl,by kernel_rfl⟩) (BI (Ae (pv 0))) (Cp rfl) (fun C D cells fp s₀ H₀ pins=>⟨AF (i:=0) (show (["light"]:List Str).Nodup from by decide +kernel) rfl (by first|exact .inl rfl|exact .inr rfl) (by first|exact .inl rfl|exact .inr rfl),BE,A2 c_is_light hr Ie (Ad (Ae (pv 0)) (Af))⟩)) (Af))))))
theorem ZZ {DD:List D→HD→Out D} (c_need_number:CaE P w K mg base "need_number" 3 DD) {t_MOST_LINES:Tok} (m_MOST_LINES:mg "MOST_LINES"=some (.int 8 t_MOST_LINES)) (f:Addr) (cdv:Value) (A:Around) (outer:List Env) (s:Shared) (H:Hp) (E:XK) (hr:Room 3 (A.deeper (envOfC "need_size" (defScope Hb) s.heap.objs.size f cdv))):
 AQ (AI (As P w K) P w K mg base ["high","wide"] "need_size" (defScope Hb) f cdv A outer s H E) E (defBody Hb) (LY DD):=
 Av (EV (A2 c_need_number hr Ba (Ad (Ae (pv 0)) (Ad (Ap) (Ad (Je rfl m_MOST_LINES) (Af)))))) (Ax (EV (A2 c_need_number hr Ba (Ad (Ae (pv 1)) (Ad (Ap) (Ad (Je rfl m_MOST_LINES) (Af)))))))
theorem Z0 {Cq:List D→HD→Out D} {Fi:List D→HD→Out D} (c_is_line_tuple:CaE P w K mg base "is_line_tuple" 1 Cq) (c_is_row:CaE P w K mg base "is_row" 4 Fi) (f:Addr) (cdv:Value) (A:Around) (outer:List Env) (s:Shared) (H:Hp) (E:XK) (hr:Room 4 (A.deeper (envOfC "is_board" (defScope Hc) s.heap.objs.size f cdv))):
 AQ (AI (As P w K) P w K mg base ["thing"] "is_board" (defScope Hc) f cdv A outer s H E) E (defBody Hc) (OE Cq Fi):=
 Av (CV (P5 (P4 (Jg (HL (A2 c_is_line_tuple hr Ba (Ad (Ae (pv 0)) (Af))))) (P3 (Jg (HL (AK (M9 rfl) rfl B.n_all Oq (Ad (B6 (Nc:=["row"]) (cs:=[none]) rfl (CSc.ok ⟨rfl,by decide +kernel,by kernel_rfl,by decide +kernel,rfl,by kernel_rfl⟩) (BI (Ae (pv 0))) (Cp rfl) (fun C D cells fp s₀ H₀ pins=>⟨AF (i:=0) (show (["row"]:List Str).Nodup from by decide +kernel) rfl (by first|exact .inl rfl|exact .inr rfl) (by first|exact .inl rfl|exact .inr rfl),BE,A2 c_is_row hr Ie (Ad (Ae (pv 0)) (Af))⟩)) (Af)))))))) (Ax (A3 (Ec))) (CU)) (Ax (A3 (AK (M9 rfl) rfl B.n_all Oq (Ad (B6 (Nc:=["row","thing"]) (cs:=[none,some 0]) rfl (CSc.ok ⟨rfl,by decide +kernel,by kernel_rfl,by decide +kernel,rfl,by kernel_rfl⟩) (BI (Ae (pv 0))) (Cp rfl) (fun C D cells fp s₀ H₀ pins=>⟨AF (i:=0) (show (["row","thing"]:List Str).Nodup from by decide +kernel) rfl (by first|exact .inl rfl|exact .inr rfl) (by first|exact .inl rfl|exact .inr rfl),BE,VO (Ls hr.units) (AK Dr rfl B.n_len DB (Ad (Ae (pv 0)) (Af))) (AK Dr rfl B.n_len DB (Ad (Co (Ae (pv 1)) (Ap) (fun _ _=>rfl)) (Af))) (CS _)⟩)) (Af)))))
theorem Z1 {Dg:List D→HD→Out D} (c_need_size:CaE P w K mg base "need_size" 4 Dg) {t_MOST_FREE:Tok} (m_MOST_FREE:mg "MOST_FREE"=some (.int 9 t_MOST_FREE)) (f:Addr) (cdv:Value) (A:Around) (outer:List Env) (s:Shared) (H:Hp) (E:XK) (hr:Room 4 (A.deeper (envOfC "need_small_size" (defScope Hd) s.heap.objs.size f cdv))):
 AQ (AI (As P w K) P w K mg base ["high","wide","free"] "need_small_size" (defScope Hd) f cdv A outer s H E) E (defBody Hd) (IF Dg):=
 Av (EV (A2 c_need_size hr Ba (Ad (Ae (pv 0)) (Ad (Ae (pv 1)) (Af))))) (Av (A6 (i:=2) sc_need_small_size.nd rfl (by first|exact .inl rfl|exact .inr rfl) (Ay DX (Ay Ee (Ae (pv 0)) (Ap)) (Ay Ee (Ae (pv 1)) (Ap)))) (Ax (CV (Dp MV (Ae (pv 2)) (Je rfl m_MOST_FREE) (CS _)) (Ax (YS Ib TM.tm TM.F TM.hb (hr.mono (by decide)) TM.lI TM.cI TM.kp TM.nC rfl rfl (Ad (Ae (pv 2)) (Ad (Je rfl m_MOST_FREE) (Af))))) (CU))))
theorem Z2 {Fj:List D→HD→Out D} (c_is_board:CaE P w K mg base "is_board" 5 Fj) (f:Addr) (cdv:Value) (A:Around) (outer:List Env) (s:Shared) (H:Hp) (E:XK) (hr:Room 5 (A.deeper (envOfC "need_board" (defScope He) s.heap.objs.size f cdv))):
 AQ (AI (As P w K) P w K mg base ["thing"] "need_board" (defScope He) f cdv A outer s H E) E (defBody He) (OF Fj):=
 Ax (CV (Jg (HL (A2 c_is_board hr Ba (Ad (Ae (pv 0)) (Af))))) (Ax (RT et (by decide +kernel) (by decide +kernel) rfl rfl Q4 (Ad (Cd) (Af)))) (CU))
theorem Z3 {Cg:List D→HD→Out D} (c_need_board:CaE P w K mg base "need_board" 6 Cg) (f:Addr) (cdv:Value) (A:Around) (outer:List Env) (s:Shared) (H:Hp) (E:XK) (hr:Room 6 (A.deeper (envOfC "row_counts" (defScope Hf) s.heap.objs.size f cdv))):
 AQ (AI (As P w K) P w K mg base ["board"] "row_counts" (defScope Hf) f cdv A outer s H E) E (defBody Hf) (OG Cg):=
 Av (EV (A2 c_need_board hr Ba (Ad (Ae (pv 0)) (Af)))) (Ax (A3 (HP KV rfl B.n_tuple JP (Ad (B6 (Nc:=["row"]) (cs:=[none]) rfl (CSc.ok ⟨rfl,by decide +kernel,by kernel_rfl,by decide +kernel,rfl,by kernel_rfl⟩) (BI (Ae (pv 0))) (Cp rfl) (fun C D cells fp s₀ H₀ pins=>⟨AF (i:=0) (show (["row"]:List Str).Nodup from by decide +kernel) rfl (by first|exact .inl rfl|exact .inr rfl) (by first|exact .inl rfl|exact .inr rfl),BE,AK (K2 rfl) rfl B.n_sum LQ (Ad (Ae (pv 0)) (Af))⟩)) (Af)))))
theorem Z4 {Cg:List D→HD→Out D} (c_need_board:CaE P w K mg base "need_board" 6 Cg) (f:Addr) (cdv:Value) (A:Around) (outer:List Env) (s:Shared) (H:Hp) (E:XK) (hr:Room 6 (A.deeper (envOfC "turned" (defScope Hg) s.heap.objs.size f cdv))):
 AQ (AI (As P w K) P w K mg base ["board"] "turned" (defScope Hg) f cdv A outer s H E) E (defBody Hg) (OH Cg):=
 Av (EV (A2 c_need_board hr Ba (Ad (Ae (pv 0)) (Af)))) (Ax (A3 (HP KV rfl B.n_tuple JP (Ad (B6 (Nc:=["number","board"]) (cs:=[none,some 0]) rfl (CSc.ok ⟨rfl,by decide +kernel,by kernel_rfl,by decide +kernel,rfl,by kernel_rfl⟩) (Ga rfl B.n_range (Ad (AK Dr rfl B.n_len DB (Ad (Co (Ae (pv 0)) (Ap) (fun _ _=>rfl)) (Af))) (Af))) (Cp rfl) (fun C D cells fp s₀ H₀ pins=>⟨AF (i:=0) (show (["number","board"]:List Str).Nodup from by decide +kernel) rfl (by first|exact .inl rfl|exact .inr rfl) (by first|exact .inl rfl|exact .inr rfl),BE,HP KV rfl B.n_tuple JP (Ad (B6 (Nc:=["row","number"]) (cs:=[none,some 0]) rfl (CSc.ok ⟨rfl,by decide +kernel,by kernel_rfl,by decide +kernel,rfl,by kernel_rfl⟩) (BI (Ae (pv 1))) (Cp rfl) (fun C D cells fp s₀ H₀ pins=>⟨AF (i:=0) (show (["row","number"]:List Str).Nodup from by decide +kernel) rfl (by first|exact .inl rfl|exact .inr rfl) (by first|exact .inl rfl|exact .inr rfl),BE,Co (Ae (pv 0)) (Ae (pv 1)) (fun _ _=>rfl)⟩)) (Af))⟩)) (Af)))))
theorem Z5 {Cr:List D→HD→Out D} {Fo:List D→HD→Out D} (c_turned:CaE P w K mg base "turned" 7 Cr) (c_row_counts:CaE P w K mg base "row_counts" 7 Fo) (f:Addr) (cdv:Value) (A:Around) (outer:List Env) (s:Shared) (H:Hp) (E:XK) (hr:Room 7 (A.deeper (envOfC "column_counts" (defScope Hh) s.heap.objs.size f cdv))):
 AQ (AI (As P w K) P w K mg base ["board"] "column_counts" (defScope Hh) f cdv A outer s H E) E (defBody Hh) (OI Cr Fo):=
 Ax (A3 (A2 c_row_counts hr Ba (Ad (A2 c_turned hr Ba (Ad (Ae (pv 0)) (Af))) (Af))))
theorem Z6 {Fp:List D→HD→Out D} {Fc:List D→HD→Out D} (c_column_counts:CaE P w K mg base "column_counts" 8 Fp) (c_counts_with_row:CaE P w K mg base "counts_with_row" 1 Fc) (f:Addr) (cdv:Value) (A:Around) (outer:List Env) (s:Shared) (H:Hp) (E:XK) (hr:Room 8 (A.deeper (envOfC "lots_with_counts" (defScope Hi) s.heap.objs.size f cdv))):
 AQ (AI (As P w K) P w K mg base ["board","found","number"] "lots_with_counts" (defScope Hi) f cdv A outer s H E) E (defBody Hi) (OJ Fp Fc):=
 Av (A6 (i:=1) sc_lots_with_counts.nd rfl (by first|exact .inl rfl|exact .inr rfl) (BQ (Ad (BP (Ad (BP (Af)) (Ad (A2 c_column_counts hr Ba (Ad (Ae (pv 0)) (Af))) (Af)))) (Af)))) (Av (Dt Dw rfl (Js rfl B.n_range (Ad (Ap) (Ad (AK Dr rfl B.n_len DB (Ad (Ae (pv 0)) (Af))) (Af)))) (DQ (AF (i:=2) (sc_lots_with_counts.nd) rfl (by first|exact .inl rfl|exact .inr rfl) (by first|exact .inl rfl|exact .inr rfl))) (Ax (A6 (i:=1) sc_lots_with_counts.nd rfl (by first|exact .inl rfl|exact .inr rfl) (Ay Br (Ae (pv 1)) (B6 (Nc:=["lot","counts","number","board"]) (cs:=[none,none,some 2,some 0]) rfl (CSc.ok ⟨rfl,by decide +kernel,by kernel_rfl,by decide +kernel,rfl,by kernel_rfl⟩) (BI (Ae (pv 1))) (GI rfl rfl) (fun C D cells fp s₀ H₀ pins=>⟨Ei rfl (AF (i:=0) (show (["lot","counts","number","board"]:List Str).Nodup from by decide +kernel) rfl (by first|exact .inl rfl|exact .inr rfl) (by first|exact .inl rfl|exact .inr rfl)) (AF (i:=1) (show (["lot","counts","number","board"]:List Str).Nodup from by decide +kernel) rfl (by first|exact .inl rfl|exact .inr rfl) (by first|exact .inl rfl|exact .inr rfl)),BE,BP (Ad (Ay Br (Ae (pv 0)) (BP (Ad (Ae (pv 2)) (Af)))) (Ad (A2 c_counts_with_row hr Ie (Ad (Ae (pv 1)) (Ad (Co (Ae (pv 3)) (Ae (pv 2)) (fun _ _=>rfl)) (Af)))) (Af)))⟩)))))) (Ax (A3 (Ae (pv 1)))))
theorem Z7 {Dh:List D→HD→Out D} {Fd:List D→HD→Out D} (c_lots_with_counts:CaE P w K mg base "lots_with_counts" 9 Dh) (c_fewest_lit:CaE P w K mg base "fewest_lit" 1 Fd) (f:Addr) (cdv:Value) (A:Around) (outer:List Env) (s:Shared) (H:Hp) (E:XK) (hr:Room 9 (A.deeper (envOfC "left_many" (defScope Hj) s.heap.objs.size f cdv))):
 AQ (AI (As P w K) P w K mg base ["board"] "left_many" (defScope Hj) f cdv A outer s H E) E (defBody Hj) (OK Dh Fd):=
 Ax (A3 (AK (Rc rfl) rfl B.n_min JO (Ad (B6 (Nc:=["lot","counts","board"]) (cs:=[none,none,some 0]) rfl (CSc.ok ⟨rfl,by decide +kernel,by kernel_rfl,by decide +kernel,rfl,by kernel_rfl⟩) (BI (A2 c_lots_with_counts hr Ba (Ad (Ae (pv 0)) (Af)))) (GI rfl rfl) (fun C D cells fp s₀ H₀ pins=>⟨Ei rfl (AF (i:=0) (show (["lot","counts","board"]:List Str).Nodup from by decide +kernel) rfl (by first|exact .inl rfl|exact .inr rfl) (by first|exact .inl rfl|exact .inr rfl)) (AF (i:=1) (show (["lot","counts","board"]:List Str).Nodup from by decide +kernel) rfl (by first|exact .inl rfl|exact .inr rfl) (by first|exact .inl rfl|exact .inr rfl)),BE,A2 c_fewest_lit hr Ie (Ad (Ae (pv 1)) (Ad (AK Dr rfl B.n_len DB (Ad (Ae (pv 2)) (Af))) (Af)))⟩)) (Af))))
theorem Z8 {Cr:List D→HD→Out D} {Fq:List D→HD→Out D} (c_turned:CaE P w K mg base "turned" 7 Cr) (c_left_many:CaE P w K mg base "left_many" 10 Fq) (f:Addr) (cdv:Value) (A:Around) (outer:List Env) (s:Shared) (H:Hp) (E:XK) (hr:Room 10 (A.deeper (envOfC "left_of_form" (defScope Hk) s.heap.objs.size f cdv))):
 AQ (AI (As P w K) P w K mg base ["form"] "left_of_form" (defScope Hk) f cdv A outer s H E) E (defBody Hk) (OL Cr Fq):=
 Ax (A3 (A2 c_left_many hr Ba (Ad (VT (Dp MV (AK Dr rfl B.n_len DB (Ad (Ae (pv 0)) (Af))) (AK Dr rfl B.n_len DB (Ad (Co (Ae (pv 0)) (Ap) (fun _ _=>rfl)) (Af))) (CS _)) (A2 c_turned hr Ba (Ad (Ae (pv 0)) (Af))) (Ae (pv 0))) (Af))))
theorem Z9 {DE:List D→HD→Out D} {BR:List D→HD→Out D} {D7:List D→HD→Out D} (c_need_small_size:CaE P w K mg base "need_small_size" 5 DE) (c_all_forms:CaE P w K mg base "all_forms" 2 BR) (c_left_of_form:CaE P w K mg base "left_of_form" 11 D7) (f:Addr) (cdv:Value) (A:Around) (outer:List Env) (s:Shared) (H:Hp) (E:XK) (hr:Room 11 (A.deeper (envOfC "lefts_of_size" (defScope Hl) s.heap.objs.size f cdv))):
 AQ (AI (As P w K) P w K mg base ["high","wide"] "lefts_of_size" (defScope Hl) f cdv A outer s H E) E (defBody Hl) (JU DE BR D7):=
 Av (EV (A2 c_need_small_size hr Ba (Ad (Ae (pv 0)) (Ad (Ae (pv 1)) (Af))))) (Ax (A3 (B6 (Nc:=["form"]) (cs:=[none]) rfl (CSc.ok ⟨rfl,by decide +kernel,by kernel_rfl,by decide +kernel,rfl,by kernel_rfl⟩) (BI (A2 c_all_forms hr Ba (Ad (Ae (pv 0)) (Ad (Ae (pv 1)) (Af))))) (Cp rfl) (fun C D cells fp s₀ H₀ pins=>⟨AF (i:=0) (show (["form"]:List Str).Nodup from by decide +kernel) rfl (by first|exact .inl rfl|exact .inr rfl) (by first|exact .inl rfl|exact .inr rfl),BE,A2 c_left_of_form hr Ie (Ad (Ae (pv 0)) (Af))⟩))))
theorem Zaa {Bg:List D→HD→Out D} (c_lefts_of_size:CaE P w K mg base "lefts_of_size" 12 Bg) (f:Addr) (cdv:Value) (A:Around) (outer:List Env) (s:Shared) (H:Hp) (E:XK) (hr:Room 12 (A.deeper (envOfC "worst_left" (defScope Hm) s.heap.objs.size f cdv))):
 AQ (AI (As P w K) P w K mg base ["high","wide"] "worst_left" (defScope Hm) f cdv A outer s H E) E (defBody Hm) (JV Bg):=
 Ax (A3 (AK (Lh rfl) rfl B.n_max JN (Ad (A2 c_lefts_of_size hr Ba (Ad (Ae (pv 0)) (Ad (Ae (pv 1)) (Af)))) (Af))))
theorem Zab {Bg:List D→HD→Out D} {BR:List D→HD→Out D} (c_lefts_of_size:CaE P w K mg base "lefts_of_size" 12 Bg) (c_all_forms:CaE P w K mg base "all_forms" 2 BR) (f:Addr) (cdv:Value) (A:Around) (outer:List Env) (s:Shared) (H:Hp) (E:XK) (hr:Room 12 (A.deeper (envOfC "worst_forms" (defScope Hn) s.heap.objs.size f cdv))):
 AQ (AI (As P w K) P w K mg base ["high","wide","lefts","worst"] "worst_forms" (defScope Hn) f cdv A outer s H E) E (defBody Hn) (JW Bg BR):=
 Av (A6 (i:=2) sc_worst_forms.nd rfl (by first|exact .inl rfl|exact .inr rfl) (A2 c_lefts_of_size hr Ba (Ad (Ae (pv 0)) (Ad (Ae (pv 1)) (Af))))) (Av (A6 (i:=3) sc_worst_forms.nd rfl (by first|exact .inl rfl|exact .inr rfl) (AK (Lh rfl) rfl B.n_max JN (Ad (Ae (pv 2)) (Af)))) (Ax (A3 (B6 (Nc:=["form","left","worst"]) (cs:=[none,none,some 3]) rfl (CSc.ok ⟨rfl,by decide +kernel,by kernel_rfl,by decide +kernel,rfl,by kernel_rfl⟩) (NB rfl B.n_zip (Ad (A2 c_all_forms hr Ba (Ad (Ae (pv 0)) (Ad (Ae (pv 1)) (Af)))) (Ad (Ae (pv 2)) (Af)))) (GI rfl rfl) (fun C D cells fp s₀ H₀ pins=>⟨Ei rfl (AF (i:=0) (show (["form","left","worst"]:List Str).Nodup from by decide +kernel) rfl (by first|exact .inl rfl|exact .inr rfl) (by first|exact .inl rfl|exact .inr rfl)) (AF (i:=1) (show (["form","left","worst"]:List Str).Nodup from by decide +kernel) rfl (by first|exact .inl rfl|exact .inr rfl) (by first|exact .inl rfl|exact .inr rfl)),Qs (Dp (Ls hr.units) (Ae (pv 1)) (Ae (pv 2)) (CS _)),Ae (pv 0)⟩)))))
theorem Zac {Bg:List D→HD→Out D} (c_lefts_of_size:CaE P w K mg base "lefts_of_size" 12 Bg) (f:Addr) (cdv:Value) (A:Around) (outer:List Env) (s:Shared) (H:Hp) (E:XK) (hr:Room 12 (A.deeper (envOfC "form_counts" (defScope Ho) s.heap.objs.size f cdv))):
 AQ (AI (As P w K) P w K mg base ["high","wide","lefts"] "form_counts" (defScope Ho) f cdv A outer s H E) E (defBody Ho) (JX Bg):=
 Av (A6 (i:=2) sc_form_counts.nd rfl (by first|exact .inl rfl|exact .inr rfl) (A2 c_lefts_of_size hr Ba (Ad (Ae (pv 0)) (Ad (Ae (pv 1)) (Af))))) (Ax (A3 (B6 (Nc:=["k","lefts"]) (cs:=[none,some 2]) rfl (CSc.ok ⟨rfl,by decide +kernel,by kernel_rfl,by decide +kernel,rfl,by kernel_rfl⟩) (Ga rfl B.n_range (Ad (Ay Br (AK (Lh rfl) rfl B.n_max JN (Ad (Ae (pv 2)) (Af))) (Ap)) (Af))) (Cp rfl) (fun C D cells fp s₀ H₀ pins=>⟨AF (i:=0) (show (["k","lefts"]:List Str).Nodup from by decide +kernel) rfl (by first|exact .inl rfl|exact .inr rfl) (by first|exact .inl rfl|exact .inr rfl),BE,Ln PySem.F.plainAttrs_list PySem.F.slot_list_count PySem.F.type_list_count JC NT NS (Ae (pv 1)) (Ae (pv 0))⟩))))
theorem Zad {Es:List D→HD→Out D} {Ew:List D→HD→Out D} {B1:List D→HD→Out D} {DI:List D→HD→Out D} {Eu:List D→HD→Out D} {B0:List D→HD→Out D} {B2:List D→HD→Out D} {BS:List D→HD→Out D} {CL:List D→HD→Out D} (c__law_ones:CaE P w K mg base "_law_ones" 1 Es) (c__law_box:CaE P w K mg base "_law_box" 2 Ew) (c__law_take:CaE P w K mg base "_law_take" 1 B1) (c__law_forms:CaE P w K mg base "_law_forms" 1 DI) (c__law_left:CaE P w K mg base "_law_left" 1 Eu) (c_worst_left:CaE P w K mg base "worst_left" 13 B0) (c_worst_forms:CaE P w K mg base "worst_forms" 13 B2) (c_form_counts:CaE P w K mg base "form_counts" 13 BS) (c__law_kind:CaM P w K mg base "_law_kind" 1 CL) {fv_form_counts:Addr} (n_form_counts:PySem.W.nsIn K mainGlobals "form_counts"=some (some (.ref fv_form_counts))) {fv_worst_forms:Addr} (n_worst_forms:PySem.W.nsIn K mainGlobals "worst_forms"=some (some (.ref fv_worst_forms))) {fv_worst_left:Addr} (n_worst_left:PySem.W.nsIn K mainGlobals "worst_left"=some (some (.ref fv_worst_left))) {cT T fsd:Addr} {fdd:FuncData} (htp:tabP K=some (cT,T)) (hcd:PySem.W.codeHdIn K cT T=true) (hbm:Im mg base) (Sd:SaidD K mg JQ fsd fdd) (f:Addr) (A:Around) (outer:List Env) (s:Shared) (H:Hp) (E:XK) (hr:Room 15 (A.deeper (envOfC "law" (defScope s_law) s.heap.objs.size f (.ref cT)))):
 JM (AI (As P w K) P w K mg base ["_law_script","_law_sizes","_law_ones_here","_law_k","_law_box_here","_law_high","_law_wide","_law_rows","_law_many","_law_worst","_law_due","_law_call","_law_kept","_law_found","_law_far","_law_more","_law_bad","_law_one","_law_other"] "law" (defScope s_law) f (.ref cT) A outer s H E) E (defBody s_law) (LZ Es Ew B1 DI Eu B0 B2 BS CL):=
 have LX:LamX (AI (As P w K) P w K mg base ["_law_script","_law_sizes","_law_ones_here","_law_k","_law_box_here","_law_high","_law_wide","_law_rows","_law_many","_law_worst","_law_due","_law_call","_law_kept","_law_found","_law_far","_law_more","_law_bad","_law_one","_law_other"] "law" (defScope s_law) f (.ref cT) A outer s H E) cT T:=⟨rfl,htp,hcd,(show ("law":Str)++".<locals>."=("law.<locals>.":Str) by decide +kernel),hbm⟩
 Y8 (Y7 (i:=1) (ps:=[(4,4),(3,5),(5,3),(2,8),(8,2),(1,8),(8,1),(2,4),(4,3),(3,3),(2,2),(1,1),(4,2)]) sc_law.nd rfl (by first|exact .inl rfl|exact .inr rfl) (by kernel_rfl)) (Av (A6 (i:=1) sc_law.nd rfl (by first|exact .inl rfl|exact .inr rfl) (Ay Br (Ae (pv 1)) (BQ (Oo (ps:=[(2,7),(6,2),(3,4),(1,5)]) (by kernel_rfl))))) (Av (A6 (i:=2) sc_law.nd rfl (by first|exact .inl rfl|exact .inr rfl) (Y4 c__law_ones hr Ba)) (Av (Dt Dw rfl (Ga rfl B.n_range (Ad (AK (V5 rfl) rfl B.n_max JN (Ad (Ap) (Ad (AK (M0 rfl) rfl B.n_min JO (Ad (AK Dr rfl B.n_len DB (Ad (Ae (pv 0)) (Af))) (Ad (Ap) (Af)))) (Af)))) (Af))) (DQ (AF (i:=3) (sc_law.nd) rfl (by first|exact .inl rfl|exact .inr rfl) (by first|exact .inl rfl|exact .inr rfl))) (Av (A6 (i:=4) sc_law.nd rfl (by first|exact .inl rfl|exact .inr rfl) (A2 c__law_box hr Ba (Ad (Ae (pv 0)) (Ad (Ae (pv 3)) (Af))))) (Av (M1 (Co (Ae (pv 1)) (A2 c__law_take hr Ba (Ad (Ae (pv 4)) (Ad (Ap) (Af)))) (fun _ _=>rfl)) (KW (Ei rfl (AF (i:=5) (sc_law.nd) rfl (by first|exact .inl rfl|exact .inr rfl) (by first|exact .inl rfl|exact .inr rfl)) (AF (i:=6) (sc_law.nd) rfl (by first|exact .inl rfl|exact .inr rfl) (by first|exact .inl rfl|exact .inr rfl))))) (Av (Ju (i:=7) (Nc:=["_law_form","_law_ones_here"]) (cs:=[none,some 2]) rfl sc_law.nd rfl (by first|exact .inl rfl|exact .inr rfl) (CSc.ok ⟨rfl,by decide +kernel,by kernel_rfl,by decide +kernel,rfl,by kernel_rfl⟩) (BI (A2 c__law_forms hr Ba (Ad (Ae (pv 5)) (Ad (Ae (pv 6)) (Af))))) (Cp rfl) (fun C D cells fp s₀ H₀ pins=>⟨AF (i:=0) (show (["_law_form","_law_ones_here"]:List Str).Nodup from by decide +kernel) rfl (by first|exact .inl rfl|exact .inr rfl) (by first|exact .inl rfl|exact .inr rfl),BE,BP (Ad (A2 c__law_left hr Ie (Ad (Ae (pv 0)) (Ad (Ae (pv 1)) (Af)))) (Ad (Ae (pv 0)) (Af)))⟩)) (Av (A6 (i:=8) sc_law.nd rfl (by first|exact .inl rfl|exact .inr rfl) (B6 (Nc:=["_law_left_here","_law_form"]) (cs:=[none,none]) rfl (CSc.ok ⟨rfl,by decide +kernel,by kernel_rfl,by decide +kernel,rfl,by kernel_rfl⟩) (BI (Ae (pv 7))) (GI rfl rfl) (fun C D cells fp s₀ H₀ pins=>⟨Ei rfl (AF (i:=0) (show (["_law_left_here","_law_form"]:List Str).Nodup from by decide +kernel) rfl (by first|exact .inl rfl|exact .inr rfl) (by first|exact .inl rfl|exact .inr rfl)) (AF (i:=1) (show (["_law_left_here","_law_form"]:List Str).Nodup from by decide +kernel) rfl (by first|exact .inl rfl|exact .inr rfl) (by first|exact .inl rfl|exact .inr rfl)),BE,Ae (pv 0)⟩))) (Av (A6 (i:=9) sc_law.nd rfl (by first|exact .inl rfl|exact .inr rfl) (AK (Lh rfl) rfl B.n_max JN (Ad (Ae (pv 8)) (Af)))) (Av (CV (Dp (Iq hr.units) (AK (Gk hr.units hr.gd) rfl B.n_repr Gq (Ad (A2 c_worst_left hr Ba (Ad (Ae (pv 5)) (Ad (Ae (pv 6)) (Af)))) (Af))) (AK (Gk hr.units hr.gd) rfl B.n_repr Gq (Ad (Ae (pv 9)) (Af))) (CS _)) (Ax (A3 (Ec))) (CU)) (Av (A6 (i:=10) sc_law.nd rfl (by first|exact .inl rfl|exact .inr rfl) (BQ (Ad (B6 (Nc:=["_law_left_here","_law_form","_law_worst"]) (cs:=[none,none,some 9]) rfl (CSc.ok ⟨rfl,by decide +kernel,by kernel_rfl,by decide +kernel,rfl,by kernel_rfl⟩) (BI (Ae (pv 7))) (GI rfl rfl) (fun C D cells fp s₀ H₀ pins=>⟨Ei rfl (AF (i:=0) (show (["_law_left_here","_law_form","_law_worst"]:List Str).Nodup from by decide +kernel) rfl (by first|exact .inl rfl|exact .inr rfl) (by first|exact .inl rfl|exact .inr rfl)) (AF (i:=1) (show (["_law_left_here","_law_form","_law_worst"]:List Str).Nodup from by decide +kernel) rfl (by first|exact .inl rfl|exact .inr rfl) (by first|exact .inl rfl|exact .inr rfl)),Qs (Dp (Ls hr.units) (Ae (pv 0)) (Ae (pv 2)) (CS _)),Ae (pv 1)⟩)) (Ad (B6 (Nc:=["_law_left_here","_law_many"]) (cs:=[none,some 8]) rfl (CSc.ok ⟨rfl,by decide +kernel,by kernel_rfl,by decide +kernel,rfl,by kernel_rfl⟩) (Ga rfl B.n_range (Ad (Ay Br (Ae (pv 9)) (Ap)) (Af))) (Cp rfl) (fun C D cells fp s₀ H₀ pins=>⟨AF (i:=0) (show (["_law_left_here","_law_many"]:List Str).Nodup from by decide +kernel) rfl (by first|exact .inl rfl|exact .inr rfl) (by first|exact .inl rfl|exact .inr rfl),BE,Ln PySem.F.plainAttrs_list PySem.F.slot_list_count PySem.F.type_list_count JC NT NS (Ae (pv 1)) (Ae (pv 0))⟩)) (Af))))) (Av (Dt Dw rfl (NB rfl B.n_zip (Ad (BQ (Ad (JF n_worst_forms) (Ad (JF n_form_counts) (Af)))) (Ad (Ae (pv 10)) (Af)))) (KW (Ei rfl (AF (i:=11) (sc_law.nd) rfl (by first|exact .inl rfl|exact .inr rfl) (by first|exact .inl rfl|exact .inr rfl)) (AF (i:=12) (sc_law.nd) rfl (by first|exact .inl rfl|exact .inr rfl) (by first|exact .inl rfl|exact .inr rfl)))) (Av (A6 (i:=13) sc_law.nd rfl (by first|exact .inl rfl|exact .inr rfl) (N2 (k:=13) (FK c_worst_left (FK c_worst_forms (FK c_form_counts (N1)))) hr Ba (Ae (pv 11)) (Ad (Ae (pv 5)) (Ad (Ae (pv 6)) (Af))))) (Av (CV (Dp (Iq hr.units) (AK (Gk hr.units hr.gd) rfl B.n_repr Gq (Ad (Ae (pv 13)) (Af))) (AK (Gk hr.units hr.gd) rfl B.n_repr Gq (Ad (Ae (pv 12)) (Af))) (CS _)) (Ax (A3 (Ec))) (CU)) (Ax (EV (Na (Ae (pv 13)) (PZ))))))) (Av (CV (Dp (Iq hr.units) (AK (Gk hr.units hr.gd) rfl B.n_repr Gq (Ad (A2 c_form_counts hr Ba (Ad (Ae (pv 5)) (Ad (Ae (pv 6)) (Af)))) (Af))) (AK (Gk hr.units hr.gd) rfl B.n_repr Gq (Ad (Co (Ae (pv 10)) (Ap) (fun _ _=>rfl)) (Af))) (CS _)) (Ax (A3 (Ec))) (CU)) (Av (M1 (BP (Ad (Ay Br (Ap) (A2 c__law_take hr Ba (Ad (Ae (pv 4)) (Ad (Ap) (Af))))) (Ad (Ay Br (Ap) (A2 c__law_take hr Ba (Ad (Ae (pv 4)) (Ad (Ap) (Af))))) (Af)))) (XZ (is:=[14,15]) (Ph rfl (Kt (AF (i:=14) (sc_law.nd) rfl (by first|exact .inl rfl|exact .inr rfl) (by first|exact .inl rfl|exact .inr rfl)) (Kt (AF (i:=15) (sc_law.nd) rfl (by first|exact .inl rfl|exact .inr rfl) (by first|exact .inl rfl|exact .inr rfl)) (Pg)))))) (Av (A6 (i:=16) sc_law.nd rfl (by first|exact .inl rfl|exact .inr rfl) (Co (BQ (Ad (Ap) (Ad (Ap) (Ad (Wq (Ap)) (Ad (Ec) (Ad (PZ) (Ad (Cd) (Ad (BP (Ad (Ap) (Af))) (Ad (Ay VW (Ap) (Ap)) (Ad (Ay Br (Ap) (A2 c__law_take hr Ba (Ad (Ae (pv 4)) (Ad (Ap) (Af))))) (Ad (BQ (Ad (Ap) (Af))) (Ad (Ec) (Af))))))))))))) (A2 c__law_take hr Ba (Ad (Ae (pv 4)) (Ad (Ap) (Af)))) (fun _ _=>rfl))) (Ax (Dt Dw rfl (BI (BQ (Ad (JF n_worst_left) (Ad (JF n_worst_forms) (Ad (JF n_form_counts) (Af)))))) (DQ (AF (i:=11) (sc_law.nd) rfl (by first|exact .inl rfl|exact .inr rfl) (by first|exact .inl rfl|exact .inr rfl))) (Av (CV (Dp MV (Ay DX (Ay Ee (Ae (pv 14)) (Ap)) (Ay Ee (Ae (pv 15)) (Ap))) (Ap) (CS _)) (Ax (CV (Dp (Iq hr.units) (RV (Nc:=["_law_call","_law_far","_law_more"]) (cs:=[11,14,15]) LX (fun _=>rfl) hr Ib et Sd SU (CaM.mono (k:=13) c__law_kind (by decide)) ⟨⟨rfl,rfl,rfl,by kernel_rfl⟩,by decide +kernel,by kernel_rfl,rfl,by kernel_rfl⟩ (fun a cd cl A outer s H E' hr=>N2 (k:=13) (FK c_worst_left (FK c_worst_forms (FK c_form_counts (N1)))) hr RJ (Ae (pv 0)) (Ad (Ae (pv 1)) (Ad (Ae (pv 2)) (Af)))) rfl) (Ay Br (Ay Br (Cd) (HP Y2 rfl B.n_str Zj (Ad (Ay DX (Ay Ee (Ae (pv 14)) (Ap)) (Ay Ee (Ae (pv 15)) (Ap))) (Af)))) (Cd)) (CS _)) (Ax (A3 (Ec))) (CU))) (CU)) (Ax (Dt Dw rfl (BI (BQ (Ad (BP (Ad (Ae (pv 16)) (Ad (Ap) (Af)))) (Ad (BP (Ad (Ap) (Ad (Ae (pv 16)) (Af)))) (Ad (BP (Ad (Ae (pv 16)) (Ad (Ae (pv 16)) (Af)))) (Ad (BP (Ad (Ae (pv 16)) (Ad (Ae (pv 6)) (Af)))) (Af))))))) (KW (Ei rfl (AF (i:=17) (sc_law.nd) rfl (by first|exact .inl rfl|exact .inr rfl) (by first|exact .inl rfl|exact .inr rfl)) (AF (i:=18) (sc_law.nd) rfl (by first|exact .inl rfl|exact .inr rfl) (by first|exact .inl rfl|exact .inr rfl)))) (Ax (CV (Dp (Iq hr.units) (RV (Nc:=["_law_call","_law_one","_law_other"]) (cs:=[11,17,18]) LX (fun _=>rfl) hr Ib et Sd SU (CaM.mono (k:=13) c__law_kind (by decide)) ⟨⟨rfl,rfl,rfl,by kernel_rfl⟩,by decide +kernel,by kernel_rfl,rfl,by kernel_rfl⟩ (fun a cd cl A outer s H E' hr=>N2 (k:=13) (FK c_worst_left (FK c_worst_forms (FK c_form_counts (N1)))) hr RJ (Ae (pv 0)) (Ad (Ae (pv 1)) (Ad (Ae (pv 2)) (Af)))) rfl) (Cd) (CS _)) (Ax (A3 (Ec))) (CU)))))))))))))))))))) (Ax (A3 (Ec))))))
noncomputable def Df:List D→HD→Out D:=fun ds h=>if ds.length=1 then Am 1 (JR) ds h else .stuck
theorem Zae {f:Addr} {fd:FuncData} (D:Dn K mg "is_whole" ["thing"] GT f fd):CaE P w K mg base "is_whole" 1 Df:=
 ⟨f,fd,_,Bn D.fn Zm (fun ds h e=>if_neg e) (fun ds h e=>if_pos e) (fun cdv A outer s H E hr=>ZG B et TM f cdv A outer s H E hr),D.bd,D.mg,D.fn.kp⟩
noncomputable def Cq:List D→HD→Out D:=fun ds h=>if ds.length=1 then Am 1 (Ot) ds h else .stuck
theorem Zaf {t_MOST_LINES:Tok} (m_MOST_LINES:mg "MOST_LINES"=some (.int 8 t_MOST_LINES)) {f:Addr} {fd:FuncData} (D:Dn K mg "is_line_tuple" ["thing"] GU f fd):CaE P w K mg base "is_line_tuple" 1 Cq:=
 ⟨f,fd,_,Bn D.fn Zn (fun ds h e=>if_neg e) (fun ds h e=>if_pos e) (fun cdv A outer s H E hr=>ZH B et TM m_MOST_LINES f cdv A outer s H E hr),D.bd,D.mg,D.fn.kp⟩
noncomputable def Fc:List D→HD→Out D:=fun ds h=>if ds.length=2 then Am 2 (Ou) ds h else .stuck
theorem Zag {f:Addr} {fd:FuncData} (D:Dn K mg "counts_with_row" ["counts","row"] GV f fd):CaE P w K mg base "counts_with_row" 1 Fc:=
 ⟨f,fd,_,Bn D.fn Zo (fun ds h e=>if_neg e) (fun ds h e=>if_pos e) (fun cdv A outer s H E hr=>ZJ B et TM f cdv A outer s H E hr),D.bd,D.mg,D.fn.kp⟩
noncomputable def Fd:List D→HD→Out D:=fun ds h=>if ds.length=2 then Am 2 (Ov) ds h else .stuck
theorem Zah {f:Addr} {fd:FuncData} (D:Dn K mg "fewest_lit" ["counts","high"] GW f fd):CaE P w K mg base "fewest_lit" 1 Fd:=
 ⟨f,fd,_,Bn D.fn Zp (fun ds h e=>if_neg e) (fun ds h e=>if_pos e) (fun cdv A outer s H E hr=>ZK B et TM f cdv A outer s H E hr),D.bd,D.mg,D.fn.kp⟩
noncomputable def Fe:List D→HD→Out D:=fun ds h=>if ds.length=2 then Am 4 (Ow) ds h else .stuck
theorem Zai {f:Addr} {fd:FuncData} (D:Dn K mg "rising_rows" ["start","many"] GX f fd):CaE P w K mg base "rising_rows" 1 Fe:=
 ⟨f,fd,_,Bn D.fn sc_rising_rows (fun ds h e=>if_neg e) (fun ds h e=>if_pos e) (fun cdv A outer s H E hr=>ZL B et TM f cdv A outer s H E hr),D.bd,D.mg,D.fn.kp⟩
noncomputable def Ff:List D→HD→Out D:=fun ds h=>if ds.length=2 then Am 2 (LR) ds h else .stuck
theorem Zaj {f:Addr} {fd:FuncData} (D:Dn K mg "_law_cell" ["_law_script","_law_k"] GY f fd):CaE P w K mg base "_law_cell" 1 Ff:=
 ⟨f,fd,_,Bn D.fn Zq (fun ds h e=>if_neg e) (fun ds h e=>if_pos e) (fun cdv A outer s H E hr=>ZM B et TM f cdv A outer s H E hr),D.bd,D.mg,D.fn.kp⟩
noncomputable def Fg:List D→HD→Out D:=fun ds h=>if ds.length=2 then Am 3 (Ox) ds h else .stuck
theorem Zak {f:Addr} {fd:FuncData} (D:Dn K mg "_law_mix" ["_law_cell_here","_law_k"] GZ f fd):CaE P w K mg base "_law_mix" 1 Fg:=
 ⟨f,fd,_,Bn D.fn sc__law_mix (fun ds h e=>if_neg e) (fun ds h e=>if_pos e) (fun cdv A outer s H E hr=>ZN B et TM f cdv A outer s H E hr),D.bd,D.mg,D.fn.kp⟩
noncomputable def B1:List D→HD→Out D:=fun ds h=>if ds.length=2 then Am 4 (Oy) ds h else .stuck
theorem Zal {f:Addr} {fd:FuncData} (D:Dn K mg "_law_take" ["_law_box_here","_law_many"] G0 f fd):CaE P w K mg base "_law_take" 1 B1:=
 ⟨f,fd,_,Bn D.fn sc__law_take (fun ds h e=>if_neg e) (fun ds h e=>if_pos e) (fun cdv A outer s H E hr=>ZO B et TM f cdv A outer s H E hr),D.bd,D.mg,D.fn.kp⟩
noncomputable def CL:List D→HD→Out D:=fun ds h=>if ds.length=1 then Am 3 (LU) ds h else .stuck
theorem Zam {f:Addr} {fd:FuncData} (D:Dn K mg "_law_kind" ["_law_e"] G1 f fd):CaM P w K mg base "_law_kind" 1 CL:=
 ⟨f,fd,_,XC D.fn sc__law_kind (fun ds h e=>if_neg e) (fun ds h e=>if_pos e) (fun cdv A outer s H hr=>ZP B et TM f cdv A outer s H hr),D.bd,D.mg,D.fn.kp,fun ds h e=>if_neg e⟩
noncomputable def Es:List D→HD→Out D:=fun ds h=>if ds.length=0 then Am 2 (Oz) ds h else .stuck
theorem Zan {f:Addr} {fd:FuncData} (D:Dn K mg "_law_ones" [] G2 f fd):CaE P w K mg base "_law_ones" 1 Es:=
 ⟨f,fd,_,Bn D.fn sc__law_ones (fun ds h e=>if_neg e) (fun ds h e=>if_pos e) (fun cdv A outer s H E hr=>ZQ B et TM f cdv A outer s H E hr),D.bd,D.mg,D.fn.kp⟩
noncomputable def DI:List D→HD→Out D:=fun ds h=>if ds.length=2 then Am 9 (LV) ds h else .stuck
theorem Zao {f:Addr} {fd:FuncData} (D:Dn K mg "_law_forms" ["_law_high","_law_wide"] G3 f fd):CaE P w K mg base "_law_forms" 1 DI:=
 ⟨f,fd,_,Bn D.fn sc__law_forms (fun ds h e=>if_neg e) (fun ds h e=>if_pos e) (fun cdv A outer s H E hr=>ZR B et TM f cdv A outer s H E hr),D.bd,D.mg,D.fn.kp⟩
noncomputable def Eu:List D→HD→Out D:=fun ds h=>if ds.length=2 then Am 8 (LW) ds h else .stuck
theorem Zap {f:Addr} {fd:FuncData} (D:Dn K mg "_law_left" ["_law_board","_law_ones_here"] G4 f fd):CaE P w K mg base "_law_left" 1 Eu:=
 ⟨f,fd,_,Bn D.fn sc__law_left (fun ds h e=>if_neg e) (fun ds h e=>if_pos e) (fun cdv A outer s H E hr=>ZS B et TM f cdv A outer s H E hr),D.bd,D.mg,D.fn.kp⟩
noncomputable def BZ:List D→HD→Out D:=fun ds h=>if ds.length=3 then Am 3 (JS Df) ds h else .stuck
theorem Zaq (c_is_whole:CaE P w K mg base "is_whole" 1 Df) {f:Addr} {fd:FuncData} (D:Dn K mg "is_between" ["thing","least","most"] G5 f fd):CaE P w K mg base "is_between" 2 BZ:=
 ⟨f,fd,_,Bn D.fn Zr (fun ds h e=>if_neg e) (fun ds h e=>if_pos e) (fun cdv A outer s H E hr=>ZT B et TM c_is_whole f cdv A outer s H E hr),D.bd,D.mg,D.fn.kp⟩
noncomputable def BR:List D→HD→Out D:=fun ds h=>if ds.length=2 then Am 5 (OA Fe) ds h else .stuck
theorem Zar (c_rising_rows:CaE P w K mg base "rising_rows" 1 Fe) {f:Addr} {fd:FuncData} (D:Dn K mg "all_forms" ["high","wide"] G6 f fd):CaE P w K mg base "all_forms" 2 BR:=
 ⟨f,fd,_,Bn D.fn sc_all_forms (fun ds h e=>if_neg e) (fun ds h e=>if_pos e) (fun cdv A outer s H E hr=>ZU B et TM c_rising_rows f cdv A outer s H E hr),D.bd,D.mg,D.fn.kp⟩
noncomputable def Ew:List D→HD→Out D:=fun ds h=>if ds.length=2 then Am 5 (OB Ff Fg) ds h else .stuck
theorem Zas (c__law_cell:CaE P w K mg base "_law_cell" 1 Ff) (c__law_mix:CaE P w K mg base "_law_mix" 1 Fg) {f:Addr} {fd:FuncData} (D:Dn K mg "_law_box" ["_law_script","_law_k"] G7 f fd):CaE P w K mg base "_law_box" 2 Ew:=
 ⟨f,fd,_,Bn D.fn sc__law_box (fun ds h e=>if_neg e) (fun ds h e=>if_pos e) (fun cdv A outer s H E hr=>ZV B et TM c__law_cell c__law_mix f cdv A outer s H E hr),D.bd,D.mg,D.fn.kp⟩
noncomputable def Fh:List D→HD→Out D:=fun ds h=>if ds.length=1 then Am 1 (OC BZ) ds h else .stuck
theorem Zat (c_is_between:CaE P w K mg base "is_between" 2 BZ) {f:Addr} {fd:FuncData} (D:Dn K mg "is_light" ["thing"] G8 f fd):CaE P w K mg base "is_light" 3 Fh:=
 ⟨f,fd,_,Bn D.fn Zs (fun ds h e=>if_neg e) (fun ds h e=>if_pos e) (fun cdv A outer s H E hr=>ZW B et TM c_is_between f cdv A outer s H E hr),D.bd,D.mg,D.fn.kp⟩
noncomputable def DD:List D→HD→Out D:=fun ds h=>if ds.length=3 then Am 3 (JT BZ) ds h else .stuck
theorem Zau (c_is_between:CaE P w K mg base "is_between" 2 BZ) {f:Addr} {fd:FuncData} (D:Dn K mg "need_number" ["thing","least","most"] G9 f fd):CaE P w K mg base "need_number" 3 DD:=
 ⟨f,fd,_,Bn D.fn Zt (fun ds h e=>if_neg e) (fun ds h e=>if_pos e) (fun cdv A outer s H E hr=>ZX B et TM c_is_between f cdv A outer s H E hr),D.bd,D.mg,D.fn.kp⟩
noncomputable def Fi:List D→HD→Out D:=fun ds h=>if ds.length=1 then Am 1 (OD Cq Fh) ds h else .stuck
theorem Zav (c_is_line_tuple:CaE P w K mg base "is_line_tuple" 1 Cq) (c_is_light:CaE P w K mg base "is_light" 3 Fh) {f:Addr} {fd:FuncData} (D:Dn K mg "is_row" ["thing"] Ha f fd):CaE P w K mg base "is_row" 4 Fi:=
 ⟨f,fd,_,Bn D.fn Zu (fun ds h e=>if_neg e) (fun ds h e=>if_pos e) (fun cdv A outer s H E hr=>ZY B et TM c_is_line_tuple c_is_light f cdv A outer s H E hr),D.bd,D.mg,D.fn.kp⟩
noncomputable def Dg:List D→HD→Out D:=fun ds h=>if ds.length=2 then Am 2 (LY DD) ds h else .stuck
theorem Zaw (c_need_number:CaE P w K mg base "need_number" 3 DD) {t_MOST_LINES:Tok} (m_MOST_LINES:mg "MOST_LINES"=some (.int 8 t_MOST_LINES)) {f:Addr} {fd:FuncData} (D:Dn K mg "need_size" ["high","wide"] Hb f fd):CaE P w K mg base "need_size" 4 Dg:=
 ⟨f,fd,_,Bn D.fn Zv (fun ds h e=>if_neg e) (fun ds h e=>if_pos e) (fun cdv A outer s H E hr=>ZZ B et TM c_need_number m_MOST_LINES f cdv A outer s H E hr),D.bd,D.mg,D.fn.kp⟩
noncomputable def Fj:List D→HD→Out D:=fun ds h=>if ds.length=1 then Am 1 (OE Cq Fi) ds h else .stuck
theorem Zax (c_is_line_tuple:CaE P w K mg base "is_line_tuple" 1 Cq) (c_is_row:CaE P w K mg base "is_row" 4 Fi) {f:Addr} {fd:FuncData} (D:Dn K mg "is_board" ["thing"] Hc f fd):CaE P w K mg base "is_board" 5 Fj:=
 ⟨f,fd,_,Bn D.fn Zw (fun ds h e=>if_neg e) (fun ds h e=>if_pos e) (fun cdv A outer s H E hr=>Z0 B et TM c_is_line_tuple c_is_row f cdv A outer s H E hr),D.bd,D.mg,D.fn.kp⟩
noncomputable def DE:List D→HD→Out D:=fun ds h=>if ds.length=2 then Am 3 (IF Dg) ds h else .stuck
theorem Zay (c_need_size:CaE P w K mg base "need_size" 4 Dg) {t_MOST_FREE:Tok} (m_MOST_FREE:mg "MOST_FREE"=some (.int 9 t_MOST_FREE)) {f:Addr} {fd:FuncData} (D:Dn K mg "need_small_size" ["high","wide"] Hd f fd):CaE P w K mg base "need_small_size" 5 DE:=
 ⟨f,fd,_,Bn D.fn sc_need_small_size (fun ds h e=>if_neg e) (fun ds h e=>if_pos e) (fun cdv A outer s H E hr=>Z1 B et TM c_need_size m_MOST_FREE f cdv A outer s H E hr),D.bd,D.mg,D.fn.kp⟩
noncomputable def Cg:List D→HD→Out D:=fun ds h=>if ds.length=1 then Am 1 (OF Fj) ds h else .stuck
theorem Zaz (c_is_board:CaE P w K mg base "is_board" 5 Fj) {f:Addr} {fd:FuncData} (D:Dn K mg "need_board" ["thing"] He f fd):CaE P w K mg base "need_board" 6 Cg:=
 ⟨f,fd,_,Bn D.fn Zx (fun ds h e=>if_neg e) (fun ds h e=>if_pos e) (fun cdv A outer s H E hr=>Z2 B et TM c_is_board f cdv A outer s H E hr),D.bd,D.mg,D.fn.kp⟩
noncomputable def Fo:List D→HD→Out D:=fun ds h=>if ds.length=1 then Am 1 (OG Cg) ds h else .stuck
theorem ZaA (c_need_board:CaE P w K mg base "need_board" 6 Cg) {f:Addr} {fd:FuncData} (D:Dn K mg "row_counts" ["board"] Hf f fd):CaE P w K mg base "row_counts" 7 Fo:=
 ⟨f,fd,_,Bn D.fn Zy (fun ds h e=>if_neg e) (fun ds h e=>if_pos e) (fun cdv A outer s H E hr=>Z3 B et TM c_need_board f cdv A outer s H E hr),D.bd,D.mg,D.fn.kp⟩
noncomputable def Cr:List D→HD→Out D:=fun ds h=>if ds.length=1 then Am 1 (OH Cg) ds h else .stuck
theorem ZaB (c_need_board:CaE P w K mg base "need_board" 6 Cg) {f:Addr} {fd:FuncData} (D:Dn K mg "turned" ["board"] Hg f fd):CaE P w K mg base "turned" 7 Cr:=
 ⟨f,fd,_,Bn D.fn Zz (fun ds h e=>if_neg e) (fun ds h e=>if_pos e) (fun cdv A outer s H E hr=>Z4 B et TM c_need_board f cdv A outer s H E hr),D.bd,D.mg,D.fn.kp⟩
noncomputable def Fp:List D→HD→Out D:=fun ds h=>if ds.length=1 then Am 1 (OI Cr Fo) ds h else .stuck
theorem ZaC (c_turned:CaE P w K mg base "turned" 7 Cr) (c_row_counts:CaE P w K mg base "row_counts" 7 Fo) {f:Addr} {fd:FuncData} (D:Dn K mg "column_counts" ["board"] Hh f fd):CaE P w K mg base "column_counts" 8 Fp:=
 ⟨f,fd,_,Bn D.fn ZA (fun ds h e=>if_neg e) (fun ds h e=>if_pos e) (fun cdv A outer s H E hr=>Z5 B et TM c_turned c_row_counts f cdv A outer s H E hr),D.bd,D.mg,D.fn.kp⟩
noncomputable def Dh:List D→HD→Out D:=fun ds h=>if ds.length=1 then Am 3 (OJ Fp Fc) ds h else .stuck
theorem ZaD (c_column_counts:CaE P w K mg base "column_counts" 8 Fp) (c_counts_with_row:CaE P w K mg base "counts_with_row" 1 Fc) {f:Addr} {fd:FuncData} (D:Dn K mg "lots_with_counts" ["board"] Hi f fd):CaE P w K mg base "lots_with_counts" 9 Dh:=
 ⟨f,fd,_,Bn D.fn sc_lots_with_counts (fun ds h e=>if_neg e) (fun ds h e=>if_pos e) (fun cdv A outer s H E hr=>Z6 B et TM c_column_counts c_counts_with_row f cdv A outer s H E hr),D.bd,D.mg,D.fn.kp⟩
noncomputable def Fq:List D→HD→Out D:=fun ds h=>if ds.length=1 then Am 1 (OK Dh Fd) ds h else .stuck
theorem ZaE (c_lots_with_counts:CaE P w K mg base "lots_with_counts" 9 Dh) (c_fewest_lit:CaE P w K mg base "fewest_lit" 1 Fd) {f:Addr} {fd:FuncData} (D:Dn K mg "left_many" ["board"] Hj f fd):CaE P w K mg base "left_many" 10 Fq:=
 ⟨f,fd,_,Bn D.fn ZC (fun ds h e=>if_neg e) (fun ds h e=>if_pos e) (fun cdv A outer s H E hr=>Z7 B et TM c_lots_with_counts c_fewest_lit f cdv A outer s H E hr),D.bd,D.mg,D.fn.kp⟩
noncomputable def D7:List D→HD→Out D:=fun ds h=>if ds.length=1 then Am 1 (OL Cr Fq) ds h else .stuck
theorem ZaF (c_turned:CaE P w K mg base "turned" 7 Cr) (c_left_many:CaE P w K mg base "left_many" 10 Fq) {f:Addr} {fd:FuncData} (D:Dn K mg "left_of_form" ["form"] Hk f fd):CaE P w K mg base "left_of_form" 11 D7:=
 ⟨f,fd,_,Bn D.fn ZD (fun ds h e=>if_neg e) (fun ds h e=>if_pos e) (fun cdv A outer s H E hr=>Z8 B et TM c_turned c_left_many f cdv A outer s H E hr),D.bd,D.mg,D.fn.kp⟩
noncomputable def Bg:List D→HD→Out D:=fun ds h=>if ds.length=2 then Am 2 (JU DE BR D7) ds h else .stuck
theorem ZaG (c_need_small_size:CaE P w K mg base "need_small_size" 5 DE) (c_all_forms:CaE P w K mg base "all_forms" 2 BR) (c_left_of_form:CaE P w K mg base "left_of_form" 11 D7) {f:Addr} {fd:FuncData} (D:Dn K mg "lefts_of_size" ["high","wide"] Hl f fd):CaE P w K mg base "lefts_of_size" 12 Bg:=
 ⟨f,fd,_,Bn D.fn ZE (fun ds h e=>if_neg e) (fun ds h e=>if_pos e) (fun cdv A outer s H E hr=>Z9 B et TM c_need_small_size c_all_forms c_left_of_form f cdv A outer s H E hr),D.bd,D.mg,D.fn.kp⟩
noncomputable def B0:List D→HD→Out D:=fun ds h=>if ds.length=2 then Am 2 (JV Bg) ds h else .stuck
theorem ZaH (c_lefts_of_size:CaE P w K mg base "lefts_of_size" 12 Bg) {f:Addr} {fd:FuncData} (D:Dn K mg "worst_left" ["high","wide"] Hm f fd):CaE P w K mg base "worst_left" 13 B0:=
 ⟨f,fd,_,Bn D.fn ZF (fun ds h e=>if_neg e) (fun ds h e=>if_pos e) (fun cdv A outer s H E hr=>Zaa B et TM c_lefts_of_size f cdv A outer s H E hr),D.bd,D.mg,D.fn.kp⟩
noncomputable def B2:List D→HD→Out D:=fun ds h=>if ds.length=2 then Am 4 (JW Bg BR) ds h else .stuck
theorem ZaI (c_lefts_of_size:CaE P w K mg base "lefts_of_size" 12 Bg) (c_all_forms:CaE P w K mg base "all_forms" 2 BR) {f:Addr} {fd:FuncData} (D:Dn K mg "worst_forms" ["high","wide"] Hn f fd):CaE P w K mg base "worst_forms" 13 B2:=
 ⟨f,fd,_,Bn D.fn sc_worst_forms (fun ds h e=>if_neg e) (fun ds h e=>if_pos e) (fun cdv A outer s H E hr=>Zab B et TM c_lefts_of_size c_all_forms f cdv A outer s H E hr),D.bd,D.mg,D.fn.kp⟩
noncomputable def BS:List D→HD→Out D:=fun ds h=>if ds.length=2 then Am 3 (JX Bg) ds h else .stuck
theorem ZaJ (c_lefts_of_size:CaE P w K mg base "lefts_of_size" 12 Bg) {f:Addr} {fd:FuncData} (D:Dn K mg "form_counts" ["high","wide"] Ho f fd):CaE P w K mg base "form_counts" 13 BS:=
 ⟨f,fd,_,Bn D.fn sc_form_counts (fun ds h e=>if_neg e) (fun ds h e=>if_pos e) (fun cdv A outer s H E hr=>Zac B et TM c_lefts_of_size f cdv A outer s H E hr),D.bd,D.mg,D.fn.kp⟩
noncomputable def F_law:List D→HD→Out D:=fun ds h=>if ds.length=1 then Am 19 (LZ Es Ew B1 DI Eu B0 B2 BS CL) ds h else .stuck
end
theorem _root_.LS.Sm.len {h h':HD} (s:Sm h h'):h.length≤h'.length:=by
 cases e:h.length with
 |zero=>exact EF _
 |succ n=>
  have hn:n<h.length:=by omega
  have:=s n h[n] (Bb hn)
  have:=(qa5.mp this).1
  omega
theorem sz {n:Nat} (hn:n≤8):(List.range n).length≤sizeLine:=by
 rw [List.length_range];unfold sizeLine;omega
open PySem.Builtin.Int in
theorem ZaK {ns:List Int} {k:Nat} (hb:∀i∈ns,Builtin.Int.intBits i≤2^20) (hk:k≤1000):∃c:Int,Builtin.Int.intBits c≤2^20∧∀h,Pu (Ff [.scr ns,.int (k:Nat)] h) h (.int c):=by
 by_cases hl:k<ns.length
 ·refine ⟨ns[k],hb _ (Hz hl),fun h=>?_⟩
  change Wp (Am 2 LR [.scr ns,.int (k:Nat)] h) _
  refine Eq.mpr (A9) ?_
  have:(k:Int)<ns.length:=by omega
  simp [this]
  refine Au (Wz (Bb hl)) ?_
  simp [Sm.refl]
 ·refine ⟨6151*(k:Int)+29,?_,fun h=>?_⟩
  ·rw [intBits_le_iff]
   have h1:(6151*(k:Int)+29).natAbs<2^30:=by omega
   exact AX h1 (DF (by decide) (by omega))
  ·change Wp (Am 2 LR [.scr ns,.int (k:Nat)] h) _
   refine Eq.mpr (A9) ?_
   have:¬(k:Int)<ns.length:=by omega
   simp [this]
   rw [Ge (by decide) (by decide)]
   simp [Sm.refl]
def SV (c:Int) (k:Nat):Int:=(((c+1)*40692+104729*(k:Int))*((c+1)*40692+104729*(k:Int))) % 2147483399+(k:Int)
theorem ZaL {h:HD}:HV [.int 24] h=.ok ((List.range 24).map fun k=>D.int ((k:Nat):Int),[]) h:=Gd (n:=24) (by decide)
theorem ZaM {c:Int} {k:Nat} (hc:Builtin.Int.intBits c≤2^20) (hk:k≤1000):∃r:Int,∀h,Pu (Fg [.int c,.int (k:Nat)] h) h (.int r):=by
 refine ⟨SV c k*(SV c k+31) % 2147483563,fun h=>?_⟩
 change Wp (Am 3 Ox [.int c,.int (k:Nat)] h) _
 refine Eq.mpr (A9) ?_
 have bX:Builtin.Int.intBits ((c+1)*40692+104729*(k:Int))≤16777216:=by
  have hk':Builtin.Int.intBits ((k:Nat):Int)≤10:=PySem.intBits_le_iff.mpr (by omega)
  have:=PySem.intBits_add_le (PySem.intBits_mul_le (PySem.intBits_add_le hc (show Builtin.Int.intBits 1≤1 by decide)) (show Builtin.Int.intBits 40692≤16 by decide)) (PySem.intBits_mul_le (show Builtin.Int.intBits 104729≤17 by decide) hk')
  exact BA this (by decide)
 have h1:=Int.emod_nonneg (((c+1)*40692+104729*(k:Int))*((c+1)*40692+104729*(k:Int))) (show (2147483399:Int)≠0 by decide)
 have h2:=Int.emod_lt_of_pos (((c+1)*40692+104729*(k:Int))*((c+1)*40692+104729*(k:Int))) (show (0:Int)<2147483399 by decide)
 simp
 rw [QT (by decide) (by decide)]
 simp
 rw [Ge (by decide) (by decide)]
 simp
 rw [WC bX bX]
 simp
 rw [K9 (by decide)]
 simp
 rw [Ge (by omega) (by omega)]
 simp
 rw [K9 (by decide)]
 simp
 exact ⟨rfl,.refl _⟩
def BoxAt (h:HD) (b:Nat):Prop:=∃n:Int,h[b]?=some (.lst [.int n])
inductive SW (ns:List Int) (k:Nat) (c:Int) (h:HD) (xs:List Nat) (ρ:Ah) (h':HD):Prop where
 |mk (N:Int) (x:Option D) (f0:ρ=[some (.scr ns),some (.int (k:Nat)),some (.int c),some (.int N),x]) (f1:Sm h h') (f2:∀j∈xs,j<24):SW ns k c h xs ρ h'
theorem ZaN {ns:List Int} {k:Nat} {h:HD} {Q:D→HD→Prop} (hb:∀i∈ns,Builtin.Int.intBits i≤2^20) (hk:k≤1000) (q:∀l h',BoxAt h' l→h.length≤l→Sm h h'→Q (.loc l) h'):Wp (Ew [.scr ns,.int (k:Nat)] h) Q:=by
 change Wp (Am 5 (OB Ff Fg) [.scr ns,.int (k:Nat)] h) _
 refine Eq.mpr (A9) ?_
 obtain ⟨c,bc,pc⟩:=ZaK (k:=k) hb hk
 simp
 refine (pc h).wp fun h1 s1=>?_
 rw [K9 (by decide)]
 simp
 by_cases hz:c % 2=0
 ·simp [hz]
  rw [QU (by decide) (by decide)]
  simp
  exact A7 (by simp) fun l h' s e el _=>q l h' ⟨_,e⟩ (by have:=s1.len;omega) (s1.trans s)
 ·simp [hz]
  refine DT (src:=[]) (xs:=List.range 24) (fun i=>.int ((i:Nat):Int)) (SW ns k c h) ?_ (fun ys ρ h' _=>DR) ?_ ?_
  ·simp [ZaL]
   exact ⟨_,_,rfl,s1,fun j hj=>qb1.mp hj⟩
  ·rintro x xs ρ h' ⟨N,y,rfl,sh,hx⟩
   refine ⟨_,rfl,?_⟩
   obtain ⟨m,pm⟩:=ZaM (k:=x) bc (by have:=hx x AO;omega)
   simp
   rw [QT (by decide) (by decide)]
   simp
   refine (pm h').wp fun h2 s2=>?_
   simp [El]
   exact ⟨_,_,rfl,sh.trans s2,fun j hj=>hx j (AS _ hj)⟩
  ·rintro ρ h' ⟨N,y,rfl,sh,_⟩
   simp
   exact A7 (by simp) fun l h' s e el _=>q l h' ⟨_,e⟩ (by have:=sh.len;omega) (sh.trans s)
def Smx (b:Nat) (h h':HD):Prop:=∀(l:Nat) (c:Cell),l≠b→h[l]?=some c→h'[l]?=some c
theorem Smx.refl (b:Nat) (h:HD):Smx b h h:=fun _ _ _ e=>e
theorem Smx.trans {b:Nat} {h h1 h2:HD} (a:Smx b h h1) (c:Smx b h1 h2):Smx b h h2:=fun l x n e=>c l x n (a l x n e)
theorem ZaO {b:Nat} {m:Int} {h:HD} {Q:D→HD→Prop} (hx:BoxAt h b) (h1:0<m) (h2:m<18446744073709551616) (q:∀d h',0≤d→d<m→BoxAt h' b→Smx b h h'→Q (.int d) h'):Wp (B1 [.loc b,.int m] h) Q:=by
 change Wp (Am 4 Oy [.loc b,.int m] h) _
 refine Eq.mpr (A9) ?_
 obtain ⟨N,e⟩:=hx
 simp
 rw [show (0:Int)=((0:Nat):Int) from rfl]
 refine Au (B8 e (k:=0) rfl) ?_
 simp
 refine Au (WD h1 h2) ?_
 simp
 rw [show (0:Int)=((0:Nat):Int) from rfl]
 refine Au (WA e (by simp)) ?_
 simp
 have hl:b<h.length:=(qa5.mp e).1
 refine q _ _ (Int.emod_nonneg _ (by omega)) (Int.emod_lt_of_pos _ h1) ⟨_,by rw [CF hl]⟩ fun l c ne el=>?_
 rw [BU (Ne.symm ne)]
 exact el
theorem BoxAt.sm {b:Nat} {h h':HD} (x:BoxAt h b) (s:Sm h h'):BoxAt h' b:=let ⟨n,e⟩:=x;⟨n,s _ _ e⟩
theorem BoxAt.smx {a b:Nat} {h h':HD} (x:BoxAt h b) (s:Smx a h h') (ne:b≠a):BoxAt h' b:=let ⟨n,e⟩:=x;⟨n,s _ _ ne e⟩
theorem BoxAt.new {b:Nat} {h:HD} {c:Cell} (x:BoxAt h b):BoxAt (h++[c]) b:=x.sm (.app _ _)
def Plain (h:HD):D→Prop
 |.int _=>True
 |.bl _=>True
 |.non=>True
 |.str _=>True
 |.tup _=>True
 |.edic=>True
 |.loc l=>∃ds,h[l]?=some (.lst ds)
 |_=>False
theorem Plain.sm {h h':HD} {d:D} (p:Plain h d) (s:Sm h h'):Plain h' d:=by
 cases d with
 |loc l=>obtain ⟨ds,e⟩:=p;exact ⟨ds,s _ _ e⟩
 |_=>exact p
def CB:D→List D
 |.tup ds=>ds
 |_=>[]
def Plain2 (h:HD) (d:D):Prop:=Plain h d∧∀x∈CB d,Plain h x
def Plain3 (h:HD) (d:D):Prop:=Plain h d∧∀x∈CB d,Plain2 h x
theorem Plain2.sm {h h':HD} {d:D} (p:Plain2 h d) (s:Sm h h'):Plain2 h' d:=⟨p.1.sm s,fun x hx=>(p.2 x hx).sm s⟩
theorem Plain3.sm {h h':HD} {d:D} (p:Plain3 h d) (s:Sm h h'):Plain3 h' d:=⟨p.1.sm s,fun x hx=>(p.2 x hx).sm s⟩
def JY:D→Bool
 |.int i=>decide (0≤i)&&decide (i≤1)
 |_=>false
def Di:D→Bool
 |.tup ds=>decide (1≤ds.length)&&decide (ds.length≤8)
 |_=>false
def DJ (d:D):Bool:=Di d&&(CB d).all JY
def FN (d:D):Nat:=(CB d).length
def Gr (d:D):Bool:=Di d&&(CB d).all DJ&&(CB d).all fun x=>FN x==FN ((CB d).getD 0 .non)
theorem p_is_between_int {i a b:Int} {h:HD}:Pu (BZ [.int i,.int a,.int b] h) h (.bl (decide (a≤i)&&decide (i≤b))):=by
 change Wp (Am 3 (JS Df) [.int i,.int a,.int b] h) _
 refine Eq.mpr (A9) ?_
 have e:Df [.int i] h=.ok (.bl true) h:=rfl
 simp [e]
 by_cases h1:a≤i<;>simp [h1,Az,Sm.refl]
theorem ZaP {d:D} {a b:Int} {h:HD} (e:Df [d] h=.ok (.bl false) h):Pu (BZ [d,.int a,.int b] h) h (.bl false):=by
 change Wp (Am 3 (JS Df) [d,.int a,.int b] h) _
 refine Eq.mpr (A9) ?_
 simp [e,Sm.refl]
def OM:D→Bool
 |.int _=>true
 |_=>false
theorem ZaQ {d:D} {h:HD} (p:Plain h d):Df [d] h=.ok (.bl (OM d)) h:=by
 cases d with
 |loc l=>
  obtain ⟨ds,e⟩:=p
  have i1:AC (.loc l) (.ty "int") h=.ok (.bl false) h:=RZ e
  have w:Wp (Am 1 JR [.loc l] h) fun d h'=>d=.bl false∧h'=h:=by
   refine Eq.mpr A9 ?_
   simp [-X1,i1]
  obtain ⟨a,h',e',rfl,rfl⟩:=Wp.ex w
  exact e'
 |tup ds=>rfl
 |int i=>rfl
 |bl b=>rfl
 |non=>rfl
 |str x=>rfl
 |edic=>rfl
 |_=>exact p.elim
theorem ZaR {d:D} (h:OM d=true):∃i,d=.int i:=by cases d<;>first |exact ⟨_,rfl⟩ |cases h
theorem ZaS {d:D} {h:HD} (p:Plain h d):Pu (Fh [d] h) h (.bl (JY d)):=by
 change Wp (Am 1 (OC BZ) [d] h) _
 refine Eq.mpr A9 ?_
 simp
 cases hw:OM d with
 |true=>
  obtain ⟨i,rfl⟩:=ZaR hw
  exact p_is_between_int.wp fun h' s=>⟨rfl,s⟩
 |false=>
  have e:=ZaQ p
  rw [hw] at e
  have e2:JY d=false:=by cases d<;>first |rfl |cases hw
  exact (ZaP e).wp fun h' s=>⟨by rw [e2],s⟩
def ON:D→Bool
 |.tup _=>true
 |_=>false
theorem ZaT {d:D} {h:HD} (p:Plain h d):AC d (.ty "tuple") h=.ok (.bl (ON d)) h:=by
 cases d with
 |loc l=>obtain ⟨ds,e⟩:=p;exact X2 e
 |tup ds=>rfl
 |int i=>rfl
 |bl b=>rfl
 |non=>rfl
 |str x=>rfl
 |edic=>rfl
 |_=>exact p.elim
theorem ZaU {d:D} (h:ON d=true):∃ds,d=.tup ds:=by cases d<;>first |exact ⟨_,rfl⟩ |cases h
theorem SY {d:D} {h:HD} (p:Plain h d):Pu (Cq [d] h) h (.bl (Di d)):=by
 change Wp (Am 1 Ot [d] h) _
 refine Eq.mpr A9 ?_
 cases hT:ON d with
 |true=>
  obtain ⟨ds,rfl⟩:=ZaU hT
  have a1:(1:Int)≤ds.length↔1≤ds.length:=by omega
  have a2:(ds.length:Int)≤8↔ds.length≤8:=by omega
  by_cases h1:1≤ds.length
  ·by_cases h2:ds.length≤8
   ·simp [a1.mpr h1,a2.mpr h2,Az,Sm.refl,Di,h1,h2]
   ·have b2:¬(ds.length:Int)≤8:=by omega
    simp [a1.mpr h1,b2,Az,Sm.refl,Di,h1,h2]
  ·have b1:¬(1:Int)≤ds.length:=by omega
   simp [b1,Az,Sm.refl,Di,h1]
 |false=>
  have:Di d=false:=by cases d<;>first |rfl |cases hT
  simp [ZaT p,hT,this,Sm.refl]
theorem OO {d:D} (h:Di d=true):∃ds,d=.tup ds∧1≤ds.length∧ds.length≤8:=by
 cases d with
 |tup ds=>exact ⟨ds,rfl,by simpa [Di] using h⟩
 |_=>cases h
theorem ZaV {d:D} {h:HD} (p:Plain2 h d):Pu (Fi [d] h) h (.bl (DJ d)):=by
 change Wp (Am 1 (OD Cq Fh) [d] h) _
 refine Eq.mpr (A9) ?_
 simp
 refine (SY p.1).wp fun h1 s1=>?_
 cases hl:Di d with
 |false=>simp [DJ,hl,s1]
 |true=>
  obtain ⟨ds,rfl,l1,l2⟩:=OO hl
  simp
  refine Pu.wp (Nl (src:=[]) (xs:=ds) (φ:=fun x=>x) JY (fun x=>[some x]) (by rw [List.map_id'];exact Jx) (fun x _=>rfl) (fun x hx h' s'=>?_) (by unfold sizeLine;omega)) fun h2 s2=>?_
  ·simp [Pu]
   exact ZaS ((p.2 x hx).sm (s1.trans s'))
  ·simp [DJ,hl,CB,s1.trans s2]
theorem SZ {d:D} {h:HD} (hl:Di d=true):Bm d h=.ok (.int (FN d:Nat)) h:=by
 obtain ⟨ds,rfl,_,_⟩:=OO hl
 simp [FN,CB]
theorem S3 {d:D} (h:DJ d=true):Di d=true:=by unfold DJ at h;exact (Bool.and_eq_true_iff.mp h).1
theorem ZaW {d:D} {h:HD} (p:Plain3 h d):Pu (Fj [d] h) h (.bl (Gr d)):=by
 change Wp (Am 1 (OE Cq Fi) [d] h) _
 refine Eq.mpr (A9) ?_
 simp
 refine (SY p.1).wp fun h1 s1=>?_
 cases hl:Di d with
 |false=>simp [Gr,hl,s1]
 |true=>
  obtain ⟨ds,rfl,l1,l2⟩:=OO hl
  simp
  refine Pu.wp (Nl (src:=[]) (xs:=ds) (φ:=fun x=>x) DJ (fun x=>[some x]) (by rw [List.map_id'];exact Jx) (fun x _=>rfl) (fun x hx h' s'=>?_) (by unfold sizeLine;omega)) fun h2 s2=>?_
  ·simp [Pu]
   exact ZaV ((p.2 x hx).sm (s1.trans s'))
  ·cases ha:ds.all DJ with
   |false=>simp [Gr,hl,CB,ha,s1.trans s2]
   |true=>
    simp
    have hr:∀x∈ds,DJ x=true:=fun x hx=>qaN.mp ha x hx
    obtain ⟨d0,rest,rfl⟩:∃d0 rest,ds=d0::rest:=by
     cases ds with
     |nil=>simp at l1
     |cons a r=>exact ⟨a,r,rfl⟩
    refine Pu.wp (Nl (src:=[]) (xs:=d0::rest) (φ:=fun x=>x) (fun x=>FN x==FN d0) (fun x=>[some x,some (.tup (d0::rest))]) (by rw [List.map_id'];exact Jx) (fun x _=>rfl) (fun x hx h' s'=>?_) (by unfold sizeLine;omega)) fun h3 s3=>?_
    ·simp [Pu]
     rw [SZ (S3 (hr x hx))]
     simp
     rw [show (0:Int)=((0:Nat):Int) from rfl]
     refine Au (ix_tup (k:=0) rfl) ?_
     simp
     rw [SZ (S3 (hr d0 AO))]
     simp [Sm.refl]
     rw [qbT]
     simp
     omega
    ·have:(d0::rest).all DJ=true:=ha
     simp only [Gr,hl,CB,this,Bool.true_and]
     refine ⟨?_,(s1.trans s2).trans s3⟩
     simp
theorem ZaX {d:D} {h:HD} (p:Plain3 h d) (hb:Gr d=true):Pu (Cg [d] h) h .non:=by
 change Wp (Am 1 (OF Fj) [d] h) _
 refine Eq.mpr (A9) ?_
 simp
 refine (ZaW p).wp fun h1 s1=>?_
 simp [hb,s1]
def lit (x:Bool):D:=.int (if x then 1 else 0)
def AD (w:Nat) (f:Nat→Bool):D:=.tup ((List.range w).map fun j=>lit (f j))
def bD (h w:Nat) (f:Nat→Nat→Bool):D:=.tup ((List.range h).map fun i=>AD w (f i))
section
variable {H W:Nat} {h:HD} {f:Nat→Nat→Bool} {r:Nat→Bool}
theorem ZaY {x:Bool}:JY (lit x)=true:=by cases x<;>rfl
theorem ZaZ:Plain2 h (AD W r):=⟨trivial,fun x hx=>by
 simp only [AD,CB,qaW] at hx
 obtain ⟨j,_,rfl⟩:=hx
 exact trivial⟩
theorem Za0:Plain3 h (bD H W f):=⟨trivial,fun x hx=>by
 simp only [bD,CB,qaW] at hx
 obtain ⟨j,_,rfl⟩:=hx
 exact ZaZ⟩
theorem S4 {ds:List D} (h1:1≤ds.length) (h2:ds.length≤8):Di (.tup ds)=true:=by simp [Di,h1,h2]
theorem Za1 (hw:1≤W∧W≤8):DJ (AD W r)=true:=by
 unfold DJ
 rw [CN]
 refine ⟨S4 (by simp;omega) (by simp;omega),qaN.mpr fun x hx=>?_⟩
 simp only [AD,CB,qaW] at hx
 obtain ⟨j,_,rfl⟩:=hx
 exact ZaY
theorem S5:FN (AD W r)=W:=by simp [FN,AD,CB]
theorem Za2 (hh:1≤H∧H≤8) (hw:1≤W∧W≤8):Gr (bD H W f)=true:=by
 unfold Gr
 rw [CN,CN]
 refine ⟨⟨S4 (by simp;omega) (by simp;omega),qaN.mpr fun x hx=>?_⟩,qaN.mpr fun x hx=>?_⟩
 ·simp only [bD,CB,qaW] at hx
  obtain ⟨j,_,rfl⟩:=hx
  exact Za1 hw
 ·simp only [bD,CB,qaW] at hx ⊢
  obtain ⟨j,_,rfl⟩:=hx
  have:((List.range H).map fun i=>AD W (f i)).getD 0 .non=AD W (f 0):=by
   rw [EA,Ca,Ht (by omega)];rfl
  rw [this,S5,S5]
  simp
theorem S6 (hh:1≤H∧H≤8) (hw:1≤W∧W≤8):Pu (Cg [bD H W f] h) h .non:=ZaX Za0 (Za2 hh hw)
end
section
variable {h:HD}
theorem Za3:Jk (.int 10) (.int 29) h=.ok (.int (10^29)) h:=by
 simp only [Jk,LS.intD]
 rw [if_pos (by decide)]
 rfl
variable {H W:Nat} {f:Nat→Nat→Bool} {r:Nat→Bool}
theorem L4:Bm (bD H W f) h=.ok (.int (H:Nat)) h:=by simp [bD]
theorem JZ:Bm (AD W r) h=.ok (.int (W:Nat)) h:=by simp [AD]
theorem J0 (hk:1≤H):AY (bD H W f) (.int 0) h=.ok (AD W (f 0)) h:=Wy (by omega)
def ZeW (h:HD) (H W:Nat) (x:D):Prop:=Plain2 h x∧(DJ x=false∨(1<H∧FN x≠W))
def ZeX (H W:Nat) (f:Nat→Nat→Bool) (A:Nat) (x:D):D:=.tup (((List.range H).map fun i=>AD W (f i)).take A++[x]++((List.range H).map fun i=>AD W (f i)).drop (A+1))
def NoB (h:HD) (d:D):Prop:=Plain3 h d∧Gr d=false
theorem NoB.sm {h':HD} {d:D} (n:NoB h d) (s:Sm h h'):NoB h' d:=⟨n.1.sm s,n.2⟩
end
theorem Plain.smx {b:Nat} {h h':HD} {d:D} (p:Plain h d) (s:Smx b h h') (x:BoxAt h' b):Plain h' d:=by
 cases d with
 |loc l=>
  obtain ⟨ds,e⟩:=p
  by_cases hl:l=b
  ·obtain ⟨n,e'⟩:=x
   exact ⟨_,hl ▸ e'⟩
  ·exact ⟨ds,s _ _ hl e⟩
 |_=>exact p
theorem Plain2.smx {b:Nat} {h h':HD} {d:D} (p:Plain2 h d) (s:Smx b h h') (x:BoxAt h' b):Plain2 h' d:=⟨p.1.smx s x,fun y hy=>(p.2 y hy).smx s x⟩
theorem Plain3.smx {b:Nat} {h h':HD} {d:D} (p:Plain3 h d) (s:Smx b h h') (x:BoxAt h' b):Plain3 h' d:=⟨p.1.smx s x,fun y hy=>(p.2 y hy).smx s x⟩
theorem NoB.smx {b:Nat} {h h':HD} {d:D} (n:NoB h d) (s:Smx b h h') (x:BoxAt h' b):NoB h' d:=⟨n.1.smx s x,n.2⟩
def TabAt (h:HD):Prop:=h[0]?=some .tab
theorem TabAt.sm {h h':HD} (t:TabAt h) (s:Sm h h'):TabAt h':=s _ _ t
theorem TabAt.smx {b:Nat} {h h':HD} (t:TabAt h) (s:Smx b h h') (hb:0<b):TabAt h':=s _ _ (by omega) t
theorem TabAt.pos {h:HD} (t:TabAt h):0<h.length:=(qa5.mp t).1
theorem Za4 {b:Nat} {m:Int} {h:HD} {Q:D→HD→Prop} (hx:BoxAt h b) (hb:0<b) (ht:TabAt h) (h1:0<m) (h2:m≤1000) (q:∀(d:Nat) h',(d:Int)<m→BoxAt h' b→TabAt h'→Smx b h h'→Q (.int (d:Nat)) h'):Wp (B1 [.loc b,.int m] h) Q:=
 ZaO hx (by omega) (by omega) fun d h' d0 d1 x s=>by
  obtain ⟨k,rfl⟩:∃k:Nat,d=(k:Int):=⟨d.toNat,by omega⟩
  exact q k h' (by omega) x (ht.smx s hb) s
theorem BoxAt.lt {b:Nat} {h:HD} (x:BoxAt h b):b<h.length:=let ⟨_,e⟩:=x;(qa5.mp e).1
theorem S7 {xs ys:List D} {h:HD} (hz:xs.length+ys.length≤1000):AA (.tup xs) (.tup ys) h=.ok (.tup (xs++ys)) h:=by
 simp only [AA]
 rw [if_pos (by unfold sizeLine;omega)]
theorem OP {P:D→Prop}:∀d∈([]:List D),P d:=fun d hd=>by cases hd
theorem all_cons {P:D→Prop} {a:D} {l:List D} (h:P a) (t:∀d∈l,P d):∀d∈a::l,P d:=fun d hd=>by
 rcases qa7.mp hd with rfl |hd
 ·exact h
 ·exact t d hd
theorem Za5 (P:D→Prop) {l o:Nat} {ds:List D} {h:HD} (e:h[l]?=some (.lst ds)) (ho:o<ds.length) (hp:∀d∈ds,P d):∃y,AY (.loc l) (.int (o:Nat)) h=.ok y h∧P y:=
 ⟨ds[o],B8 e (Bb ho),hp _ (Hz ho)⟩
def J1 (c:Str):List V:=[.bl (Bc c "NoBoard"),.bl (Bc c "NoLine"),.bl (Bc c "NoSwitching"),.bl (Bc c "NoNumber"),.bl (Bc c "Unlike"),.bl (Bc c "NoNet"),.bl (Bc c "NoPlace"),.bl (Bc c "NoText"),.bl (Bc c "NoRow"),.bl (Bc c "TooMany")]
def Za6:List D:=[.str "board",.str "line",.str "switching",.str "number",.str "unlike",.str "net",.str "place",.str "text",.str "row"]
theorem Za7 {c w t:Str} {j:Nat} {h:HD} (hc:c∈excNames) (hn:FG (.bl true) (J1 c)=1) (h9:Bc c "TooMany"=false) (hj:Lo (.bl true) (J1 c)=some j) (hw:Za6[j]?=some (.str w)) (hz:((("! ":String):Str)).length+w.length≤1000) (ht:((("! ":String):Str))++w=t):Pu (CL [.exc c []] h) h (.str t):=by
 have i0:∀h,AC (.exc c []) (.glo "NoBoard") h=.ok (.bl (Bc c "NoBoard")) h:=fun h=>B9 hc (by decide +kernel)
 have i1:∀h,AC (.exc c []) (.glo "NoLine") h=.ok (.bl (Bc c "NoLine")) h:=fun h=>B9 hc (by decide +kernel)
 have i2:∀h,AC (.exc c []) (.glo "NoSwitching") h=.ok (.bl (Bc c "NoSwitching")) h:=fun h=>B9 hc (by decide +kernel)
 have i3:∀h,AC (.exc c []) (.glo "NoNumber") h=.ok (.bl (Bc c "NoNumber")) h:=fun h=>B9 hc (by decide +kernel)
 have i4:∀h,AC (.exc c []) (.glo "Unlike") h=.ok (.bl (Bc c "Unlike")) h:=fun h=>B9 hc (by decide +kernel)
 have i5:∀h,AC (.exc c []) (.glo "NoNet") h=.ok (.bl (Bc c "NoNet")) h:=fun h=>B9 hc (by decide +kernel)
 have i6:∀h,AC (.exc c []) (.glo "NoPlace") h=.ok (.bl (Bc c "NoPlace")) h:=fun h=>B9 hc (by decide +kernel)
 have i7:∀h,AC (.exc c []) (.glo "NoText") h=.ok (.bl (Bc c "NoText")) h:=fun h=>B9 hc (by decide +kernel)
 have i8:∀h,AC (.exc c []) (.glo "NoRow") h=.ok (.bl (Bc c "NoRow")) h:=fun h=>B9 hc (by decide +kernel)
 have i9:∀h,AC (.exc c []) (.glo "TooMany") h=.ok (.bl (Bc c "TooMany")) h:=fun h=>B9 hc (by decide +kernel)
 have iv:∀h,AC (.exc c []) (.ty "ValueError") h=.ok (.bl true) h:=fun h=>R0 hc
 change Wp (Am 3 LU [.exc c []] h) _
 refine Eq.mpr A9 ?_
 simp [-Ao,i0,i1,i2,i3]
 refine A7 (by simp) fun l1 h1 s1 e1 _ _=>?_
 refine Eq.mpr Ao ?_
 simp [-Ao,i4,i5,i6,i7]
 refine A7 (by simp) fun l2 h2 s2 e2 _ _=>?_
 refine Au (Iu (s2 _ _ e1) e2) ?_
 refine A7 (by simp) fun l3 h3 s3 e3 _ _=>?_
 refine Eq.mpr Ao ?_
 simp [-Ao,i8,i9]
 refine A7 (by simp) fun l4 h4 s4 e4 _ _=>?_
 refine Au (Iu (s4 _ _ e3) e4) ?_
 refine A7 (by simp) fun l5 h5 s5 e5 _ _=>?_
 refine Eq.mpr Ao ?_
 simp [-Ao,iv,FC e5]
 refine Au ((Lw (vs:=J1 c) e5 rfl rfl).trans (by rw [hn])) ?_
 simp [-Ao]
 refine Eq.mpr Ao ?_
 simp [-Ao]
 rw [show (9:Int)=((9:Nat):Int) from rfl]
 refine Au (B8 e5 (k:=9) rfl) ?_
 simp [-Ao,h9]
 refine Eq.mpr Ao ?_
 simp [-Ao]
 refine A7 (by simp) fun l6 h6 s6 e6 _ _=>?_
 refine Eq.mpr Ao ?_
 simp [FC (s6 _ _ e5)]
 refine Au (X3 (s6 _ _ e5) rfl rfl hj) ?_
 simp only [Bh]
 refine Au (B8 e6 hw) ?_
 simp only [Bh]
 refine Au (Ir hz) ?_
 exact ⟨congrArg D.str ht,((((s1.trans s2).trans s3).trans s4).trans s5).trans s6⟩
theorem S8 {fs:List (Str×Int)} {nm:Str} {i:Int} {ρ:Ah} {h:HD} {Q:D→HD→Prop} (e:fs.lookup nm=some i) (q:Q (.int i) h):Wp (JI (Ab 0) nm (some (.exc "TooMany" fs)::ρ) h) Q:=by
 unfold JI
 rw [Az,DS]
 unfold Oa
 simp only [if_pos,e]
 exact q
theorem Za8 {fs:List (Str×Int)} {a b:Int} {x y t:Str} {h:HD} (ea:fs.lookup ("many":Str)=some a) (eb:fs.lookup ("most":Str)=some b) (ra:∀h,BN (.int a) h=.ok (.str x) h) (rb:∀h,BN (.int b) h=.ok (.str y) h) (hx:x.length≤100) (hy:y.length≤100) (et:((("! many ":String):Str)++x++((" ":String):Str)++y)=t):
 Pu (CL [.exc "TooMany" fs] h) h (.str t):=by
 have i0:∀h,AC (.exc "TooMany" fs) (.glo "NoBoard") h=.ok (.bl (Bc "TooMany" "NoBoard")) h:=fun h=>B9 (by decide +kernel) (by decide +kernel)
 have i1:∀h,AC (.exc "TooMany" fs) (.glo "NoLine") h=.ok (.bl (Bc "TooMany" "NoLine")) h:=fun h=>B9 (by decide +kernel) (by decide +kernel)
 have i2:∀h,AC (.exc "TooMany" fs) (.glo "NoSwitching") h=.ok (.bl (Bc "TooMany" "NoSwitching")) h:=fun h=>B9 (by decide +kernel) (by decide +kernel)
 have i3:∀h,AC (.exc "TooMany" fs) (.glo "NoNumber") h=.ok (.bl (Bc "TooMany" "NoNumber")) h:=fun h=>B9 (by decide +kernel) (by decide +kernel)
 have i4:∀h,AC (.exc "TooMany" fs) (.glo "Unlike") h=.ok (.bl (Bc "TooMany" "Unlike")) h:=fun h=>B9 (by decide +kernel) (by decide +kernel)
 have i5:∀h,AC (.exc "TooMany" fs) (.glo "NoNet") h=.ok (.bl (Bc "TooMany" "NoNet")) h:=fun h=>B9 (by decide +kernel) (by decide +kernel)
 have i6:∀h,AC (.exc "TooMany" fs) (.glo "NoPlace") h=.ok (.bl (Bc "TooMany" "NoPlace")) h:=fun h=>B9 (by decide +kernel) (by decide +kernel)
 have i7:∀h,AC (.exc "TooMany" fs) (.glo "NoText") h=.ok (.bl (Bc "TooMany" "NoText")) h:=fun h=>B9 (by decide +kernel) (by decide +kernel)
 have i8:∀h,AC (.exc "TooMany" fs) (.glo "NoRow") h=.ok (.bl (Bc "TooMany" "NoRow")) h:=fun h=>B9 (by decide +kernel) (by decide +kernel)
 have i9:∀h,AC (.exc "TooMany" fs) (.glo "TooMany") h=.ok (.bl (Bc "TooMany" "TooMany")) h:=fun h=>B9 (by decide +kernel) (by decide +kernel)
 have iv:∀h,AC (.exc "TooMany" fs) (.ty "ValueError") h=.ok (.bl true) h:=fun h=>R0 (by decide +kernel)
 change Wp (Am 3 LU [.exc "TooMany" fs] h) _
 refine Eq.mpr A9 ?_
 simp [-Ao,i0,i1,i2,i3]
 refine A7 (by simp) fun l1 h1 s1 e1 _ _=>?_
 refine Eq.mpr Ao ?_
 simp [-Ao,i4,i5,i6,i7]
 refine A7 (by simp) fun l2 h2 s2 e2 _ _=>?_
 refine Au (Iu (s2 _ _ e1) e2) ?_
 refine A7 (by simp) fun l3 h3 s3 e3 _ _=>?_
 refine Eq.mpr Ao ?_
 simp [-Ao,i8,i9]
 refine A7 (by simp) fun l4 h4 s4 e4 _ _=>?_
 refine Au (Iu (s4 _ _ e3) e4) ?_
 refine A7 (by simp) fun l5 h5 s5 e5 _ _=>?_
 refine Eq.mpr Ao ?_
 simp [-Ao,iv,FC e5]
 refine Au ((Lw (vs:=J1 "TooMany") e5 rfl rfl).trans (by rw [show FG (.bl true) (J1 "TooMany")=1 by decide +kernel])) ?_
 simp [-Ao]
 refine Eq.mpr Ao ?_
 simp [-Ao]
 rw [show (9:Int)=((9:Nat):Int) from rfl]
 refine Au (B8 e5 (k:=9) rfl) ?_
 simp [-Ao,show Bc "TooMany" "TooMany"=true by decide +kernel]
 refine S8 ea ?_
 refine Au (ra _) ?_
 rw [Bh]
 refine Au (Ir (by have:(("! many ":String):Str).length≤100:=by decide +kernel
                   omega)) ?_
 rw [Bh]
 have l1:((("! many ":String):Str)++x).length≤200:=by rw [Str.length_append];have:(("! many ":String):Str).length≤100:=by decide +kernel
                                                      omega
 refine Au (Ir (by have:((" ":String):Str).length≤100:=by decide +kernel
                   omega)) ?_
 rw [Bh]
 refine S8 eb ?_
 refine Au (rb _) ?_
 rw [Bh]
 have l2:((("! many ":String):Str)++x++((" ":String):Str)).length≤300:=by rw [Str.length_append];have:((" ":String):Str).length≤100:=by decide +kernel
                                                                          omega
 refine Au (Ir (by omega)) ?_
 exact ⟨congrArg D.str et,(((s1.trans s2).trans s3).trans s4).trans s5⟩
section
variable {H W:Nat} {h:HD} {f:Nat→Nat→Bool} {r:Nat→Bool}
theorem S9 (hh:1≤H∧H≤8) (hw:1≤W∧W≤8):Pu (Cr [bD H W f] h) h (bD W H fun i j=>f j i):=by
 change Wp (Am 1 (OH Cg) [bD H W f] h) _
 refine Eq.mpr (A9) ?_
 simp
 refine (S6 hh hw).wp fun h1 s1=>?_
 refine Pu.wp (K8 (src:=[]) (xs:=List.range W) (φ:=fun j=>.int ((j:Nat):Int)) (fun j=>AD H fun i=>f i j) (fun j=>[some (.int ((j:Nat):Int)),some (bD H W f)]) ?_ (fun x _=>rfl) (fun x hx h' s'=>?_) (sz hw.2)) fun h2 s2=>?_
 ·simp [BX,J0 hh.1,JZ]
  rw [Gd (by omega)]
  simp [Sm.refl,Bs]
 ·simp [Pu]
  refine (K8 (src:=[]) (xs:=List.range H) (φ:=fun i=>AD W (f i)) (fun i=>lit (f i x)) (fun i=>[some (AD W (f i)),some (.int ((x:Nat):Int))]) ?_ (fun x _=>rfl) (fun y hy h' s'=>?_) (sz hh.2))
  ·simp [BX,bD,Sm.refl,Bs]
  ·simp [Pu,AD]
   rw [K7 (by simpa using hx)]
   simp [Sm.refl]
 ·exact ⟨rfl,s1.trans s2⟩
theorem Za9:Du (AD W r) h=.ok (.int (Bi W r)) h:=WB
theorem Zba (hh:1≤H∧H≤8) (hw:1≤W∧W≤8):Pu (Fo [bD H W f] h) h (.tup ((List.range H).map fun i=>.int (Bi W (f i)))):=by
 change Wp (Am 1 (OG Cg) [bD H W f] h) _
 rw [A9]
 simp
 refine (S6 hh hw).wp fun h1 s1=>?_
 refine Pu.wp (K8 (src:=[]) (xs:=List.range H) (φ:=fun i=>AD W (f i)) (fun i=>.int (Bi W (f i))) (fun i=>[some (AD W (f i))]) Jx (fun x _=>rfl) (fun x hx h' s'=>?_) (sz hh.2)) fun h2 s2=>?_
 ·simp [Pu,Za9,Sm.refl]
 ·exact ⟨rfl,s1.trans s2⟩
theorem Zbb (hh:1≤H∧H≤8) (hw:1≤W∧W≤8):Pu (Fp [bD H W f] h) h (.tup ((List.range W).map fun j=>.int (Bi H fun i=>f i j))):=by
 change Wp (Am 1 (OI Cr Fo) [bD H W f] h) _
 rw [A9]
 simp
 refine (S9 hh hw).wp fun h1 s1=>?_
 refine (Zba hw hh).wp fun h2 s2=>?_
 simp [s1.trans s2]
end
def Ci (n:Nat) (p:Nat→Bool):D:=.tup (((List.range n).filter p).map fun i=>.int ((i:Nat):Int))
theorem J2 {a n:Nat} {h:HD} (ha:a≤1000) (hn:n≤1000):Jr [.int (a:Int),.int (n:Int)] h=.ok ((List.range (n - a)).map fun k=>D.int ((a:Int)+((k:Nat):Int)),[]) h:=by
 have:((-(2^62):Int)≤(a:Int)∧(a:Int)<2^62)∧(-(2^62):Int)≤(n:Int)∧(n:Int)<2^62:=by omega
 unfold Jr
 simp only
 rw [if_pos this]
 have e:((n:Int) - (a:Int)).toNat=n - a:=by omega
 rw [e]
 simp [F9]
theorem Hq {n k x:Nat} {xs:List Nat} (h:(List.range n).drop k=x::xs):x=k∧k<n∧xs=(List.range n).drop (k+1):=by
 have hk:k<n:=by
  have:=congrArg List.length h
  simp at this
  omega
 rw [Kj (by simpa using hk)] at h
 simp at h
 exact ⟨h.1.symm,hk,h.2.symm⟩
theorem Hr {n k:Nat} (hk:k≤n) (h:(List.range n).drop k=[]):k=n:=by
 have:=congrArg List.length h
 simp at this
 omega
def Cs (W:Nat) (c:Nat→Int):D:=.tup ((List.range W).map fun j=>.int (c j))
theorem Ta {W:Nat} {c c':Nat→Int} (h:∀j,j<W→c j=c' j):Cs W c=Cs W c':=by
 unfold Cs
 congr 1
 exact Hu fun j hj=>by rw [h j (by simpa using hj)]
theorem Zbc {W:Nat} {c:Nat→Int} {r:Nat→Bool} {h:HD} (hw:W≤8):Pu (Fc [Cs W c,AD W r] h) h (Cs W fun j=>c j+1 - 2*(if r j then 1 else 0)):=by
 change Wp (Am 2 Ou [Cs W c,AD W r] h) _
 rw [A9]
 simp
 refine Pu.wp (K8 (src:=[]) (xs:=List.range W) (φ:=fun j=>.tup [.int (c j),lit (r j)]) (fun j=>.int (c j+1 - 2*(if r j then 1 else 0))) (fun j=>[some (.int (c j)),some (lit (r j))]) ?_ (fun x _=>rfl) (fun x hx h' s'=>?_) (sz hw)) fun h2 s2=>?_
 ·simp [BX,Cs,AD]
  rw [W8 (e:=fun j=>.int (c j)) (e':=fun j=>lit (r j)) Rm Rm]
  simp [Sm.refl,Bs]
 ·simp [Pu,lit]
  rw [Ge (by decide) (by decide)]
  simp [Sm.refl]
 ·exact ⟨rfl,s2⟩
theorem Zbd {W H:Nat} {c:Nat→Int} {h:HD} (hw:W≤8):Pu (Fd [Cs W c,.int (H:Nat)] h) h (.int (Cf W H c)):=by
 change Wp (Am 2 Ov [Cs W c,.int (H:Nat)] h) _
 rw [A9]
 simp
 refine Pu.wp (NF (src:=[]) (xs:=List.range W) (φ:=fun j=>.int (c j)) (fun j=>if (H:Int) - c j<c j then (H:Int) - c j else c j) (fun j=>[some (.int (c j)),some (.int (H:Nat))]) Jx (fun x _=>rfl) (fun x hx h' s'=>?_) (sz hw)) fun h2 s2=>?_
 ·simp [Pu,Sm.refl]
 ·exact ⟨rfl,s2⟩
theorem Zbe {n m:Nat} {r r':Nat→Bool} (hm:m<n) (h:∀i,i≠m→r' i=r i) (hn:r' m=!r m):Bi n r'=Bi n r+1 - 2*(if r m then 1 else 0):=by
 have s1:∀k (r:Nat→Bool),Bi (k+1) r=Bi k r+if r k then 1 else 0:=fun k r=>by
  unfold Bi
  rw [Dl,CO,FR]
  simp
 have key:∀k:Nat,(k≤m→Bi k r'=Bi k r)∧(m<k→Bi k r'=Bi k r+1 - 2*(if r m then 1 else 0)):=fun k=>by
  induction k with
  |zero=>exact ⟨fun _=>rfl,fun z=>by omega⟩
  |succ k ih=>
   rw [s1,s1]
   refine ⟨fun hk=>?_,fun hk=>?_⟩
   ·rw [ih.1 (by omega),h k (by omega)]
   ·by_cases hz:k=m
    ·subst hz
     rw [ih.1 (by omega),hn]
     cases r k<;>simp<;>omega
    ·rw [ih.2 (by omega),h k hz]
     omega
 exact (key n).2 hm
theorem Zbf {H n:Nat} {f:Nat→Nat→Bool} {R:Nat→Bool} {j:Nat} (hn:n<H) (h0:R n=false):cc H f (ext n R) j=cc H f R j+1 - 2*(if f n j then 1 else 0):=by
 unfold cc
 rw [Zbe (r:=fun i=>Bool.xor (f i j) (R i)) hn (fun i hi=>by simp [ext,hi]) (by simp [ext,h0])]
 simp [h0]
theorem Zbg {n:Nat} {R:Nat→Bool}:Ci (n+1) (ext n R)=.tup (((List.range n).filter R).map (fun i=>D.int ((i:Nat):Int))++[.int ((n:Nat):Int)]):=by
 unfold Ci
 rw [Dl,List.filter_append]
 have e1:(List.range n).filter (ext n R)=(List.range n).filter R:=List.filter_congr fun i hi=>by
  have:i<n:=by simpa using hi
  simp [ext,show i≠n by omega]
 have e2:[n].filter (ext n R)=[n]:=by simp [ext]
 rw [e1,e2]
 simp
theorem Zbh {n:Nat} {R:Nat→Bool} (h:R n=false):Ci (n+1) R=Ci n R:=by
 unfold Ci
 rw [Dl,List.filter_append]
 simp [h]
theorem OQ {k:Nat} (hk:k≤7):(LL 1 k).length≤128:=by
 rw [NK]
 exact DF (n:=2) (by decide) hk
theorem L5 {n:Nat} (h:n≤1000):n≤sizeLine:=by unfold sizeLine;omega
def Ey (H W k:Nat) (f:Nat→Nat→Bool):List D:=(LL 1 k).map fun R=>.tup [Ci (k+1) R,Cs W (cc H f R)]
def LwI (H W:Nat) (f:Nat→Nat→Bool) (h:HD) (xs:List Nat) (ρ:Ah) (h':HD):Prop:=∃(k l:Nat) (x:Option D),xs=(List.range (H - 1)).drop k∧k≤H - 1∧ρ=[some (bD H W f),some (.loc l),x]∧Sm h h'∧h'[l]?=some (.lst (Ey H W k f))
theorem Zbi {n k:Nat} {e:Nat→D} {i:Int} {h:HD} (hi:i=(k:Int)) (hk:k<n):AY (.tup ((List.range n).map e)) (.int i) h=.ok (e k) h:=by
 subst hi;exact K7 hk
theorem Zbj {H W:Nat} {f:Nat→Nat→Bool} {h:HD} (hh:1≤H∧H≤8) (hw:1≤W∧W≤8):∃l h1,Dh [bD H W f] h=.ok (.loc l) h1∧Sm h h1∧h1[l]?=some (.lst (Ey H W (H - 1) f)):=by
 suffices hs:Wp (Dh [bD H W f] h) (fun d h1=>∃l,d=.loc l∧Sm h h1∧h1[l]?=some (.lst (Ey H W (H - 1) f))) by
  obtain ⟨d,h1,e,l,rfl,q⟩:=hs.ex
  exact ⟨l,h1,e,q⟩
 change Wp (Am 3 (OJ Fp Fc) [bD H W f] h) _
 rw [A9]
 simp [-Ao]
 refine (Zbb hh hw).wp fun h1 s1=>?_
 refine A7 (by simp) fun l h2 s2 e2 _ _=>?_
 rw [Ao]
 simp [-Ao]
 refine DT (src:=[]) (xs:=List.range (H - 1)) (fun k=>.int (1+(k:Int))) (LwI H W f h) ?_ (fun ys ρ h' _=>DR) ?_ ?_
 ·have eH:Bm (bD H W f) h2=.ok (.int ((H:Nat):Int)) h2:=by simp [bD]
  simp [eH]
  rw [show (1:Int)=((1:Nat):Int) from rfl,J2 (by omega) (by omega)]
  simp
  refine ⟨0,l,none,by simp,by omega,rfl,s1.trans s2,?_⟩
  rw [e2]
  simp [Ey,LL,Ci]
  exact Ta (W:=W) fun j _=>GP fun i _=>by simp
 ·rintro x xs ρ h' ⟨k,l',y,ex,hk,rfl,s',e'⟩
  obtain ⟨rfl,hk',rfl⟩:=Hq ex.symm
  refine ⟨_,rfl,?_⟩
  simp
  refine Dv (src:=[(l',Ey H W x f)]) (xs:=LL 1 x) (φ:=fun R=>.tup [Ci (x+1) R,Cs W (cc H f R)]) (fun _=>true) (fun R=>.tup [Ci (x+1+1) (ext (1+x) R),Cs W (cc H f (ext (1+x) R))]) (fun R=>[some (Ci (x+1) R),some (Cs W (cc H f R)),some (.int (1+(x:Int))),some (bD H W f)]) ?_ (L5 (BA (OQ (by omega)) (by decide))) (fun R _=>rfl) (fun R _ h2 s2=>(.ok:Pu (.ok true h2) h2 true)) (fun R hR _ h2 s2=>?_) fun l3 h3 s3 e3=>?_
  ·simp [Dc e',Ey]
   exact ⟨.refl _,fun h2 s2=>CW (s2 _ _ e')⟩
  ·have h0:R (1+x)=false:=Ii hR _ (by omega)
   simp [Pu]
   unfold Ci
   rw [Xa (L5 (by
    have:=Kk R (List.range (x+1))
    simp at this ⊢
    omega))]
   simp
   unfold bD
   rw [Zbi (k:=1+x) (by omega) (by omega)]
   simp
   refine (Zbc hw.2).wp fun h3 s3=>?_
   simp [s3]
   refine ⟨?_,Ta fun j _=>(Zbf (by omega) h0).symm⟩
   have e1:Ci (x+1+1) (ext (1+x) R)=Ci (x+1+1) (ext (x+1) R):=by rw [HE 1 x]
   have e2:=e1.trans (Zbg (n:=x+1) (R:=R))
   unfold Ci at e2
   have e3:=D.tup.inj e2
   rw [e3,show (1+(x:Int))=(((x+1:Nat)):Int) from by omega]
  ·rw [B7] at e3
   rw [W9 (s3 _ _ e') e3]
   have hlen:=OQ (k:=x) (by omega)
   refine A7 (L5 (by simp [Ey];omega)) fun l4 h4 s4 e4 _ _=>?_
   simp only [El]
   refine ⟨x+1,l4,_,rfl,by omega,rfl,s'.trans (s3.trans s4),?_⟩
   rw [e4]
   have ea:Ey H W x f=(LL 1 x).map fun R=>.tup [Ci (x+1+1) R,Cs W (cc H f R)]:=Hu fun R hR=>by rw [Zbh (n:=x+1) (Ii hR _ (by omega))]
   rw [ea]
   show _=some (Cell.lst ((LL 1 (x+1)).map fun R=>.tup [Ci (x+1+1) R,Cs W (cc H f R)]))
   rw [LL,CO,DL]
   rfl
 ·rintro ρ h' ⟨k,l',y,ex,hk,rfl,s',e'⟩
  have:k=H - 1:=Hr hk ex.symm
  subst this
  simp
  exact ⟨s',e'⟩
section
variable {H W:Nat} {f:Nat→Nat→Bool} {p q:Nat→Bool} {h:HD}
theorem Zbk {ρ:Ah} {l:Nat} {h1:HD} (e:Dh [bD H W f] h=.ok (.loc l) h1) (s:Sm h h1) (el:h1[l]?=some (.lst (Ey H W (H - 1) f))):
 BX (AR (Ag Dh (Aa (Ab 0) Ac)) (some (bD H W f)::ρ) h) h ((LL 1 (H - 1)).map fun R=>.tup [Ci (H - 1+1) R,Cs W (cc H f R)]) [(l,Ey H W (H - 1) f)]:=by
 have:AR (Ag Dh (Aa (Ab 0) Ac)) (some (bD H W f)::ρ) h=(Dh [bD H W f] h).bind EX:=rfl
 rw [this]
 exact NG e s el
theorem LLs (hh:1≤H∧H≤8):(LL 1 (H - 1)).length≤sizeLine:=L5 (BA (OQ (by omega)) (by decide))
theorem Tb (hh:1≤H∧H≤8) (hw:1≤W∧W≤8):Pu (Fq [bD H W f] h) h (.int (A4 H W f)):=by
 change Wp (Am 1 (OK Dh Fd) [bD H W f] h) _
 rw [A9]
 simp
 obtain ⟨l,h1,e,s1,el⟩:=Zbj (f:=f) (h:=h) hh hw
 refine Pu.wp (Xd (src:=[(l,Ey H W (H - 1) f)]) (xs:=LL 1 (H - 1)) (φ:=fun R=>.tup [Ci (H - 1+1) R,Cs W (cc H f R)]) (fun R=>Cf W H (cc H f R)) (fun R=>[some (Ci (H - 1+1) R),some (Cs W (cc H f R)),some (bD H W f)]) (Zbk e s1 el) (fun R _=>rfl) (fun R hR h' s'=>?_) (LLs hh) Rz) fun h2 s2=>?_
 ·simp [Pu,L4]
  exact Zbd hw.2
 ·exact ⟨rfl,s2⟩
end
theorem Tc:∀n a b:Nat,a≤n→b≤n→(a|||b)=(a ^^^b)+(a&&& b)
 |0,a,b,ha,hb=>by
  obtain rfl:a=0:=by omega
  obtain rfl:b=0:=by omega
  rfl
 |n+1,a,b,ha,hb=>by
  have ih:=Tc n (a / 2) (b / 2) (by omega) (by omega)
  rw [←Nat.or_div_two,←Nat.xor_div_two,←Nat.and_div_two] at ih
  have h1:=@Nat.or_mod_two_eq_one a b
  have h2:=@Nat.and_mod_two_eq_one a b
  have h3:=@Nat.xor_mod_two_eq_one a b
  rcases Nat.mod_two_eq_zero_or_one a with e |e<;>rcases Nat.mod_two_eq_zero_or_one b with e' |e'<;>omega
theorem bor {a b:Nat}:Builtin.bitOr (a:Int) (b:Int)=((a|||b:Nat):Int):=by
 have n1:∀x:Nat,decide (0≤Builtin.bitNot (x:Int))=false:=fun x=>by simp [Builtin.bitNot];omega
 have n2:∀x:Int,Builtin.bitNot (Builtin.bitNot x)=x:=fun x=>by simp [Builtin.bitNot];omega
 unfold Builtin.bitOr Builtin.bitAnd
 rw [n1,n1]
 simp only [n2,Int.toNat_natCast]
theorem bx {a b:Nat}:Builtin.bitXor (a:Int) (b:Int)=((a ^^^b:Nat):Int):=by
 have:=Tc (a+b) a b (by omega) (by omega)
 have e:Builtin.bitAnd (a:Int) (b:Int)=((a&&& b:Nat):Int):=rfl
 unfold Builtin.bitXor
 rw [bor,e]
 omega
def Cj (n:Nat):Int:=Bi 8 fun j=>n.testBit j
theorem Zbl:∀n<256,Cj n=Cj (n / 2)+((n % 2:Nat):Int):=by decide +kernel
def BF (W:Nat) (r:Nat→Bool):Nat:=((List.range W).map fun j=>(if r j then 1 else 0)*2^j).sum
theorem Td {W:Nat} {r:Nat→Bool}:BF (W+1) r=(if r W then 2^W else 0)+BF W r:=by
 unfold BF
 rw [Dl,CO,FR]
 simp [HE]
 by_cases e:r W=true<;>simp [e]
theorem J3 (r:Nat→Bool):∀W,BF W r<2^W∧∀j,(BF W r).testBit j=(decide (j<W)&&r j)
 |0=>by simp [BF]
 |W+1=>by
  obtain ⟨h1,h2⟩:=J3 r W
  rw [Td]
  cases e:r W with
  |false=>
   simp only [CH,if_false,Nat.zero_add]
   refine ⟨AX h1 (DF (by decide) (by omega)),fun j=>?_⟩
   rw [h2 j]
   by_cases z:j=W
   ·subst z;simp [e]
   ·have:decide (j<W)=decide (j<W+1):=by simp;omega
    rw [this]
  |true=>
   simp only [if_true]
   have h3:2^W+BF W r<2^(W+1):=by rw [Nat.pow_succ];omega
   refine ⟨h3,fun j=>?_⟩
   rcases Nat.lt_trichotomy j W with z |z |z
   ·rw [Nat.testBit_two_pow_add_gt z,h2 j]
    have:decide (j<W)=decide (j<W+1):=by simp;omega
    rw [this]
   ·subst z
    rw [Nat.testBit_two_pow_add_eq,h2 j]
    simp [e]
   ·rw [Nat.testBit_lt_two_pow (AX h3 (DF (by decide) z))]
    simp;omega
theorem Te {n:Nat} {r:Nat→Bool}:∀{m:Nat},n≤m→(∀j,n≤j→r j=false)→Bi m r=Bi n r
 |0,h,_=>by have:n=0:=by omega
            rw [this]
 |m+1,h,hr=>by
  by_cases z:n=m+1
  ·rw [z]
  ·rw [←Te (m:=m) (by omega) hr]
   unfold Bi
   rw [Dl,CO,FR]
   simp [hr m (by omega)]
theorem Zbm {W c:Nat} {r:Nat→Bool} (hW:W≤8) (hc:c<2^W):Cj (BF W r ^^^c)=Bi W fun j=>Bool.xor (r j) (c.testBit j):=by
 unfold Cj
 rw [Te (n:=W) hW]
 ·refine GP fun j hj=>?_
  rw [Nat.testBit_xor,(J3 r W).2 j]
  simp [hj]
 ·intro j hj
  rw [Nat.testBit_xor,(J3 r W).2 j,Nat.testBit_lt_two_pow (AX hc (DF (by decide) hj))]
  simp
  omega
def RR:Nat→List (Nat→Bool)
 |0=>[fun _=>false]
 |k+1=>(RR k).flatMap fun r=>[r,ext (k+1) r]
theorem L6:∀{k:Nat} {r:Nat→Bool},r∈RR k→∀i,i=0∨k<i→r i=false
 |0,r,h,i,_=>by
  rw [RR,qaD] at h
  rw [h]
 |k+1,r,h,i,hi=>by
  rw [RR,List.mem_flatMap] at h
  obtain ⟨r',hr,h⟩:=h
  have:=L6 hr i (by omega)
  simp only [qa7,DK,or_false] at h
  rcases h with rfl |rfl
  ·exact this
  ·unfold ext
   rw [if_neg (by omega)]
   exact this
theorem L7:∀k,(RR k).length=2^k
 |0=>rfl
 |k+1=>by
  have:∀l:List (Nat→Bool),(l.flatMap fun r=>[r,ext (k+1) r]).length=2*l.length:=fun l=>by
   induction l with
   |nil=>rfl
   |cons a l ih=>rw [IU,CG,ih];simp;omega
  rw [RR,this,L7 k,Nat.pow_succ]
  omega
theorem Ck {n:Nat} (hn:n≤1000):n≤sizeLine:=by unfold sizeLine;omega
def RiI (k:Nat) (h:HD) (xs:List Nat) (ρ:Ah) (h':HD):Prop:=∃(j l:Nat) (y:Option D),xs=(List.range k).drop j∧j≤k∧ρ=[some (.tup [.int 0]),some (.int (k:Nat)),some (.loc l),y]∧Sm h h'∧h'[l]?=some (.lst ((RR j).map (AD (j+1))))
theorem OR {n:Nat} {r:Nat→Bool} {b:Bool} {h:HD} (hn:n≤100) (h0:r n=false):AA (AD n r) (.tup [lit b]) h=.ok (AD (n+1) (if b then ext n r else r)) h:=by
 unfold AD
 rw [S7 (by simp;omega),Dl,CO]
 congr 3
 ·refine Hu fun i hi=>?_
  have:=qb1.mp hi
  cases b
  ·rfl
  ·simp [ext,show ¬i=n by omega]
 ·cases b
  ·simp [h0]
  ·simp [ext]
theorem Zbn {k:Nat} {h:HD} {Q:D→HD→Prop} (hk:k≤7) (q:∀l h',Sm h h'→h'[l]?=some (.lst ((RR k).map (AD (k+1))))→Q (.loc l) h'):Wp (Fe [.tup [.int 0],.int (k:Nat)] h) Q:=by
 change Wp (Am 4 Ow [.tup [.int 0],.int (k:Nat)] h) _
 refine Eq.mpr A9 ?_
 simp [-Ao]
 refine A7 (by simp) fun l h1 s1 e1 _ _=>?_
 refine Eq.mpr Ao ?_
 refine Eq.mpr Bd ?_
 refine DT (src:=[]) (xs:=List.range k) (fun i=>.int ((i:Nat):Int)) (RiI k h) ?_ (fun ys ρ h' _=>DR) ?_ ?_
 ·simp [Gd (show k≤1000 by omega)]
  exact ⟨0,l,_,by simp,by omega,rfl,s1,e1⟩
 ·rintro x xs ρ h2 ⟨j,l2,y,ex,hj,rfl,s2,e2⟩
  obtain ⟨rfl,hk',rfl⟩:=Hq ex.symm
  refine ⟨_,rfl,?_⟩
  refine Eq.mpr FA ?_
  have hfl:((RR x).flatMap fun r=>[false,true].map fun b=>AD (x+1+1) (if b then ext (x+1) r else r))=(RR (x+1)).map (AD (x+1+1)):=by
   rw [RR,List.map_flatMap]
   rfl
  refine So (src:=[(l2,(RR x).map (AD (x+1)))]) (xs:=RR x) (φ:=AD (x+1)) (fun _=>true) (fun r=>[false,true].map fun b=>AD (x+1+1) (if b then ext (x+1) r else r)) (fun r=>[some (AD (x+1) r),none]) ?_ (fun r _=>rfl) (fun r _ h' s'=>(.ok:Pu (.ok true h') h' true)) (fun r hr _ h' acc s' z=>?_) ?_ fun l3 h3 s3 e3=>?_
  ·simp [BX,Dc e2]
   exact ⟨.refl _,fun h' s'=>CW (s' _ _ e2)⟩
  ·refine Sn (src:=[]) (xs:=[false,true]) (φ:=lit) _ (fun b=>[some (AD (x+1) r),some (lit b)]) ?_ (fun b _=>rfl) (fun b _ h' s'=>?_) z
   ·simp [BX,Sm.refl,Bs,lit]
   ·simp [Pu,OR (show x+1≤100 by omega) (L6 hr (x+1) (by omega))]
    exact .refl _
  ·rw [B7,hfl,Cm,L7]
   exact Ck (BA (DF (n:=2) (by decide) (show x+1≤7 by omega)) (by decide))
  ·rw [B7,hfl] at e3
   exact ⟨x+1,l3,_,rfl,by omega,rfl,s2.trans s3,e3⟩
 ·rintro ρ h2 ⟨j,l2,y,ex,hj,rfl,s2,e2⟩
  have:j=k:=Hr hj ex.symm
  subst this
  simp
  exact q _ _ s2 e2
def sr (n:Nat) (r:Nat→Bool) (f:Nat→Nat→Bool):Nat→Nat→Bool:=fun i=>if i=n then r else f i
def FF (w:Nat):Nat→List (Nat→Nat→Bool)
 |0=>[fun _ _=>false]
 |k+1=>(FF w k).flatMap fun f=>(RR w).map fun r=>sr (k+1) r f
def Fm (H W:Nat) (f:Nat→Nat→Bool):Prop:=(∀j,j<W→f 0 j=false)∧∀i,i<H→f i 0=false
theorem OT {w:Nat}:∀{k:Nat} {f:Nat→Nat→Bool},f∈FF w k→(∀j,f 0 j=false)∧∀i,f i 0=false
 |0,f,h=>by
  rw [FF,qaD] at h
  subst h
  exact ⟨fun _=>rfl,fun _=>rfl⟩
 |k+1,f,h=>by
  rw [FF,List.mem_flatMap] at h
  obtain ⟨g,hg,h⟩:=h
  obtain ⟨r,hr,rfl⟩:=qaW.mp h
  obtain ⟨h1,h2⟩:=OT hg
  refine ⟨fun j=>?_,fun i=>?_⟩
  ·unfold sr;rw [if_neg (by omega)];exact h1 j
  ·unfold sr
   by_cases z:i=k+1
   ·rw [if_pos z];exact L6 hr 0 (.inl rfl)
   ·rw [if_neg z];exact h2 i
theorem IG {w:Nat}:∀k,(FF w k).length=2^(w*k)
 |0=>by simp [FF]
 |k+1=>by
  have:∀l:List (Nat→Nat→Bool),(l.flatMap fun f=>(RR w).map fun r=>sr (k+1) r f).length=2^w*l.length:=fun l=>by
   induction l with
   |nil=>simp
   |cons a l ih=>rw [IU,CG,ih,Cm,L7,FQ,Nat.mul_succ,HE]
  rw [FF,this,IG k,←Nat.pow_add,Nat.mul_succ,HE]
theorem OU {w k:Nat}:FF w k≠[]:=fun e=>by
 have:=IG (w:=w) k
 rw [e] at this
 have h2:0<2^(w*k):=Nat.pow_pos (by decide)
 simp at this
 omega
def CC (H W:Nat):Int:=Eo ((FF (W - 1) (H - 1)).map fun f=>A4 H W f)
theorem Zbo {H W:Nat}:∃f,Fm H W f∧A4 H W f=CC H W:=by
 obtain ⟨g,hg,e⟩:=qaW.mp (Rb (ns:=(FF (W - 1) (H - 1)).map fun f=>A4 H W f) (by simp [OU]))
 exact ⟨g,⟨fun j _=>(OT hg).1 j,fun i _=>(OT hg).2 i⟩,e⟩
theorem Tf {W:Nat} {h:HD} (hw:W≤8):BY (.tup [.int 0]) (.int (W:Nat)) h=.ok (AD W fun _=>false) h:=by
 simp only [BY]
 rw [if_pos ⟨by simp,by omega,by omega,by simp;unfold sizeLine;omega⟩]
 congr 2
 have:∀n:Nat,(List.replicate n [D.int 0]).flatten=(List.range n).map fun j=>lit false:=fun n=>by
  induction n with
  |zero=>rfl
  |succ n ih=>rw [List.replicate_succ',List.flatten_append,ih,Dl,CO];rfl
 simpa using this W
def AfI (H W l1:Nat) (h:HD) (xs:List Nat) (ρ:Ah) (h':HD):Prop:=∃(j l:Nat) (y:Option D),xs=(List.range (H - 1)).drop j∧j≤H - 1∧ρ=[some (.int (H:Nat)),some (.int (W:Nat)),some (.loc l1),some (.loc l),y]∧Sm h h'∧h'[l1]?=some (.lst ((RR (W - 1)).map (AD W)))∧h'[l]?=some (.lst ((FF (W - 1) j).map (bD (j+1) W)))
theorem Tg {n W:Nat} {f:Nat→Nat→Bool} {r:Nat→Bool} {h:HD} (hn:n≤100):AA (bD n W f) (.tup [AD W r]) h=.ok (bD (n+1) W (sr n r f)) h:=by
 unfold bD
 rw [S7 (by simp;omega),Dl,CO]
 congr 3
 ·refine Hu fun i hi=>?_
  have:=qb1.mp hi
  simp [sr,show ¬i=n by omega]
 ·simp [sr]
theorem Th {H W:Nat} {h:HD} {Q:D→HD→Prop} (hh:1≤H∧H≤8) (hw:1≤W∧W≤8) (hz:(W - 1)*(H - 1)≤9) (q:∀l h',Sm h h'→h'[l]?=some (.lst ((FF (W - 1) (H - 1)).map (bD H W)))→Q (.loc l) h'):Wp (BR [.int (H:Nat),.int (W:Nat)] h) Q:=by
 change Wp (Am 5 (OA Fe) [.int (H:Nat),.int (W:Nat)] h) _
 refine Eq.mpr A9 ?_
 simp [-Ao]
 rw [show (W:Int) - 1=((W - 1:Nat):Int) by omega]
 refine Zbn (by omega) fun l1 h1 s1 e1=>?_
 rw [show W - 1+1=W by omega] at e1
 refine Eq.mpr Ao ?_
 simp [-Ao]
 refine Au (Tf hw.2) ?_
 simp [-Ao]
 refine A7 (by simp) fun l h2 s2 e2 _ _=>?_
 refine Eq.mpr Ao ?_
 refine Eq.mpr Bd ?_
 refine DT (src:=[]) (xs:=List.range (H - 1)) (fun k=>.int (1+(k:Int))) (AfI H W l1 h) ?_ (fun ys ρ h' _=>DR) ?_ ?_
 ·simp
  rw [show (1:Int)=((1:Nat):Int) from rfl,J2 (by omega) (by omega)]
  simp
  exact ⟨0,l,_,by simp,by omega,rfl,s1.trans s2,s2 _ _ e1,e2⟩
 ·rintro x xs ρ h3 ⟨j,l3,y,ex,hj,rfl,s3,e3,f3⟩
  obtain ⟨rfl,hk',rfl⟩:=Hq ex.symm
  refine ⟨_,rfl,?_⟩
  refine Eq.mpr FA ?_
  have hfl:((FF (W - 1) x).flatMap fun f=>(RR (W - 1)).map fun r=>bD (x+1+1) W (sr (x+1) r f))=(FF (W - 1) (x+1)).map (bD (x+1+1) W):=by
   rw [FF,List.map_flatMap]
   simp only [DL]
   rfl
  refine So (src:=[(l3,(FF (W - 1) x).map (bD (x+1) W))]) (xs:=FF (W - 1) x) (φ:=bD (x+1) W) (fun _=>true) (fun f=>(RR (W - 1)).map fun r=>bD (x+1+1) W (sr (x+1) r f)) (fun f=>[some (bD (x+1) W f),none,some (.loc l1)]) ?_ (fun r _=>rfl) (fun r _ h' s'=>(.ok:Pu (.ok true h') h' true)) (fun f hf _ h' acc s' z=>?_) ?_ fun l4 h4 s4 e4=>?_
  ·simp [BX,Dc f3]
   exact ⟨.refl _,fun h' s'=>CW (s' _ _ f3)⟩
  ·refine Sn (src:=[(l1,(RR (W - 1)).map (AD W))]) (xs:=RR (W - 1)) (φ:=AD W) _ (fun r=>[some (bD (x+1) W f),some (AD W r),some (.loc l1)]) ?_ (fun b _=>rfl) (fun r _ h5 s5=>?_) z
   ·simp [BX,Dc (s' _ _ e3)]
    exact ⟨.refl _,fun h6 s6=>CW (s6 _ _ (s' _ _ e3))⟩
   ·simp [Pu,Tg (show x+1≤100 by omega),Sm.refl]
  ·rw [B7,hfl,Cm,IG]
   have:(W - 1)*(x+1)≤(W - 1)*(H - 1):=Nat.mul_le_mul_left _ (by omega)
   exact Ck (BA (DF (n:=2) (by decide) (show (W - 1)*(x+1)≤9 by omega)) (by decide))
  ·rw [B7,hfl] at e4
   exact ⟨x+1,l4,_,rfl,by omega,rfl,s3.trans s4,s4 _ _ e3,e4⟩
 ·rintro ρ h3 ⟨j,l3,y,ex,hj,rfl,s3,e3,f3⟩
  have:j=H - 1:=Hr hj ex.symm
  subst this
  simp
  rw [show H - 1+1=H by omega] at f3
  exact q _ _ s3 f3
theorem Zbp {fa:MA} {ρ:Ah} {Q:Fl×Ah→HD→Prop} {R:Str→List (Str×D)→HD→Prop}:We (Iz fa ρ h) Q R=We (fa ρ h) (fun xs h1=>We (match xs with
 |[.int a,.int b]=>(match Ep [none,some (.int a),some (.int b)] h1 with
  |.ok (.str _) h2=>.err (DU "TooMany") [("many",.int a),("most",.int b)] h2
  |_=>.stuck)
 |_=>.stuck) Q R) R:=by
 unfold Iz
 rw [Cz]
 try rfl
theorem OV:∀n<100,(((toString ((n:Nat):Int)):String):Str).length≤3:=by decide +kernel
theorem OW:∀n<100,((n:Nat):Int).natAbs.log2<1920:=by decide +kernel
theorem Zbq {n m:Nat} (hn:n<100) (hm:m<100):∃x,∀h,Ep [none,some (.int (n:Nat)),some (.int (m:Nat))] h=.ok (.str x) h:=by
 have l1:=OV n hn
 have l2:=OV m hm
 have l3:((" are more than ":String):Str).length≤20:=by decide +kernel
 have g1:=OW n hn
 have g2:=OW m hm
 have z0:(Str.empty:Str).length=0:=rfl
 refine ⟨Str.empty++(((toString ((n:Nat):Int)):String):Str)++((" are more than ":String):Str)++(((toString ((m:Nat):Int)):String):Str),fun h=>?_⟩
 have e1:Ab 1 [none,some (.int (n:Nat)),some (.int (m:Nat))] h=.ok (.int (n:Nat)) h:=rfl
 have e2:Ab 2 [none,some (.int (n:Nat)),some (.int (m:Nat))] h=.ok (.int (m:Nat)) h:=rfl
 unfold Ep Ip Gj FJ GR
 rw [e1]
 simp only [Out.bind_ok]
 rw [if_pos ⟨g1,by rw [Str.length_append];unfold sizeLine;omega⟩,if_pos (by rw [Str.length_append,Str.length_append];unfold sizeLine;omega),e2]
 simp only [Out.bind_ok]
 rw [if_pos ⟨g2,by rw [Str.length_append,Str.length_append,Str.length_append];unfold sizeLine;omega⟩,if_pos (by rw [Str.length_append,Str.length_append,Str.length_append];unfold sizeLine;omega)]
 rfl
theorem Ti {x:D} {ρ ρ1:Ah} {s:MS} {Q:Fl×Ah→HD→Prop} {R:Str→List (Str×D)→HD→Prop} {a:MS} (ha:∀Q':Fl×Ah→HD→Prop,(∀h1,Sm h h1→Q' (.nx,ρ1) h1)→We (a ρ h) Q' R) (hs:∀h1,Sm h h1→We (s ρ1 h1) Q R):We (Aj a s ρ h) Q R:=by
 simp
 refine ha _ fun h1 s1=>?_
 simp
 exact hs h1 s1
section
variable {H W:Nat} {h:HD} {f:Nat→Nat→Bool} {r:Nat→Bool}
theorem Tj (hh:1≤H∧H≤8) (hw:1≤W∧W≤8):Pu (Dg [.int (H:Nat),.int (W:Nat)] h) h .non:=by
 have n:∀{k:Nat} {h:HD},1≤k∧k≤8→Pu (DD [.int (k:Nat),.int 1,.int 8] h) h .non:=fun {k h} hk=>by
  change Wp (Am 3 (JT BZ) [.int (k:Nat),.int 1,.int 8] h) _
  refine Eq.mpr A9 ?_
  simp
  refine p_is_between_int.wp fun h1 s1=>?_
  simp [show (1:Int)≤(k:Int) by omega,show (k:Int)≤8 by omega]
  exact s1
 change Wp (Am 2 (LY DD) [.int (H:Nat),.int (W:Nat)] h) _
 refine Eq.mpr A9 ?_
 simp
 refine (n hh).wp fun h1 s1=>?_
 refine (n hw).wp fun h2 s2=>?_
 first |exact ⟨rfl,s1.trans s2⟩ |exact s1.trans s2
@[irreducible] noncomputable def IH:MS:=Aq 2 (Ai BY (Ai B4 (Ab 0) (mC (.int 1))) (Ai B4 (Ab 1) (mC (.int 1))))
@[irreducible] noncomputable def L8:MS:=Bv (Bu (Ai HQ (Ab 2) (mC (.int 9)))) (Iz (Aa (Ab 2) (Aa (mC (.int 9)) (Ac)))) (BH)
theorem OX:IF Dg=Aj (Ce (Ag Dg (Aa (Ab 0) (Aa (Ab 1) (Ac))))) (Aj IH L8):=by unfold IH L8;rfl
theorem Zbr {a b:Int} {z:Option D} {n:Nat} {Q:Fl×Ah→HD→Prop} (ha:1≤a∧a<100) (en:(a - 1)*(b - 1)=(n:Nat)) (q:Q (.nx,[some (.int a),some (.int b),some (.int (n:Nat))]) h):Wp (IH [some (.int a),some (.int b),z] h) Q:=by
 unfold IH
 simp
 rw [Ge (by omega) (by omega)]
 simp
 rw [en]
 exact q
theorem Zbs {a b:Int} {z:Option D} {n:Nat} {Q:Fl×Ah→HD→Prop} {R:Str→List (Str×D)→HD→Prop} (ha:1≤a∧a<100) (en:(a - 1)*(b - 1)=(n:Nat)) (q:Q (.nx,[some (.int a),some (.int b),some (.int (n:Nat))]) h):We (IH [some (.int a),some (.int b),z] h) Q R:=by
 unfold IH
 simp
 rw [Ge (by omega) (by omega)]
 simp
 rw [en]
 exact q
theorem L9 (hh:1≤H) (hw:1≤W):((H:Int) - 1)*((W:Int) - 1)=(((H - 1)*(W - 1):Nat):Int):=by
 rw [show (H:Int) - 1=((H - 1:Nat):Int) by omega,show (W:Int) - 1=((W - 1:Nat):Int) by omega]
 rfl
theorem Zbt (hh:1≤H∧H≤8) (hw:1≤W∧W≤8) (hz:(H - 1)*(W - 1)≤9):Pu (DE [.int (H:Nat),.int (W:Nat)] h) h .non:=by
 have ef:=L9 hh.1 hw.1
 generalize (H - 1)*(W - 1)=n at hz ef
 change Wp (Am 3 (IF Dg) [.int (H:Nat),.int (W:Nat)] h) _
 rw [OX]
 refine Eq.mpr A9 ?_
 simp [-Ao]
 refine (Tj hh hw).wp fun h1 s1=>?_
 refine Eq.mpr Ao ?_
 refine Eq.mpr Bd ?_
 refine Zbr (by omega) ef ?_
 refine Eq.mpr Ao ?_
 unfold L8
 simp [show ¬(n:Int)>9 by omega]
 exact s1
theorem Zbu (hh:1≤H∧H≤8) (hw:1≤W∧W≤8) {n:Nat} (en:(H - 1)*(W - 1)=n) (hz:9<n):Et (DE [.int (H:Nat),.int (W:Nat)] h) h "TooMany" [("many",.int (n:Nat)),("most",.int 9)]:=by
 have ef:=L9 hh.1 hw.1
 have hn:(H - 1)*(W - 1)≤7*7:=Ko (by omega) (by omega)
 rw [en] at ef hn
 change We (Am 3 (IF Dg) [.int (H:Nat),.int (W:Nat)] h) _ _
 rw [OX]
 refine Eq.mpr DZ ?_
 refine Ti (x:=.non) (ρ1:=[some (.int (H:Nat)),some (.int (W:Nat)),none]) (fun Q' q=>?_) fun h1 s1=>?_
 ·simp
  exact (Tj hh hw).we fun h1 s1=>q h1 s1
 refine Ti (x:=.non) (ρ1:=[some (.int (H:Nat)),some (.int (W:Nat)),some (.int (n:Nat))]) (fun Q' q=>?_) fun h2 s2=>?_
 ·exact Zbs (by omega) ef (q h1 (.refl _))
 ·unfold L8
  obtain ⟨t,ht⟩:=Zbq (n:=n) (m:=9) (by omega) (by decide)
  have ht:∀h,Ep [none,some (.int (n:Nat)),some (.int 9)] h=.ok (.str t) h:=ht
  simp [show (n:Int)>9 by omega,Zbp,ht]
  exact s1.trans s2
theorem Zbv (hh:1≤H∧H≤8) (hw:1≤W∧W≤8):Pu (D7 [bD H W f] h) h (.int (A4 H W f)):=by
 change Wp (Am 1 (OL Cr Fq) [bD H W f] h) _
 refine Eq.mpr A9 ?_
 simp [L4,J0 hh.1,JZ]
 by_cases z:(W:Int)<(H:Int)
 ·rw [if_pos (by simpa using z)]
  simp
  refine (S9 hh hw).wp fun h1 s1=>?_
  refine (Tb hw hh).wp fun h2 s2=>?_
  exact ⟨by rw [NO hh.1 hw.1],s1.trans s2⟩
 ·rw [if_neg (by simpa using z)]
  simp
  refine (Tb hh hw).wp fun h2 s2=>?_
  exact ⟨rfl,s2⟩
theorem OY {Q:D→HD→Prop} (hh:1≤H∧H≤8) (hw:1≤W∧W≤8) (hz:(H - 1)*(W - 1)≤9) (q:∀l h',Sm h h'→h'[l]?=some (.lst ((FF (W - 1) (H - 1)).map fun f=>.int (A4 H W f)))→Q (.loc l) h'):Wp (Bg [.int (H:Nat),.int (W:Nat)] h) Q:=by
 change Wp (Am 2 (JU DE BR D7) [.int (H:Nat),.int (W:Nat)] h) _
 refine Eq.mpr A9 ?_
 simp
 refine (Zbt hh hw hz).wp fun h1 s1=>?_
 have hz':(W - 1)*(H - 1)≤9:=by rw [FS];exact hz
 have hl:(FF (W - 1) (H - 1)).length≤512:=by
  rw [IG]
  exact BA (DF (n:=2) (by decide) hz') (by decide)
 obtain ⟨d,h2,e2,l,rfl,s2,f2⟩:=(Th (h:=h1) (Q:=fun d h'=>∃l,d=.loc l∧Sm h1 h'∧h'[l]?=some (.lst ((FF (W - 1) (H - 1)).map (bD H W)))) hh hw hz' fun l h' s e=>⟨l,rfl,s,e⟩).ex
 refine Dv (src:=[(l,(FF (W - 1) (H - 1)).map (bD H W))]) (xs:=FF (W - 1) (H - 1)) (φ:=bD H W) (fun _=>true) (fun f=>.int (A4 H W f)) (fun f=>[some (bD H W f)]) ?_ (Ck (by omega)) (fun x _=>rfl) (fun x _ h' s'=>(.ok:Pu (.ok true h') h' true)) (fun f _ _ h' s'=>?_) fun l3 h3 s3 e3=>?_
 ·have:AR (Ag BR (Aa (Ab 0) (Aa (Ab 1) Ac))) [some (.int (H:Nat)),some (.int (W:Nat))] h1=(BR [.int (H:Nat),.int (W:Nat)] h1).bind EX:=rfl
  rw [this]
  exact NG e2 s2 f2
 ·simp [Pu]
  exact Zbv hh hw
 ·rw [B7] at e3
  exact q l3 h3 (s1.trans s3) e3
theorem Zbw (hh:1≤H∧H≤8) (hw:1≤W∧W≤8) (hz:(H - 1)*(W - 1)≤9):Pu (B0 [.int (H:Nat),.int (W:Nat)] h) h (.int (CC H W)):=by
 change Wp (Am 2 (JV Bg) [.int (H:Nat),.int (W:Nat)] h) _
 refine Eq.mpr A9 ?_
 simp
 refine OY hh hw hz fun l h1 s1 e1=>?_
 have hne:(FF (W - 1) (H - 1)).map (fun f=>A4 H W f)≠[]:=by simp [OU]
 refine Au (Lk (ns:=(FF (W - 1) (H - 1)).map fun f=>A4 H W f) (by rw [e1,DL];rfl) hne) ?_
 exact ⟨rfl,s1⟩
end
theorem Sm.put {h h':HD} {l:Nat} {c:Cell} (s:Sm h h') (hl:h.length≤l):Sm h (h'.set l c):=fun i x e=>by
 rw [BU (by have:=(qa5.mp e).1;omega)]
 exact s i x e
theorem icd {a b:Nat}:((a:Nat):Int) / ((b:Nat):Int)=((a / b:Nat):Int):=rfl
theorem icm {a b:Nat}:((a:Nat):Int) % ((b:Nat):Int)=((a % b:Nat):Int):=rfl
def Dj (n:Nat):D:=.int (Cj n)
def OnI (l:Nat) (h:HD) (xs:List Nat) (ρ:Ah) (h':HD):Prop:=∃(j:Nat) (y:Option D),xs=(List.range 255).drop j∧j≤255∧ρ=[some (.loc l),y]∧Sm h h'∧h'[l]?=some (.lst ((List.range (j+1)).map Dj))
theorem Zbx {h:HD} {Q:D→HD→Prop} (q:∀l h',Sm h h'→h.length≤l→h'[l]?=some (.lst ((List.range 256).map Dj))→Q (.loc l) h'):Wp (Es [] h) Q:=by
 change Wp (Am 2 Oz [] h) _
 refine Eq.mpr A9 ?_
 simp [-Ao]
 refine A7 (by simp) fun l h1 s1 e1 el _=>?_
 refine Eq.mpr Ao ?_
 refine Eq.mpr Bd ?_
 refine DT (src:=[]) (xs:=List.range 255) (fun k=>.int (1+(k:Int))) (OnI l h) ?_ (fun ys ρ h' _=>DR) ?_ ?_
 ·simp
  rw [show (1:Int)=((1:Nat):Int) from rfl,show (256:Int)=((256:Nat):Int) from rfl,J2 (by omega) (by omega)]
  exact ⟨rfl,0,_,rfl,by omega,rfl,s1,e1⟩
 ·rintro x xs ρ h2 ⟨j,y,ex,hj,rfl,s2,e2⟩
  obtain ⟨rfl,hk',rfl⟩:=Hq ex.symm
  refine ⟨_,rfl,?_⟩
  rw [show (1:Int)+(x:Int)=((x+1:Nat):Int) by omega]
  simp [-Int.natCast_add,FC e2]
  refine Au (QU (by decide) (by decide)) ?_
  rw [Bh,show (2:Int)=((2:Nat):Int) from rfl,icd]
  have hd:(x+1) / 2<x+1:=by omega
  refine Au (B8 e2 (k:=(x+1) / 2) (a:=Dj ((x+1) / 2)) (by rw [Ca,Ht hd];rfl)) ?_
  rw [Bh]
  refine Au (K9 (by decide)) ?_
  rw [Bh,icm]
  unfold Dj
  refine Au (show AA (.int (Cj ((x+1) / 2))) (.int (((x+1) % 2:Nat):Int)) h2=.ok (.int (Cj ((x+1) / 2)+(((x+1) % 2:Nat):Int))) h2 from rfl) ?_
  rw [Bh,←Zbl (x+1) (by omega)]
  refine Au (Nk e2 (by simp;exact Ck (by omega))) ?_
  have hl2:l<h2.length:=(qa5.mp e2).1
  simp [El]
  refine ⟨x+1,_,rfl,by omega,rfl,Sm.put s2 (by omega),?_⟩
  rw [CF hl2,Dl (n:=x+1),CO]
  rfl
 ·rintro ρ h2 ⟨j,y,ex,hj,rfl,s2,e2⟩
  have:j=255:=Hr hj ex.symm
  subst this
  simp
  exact q _ _ s2 (by omega) e2
theorem Tn {i:Int} {n:Nat} {h:HD} (hi:i.natAbs<18446744073709551616) (hn:n≤1000):F4 (.int i) (.int (n:Nat)) h=.ok (.int (i*2^n)) h:=by
 have:GD i (n:Int):=⟨by omega,by omega,by omega⟩
 simp only [F4,LS.intD]
 rw [if_pos this]
 simp
theorem To {r:Nat→Bool}:∀W:Nat,((List.range W).map fun j=>(if r j then (1:Int) else 0)*2^j).sum=((BF W r:Nat):Int)
 |0=>rfl
 |W+1=>by
  rw [Dl,CO,FR,To W,Td]
  by_cases e:r W=true<;>simp [e]
  omega
theorem Tq {W:Nat} (hw:W≤8):2^W≤256:=DF (n:=2) (by decide) hw
theorem Zby {W N:Nat} {h:HD} (hw:W≤1000) (eN:2^W=N):F4 (.int 1) (.int (W:Nat)) h=.ok (.int (N:Nat)) h:=by
 rw [Tn (by decide) hw,Int.one_mul,←eN]
 congr 2
def Gs (W:Nat) (f:Nat→Nat→Bool) (i:Nat):D:=.int ((BF W (f i):Nat):Int)
section
variable {H W:Nat} {h:HD} {f:Nat→Nat→Bool}
end
theorem Tr {α:Type} {src:A8} {it:MI} {sg:MG} {t:MT} {f:ME} {cs:List (Option Nat)} {ρ:Ah} {h:HD} {xs:List α} {φ:α→D} {Q:D→HD→Prop} (g:α→Bool) (e:α→D) (ρ1:α→Ah) (hi:Wp (it ρ h) fun x h'=>x=(xs.map φ,src)∧Sm h h'∧∀h2,Sm h' h2→Bs src (xs.map φ) h2) (hn:xs.length≤sizeLine)
 (hg:∀x∈xs,sg (φ x) (B5 cs ρ)=some (ρ1 x)) (ht:∀x∈xs,∀h',Sm h h'→Pu (t (ρ1 x) h') h' (g x)) (hf:∀x∈xs,g x=true→∀h',Sm h h'→Pu (f (ρ1 x) h') h' (e x))
 (q:∀l h',Sm h h'→h'[l]?=some (.lst ((xs.filter g).map e))→h.length≤l→Q (.loc l) h'):Wp (AB cs it sg t f ρ h) Q:=by
 unfold AB
 rw [Az]
 refine Wp.mono hi fun x h1 z4_=>?_
 obtain ⟨ex,s1,hs⟩:=z4_
 subst ex
 rw [if_pos (by simpa using hn),Az]
 refine (Nj φ g e ρ1 xs h1 hs hg (fun x hx h' s'=>ht x hx h' (s1.trans s')) (fun x hx gx h' s'=>hf x hx gx h' (s1.trans s'))).wp fun h2 s2=>?_
 refine A7 ?_ fun l h3 s3 e3 el _=>q l h3 ((s1.trans s2).trans s3) e3 (by have:=(s1.trans s2).len;omega)
 rw [Cm]
 exact BA (Kk _ _) hn
theorem Zbz {α:Type} {xs:List α} {a b:α→D}:Gg (xs.map a) (xs.map b)=xs.map fun x=>D.tup [a x,b x]:=by
 induction xs with
 |nil=>rfl
 |cons x xs ih=>
  unfold Gg at ih ⊢
  rw [BM,BM,List.zipWith_cons_cons,ih]
  rfl
def fs (H W:Nat):List (Nat→Nat→Bool):=FF (W - 1) (H - 1)
def Ma (H W:Nat) (f:Nat→Nat→Bool):Bool:=decide (A4 H W f=CC H W)
def lV (H W:Nat):List V:=(fs H W).map fun f=>V.int (A4 H W f)
def Mb (H W k:Nat):D:=.int (FG (.int (k:Nat)) (lV H W))
theorem IJ {H W:Nat} (hz:(H - 1)*(W - 1)≤9):(fs H W).length≤512:=by
 unfold fs
 rw [IG]
 exact BA (DF (n:=2) (by decide) (show (W - 1)*(H - 1)≤9 by rw [FS];exact hz)) (by decide)
theorem ZbA {H W:Nat} {f:Nat→Nat→Bool}:0≤A4 H W f∧A4 H W f≤(H*W:Nat):=by
 obtain ⟨R,C,e⟩:=NM (H:=H) (W:=W) f
 have b:0≤TT H W f R C∧TT H W f R C≤(H*W:Nat):=by
  rw [←Rv]
  have:∀n:Nat,0≤((List.range n).map fun i=>Bi W fun j=>Bool.xor (f i j) (Bool.xor (R i) (C j))).sum∧((List.range n).map fun i=>Bi W fun j=>Bool.xor (f i j) (Bool.xor (R i) (C j))).sum≤(n*W:Nat):=fun n=>by
   induction n with
   |zero=>simp
   |succ n ih=>
    rw [Dl,CO,FR]
    have:=Xf (n:=W) (r:=fun j=>Bool.xor (f n j) (Bool.xor (R n) (C j)))
    simp only [BM,FT,IW,List.sum_nil]
    rw [IX]
    omega
  exact this H
 omega
theorem Ts {H W:Nat} (hh:H≤8) (hw:W≤8):∃n:Nat,CC H W=(n:Int)∧n≤64:=by
 obtain ⟨f,_,e⟩:=Zbo (H:=H) (W:=W)
 have:=ZbA (H:=H) (W:=W) (f:=f)
 have hm:H*W≤64:=Ko hh hw
 exact ⟨(CC H W).toNat,by omega,by omega⟩
section
variable {H W:Nat} {h:HD} {Q:D→HD→Prop}
theorem OZ {l:Nat} (e:h[l]?=some (.lst ((fs H W).map fun f=>.int (A4 H W f)))):Cw Eo (.loc l) h=.ok (.int (CC H W)) h:=by
 have hne:(fs H W).map (fun f=>A4 H W f)≠[]:=by simp [fs,OU]
 exact Lk (ns:=(fs H W).map fun f=>A4 H W f) (by rw [e,DL];rfl) hne
theorem Tt {a b:Int}:DY (.int a) (.int b) h=.ok (.bl (decide (a=b))) h:=by
 have:(a==b)=decide (a=b):=by by_cases z:a=b<;>simp [z]
 rw [←this]
 rfl
theorem ZbB (hh:1≤H∧H≤8) (hw:1≤W∧W≤8) (hz:(H - 1)*(W - 1)≤9) (q:∀l h',Sm h h'→h'[l]?=some (.lst (((fs H W).filter (Ma H W)).map (bD H W)))→h.length≤l→Q (.loc l) h'):Wp (B2 [.int (H:Nat),.int (W:Nat)] h) Q:=by
 change Wp (Am 4 (JW Bg BR) [.int (H:Nat),.int (W:Nat)] h) _
 refine Eq.mpr A9 ?_
 have hz':(W - 1)*(H - 1)≤9:=by rw [FS];exact hz
 simp [-Ao]
 refine OY hh hw hz fun l2 h2 s2 e2=>?_
 refine Eq.mpr Ao ?_
 simp [-Ao]
 refine Au (OZ e2) ?_
 rw [Bh]
 refine Eq.mpr Ao ?_
 simp
 obtain ⟨d,h3,e3,l,rfl,s3,f3⟩:=(Th (h:=h2) (Q:=fun d h'=>∃l,d=.loc l∧Sm h2 h'∧h'[l]?=some (.lst ((fs H W).map (bD H W)))) hh hw hz' fun l h' s e=>⟨l,rfl,s,e⟩).ex
 have e23:=s3 _ _ e2
 refine Tr (src:=[(l,(fs H W).map (bD H W))]++[(l2,(fs H W).map fun f=>D.int (A4 H W f))]) (xs:=fs H W) (φ:=fun f=>.tup [bD H W f,.int (A4 H W f)]) (Ma H W) (bD H W) (fun f=>[some (bD H W f),some (.int (A4 H W f)),some (.int (CC H W))]) ?_ (Ck (by have:=IJ hz;omega)) (fun x _=>rfl) (fun f _ h' s'=>?_) (fun f _ _ h' s'=>?_) fun l4 h4 s4 e4 hl4=>?_
 ·simp only [Rl,E2,GJ,Ek,DS,E1]
  refine Au e3 ?_
  rw [Bh]
  have ez:FD [.loc l,.loc l2] h3=.ok ((fs H W).map fun f=>D.tup [bD H W f,.int (A4 H W f)],[(l,(fs H W).map (bD H W))]++[(l2,(fs H W).map fun f=>D.int (A4 H W f))]) h3:=by
   simp only [FD,Lj f3,Lj (show h3[l2]?=some (.lst ((fs H W).map fun f=>D.int (A4 H W f))) from e23),Zbz]
  refine Au ez ?_
  rw [Bh]
  refine ⟨rfl,s3,fun h7 s7 p hp=>?_⟩
  rcases qb2.mp hp with hp |hp
  ·obtain rfl:=qaD.mp hp
   exact s7 _ _ f3
  ·obtain rfl:=qaD.mp hp
   exact s7 _ _ e23
 ·simp only [Pu,Ni,Ia,Ek,DS]
  refine Au Tt ?_
  rw [Bh]
  exact ⟨rfl,.refl _⟩
 ·simp [Pu,Sm.refl]
 ·exact q l4 h4 (s2.trans s4) e4 (by have:=s2.len;omega)
theorem Tu (hh:1≤H∧H≤8) (hw:1≤W∧W≤8) (hz:(H - 1)*(W - 1)≤9) {n:Nat} (en:CC H W=(n:Int)) (hn:n≤64) (q:∀l h',Sm h h'→h'[l]?=some (.lst ((List.range (n+1)).map (Mb H W)))→h.length≤l→Q (.loc l) h'):Wp (BS [.int (H:Nat),.int (W:Nat)] h) Q:=by
 change Wp (Am 3 (JX Bg) [.int (H:Nat),.int (W:Nat)] h) _
 refine Eq.mpr A9 ?_
 simp [-Ao]
 refine OY hh hw hz fun l2 h2 s2 e2=>?_
 refine Eq.mpr Ao ?_
 simp
 refine Tr (src:=[]) (xs:=List.range (n+1)) (φ:=fun k=>.int ((k:Nat):Int)) (fun _=>true) (Mb H W) (fun k=>[some (.int ((k:Nat):Int)),some (.loc l2)]) ?_ (Ck (by simp;omega)) (fun x _=>rfl) (fun x _ h' s'=>(.ok:Pu (.ok true h') h' true)) (fun k _ _ h' s'=>?_) fun l4 h4 s4 e4 hl4=>?_
 ·simp only [QM,E2,E1,Ia,GJ,Ek,DS,Nh,QN]
  refine Au (OZ e2) ?_
  rw [Bh,en]
  refine Au (show AA (.int ((n:Nat):Int)) (.int 1) h2=.ok (.int ((n+1:Nat):Int)) h2 from rfl) ?_
  rw [Bh]
  refine Au (Gd (by omega)) ?_
  exact ⟨rfl,.refl _,fun _ _=>DR⟩
 ·have el:=s' _ _ e2
  simp [Pu,FC el]
  refine Au (Lw (vs:=lV H W) (w:=.int ((k:Nat):Int)) el ?_ rfl) ?_
  ·unfold lV fs
   rw [DL]
   exact GK fun f _=>rfl
  ·exact ⟨rfl,.refl _⟩
 ·rw [B7] at e4
  exact q l4 h4 (s2.trans s4) e4 (by have:=s2.len;omega)
end
@[irreducible] noncomputable def O0:MS:=Aq 4 (Ai AA (Ab 4) (AZ (Aa (Ai AA (Ab 5) (A1 (Aa (mC (.int 0)) (Ac)))) (Aa (Ai AA (Ab 5) (A1 (Aa (mC (.int 1)) (Ac)))) (Ac)))))
@[irreducible] noncomputable def O1:MS:=Ce (IE (Ab 4) (AB [none,some 8] (AR (Ab 2)) (AG 0) (AN) (Ai AA (Ab 1) (A1 (Aa (Ab 0) (Ac))))))
theorem ZbC:LV=Aj (Aq 2 (AZ (Aa (A1 (Aa (mC (.int 0)) (Ac))) (Ac)))) (Aj (Bw (EY (Aa (mC (.int 1)) (Aa (Ab 1) (Ac)))) (AG 3) (Aj (Aq 4 (AZ (Ac))) (Aj (Bw (AR (Ab 2)) (AG 5) O0) (Aq 2 (Ab 4))))) (Aj (Aq 6 (AZ (Aa (A1 (Aa (Ai BY (A1 (Aa (mC (.int 0)) (Ac))) (Ab 1)) (Ac))) (Ac)))) (Aj (Bw (EY (Aa (mC (.int 1)) (Aa (Ab 0) (Ac)))) (AG 7) (Aj (Aq 4 (AZ (Ac))) (Aj (Bw (AR (Ab 6)) (AG 8) O1) (Aq 6 (Ab 4))))) (AL (Ab 6))))):=by
 unfold O0 O1
 rfl
def two (j:Nat) (r:Nat→Bool):List (Nat→Bool):=[r,ext (j+1) r]
inductive Tv (H W j l2:Nat) (c3 c6 c7 c8:Option D) (h:HD) (xs:List (Nat→Bool)) (ρ:Ah) (h':HD):Prop where
 |mk (ys:List (Nat→Bool)) (l4:Nat) (c5:Option D) (ex:RR j=ys++xs) (er:ρ=[some (.int (H:Nat)),some (.int (W:Nat)),some (.loc l2),c3,some (.loc l4),c5,c6,c7,c8]) (s:Sm h h') (e2:h'[l2]?=some (.lst ((RR j).map (AD (j+1))))) (e4:h'[l4]?=some (.lst ((ys.flatMap (two j)).map (AD (j+2))))):Tv H W j l2 c3 c6 c7 c8 h xs ρ h'
inductive Tw (H W:Nat) (h:HD) (xs:List Nat) (ρ:Ah) (h':HD):Prop where
 |mk (j l2:Nat) (c3 c4 c5:Option D) (ex:xs=(List.range (W - 1)).drop j) (hj:j≤W - 1) (er:ρ=[some (.int (H:Nat)),some (.int (W:Nat)),some (.loc l2),c3,c4,c5,none,none,none]) (s:Sm h h') (e2:h'[l2]?=some (.lst ((RR j).map (AD (j+1))))):Tw H W h xs ρ h'
inductive Tx (H W k l2 l4 l6:Nat) (c3 c5 c7:Option D) (h:HD) (xs:List (Nat→Nat→Bool)) (ρ:Ah) (h':HD):Prop where
 |mk (ys:List (Nat→Nat→Bool)) (c8:Option D) (ex:FF (W - 1) k=ys++xs) (er:ρ=[some (.int (H:Nat)),some (.int (W:Nat)),some (.loc l2),c3,some (.loc l4),c5,some (.loc l6),c7,c8]) (s:Sm h h') (e2:h'[l2]?=some (.lst ((RR (W - 1)).map (AD W)))) (e6:h'[l6]?=some (.lst ((FF (W - 1) k).map (bD (k+1) W))))
  (e4:h'[l4]?=some (.lst ((ys.flatMap fun f=>(RR (W - 1)).map fun r=>sr (k+1) r f).map (bD (k+2) W)))):Tx H W k l2 l4 l6 c3 c5 c7 h xs ρ h'
inductive Tz (H W l2:Nat) (h:HD) (xs:List Nat) (ρ:Ah) (h':HD):Prop where
 |mk (k l6:Nat) (c3 c4 c5 c7 c8:Option D) (ex:xs=(List.range (H - 1)).drop k) (hk:k≤H - 1) (er:ρ=[some (.int (H:Nat)),some (.int (W:Nat)),some (.loc l2),c3,c4,c5,some (.loc l6),c7,c8]) (s:Sm h h') (e2:h'[l2]?=some (.lst ((RR (W - 1)).map (AD W)))) (e6:h'[l6]?=some (.lst ((FF (W - 1) k).map (bD (k+1) W)))):Tz H W l2 h xs ρ h'
section
variable {H W:Nat} {h:HD} {Q:D→HD→Prop}
theorem O2 {k:Nat} (hk:k≤7):(RR k).length≤128:=by
 rw [L7]
 exact BA (DF (n:=2) (by decide) hk) (by decide)
theorem ZbD {j:Nat} (ys:List (Nat→Bool)):(ys.flatMap (two j)).length=2*ys.length:=by
 induction ys with
 |nil=>rfl
 |cons y ys ih=>rw [IU,CG,ih];simp [two];omega
theorem ZbE {k:Nat} (hk:k≤H - 1) (hz:(W - 1)*(H - 1)≤9):(FF (W - 1) k).length≤512:=by
 rw [IG]
 exact BA (DF (n:=2) (by decide) (BA (Ko (AM _) hk) hz)) (by decide)
theorem ZbF (hh:1≤H∧H≤8) (hw:1≤W∧W≤8) (hz:(H - 1)*(W - 1)≤9) (q:∀l h',Sm h h'→h'[l]?=some (.lst ((fs H W).map (bD H W)))→Q (.loc l) h'):Wp (DI [.int (H:Nat),.int (W:Nat)] h) Q:=by
 have hz':(W - 1)*(H - 1)≤9:=by rw [FS];exact hz
 change Wp (Am 9 LV [.int (H:Nat),.int (W:Nat)] h) _
 rw [ZbC]
 refine Eq.mpr A9 ?_
 simp [-Ao]
 refine A7 (by simp) fun l2 h2 s2 e2 el2 _=>?_
 refine Eq.mpr Ao ?_
 refine Eq.mpr Bd ?_
 refine DT (src:=[]) (xs:=List.range (W - 1)) (fun k=>.int (1+(k:Int))) (Tw H W h) ?_ (fun ys ρ h' _=>DR) ?_ ?_
 ·simp
  refine Au (J2 (a:=1) (n:=W) (by omega) (by omega)) ?_
  exact ⟨rfl,0,l2,_,_,_,by simp,by omega,rfl,s2,e2⟩
 ·rintro x xs ρ h3 ⟨j,l2,y3,y4,y5,ex,hj,rfl,s3,f2⟩
  obtain ⟨rfl,hj',rfl⟩:=Hq ex.symm
  refine ⟨_,rfl,?_⟩
  refine Eq.mpr Bd ?_
  simp [-Ao]
  refine A7 (by simp) fun l4 h4 s4 e4 el4 _=>?_
  refine Eq.mpr Ao ?_
  refine Eq.mpr Bd ?_
  refine DT (src:=[(l2,(RR x).map (AD (x+1)))]) (xs:=RR x) (AD (x+1)) (Tv H W x l2 (some (.int (1+(x:Int)))) none none none h) ?_ (fun ys ρ h' z=>?_) ?_ ?_
  ·simp only [QL,Ek,DS]
   refine Au (Dc (s4 _ _ f2)) ?_
   exact ⟨rfl,[],l4,_,rfl,rfl,s3.trans s4,s4 _ _ f2,e4⟩
  ·obtain ⟨_,_,_,_,_,_,e,_⟩:=z
   exact CW e
  ·rintro r rs ρ h5 ⟨ys,l4,y5,ey,rfl,s5,g2,g4⟩
   refine ⟨_,rfl,?_⟩
   have hr:r∈RR x:=by rw [ey];simp
   have r0:r (x+1)=false:=L6 hr _ (by omega)
   have hly:ys.length≤128:=by
    have:=O2 (k:=x) (by omega)
    rw [ey,CG] at this
    omega
   unfold O0
   simp
   refine Au (OR (b:=false) (by omega) r0) ?_
   simp
   refine Au (OR (b:=true) (by omega) r0) ?_
   simp
   refine A7 (by simp) fun l6 h6 s6 e6 _ _=>?_
   refine Au (Iu (s6 _ _ g4) e6) ?_
   refine A7 (Ck (by rw [CG,Cm,ZbD];simp;omega)) fun l7 h7 s7 e7 _ _=>?_
   simp [El]
   refine ⟨ys++[r],l7,_,by rw [ey];simp,rfl,(s5.trans s6).trans s7,s7 _ _ (s6 _ _ g2),?_⟩
   rw [e7,List.flatMap_append,CO]
   simp [two]
  ·rintro ρ h5 ⟨ys,l4,y5,ey,rfl,s5,g2,g4⟩
   refine Eq.mpr Ao ?_
   simp [El]
   refine ⟨x+1,l4,_,_,_,rfl,by omega,rfl,s5,?_⟩
   rw [g4,RR,ey,ED]
   rfl
 ·rintro ρ h3 ⟨j,l2,y3,y4,y5,ex,hj,rfl,s3,f2⟩
  have ej:j=W - 1:=Hr hj ex.symm
  subst ej
  rw [show W - 1+1=W by omega] at f2
  refine Eq.mpr Ao ?_
  refine Eq.mpr Bd ?_
  simp [-Ao]
  refine Au (Tf hw.2) ?_
  simp [-Ao]
  refine A7 (by simp) fun l6 h6 s6 e6 el6 _=>?_
  refine Eq.mpr Ao ?_
  refine Eq.mpr Bd ?_
  refine DT (src:=[]) (xs:=List.range (H - 1)) (fun k=>.int (1+(k:Int))) (Tz H W l2 h) ?_ (fun ys ρ h' _=>DR) ?_ ?_
  ·simp
   refine Au (J2 (a:=1) (n:=H) (by omega) (by omega)) ?_
   exact ⟨rfl,0,l6,_,_,_,_,_,by simp,by omega,rfl,s3.trans s6,s6 _ _ f2,e6⟩
  ·rintro x xs ρ h4 ⟨k,l6,z3,z4,z5,z7,z8,ex,hk,rfl,s4,g2,g6⟩
   obtain ⟨rfl,hk',rfl⟩:=Hq ex.symm
   refine ⟨_,rfl,?_⟩
   refine Eq.mpr Bd ?_
   simp [-Ao]
   refine A7 (by simp) fun l4 h5 s5 e5 el5 _=>?_
   have n2:l4≠l2:=by have:=(qa5.mp g2).1;omega
   have n6:l4≠l6:=by have:=(qa5.mp g6).1;omega
   have h4l:h.length≤l4:=by have:=s4.len;omega
   refine Eq.mpr Ao ?_
   refine Eq.mpr Bd ?_
   refine DT (src:=[(l6,(FF (W - 1) x).map (bD (x+1) W))]) (xs:=FF (W - 1) x) (bD (x+1) W) (Tx H W x l2 l4 l6 z3 z5 (some (.int (1+(x:Int)))) h) ?_ (fun ys ρ h' z=>?_) ?_ ?_
   ·simp only [QL,Ek,DS]
    refine Au (Dc (s5 _ _ g6)) ?_
    exact ⟨rfl,[],_,rfl,rfl,s4.trans s5,s5 _ _ g2,s5 _ _ g6,e5⟩
   ·obtain ⟨_,_,_,_,_,_,e,_⟩:=z
    exact CW e
   ·rintro f fs' ρ h6 ⟨ys,y8,ey,rfl,s6,k2,k6,k4⟩
    refine ⟨_,rfl,?_⟩
    unfold O1
    have hl4:l4<h6.length:=(qa5.mp k4).1
    simp [FC k4]
    refine Dv (src:=[(l2,(RR (W - 1)).map (AD W))]) (xs:=RR (W - 1)) (φ:=AD W) (fun _=>true) (fun r=>bD (x+2) W (sr (x+1) r f)) (fun r=>[some (AD W r),some (bD (x+1) W f)]) ?_ (Ck (by have:=O2 (k:=W - 1) (by omega);omega)) (fun x _=>rfl) (fun x _ h' s'=>(.ok:Pu (.ok true h') h' true)) (fun r _ _ h' s'=>?_) fun l7 h7 s7 e7=>?_
    ·simp [Dc k2]
     exact ⟨.refl _,fun h' s'=>CW (s' _ _ k2)⟩
    ·simp [Pu]
     refine Au (Tg (by omega)) ?_
     exact ⟨rfl,.refl _⟩
    ·rw [B7] at e7
     have hlen:(ys.flatMap fun f=>(RR (W - 1)).map fun r=>sr (x+1) r f).length≤512:=by
      have a:=ZbE (H:=H) (W:=W) (k:=x+1) (by omega) hz'
      rw [FF,ey,List.flatMap_append,CG] at a
      omega
     refine Au (Zd (s7 _ _ k4) e7 (Ck (by have:=O2 (k:=W - 1) (by omega);simp only [Cm];omega))) ?_
     simp [El]
     refine ⟨ys++[f],_,by rw [ey];simp,rfl,Sm.put (s6.trans s7) h4l,by rw [BU n2];exact s7 _ _ k2,by rw [BU n6];exact s7 _ _ k6,?_⟩
     rw [CF (qa5.mp (s7 _ _ k4)).1,List.flatMap_append,CO]
     simp
   ·rintro ρ h6 ⟨ys,y8,ey,rfl,s6,k2,k6,k4⟩
    refine Eq.mpr Ao ?_
    simp [El]
    refine ⟨x+1,l4,_,_,_,_,_,rfl,by omega,rfl,s6,k2,?_⟩
    rw [k4,FF,ey]
    simp
  ·rintro ρ h4 ⟨k,l6,z3,z4,z5,z7,z8,ex,hk,rfl,s4,g2,g6⟩
   have ek:k=H - 1:=Hr hk ex.symm
   subst ek
   rw [show H - 1+1=H by omega] at g6
   simp
   exact q l6 h4 s4 g6
end
theorem TB {src:A8} {items:List D} {sg:MG} {t:MT} {f:ME} {ρc:Ah} (φ:Nat→D) (L:Nat→List D) (ρ1:Nat→Ah):
 ∀(xs:List Nat) (h:HD),xs.Nodup→(∀h',Sm h h'→Bs src items h')→(∀x∈xs,sg (φ x) ρc=some (ρ1 x))→(∀x∈xs,∀h',t (ρ1 x) h'=.ok true h')→(∀x∈xs,∀h',Sm h h'→Wp (f (ρ1 x) h') fun d h2=>Sm h' h2∧∃l,d=.loc l∧h2[l]?=some (.lst (L x)))→
  Wp (DG src items sg t f ρc (xs.map φ) h) fun ys h'=>Sm h h'∧∃a:Nat→Nat,ys=xs.map (fun i=>.loc (a i))∧∀i∈xs,h'[a i]?=some (.lst (L i))
 |[],h,_,hs,_,_,_=>by
  simp only [FT,DG]
  rw [if_pos (hs h (.refl _))]
  exact ⟨.refl _,fun _=>0,rfl,by simp⟩
 |x::xs,h,hd,hs,hg,ht,hf=>by
  simp only [BM,DG]
  rw [if_pos (hs h (.refl _)),hg x AO]
  simp only
  rw [Az,QV,ht x AO,Bh,if_pos rfl,Az,QV]
  rw [qbU] at hd
  refine Wp.mono (hf x AO h (.refl _)) fun d h1 z=>?_
  obtain ⟨s1,l,rfl,e1⟩:=z
  rw [Az]
  refine Wp.mono (TB φ L ρ1 xs h1 hd.2 (fun h' s'=>hs h' (s1.trans s')) (fun y hy=>hg y (AS _ hy)) (fun y hy=>ht y (AS _ hy)) (fun y hy h' s'=>hf y (AS _ hy) h' (s1.trans s'))) fun ys h2 z=>?_
  obtain ⟨s2,a,ey,ea⟩:=z
  rw [Bh]
  refine ⟨s1.trans s2,fun i=>if i=x then l else a i,?_,fun i hi=>?_⟩
  ·rw [ey]
   simp only [if_true]
   congr 1
   exact Hu fun i hi=>by
    rw [if_neg]
    intro z;subst z;exact hd.1 hi
  ·rcases qa7.mp hi with z |z
   ·subst z
    simp only [if_true]
    exact s2 _ _ e1
   ·have ne:i≠x:=fun w=>hd.1 (by rw [←w];exact z)
    simp only [if_neg ne]
    exact ea i z
theorem TC {src:A8} {it:MI} {sg:MG} {t:MT} {f:ME} {cs:List (Option Nat)} {ρ:Ah} {h:HD} {n:Nat} {φ:Nat→D} {Q:D→HD→Prop} (L:Nat→List D) (ρ1:Nat→Ah) (hi:Wp (it ρ h) fun x h'=>x=((List.range n).map φ,src)∧Sm h h'∧∀h2,Sm h' h2→Bs src ((List.range n).map φ) h2) (hn:n≤1000)
 (hg:∀x<n,sg (φ x) (B5 cs ρ)=some (ρ1 x)) (ht:∀x<n,∀h',t (ρ1 x) h'=.ok true h') (hf:∀x<n,∀h',Sm h h'→Wp (f (ρ1 x) h') fun d h2=>Sm h' h2∧∃l,d=.loc l∧h2[l]?=some (.lst (L x)))
 (q:∀l (a:Nat→Nat) h',Sm h h'→h'[l]?=some (.lst ((List.range n).map fun i=>.loc (a i)))→(∀i<n,h'[a i]?=some (.lst (L i)))→Q (.loc l) h'):Wp (AB cs it sg t f ρ h) Q:=by
 unfold AB
 rw [Az]
 refine Wp.mono hi fun x h1 z4_=>?_
 obtain ⟨ex,s1,hs⟩:=z4_
 subst ex
 rw [if_pos (Ck (by simpa using hn)),Az]
 refine Wp.mono (TB φ L ρ1 (List.range n) h1 List.nodup_range hs (fun x hx=>hg x (qb1.mp hx)) (fun x hx=>ht x (qb1.mp hx)) (fun x hx h' s'=>hf x (qb1.mp hx) h' (s1.trans s'))) fun ys h2 z=>?_
 obtain ⟨s2,a,ey,ea⟩:=z
 subst ey
 refine A7 (Ck (by simpa using hn)) fun l h3 s3 e3 _ _=>?_
 exact q l a h3 ((s1.trans s2).trans s3) e3 fun i hi=>s3 _ _ (ea i (qb1.mpr hi))
theorem ZbG {W H:Nat} {f:Nat→Nat→Bool} {R:Nat→Bool}:Cf W H (cc H f fun i=>!R i)=Cf W H (cc H f R):=by
 unfold Cf
 refine Gh fun j _=>?_
 have:cc H f (fun i=>!R i) j=(H:Int) - cc H f R j:=by
  unfold cc
  rw [←Rt]
  refine GP fun i _=>?_
  show Bool.xor (f i j) (!R i)=!Bool.xor (f i j) (R i)
  cases f i j<;>cases R i<;>rfl
 rw [this]
 split<;>split<;>omega
theorem ZbH {N S:Nat} {g:Nat→Nat→Bool} (hN:1≤N) (hS:1≤S):En ((List.range (2^(S - 1))).map fun c=>Cf N S (cc S (fun j i=>g i j) fun j=>c.testBit j))=A4 N S g:=by
 rw [←NO hN hS]
 apply Kn
 ·obtain ⟨R,hR,e⟩:=RA (H:=S) (W:=N) (f:=fun i j=>g j i)
  rw [←e]
  have key:∀R':Nat→Bool,R' (S - 1)=false→Cf N S (cc S (fun j i=>g i j) R')=Cf N S (cc S (fun i j=>g j i) R)→En ((List.range (2^(S - 1))).map fun c=>Cf N S (cc S (fun j i=>g i j) fun j=>c.testBit j))≤Cf N S (cc S (fun i j=>g j i) R):=fun R' h0 e'=>by
   rw [←e']
   have hc:=J3 R' (S - 1)
   refine NA (qaW.mpr ⟨BF (S - 1) R',qb1.mpr hc.1,?_⟩)
   have:(cc S (fun j i=>g i j) fun j=>(BF (S - 1) R').testBit j)=cc S (fun j i=>g i j) R':=by
    funext i
    refine Ru fun j hj=>?_
    rw [hc.2 j]
    by_cases z:j<S - 1
    ·simp [z]
    ·have:j=S - 1:=by omega
     subst this
     simp [h0]
   rw [this]
  cases hb:R (S - 1) with
  |false=>exact key R hb rfl
  |true=>exact key (fun i=>!R i) (by simp [hb]) ZbG
 ·have hne:((List.range (2^(S - 1))).map fun c=>Cf N S (cc S (fun j i=>g i j) fun j=>c.testBit j))≠[]:=by
   intro e
   have:=congrArg List.length e
   simp at this
  obtain ⟨c,hc,e⟩:=qaW.mp (Nz hne)
  rw [←e,←Rx]
  exact NL hS _ _
@[irreducible] noncomputable def lB:MS:=Aj (Aq 7 (AB [none,some 1,some 6] (AR (Ab 4)) (AG 0) (AN) (Ai AY (Ab 1) (Ai On (Ab 0) (Ab 2))))) (Ce (Fz (Ab 5) (Ag (An Du) (Aa (AB [none,some 3] (AR (Ab 7)) (AG 0) (AN) (Ag (Bq F6) (Aa (Ab 0) (Aa (Ai B4 (Ab 1) (Ab 0)) (Ac))))) (Ac)))))
def IK (N S:Nat) (g:Nat→Nat→Bool) (c:Nat):Int:=Cf N S (cc S (fun j i=>g i j) fun j=>c.testBit j)
section
variable {N S:Nat} {h:HD} {g:Nat→Nat→Bool}
theorem ZbI {b:D} {c l1 l2 l4 l5:Nat} {rows:List D} {y:Option D} {Q:Fl×Ah→HD→Prop} (hN:N≤8) (hS:S≤8) (hc:c<2^S) (e1:h[l1]?=some (.lst ((List.range 256).map Dj))) (e4:h[l4]?=some (.lst ((List.range N).map (Gs S g)))) (e5:h[l5]?=some (.lst rows)) (hz:rows.length≤256)
 (q:∀z h1,Sm h h1→l5<h1.length→Q (.nx,[some b,some (.loc l1),some (.loc l2),some (.int (S:Nat)),some (.loc l4),some (.loc l5),some (.int (c:Nat)),z]) (h1.set l5 (.lst (rows++[.int (IK N S g c)])))):
 Wp (lB [some b,some (.loc l1),some (.loc l2),some (.int (S:Nat)),some (.loc l4),some (.loc l5),some (.int (c:Nat)),y] h) Q:=by
 unfold lB
 refine Eq.mpr Bd ?_
 refine Eq.mpr FA ?_
 have hb:∀i,BF S (g i) ^^^c<256:=fun i=>AX (Nat.xor_lt_two_pow (J3 (g i) S).1 hc) (Tq hS)
 refine Dv (src:=[(l4,(List.range N).map (Gs S g))]) (xs:=List.range N) (φ:=Gs S g) (fun _=>true) (fun i=>.int (Cj (BF S (g i) ^^^c))) (fun i=>[some (Gs S g i),some (.loc l1),some (.int (c:Nat))]) ?_ (sz hN) (fun x _=>rfl) (fun x _ h' s'=>(.ok:Pu (.ok true h') h' true)) (fun i _ _ h' s'=>?_) fun l6 h6 s6 e6=>?_
 ·simp [Dc e4]
  exact ⟨.refl _,fun h' s'=>CW (s' _ _ e4)⟩
 ·simp only [Pu,Ia,Ek,DS,Gs,Wx,Bh]
  rw [bx]
  refine Au (B8 (s' _ _ e1) (k:=BF S (g i) ^^^c) (a:=Dj (BF S (g i) ^^^c)) (by rw [Ca,Ht (hb i)];rfl)) ?_
  exact ⟨rfl,.refl _⟩
 ·rw [B7] at e6
  refine Eq.mpr Ao ?_
  simp [FC (s6 _ _ e5)]
  refine Pu.wp (NF (src:=[(l6,(List.range N).map fun i=>.int (Cj (BF S (g i) ^^^c)))]) (xs:=List.range N) (φ:=fun i=>.int (Cj (BF S (g i) ^^^c))) (fun i=>if (S:Int) - Cj (BF S (g i) ^^^c)<Cj (BF S (g i) ^^^c) then (S:Int) - Cj (BF S (g i) ^^^c) else Cj (BF S (g i) ^^^c)) (fun i=>[some (.int (Cj (BF S (g i) ^^^c))),some (.int (S:Nat))]) ?_ (fun x _=>rfl) (fun x hx h' s'=>?_) (sz hN)) fun h7 s7=>?_
  ·simp [BX,Dc e6]
   exact ⟨.refl _,fun h' s'=>CW (s' _ _ e6)⟩
  ·simp [Pu,Sm.refl]
  ·have es:((List.range N).map fun i=>if (S:Int) - Cj (BF S (g i) ^^^c)<Cj (BF S (g i) ^^^c) then (S:Int) - Cj (BF S (g i) ^^^c) else Cj (BF S (g i) ^^^c)).sum=IK N S g c:=by
    unfold IK Cf
    refine Gh fun i _=>?_
    rw [Zbm hS hc]
    rfl
   rw [es]
   have e57:=s7 _ _ (s6 _ _ e5)
   refine Au (Nk e57 (Ck (by omega))) ?_
   rw [Bh]
   exact q _ h7 (s6.trans s7) (qa5.mp e57).1
@[irreducible] noncomputable def lT:MS:=Aj (Aq 3 (Ag (An Bm) (Aa (Ai AY (Ab 2) (mC (.int 0))) (Ac)))) (Aj (Aq 4 (AB [none] (AR (Ab 2)) (AG 0) (AN) (Ag (An Du) (Aa (AB [none,none] (JB (Aa (Ab 0) (Ac))) (BV 0 1) (AN) (Ai F4 (Ab 1) (Ab 0))) (Ac))))) (Aj (Aq 5 (AZ (Ac))) (Aj (Bw (CY (Aa (Ai F4 (mC (.int 1)) (Ai B4 (Ab 3) (mC (.int 1)))) (Ac))) (AG 6) lB) (AL (Ag (An (Cw En)) (Aa (Ab 5) (Ac)))))))
inductive TF (b:D) (N S M l1 l2 l4 l5:Nat) (g:Nat→Nat→Bool) (h:HD) (xs:List Nat) (ρ:Ah) (h':HD):Prop where
 |mk (j:Nat) (y z:Option D) (ex:xs=(List.range M).drop j) (hj:j≤M) (er:ρ=[some b,some (.loc l1),some (.loc l2),some (.int (S:Nat)),some (.loc l4),some (.loc l5),y,z]) (s:Sm h h') (e1:h'[l1]?=some (.lst ((List.range 256).map Dj))) (e4:h'[l4]?=some (.lst ((List.range N).map (Gs S g)))) (e5:h'[l5]?=some (.lst ((List.range j).map fun c=>.int (IK N S g c)))):TF b N S M l1 l2 l4 l5 g h xs ρ h'
theorem TH {b:D} {l1 l2:Nat} {a:Nat→Nat} {y3 y4 y5 y6 y7:Option D} {Q:D→HD→Prop} (hN:1≤N∧N≤8) (hS:1≤S∧S≤8) (e1:h[l1]?=some (.lst ((List.range 256).map Dj))) (e2:h[l2]?=some (.lst ((List.range N).map fun i=>.loc (a i)))) (ea:∀i<N,h[a i]?=some (.lst ((List.range S).map fun j=>lit (g i j))))
 (q:∀h',Sm h h'→Q (.int (A4 N S g)) h'):Wp (lT [some b,some (.loc l1),some (.loc l2),y3,y4,y5,y6,y7] h) (Jv Q):=by
 unfold lT
 refine Eq.mpr Bd ?_
 have ei:AY (.loc l2) (.int 0) h=.ok (.loc (a 0)) h:=by
  rw [show (0:Int)=((0:Nat):Int) from rfl]
  exact B8 e2 (k:=0) (by rw [Ca,Ht (by omega)];rfl)
 have el:Bm (.loc (a 0)) h=.ok (.int ((S:Nat):Int)) h:=by rw [Xb (ea 0 (by omega))];simp
 simp [-Ao,ei,el]
 refine Eq.mpr Ao ?_
 refine Eq.mpr Bd ?_
 refine Eq.mpr FA ?_
 refine Dv (src:=[(l2,(List.range N).map fun i=>D.loc (a i))]) (xs:=List.range N) (φ:=fun i=>.loc (a i)) (fun _=>true) (Gs S g) (fun i=>[some (.loc (a i))]) ?_ (sz hN.2) (fun x _=>rfl) (fun x _ h' s'=>(.ok:Pu (.ok true h') h' true)) (fun i hi _ h' s'=>?_) fun l4 h4 s4 e4=>?_
 ·simp [Dc e2]
  exact ⟨.refl _,fun h' s'=>CW (s' _ _ e2)⟩
 ·have ai:=s' _ _ (ea i (qb1.mp hi))
  simp [Pu]
  refine Pu.wp (NF (src:=[(a i,(List.range S).map fun j=>lit (g i j))]) (xs:=List.range S) (φ:=fun j=>.tup [.int ((j:Nat):Int),lit (g i j)]) (fun j=>(if g i j then (1:Int) else 0)*2^j) (fun j=>[some (.int ((j:Nat):Int)),some (lit (g i j))]) ?_ (fun x _=>rfl) (fun x hx h' s'=>?_) (sz hS.2)) fun h7 s7=>?_
  ·simp [BX,W6 ai]
   exact ⟨.refl _,fun h6 s6=>CW (s6 _ _ ai)⟩
  ·have hx:=qb1.mp hx
   simp only [Pu,Ia,Ek,DS,lit,Bh]
   refine Au (Tn (by split<;>decide) (by omega)) ?_
   exact ⟨rfl,.refl _⟩
  ·unfold Gs
   rw [To]
   exact ⟨rfl,s7⟩
 rw [B7] at e4
 refine Eq.mpr Ao ?_
 simp [-Ao]
 refine A7 (by simp) fun l5 h5 s5 e5 el5 _=>?_
 refine Eq.mpr Ao ?_
 refine Eq.mpr Bd ?_
 obtain ⟨M,eM⟩:∃M,2^(S - 1)=M:=⟨_,rfl⟩
 have hM:M≤256:=eM ▸ Tq (by omega)
 have hMS:M≤2^S:=eM ▸ DF (by decide) (by omega)
 have n1:l5≠l1:=by have:=(qa5.mp (s4 _ _ e1)).1;omega
 have n4:l5≠l4:=by have:=(qa5.mp e4).1;omega
 have hl5:h.length≤l5:=by have:=s4.len;omega
 refine DT (src:=[]) (xs:=List.range M) (fun i=>.int ((i:Nat):Int)) (TF b N S M l1 l2 l4 l5 g h) ?_ (fun ys ρ h' _=>DR) ?_ ?_
 ·simp
  rw [show (S:Int) - 1=((S - 1:Nat):Int) by omega]
  refine Au (Zby (by omega) eM) ?_
  rw [Bh,Gd (by omega)]
  exact ⟨rfl,⟨0,_,_,by simp,by omega,rfl,s4.trans s5,s5 _ _ (s4 _ _ e1),s5 _ _ e4,e5⟩⟩
 ·rintro x xs ρ h6 ⟨j,y,z,ex,hj,rfl,s6,f1,f4,f5⟩
  obtain ⟨rfl,hk',rfl⟩:=Hq ex.symm
  refine ⟨_,rfl,?_⟩
  refine ZbI hN.2 hS.2 (by omega) f1 f4 f5 (by simp;omega) fun z h7 s7 hl=>?_
  refine ⟨x+1,_,_,rfl,by omega,rfl,Sm.put (s6.trans s7) hl5,?_,?_,?_⟩
  ·rw [BU n1];exact s7 _ _ f1
  ·rw [BU n4];exact s7 _ _ f4
  ·rw [CF hl,Dl,CO];rfl
 ·rintro ρ h6 ⟨j,y,z,ex,hj,rfl,s6,f1,f4,f5⟩
  have:j=M:=Hr hj ex.symm
  subst this
  refine Eq.mpr Ao ?_
  simp
  have hp:0<2^(S - 1):=Nat.pow_pos (by decide)
  refine Au (Lk (ns:=(List.range j).map fun c=>IK N S g c) (by rw [f5,DL];rfl) (by simp;omega)) ?_
  rw [Bh]
  have e:En ((List.range j).map fun c=>IK N S g c)=A4 N S g:=by rw [←eM];exact ZbH hN.1 hS.1
  rw [e]
  exact q h6 s6
end
theorem ZbJ:LW=Aj (Aq 2 (AB [none] (AR (Ab 0)) (AG 0) (AN) (Ag (An listOfD) (Aa (Ab 0) (Ac))))) (Aj (Bv (Bu (Ai KP (Ag (An Bm) (Aa (Ab 0) (Ac))) (Ag (An Bm) (Aa (Ai AY (Ab 0) (mC (.int 0))) (Ac))))) (Aq 2 (AB [none,some 0] (CY (Aa (Ag (An Bm) (Aa (Ai AY (Ab 0) (mC (.int 0))) (Ac))) (Ac))) (AG 0) (AN) (AB [none,some 0] (AR (Ab 1)) (AG 0) (AN) (Ai AY (Ab 0) (Ab 1))))) (BH)) lT):=by
 unfold lT lB
 rfl
section
variable {H W:Nat} {h:HD} {f:Nat→Nat→Bool}
theorem ZbK {l1:Nat} (hh:1≤H∧H≤8) (hw:1≤W∧W≤8) (e1:h[l1]?=some (.lst ((List.range 256).map Dj))):Pu (Eu [bD H W f,.loc l1] h) h (.int (A4 H W f)):=by
 change Wp (Am 8 LW [bD H W f,.loc l1] h) _
 rw [ZbJ]
 refine Eq.mpr A9 ?_
 refine Eq.mpr Bd ?_
 refine Eq.mpr FA ?_
 refine TC (src:=[]) (n:=H) (φ:=fun i=>AD W (f i)) (fun i=>(List.range W).map fun j=>lit (f i j)) (fun i=>[some (AD W (f i))]) ?_ (by omega) (fun x _=>rfl) (fun x _ h'=>rfl) (fun i hi h' s'=>?_) fun l2 a h2 s2 e2 ea=>?_
 ·simp [bD,Sm.refl,Bs]
 ·simp [AD]
  unfold LS.listOfD
  simp only [BC]
  exact A7 (Ck (by simp;omega)) fun l h3 s3 e3 _ _=>⟨s3,l,rfl,e3⟩
 have e12:=s2 _ _ e1
 refine Eq.mpr Ao ?_
 refine Eq.mpr Bd ?_
 by_cases hz:H<W
 ·have hz':(H:Int)<(W:Int):=by omega
  simp [-Ao,L4,J0 hh.1,JZ,hz']
  refine TC (src:=[]) (n:=W) (φ:=fun j=>.int ((j:Nat):Int)) (fun j=>(List.range H).map fun i=>lit (f i j)) (fun j=>[some (.int ((j:Nat):Int)),some (bD H W f)]) ?_ (by omega) (fun x _=>rfl) (fun x _ h'=>rfl) (fun j hj h' s'=>?_) fun l3 a3 h3 s3 e3 ea3=>?_
  ·simp [J0 hh.1,JZ]
   refine Au (Gd (by omega)) ?_
   exact ⟨rfl,.refl _,fun _ _=>DR⟩
  ·refine Dv (src:=[]) (xs:=List.range H) (φ:=fun i=>AD W (f i)) (fun _=>true) (fun i=>lit (f i j)) (fun i=>[some (AD W (f i)),some (.int ((j:Nat):Int))]) ?_ (sz hh.2) (fun x _=>rfl) (fun x _ h' s'=>(.ok:Pu (.ok true h') h' true)) (fun i _ _ h' s'=>?_) fun l6 h6 s6 e6=>?_
   ·simp [bD,Sm.refl,Bs]
   ·simp [Pu,AD]
    rw [K7 hj]
    simp [Sm.refl]
   ·rw [B7] at e6
    exact ⟨s6,l6,rfl,e6⟩
  refine Eq.mpr Ao ?_
  refine TH (N:=W) (S:=H) (g:=fun i j=>f j i) hw hh (s3 _ _ e12) e3 ea3 fun h4 s4=>?_
  rw [NO hh.1 hw.1]
  exact ⟨rfl,(s2.trans s3).trans s4⟩
 ·have hz':¬(H:Int)<(W:Int):=by omega
  simp [-Ao,L4,J0 hh.1,JZ,hz']
  refine Eq.mpr Ao ?_
  exact TH hh hw e12 e2 ea fun h4 s4=>⟨rfl,s2.trans s4⟩
end
def Bad (h:HD) (a b:Int) (d:D):Prop:=∀h',Sm h h'→Pu (BZ [d,.int a,.int b] h') h' (.bl false)
theorem Bad.sm {h h1:HD} {a b:Int} {d:D} (x:Bad h a b d) (s:Sm h h1):Bad h1 a b d:=fun h' s'=>x h' (s.trans s')
theorem J4 {h:HD} {a b i:Int} (hi:i<a∨b<i):Bad h a b (.int i):=fun h' _=>by
 have e:(decide (a≤i)&&decide (i≤b))=false:=by
  rcases hi with z |z
  ·rw [decide_eq_false (by omega)];rfl
  ·rw [decide_eq_false (show ¬i≤b by omega),Bool.and_false]
 exact e ▸ p_is_between_int
theorem J5 {h:HD} {a b:Int} {d:D} (e:∀h',Sm h h'→Df [d] h'=.ok (.bl false) h'):Bad h a b d:=fun h' s'=>by
 change Wp (Am 3 (JS Df) [d,.int a,.int b] h') _
 rw [A9]
 simp [e h' s',Sm.refl]
theorem ZbL {h:HD} {a b:Int} {l:Nat} {ds:List D} (e:h[l]?=some (.lst ds)):Bad h a b (.loc l):=J5 fun h' s'=>by
 have e':=s' _ _ e
 show Am 1 JR [.loc l] h'=_
 have i1:AC (.loc l) (.ty "int") h'=.ok (.bl false) h':=RZ e'
 unfold Am JR AL FZ Ag
 simp [Aa,Ab,mC,Ac,i1]
theorem TJ {h:HD} {a b:Int} {c:Bool}:Bad h a b (.bl c):=J5 fun h' _=>rfl
theorem ZbM {h:HD} {a b:Int}:Bad h a b .non:=J5 fun h' _=>rfl
theorem ZbN {h:HD} {a b:Int} {x:Str}:Bad h a b (.str x):=J5 fun h' _=>rfl
theorem ZbO {h:HD} {a b:Int} {ds:List D}:Bad h a b (.tup ds):=J5 fun h' _=>rfl
theorem ZbP {i a b:Int} {h:HD} (h1:a≤i) (h2:i≤b):Pu (DD [.int i,.int a,.int b] h) h .non:=by
 change Wp (Am 3 (JT BZ) [.int i,.int a,.int b] h) _
 rw [A9]
 simp
 refine p_is_between_int.wp fun h' s=>?_
 simp [h1,h2,s]
theorem TK {a b:Int} {d:D} {h:HD} (hb:Bad h a b d) (ha:0≤a∧a<10) (hb2:0≤b∧b<10):Er (DD [d,.int a,.int b] h) h "NoNumber":=by
 change We (Am 3 (JT BZ) [d,.int a,.int b] h) _ _
 rw [DZ]
 simp
 refine (hb h (.refl _)).we fun h' s=>?_
 simp
 refine N0 (n:=0) (AM _) (by decide) fun a1 l1=>R1 rfl ha.1 ha.2 l1 (by decide) fun a2 l2=>N0 l2 (by decide) fun a3 l3=>R1 rfl hb2.1 hb2.2 l3 (by decide) fun a4 l4=>N0 l4 (by decide) fun a5 l5=>X5 l5 (by decide) ?_
 simp [DU,s]
theorem ZbQ {h:HD} {x y:D} (hx:Bad h 1 8 x∨((∃i:Int,x=.int i∧1≤i∧i≤8)∧Bad h 1 8 y)):Er (Dg [x,y] h) h "NoNumber":=by
 change We (Am 2 (LY DD) [x,y] h) _ _
 rw [DZ]
 simp
 rcases hx with hx |⟨⟨i,rfl,h1,h2⟩,hy⟩
 ·exact (TK hx (by decide) (by decide)).we fun h' s=>⟨rfl,rfl,s⟩
 ·refine (ZbP h1 h2).we fun h' s=>?_
  exact (TK (hy.sm s) (by decide) (by decide)).we fun h2 s2=>⟨rfl,rfl,s.trans s2⟩
theorem TL {T:List (Str×(List D→HD→Out D))} {n:Str} {F:List D→HD→Out D} {fa:MA} {r:Ah} {h:HD} {Q:D→HD→Prop} {R:Str→List (Str×D)→HD→Prop} (hT:T.lookup n=some F):
 We (DH T (Ab 0) fa (some (.glo n)::r) h) Q R=We (fa (some (.glo n)::r) h) (fun ds h1=>We (F ds h1) Q R) R:=by
 have:DH T (Ab 0) fa (some (.glo n)::r) h=(fa (some (.glo n)::r) h).bind F:=by
  unfold DH
  show (Out.ok (D.glo n) h).bind _=_
  simp only [Out.bind_ok,hT]
 rw [this,Cz]
theorem p_kind_number {h:HD}:Pu (CL [.exc "NoNumber" []] h) h (.str "! number"):=Za7 (w:="number") (j:=3) (by decide +kernel) (by decide +kernel) (by decide +kernel) (by decide +kernel) rfl (by decide +kernel) (by decide +kernel)
theorem ZbR {cs:List Nat} {f:ME} {ρ:Ah} {h:HD} {ds:List D} {Q:D→HD→Prop} (ht:TabAt h) (hd:A0 (cs.map fun j=>(ρ[j]?).join)=some ds) (he:Er (f (ds.map some) h) h "NoNumber")
 (q:∀h',Sm h h'→Q (.str "! number") h'):Wp (E5 cs CL f ρ h) Q:=
 RW ht hd (he.we fun h' s=>⟨by decide +kernel,[],rfl,p_kind_number.wp fun h2 s2=>q h2 (s.trans s2)⟩)
def BadP (h:HD) (x y:D):Prop:=Bad h 1 8 x∨((∃i:Int,x=.int i∧1≤i∧i≤8)∧Bad h 1 8 y)
theorem BadP.sm {h h':HD} {x y:D} (p:BadP h x y) (s:Sm h h'):BadP h' x y:=by
 rcases p with z |⟨z1,z2⟩
 ·exact .inl (z.sm s)
 ·exact .inr ⟨z1,z2.sm s⟩
section
variable {x y:D} {h:HD} {H W n:Nat}
theorem ZbS (p:BadP h x y):Er (DE [x,y] h) h "NoNumber":=by
 change We (Am 3 (IF Dg) [x,y] h) _ _
 rw [OX]
 refine Eq.mpr DZ ?_
 simp
 exact (ZbQ p).we fun h' s=>⟨rfl,rfl,s⟩
theorem O3 (p:BadP h x y):Er (Bg [x,y] h) h "NoNumber":=by
 change We (Am 2 (JU DE BR D7) [x,y] h) _ _
 refine Eq.mpr DZ ?_
 simp
 exact (ZbS p).we fun h' s=>⟨rfl,rfl,s⟩
theorem ZbT (p:BadP h x y):Er (B0 [x,y] h) h "NoNumber":=by
 change We (Am 2 (JV Bg) [x,y] h) _ _
 refine Eq.mpr DZ ?_
 simp
 exact (O3 p).we fun h' s=>⟨rfl,rfl,s⟩
theorem ZbU (p:BadP h x y):Er (B2 [x,y] h) h "NoNumber":=by
 change We (Am 4 (JW Bg BR) [x,y] h) _ _
 refine Eq.mpr DZ ?_
 simp
 exact (O3 p).we fun h' s=>⟨rfl,rfl,s⟩
theorem ZbV (p:BadP h x y):Er (BS [x,y] h) h "NoNumber":=by
 change We (Am 3 (JX Bg) [x,y] h) _ _
 refine Eq.mpr DZ ?_
 simp
 exact (O3 p).we fun h' s=>⟨rfl,rfl,s⟩
theorem O4 (hh:1≤H∧H≤8) (hw:1≤W∧W≤8) (en:(H - 1)*(W - 1)=n) (hz:9<n):Et (Bg [.int (H:Nat),.int (W:Nat)] h) h "TooMany" [("many",.int (n:Nat)),("most",.int 9)]:=by
 change We (Am 2 (JU DE BR D7) [.int (H:Nat),.int (W:Nat)] h) _ _
 refine Eq.mpr DZ ?_
 simp
 exact (Zbu hh hw en hz).we fun h' s=>⟨rfl,rfl,s⟩
theorem ZbW (hh:1≤H∧H≤8) (hw:1≤W∧W≤8) (en:(H - 1)*(W - 1)=n) (hz:9<n):Et (B0 [.int (H:Nat),.int (W:Nat)] h) h "TooMany" [("many",.int (n:Nat)),("most",.int 9)]:=by
 change We (Am 2 (JV Bg) [.int (H:Nat),.int (W:Nat)] h) _ _
 refine Eq.mpr DZ ?_
 simp
 exact (O4 hh hw en hz).we fun h' s=>⟨rfl,rfl,s⟩
theorem ZbX (hh:1≤H∧H≤8) (hw:1≤W∧W≤8) (en:(H - 1)*(W - 1)=n) (hz:9<n):Et (B2 [.int (H:Nat),.int (W:Nat)] h) h "TooMany" [("many",.int (n:Nat)),("most",.int 9)]:=by
 change We (Am 4 (JW Bg BR) [.int (H:Nat),.int (W:Nat)] h) _ _
 refine Eq.mpr DZ ?_
 simp
 exact (O4 hh hw en hz).we fun h' s=>⟨rfl,rfl,s⟩
theorem ZbY (hh:1≤H∧H≤8) (hw:1≤W∧W≤8) (en:(H - 1)*(W - 1)=n) (hz:9<n):Et (BS [.int (H:Nat),.int (W:Nat)] h) h "TooMany" [("many",.int (n:Nat)),("most",.int 9)]:=by
 change We (Am 3 (JX Bg) [.int (H:Nat),.int (W:Nat)] h) _ _
 refine Eq.mpr DZ ?_
 simp
 exact (O4 hh hw en hz).we fun h' s=>⟨rfl,rfl,s⟩
end
@[irreducible] noncomputable def gE:ME:=Ai HQ (Ai BY (Ai B4 (Ab 14) (mC (.int 1))) (Ai B4 (Ab 15) (mC (.int 1)))) (mC (.int 9))
@[irreducible] noncomputable def dE:ME:=Ai AA (Ai AA (mC (.str "! many ")) (Ag (An strOfD) (Aa (Ai BY (Ai B4 (Ab 14) (mC (.int 1))) (Ai B4 (Ab 15) (mC (.int 1)))) (Ac)))) (mC (.str " 9"))
@[irreducible] noncomputable def Mc:MS:=Bv (Bu gE) (Bv (Bu (Ai Cy (E5 [11,14,15] CL (DH [("worst_left",B0),("worst_forms",B2),("form_counts",BS)] (Ab 0) (Aa (Ab 1) (Aa (Ab 2) (Ac))))) dE)) (AL (mC (.bl false))) (BH)) (BH)
@[irreducible] noncomputable def Md:MS:=Bw (AR (AZ (Aa (A1 (Aa (Ab 16) (Aa (mC (.int 8)) (Ac)))) (Aa (A1 (Aa (mC (.int 8)) (Aa (Ab 16) (Ac)))) (Aa (A1 (Aa (Ab 16) (Aa (Ab 16) (Ac)))) (Aa (A1 (Aa (Ab 16) (Aa (Ab 6) (Ac)))) (Ac))))))) (BV 17 18) (Bv (Bu (Ai Cy (E5 [11,17,18] CL (DH [("worst_left",B0),("worst_forms",B2),("form_counts",BS)] (Ab 0) (Aa (Ab 1) (Aa (Ab 2) (Ac))))) (mC (.str "! number")))) (AL (mC (.bl false))) (BH))
@[irreducible] noncomputable def Me:MS:=Aq 13 (DH [("worst_left",B0),("worst_forms",B2),("form_counts",BS)] (Ab 11) (Aa (Ab 5) (Aa (Ab 6) (Ac))))
@[irreducible] noncomputable def Mf:MS:=Bv (Bu (Ai Cy (Ag (An BN) (Aa (Ab 13) (Ac))) (Ag (An BN) (Aa (Ab 12) (Ac))))) (AL (mC (.bl false))) (BH)
@[irreducible] noncomputable def Mg:MS:=Ce (Fz (Ab 13) (mC .non))
@[irreducible] noncomputable def J6:MS:=Aq 4 (Ag Ew (Aa (Ab 0) (Aa (Ab 3) (Ac))))
@[irreducible] noncomputable def J7:MS:=F7 (BV 5 6) (Ai AY (Ab 1) (Ag B1 (Aa (Ab 4) (Aa (mC (.int 17)) (Ac)))))
@[irreducible] noncomputable def J8:MS:=Aq 7 (AB [none,some 2] (AR (Ag DI (Aa (Ab 5) (Aa (Ab 6) (Ac))))) (AG 0) (AN) (A1 (Aa (Ag Eu (Aa (Ab 0) (Aa (Ab 1) (Ac)))) (Aa (Ab 0) (Ac)))))
@[irreducible] noncomputable def J9:MS:=Aq 8 (AB [none,none] (AR (Ab 7)) (BV 0 1) (AN) (Ab 0))
@[irreducible] noncomputable def Ka:MS:=Aq 9 (Ag (An (Cw Eo)) (Aa (Ab 8) (Ac)))
@[irreducible] noncomputable def Kb:MS:=Bv (Bu (Ai Cy (Ag (An BN) (Aa (Ag B0 (Aa (Ab 5) (Aa (Ab 6) (Ac)))) (Ac))) (Ag (An BN) (Aa (Ab 9) (Ac))))) (AL (mC (.bl false))) (BH)
@[irreducible] noncomputable def Kc:MS:=Aq 10 (AZ (Aa (AB [none,none,some 9] (AR (Ab 7)) (BV 0 1) (Bu (Ai DY (Ab 0) (Ab 2))) (Ab 1)) (Aa (AB [none,some 8] (CY (Aa (Ai AA (Ab 9) (mC (.int 1))) (Ac))) (AG 0) (AN) (FE BW E4 (Ab 1) (Ab 0))) (Ac))))
@[irreducible] noncomputable def Kd:MS:=Bv (Bu (Ai Cy (Ag (An BN) (Aa (Ag BS (Aa (Ab 5) (Aa (Ab 6) (Ac)))) (Ac))) (Ag (An BN) (Aa (Ai AY (Ab 10) (mC (.int 1))) (Ac))))) (AL (mC (.bl false))) (BH)
@[irreducible] noncomputable def Ke:MS:=F7 (JE [14,15]) (A1 (Aa (Ai AA (mC (.int 2)) (Ag B1 (Aa (Ab 4) (Aa (mC (.int 7)) (Ac))))) (Aa (Ai AA (mC (.int 2)) (Ag B1 (Aa (Ab 4) (Aa (mC (.int 7)) (Ac))))) (Ac))))
@[irreducible] noncomputable def Kf:MS:=Aq 16 (Ai AY (AZ (Aa (mC (.int 0)) (Aa (mC (.int 9)) (Aa (K4 (mC (.int 1))) (Aa (mC (.bl true)) (Aa (mC .non) (Aa (mC (.str "3")) (Aa (A1 (Aa (mC (.int 3)) (Ac))) (Aa (Ai Jk (mC (.int 10)) (mC (.int 29))) (Aa (Ai AA (mC (.int 9)) (Ag B1 (Aa (Ab 4) (Aa (mC (.int 99)) (Ac))))) (Aa (AZ (Aa (mC (.int 2)) (Ac))) (Aa (mC (.bl false)) (Ac))))))))))))) (Ag B1 (Aa (Ab 4) (Aa (mC (.int 11)) (Ac)))))
@[irreducible] noncomputable def Kg:MS:=Bw (GO (Aa (AZ (Aa (mC (.glo "worst_forms")) (Aa (mC (.glo "form_counts")) (Ac)))) (Aa (Ab 10) (Ac)))) (BV 11 12) (Aj Me (Aj Mf Mg))
@[irreducible] noncomputable def Kh:MS:=Bw (AR (AZ (Aa (mC (.glo "worst_left")) (Aa (mC (.glo "worst_forms")) (Aa (mC (.glo "form_counts")) (Ac)))))) (AG 11) (Aj Mc Md)
@[irreducible] noncomputable def Mh:MS:=Aq 1 (AZ (Fb [(4,4),(3,5),(5,3),(2,8),(8,2),(1,8),(8,1),(2,4),(4,3),(3,3),(2,2),(1,1),(4,2)]))
@[irreducible] noncomputable def Mi:MS:=Aq 1 (Ai AA (Ab 1) (AZ (Fb [(2,7),(6,2),(3,4),(1,5)])))
@[irreducible] noncomputable def Mj:MS:=Aq 2 (Ag Es (Ac))
theorem rp9 {h:HD}:BN (.int 9) h=.ok (.str (("9":String):Str)) h:=rfl
theorem TN {n:Nat} (hn:n<100):∃x t:Str,(∀h,BN (.int (n:Nat)) h=.ok (.str x) h)∧x.length≤100∧((("! many ":String):Str)++x++((" ":String):Str)++(("9":String):Str))=t∧(∀h,LS.strOfD (.int (n:Nat)) h=.ok (.str x) h)∧((("! many ":String):Str)++x++((" 9":String):Str))=t:=by
 have l1:=OV n hn
 have g1:=OW n hn
 have s:∀i:Int,i.natAbs<4611686018427387904→∀h,LS.strOfD (.int i) h=.ok (.str (toString i)) h:=fun i hi h=>by
  unfold LS.strOfD
  exact if_pos hi
 have q:∀n<100,((("! many ":String):Str)++(((toString ((n:Nat):Int)):String):Str)++((" 9":String):Str))=((("! many ":String):Str)++(((toString ((n:Nat):Int)):String):Str)++((" ":String):Str)++(("9":String):Str)):=by decide +kernel
 refine ⟨(((toString ((n:Nat):Int)):String):Str),_,fun h=>?_,by omega,rfl,s _ (by omega),q n hn⟩
 unfold BN
 have e:Bk h 8 (.int (n:Nat))=some (.int (n:Nat)):=rfl
 rw [e]
 simp only
 rw [if_pos ⟨by simpa [PyData.showable] using g1,rfl,EF _,by unfold sizeLine;exact BA l1 (by decide)⟩]
 rfl
theorem ZbZ {a c:Int} {n:Nat} {ρ:Ah} {h:HD} {x:Str} {Q:D→HD→Prop} (ea:Ab 14 ρ h=.ok (.int a) h) (eb:Ab 15 ρ h=.ok (.int c) h) (ha:1≤a∧a<100) (en:(a - 1)*(c - 1)=(n:Nat)) (sx:∀h,LS.strOfD (.int (n:Nat)) h=.ok (.str x) h) (lx:x.length≤100) (q:Q (.str ((("! many ":String):Str)++x++((" 9":String):Str))) h):Wp (dE ρ h) Q:=by
 unfold dE
 simp [ea,eb]
 rw [Ge (by omega) (by omega)]
 simp
 rw [en]
 refine Au (sx h) ?_
 rw [Bh]
 refine Au (Ir (by have:(("! many ":String):Str).length≤100:=by decide +kernel
                   omega)) ?_
 rw [Bh]
 have l1:((("! many ":String):Str)++x).length≤200:=by
  rw [Str.length_append]
  have:(("! many ":String):Str).length≤100:=by decide +kernel
  omega
 refine Au (Ir (by have:((" 9":String):Str).length≤100:=by decide +kernel
                   omega)) ?_
 rw [Bh]
 exact q
theorem Zb0 {i:Int} (h:i.natAbs<10^12):Rp 0 13 (.int i):=by
 refine ⟨.int i,fun h m=>by cases m<;>rfl,?_,rfl,by simp [PyData.depth],PyData.shown_int_le h⟩
 simp only [PyData.showable,decide_eq_true_eq]
 by_cases z:i.natAbs=0
 ·rw [z];decide
 ·exact AX ((Nat.log2_lt (k:=40) z).mpr (AX h (by decide))) (by decide)
theorem Zb1 {n:Nat} (h:n<10^12):Rp 0 13 (.int (n:Nat)):=Zb0 (by rw [Int.natAbs_natCast];exact h)
theorem TQ {L:Nat}:∀{ts:List Str},(∀t∈ts,t.length≤L)→(ts.map (·.length)).sum≤ts.length*L
 |[],_=>by simp
 |t::ts,h=>by
  have h1:=h t AO
  have h2:=TQ (fun x hx=>h x (AS _ hx)) (ts:=ts)
  simp [IX]
  omega
theorem TR {n L k:Nat} {ds:List D} (h:∀d∈ds,Rp n L d) (hk:ds.length≤k) (hn:n+1≤8) (hl:k*(L+2)+3≤sizeLine):∃x:Str,∀(hd:HD) (l:Nat),hd[l]?=some (.lst ds)→BN (.loc l) hd=.ok (.str x) hd:=by
 obtain ⟨ps,b1,b2,b3,b4,b5,b6⟩:=NY h
 refine ⟨(PyData.list ps).shown,fun hd l e=>?_⟩
 have e8:Bk hd 8 (.loc l)=some (.list ps):=by
  have:=b1 hd (8 - (n+1))
  rw [show (8:Nat)=(n+(8 - (n+1)))+1 by omega]
  simp only [Bk,e,this]
  rfl
 unfold BN
 rw [e8]
 simp only
 rw [if_pos]
 refine ⟨by simpa [PyData.showable] using b2,by simpa [PyData.hasDict] using b3,by simp only [PyData.depth];omega,BA ?_ hl⟩
 simp only [PyData.shown]
 have e1:=listText_len_le (PyData.shownAll ps)
 have e2:=TQ b6
 have e3:(PyData.shownAll ps).length=ds.length:=by rw [NZ,b5]
 rw [e3] at e1 e2
 have e4:ds.length*(L+2)≤k*(L+2):=Nat.mul_le_mul_right _ hk
 rw [Nat.mul_add] at e4
 omega
def szD:List D:=[.tup [.int 4,.int 4],.tup [.int 3,.int 5],.tup [.int 5,.int 3],.tup [.int 2,.int 8],.tup [.int 8,.int 2],.tup [.int 1,.int 8],.tup [.int 8,.int 1],.tup [.int 2,.int 4],.tup [.int 4,.int 3],.tup [.int 3,.int 3],.tup [.int 2,.int 2],.tup [.int 1,.int 1],.tup [.int 4,.int 2],.tup [.int 2,.int 7],.tup [.int 6,.int 2],.tup [.int 3,.int 4],.tup [.int 1,.int 5]]
def O5 (d:D):Prop:=∃H W:Nat,d=.tup [.int (H:Nat),.int (W:Nat)]∧(1≤H∧H≤8)∧(1≤W∧W≤8)∧(H - 1)*(W - 1)≤9
theorem CD (H W:Nat) (h:(1≤H∧H≤8)∧(1≤W∧W≤8)∧(H - 1)*(W - 1)≤9:=by decide):O5 (.tup [.int (H:Nat),.int (W:Nat)]):=⟨H,W,rfl,h⟩
theorem Zb2:∀d∈szD,O5 d:=all_cons (CD 4 4) <| all_cons (CD 3 5) <| all_cons (CD 5 3) <| all_cons (CD 2 8) <| all_cons (CD 8 2) <| all_cons (CD 1 8) <| all_cons (CD 8 1) <| all_cons (CD 2 4) <| all_cons (CD 4 3) <| all_cons (CD 3 3) <| all_cons (CD 2 2) <| all_cons (CD 1 1) <| all_cons (CD 4 2) <| all_cons (CD 2 7) <| all_cons (CD 6 2) <| all_cons (CD 3 4) <| all_cons (CD 1 5) OP
inductive Fx (b l1 l2:Nat) (h:HD):Prop where
 |mk (bx:BoxAt h b) (ht:TabAt h) (hs:h[l1]?=some (.lst szD)) (ho:h[l2]?=some (.lst ((List.range 256).map Dj))) (nb:0<b) (n1:l1≠b) (n2:l2≠b):Fx b l1 l2 h
theorem Fx.sm {b l1 l2:Nat} {h h':HD} (x:Fx b l1 l2 h) (s:Sm h h'):Fx b l1 l2 h':=by
 obtain ⟨a1,a2,a3,a4,a5,a6,a7⟩:=x
 exact ⟨a1.sm s,a2.sm s,s _ _ a3,s _ _ a4,a5,a6,a7⟩
theorem Fx.take {b l1 l2:Nat} {m:Int} {h:HD} {Q:D→HD→Prop} (x:Fx b l1 l2 h) (h1:0<m) (h2:m≤1000) (q:∀(d:Nat) h',(d:Int)<m→Fx b l1 l2 h'→Smx b h h'→Q (.int (d:Nat)) h'):Wp (B1 [.loc b,.int m] h) Q:=by
 obtain ⟨a1,a2,a3,a4,a5,a6,a7⟩:=x
 exact Za4 a1 a5 a2 h1 h2 fun d h' ld x' t' s'=>q d h' ld ⟨x',t',s' _ _ a6 a3,s' _ _ a7 a4,a5,a6,a7⟩ s'
theorem Zb3 {T:List (Str×(List D→HD→Out D))} {n:Str} {F:List D→HD→Out D} {fa:MA} {ρ:Ah} {i:Nat} {h:HD} {Q:D→HD→Prop} (hv:Ab i ρ h=.ok (.glo n) h) (hT:T.lookup n=some F):
 Wp (DH T (Ab i) fa ρ h) Q=Wp (fa ρ h) fun ds h1=>Wp (F ds h1) Q:=by
 have:DH T (Ab i) fa ρ h=(fa ρ h).bind F:=by
  unfold DH
  rw [hv]
  simp only [Out.bind_ok,hT]
 rw [this,Az]
def AU (ns:List Int) (l1 l2 k b H W:Nat) (c7 c8 c9 c10 c11 c12 c13 c14 c15 c16 c17 c18:Option D):Ah:=[some (.scr ns),some (.loc l1),some (.loc l2),some (.int (k:Nat)),some (.loc b),some (.int (H:Nat)),some (.int (W:Nat)),c7,c8,c9,c10,c11,c12,c13,c14,c15,c16,c17,c18]
def Gu (H W:Nat) (f:Nat→Nat→Bool):D:=.tup [.int (A4 H W f),bD H W f]
def Ki (H W:Nat):List D:=((fs H W).filter (Ma H W)).map (bD H W)
def IP (H W n:Nat):List D:=(List.range (n+1)).map (Mb H W)
def O6 (L:List D):Prop:=L.length≤512∧∃x:Str,∀(hd:HD) (l:Nat),hd[l]?=some (.lst L)→BN (.loc l) hd=.ok (.str x) hd
theorem Zb4 {W:Nat} {r:Nat→Bool} (hw:W≤8):Rp 1 35 (AD W r):=
 RY (n:=0) (k:=8) (L:=2) (fun d hd=>by
  obtain ⟨j,_,rfl⟩:=qaW.mp hd
  cases r j
  ·exact ⟨.int 0,fun h m=>by cases m<;>rfl,rfl,rfl,by simp [PyData.depth],by decide⟩
  ·exact ⟨.int 1,fun h m=>by cases m<;>rfl,rfl,rfl,by simp [PyData.depth],by decide⟩) (by simp;omega)
theorem Zb5 {H W:Nat} (hh:H≤8) (hw:W≤8) (hz:(H - 1)*(W - 1)≤9):O6 (Ki H W):=by
 have hl:(Ki H W).length≤512:=by
  unfold Ki
  rw [Cm]
  exact BA (Kk _ _) (IJ hz)
 refine ⟨hl,TR (n:=2) (L:=299) (k:=512) (fun d hd=>?_) hl (by decide) (by unfold sizeLine;decide)⟩
 obtain ⟨f,_,rfl⟩:=qaW.mp hd
 exact RY (n:=1) (k:=8) (L:=35) (fun d hd=>by
  obtain ⟨i,_,rfl⟩:=qaW.mp hd
  exact Zb4 hw) (by simp;omega)
theorem TU {H W n:Nat} (hn:n≤64) (hz:(H - 1)*(W - 1)≤9):O6 (IP H W n):=by
 have hl:(IP H W n).length≤512:=by unfold IP;simp;omega
 refine ⟨hl,TR (n:=0) (L:=13) (k:=512) (fun d hd=>?_) hl (by decide) (by unfold sizeLine;decide)⟩
 obtain ⟨k,_,rfl⟩:=qaW.mp hd
 have:FG (.int (k:Nat)) (lV H W)≤512:=by
  refine BA List.countP_le_length ?_
  unfold lV
  rw [Cm]
  exact IJ hz
 exact Zb1 (by omega)
section
variable {ns:List Int} {l1 l2 k b H W n:Nat} {h:HD} {c1 c2 c3 c4 c5 c6 c7 c8 c9 c10 c11 c12 c13 c14 c15 c16 c17 c18:Option D} {Q:Fl×Ah→HD→Prop}
theorem z0 (q:∀l h',Sm h h'→h'[l]?=some (.lst (szD.take 13))→Q (.nx,[some (.scr ns),some (.loc l),c2,c3,c4,c5,c6,c7,c8,c9,c10,c11,c12,c13,c14,c15,c16,c17,c18]) h'):Wp (Mh [some (.scr ns),c1,c2,c3,c4,c5,c6,c7,c8,c9,c10,c11,c12,c13,c14,c15,c16,c17,c18] h) Q:=by
 unfold Mh
 simp
 refine A7 (Ck (by decide)) fun l h1 s1 e1 _ _=>q l h1 s1 e1
theorem z1 {l:Nat} (e:h[l]?=some (.lst (szD.take 13))) (q:∀l h',Sm h h'→h'[l]?=some (.lst szD)→Q (.nx,[some (.scr ns),some (.loc l),c2,c3,c4,c5,c6,c7,c8,c9,c10,c11,c12,c13,c14,c15,c16,c17,c18]) h'):Wp (Mi [some (.scr ns),some (.loc l),c2,c3,c4,c5,c6,c7,c8,c9,c10,c11,c12,c13,c14,c15,c16,c17,c18] h) Q:=by
 unfold Mi
 simp
 refine A7 (by simp) fun l1 h1 s1 e1 _ _=>?_
 refine Au (Iu (s1 _ _ e) e1) ?_
 exact A7 (Ck (by decide)) fun l2 h2 s2 e2 el _=>q l2 h2 (s1.trans s2) e2
theorem z2 (q:∀l h',Sm h h'→h'[l]?=some (.lst ((List.range 256).map Dj))→Q (.nx,[some (.scr ns),some (.loc l1),some (.loc l),c3,c4,c5,c6,c7,c8,c9,c10,c11,c12,c13,c14,c15,c16,c17,c18]) h'):Wp (Mj [some (.scr ns),some (.loc l1),c2,c3,c4,c5,c6,c7,c8,c9,c10,c11,c12,c13,c14,c15,c16,c17,c18] h) Q:=by
 unfold Mj
 simp
 exact Zbx fun l h' s hl e=>q l h' s e
theorem st0 (hb:∀i∈ns,Builtin.Int.intBits i≤2^20) (hk:k≤1000) (ht:TabAt h) (hs:h[l1]?=some (.lst szD)) (ho:h[l2]?=some (.lst ((List.range 256).map Dj))) (q:∀b h',Fx b l1 l2 h'→Q (.nx,[some (.scr ns),some (.loc l1),some (.loc l2),some (.int (k:Nat)),some (.loc b),c5,c6,c7,c8,c9,c10,c11,c12,c13,c14,c15,c16,c17,c18]) h'):
 Wp (J6 [some (.scr ns),some (.loc l1),some (.loc l2),some (.int (k:Nat)),c4,c5,c6,c7,c8,c9,c10,c11,c12,c13,c14,c15,c16,c17,c18] h) Q:=by
 unfold J6
 simp
 refine ZaN hb hk fun b h1 x1 lb s1=>q b h1 ⟨x1,ht.sm s1,s1 _ _ hs,s1 _ _ ho,by have:=ht.pos;omega,?_,?_⟩
 ·have:=(qa5.mp hs).1;omega
 ·have:=(qa5.mp ho).1;omega
theorem O7 (fx:Fx b l1 l2 h) (q:∀H W h',(1≤H∧H≤8)→(1≤W∧W≤8)→(H - 1)*(W - 1)≤9→Fx b l1 l2 h'→Q (.nx,AU ns l1 l2 k b H W c7 c8 c9 c10 c11 c12 c13 c14 c15 c16 c17 c18) h'):
 Wp (J7 [some (.scr ns),some (.loc l1),some (.loc l2),some (.int (k:Nat)),some (.loc b),c5,c6,c7,c8,c9,c10,c11,c12,c13,c14,c15,c16,c17,c18] h) Q:=by
 unfold J7
 simp
 refine fx.take (by decide) (by decide) fun d h1 ld fx1 s1=>?_
 have fx2:=fx1
 obtain ⟨_,_,hs1,_,_,_,_⟩:=fx2
 obtain ⟨y,ey,H,W,rfl,hh,hw,hz⟩:=Za5 O5 (o:=d) hs1 (by show d<17;omega) Zb2
 refine Au ey ?_
 rw [Bh]
 exact q H W h1 hh hw hz fx1
theorem Dk (hh:1≤H∧H≤8) (hw:1≤W∧W≤8) (hz:(H - 1)*(W - 1)≤9) (fx:Fx b l1 l2 h) (q:∀l h',Sm h h'→h'[l]?=some (.lst ((fs H W).map (Gu H W)))→Q (.nx,AU ns l1 l2 k b H W (some (.loc l)) c8 c9 c10 c11 c12 c13 c14 c15 c16 c17 c18) h'):Wp (J8 (AU ns l1 l2 k b H W c7 c8 c9 c10 c11 c12 c13 c14 c15 c16 c17 c18) h) Q:=by
 unfold J8
 refine Eq.mpr FA ?_
 obtain ⟨d,h2,e2,l,rfl,s2,f2⟩:=(ZbF (h:=h) (Q:=fun d h'=>∃l,d=.loc l∧Sm h h'∧h'[l]?=some (.lst ((fs H W).map (bD H W)))) hh hw hz fun l h' s e=>⟨l,rfl,s,e⟩).ex
 obtain ⟨_,_,_,ho,_,_,_⟩:=fx
 refine Dv (src:=[(l,(fs H W).map (bD H W))]) (xs:=fs H W) (φ:=bD H W) (fun _=>true) (Gu H W) (fun f=>[some (bD H W f),some (.loc l2)]) ?_ (Ck (by have:=IJ hz;omega)) (fun x _=>rfl) (fun x _ h' s'=>(.ok:Pu (.ok true h') h' true)) (fun f _ _ h' s'=>?_) fun l3 h3 s3 e3=>?_
 ·have:AR (Ag DI (Aa (Ab 5) (Aa (Ab 6) Ac))) (AU ns l1 l2 k b H W c7 c8 c9 c10 c11 c12 c13 c14 c15 c16 c17 c18) h=(DI [.int (H:Nat),.int (W:Nat)] h).bind EX:=rfl
  rw [this]
  exact NG e2 s2 f2
 ·simp [Pu]
  refine (ZbK hh hw (s' _ _ ho)).wp fun h4 s4=>?_
  exact ⟨rfl,s4⟩
 ·rw [B7] at e3
  exact q l3 h3 s3 e3
theorem Mk {l7:Nat} (hz:(H - 1)*(W - 1)≤9) (e7:h[l7]?=some (.lst ((fs H W).map (Gu H W)))) (q:∀l h',Sm h h'→h'[l]?=some (.lst ((fs H W).map fun f=>.int (A4 H W f)))→Q (.nx,AU ns l1 l2 k b H W (some (.loc l7)) (some (.loc l)) c9 c10 c11 c12 c13 c14 c15 c16 c17 c18) h'):Wp (J9 (AU ns l1 l2 k b H W (some (.loc l7)) c8 c9 c10 c11 c12 c13 c14 c15 c16 c17 c18) h) Q:=by
 unfold J9
 refine Eq.mpr FA ?_
 refine Dv (src:=[(l7,(fs H W).map (Gu H W))]) (xs:=fs H W) (φ:=Gu H W) (fun _=>true) (fun f=>.int (A4 H W f)) (fun f=>[some (.int (A4 H W f)),some (bD H W f)]) ?_ (Ck (by have:=IJ hz;omega)) (fun x _=>rfl) (fun x _ h' s'=>(.ok:Pu (.ok true h') h' true)) (fun f _ _ h' s'=>?_) fun l3 h3 s3 e3=>?_
 ·simp [AU,Dc e7]
  exact ⟨.refl _,fun h' s'=>CW (s' _ _ e7)⟩
 ·simp [Pu,Sm.refl]
 ·rw [B7] at e3
  exact q l3 h3 s3 e3
theorem Ml {l8:Nat} (e8:h[l8]?=some (.lst ((fs H W).map fun f=>.int (A4 H W f)))) (q:Q (.nx,AU ns l1 l2 k b H W c7 (some (.loc l8)) (some (.int (CC H W))) c10 c11 c12 c13 c14 c15 c16 c17 c18) h):Wp (Ka (AU ns l1 l2 k b H W c7 (some (.loc l8)) c9 c10 c11 c12 c13 c14 c15 c16 c17 c18) h) Q:=by
 unfold Ka
 simp [AU]
 refine Au (OZ e8) ?_
 exact q
theorem Ez (hh:1≤H∧H≤8) (hw:1≤W∧W≤8) (hz:(H - 1)*(W - 1)≤9) (q:∀h',Sm h h'→Q (.nx,AU ns l1 l2 k b H W c7 c8 (some (.int (CC H W))) c10 c11 c12 c13 c14 c15 c16 c17 c18) h'):Wp (Kb (AU ns l1 l2 k b H W c7 c8 (some (.int (CC H W))) c10 c11 c12 c13 c14 c15 c16 c17 c18) h) Q:=by
 unfold Kb
 obtain ⟨m,em,hm⟩:=Ts (H:=H) (W:=W) hh.2 hw.2
 obtain ⟨x,_,rx,_⟩:=TN (n:=m) (by omega)
 simp [AU]
 refine (Zbw hh hw hz).wp fun h1 s1=>?_
 rw [em]
 refine Au (rx h1) ?_
 simp
 refine Au (rx h1) ?_
 simp
 have:=q h1 s1
 rw [em] at this
 exact this
theorem st6 {l7 l8:Nat} (en:CC H W=(n:Int)) (hn:n≤64) (hz:(H - 1)*(W - 1)≤9) (e7:h[l7]?=some (.lst ((fs H W).map (Gu H W)))) (e8:h[l8]?=some (.lst ((fs H W).map fun f=>.int (A4 H W f)))) (q:∀lA lB l h',Sm h h'→h'[lA]?=some (.lst (Ki H W))→h'[lB]?=some (.lst (IP H W n))→h'[l]?=some (.lst [.loc lA,.loc lB])→Q (.nx,AU ns l1 l2 k b H W (some (.loc l7)) (some (.loc l8)) (some (.int (CC H W))) (some (.loc l)) c11 c12 c13 c14 c15 c16 c17 c18) h'):
 Wp (Kc (AU ns l1 l2 k b H W (some (.loc l7)) (some (.loc l8)) (some (.int (CC H W))) c10 c11 c12 c13 c14 c15 c16 c17 c18) h) Q:=by
 unfold Kc
 refine Eq.mpr FA ?_
 simp only [QK,E2]
 refine Dv (src:=[(l7,(fs H W).map (Gu H W))]) (xs:=fs H W) (φ:=Gu H W) (Ma H W) (bD H W) (fun f=>[some (.int (A4 H W f)),some (bD H W f),some (.int (CC H W))]) ?_ (Ck (by have:=IJ hz;omega)) (fun x _=>rfl) (fun f _ h' s'=>?_) (fun f _ _ h' s'=>?_) fun lA h3 s3 e3=>?_
 ·simp [AU,Dc e7]
  exact ⟨.refl _,fun h' s'=>CW (s' _ _ e7)⟩
 ·simp only [Pu,Ni,Ia,Ek,DS]
  refine Au Tt ?_
  rw [Bh]
  exact ⟨rfl,.refl _⟩
 ·simp [Pu,Sm.refl]
 ·refine Dv (src:=[]) (xs:=List.range (n+1)) (φ:=fun k=>.int ((k:Nat):Int)) (fun _=>true) (Mb H W) (fun k=>[some (.int ((k:Nat):Int)),some (.loc l8)]) ?_ (Ck (by simp;omega)) (fun x _=>rfl) (fun x _ h' s'=>(.ok:Pu (.ok true h') h' true)) (fun k _ _ h' s'=>?_) fun lB h4 s4 e4=>?_
  ·simp only [AU,QM,E2,E1,Ia,GJ,Ek,DS,Nh]
   rw [en]
   refine Au (show AA (.int ((n:Nat):Int)) (.int 1) h3=.ok (.int ((n+1:Nat):Int)) h3 from rfl) ?_
   rw [Bh]
   refine Au (Gd (by omega)) ?_
   exact ⟨rfl,.refl _,fun _ _=>DR⟩
  ·have el:=s' _ _ (s3 _ _ e8)
   simp [Pu,FC el]
   refine Au (Lw (vs:=lV H W) (w:=.int ((k:Nat):Int)) el ?_ rfl) ?_
   ·unfold lV
    rw [DL]
    exact GK fun f _=>rfl
   ·exact ⟨rfl,.refl _⟩
  ·rw [B7] at e4
   simp only [E1]
   exact A7 (by simp) fun l h5 s5 e5 _ _=>q lA lB l h5 ((s3.trans s4).trans s5) (s5 _ _ (s4 _ _ e3)) (s5 _ _ e4) e5
inductive ZI (ns:List Int) (l1 l2 k b H W n lg l10 lA lB:Nat) (c7 c8 c9 c14 c15 c16 c17 c18:Option D) (h:HD) (xs:List (Str×Nat)) (ρ:Ah) (h':HD):Prop where
 |mk (c11 c12 c13:Option D) (er:ρ=AU ns l1 l2 k b H W c7 c8 c9 (some (.loc l10)) c11 c12 c13 c14 c15 c16 c17 c18) (s:Sm h h') (eg:h'[lg]?=some (.lst [.glo "worst_forms",.glo "form_counts"])) (hx:∀p∈xs,p=((("worst_forms":String):Str),lA)∨p=((("form_counts":String):Str),lB)):ZI ns l1 l2 k b H W n lg l10 lA lB c7 c8 c9 c14 c15 c16 c17 c18 h xs ρ h'
theorem CM {L:List D} {F:List D→HD→Out D} {nm:Str} {kl:Nat} (hT:([("worst_left",B0),("worst_forms",B2),("form_counts",BS)]:List (Str×(List D→HD→Out D))).lookup nm=some F) (hF:∀(h:HD) (Q:D→HD→Prop),(∀l h',Sm h h'→h'[l]?=some (.lst L)→h.length≤l→Q (.loc l) h')→Wp (F [.int (H:Nat),.int (W:Nat)] h) Q) (rp:O6 L) (ek:h[kl]?=some (.lst L))
 (q:∀c13 h',Sm h h'→Q (.nx,AU ns l1 l2 k b H W c7 c8 c9 c10 (some (.glo nm)) (some (.loc kl)) c13 c14 c15 c16 c17 c18) h'):Wp ((Aj Me (Aj Mf Mg)) (AU ns l1 l2 k b H W c7 c8 c9 c10 (some (.glo nm)) (some (.loc kl)) c13 c14 c15 c16 c17 c18) h) Q:=by
 obtain ⟨hl,x,rx⟩:=rp
 refine Eq.mpr Bd ?_
 unfold Me
 refine Eq.mpr FA ?_
 rw [Zb3 (n:=nm) (F:=F) rfl hT]
 simp only [AU,E2,E1,Ek,DS]
 refine hF h _ fun l h1 s1 e1 hl1=>?_
 refine Eq.mpr Ao ?_
 refine Eq.mpr Bd ?_
 unfold Mf
 simp [-Ao]
 refine Au (rx _ _ e1) ?_
 simp [-Ao]
 refine Au (rx _ _ (s1 _ _ ek)) ?_
 simp [-Ao]
 refine Eq.mpr Ao ?_
 unfold Mg
 simp [FC e1]
 refine Au (Nk e1 (by unfold sizeLine;omega)) ?_
 rw [Bh]
 exact q _ _ (Sm.put s1 hl1)
theorem FO {l10 lA lB:Nat} (hh:1≤H∧H≤8) (hw:1≤W∧W≤8) (hz:(H - 1)*(W - 1)≤9) (en:CC H W=(n:Int)) (hn:n≤64) (eA:h[lA]?=some (.lst (Ki H W))) (eB:h[lB]?=some (.lst (IP H W n))) (e10:h[l10]?=some (.lst [.loc lA,.loc lB])) (q:∀c11 c12 c13 h',Sm h h'→Q (.nx,AU ns l1 l2 k b H W c7 c8 c9 (some (.loc l10)) c11 c12 c13 c14 c15 c16 c17 c18) h'):
 Wp (Kg (AU ns l1 l2 k b H W c7 c8 c9 (some (.loc l10)) c11 c12 c13 c14 c15 c16 c17 c18) h) Q:=by
 unfold Kg
 refine DT (src:=[(h.length,[.glo "worst_forms",.glo "form_counts"])]++[(l10,[.loc lA,.loc lB])]) (xs:=[((("worst_forms":String):Str),lA),((("form_counts":String):Str),lB)]) (fun p:Str×Nat=>.tup [.glo p.1,.loc p.2]) (ZI ns l1 l2 k b H W n h.length l10 lA lB c7 c8 c9 c14 c15 c16 c17 c18 h) ?_ (fun ys ρ h' z=>?_) ?_ ?_
 ·simp only [AU,Rl,E2,QK,E1,Ek,DS,Nh]
  refine A7 (by simp) fun lg h1 s1 e1 el _=>?_
  subst el
  refine Au (show FD [.loc h.length,.loc l10] h1=.ok ([D.tup [.glo "worst_forms",.loc lA],.tup [.glo "form_counts",.loc lB]],[(h.length,[.glo "worst_forms",.glo "form_counts"])]++[(l10,[.loc lA,.loc lB])]) h1 from ?_) ?_
  ·simp only [FD,Lj e1,Lj (s1 _ _ e10)]
   rfl
  ·rw [Bh]
   exact ⟨rfl,_,_,_,rfl,s1,e1,fun p hp=>by simpa using hp⟩
 ·obtain ⟨_,_,_,_,s,eg,_⟩:=z
  intro p hp
  rcases qb2.mp hp with hp |hp
  ·obtain rfl:=qaD.mp hp
   exact eg
  ·obtain rfl:=qaD.mp hp
   exact s _ _ e10
 ·rintro ⟨nm,kl⟩ xs ρ h1 ⟨y11,y12,y13,rfl,s1,eg,hx⟩
  refine ⟨_,rfl,?_⟩
  have hr:∀p∈xs,p=((("worst_forms":String):Str),lA)∨p=((("form_counts":String):Str),lB):=fun p hp=>hx p (AS _ hp)
  rcases hx _ AO with e |e
  ·cases e
   exact CM (F:=B2) (nm:="worst_forms") rfl (fun h Q q=>ZbB hh hw hz q) (Zb5 hh.2 hw.2 hz) (s1 _ _ eA) fun z13 h2 s2=>⟨_,_,_,rfl,s1.trans s2,s2 _ _ eg,hr⟩
  ·cases e
   exact CM (F:=BS) (nm:="form_counts") rfl (fun h Q q=>Tu hh hw hz en hn q) (TU hn hz) (s1 _ _ eB) fun z13 h2 s2=>⟨_,_,_,rfl,s1.trans s2,s2 _ _ eg,hr⟩
 ·rintro ρ h1 ⟨y11,y12,y13,rfl,s1,eg,hx⟩
  exact q _ _ _ h1 s1
theorem st8 {l10 lA lB:Nat} (hh:1≤H∧H≤8) (hw:1≤W∧W≤8) (hz:(H - 1)*(W - 1)≤9) (en:CC H W=(n:Int)) (hn:n≤64) (eB:h[lB]?=some (.lst (IP H W n))) (e10:h[l10]?=some (.lst [.loc lA,.loc lB])) (q:∀h',Sm h h'→Q (.nx,AU ns l1 l2 k b H W c7 c8 c9 (some (.loc l10)) c11 c12 c13 c14 c15 c16 c17 c18) h'):
 Wp (Kd (AU ns l1 l2 k b H W c7 c8 c9 (some (.loc l10)) c11 c12 c13 c14 c15 c16 c17 c18) h) Q:=by
 unfold Kd
 obtain ⟨_,x,rx⟩:=TU (H:=H) (W:=W) hn hz
 simp [AU]
 refine Tu hh hw hz en hn fun l h1 s1 e1 _=>?_
 refine Au (rx _ _ e1) ?_
 simp
 rw [show (1:Int)=((1:Nat):Int) from rfl]
 refine Au (B8 (s1 _ _ e10) (k:=1) rfl) ?_
 simp
 refine Au (rx _ _ (s1 _ _ eB)) ?_
 simp
 exact q h1 s1
theorem st9 (fx:Fx b l1 l2 h) (q:∀U V h',(1≤U∧U≤8)→(1≤V∧V≤8)→Fx b l1 l2 h'→Q (.nx,AU ns l1 l2 k b H W c7 c8 c9 c10 c11 c12 c13 (some (.int ((U:Nat):Int))) (some (.int ((V:Nat):Int))) c16 c17 c18) h'):Wp (Ke (AU ns l1 l2 k b H W c7 c8 c9 c10 c11 c12 c13 c14 c15 c16 c17 c18) h) Q:=by
 unfold Ke
 simp [AU]
 refine fx.take (by decide) (by decide) fun d h1 ld fx1 _=>?_
 simp
 refine fx1.take (by decide) (by decide) fun d' h2 ld' fx2 _=>?_
 simp
 have:=q (2+d) (2+d') h2 (by omega) (by omega) fx2
 rwa [show ((2+d:Nat):Int)=2+(d:Int) by omega,show ((2+d':Nat):Int)=2+(d':Int) by omega] at this
theorem Zb6 (fx:Fx b l1 l2 h) (q:∀y h',Bad h' 1 8 y→Fx b l1 l2 h'→Q (.nx,AU ns l1 l2 k b H W c7 c8 c9 c10 c11 c12 c13 c14 c15 (some y) c17 c18) h'):Wp (Kf (AU ns l1 l2 k b H W c7 c8 c9 c10 c11 c12 c13 c14 c15 c16 c17 c18) h) Q:=by
 unfold Kf
 simp [AU,Za3]
 refine fx.take (by decide) (by decide) fun e1 h2 le1 fx2 _=>?_
 simp
 refine A7 (by simp) fun l3 h3 s3 e3 el3 _=>?_
 try simp
 refine A7 (by simp;unfold sizeLine;decide) fun l4 h4 s4 e4 el4 _=>?_
 have fx4:=(fx2.sm s3).sm s4
 have n3:l3≠b:=by obtain ⟨x,_⟩:=fx2;have:=x.lt;omega
 have n4:l4≠b:=by obtain ⟨x,_⟩:=fx2.sm s3;have:=x.lt;omega
 refine fx4.take (by decide) (by decide) fun e2 h5 l2' fx5 s5=>?_
 have e4':=s5 _ _ n4 e4
 have e3':=s5 _ _ n3 (s4 _ _ e3)
 obtain ⟨y,ey,by1⟩:∃y,AY (.loc l4) (.int (e2:Nat)) h5=.ok y h5∧Bad h5 1 8 y:=by
  have l2':e2<11:=by omega
  match e2,l2' with
  |0,_=>exact ⟨_,B8 e4' (k:=0) rfl,J4 (by omega)⟩
  |1,_=>exact ⟨_,B8 e4' (k:=1) rfl,J4 (by omega)⟩
  |2,_=>exact ⟨_,B8 e4' (k:=2) rfl,J4 (by omega)⟩
  |3,_=>exact ⟨_,B8 e4' (k:=3) rfl,TJ⟩
  |4,_=>exact ⟨_,B8 e4' (k:=4) rfl,ZbM⟩
  |5,_=>exact ⟨_,B8 e4' (k:=5) rfl,ZbN⟩
  |6,_=>exact ⟨_,B8 e4' (k:=6) rfl,ZbO⟩
  |7,_=>exact ⟨_,B8 e4' (k:=7) rfl,J4 (by omega)⟩
  |8,_=>exact ⟨_,B8 e4' (k:=8) rfl,J4 (by omega)⟩
  |9,_=>exact ⟨_,B8 e4' (k:=9) rfl,ZbL e3'⟩
  |10,_=>exact ⟨_,B8 e4' (k:=10) rfl,TJ⟩
 refine Au ey ?_
 rw [Bh]
 exact q y h5 by1 fx5
end
inductive Mm (U V:Nat) (nm:Str):Prop where
 |mk (F:List D→HD→Out D) (hT:([("worst_left",B0),("worst_forms",B2),("form_counts",BS)]:List (Str×(List D→HD→Out D))).lookup nm=some F) (er:∀h x y,BadP h x y→Er (F [x,y] h) h "NoNumber") (et:∀(h:HD) (n:Nat),(U - 1)*(V - 1)=n→9<n→Et (F [.int (U:Nat),.int (V:Nat)] h) h "TooMany" [("many",.int (n:Nat)),("most",.int 9)]):Mm U V nm
def Zb7:List D:=[.glo "worst_left",.glo "worst_forms",.glo "form_counts"]
def TV (U V:Nat) (d:D):Prop:=∃nm,d=.glo nm∧Mm U V nm
theorem Zb8 {U V:Nat} (hu:1≤U∧U≤8) (hv:1≤V∧V≤8):∀d∈Zb7,TV U V d:=
 all_cons ⟨_,rfl,⟨B0,rfl,fun _ _ _ p=>ZbT p,fun _ _ e z=>ZbW hu hv e z⟩⟩ <| all_cons ⟨_,rfl,⟨B2,rfl,fun _ _ _ p=>ZbU p,fun _ _ e z=>ZbX hu hv e z⟩⟩ <| all_cons ⟨_,rfl,⟨BS,rfl,fun _ _ _ p=>ZbV p,fun _ _ e z=>ZbY hu hv e z⟩⟩ OP
theorem Zb9 {a c:Int} {n:Nat} {ρ:Ah} {h:HD} {Q:D→HD→Prop} (ea:Ab 14 ρ h=.ok (.int a) h) (eb:Ab 15 ρ h=.ok (.int c) h) (ha:1≤a∧a<100) (en:(a - 1)*(c - 1)=(n:Nat)) (q:Q (.bl (decide (9<n))) h):Wp (gE ρ h) Q:=by
 unfold gE
 simp [ea,eb]
 rw [Ge (by omega) (by omega)]
 simp
 rw [en]
 by_cases z:9<n
 ·have z':((n:Nat):Int)>9:=by omega
  simpa [z,z'] using q
 ·have z':¬((n:Nat):Int)>9:=by omega
  simpa [z,z'] using q
theorem TX {it:MI} {sg:MG} {body:MS} {Q:Fl×Ah→HD→Prop} {ρ:Ah} {h:HD} (I:List D→Ah→HD→Prop) (hi:Wp (it ρ h) fun x h'=>∃l ds,x=(ds,[(l,ds)])∧h'[l]?=some (.lst ds)∧I ds ρ h')
 (step:∀d ds ρ h,I (d::ds) ρ h→∃ρ1,sg d ρ=some ρ1∧Wp (body ρ1 h) (fun y h'=>Sm h h'∧El (I ds) Q y h')) (done:∀ρ h,I [] ρ h→Q (.nx,ρ) h):Wp (Bw it sg body ρ h) Q:=by
 unfold Bw
 rw [Az]
 refine Wp.mono hi fun x h1 z=>?_
 obtain ⟨l,ds,rfl,el,i⟩:=z
 have:=K6 (src:=[(l,ds)]) (items:=ds) (sg:=sg) (body:=body) (Q:=Q) (fun d:D=>d) (fun xs ρ h=>h[l]?=some (.lst ds)∧I xs ρ h) (fun xs ρ h z=>CW z.1) (fun d xs ρ h z=>by
  obtain ⟨ρ1,e,w⟩:=step d xs ρ h z.2
  refine ⟨ρ1,e,Wp.mono w fun y h' zz=>?_⟩
  obtain ⟨s,kk⟩:=zz
  obtain ⟨fl,ρ2⟩:=y
  cases fl with
  |nx=>exact ⟨s _ _ z.1,kk⟩
  |ct=>exact ⟨s _ _ z.1,kk⟩
  |bk=>exact kk
  |rt d=>exact kk) (fun ρ h z=>done ρ h z.2) ds ρ h1 ⟨el,i⟩
 rwa [List.map_id''] at this
 exact fun _=>rfl
section
variable {ns:List Int} {l1 l2 k b H W U V:Nat} {h:HD} {y:D} {c7 c8 c9 c10 c11 c12 c13 c14 c15 c16 c17 c18:Option D} {Q:Fl×Ah→HD→Prop}
theorem Zca {nm:Str} (co:Mm U V nm) (hu:1≤U∧U≤8) (hv:1≤V∧V≤8) (ht:TabAt h) (q:∀h',Sm h h'→Q (.nx,AU ns l1 l2 k b H W c7 c8 c9 c10 (some (.glo nm)) c12 c13 (some (.int ((U:Nat):Int))) (some (.int ((V:Nat):Int))) (some y) c17 c18) h'):Wp (Mc (AU ns l1 l2 k b H W c7 c8 c9 c10 (some (.glo nm)) c12 c13 (some (.int ((U:Nat):Int))) (some (.int ((V:Nat):Int))) (some y) c17 c18) h) Q:=by
 obtain ⟨F,hT,er,et⟩:=co
 obtain ⟨n,en⟩:∃n,(U - 1)*(V - 1)=n:=⟨_,rfl⟩
 have h49:(U - 1)*(V - 1)≤7*7:=Ko (by omega) (by omega)
 unfold Mc
 refine Eq.mpr Wt ?_
 refine Eq.mpr Ni ?_
 refine Zb9 (a:=(U:Nat)) (c:=(V:Nat)) (n:=n) rfl rfl (by omega) (by rw [L9 hu.1 hv.1,en]) ?_
 by_cases hz:9<n
 ·rw [decide_eq_true hz]
  obtain ⟨x,t,rx,lx,ex,sx,ett⟩:=TN (n:=n) (by omega)
  simp [-Ao,AU]
  refine RW (ds:=[.glo nm,.int ((U:Nat):Int),.int ((V:Nat):Int)]) ht rfl (Et.we (h:=h) (n:="TooMany") (fs:=[("many",.int ((n:Nat):Int)),("most",.int 9)]) ?_ fun h3 s3=>⟨by decide +kernel,[("many",((n:Nat):Int)),("most",9)],rfl,(Za8 (x:=x) (y:=(("9":String):Str)) (t:=t) rfl rfl rx (fun _=>rp9) lx (by decide) ex).wp fun h4 s4=>?_⟩)
  ·unfold Et
   simp only [BM,FT]
   rw [TL (F:=F) hT]
   simp
   exact et h n en hz
  ·refine ZbZ (a:=(U:Nat)) (c:=(V:Nat)) (n:=n) rfl rfl (by omega) ?_ sx lx ?_
   ·rw [L9 hu.1 hv.1,en]
   ·rw [ett]
    simp
    exact q h4 (s3.trans s4)
 ·rw [decide_eq_false hz]
  simp
  exact q h (.refl _)
def PrP (h:HD) (d:D):Prop:=∃x z,d=.tup [x,z]∧BadP h x z
inductive TY (ns:List Int) (l1 l2 k b H W U V:Nat) (y:D) (nm:Str) (c7 c8 c9 c10 c12 c13:Option D) (h:HD) (xs:List D) (ρ:Ah) (h':HD):Prop where
 |mk (c17 c18:Option D) (er:ρ=AU ns l1 l2 k b H W c7 c8 c9 c10 (some (.glo nm)) c12 c13 (some (.int ((U:Nat):Int))) (some (.int ((V:Nat):Int))) (some y) c17 c18) (s:Sm h h') (hp:∀d∈xs,PrP h d):TY ns l1 l2 k b H W U V y nm c7 c8 c9 c10 c12 c13 h xs ρ h'
theorem Zcb {nm:Str} (co:Mm U V nm) (hw:1≤W∧W≤8) (hy:Bad h 1 8 y) (ht:TabAt h) (q:∀c17 c18 h',Sm h h'→Q (.nx,AU ns l1 l2 k b H W c7 c8 c9 c10 (some (.glo nm)) c12 c13 (some (.int ((U:Nat):Int))) (some (.int ((V:Nat):Int))) (some y) c17 c18) h'):Wp (Md (AU ns l1 l2 k b H W c7 c8 c9 c10 (some (.glo nm)) c12 c13 (some (.int ((U:Nat):Int))) (some (.int ((V:Nat):Int))) (some y) c17 c18) h) Q:=by
 obtain ⟨F,hT,er,et⟩:=co
 unfold Md
 refine TX (TY ns l1 l2 k b H W U V y nm c7 c8 c9 c10 c12 c13 h) ?_ ?_ ?_
 ·simp [AU]
  refine A7 (by simp) fun l h1 s1 e1 _ _=>?_
  rw [Dc e1]
  refine ⟨l,_,rfl,e1,_,_,rfl,s1,?_⟩
  exact all_cons ⟨_,_,rfl,.inl hy⟩ <| all_cons ⟨_,_,rfl,.inr ⟨⟨8,rfl,by decide,by decide⟩,hy⟩⟩ <| all_cons ⟨_,_,rfl,.inl hy⟩ <| all_cons ⟨_,_,rfl,.inl hy⟩ OP
 ·rintro d xs ρ h1 ⟨y17,y18,rfl,s1,hp⟩
  obtain ⟨x,z,rfl,bp⟩:=hp d AO
  refine ⟨_,rfl,?_⟩
  simp [AU]
  refine ZbR (ds:=[.glo nm,x,z]) (ht.sm s1) rfl ?_ fun h2 s2=>?_
  ·unfold Er
   simp only [BM,FT]
   rw [TL (F:=F) hT]
   simp
   exact er h1 x z (bp.sm s1)
  ·simp [El]
   exact ⟨s2,_,_,rfl,s1.trans s2,fun d hd=>hp d (AS _ hd)⟩
 ·rintro ρ h1 ⟨y17,y18,rfl,s1,hp⟩
  exact q _ _ h1 s1
inductive TZ (ns:List Int) (l1 l2 k b H W U V:Nat) (y:D) (c7 c8 c9 c10 c12 c13:Option D) (h:HD) (xs:List D) (ρ:Ah) (h':HD):Prop where
 |mk (c11 c17 c18:Option D) (er:ρ=AU ns l1 l2 k b H W c7 c8 c9 c10 c11 c12 c13 (some (.int ((U:Nat):Int))) (some (.int ((V:Nat):Int))) (some y) c17 c18) (s:Sm h h') (hp:∀d∈xs,TV U V d):TZ ns l1 l2 k b H W U V y c7 c8 c9 c10 c12 c13 h xs ρ h'
theorem Zcc (hu:1≤U∧U≤8) (hv:1≤V∧V≤8) (hw:1≤W∧W≤8) (hy:Bad h 1 8 y) (ht:TabAt h) (q:∀c11 c17 c18 h',Sm h h'→Q (.nx,AU ns l1 l2 k b H W c7 c8 c9 c10 c11 c12 c13 (some (.int ((U:Nat):Int))) (some (.int ((V:Nat):Int))) (some y) c17 c18) h'):Wp (Kh (AU ns l1 l2 k b H W c7 c8 c9 c10 c11 c12 c13 (some (.int ((U:Nat):Int))) (some (.int ((V:Nat):Int))) (some y) c17 c18) h) Q:=by
 unfold Kh
 refine TX (TZ ns l1 l2 k b H W U V y c7 c8 c9 c10 c12 c13 h) ?_ ?_ ?_
 ·simp [AU]
  refine A7 (by simp) fun l h1 s1 e1 _ _=>?_
  rw [Dc e1]
  exact ⟨l,_,rfl,e1,_,_,_,rfl,s1,Zb8 hu hv⟩
 ·rintro d xs ρ h1 ⟨y11,y17,y18,rfl,s1,hp⟩
  obtain ⟨nm,rfl,co⟩:=hp d AO
  refine ⟨_,rfl,?_⟩
  refine Eq.mpr Bd ?_
  refine Zca co hu hv (ht.sm s1) fun h2 s2=>?_
  refine Eq.mpr Ao ?_
  refine Zcb co hw (hy.sm (s1.trans s2)) (ht.sm (s1.trans s2)) fun z17 z18 h3 s3=>?_
  exact ⟨s2.trans s3,_,_,_,rfl,(s1.trans s2).trans s3,fun d hd=>hp d (AS _ hd)⟩
 ·rintro ρ h1 ⟨y11,y17,y18,rfl,s1,hp⟩
  exact q _ _ _ h1 s1
end
section
variable {ns:List Int} {l1 l2 k:Nat} {h:HD} {c4 c5 c6 c7 c8 c9 c10 c11 c12 c13 c14 c15 c16 c17 c18:Option D} {Q:Fl×Ah→HD→Prop}
theorem Zcd (hb:∀i∈ns,Builtin.Int.intBits i≤2^20) (hk:k≤1000) (ht:TabAt h) (hs:h[l1]?=some (.lst szD)) (ho:h[l2]?=some (.lst ((List.range 256).map Dj)))
 (q:∀d4 d5 d6 d7 d8 d9 d10 d11 d12 d13 d14 d15 d16 d17 d18 h',TabAt h'→h'[l1]?=some (.lst szD)→h'[l2]?=some (.lst ((List.range 256).map Dj))→Q (.nx,[some (.scr ns),some (.loc l1),some (.loc l2),some (.int (k:Nat)),d4,d5,d6,d7,d8,d9,d10,d11,d12,d13,d14,d15,d16,d17,d18]) h'):
 Wp ((Aj J6 (Aj J7 (Aj J8 (Aj J9 (Aj Ka (Aj Kb (Aj Kc (Aj Kg (Aj Kd (Aj Ke (Aj Kf (Kh)))))))))))) [some (.scr ns),some (.loc l1),some (.loc l2),some (.int (k:Nat)),c4,c5,c6,c7,c8,c9,c10,c11,c12,c13,c14,c15,c16,c17,c18] h) Q:=by
 rw [Bd]
 refine st0 hb hk ht hs ho fun b h1 f1=>?_
 rw [Ao,Bd]
 refine O7 f1 fun H W h2 hh hw hz f2=>?_
 rw [Ao,Bd]
 refine Dk hh hw hz f2 fun l7 h3 s3 e7=>?_
 rw [Ao,Bd]
 refine Mk hz e7 fun l8 h4 s4 e8=>?_
 rw [Ao,Bd]
 refine Ml e8 ?_
 rw [Ao,Bd]
 refine Ez hh hw hz fun h5 s5=>?_
 rw [Ao,Bd]
 obtain ⟨n,en,hn⟩:=Ts (H:=H) (W:=W) hh.2 hw.2
 refine st6 en hn hz (s5 _ _ (s4 _ _ e7)) (s5 _ _ e8) fun lA lB l10 h6 s6 eA eB e10=>?_
 rw [Ao,Bd]
 refine FO hh hw hz en hn eA eB e10 fun z11 z12 z13 h7 s7=>?_
 rw [Ao,Bd]
 refine st8 hh hw hz en hn (s7 _ _ eB) (s7 _ _ e10) fun h8 s8=>?_
 rw [Ao,Bd]
 have f8:=((((((f2.sm s3).sm s4).sm s5).sm s6).sm s7).sm s8)
 refine st9 f8 fun U V h9 hu hv f9=>?_
 rw [Ao,Bd]
 refine Zb6 f9 fun y h10 by1 f10=>?_
 rw [Ao]
 have f10':=f10
 obtain ⟨_,t10,_,_,_,_,_⟩:=f10'
 refine Zcc hu hv hw by1 t10 fun w11 w17 w18 h11 s11=>?_
 have f11:=f10.sm s11
 obtain ⟨_,t11,g1,g2,_,_,_⟩:=f11
 exact q _ _ _ _ _ _ _ _ _ _ _ _ _ _ _ h11 t11 g1 g2
end
inductive IL (ns:List Int) (l1 l2:Nat) (xs:List Nat) (ρ:Ah) (h':HD):Prop where
 |mk (d3 d4 d5 d6 d7 d8 d9 d10 d11 d12 d13 d14 d15 d16 d17 d18:Option D) (er:ρ=[some (.scr ns),some (.loc l1),some (.loc l2),d3,d4,d5,d6,d7,d8,d9,d10,d11,d12,d13,d14,d15,d16,d17,d18]) (ht:TabAt h') (hs:h'[l1]?=some (.lst szD)) (ho:h'[l2]?=some (.lst ((List.range 256).map Dj))) (hk:∀k∈xs,k≤1000):IL ns l1 l2 xs ρ h'
theorem Zce:LZ Es Ew B1 DI Eu B0 B2 BS CL=Aj Mh (Aj Mi (Aj Mj (Aj (Bw (CY (Aa (Ag (Bq Jo) (Aa (mC (.int 1)) (Aa (Ag (Bq F6) (Aa (Ag (An Bm) (Aa (Ab 0) (Ac))) (Aa (mC (.int 2)) (Ac)))) (Ac)))) (Ac))) (AG 3) (Aj J6 (Aj J7 (Aj J8 (Aj J9 (Aj Ka (Aj Kb (Aj Kc (Aj Kg (Aj Kd (Aj Ke (Aj Kf (Kh))))))))))))) (AL (mC (.bl true)))))):=by
 unfold Mj Mi Mh Kh Kf Ke Kd Kg Kc Kb Ka J9 J8 J7 J6 Md Mc Mg Mf Me dE gE
 rfl
theorem law_true (ns:List Int) (hl:ns.length≤63) (hb:∀i∈ns,Builtin.Int.intBits i≤2^20):∃h',F_law [.scr ns] [.tab]=.ok (.bl true) h':=by
 have main:Wp (F_law [.scr ns] [.tab]) fun d _=>d=.bl true:=by
  change Wp (Am 19 (LZ Es Ew B1 DI Eu B0 B2 BS CL) [.scr ns] [.tab]) _
  rw [Zce,A9,Bd]
  refine z0 fun l h1 s1 e1=>?_
  rw [Ao,Bd]
  refine z1 e1 fun l1 h2 s2 hs=>?_
  rw [Ao,Bd]
  refine z2 fun l2 h3 s3 ho=>?_
  rw [Ao,Bd]
  have ht:TabAt h3:=s3 _ _ (s2 _ _ (s1 _ _ rfl))
  have hs3:=s3 _ _ hs
  obtain ⟨n,en,hn⟩:∃n:Nat,(if (if (2:Int)<(ns.length:Int) then (2:Int) else (ns.length:Int))>1 then (if (2:Int)<(ns.length:Int) then (2:Int) else (ns.length:Int)) else 1)=(n:Int)∧n≤99:=by
   have h0:0≤(if (if (2:Int)<(ns.length:Int) then (2:Int) else (ns.length:Int))>1 then (if (2:Int)<(ns.length:Int) then (2:Int) else (ns.length:Int)) else 1)∧(if (if (2:Int)<(ns.length:Int) then (2:Int) else (ns.length:Int))>1 then (if (2:Int)<(ns.length:Int) then (2:Int) else (ns.length:Int)) else 1)≤99:=by
    constructor<;>(split<;>split<;>omega)
   generalize (if (if (2:Int)<(ns.length:Int) then (2:Int) else (ns.length:Int))>1 then (if (2:Int)<(ns.length:Int) then (2:Int) else (ns.length:Int)) else 1)=E at h0
   exact ⟨E.toNat,by omega,by omega⟩
  refine DT (src:=[]) (xs:=List.range n) (fun i=>.int ((i:Nat):Int)) (IL ns l1 l2) ?_ (fun ys ρ h' _=>DR) ?_ ?_
  ·simp
   rw [en,Gd (by omega)]
   exact ⟨rfl,_,_,_,_,_,_,_,_,_,_,_,_,_,_,_,_,rfl,ht,hs3,ho,fun k hk=>by have:=qb1.mp hk;omega⟩
  ·rintro x xs ρ h' ⟨d3,d4,d5,d6,d7,d8,d9,d10,d11,d12,d13,d14,d15,d16,d17,d18,rfl,t,hs,ho,hx⟩
   refine ⟨_,rfl,?_⟩
   exact Zcd hb (hx x AO) t hs ho fun _ _ _ _ _ _ _ _ _ _ _ _ _ _ _ h2 t2 g1 g2=>
    ⟨_,_,_,_,_,_,_,_,_,_,_,_,_,_,_,_,rfl,t2,g1,g2,fun k hk=>hx k (AS _ hk)⟩
  ·rintro ρ h' ⟨d3,d4,d5,d6,d7,d8,d9,d10,d11,d12,d13,d14,d15,d16,d17,d18,rfl,t,hs,ho,hx⟩
   simp
 obtain ⟨a,h',e,rfl⟩:=Wp.ex main
 exact ⟨h',e⟩
end LK
set_option maxHeartbeats 0
namespace LK
open PySem PySem.Spec PyProof.Rows L2 LS
def O8:Tp.Want:=⟨[(("is_whole":Str),GT),(("is_line_tuple":Str),GU),(("counts_with_row":Str),GV),(("fewest_lit":Str),GW),(("rising_rows":Str),GX),(("_law_cell":Str),GY),(("_law_mix":Str),GZ),(("_law_take":Str),G0),(("_law_kind":Str),G1),(("_law_ones":Str),G2),(("_law_forms":Str),G3),(("_law_left":Str),G4),(("is_between":Str),G5),(("all_forms":Str),G6),(("_law_box":Str),G7),(("is_light":Str),G8),(("need_number":Str),G9),(("is_row":Str),Ha),(("need_size":Str),Hb),(("is_board":Str),Hc),(("need_small_size":Str),Hd),(("need_board":Str),He),(("row_counts":Str),Hf),(("turned":Str),Hg),(("column_counts":Str),Hh),(("lots_with_counts":Str),Hi),(("left_many":Str),Hj),(("left_of_form":Str),Hk),(("lefts_of_size":Str),Hl),(("worst_left":Str),Hm),(("worst_forms":Str),Hn),(("form_counts":Str),Ho),(("law":Str),s_law),(("_law_said":Str),JQ)],[(("MOST_FREE":Str),(9:Int)),(("MOST_LINES":Str),(8:Int))],["ValueError","all","bool","divmod","enumerate","int","isinstance","len","list","max","min","range","repr","str","sum","tuple","zip"]⟩
theorem all_mk {l:PySem.W.OpenLaw} {w:World} {K:PySem.W.Frag} {h:Heap} {mg:Str→Option Value} {fa c T:Addr} (HS:Tp.Has O8 K c T∧Tp.HasT K D3) (X:K.In h) (G:h.Ns mainGlobals mg) (hfa:mg "law"=some (.ref fa)):
 ∃fd:FuncData,(∀(s:Shared) (v:Value),BindsTo s fd ⟨[v],[]⟩ [("_law_script",v)])∧∀base:Heap,K.In base→base.Ns mainGlobals mg→Im mg base→FnOk l.prog w K mg base (As l.prog w K) 16 fa fd ["_law_script"] (Em K F_law):=by
 obtain ⟨fs,cs,bs,et,tb,hd,no⟩:=HS.1
 obtain ⟨_,_,_,_,_,_,_,_,_,_,_,nC,nS,lT,cT,tmT,swT,kpT⟩:=HS.2
 obtain ⟨_,_,_,_,_,_,_,_,_,_,a0,l0,c0,k0⟩:=fs 0 "is_whole" GT rfl
 obtain ⟨_,_,_,_,_,_,_,_,_,_,a1,l1,c1,k1⟩:=fs 1 "is_line_tuple" GU rfl
 obtain ⟨_,_,_,_,_,_,_,_,_,_,a2,l2,c2,k2⟩:=fs 2 "counts_with_row" GV rfl
 obtain ⟨_,_,_,_,_,_,_,_,_,_,a3,l3,c3,k3⟩:=fs 3 "fewest_lit" GW rfl
 obtain ⟨_,_,_,_,_,_,_,_,_,_,a4,l4,c4,k4⟩:=fs 4 "rising_rows" GX rfl
 obtain ⟨_,_,_,_,_,_,_,_,_,_,a5,l5,c5,k5⟩:=fs 5 "_law_cell" GY rfl
 obtain ⟨_,_,_,_,_,_,_,_,_,_,a6,l6,c6,k6⟩:=fs 6 "_law_mix" GZ rfl
 obtain ⟨_,_,_,_,_,_,_,_,_,_,a7,l7,c7,k7⟩:=fs 7 "_law_take" G0 rfl
 obtain ⟨_,_,_,_,_,_,_,_,_,_,a8,l8,c8,k8⟩:=fs 8 "_law_kind" G1 rfl
 obtain ⟨_,_,_,_,_,_,_,_,_,_,a9,l9,c9,k9⟩:=fs 9 "_law_ones" G2 rfl
 obtain ⟨_,_,_,_,_,_,_,_,_,_,a10,l10,c10,k10⟩:=fs 10 "_law_forms" G3 rfl
 obtain ⟨_,_,_,_,_,_,_,_,_,_,a11,l11,c11,k11⟩:=fs 11 "_law_left" G4 rfl
 obtain ⟨_,_,_,_,_,_,_,_,_,_,a12,l12,c12,k12⟩:=fs 12 "is_between" G5 rfl
 obtain ⟨_,_,_,_,_,_,_,_,_,_,a13,l13,c13,k13⟩:=fs 13 "all_forms" G6 rfl
 obtain ⟨_,_,_,_,_,_,_,_,_,_,a14,l14,c14,k14⟩:=fs 14 "_law_box" G7 rfl
 obtain ⟨_,_,_,_,_,_,_,_,_,_,a15,l15,c15,k15⟩:=fs 15 "is_light" G8 rfl
 obtain ⟨_,_,_,_,_,_,_,_,_,_,a16,l16,c16,k16⟩:=fs 16 "need_number" G9 rfl
 obtain ⟨_,_,_,_,_,_,_,_,_,_,a17,l17,c17,k17⟩:=fs 17 "is_row" Ha rfl
 obtain ⟨_,_,_,_,_,_,_,_,_,_,a18,l18,c18,k18⟩:=fs 18 "need_size" Hb rfl
 obtain ⟨_,_,_,_,_,_,_,_,_,_,a19,l19,c19,k19⟩:=fs 19 "is_board" Hc rfl
 obtain ⟨_,_,_,_,_,_,_,_,_,_,a20,l20,c20,k20⟩:=fs 20 "need_small_size" Hd rfl
 obtain ⟨_,_,_,_,_,_,_,_,_,_,a21,l21,c21,k21⟩:=fs 21 "need_board" He rfl
 obtain ⟨_,_,_,_,_,_,_,_,_,_,a22,l22,c22,k22⟩:=fs 22 "row_counts" Hf rfl
 obtain ⟨_,_,_,_,_,_,_,_,_,_,a23,l23,c23,k23⟩:=fs 23 "turned" Hg rfl
 obtain ⟨_,_,_,_,_,_,_,_,_,_,a24,l24,c24,k24⟩:=fs 24 "column_counts" Hh rfl
 obtain ⟨_,_,_,_,_,_,_,_,_,_,a25,l25,c25,k25⟩:=fs 25 "lots_with_counts" Hi rfl
 obtain ⟨_,_,_,_,_,_,_,_,_,_,a26,l26,c26,k26⟩:=fs 26 "left_many" Hj rfl
 obtain ⟨_,_,_,_,_,_,_,_,_,_,a27,l27,c27,k27⟩:=fs 27 "left_of_form" Hk rfl
 obtain ⟨_,_,_,_,_,_,_,_,_,_,a28,l28,c28,k28⟩:=fs 28 "lefts_of_size" Hl rfl
 obtain ⟨_,_,_,_,_,_,_,_,_,_,a29,l29,c29,k29⟩:=fs 29 "worst_left" Hm rfl
 obtain ⟨_,_,_,_,_,_,_,_,_,_,a30,l30,c30,k30⟩:=fs 30 "worst_forms" Hn rfl
 obtain ⟨_,_,_,_,_,_,_,_,_,_,a31,l31,c31,k31⟩:=fs 31 "form_counts" Ho rfl
 obtain ⟨f_law,_,an_law,_,_,kV_law,dc_law,pm_law,cd_law,ct_law,a_law,l_law,c_law,k_law⟩:=fs 32 "law" s_law rfl
 obtain ⟨_,_,_,_,_,_,_,_,_,_,a33,l33,c33,k33⟩:=fs 33 "_law_said" JQ rfl
 cases Tp.tab_cd tb a_law l_law
 have e:=hfa.symm.trans (PySem.W.mg_of X G a_law)
 cases e
 have S_D:SaidD K mg JQ _ _:=SaidD.of (Dy X G l33 c33 k33 a33 (fun _ _ _ _ _ _ _=>rfl))
 have B:Bl mg:=⟨PySem.W.mg_none_of X G (bs 0 "ValueError" rfl),PySem.W.mg_none_of X G (bs 1 "all" rfl),PySem.W.mg_none_of X G (bs 2 "bool" rfl),PySem.W.mg_none_of X G (bs 3 "divmod" rfl),PySem.W.mg_none_of X G (bs 4 "enumerate" rfl),PySem.W.mg_none_of X G (bs 5 "int" rfl),PySem.W.mg_none_of X G (bs 6 "isinstance" rfl),PySem.W.mg_none_of X G (bs 7 "len" rfl),PySem.W.mg_none_of X G (bs 8 "list" rfl),PySem.W.mg_none_of X G (bs 9 "max" rfl),PySem.W.mg_none_of X G (bs 10 "min" rfl),PySem.W.mg_none_of X G (bs 11 "range" rfl),PySem.W.mg_none_of X G (bs 12 "repr" rfl),PySem.W.mg_none_of X G (bs 13 "str" rfl),PySem.W.mg_none_of X G (bs 14 "sum" rfl),PySem.W.mg_none_of X G (bs 15 "tuple" rfl),PySem.W.mg_none_of X G (bs 16 "zip" rfl)⟩
 obtain ⟨t_MOST_FREE,v_MOST_FREE⟩:=cs 0 "MOST_FREE" 9 rfl
 have M_MOST_FREE:=PySem.W.mg_of X G v_MOST_FREE
 obtain ⟨t_MOST_LINES,v_MOST_LINES⟩:=cs 1 "MOST_LINES" 8 rfl
 have M_MOST_LINES:=PySem.W.mg_of X G v_MOST_LINES
 refine ⟨PySem.W.fnOf "law" "law" (defArgs s_law) (defBody s_law) (defScope s_law) .none kV_law dc_law pm_law an_law (.ref c) ct_law,fun s v=>.of_eq rfl,fun base _ _ hbm=>?_⟩
 have TM:=Zl (P:=l.prog) (w:=w) (mg:=mg) (base:=base) nC nS lT cT tmT swT kpT
 have C0:=Zae (P:=l.prog) (w:=w) (base:=base) B et TM (Dy X G l0 c0 k0 a0 fun _ _ _ _ _ _ _=>rfl)
 have C1:=Zaf (P:=l.prog) (w:=w) (base:=base) B et TM M_MOST_LINES (Dy X G l1 c1 k1 a1 fun _ _ _ _ _ _ _=>rfl)
 have C2:=Zag (P:=l.prog) (w:=w) (base:=base) B et TM (CK X G l2 c2 k2 a2 fun _ _ _ _ _ _ _ _=>rfl)
 have C3:=Zah (P:=l.prog) (w:=w) (base:=base) B et TM (CK X G l3 c3 k3 a3 fun _ _ _ _ _ _ _ _=>rfl)
 have C4:=Zai (P:=l.prog) (w:=w) (base:=base) B et TM (CK X G l4 c4 k4 a4 fun _ _ _ _ _ _ _ _=>rfl)
 have C5:=Zaj (P:=l.prog) (w:=w) (base:=base) B et TM (CK X G l5 c5 k5 a5 fun _ _ _ _ _ _ _ _=>rfl)
 have C6:=Zak (P:=l.prog) (w:=w) (base:=base) B et TM (CK X G l6 c6 k6 a6 fun _ _ _ _ _ _ _ _=>rfl)
 have C7:=Zal (P:=l.prog) (w:=w) (base:=base) B et TM (CK X G l7 c7 k7 a7 fun _ _ _ _ _ _ _ _=>rfl)
 have C8:=Zam (P:=l.prog) (w:=w) (base:=base) B et TM (Dy X G l8 c8 k8 a8 fun _ _ _ _ _ _ _=>rfl)
 have C9:=Zan (P:=l.prog) (w:=w) (base:=base) B et TM (Za X G l9 c9 k9 a9 fun _ _ _ _ _ _=>rfl)
 have C10:=Zao (P:=l.prog) (w:=w) (base:=base) B et TM (CK X G l10 c10 k10 a10 fun _ _ _ _ _ _ _ _=>rfl)
 have C11:=Zap (P:=l.prog) (w:=w) (base:=base) B et TM (CK X G l11 c11 k11 a11 fun _ _ _ _ _ _ _ _=>rfl)
 have C12:=Zaq (P:=l.prog) (w:=w) (base:=base) B et TM C0 (R7 X G l12 c12 k12 a12 fun _ _ _ _ _ _ _ _ _=>rfl)
 have C13:=Zar (P:=l.prog) (w:=w) (base:=base) B et TM C4 (CK X G l13 c13 k13 a13 fun _ _ _ _ _ _ _ _=>rfl)
 have C14:=Zas (P:=l.prog) (w:=w) (base:=base) B et TM C5 C6 (CK X G l14 c14 k14 a14 fun _ _ _ _ _ _ _ _=>rfl)
 have C15:=Zat (P:=l.prog) (w:=w) (base:=base) B et TM C12 (Dy X G l15 c15 k15 a15 fun _ _ _ _ _ _ _=>rfl)
 have C16:=Zau (P:=l.prog) (w:=w) (base:=base) B et TM C12 (R7 X G l16 c16 k16 a16 fun _ _ _ _ _ _ _ _ _=>rfl)
 have C17:=Zav (P:=l.prog) (w:=w) (base:=base) B et TM C1 C15 (Dy X G l17 c17 k17 a17 fun _ _ _ _ _ _ _=>rfl)
 have C18:=Zaw (P:=l.prog) (w:=w) (base:=base) B et TM C16 M_MOST_LINES (CK X G l18 c18 k18 a18 fun _ _ _ _ _ _ _ _=>rfl)
 have C19:=Zax (P:=l.prog) (w:=w) (base:=base) B et TM C1 C17 (Dy X G l19 c19 k19 a19 fun _ _ _ _ _ _ _=>rfl)
 have C20:=Zay (P:=l.prog) (w:=w) (base:=base) B et TM C18 M_MOST_FREE (CK X G l20 c20 k20 a20 fun _ _ _ _ _ _ _ _=>rfl)
 have C21:=Zaz (P:=l.prog) (w:=w) (base:=base) B et TM C19 (Dy X G l21 c21 k21 a21 fun _ _ _ _ _ _ _=>rfl)
 have C22:=ZaA (P:=l.prog) (w:=w) (base:=base) B et TM C21 (Dy X G l22 c22 k22 a22 fun _ _ _ _ _ _ _=>rfl)
 have C23:=ZaB (P:=l.prog) (w:=w) (base:=base) B et TM C21 (Dy X G l23 c23 k23 a23 fun _ _ _ _ _ _ _=>rfl)
 have C24:=ZaC (P:=l.prog) (w:=w) (base:=base) B et TM C23 C22 (Dy X G l24 c24 k24 a24 fun _ _ _ _ _ _ _=>rfl)
 have C25:=ZaD (P:=l.prog) (w:=w) (base:=base) B et TM C24 C2 (Dy X G l25 c25 k25 a25 fun _ _ _ _ _ _ _=>rfl)
 have C26:=ZaE (P:=l.prog) (w:=w) (base:=base) B et TM C25 C3 (Dy X G l26 c26 k26 a26 fun _ _ _ _ _ _ _=>rfl)
 have C27:=ZaF (P:=l.prog) (w:=w) (base:=base) B et TM C23 C26 (Dy X G l27 c27 k27 a27 fun _ _ _ _ _ _ _=>rfl)
 have C28:=ZaG (P:=l.prog) (w:=w) (base:=base) B et TM C20 C13 C27 (CK X G l28 c28 k28 a28 fun _ _ _ _ _ _ _ _=>rfl)
 have C29:=ZaH (P:=l.prog) (w:=w) (base:=base) B et TM C28 (CK X G l29 c29 k29 a29 fun _ _ _ _ _ _ _ _=>rfl)
 have C30:=ZaI (P:=l.prog) (w:=w) (base:=base) B et TM C28 C13 (CK X G l30 c30 k30 a30 fun _ _ _ _ _ _ _ _=>rfl)
 have C31:=ZaJ (P:=l.prog) (w:=w) (base:=base) B et TM C28 (CK X G l31 c31 k31 a31 fun _ _ _ _ _ _ _ _=>rfl)
 exact Y9 l_law c_law sc_law (fun ds h e=>if_neg e) (fun ds h e=>if_pos e) (fun A outer s H E hr=>Zad B et TM C9 C14 C7 C10 C11 C29 C30 C31 C8 a31 a30 a29 tb hd hbm S_D _ A outer s H E hr)
end LK
namespace LK
open PySem PySem.W
abbrev top_q:Program:=view PySem.Challenge.pw_lineswitch_k51_worst_boards [51]
abbrev top_loose:List Str:=(PySem.Challenge.pw_lineswitch_k51_worst_boards.main.scope.names.map (·.1)).filter fun x=>!(x=="law")
set_option maxHeartbeats 0 in
theorem top_left:LeftO PySem.Challenge.pw_lineswitch_k51_worst_boards top_q top_loose (fun _=>true) (Tp.obsT O8) (fun _=>Tp.valT O8 D3) 1000000:=
 Tp.left_of (n:=53) (by kernel_rfl) (fun s=>by kernel_rfl) (fun w=>by kernel_rfl) (fun w os=>by
  rw [PySem.W.Fast.te10156331382660048174,PySem.W.Fast.te11892475500146522536,PySem.W.Fast.te14364793385576792824,PySem.W.Fast.te10110043849684766642,PySem.W.Fast.te6613529449190102663,PySem.W.Fast.te4187177175401517315,PySem.W.Fast.te5923862056798008813]
  kernel_rfl)
end LK
open PySem PySem.W PyProof.Rows
set_option maxRecDepth 100000 in
set_option maxHeartbeats 0 in
theorem PySem.Challenge.cw_lineswitch_k51_worst_boards_holds : PySem.Challenge.rw_lineswitch_k51_worst_boards.Holds := by
 w_on;o_law
 refine PySem.W.holds_open (q:=LK.top_q) (loose:=LK.top_loose) (d:=⟨"law",L2.defArgs LK.s_law,L2.defBody LK.s_law,L2.defScope LK.s_law,_⟩) (kwd:=[]) (Xt:=fun _=>true) (XP:=fun _ _=>True) (N:=1000000) LK.top_left Tp.says_ofT Tp.SaysT.keeps (fun _ _=>trivial) (fun _ _ _ _ _=>trivial) (by rfl) (by kernel_rfl) (by kernel_rfl) (fun s _=>recFacts_nil (by rfl)) (by rfl) (by assumption) (by kernel_rfl) ⟨rfl,rfl,rfl,rfl,rfl,by decide +kernel⟩ ?hw ?hc
 case hw=>w_witness2
 case hc=>exact LS.walk_hdT (n:=63) (k:=16) (x:="_law_script") (F:=LK.F_law) rfl (by decide) rfl ⟨rfl,by decide,by decide,rfl⟩ (fun w K c T mg fa h HS X G hfa=>LK.all_mk HS X G hfa) LK.law_true
